import Derived.Test.YtjdnmblggdobgaaGreatJLRf1LRf3
namespace Go.Proofs.YtjdnmblggdobgaaGreat
open Go.RowKit Go.Sort
def fg (l:List aq) (q:Nat->Bool):Bool:=(List.range l.length).all q
theorem En {l:List aq} {q:Nat->Bool} {k:Nat} (D:¬k<l.length) (h:∀j,j<k->q j=true):fg l q=true:=by rw [fg,List.all_eq_true];exact fun j A=>h j (by have:=List.mem_range.1 A;omega)
theorem Eo {l:List aq} {q:Nat->Bool} {k:Nat} (A:k<l.length) (h:q k=false):fg l q=false:=by rw [fg,List.all_eq_false];exact ⟨k,List.mem_range.2 A,by simp [h]⟩
theorem Ep {q:Nat->Bool} {k:Nat} (h:∀j,j<k->q j=true) (D:q k=true):∀j,j<k+1->q j=true:=fun j E=>by
 by_cases A:j<k
 ·exact h j A
 have:j=k:=by omega
 subst this;exact D
theorem zox {s:ByteArray} (h:¬s=⟨#[]⟩):s.toList.isEmpty=false:=by
 cases hq:s.toList with
 | nil=>exact absurd (Eh hq) h
 | cons _ _=>rfl
theorem zoy (l:List ByteArray):dh l=true↔l.Pairwise (· ≠ ·):=by
 induction l using Ed with
 | h0=>simp [dh]
 | h1 l x ih=>
   rw [za4,Bool.and_eq_true,ih,List.pairwise_append,List.all_eq_true];constructor
   ·rintro ⟨h1,A⟩;refine ⟨h1,List.pairwise_singleton _ _,fun a G b D=>?_⟩;rw [List.mem_singleton]at D;subst D;have:=A a G;intro e;simp [e]at this
   rintro ⟨h1,_,A⟩;refine ⟨h1,fun y I=>?_⟩;have E:=A y I x (by simp);have F:¬x=y:=fun e=>E e.symm;simp [F]
theorem zoz {α:Type} (f:α->ByteArray) (xs:List α) (h:∀(i j:Nat) (hi:i<xs.length) (D:j<xs.length),i<j->f xs[i]≠f xs[j]):dh (xs.map f)=true:=by rw [zoy,List.pairwise_iff_getElem];intro i j hi D A;have:=h i j (by simpa using hi) (by simpa using D) A;simpa using this
theorem zo0 {α:Type} (f:α->ByteArray) (xs:List α) (i j:Nat) (hi:i<xs.length) (D:j<xs.length) (A:i<j) (h:f xs[i]=f xs[j]):dh (xs.map f)=false:=by rw [Bool.eq_false_iff,ne_eq,zoy,List.pairwise_iff_getElem];intro E;exact E i j (by simpa using hi) (by simpa using D) A (by simpa using h)
def q1 (l:List aq) (i:Nat):Bool:=decide (cb l (cd l i).name=i)
def q2 (l:List aq):Bool:=decide (0<=cb l fw)&&decide (0<=cb l gn)
def q3 (l:List aq) (i:Nat):Bool:=upperB (cd l i)
def q4 (l:List aq) (i:Nat):Bool:=decide ((cd l i).bv=(⟨#[]⟩:ByteArray))||decide (0<=cb l (cd l i).bv)
def q5 (l:List aq) (i:Nat):Bool:=decide (0<(ph l i).length)
def q6 (l:List aq):Bool:=decide ((cd l (cb l gn).toNat).bv=fw)&&(match mq l (cb l gn).toNat with | []=>false | f::_=>decide (f.kind.kind=1))
def nr (l:List aq) (m:d9):Bool:=m.args.all (ib l)&&ib l m.ret&&m.hands.all (fun h=>decide (0<=cb l h.de))
def q7 (l:List aq) (i:Nat):Bool:=(cd l i).fields.all (fun f=>ib l f.kind)&&(cd l i).be.all (nr l)
def q8 (l:List aq) (i:Nat):Bool:=dh ((mq l i).map (·.name))&&dh ((cd l i).be.map (·.name))
def jk (x y:d9):Bool:=!decide (x.name=y.name)||(!x.static&& !y.static&&db d7 x.args y.args&&d7 x.ret y.ret)
def q9 (l:List aq) (i:Nat):Bool:=(ph l i).dropLast.all fun u=>(cd l i).be.all fun x=>(cd l u).be.all fun y=>jk x y
def cq (l:List aq):Int:=
 if dy l≠0 then dy l else if fg l (q1 l)=false then 6 else if q2 l=false then 5 else if fg l (q3 l)=false then 4 else if fg l (q4 l)=false then 5 else if fg l (q5 l)=false then 4
 else if q6 l=false then 4 else if fg l (q7 l)=false then 5 else if fg l (q8 l)=false then 6 else if fg l (q9 l)=false then 4 else 0
theorem xn {l:List aq} (h0:dy l=0) (h:fg l (q1 l)=false):cq l=6:=by simp [cq,h0,h]
theorem lk2 {l:List aq} (h0:dy l=0) (h1:fg l (q1 l)=true) (h:q2 l=false):cq l=5:=by simp [cq,h0,h,h1]
theorem C8 {l:List aq} (h0:dy l=0) (h1:fg l (q1 l)=true) (A:q2 l=true) (h:fg l (q3 l)=false):cq l=4:=by simp [cq,h0,h,h1,A]
theorem Ea {l:List aq} (h0:dy l=0) (h1:fg l (q1 l)=true) (A:q2 l=true) (D:fg l (q3 l)=true) (h:fg l (q4 l)=false):cq l=5:=by simp [cq,h0,h,h1,A,D]
theorem lk5 {l:List aq} (h0:dy l=0) (h1:fg l (q1 l)=true) (A:q2 l=true) (D:fg l (q3 l)=true) (E:fg l (q4 l)=true) (h:fg l (q5 l)=false):cq l=4:=by simp [cq,h0,h,h1,A,D,E]
theorem lk6 {l:List aq} (h0:dy l=0) (h1:fg l (q1 l)=true) (A:q2 l=true) (D:fg l (q3 l)=true) (E:fg l (q4 l)=true) (F:fg l (q5 l)=true) (h:q6 l=false):cq l=4:=by simp [cq,h0,h,h1,A,D,E,F]
theorem lk7 {l:List aq} (h0:dy l=0) (h1:fg l (q1 l)=true) (A:q2 l=true) (D:fg l (q3 l)=true) (E:fg l (q4 l)=true) (F:fg l (q5 l)=true) (G:q6 l=true) (h:fg l (q7 l)=false):cq l=5:=by simp [cq,h0,h,h1,A,D,E,F,G]
theorem lk8 {l:List aq} (h0:dy l=0) (h1:fg l (q1 l)=true) (A:q2 l=true) (D:fg l (q3 l)=true) (E:fg l (q4 l)=true) (F:fg l (q5 l)=true) (G:q6 l=true) (I:fg l (q7 l)=true) (h:fg l (q8 l)=false):cq l=6:=by simp [cq,h0,h,h1,A,D,E,F,G,I]
theorem lk9 {l:List aq} (h0:dy l=0) (h1:fg l (q1 l)=true) (A:q2 l=true) (D:fg l (q3 l)=true) (E:fg l (q4 l)=true) (F:fg l (q5 l)=true) (G:q6 l=true) (I:fg l (q7 l)=true) (J:fg l (q8 l)=true) (h:fg l (q9 l)=false):cq l=4:=by simp [cq,h0,h,h1,A,D,E,F,G,I,J]
theorem lk10 {l:List aq} (h0:dy l=0) (h1:fg l (q1 l)=true) (A:q2 l=true) (D:fg l (q3 l)=true) (E:fg l (q4 l)=true) (F:fg l (q5 l)=true) (G:q6 l=true) (I:fg l (q7 l)=true) (J:fg l (q8 l)=true) (L:fg l (q9 l)=true):cq l=0:=by simp [cq,h0,h1,A,D,E,F,G,I,J,L]
end Go.Proofs.YtjdnmblggdobgaaGreat
namespace Go.Proofs.YtjdnmblggdobgaaGreat
open Go.RowKit
theorem zo1 (l:List aq) (c:aq) (s:ByteArray):cb (l++ [c]) s=if 0<=cb l s then cb l s else if c.name=s then (l.length:Int) else -1:=by
 by_cases h:∃(k:Nat) (F:k<l.length),l[k].name=s
 ·have V:∃k:Nat,(∃F:k<l.length,l[k].name=s)/\∀j:Nat,j<k->¬ ∃D:j<l.length,l[j].name=s:=by
   obtain ⟨k,F⟩:=h;induction k using Nat.strongRecOn with
   | _ k ih=>
     by_cases J:∃j:Nat,j<k/\∃D:j<l.length,l[j].name=s
     ·obtain ⟨j,A,D⟩:=J;exact ih j A D
     exact ⟨k,F,fun j D O=>J ⟨j,D,O⟩⟩
  obtain ⟨k,⟨F,L⟩,I⟩:=V;have h1:cb l s=k:=zob F L fun j D A e=>I j A ⟨D,e⟩;have E:k<(l++ [c]).length:=by simp;omega
  have N:cb (l++ [c]) s=k:=zob E (by rw [List.getElem_append_left F];exact L) fun j D A e=>I j A ⟨by omega,by rwa [List.getElem_append_left (by omega)]at e⟩;rw [h1,N,if_pos (by omega)]
 have h1:cb l s= -1:=zoc fun j D e=>h ⟨j,D,e⟩;rw [h1,if_neg (by omega)];split
 ·rename_i hc;have E:l.length<(l++ [c]).length:=by simp
  exact zob E (by simp [hc]) fun j D A e=>h ⟨j,A,by rwa [List.getElem_append_left A]at e⟩
 rename_i hc;refine zoc fun j D e=>?_;by_cases G:j<l.length
 ·exact h ⟨j,G,by rwa [List.getElem_append_left G]at e⟩
 have:j=l.length:=by simp at D;omega
 subst this;simp at e;exact hc e
theorem Cj (l:List aq) (s:ByteArray):dr l=true->num l s=cb l s:=by
 induction l using Ed with
 | h0=>intro _;rfl
 | h1 l c ih=>
   intro h;have h':dh (l.map (·.name))=true/\(!decide (0<=num l c.name))=true:=by have:dr (l++ [c])=(dh (l.map (·.name))&& !decide (0<=num l c.name)):=za7 l c;rw [this,Bool.and_eq_true]at h;exact h
   have A:=ih h'.1;rw [za0,zo1,<-A];by_cases hc:c.name=s
   ·rw [if_pos hc];have D:¬ 0<=num l s:=by
     have:=h'.2;rw [hc]at this;simpa using this
    rw [if_neg D,if_pos hc]
   rw [if_neg hc,if_neg hc];split
   ·rfl
   have:=(Ee l s).1;omega
theorem zo3 (l:List aq):dr l=fg l (q1 l):=by
 rw [Bool.eq_iff_iff];constructor
 ·intro h;rw [fg,List.all_eq_true];intro i hi;have A:=List.mem_range.1 hi;rw [q1,decide_eq_true_iff,sm A];refine zob A rfl fun j D E e=>?_;have G:(l.map (·.name)).Pairwise (· ≠ ·):=(zoy _).1 h;rw [List.pairwise_iff_getElem]at G;exact G j i (by simpa using D) (by simpa using A) E (by simpa using e)
 intro h;rw [fg,List.all_eq_true]at h;refine zoz (fun c:aq=>c.name) l fun i j hi D I e=>?_;have h1:=h j (List.mem_range.2 D);rw [q1,decide_eq_true_iff,sm D]at h1;have F:=h i (List.mem_range.2 hi);rw [q1,decide_eq_true_iff,sm hi]at F;have:(i:Int)=j:=by rw [<-h1,<-F];exact congrArg _ e
 omega
theorem zo4 (l:List aq) (h:dr l=true):qb l=q2 l:=by rw [qb,q2,mm,mm,Cj l _ h,Cj l _ h]
theorem zx {l:List aq} {p:aq->Bool} {q:Nat->Bool} (h:∀(i:Nat) (hi:i<l.length),q i=p l[i]):l.all p=fg l q:=by
 rw [Bool.eq_iff_iff,fg,List.all_eq_true,List.all_eq_true];constructor
 ·intro D i hi;have A:=List.mem_range.1 hi;rw [h i A];exact D _ (gm A)
 intro E c hc;obtain ⟨i,hi,rfl⟩:=List.getElem_of_mem hc;rw [<-h i hi];exact E i (List.mem_range.2 hi)
theorem zo5 (l:List aq):ri l=fg l (q3 l):=zx fun i hi=>by rw [q3,sm hi,upperB]
theorem zo6 (l:List aq) (h:dr l=true):mw l=fg l (q4 l):=zx fun i hi=>by rw [q4,sm hi,mm,Cj l _ h]
theorem zo7 (l:List aq) (h:dr l=true) (n:Nat):dj l n=zo l n:=Cj l _ h
theorem zo8 (l:List aq) (h:dr l=true) (k:fm):ib l k=ig l k:=by rw [ib,ig,mm,Cj l _ h]
theorem zo9 (l:List aq) (h:dr l=true) (m:d9):nr l m=my l m:=by
 have e:ib l=ig l:=funext fun k=>zo8 l h k;have A:(fun x:iz=>decide (0<=cb l x.de))=fun x=>mm l x.de:=funext fun x=>by rw [mm,Cj l _ h]
 rw [nr,my,e,A]
theorem zpa (l:List aq) (h:dr l=true):sq l=fg l (q7 l):=zx fun i hi=>by have e:(fun f:bq=>ib l f.kind)=fun f=>ig l f.kind:=funext fun f=>zo8 l h f.kind;have A:nr l=my l:=funext fun m=>zo9 l h m;rw [q7,sm hi,e,A]
theorem Bw:∀(m:Nat) (f:Nat->Nat),(∀k,k<=m->f k<m)->∃i j,i<j/\j<=m/\f i=f j
 | 0,f,h=>absurd (h 0 (nlq _)) (by omega)
 | m+1,f,h=>by
   by_cases E:∃i,i<=m/\f i=f (m+1)
   ·obtain ⟨i,hi,e⟩:=E;exact ⟨i,m+1,by omega,by omega,e⟩
   have A:∀i,i<=m->f i≠f (m+1):=fun i hi e=>E ⟨i,hi,e⟩;have L:=h (m+1) (nlq _);obtain ⟨i,j,D,J,e⟩:=Bw m (fun k=>if f (m+1)<f k then f k - 1 else f k) (fun k G=>by
    have h1:=h k (by omega);have F:=A k G;show (if f (m+1)<f k then f k - 1 else f k)<m;split<;>omega)
   refine ⟨i,j,D,by omega,?_⟩;have F:=A i (by omega);have I:=A j (by omega);split at e<;>split at e<;>omega
def oq (l:List aq):Nat->Int->Int
 | 0,n=>n
 | k+1,n=>if 0<=n then oq l k (dj l n.toNat) else n
theorem zpb (l:List aq) {n:Int} (h:¬ 0<=n):∀k,oq l k n=n
 | 0=>rfl
 | k+1=>by rw [oq,if_neg h]
theorem zpc (l:List aq):∀(a b:Nat) (n:Int),oq l (a+b) n=oq l b (oq l a n)
 | 0,b,n=>by simp [oq]
 | a+1,b,n=>by
   rw [show a+1+b=(a+b)+1 by omega,oq,oq];by_cases h:0<=n
   ·rw [if_pos h,if_pos h];exact zpc l a b _
   rw [if_neg h,if_neg h,zpb l h]
theorem zpd (l:List aq):∀(k:Nat) (n:Int),n<l.length->oq l k n<l.length
 | 0,n,h=>h
 | k+1,n,h=>by
   rw [oq];split
   ·exact zpd l k _ (zf4 l _).2
   exact h
theorem zpe (l:List aq):∀(f:Nat) (n:Int),(gj l f n).length=f↔∀k,k<f->0<=oq l k n
 | 0,n=>by simp [gj]
 | f+1,n=>by
   rw [gj];by_cases h:0<=n
   ·rw [if_pos h,List.length_cons];have D:=zpe l f (dj l n.toNat);constructor
    ·intro e k E;cases k with
     | zero=>exact h
     | succ k=>
       rw [oq,if_pos h];exact D.1 (by omega) k (by omega)
    intro A;have:(gj l f (dj l n.toNat)).length=f:=D.2 fun k E=>by have:=A (k+1) (by omega);rwa [oq,if_pos h]at this
    omega
   rw [if_neg h];constructor
   ·intro e;simp at e
   intro A;exact absurd (A 0 (by omega)) h
theorem zpf (l:List aq):∀(f:Nat) (n:Int),(gj l f n).length<f->gj l (f+1) n=gj l f n
 | 0,n,h=>by simp at h
 | f+1,n,h=>by
   by_cases h0:0<=n
   ·rw [gj,if_pos h0,List.length_cons]at h;have A:gj l (f+1+1) n=n.toNat::gj l (f+1) (dj l n.toNat):=by rw [gj,if_pos h0]
    have D:gj l (f+1) n=n.toNat::gj l f (dj l n.toNat):=by rw [gj,if_pos h0]
    rw [A,D,zpf l f _ (by omega)]
   rw [zf5 h0,zf5 h0]
theorem zpg (l:List aq) (A:dr l=true):∀(r:Nat) (n:Int) (out:List Nat),r+out.length=l.length+1->(gj l (r+1) n).length<=r->wu l (r+2) n out=(gj l r n).reverse++out
 | 0,n,out,ho,h=>by
   rw [wu];by_cases h0:0<=n
   ·rw [gj,if_pos h0]at h;simp at h
   rw [if_neg h0];simp [gj]
 | r+1,n,out,ho,h=>by
   rw [wu];by_cases h0:0<=n
   ·rw [if_pos h0,if_neg (by omega),<-zo7 l A,zpg l A r _ _ (by simp;omega) (by rw [gj,if_pos h0,List.length_cons]at h;omega),gj,if_pos h0];simp
   rw [if_neg h0,gj,if_neg h0];simp
theorem zph (l:List aq) (A:dr l=true) (n:Nat) (h:(di l n).length<=l.length):ph l n=di l n:=by
 have h1:(gj l (l.length+1) n).length<=l.length:=by rwa [di,List.length_reverse]at h
 have:=zpg l A (l.length+1) n [] (by simp) (by rw [zpf l _ _ (by omega)];omega);rw [ph,di,this,List.append_nil]
theorem zpi (l:List aq) {n:Nat} (J:n<l.length) (h:∀k,k<l.length+1->0<=oq l k n):0<=oq l (l.length+1) n:=by
 obtain ⟨i,j,F,G,e⟩:=Bw l.length (fun k=>(oq l k n).toNat) (fun k I=>by
  have h1:=h k (by omega);have D:=zpd l k n (by omega);show (oq l k n).toNat<l.length;omega)
 have A:oq l i n=oq l j n:=by have h1:=h i (by omega);have D:=h j (by omega);omega
 have E:oq l (l.length+1) n=oq l (i+(l.length+1 - j)) n:=by rw [show l.length+1=j+(l.length+1 - j) by omega,zpc,<-A,<-zpc,show j+(l.length+1 - j)=l.length+1 by omega]
 rw [E];exact h _ (by omega)
theorem zpj (l:List aq) (A:dr l=true):∀(r:Nat) (n:Int) (out:List Nat),r+out.length=l.length+1->(∀k,k<=r->0<=oq l k n)->wu l (r+2) n out= []
 | 0,n,out,ho,h=>by have h0:0<=n:=h 0 (by omega);rw [wu,if_pos h0,if_pos (by omega)]
 | r+1,n,out,ho,h=>by
   have h0:0<=n:=h 0 (by omega);rw [wu,if_pos h0,if_neg (by omega),<-zo7 l A];exact zpj l A r _ _ (by simp;omega) fun k D=>by have:=h (k+1) (by omega);rwa [oq,if_pos h0]at this
theorem zpk (l:List aq) (G:dr l=true) {n:Nat} (D:n<l.length) (h:¬(di l n).length<=l.length):ph l n= []:=by
 have h1:(gj l (l.length+1) n).length=l.length+1:=by have:=zgx l (l.length+1) n;rw [di,List.length_reverse]at h;omega
 have E:=(zpe l _ _).1 h1;have F:=zpi l D E;exact zpj l G (l.length+1) n [] (by simp) fun k I=>by
  by_cases A:k<l.length+1
  ·exact E k A
  have:k=l.length+1:=by omega
  subst this;exact F
theorem zpl (l:List aq) (n:Nat):di l n≠ []:=by rw [di,gj,if_pos (by omega)];simp
theorem zpm (l:List aq) (D:dr l=true):jc l=fg l (q5 l):=by
 rw [jc,fg,Bool.eq_iff_iff,List.all_eq_true,List.all_eq_true];have key:∀i,i<l.length->(decide ((di l i).length<=l.length)=true↔q5 l i=true):=fun i hi=>by
  rw [q5,decide_eq_true_iff,decide_eq_true_iff];constructor
  ·intro h;rw [zph l D i h];exact List.length_pos_iff.2 (zpl l i)
  intro h;by_cases A:(di l i).length<=l.length
  ·exact A
  rw [zpk l D hi A]at h;simp at h
 constructor
 ·intro h i hi;exact (key i (List.mem_range.1 hi)).1 (h i hi)
 intro h i hi;exact (key i (List.mem_range.1 hi)).2 (h i hi)
theorem zpn {l:List aq} (D:dr l=true) (A:jc l=true) {i:Nat} (hi:i<l.length):ph l i=di l i:=by rw [jc,List.all_eq_true]at A;have:=A i (List.mem_range.2 hi);exact zph l D i (of_decide_eq_true this)
theorem zpo {l:List aq} (D:dr l=true) (A:jc l=true) {i:Nat} (hi:i<l.length):mq l i=fieldsOf l i:=by rw [mq,fieldsOf,zpn D A hi]
theorem zpp {l:List aq} (D:dr l=true) (A:jc l=true) {i:Nat} (hi:i<l.length):kg l i=ke l i:=by rw [kg,ke,zpn D A hi]
theorem zpq {l:List aq} {s:ByteArray} (h:0<=cb l s):∃(n:Nat) (hn:n<l.length),cb l s=n/\l[n].name=s:=by
 unfold cb at h ⊢;split at h
 ·rename_i i hi;obtain ⟨h1,A,_⟩:=List.findIdx?_eq_some_iff_getElem.1 hi;exact ⟨i,h1,rfl,of_decide_eq_true A⟩
 omega
theorem zpr {l:List aq} {n:Nat} (F:n<l.length) {f:bq} (A:f∈fieldsOf l n):∃c∈l,f∈c.fields:=by rw [fieldsOf,List.mem_flatMap]at A;obtain ⟨k,E,A⟩:=A;have D:=zgy F k E;rw [sm D]at A;exact ⟨_,gm D,A⟩
theorem zps {s:ByteArray} (h:s.size=0):s=⟨#[]⟩:=by obtain ⟨⟨x⟩⟩:=s;have:x.length=0:=h;rw [List.eq_nil_of_length_eq_zero this]
theorem zpt {l:List aq} (D:dr l=true) (V:jc l=true) (Y:qb l=true) (A:∀c∈l,Bc c):lq l=q6 l:=by
 have F:=Y;rw [zo4 l D,q2,Bool.and_eq_true,decide_eq_true_iff,decide_eq_true_iff]at F;obtain ⟨t,Z,e1,I⟩:=zpq F.1;obtain ⟨x,E,J,e4⟩:=zpq F.2;have N:(cb l gn).toNat=x:=by rw [J];rfl
 rw [lq,q6,Cj l _ D,Cj l _ D,N,zpo D V E];have X:decide (dj l x=cb l fw)=decide ((cd l x).bv=fw):=by
  rw [Bool.eq_iff_iff,decide_eq_true_iff,decide_eq_true_iff,dj,Cj l _ D];constructor
  ·intro e;obtain ⟨m,hm,e5,L⟩:=zpq (l:=l) (s:=(cd l x).bv) (by omega);have:m=t:=by omega
   subst this;rw [<-L,I]
  intro e;rw [e]
 rw [X];cases hf:fieldsOf l x with
 | nil=>rfl
 | cons f fs=>
   show (_&&d7 f.kind ⟨1,⟨#[]⟩⟩)=(_&&decide (f.kind.kind=1));obtain ⟨c,hc,G⟩:=zpr E (f:=f) (by rw [hf];simp);have W:=((A c hc).2.2.2.1 f G).2;have:d7 f.kind ⟨1,⟨#[]⟩⟩=decide (f.kind.kind=1):=by
    rw [d7];by_cases h1:f.kind.kind=1
    ·have O:=zps (W.2.2.2 (by rw [h1];rfl));rw [O];simp
    simp [h1]
   rw [this]
theorem zpu {l:List aq} (E:dr l=true) (D:jc l=true):ju l=fg l (q8 l):=by
 have h:(l.all fun c=>dh (c.be.map (·.name)))=fg l fun i=>dh ((cd l i).be.map (·.name)):=zx fun i hi=>by rw [sm hi]
 rw [ju,h,fg,fg,Bool.eq_iff_iff,Bool.and_eq_true,List.all_eq_true,List.all_eq_true,List.all_eq_true];constructor
 ·rintro ⟨h1,A⟩ i hi;rw [q8,zpo E D (List.mem_range.1 hi),Bool.and_eq_true];exact ⟨h1 i hi,A i hi⟩
 intro h1;have A:=fun i hi=>by have:=h1 i hi;rwa [q8,zpo E D (List.mem_range.1 hi),Bool.and_eq_true]at this
 exact ⟨fun i hi=>(A i hi).1,fun i hi=>(A i hi).2⟩
theorem zpv (a b:fm):d7 a b=true↔a=b:=by cases a;cases b;simp [d7]
theorem zpw:∀l m:List fm,db d7 l m=true↔l=m
 | [],[]=>by simp [db]
 | [],_::_=>by simp [db]
 | _::_,[]=>by simp [db]
 | x::l,y::m=>by rw [db,Bool.and_eq_true,zpv,zpw l m,List.cons.injEq]
def fits (x y:d9):Bool:=!x.static&& !y.static&&d7 x.ret y.ret&&db d7 x.args y.args
theorem zpx (x y:d9):fits x y=true↔x.static=false/\y.static=false/\x.ret=y.ret/\x.args=y.args:=by
 simp only [fits,Bool.and_eq_true,Bool.not_eq_true',zpv,zpw];constructor
 ·rintro ⟨⟨⟨h1,A⟩,D⟩,E⟩;exact ⟨h1,A,D,E⟩
 rintro ⟨h1,A,D,E⟩;exact ⟨⟨⟨h1,A⟩,D⟩,E⟩
theorem zpy {x y z:d9} (h:fits x z=true) (k:fits z y=true):fits x y=true:=by rw [zpx]at*;exact ⟨h.1,k.2.1,h.2.2.1.trans k.2.2.1,h.2.2.2.trans k.2.2.2⟩
theorem zpz (x y:d9):jk x y=true↔(x.name=y.name->fits x y=true):=by
 by_cases h:x.name=y.name
 ·simp only [jk,h,decide_true,Bool.not_true,Bool.false_or,forall_const];rw [zpx];simp only [Bool.and_eq_true,Bool.not_eq_true',zpv,zpw];constructor
  ·rintro ⟨⟨⟨h1,A⟩,D⟩,E⟩;exact ⟨h1,A,E,D⟩
  rintro ⟨h1,A,D,E⟩;exact ⟨⟨⟨h1,A⟩,E⟩,D⟩
 simp [jk,h]
theorem zp0 {l:List ByteArray} {s:ByteArray} (h:0<=jl l s):∃(k:Nat) (A:k<l.length),jl l s=k/\l[k]=s:=by
 unfold jl at h ⊢;cases hf:l.findIdx? (fun x=>decide (x=s))with
 | none=>rw [hf]at h;simp at h
 | some k=>
   obtain ⟨A,h1,-⟩:=List.findIdx?_eq_some_iff_getElem.1 hf;exact ⟨k,A,rfl,by simpa using h1⟩
theorem zp1 (l:List ByteArray) (a s:ByteArray):jl (l++ [a]) s=if 0<=jl l s then jl l s else if a=s then (l.length:Int) else -1:=by
 unfold jl;rw [List.findIdx?_append];cases hf:l.findIdx? (fun x=>decide (x=s))with
 | some k=>simp
 | none=>
   by_cases A:a=s
   ·simp [A,List.findIdx?_cons]
   simp [A,List.findIdx?_cons]
def ud (acc:List ByteArray×List cw) (s:ByteArray):Option cw:=if 0<=jl acc.1 s then acc.2[(jl acc.1 s).toNat]? else none
theorem zp2 (A:List ByteArray×List cw) (x:ByteArray×cw) (s:ByteArray) (h:A.1.length=A.2.length):ud (fc A x) s=if x.1=s then some x.2 else ud A s:=by
 unfold fc;by_cases F:0<=jl A.1 x.1
 ·rw [if_pos F];obtain ⟨k,O,e,N⟩:=zp0 F;unfold ud;by_cases D:x.1=s
  ·rw [if_pos D,<-D,if_pos F,e];simp only [Int.toNat_natCast];rw [List.getElem?_set_self (by omega)]
  rw [if_neg D];by_cases h0:0<=jl A.1 s
  ·obtain ⟨L,I,G,E⟩:=zp0 h0;rw [if_pos h0,if_pos h0,e,G];simp only [Int.toNat_natCast];rw [List.getElem?_set_ne];intro J;subst J;exact D (N.symm.trans E)
  rw [if_neg h0,if_neg h0]
 rw [if_neg F];unfold ud;rw [zp1];by_cases h0:0<=jl A.1 s
 ·obtain ⟨L,I,G,E⟩:=zp0 h0;have D:¬x.1=s:=fun e=>F (by rw [e];exact h0);rw [if_pos h0,if_pos h0,G];have:(0:Int)<=(L:Int):=by omega
  simp only [this,if_true,Int.toNat_natCast];rw [List.getElem?_append_left (by omega),if_neg D]
 by_cases D:x.1=s
 ·rw [if_neg h0,if_pos D,if_pos D];have:(0:Int)<=(A.1.length:Int):=by omega
  simp only [this,if_true,Int.toNat_natCast];rw [h,List.getElem?_append_right (nlq _)];simp
 rw [if_neg h0,if_neg D,if_neg D,if_neg h0];simp
def sg (P:List (ByteArray×cw)) (s:ByteArray) (a:Option cw):Option cw:=P.foldl (fun a x=>if x.1=s then some x.2 else a) a
theorem zp3 (A:List ByteArray×List cw) (x:ByteArray×cw) (h:A.1.length=A.2.length):(fc A x).1.length=(fc A x).2.length:=zhd [x] A h
theorem zp4 (s:ByteArray):∀(P:List (ByteArray×cw)) (acc:List ByteArray×List cw),acc.1.length=acc.2.length->ud (P.foldl fc acc) s=sg P s (ud acc s)
 | [],_,_=>rfl
 | x::P,acc,h=>by rw [List.foldl_cons,zp4 s P _ (zp3 acc x h),zp2 acc x s h];rfl
theorem zp5 (s:ByteArray) (P:List (ByteArray×cw)) (a:Option cw):(sg P s a=a/\∀x∈P,x.1≠s)\/(∃t,sg P s a=some t/\(s,t)∈P):=by
 induction P using Ed with
 | h0=>exact Or.inl ⟨rfl,fun x A=>by cases A⟩
 | h1 P x ih=>
   have e:sg (P++ [x]) s a=if x.1=s then some x.2 else sg P s a:=by unfold sg;rw [List.foldl_append];rfl
   rw [e];by_cases A:x.1=s
   ·rw [if_pos A];exact Or.inr ⟨x.2,rfl,List.mem_append_right _ (by rw [<-A];simp)⟩
   rw [if_neg A];rcases ih with ⟨h1,D⟩ | ⟨t,h1,D⟩
   ·refine Or.inl ⟨h1,fun y E=>?_⟩;rcases List.mem_append.1 E with h | h
    ·exact D y h
    rw [List.mem_singleton.1 h];exact A
   exact Or.inr ⟨t,h1,List.mem_append_left _ D⟩
def u6 (l:List aq) (L:List Nat) (s:ByteArray):Option cw:=sg (L.flatMap (kj l)) s none
theorem zp6 (l:List aq) (L:List Nat) (u:Nat) (s:ByteArray):u6 l (L++ [u]) s=sg (kj l u) s (u6 l L s):=by unfold u6 sg;rw [List.flatMap_append,List.foldl_append];simp
theorem zp7 {l:List aq} {u:Nat} {s:ByteArray} {t:cw} (h:(s,t)∈kj l u):∃(j:Nat) (hj:j<(cd l u).be.length),t=⟨u,j⟩/\(cd l u).be[j].name=s:=by obtain ⟨p,D,e⟩:=List.mem_map.1 h;obtain ⟨x,j⟩:=p;obtain ⟨h1,E,A⟩:=List.mem_zipIdx D;simp only [Prod.mk.injEq]at e;refine ⟨j,by omega,e.2.symm,?_⟩;rw [<-e.1,A];simp
theorem zp8 {l:List aq} {u:Nat} {y:d9} (h:y∈(cd l u).be):∃x∈kj l u,x.1=y.name:=by
 obtain ⟨j,A,e⟩:=List.mem_iff_getElem.1 h;refine ⟨(y.name,⟨u,j⟩),?_,rfl⟩;have D:j<(kj l u).length:=by rw [zhg];exact A
 have:=zhh l u j D A;rw [e]at this;rw [<-this];exact gm D
def xp (c:aq):Prop:=∀y∈c.be,∀z∈c.be,y.name=z.name->y=z
theorem zp9 {c:aq} (h:dh (c.be.map (·.name))=true):xp c:=by
 intro y E z F e;rw [zoy,List.pairwise_map,List.pairwise_iff_getElem]at h;obtain ⟨i,hi,rfl⟩:=List.mem_iff_getElem.1 E;obtain ⟨j,D,rfl⟩:=List.mem_iff_getElem.1 F;rcases Nat.lt_trichotomy i j with A | A | A
 ·exact absurd e (h i j hi D A)
 ·subst A;rfl
 exact absurd e.symm (h j i D hi A)
def Au (l:List aq) (u c:Nat):Prop:=∀x∈(cd l c).be,∀y∈(cd l u).be,jk x y=true
def qx (l:List aq) (L:List Nat) (x:d9):Prop:=∀t,u6 l L x.name=some t->fits x (nw l t)=true
theorem zqa (l:List aq) (x:d9) (L:List Nat):L.Pairwise (Au l)->(∀u∈L,xp (cd l u))->(qx l L x↔∀u∈L,∀y∈(cd l u).be,jk x y=true):=by
 induction L using Ed with
 | h0=>
   intro _ _;refine ⟨fun _ u hu=>(by cases hu),fun _ t V=>?_⟩;simp [u6,sg]at V
 | h1 L u ih=>
   intro O X;rw [List.pairwise_append]at O;have W:=ih O.1 (fun v D=>X v (List.mem_append_left _ D));have I:=X u (by simp);rcases zp5 x.name (kj l u) (u6 l L x.name)with ⟨e,N⟩ | ⟨t,e,hm⟩
   ·have J:qx l (L++ [u]) x↔qx l L x:=by unfold qx;rw [zp6,e]
    rw [J,W];constructor
    ·intro h v D y A;rcases List.mem_append.1 D with h1 | h1
     ·exact h v h1 y A
     rw [List.mem_singleton.1 h1]at A;obtain ⟨z,F,Z⟩:=zp8 A;exact (zpz x y).2 fun G=>absurd (Z.trans G.symm) (N z F)
    exact fun h v D y A=>h v (List.mem_append_left _ D) y A
   obtain ⟨j,E,rfl,F⟩:=zp7 hm;have J:qx l (L++ [u]) x↔fits x (cd l u).be[j]=true:=by
    unfold qx;rw [zp6,e];constructor
    ·intro h;have:=h _ rfl;rwa [zi2 E]at this
    intro h t V;cases V;rw [zi2 E];exact h
   rw [J];constructor
   ·intro Y v D y A;rw [zpz];intro G;rcases List.mem_append.1 D with h1 | h1
    ·have:=O.2.2 v h1 u (by simp) _ (gm E) y A;exact zpy Y ((zpz _ _).1 this (F.trans G))
    rw [List.mem_singleton.1 h1]at A;rw [I y A _ (gm E) (G.symm.trans F.symm)];exact Y
   intro h;exact (zpz _ _).1 (h u (by simp) _ (gm E)) F.symm
theorem zqb {l:List aq} (F:jc l=true) {i n:Nat} (hi:i<l.length) (I:dj l i=n):di l i=di l n++ [i]/\n<l.length:=by
 have G:n<l.length:=by have:=(Ee l (cd l i).bv).2;have e:dj l i=num l (cd l i).bv:=rfl;omega
 have A:(di l i).length<=l.length:=by simpa using List.all_eq_true.1 F i (List.mem_range.2 hi)
 have D:gj l (l.length+1) i=i::gj l l.length n:=by rw [zf6 _ (by omega)];simp [I]
 have E:(gj l l.length n).length<l.length:=by rw [di,D]at A;simp at A;omega
 refine ⟨?_,G⟩;rw [di,D,di,zpf l _ _ E,List.reverse_cons]
theorem zqc {l:List aq} {i:Nat} (A:dj l i<0):di l i= [i]:=by rw [di,zf6 _ (by omega)];simp only [Int.toNat_natCast];rw [zf5 (by omega)];rfl
theorem zqd (l:List aq) (n:Nat) (m:d9):ll l n m=true↔qx l (di l n) m:=by
 have e:u6 l (di l n) m.name=ud (ke l n) m.name:=by rw [ke,zp4 m.name _ ([],[]) rfl];rfl
 unfold qx;rw [e];unfold ll ud;show (if jl (ke l n).1 m.name<0 then true else _)=true↔_;by_cases h:jl (ke l n).1 m.name<0
 ·rw [if_pos h,if_neg (by omega)];simp
 rw [if_neg h,if_pos (by omega)];show (match (ke l n).2[(jl (ke l n).1 m.name).toNat]? with | none=>true | some t=>!m.static&& !(nw l t).static&&d7 m.ret (nw l t).ret&&db d7 m.args (nw l t).args)=true↔_;cases (ke l n).2[(jl (ke l n).1 m.name).toNat]? with
 | none=>simp
 | some t=>
   constructor
   ·intro h D A;cases A;exact h
   intro h;exact h t rfl
theorem zqe {l:List aq} (hn:dr l=true) (h4:mw l=true) (O:jc l=true) (Y:ju l=true) (W:num l ⟨#[]⟩<0):nf l=fg l (q9 l):=by
 have hd:∀u,u<l.length->xp (cd l u):=fun u G=>by rw [ju,Bool.and_eq_true]at Y;rw [sm G];exact zp9 (List.all_eq_true.1 Y.2 _ (gm G))
 have E:∀i (hi:i<l.length),((cd l i).bv=⟨#[]⟩/\dj l i<0)\/((cd l i).bv≠⟨#[]⟩/\∃n:Nat,dj l i=n):=fun i hi=>by
  by_cases h:(cd l i).bv=⟨#[]⟩
  ·exact Or.inl ⟨h,by rw [dj,h];exact W⟩
  refine Or.inr ⟨h,?_⟩;have h1:=List.all_eq_true.1 h4 l[i] (gm hi);rw [sm hi]at h;have I:mm l l[i].bv=true:=by simpa [h]using h1
  have h3:0<=dj l i:=by rw [dj,sm hi];simpa [mm]using I
  exact ⟨(dj l i).toNat,by omega⟩
 have hq:∀i (hi:i<l.length),q9 l i=true↔∀u∈(di l i).dropLast,Au l u i:=fun i hi=>by rw [q9,zpn hn O hi];simp only [List.all_eq_true,Au]
 rw [Bool.eq_iff_iff,nf,fg,List.all_eq_true,List.all_eq_true];constructor
 ·intro h;have hT:∀(i n:Nat) (_:i<l.length),dj l i=n->∀m∈(cd l i).be,qx l (di l n) m:=fun i n hi F m V=>by
   have h1:=h i (List.mem_range.2 hi);rcases E i hi with ⟨_,I⟩ | ⟨I,_⟩
   ·omega
   rw [F]at h1;simp only [I,decide_false,Bool.false_or,Int.toNat_natCast]at h1;exact (zqd l n m).1 (List.all_eq_true.1 h1 m V)
  have N:∀(d i:Nat),i<l.length->(di l i).length<=d->(di l i).Pairwise (Au l):=by
   intro d;induction d with
   | zero=>intro i _ J;exact absurd (List.eq_nil_of_length_eq_zero (by omega)) (zpl l i)
   | succ d ih=>
     intro i hi J;rcases E i hi with ⟨_,I⟩ | ⟨_,n,F⟩
     ·rw [zqc I];exact List.pairwise_singleton _ _
     obtain ⟨e,D⟩:=zqb O hi F;have L:=ih n D (by rw [e]at J;simp at J;omega);rw [e,List.pairwise_append];refine ⟨L,List.pairwise_singleton _ _,fun u G c hc=>?_⟩;rw [List.mem_singleton.1 hc];intro x hx;exact (zqa l x _ L (fun v X=>hd v (zgy D v X))).1 (hT i n hi F x hx) u G
  intro i hi;have A:=List.mem_range.1 hi;rw [hq i A];rcases E i A with ⟨_,I⟩ | ⟨_,n,F⟩
  ·rw [zqc I];intro u G;cases G
  obtain ⟨e,D⟩:=zqb O A F;have L:=N _ i A (nlq _);rw [e,List.pairwise_append]at L;rw [e,List.dropLast_concat];exact fun u G=>L.2.2 u G i (by simp)
 intro h;have Z:∀(i n:Nat) (_:i<l.length),dj l i=n->∀u∈di l n,Au l u i:=fun i n hi F=>by have:=(hq i hi).1 (h i (List.mem_range.2 hi));rwa [(zqb O hi F).1,List.dropLast_concat]at this
 have N:∀(d i:Nat),i<l.length->(di l i).length<=d->(di l i).Pairwise (Au l):=by
  intro d;induction d with
  | zero=>intro i _ J;exact absurd (List.eq_nil_of_length_eq_zero (by omega)) (zpl l i)
  | succ d ih=>
    intro i hi J;rcases E i hi with ⟨_,I⟩ | ⟨_,n,F⟩
    ·rw [zqc I];exact List.pairwise_singleton _ _
    obtain ⟨e,D⟩:=zqb O hi F;have L:=ih n D (by rw [e]at J;simp at J;omega);rw [e,List.pairwise_append];refine ⟨L,List.pairwise_singleton _ _,fun u G c hc=>?_⟩;rw [List.mem_singleton.1 hc];exact Z i n hi F u G
 intro i hi;have A:=List.mem_range.1 hi;rcases E i A with ⟨h1,_⟩ | ⟨h1,n,F⟩
 ·simp [h1]
 obtain ⟨e,D⟩:=zqb O A F;rw [F];simp only [h1,decide_false,Bool.false_or,Int.toNat_natCast];rw [List.all_eq_true];intro m V;rw [zqd,zqa l m _ (N _ n D (nlq _)) (fun v X=>hd v (zgy D v X))];exact fun u G y hy=>Z i n A F u G m V y hy
end Go.Proofs.YtjdnmblggdobgaaGreat
