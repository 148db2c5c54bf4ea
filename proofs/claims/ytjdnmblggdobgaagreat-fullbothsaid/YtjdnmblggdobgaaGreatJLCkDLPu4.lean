import Derived.Test.YtjdnmblggdobgaaGreatJLRf1LRf3
namespace Go.Proofs.YtjdnmblggdobgaaGreat
open Go.RowKit List Or
section
open Go.Sort
variable {α:Type} (f:α->ByteArray) (xs:List α) {l:List aq} {q:Nat->Bool} {k:Nat}
def fp (l:List aq) (q:Nat->Bool):Bool:=(range l.length).all q
theorem Ex (D:¬k<l.length) (h:∀j,j<k->q j=true):fp l q=true:=by rw [fp,all_eq_true];exact fun j A=>h j (by have:=mem_range.1 A;omega)
theorem Ey (A:k<l.length) (h:q k=false):fp l q=false:=by rw [fp,all_eq_false];exact ⟨k,mem_range.2 A,by simp [h]⟩
theorem Ez (h:∀j,j<k->q j=true) (D:q k=true):∀j,j<k+1->q j=true:=fun j E=>by
 by_cases A:j<k
 ·exact h j A
 have:j=k:=by omega
 subst this;exact D
theorem zon {s:ByteArray} (h:¬s=⟨#[]⟩):s.toList.isEmpty=false:=by
 cases hq:s.toList with
 | nil=>exact absurd (Eo hq) h
 | cons _ _=>rfl
theorem zoo (l:List ByteArray):dp l=true↔l.Pairwise (· ≠ ·):=by
 induction l using Ei with
 | h0=>simp [dp]
 | h1 l x ih=>
   rw [za4,Bool.and_eq_true,ih,pairwise_append,all_eq_true];constructor
   ·rintro ⟨h1,A⟩;refine ⟨h1,pairwise_singleton _ _,fun a G b D=>?_⟩;rw [mem_singleton]at D;subst D;have:=A a G;intro e;simp [e]at this
   rintro ⟨h1,_,A⟩;refine ⟨h1,fun y I=>?_⟩;have E:=A y I x (by simp);have F:¬x=y:=fun e=>E e.symm;simp [F]
theorem zop (h:∀(i j:Nat) (hi:i<xs.length) (D:j<xs.length),i<j->f xs[i]≠f xs[j]):dp (xs.map f)=true:=by rw [zoo,pairwise_iff_getElem];intro i j hi D A;have:=h i j (by simpa using hi) (by simpa using D) A;simpa using this
theorem zoq (i j:Nat) (hi:i<xs.length) (D:j<xs.length) (A:i<j) (h:f xs[i]=f xs[j]):dp (xs.map f)=false:=by rw [Bool.eq_false_iff,ne_eq,zoo,pairwise_iff_getElem];intro E;exact E i j (by simpa using hi) (by simpa using D) A (by simpa using h)
def q1 (l:List aq) (i:Nat):Bool:=decide (cd l (cz l i).name=i)
def q2 (l:List aq):Bool:=decide (0<=cd l f9)&&decide (0<=cd l gr)
def q3 (l:List aq) (i:Nat):Bool:=upperB (cz l i)
def q4 (l:List aq) (i:Nat):Bool:=decide ((cz l i).b9=(⟨#[]⟩:ByteArray))||decide (0<=cd l (cz l i).b9)
def q5 (l:List aq) (i:Nat):Bool:=decide (0<(qb l i).length)
def q6 (l:List aq):Bool:=decide ((cz l (cd l gr).toNat).b9=f9)&&(match ni l (cd l gr).toNat with | []=>false | f::_=>decide (f.kind.kind=1))
def oq (l:List aq) (m:ew):Bool:=m.args.all (ig l)&&ig l m.ret&&m.hands.all (fun h=>decide (0<=cd l h.dj))
def q7 (l:List aq) (i:Nat):Bool:=(cz l i).fields.all (fun f=>ig l f.kind)&&(cz l i).bd.all (oq l)
def q8 (l:List aq) (i:Nat):Bool:=dp ((ni l i).map (·.name))&&dp ((cz l i).bd.map (·.name))
def jr (x y:ew):Bool:=!decide (x.name=y.name)||(!x.static&& !y.static&&di ep x.args y.args&&ep x.ret y.ret)
def q9 (l:List aq) (i:Nat):Bool:=(qb l i).dropLast.all fun u=>(cz l i).bd.all fun x=>(cz l u).bd.all fun y=>jr x y
def db (l:List aq):Int:=
 if ed l≠0 then ed l else if fp l (q1 l)=false then 6 else if q2 l=false then 5 else if fp l (q3 l)=false then 4 else if fp l (q4 l)=false then 5 else if fp l (q5 l)=false then 4
 else if q6 l=false then 4 else if fp l (q7 l)=false then 5 else if fp l (q8 l)=false then 6 else if fp l (q9 l)=false then 4 else 0
theorem Aq (h0:ed l=0) (h:fp l (q1 l)=false):db l=6:=by simp [db,h0,h]
theorem lk2 (h0:ed l=0) (h1:fp l (q1 l)=true) (h:q2 l=false):db l=5:=by simp [db,h0,h,h1]
theorem zv (h0:ed l=0) (h1:fp l (q1 l)=true) (A:q2 l=true) (h:fp l (q3 l)=false):db l=4:=by simp [db,h0,h,h1,A]
theorem Ef (h0:ed l=0) (h1:fp l (q1 l)=true) (A:q2 l=true) (D:fp l (q3 l)=true) (h:fp l (q4 l)=false):db l=5:=by simp [db,h0,h,h1,A,D]
theorem lk5 (h0:ed l=0) (h1:fp l (q1 l)=true) (A:q2 l=true) (D:fp l (q3 l)=true) (E:fp l (q4 l)=true) (h:fp l (q5 l)=false):db l=4:=by simp [db,h0,h,h1,A,D,E]
theorem lk6 (h0:ed l=0) (h1:fp l (q1 l)=true) (A:q2 l=true) (D:fp l (q3 l)=true) (E:fp l (q4 l)=true) (F:fp l (q5 l)=true) (h:q6 l=false):db l=4:=by simp [db,h0,h,h1,A,D,E,F]
theorem lk7 (h0:ed l=0) (h1:fp l (q1 l)=true) (A:q2 l=true) (D:fp l (q3 l)=true) (E:fp l (q4 l)=true) (F:fp l (q5 l)=true) (G:q6 l=true) (h:fp l (q7 l)=false):db l=5:=by simp [db,h0,h,h1,A,D,E,F,G]
theorem lk8 (h0:ed l=0) (h1:fp l (q1 l)=true) (A:q2 l=true) (D:fp l (q3 l)=true) (E:fp l (q4 l)=true) (F:fp l (q5 l)=true) (G:q6 l=true) (I:fp l (q7 l)=true) (h:fp l (q8 l)=false):db l=6:=by simp [db,h0,h,h1,A,D,E,F,G,I]
theorem lk9 (h0:ed l=0) (h1:fp l (q1 l)=true) (A:q2 l=true) (D:fp l (q3 l)=true) (E:fp l (q4 l)=true) (F:fp l (q5 l)=true) (G:q6 l=true) (I:fp l (q7 l)=true) (J:fp l (q8 l)=true) (h:fp l (q9 l)=false):db l=4:=by simp [db,h0,h,h1,A,D,E,F,G,I,J]
theorem lk10 (h0:ed l=0) (h1:fp l (q1 l)=true) (A:q2 l=true) (D:fp l (q3 l)=true) (E:fp l (q4 l)=true) (F:fp l (q5 l)=true) (G:q6 l=true) (I:fp l (q7 l)=true) (J:fp l (q8 l)=true) (L:fp l (q9 l)=true):db l=0:=by simp [db,h0,h1,A,D,E,F,G,I,J,L]
end
variable (A:List ByteArray×List dc) (x:ByteArray×dc) (l:List aq) (n:Nat) (L:List Nat) (u:Nat) (c:aq) (s:ByteArray)
theorem zor:cd (l++ [c]) s=if 0<=cd l s then cd l s else if c.name=s then (l.length:Int) else -1:=by
 by_cases h:∃(k:Nat) (F:k<l.length),l[k].name=s
 ·have V:∃k:Nat,(∃F:k<l.length,l[k].name=s)/\∀j:Nat,j<k->¬ ∃D:j<l.length,l[j].name=s:=by
   obtain ⟨k,F⟩:=h;induction k using Nat.strongRecOn with
   | _ k ih=>
     by_cases J:∃j:Nat,j<k/\∃D:j<l.length,l[j].name=s
     ·obtain ⟨j,A,D⟩:=J;exact ih j A D
     exact ⟨k,F,fun j D O=>J ⟨j,D,O⟩⟩
  obtain ⟨k,⟨F,L⟩,I⟩:=V;have h1:cd l s=k:=zn1 F L fun j D A e=>I j A ⟨D,e⟩;have E:k<(l++ [c]).length:=by simp;omega
  have N:cd (l++ [c]) s=k:=zn1 E (by rw [getElem_append_left F];exact L) fun j D A e=>I j A ⟨by omega,by rwa [getElem_append_left (by omega)]at e⟩;rw [h1,N,if_pos (by omega)]
 have h1:cd l s= -1:=zn2 fun j D e=>h ⟨j,D,e⟩;rw [h1,if_neg (by omega)];split
 ·rename_i hc;have E:l.length<(l++ [c]).length:=by simp
  exact zn1 E (by simp [hc]) fun j D A e=>h ⟨j,A,by rwa [getElem_append_left A]at e⟩
 rename_i hc;refine zn2 fun j D e=>?_;by_cases G:j<l.length
 ·exact h ⟨j,G,by rwa [getElem_append_left G]at e⟩
 have:j=l.length:=by simp at D;omega
 subst this;simp at e;exact hc e
theorem C2:dy l=true->num l s=cd l s:=by
 induction l using Ei with
 | h0=>intro _;rfl
 | h1 l c ih=>
   intro h;have h':dp (l.map (·.name))=true/\(!decide (0<=num l c.name))=true:=by have:dy (l++ [c])=(dp (l.map (·.name))&& !decide (0<=num l c.name)):=za7 l c;rw [this,Bool.and_eq_true]at h;exact h
   have A:=ih h'.1;rw [za0,zor,<-A];by_cases hc:c.name=s
   ·rw [if_pos hc];have D:¬ 0<=num l s:=by
     have:=h'.2;rw [hc]at this;simpa using this
    rw [if_neg D,if_pos hc]
   rw [if_neg hc,if_neg hc];split
   ·rfl
   have:=(Ej l s).1;omega
theorem zot:dy l=fp l (q1 l):=by
 rw [Bool.eq_iff_iff];constructor
 ·intro h;rw [fp,all_eq_true];intro i hi;have A:=mem_range.1 hi;rw [q1,decide_eq_true_iff,tu A];refine zn1 A rfl fun j D E e=>?_;have G:(l.map (·.name)).Pairwise (· ≠ ·):=(zoo _).1 h;rw [pairwise_iff_getElem]at G;exact G j i (by simpa using D) (by simpa using A) E (by simpa using e)
 intro h;rw [fp,all_eq_true]at h;refine zop (fun c:aq=>c.name) l fun i j hi D I e=>?_;have h1:=h j (mem_range.2 D);rw [q1,decide_eq_true_iff,tu D]at h1;have F:=h i (mem_range.2 hi);rw [q1,decide_eq_true_iff,tu hi]at F;have:(i:Int)=j:=by rw [<-h1,<-F];exact congrArg _ e
 omega
theorem zou (h:dy l=true):qn l=q2 l:=by rw [qn,q2,ng,ng,C2 l _ h,C2 l _ h]
theorem A0 {l:List aq} {p:aq->Bool} {q:Nat->Bool} (h:∀(i:Nat) (hi:i<l.length),q i=p l[i]):l.all p=fp l q:=by
 rw [Bool.eq_iff_iff,fp,all_eq_true,all_eq_true];constructor
 ·intro D i hi;have A:=mem_range.1 hi;rw [h i A];exact D _ (gm A)
 intro E c hc;obtain ⟨i,hi,rfl⟩:=getElem_of_mem hc;rw [<-h i hi];exact E i (mem_range.2 hi)
theorem zov:sp l=fp l (q3 l):=A0 fun i hi=>by rw [q3,tu hi,upperB]
theorem zow (h:dy l=true):np l=fp l (q4 l):=A0 fun i hi=>by rw [q4,tu hi,ng,C2 l _ h]
theorem zox (h:dy l=true) (n:Nat):dv l n=As l n:=C2 l _ h
theorem zoy (h:dy l=true) (k:fw):ig l k=im l k:=by rw [ig,im,ng,C2 l _ h]
theorem zoz (h:dy l=true) (m:ew):oq l m=nt l m:=by
 have e:ig l=im l:=funext fun k=>zoy l h k;have A:(fun x:jg=>decide (0<=cd l x.dj))=fun x=>ng l x.dj:=funext fun x=>by rw [ng,C2 l _ h]
 rw [oq,nt,e,A]
theorem zo0 (h:dy l=true):ub l=fp l (q7 l):=A0 fun i hi=>by have e:(fun f:bv=>ig l f.kind)=fun f=>im l f.kind:=funext fun f=>zoy l h f.kind;have A:oq l=nt l:=funext fun m=>zoz l h m;rw [q7,tu hi,e,A]
theorem Cq:∀(m:Nat) (f:Nat->Nat),(∀k,k<=m->f k<m)->∃i j,i<j/\j<=m/\f i=f j
 | 0,f,h=>absurd (h 0 (nlq _)) (by omega)
 | m+1,f,h=>by
   by_cases E:∃i,i<=m/\f i=f (m+1)
   ·obtain ⟨i,hi,e⟩:=E;exact ⟨i,m+1,by omega,by omega,e⟩
   have A:∀i,i<=m->f i≠f (m+1):=fun i hi e=>E ⟨i,hi,e⟩;have L:=h (m+1) (nlq _);obtain ⟨i,j,D,J,e⟩:=Cq m (fun k=>if f (m+1)<f k then f k - 1 else f k) (fun k G=>by
    have h1:=h k (by omega);have F:=A k G;show (if f (m+1)<f k then f k - 1 else f k)<m;split<;>omega)
   refine ⟨i,j,D,by omega,?_⟩;have F:=A i (by omega);have I:=A j (by omega);split at e<;>split at e<;>omega
def ph (l:List aq):Nat->Int->Int
 | 0,n=>n
 | k+1,n=>if 0<=n then ph l k (dv l n.toNat) else n
theorem zo1 {n:Int} (h:¬ 0<=n):∀k,ph l k n=n
 | 0=>rfl
 | k+1=>by rw [ph,if_neg h]
theorem zo2 (l:List aq):∀(a b:Nat) (n:Int),ph l (a+b) n=ph l b (ph l a n)
 | 0,b,n=>by simp [ph]
 | a+1,b,n=>by
   rw [show a+1+b=(a+b)+1 by omega,ph,ph];by_cases h:0<=n
   ·rw [if_pos h,if_pos h];exact zo2 l a b _
   rw [if_neg h,if_neg h,zo1 l h]
theorem zo3 (l:List aq):∀(k:Nat) (n:Int),n<l.length->ph l k n<l.length
 | 0,n,h=>h
 | k+1,n,h=>by
   rw [ph];split
   ·exact zo3 l k _ (zfu l _).2
   exact h
theorem zo4 (l:List aq):∀(f:Nat) (n:Int),(gq l f n).length=f↔∀k,k<f->0<=ph l k n
 | 0,n=>by simp [gq]
 | f+1,n=>by
   rw [gq];by_cases h:0<=n
   ·rw [if_pos h,length_cons];have D:=zo4 l f (dv l n.toNat);constructor
    ·intro e k E;cases k with
     | zero=>exact h
     | succ k=>
       rw [ph,if_pos h];exact D.1 (by omega) k (by omega)
    intro A;have:(gq l f (dv l n.toNat)).length=f:=D.2 fun k E=>by have:=A (k+1) (by omega);rwa [ph,if_pos h]at this
    omega
   rw [if_neg h];constructor
   ·intro e;simp at e
   intro A;exact absurd (A 0 (by omega)) h
theorem zo5 (l:List aq):∀(f:Nat) (n:Int),(gq l f n).length<f->gq l (f+1) n=gq l f n
 | 0,n,h=>by simp at h
 | f+1,n,h=>by
   by_cases h0:0<=n
   ·rw [gq,if_pos h0,length_cons]at h;have A:gq l (f+1+1) n=n.toNat::gq l (f+1) (dv l n.toNat):=by rw [gq,if_pos h0]
    have D:gq l (f+1) n=n.toNat::gq l f (dv l n.toNat):=by rw [gq,if_pos h0]
    rw [A,D,zo5 l f _ (by omega)]
   rw [zfv h0,zfv h0]
theorem zo6 (l:List aq) (A:dy l=true):∀(r:Nat) (n:Int) (out:List Nat),r+out.length=l.length+1->(gq l (r+1) n).length<=r->ya l (r+2) n out=(gq l r n).reverse++out
 | 0,n,out,ho,h=>by
   rw [ya];by_cases h0:0<=n
   ·rw [gq,if_pos h0]at h;simp at h
   rw [if_neg h0];simp [gq]
 | r+1,n,out,ho,h=>by
   rw [ya];by_cases h0:0<=n
   ·rw [if_pos h0,if_neg (by omega),<-zox l A,zo6 l A r _ _ (by simp;omega) (by rw [gq,if_pos h0,length_cons]at h;omega),gq,if_pos h0];simp
   rw [if_neg h0,gq,if_neg h0];simp
theorem zo7 (A:dy l=true) (n:Nat) (h:(dt l n).length<=l.length):qb l n=dt l n:=by
 have h1:(gq l (l.length+1) n).length<=l.length:=by rwa [dt,length_reverse]at h
 have:=zo6 l A (l.length+1) n [] (by simp) (by rw [zo5 l _ _ (by omega)];omega);rw [qb,dt,this,append_nil]
theorem zo8 {n:Nat} (J:n<l.length) (h:∀k,k<l.length+1->0<=ph l k n):0<=ph l (l.length+1) n:=by
 obtain ⟨i,j,F,G,e⟩:=Cq l.length (fun k=>(ph l k n).toNat) (fun k I=>by
  have h1:=h k (by omega);have D:=zo3 l k n (by omega);show (ph l k n).toNat<l.length;omega)
 have A:ph l i n=ph l j n:=by have h1:=h i (by omega);have D:=h j (by omega);omega
 have E:ph l (l.length+1) n=ph l (i+(l.length+1 - j)) n:=by rw [show l.length+1=j+(l.length+1 - j) by omega,zo2,<-A,<-zo2,show j+(l.length+1 - j)=l.length+1 by omega]
 rw [E];exact h _ (by omega)
theorem zo9 (l:List aq) (A:dy l=true):∀(r:Nat) (n:Int) (out:List Nat),r+out.length=l.length+1->(∀k,k<=r->0<=ph l k n)->ya l (r+2) n out= []
 | 0,n,out,ho,h=>by have h0:0<=n:=h 0 (by omega);rw [ya,if_pos h0,if_pos (by omega)]
 | r+1,n,out,ho,h=>by
   have h0:0<=n:=h 0 (by omega);rw [ya,if_pos h0,if_neg (by omega),<-zox l A];exact zo9 l A r _ _ (by simp;omega) fun k D=>by have:=h (k+1) (by omega);rwa [ph,if_pos h0]at this
theorem zpa (G:dy l=true) {n:Nat} (D:n<l.length) (h:¬(dt l n).length<=l.length):qb l n= []:=by
 have h1:(gq l (l.length+1) n).length=l.length+1:=by have:=zgo l (l.length+1) n;rw [dt,length_reverse]at h;omega
 have E:=(zo4 l _ _).1 h1;have F:=zo8 l D E;exact zo9 l G (l.length+1) n [] (by simp) fun k I=>by
  by_cases A:k<l.length+1
  ·exact E k A
  have:k=l.length+1:=by omega
  subst this;exact F
theorem zpb:dt l n≠ []:=by rw [dt,gq,if_pos (by omega)];simp
theorem zpc (D:dy l=true):jf l=fp l (q5 l):=by
 rw [jf,fp,Bool.eq_iff_iff,all_eq_true,all_eq_true];have key:∀i,i<l.length->(decide ((dt l i).length<=l.length)=true↔q5 l i=true):=fun i hi=>by
  rw [q5,decide_eq_true_iff,decide_eq_true_iff];constructor
  ·intro h;rw [zo7 l D i h];exact length_pos_iff.2 (zpb l i)
  intro h;by_cases A:(dt l i).length<=l.length
  ·exact A
  rw [zpa l D hi A]at h;simp at h
 constructor
 ·intro h i hi;exact (key i (mem_range.1 hi)).1 (h i hi)
 intro h i hi;exact (key i (mem_range.1 hi)).2 (h i hi)
theorem zpd {l:List aq} (D:dy l=true) (A:jf l=true) {i:Nat} (hi:i<l.length):qb l i=dt l i:=by rw [jf,all_eq_true]at A;have:=A i (mem_range.2 hi);exact zo7 l D i (of_decide_eq_true this)
theorem zpe {l:List aq} (D:dy l=true) (A:jf l=true) {i:Nat} (hi:i<l.length):ni l i=fieldsOf l i:=by rw [ni,fieldsOf,zpd D A hi]
theorem zpf {l:List aq} (D:dy l=true) (A:jf l=true) {i:Nat} (hi:i<l.length):kw l i=kr l i:=by rw [kw,kr,zpd D A hi]
theorem zpg {l:List aq} {s:ByteArray} (h:0<=cd l s):∃(n:Nat) (hn:n<l.length),cd l s=n/\l[n].name=s:=by
 unfold cd at h ⊢;split at h
 ·rename_i i hi;obtain ⟨h1,A,_⟩:=findIdx?_eq_some_iff_getElem.1 hi;exact ⟨i,h1,rfl,of_decide_eq_true A⟩
 omega
theorem zph {l:List aq} {n:Nat} (F:n<l.length) {f:bv} (A:f∈fieldsOf l n):∃c∈l,f∈c.fields:=by rw [fieldsOf,mem_flatMap]at A;obtain ⟨k,E,A⟩:=A;have D:=zgp F k E;rw [tu D]at A;exact ⟨_,gm D,A⟩
theorem zpi {s:ByteArray} (h:s.size=0):s=⟨#[]⟩:=by obtain ⟨⟨x⟩⟩:=s;have:x.length=0:=h;rw [eq_nil_of_length_eq_zero this]
theorem zpj {l:List aq} (D:dy l=true) (V:jf l=true) (Y:qn l=true) (A:∀c∈l,Ca c):mt l=q6 l:=by
 have F:=Y;rw [zou l D,q2,Bool.and_eq_true,decide_eq_true_iff,decide_eq_true_iff]at F;obtain ⟨t,Z,e1,I⟩:=zpg F.1;obtain ⟨x,E,J,e4⟩:=zpg F.2;have N:(cd l gr).toNat=x:=by rw [J];rfl
 rw [mt,q6,C2 l _ D,C2 l _ D,N,zpe D V E];have X:decide (dv l x=cd l f9)=decide ((cz l x).b9=f9):=by
  rw [Bool.eq_iff_iff,decide_eq_true_iff,decide_eq_true_iff,dv,C2 l _ D];constructor
  ·intro e;obtain ⟨m,hm,e5,L⟩:=zpg (l:=l) (s:=(cz l x).b9) (by omega);have:m=t:=by omega
   subst this;rw [<-L,I]
  intro e;rw [e]
 rw [X];cases hf:fieldsOf l x with
 | nil=>rfl
 | cons f fs=>
   show (_&&ep f.kind ⟨1,⟨#[]⟩⟩)=(_&&decide (f.kind.kind=1));obtain ⟨c,hc,G⟩:=zph E (f:=f) (by rw [hf];simp);have W:=((A c hc).2.2.2.1 f G).2;have:ep f.kind ⟨1,⟨#[]⟩⟩=decide (f.kind.kind=1):=by
    rw [ep];by_cases h1:f.kind.kind=1
    ·have O:=zpi (W.2.2.2 (by rw [h1];rfl));rw [O];simp
    simp [h1]
   rw [this]
theorem zpk {l:List aq} (E:dy l=true) (D:jf l=true):kd l=fp l (q8 l):=by
 have h:(l.all fun c=>dp (c.bd.map (·.name)))=fp l fun i=>dp ((cz l i).bd.map (·.name)):=A0 fun i hi=>by rw [tu hi]
 rw [kd,h,fp,fp,Bool.eq_iff_iff,Bool.and_eq_true,all_eq_true,all_eq_true,all_eq_true];constructor
 ·rintro ⟨h1,A⟩ i hi;rw [q8,zpe E D (mem_range.1 hi),Bool.and_eq_true];exact ⟨h1 i hi,A i hi⟩
 intro h1;have A:=fun i hi=>by have:=h1 i hi;rwa [q8,zpe E D (mem_range.1 hi),Bool.and_eq_true]at this
 exact ⟨fun i hi=>(A i hi).1,fun i hi=>(A i hi).2⟩
theorem zpl (a b:fw):ep a b=true↔a=b:=by cases a;cases b;simp [ep]
theorem zpm:∀l m:List fw,di ep l m=true↔l=m
 | [],[]=>by simp [di]
 | [],_::_=>by simp [di]
 | _::_,[]=>by simp [di]
 | x::l,y::m=>by rw [di,Bool.and_eq_true,zpl,zpm l m,List.cons.injEq]
def fits (x y:ew):Bool:=!x.static&& !y.static&&ep x.ret y.ret&&di ep x.args y.args
theorem zpn (x y:ew):fits x y=true↔x.static=false/\y.static=false/\x.ret=y.ret/\x.args=y.args:=by
 simp only [fits,Bool.and_eq_true,Bool.not_eq_true',zpl,zpm];constructor
 ·rintro ⟨⟨⟨h1,A⟩,D⟩,E⟩;exact ⟨h1,A,D,E⟩
 rintro ⟨h1,A,D,E⟩;exact ⟨⟨⟨h1,A⟩,D⟩,E⟩
theorem zpo {x y z:ew} (h:fits x z=true) (k:fits z y=true):fits x y=true:=by rw [zpn]at*;exact ⟨h.1,k.2.1,h.2.2.1.trans k.2.2.1,h.2.2.2.trans k.2.2.2⟩
theorem zpp (x y:ew):jr x y=true↔(x.name=y.name->fits x y=true):=by
 by_cases h:x.name=y.name
 ·simp only [jr,h,decide_true,Bool.not_true,Bool.false_or,forall_const];rw [zpn];simp only [Bool.and_eq_true,Bool.not_eq_true',zpl,zpm];constructor
  ·rintro ⟨⟨⟨h1,A⟩,D⟩,E⟩;exact ⟨h1,A,E,D⟩
  rintro ⟨h1,A,D,E⟩;exact ⟨⟨⟨h1,A⟩,E⟩,D⟩
 simp [jr,h]
theorem zpq {l:List ByteArray} {s:ByteArray} (h:0<=js l s):∃(k:Nat) (A:k<l.length),js l s=k/\l[k]=s:=by
 unfold js at h ⊢;cases hf:l.findIdx? (fun x=>decide (x=s))with
 | none=>rw [hf]at h;simp at h
 | some k=>
   obtain ⟨A,h1,-⟩:=findIdx?_eq_some_iff_getElem.1 hf;exact ⟨k,A,rfl,by simpa using h1⟩
theorem zpr (l:List ByteArray) (a s:ByteArray):js (l++ [a]) s=if 0<=js l s then js l s else if a=s then (l.length:Int) else -1:=by
 unfold js;rw [findIdx?_append];cases hf:l.findIdx? (fun x=>decide (x=s))with
 | some k=>simp
 | none=>
   by_cases A:a=s
   ·simp [A,findIdx?_cons]
   simp [A,findIdx?_cons]
def uy (acc:List ByteArray×List dc) (s:ByteArray):Option dc:=if 0<=js acc.1 s then acc.2[(js acc.1 s).toNat]? else none
theorem zps (h:A.1.length=A.2.length):uy (fh A x) s=if x.1=s then some x.2 else uy A s:=by
 unfold fh;by_cases F:0<=js A.1 x.1
 ·rw [if_pos F];obtain ⟨k,O,e,N⟩:=zpq F;unfold uy;by_cases D:x.1=s
  ·rw [if_pos D,<-D,if_pos F,e];simp only [Int.toNat_natCast];rw [getElem?_set_self (by omega)]
  rw [if_neg D];by_cases h0:0<=js A.1 s
  ·obtain ⟨L,I,G,E⟩:=zpq h0;rw [if_pos h0,if_pos h0,e,G];simp only [Int.toNat_natCast];rw [getElem?_set_ne];intro J;subst J;exact D (N.symm.trans E)
  rw [if_neg h0,if_neg h0]
 rw [if_neg F];unfold uy;rw [zpr];by_cases h0:0<=js A.1 s
 ·obtain ⟨L,I,G,E⟩:=zpq h0;have D:¬x.1=s:=fun e=>F (by rw [e];exact h0);rw [if_pos h0,if_pos h0,G];have:(0:Int)<=(L:Int):=by omega
  simp only [this,if_true,Int.toNat_natCast];rw [getElem?_append_left (by omega),if_neg D]
 by_cases D:x.1=s
 ·rw [if_neg h0,if_pos D,if_pos D];have:(0:Int)<=(A.1.length:Int):=by omega
  simp only [this,if_true,Int.toNat_natCast];rw [h,getElem?_append_right (nlq _)];simp
 rw [if_neg h0,if_neg D,if_neg D,if_neg h0];simp
def tj (P:List (ByteArray×dc)) (s:ByteArray) (a:Option dc):Option dc:=P.foldl (fun a x=>if x.1=s then some x.2 else a) a
theorem zpt (h:A.1.length=A.2.length):(fh A x).1.length=(fh A x).2.length:=zg4 [x] A h
theorem zpu (s:ByteArray):∀(P:List (ByteArray×dc)) (acc:List ByteArray×List dc),acc.1.length=acc.2.length->uy (P.foldl fh acc) s=tj P s (uy acc s)
 | [],_,_=>rfl
 | x::P,acc,h=>by rw [foldl_cons,zpu s P _ (zpt acc x h),zps acc x s h];rfl
theorem zpv (P:List (ByteArray×dc)) (a:Option dc):(tj P s a=a/\∀x∈P,x.1≠s)\/(∃t,tj P s a=some t/\(s,t)∈P):=by
 induction P using Ei with
 | h0=>exact inl ⟨rfl,fun x A=>by cases A⟩
 | h1 P x ih=>
   have e:tj (P++ [x]) s a=if x.1=s then some x.2 else tj P s a:=by unfold tj;rw [foldl_append];rfl
   rw [e];by_cases A:x.1=s
   ·rw [if_pos A];exact inr ⟨x.2,rfl,mem_append_right _ (by rw [<-A];simp)⟩
   rw [if_neg A];rcases ih with ⟨h1,D⟩ | ⟨t,h1,D⟩
   ·refine inl ⟨h1,fun y E=>?_⟩;rcases mem_append.1 E with h | h
    ·exact D y h
    rw [mem_singleton.1 h];exact A
   exact inr ⟨t,h1,mem_append_left _ D⟩
def xd (l:List aq) (L:List Nat) (s:ByteArray):Option dc:=tj (L.flatMap (li l)) s none
theorem zpw:xd l (L++ [u]) s=tj (li l u) s (xd l L s):=by unfold xd tj;rw [flatMap_append,foldl_append];simp
theorem zpx {l:List aq} {u:Nat} {s:ByteArray} {t:dc} (h:(s,t)∈li l u):∃(j:Nat) (hj:j<(cz l u).bd.length),t=⟨u,j⟩/\(cz l u).bd[j].name=s:=by obtain ⟨p,D,e⟩:=mem_map.1 h;obtain ⟨x,j⟩:=p;obtain ⟨h1,E,A⟩:=mem_zipIdx D;simp only [Prod.mk.injEq]at e;refine ⟨j,by omega,e.2.symm,?_⟩;rw [<-e.1,A];simp
theorem zpy {l:List aq} {u:Nat} {y:ew} (h:y∈(cz l u).bd):∃x∈li l u,x.1=y.name:=by
 obtain ⟨j,A,e⟩:=mem_iff_getElem.1 h;refine ⟨(y.name,⟨u,j⟩),?_,rfl⟩;have D:j<(li l u).length:=by rw [zg7];exact A
 have:=zg8 l u j D A;rw [e]at this;rw [<-this];exact gm D
def yx (c:aq):Prop:=∀y∈c.bd,∀z∈c.bd,y.name=z.name->y=z
theorem zpz {c:aq} (h:dp (c.bd.map (·.name))=true):yx c:=by
 intro y E z F e;rw [zoo,pairwise_map,pairwise_iff_getElem]at h;obtain ⟨i,hi,rfl⟩:=mem_iff_getElem.1 E;obtain ⟨j,D,rfl⟩:=mem_iff_getElem.1 F;rcases Nat.lt_trichotomy i j with A | A | A
 ·exact absurd e (h i j hi D A)
 ·subst A;rfl
 exact absurd e.symm (h j i D hi A)
def Bs (l:List aq) (u c:Nat):Prop:=∀x∈(cz l c).bd,∀y∈(cz l u).bd,jr x y=true
def rr (l:List aq) (L:List Nat) (x:ew):Prop:=∀t,xd l L x.name=some t->fits x (pb l t)=true
theorem zp0 (x:ew) (L:List Nat):L.Pairwise (Bs l)->(∀u∈L,yx (cz l u))->(rr l L x↔∀u∈L,∀y∈(cz l u).bd,jr x y=true):=by
 induction L using Ei with
 | h0=>
   intro _ _;refine ⟨fun _ u hu=>(by cases hu),fun _ t V=>?_⟩;simp [xd,tj]at V
 | h1 L u ih=>
   intro O X;rw [pairwise_append]at O;have W:=ih O.1 (fun v D=>X v (mem_append_left _ D));have I:=X u (by simp);rcases zpv x.name (li l u) (xd l L x.name)with ⟨e,N⟩ | ⟨t,e,hm⟩
   ·have J:rr l (L++ [u]) x↔rr l L x:=by unfold rr;rw [zpw,e]
    rw [J,W];constructor
    ·intro h v D y A;rcases mem_append.1 D with h1 | h1
     ·exact h v h1 y A
     rw [mem_singleton.1 h1]at A;obtain ⟨z,F,Z⟩:=zpy A;exact (zpp x y).2 fun G=>absurd (Z.trans G.symm) (N z F)
    exact fun h v D y A=>h v (mem_append_left _ D) y A
   obtain ⟨j,E,rfl,F⟩:=zpx hm;have J:rr l (L++ [u]) x↔fits x (cz l u).bd[j]=true:=by
    unfold rr;rw [zpw,e];constructor
    ·intro h;have:=h _ rfl;rwa [zit E]at this
    intro h t V;cases V;rw [zit E];exact h
   rw [J];constructor
   ·intro Y v D y A;rw [zpp];intro G;rcases mem_append.1 D with h1 | h1
    ·have:=O.2.2 v h1 u (by simp) _ (gm E) y A;exact zpo Y ((zpp _ _).1 this (F.trans G))
    rw [mem_singleton.1 h1]at A;rw [I y A _ (gm E) (G.symm.trans F.symm)];exact Y
   intro h;exact (zpp _ _).1 (h u (by simp) _ (gm E)) F.symm
theorem zp1 {l:List aq} (F:jf l=true) {i n:Nat} (hi:i<l.length) (I:dv l i=n):dt l i=dt l n++ [i]/\n<l.length:=by
 have G:n<l.length:=by have:=(Ej l (cz l i).b9).2;have e:dv l i=num l (cz l i).b9:=rfl;omega
 have A:(dt l i).length<=l.length:=by simpa using all_eq_true.1 F i (mem_range.2 hi)
 have D:gq l (l.length+1) i=i::gq l l.length n:=by rw [zfw _ (by omega)];simp [I]
 have E:(gq l l.length n).length<l.length:=by rw [dt,D]at A;simp at A;omega
 refine ⟨?_,G⟩;rw [dt,D,dt,zo5 l _ _ E,reverse_cons]
theorem zp2 {l:List aq} {i:Nat} (A:dv l i<0):dt l i= [i]:=by rw [dt,zfw _ (by omega)];simp only [Int.toNat_natCast];rw [zfv (by omega)];rfl
theorem zp3 (m:ew):mm l n m=true↔rr l (dt l n) m:=by
 have e:xd l (dt l n) m.name=uy (kr l n) m.name:=by rw [kr,zpu m.name _ ([],[]) rfl];rfl
 unfold rr;rw [e];unfold mm uy;show (if js (kr l n).1 m.name<0 then true else _)=true↔_;by_cases h:js (kr l n).1 m.name<0
 ·rw [if_pos h,if_neg (by omega)];simp
 rw [if_neg h,if_pos (by omega)];show (match (kr l n).2[(js (kr l n).1 m.name).toNat]? with | none=>true | some t=>!m.static&& !(pb l t).static&&ep m.ret (pb l t).ret&&di ep m.args (pb l t).args)=true↔_;cases (kr l n).2[(js (kr l n).1 m.name).toNat]? with
 | none=>simp
 | some t=>
   constructor
   ·intro h D A;cases A;exact h
   intro h;exact h t rfl
theorem zp4 {l:List aq} (hn:dy l=true) (h4:np l=true) (O:jf l=true) (Y:kd l=true) (W:num l ⟨#[]⟩<0):ny l=fp l (q9 l):=by
 have hd:∀u,u<l.length->yx (cz l u):=fun u G=>by rw [kd,Bool.and_eq_true]at Y;rw [tu G];exact zpz (all_eq_true.1 Y.2 _ (gm G))
 have E:∀i (hi:i<l.length),((cz l i).b9=⟨#[]⟩/\dv l i<0)\/((cz l i).b9≠⟨#[]⟩/\∃n:Nat,dv l i=n):=fun i hi=>by
  by_cases h:(cz l i).b9=⟨#[]⟩
  ·exact inl ⟨h,by rw [dv,h];exact W⟩
  refine inr ⟨h,?_⟩;have h1:=all_eq_true.1 h4 l[i] (gm hi);rw [tu hi]at h;have I:ng l l[i].b9=true:=by simpa [h]using h1
  have h3:0<=dv l i:=by rw [dv,tu hi];simpa [ng]using I
  exact ⟨(dv l i).toNat,by omega⟩
 have hq:∀i (hi:i<l.length),q9 l i=true↔∀u∈(dt l i).dropLast,Bs l u i:=fun i hi=>by rw [q9,zpd hn O hi];simp only [all_eq_true,Bs]
 rw [Bool.eq_iff_iff,ny,fp,all_eq_true,all_eq_true];constructor
 ·intro h;have hT:∀(i n:Nat) (_:i<l.length),dv l i=n->∀m∈(cz l i).bd,rr l (dt l n) m:=fun i n hi F m V=>by
   have h1:=h i (mem_range.2 hi);rcases E i hi with ⟨_,I⟩ | ⟨I,_⟩
   ·omega
   rw [F]at h1;simp only [I,decide_false,Bool.false_or,Int.toNat_natCast]at h1;exact (zp3 l n m).1 (all_eq_true.1 h1 m V)
  have N:∀(d i:Nat),i<l.length->(dt l i).length<=d->(dt l i).Pairwise (Bs l):=by
   intro d;induction d with
   | zero=>intro i _ J;exact absurd (eq_nil_of_length_eq_zero (by omega)) (zpb l i)
   | succ d ih=>
     intro i hi J;rcases E i hi with ⟨_,I⟩ | ⟨_,n,F⟩
     ·rw [zp2 I];exact pairwise_singleton _ _
     obtain ⟨e,D⟩:=zp1 O hi F;have L:=ih n D (by rw [e]at J;simp at J;omega);rw [e,pairwise_append];refine ⟨L,pairwise_singleton _ _,fun u G c hc=>?_⟩;rw [mem_singleton.1 hc];intro x hx;exact (zp0 l x _ L (fun v X=>hd v (zgp D v X))).1 (hT i n hi F x hx) u G
  intro i hi;have A:=mem_range.1 hi;rw [hq i A];rcases E i A with ⟨_,I⟩ | ⟨_,n,F⟩
  ·rw [zp2 I];intro u G;cases G
  obtain ⟨e,D⟩:=zp1 O A F;have L:=N _ i A (nlq _);rw [e,pairwise_append]at L;rw [e,dropLast_concat];exact fun u G=>L.2.2 u G i (by simp)
 intro h;have Z:∀(i n:Nat) (_:i<l.length),dv l i=n->∀u∈dt l n,Bs l u i:=fun i n hi F=>by have:=(hq i hi).1 (h i (mem_range.2 hi));rwa [(zp1 O hi F).1,dropLast_concat]at this
 have N:∀(d i:Nat),i<l.length->(dt l i).length<=d->(dt l i).Pairwise (Bs l):=by
  intro d;induction d with
  | zero=>intro i _ J;exact absurd (eq_nil_of_length_eq_zero (by omega)) (zpb l i)
  | succ d ih=>
    intro i hi J;rcases E i hi with ⟨_,I⟩ | ⟨_,n,F⟩
    ·rw [zp2 I];exact pairwise_singleton _ _
    obtain ⟨e,D⟩:=zp1 O hi F;have L:=ih n D (by rw [e]at J;simp at J;omega);rw [e,pairwise_append];refine ⟨L,pairwise_singleton _ _,fun u G c hc=>?_⟩;rw [mem_singleton.1 hc];exact Z i n hi F u G
 intro i hi;have A:=mem_range.1 hi;rcases E i A with ⟨h1,_⟩ | ⟨h1,n,F⟩
 ·simp [h1]
 obtain ⟨e,D⟩:=zp1 O A F;rw [F];simp only [h1,decide_false,Bool.false_or,Int.toNat_natCast];rw [all_eq_true];intro m V;rw [zp3,zp0 l m _ (N _ n D (nlq _)) (fun v X=>hd v (zgp D v X))];exact fun u G y hy=>Z i n A F u G m V y hy
end Go.Proofs.YtjdnmblggdobgaaGreat
