import Derived.Test.YtjdnmblggdobgaaGreatJLRf1LRf3
import Derived.Test.YtjdnmblggdobgaaGreatJLErrLRf4
import Derived.Test.YtjdnmblggdobgaaGreatJPlainFine
import Derived.Test.YtjdnmblggdobgaaGreatJLNoneLSaD
namespace Go.Proofs.YtjdnmblggdobgaaGreat
open Go.RowKit Go.Sort
def ev (l:List am) (q:Nat->Bool):Bool:=(List.range l.length).all q
theorem zou {l:List am} {q:Nat->Bool} {k:Nat} (A:¬k<l.length) (h:∀j,j<k->q j=true):ev l q=true:=by rw [ev,List.all_eq_true];exact fun j u=>h j (by have:=List.mem_range.1 u;omega)
theorem zov {l:List am} {q:Nat->Bool} {k:Nat} (u:k<l.length) (h:q k=false):ev l q=false:=by rw [ev,List.all_eq_false];exact ⟨k,List.mem_range.2 u,by simp [h]⟩
theorem zow {q:Nat->Bool} {k:Nat} (h:∀j,j<k->q j=true) (A:q k=true):∀j,j<k+1->q j=true:=fun j D=>by
 by_cases u:j<k
 ·exact h j u
 have:j=k:=by omega
 subst this;exact A
theorem zox {s:ByteArray} (h:¬s=⟨#[]⟩):s.toList.isEmpty=false:=by
 cases hq:s.toList with
 | nil=>exact absurd (zca hq) h
 | cons _ _=>rfl
theorem zoy (l:List ByteArray):dc l=true↔l.Pairwise (· ≠ ·):=by
 induction l using za1 with
 | h0=>simp [dc]
 | h1 l x ih=>
   rw [za4,Bool.and_eq_true,ih,List.pairwise_append,List.all_eq_true];constructor
   ·rintro ⟨h1,u⟩;refine ⟨h1,List.pairwise_singleton _ _,fun a F b A=>?_⟩;rw [List.mem_singleton]at A;subst A;have:=u a F;intro e;simp [e]at this
   rintro ⟨h1,_,u⟩;refine ⟨h1,fun y G=>?_⟩;have D:=u y G x (by simp);have E:¬x=y:=fun e=>D e.symm;simp [E]
theorem zoz {α:Type} (f:α->ByteArray) (xs:List α) (h:∀(i j:Nat) (hi:i<xs.length) (A:j<xs.length),i<j->f xs[i]≠f xs[j]):dc (xs.map f)=true:=by rw [zoy,List.pairwise_iff_getElem];intro i j hi A u;have:=h i j (by simpa using hi) (by simpa using A) u;simpa using this
theorem zo0 {α:Type} (f:α->ByteArray) (xs:List α) (i j:Nat) (hi:i<xs.length) (A:j<xs.length) (u:i<j) (h:f xs[i]=f xs[j]):dc (xs.map f)=false:=by rw [Bool.eq_false_iff,ne_eq,zoy,List.pairwise_iff_getElem];intro D;exact D i j (by simpa using hi) (by simpa using A) u (by simpa using h)
def q1 (l:List am) (i:Nat):Bool:=decide (bw l (b8 l i).name=i)
def q2 (l:List am):Bool:=decide (0<=bw l fd)&&decide (0<=bw l f9)
def q3 (l:List am) (i:Nat):Bool:=upperB (b8 l i)
def q4 (l:List am) (i:Nat):Bool:=decide ((b8 l i).bq=(⟨#[]⟩:ByteArray))||decide (0<=bw l (b8 l i).bq)
def q5 (l:List am) (i:Nat):Bool:=decide (0<(nc l i).length)
def q6 (l:List am):Bool:=decide ((b8 l (bw l f9).toNat).bq=fd)&&(match ki l (bw l f9).toNat with | []=>false | f::_=>decide (f.kind.kind=1))
def lu (l:List am) (m:dx):Bool:=m.args.all (gn l)&&gn l m.ret&&m.hands.all (fun h=>decide (0<=bw l h.da))
def q7 (l:List am) (i:Nat):Bool:=(b8 l i).fields.all (fun f=>gn l f.kind)&&(b8 l i).ar.all (lu l)
def q8 (l:List am) (i:Nat):Bool:=dc ((ki l i).map (·.name))&&dc ((b8 l i).ar.map (·.name))
def ir (x y:dx):Bool:=!decide (x.name=y.name)||(!x.static&& !y.static&&cz dw x.args y.args&&dw x.ret y.ret)
def q9 (l:List am) (i:Nat):Bool:=(nc l i).dropLast.all fun u=>(b8 l i).ar.all fun x=>(b8 l u).ar.all fun y=>ir x y
def cb (l:List am):Int:=
 if dt l≠0 then dt l else if ev l (q1 l)=false then 6 else if q2 l=false then 5 else if ev l (q3 l)=false then 4 else if ev l (q4 l)=false then 5 else if ev l (q5 l)=false then 4
 else if q6 l=false then 4 else if ev l (q7 l)=false then 5 else if ev l (q8 l)=false then 6 else if ev l (q9 l)=false then 4 else 0
theorem lk1 {l:List am} (h0:dt l=0) (h:ev l (q1 l)=false):cb l=6:=by simp [cb,h0,h]
theorem lk2 {l:List am} (h0:dt l=0) (h1:ev l (q1 l)=true) (h:q2 l=false):cb l=5:=by simp [cb,h0,h,h1]
theorem lk3 {l:List am} (h0:dt l=0) (h1:ev l (q1 l)=true) (u:q2 l=true) (h:ev l (q3 l)=false):cb l=4:=by simp [cb,h0,h,h1,u]
theorem lk4 {l:List am} (h0:dt l=0) (h1:ev l (q1 l)=true) (u:q2 l=true) (A:ev l (q3 l)=true) (h:ev l (q4 l)=false):cb l=5:=by simp [cb,h0,h,h1,u,A]
theorem lk5 {l:List am} (h0:dt l=0) (h1:ev l (q1 l)=true) (u:q2 l=true) (A:ev l (q3 l)=true) (D:ev l (q4 l)=true) (h:ev l (q5 l)=false):cb l=4:=by simp [cb,h0,h,h1,u,A,D]
theorem lk6 {l:List am} (h0:dt l=0) (h1:ev l (q1 l)=true) (u:q2 l=true) (A:ev l (q3 l)=true) (D:ev l (q4 l)=true) (E:ev l (q5 l)=true) (h:q6 l=false):cb l=4:=by simp [cb,h0,h,h1,u,A,D,E]
theorem lk7 {l:List am} (h0:dt l=0) (h1:ev l (q1 l)=true) (u:q2 l=true) (A:ev l (q3 l)=true) (D:ev l (q4 l)=true) (E:ev l (q5 l)=true) (F:q6 l=true) (h:ev l (q7 l)=false):cb l=5:=by simp [cb,h0,h,h1,u,A,D,E,F]
theorem lk8 {l:List am} (h0:dt l=0) (h1:ev l (q1 l)=true) (u:q2 l=true) (A:ev l (q3 l)=true) (D:ev l (q4 l)=true) (E:ev l (q5 l)=true) (F:q6 l=true) (G:ev l (q7 l)=true) (h:ev l (q8 l)=false):cb l=6:=by simp [cb,h0,h,h1,u,A,D,E,F,G]
theorem lk9 {l:List am} (h0:dt l=0) (h1:ev l (q1 l)=true) (u:q2 l=true) (A:ev l (q3 l)=true) (D:ev l (q4 l)=true) (E:ev l (q5 l)=true) (F:q6 l=true) (G:ev l (q7 l)=true) (I:ev l (q8 l)=true) (h:ev l (q9 l)=false):cb l=4:=by simp [cb,h0,h,h1,u,A,D,E,F,G,I]
theorem lk10 {l:List am} (h0:dt l=0) (h1:ev l (q1 l)=true) (u:q2 l=true) (A:ev l (q3 l)=true) (D:ev l (q4 l)=true) (E:ev l (q5 l)=true) (F:q6 l=true) (G:ev l (q7 l)=true) (I:ev l (q8 l)=true) (J:ev l (q9 l)=true):cb l=0:=by simp [cb,h0,h1,u,A,D,E,F,G,I,J]
end Go.Proofs.YtjdnmblggdobgaaGreat
namespace Go.Proofs.YtjdnmblggdobgaaGreat
open Go.RowKit
theorem zo1 (l:List am) (c:am) (s:ByteArray):bw (l++ [c]) s=if 0<=bw l s then bw l s else if c.name=s then (l.length:Int) else -1:=by
 by_cases h:∃(k:Nat) (E:k<l.length),l[k].name=s
 ·have O:∃k:Nat,(∃E:k<l.length,l[k].name=s)/\∀j:Nat,j<k->¬ ∃A:j<l.length,l[j].name=s:=by
   obtain ⟨k,E⟩:=h;induction k using Nat.strongRecOn with
   | _ k ih=>
     by_cases I:∃j:Nat,j<k/\∃A:j<l.length,l[j].name=s
     ·obtain ⟨j,u,A⟩:=I;exact ih j u A
     exact ⟨k,E,fun j A N=>I ⟨j,A,N⟩⟩
  obtain ⟨k,⟨E,J⟩,G⟩:=O;have h1:bw l s=k:=zob E J fun j A u e=>G j u ⟨A,e⟩;have D:k<(l++ [c]).length:=by simp;omega
  have L:bw (l++ [c]) s=k:=zob D (by rw [List.getElem_append_left E];exact J) fun j A u e=>G j u ⟨by omega,by rwa [List.getElem_append_left (by omega)]at e⟩;rw [h1,L,if_pos (by omega)]
 have h1:bw l s= -1:=zoc fun j A e=>h ⟨j,A,e⟩;rw [h1,if_neg (by omega)];split
 ·rename_i hc;have D:l.length<(l++ [c]).length:=by simp
  exact zob D (by simp [hc]) fun j A u e=>h ⟨j,u,by rwa [List.getElem_append_left u]at e⟩
 rename_i hc;refine zoc fun j A e=>?_;by_cases F:j<l.length
 ·exact h ⟨j,F,by rwa [List.getElem_append_left F]at e⟩
 have:j=l.length:=by simp at A;omega
 subst this;simp at e;exact hc e
theorem zo2 (l:List am) (s:ByteArray):dq l=true->num l s=bw l s:=by
 induction l using za1 with
 | h0=>intro _;rfl
 | h1 l c ih=>
   intro h;have h':dc (l.map (·.name))=true/\(!decide (0<=num l c.name))=true:=by have:dq (l++ [c])=(dc (l.map (·.name))&& !decide (0<=num l c.name)):=za7 l c;rw [this,Bool.and_eq_true]at h;exact h
   have u:=ih h'.1;rw [za0,zo1,<-u];by_cases hc:c.name=s
   ·rw [if_pos hc];have A:¬ 0<=num l s:=by
     have:=h'.2;rw [hc]at this;simpa using this
    rw [if_neg A,if_pos hc]
   rw [if_neg hc,if_neg hc];split
   ·rfl
   have:=(za2 l s).1;omega
theorem zo3 (l:List am):dq l=ev l (q1 l):=by
 rw [Bool.eq_iff_iff];constructor
 ·intro h;rw [ev,List.all_eq_true];intro i hi;have u:=List.mem_range.1 hi;rw [q1,decide_eq_true_iff,zay u];refine zob u rfl fun j A D e=>?_;have F:(l.map (·.name)).Pairwise (· ≠ ·):=(zoy _).1 h;rw [List.pairwise_iff_getElem]at F;exact F j i (by simpa using A) (by simpa using u) D (by simpa using e)
 intro h;rw [ev,List.all_eq_true]at h;refine zoz (fun c:am=>c.name) l fun i j hi A G e=>?_;have h1:=h j (List.mem_range.2 A);rw [q1,decide_eq_true_iff,zay A]at h1;have E:=h i (List.mem_range.2 hi);rw [q1,decide_eq_true_iff,zay hi]at E;have:(i:Int)=j:=by rw [<-h1,<-E];exact congrArg _ e
 omega
theorem zo4 (l:List am) (h:dq l=true):ni l=q2 l:=by rw [ni,q2,kw,kw,zo2 l _ h,zo2 l _ h]
theorem all_q {l:List am} {p:am->Bool} {q:Nat->Bool} (h:∀(i:Nat) (hi:i<l.length),q i=p l[i]):l.all p=ev l q:=by
 rw [Bool.eq_iff_iff,ev,List.all_eq_true,List.all_eq_true];constructor
 ·intro A i hi;have u:=List.mem_range.1 hi;rw [h i u];exact A _ (gm u)
 intro D c hc;obtain ⟨i,hi,rfl⟩:=List.getElem_of_mem hc;rw [<-h i hi];exact D i (List.mem_range.2 hi)
theorem zo5 (l:List am):askUpper l=ev l (q3 l):=all_q fun i hi=>by rw [q3,zay hi,upperB]
theorem zo6 (l:List am) (h:dq l=true):ld l=ev l (q4 l):=all_q fun i hi=>by rw [q4,zay hi,kw,zo2 l _ h]
theorem zo7 (l:List am) (h:dq l=true) (n:Nat):dj l n=supF l n:=zo2 l _ h
theorem zo8 (l:List am) (h:dq l=true) (k:ew):gn l k=gq l k:=by rw [gn,gq,kw,zo2 l _ h]
theorem zo9 (l:List am) (h:dq l=true) (m:dx):lu l m=li l m:=by
 have e:gn l=gq l:=funext fun k=>zo8 l h k;have u:(fun x:ii=>decide (0<=bw l x.da))=fun x=>kw l x.da:=funext fun x=>by rw [kw,zo2 l _ h]
 rw [lu,li,e,u]
theorem zpa (l:List am) (h:dq l=true):askTold l=ev l (q7 l):=all_q fun i hi=>by have e:(fun f:bo=>gn l f.kind)=fun f=>gq l f.kind:=funext fun f=>zo8 l h f.kind;have u:lu l=li l:=funext fun m=>zo9 l h m;rw [q7,zay hi,e,u]
theorem pigeon:∀(m:Nat) (f:Nat->Nat),(∀k,k<=m->f k<m)->∃i j,i<j/\j<=m/\f i=f j
 | 0,f,h=>absurd (h 0 (nlq _)) (by omega)
 | m+1,f,h=>by
   by_cases D:∃i,i<=m/\f i=f (m+1)
   ·obtain ⟨i,hi,e⟩:=D;exact ⟨i,m+1,by omega,by omega,e⟩
   have u:∀i,i<=m->f i≠f (m+1):=fun i hi e=>D ⟨i,hi,e⟩;have J:=h (m+1) (nlq _);obtain ⟨i,j,A,I,e⟩:=pigeon m (fun k=>if f (m+1)<f k then f k - 1 else f k) (fun k F=>by
    have h1:=h k (by omega);have E:=u k F;show (if f (m+1)<f k then f k - 1 else f k)<m;split<;>omega)
   refine ⟨i,j,A,by omega,?_⟩;have E:=u i (by omega);have G:=u j (by omega);split at e<;>split at e<;>omega
def mq (l:List am):Nat->Int->Int
 | 0,n=>n
 | k+1,n=>if 0<=n then mq l k (dj l n.toNat) else n
theorem zpb (l:List am) {n:Int} (h:¬ 0<=n):∀k,mq l k n=n
 | 0=>rfl
 | k+1=>by rw [mq,if_neg h]
theorem zpc (l:List am):∀(a b:Nat) (n:Int),mq l (a+b) n=mq l b (mq l a n)
 | 0,b,n=>by simp [mq]
 | a+1,b,n=>by
   rw [show a+1+b=(a+b)+1 by omega,mq,mq];by_cases h:0<=n
   ·rw [if_pos h,if_pos h];exact zpc l a b _
   rw [if_neg h,if_neg h,zpb l h]
theorem zpd (l:List am):∀(k:Nat) (n:Int),n<l.length->mq l k n<l.length
 | 0,n,h=>h
 | k+1,n,h=>by
   rw [mq];split
   ·exact zpd l k _ (zf4 l _).2
   exact h
theorem zpe (l:List am):∀(f:Nat) (n:Int),(fy l f n).length=f↔∀k,k<f->0<=mq l k n
 | 0,n=>by simp [fy]
 | f+1,n=>by
   rw [fy];by_cases h:0<=n
   ·rw [if_pos h,List.length_cons];have A:=zpe l f (dj l n.toNat);constructor
    ·intro e k D;cases k with
     | zero=>exact h
     | succ k=>
       rw [mq,if_pos h];exact A.1 (by omega) k (by omega)
    intro u;have:(fy l f (dj l n.toNat)).length=f:=A.2 fun k D=>by have:=u (k+1) (by omega);rwa [mq,if_pos h]at this
    omega
   rw [if_neg h];constructor
   ·intro e;simp at e
   intro u;exact absurd (u 0 (by omega)) h
theorem zpf (l:List am):∀(f:Nat) (n:Int),(fy l f n).length<f->fy l (f+1) n=fy l f n
 | 0,n,h=>by simp at h
 | f+1,n,h=>by
   by_cases h0:0<=n
   ·rw [fy,if_pos h0,List.length_cons]at h;have u:fy l (f+1+1) n=n.toNat::fy l (f+1) (dj l n.toNat):=by rw [fy,if_pos h0]
    have A:fy l (f+1) n=n.toNat::fy l f (dj l n.toNat):=by rw [fy,if_pos h0]
    rw [u,A,zpf l f _ (by omega)]
   rw [zf5 h0,zf5 h0]
theorem zpg (l:List am) (u:dq l=true):∀(r:Nat) (n:Int) (out:List Nat),r+out.length=l.length+1->(fy l (r+1) n).length<=r->upF l (r+2) n out=(fy l r n).reverse++out
 | 0,n,out,ho,h=>by
   rw [upF];by_cases h0:0<=n
   ·rw [fy,if_pos h0]at h;simp at h
   rw [if_neg h0];simp [fy]
 | r+1,n,out,ho,h=>by
   rw [upF];by_cases h0:0<=n
   ·rw [if_pos h0,if_neg (by omega),<-zo7 l u,zpg l u r _ _ (by simp;omega) (by rw [fy,if_pos h0,List.length_cons]at h;omega),fy,if_pos h0];simp
   rw [if_neg h0,fy,if_neg h0];simp
theorem zph (l:List am) (u:dq l=true) (n:Nat) (h:(di l n).length<=l.length):nc l n=di l n:=by
 have h1:(fy l (l.length+1) n).length<=l.length:=by rwa [di,List.length_reverse]at h
 have:=zpg l u (l.length+1) n [] (by simp) (by rw [zpf l _ _ (by omega)];omega);rw [nc,di,this,List.append_nil]
theorem zpi (l:List am) {n:Nat} (I:n<l.length) (h:∀k,k<l.length+1->0<=mq l k n):0<=mq l (l.length+1) n:=by
 obtain ⟨i,j,E,F,e⟩:=pigeon l.length (fun k=>(mq l k n).toNat) (fun k G=>by
  have h1:=h k (by omega);have A:=zpd l k n (by omega);show (mq l k n).toNat<l.length;omega)
 have u:mq l i n=mq l j n:=by have h1:=h i (by omega);have A:=h j (by omega);omega
 have D:mq l (l.length+1) n=mq l (i+(l.length+1 - j)) n:=by rw [show l.length+1=j+(l.length+1 - j) by omega,zpc,<-u,<-zpc,show j+(l.length+1 - j)=l.length+1 by omega]
 rw [D];exact h _ (by omega)
theorem zpj (l:List am) (u:dq l=true):∀(r:Nat) (n:Int) (out:List Nat),r+out.length=l.length+1->(∀k,k<=r->0<=mq l k n)->upF l (r+2) n out= []
 | 0,n,out,ho,h=>by have h0:0<=n:=h 0 (by omega);rw [upF,if_pos h0,if_pos (by omega)]
 | r+1,n,out,ho,h=>by
   have h0:0<=n:=h 0 (by omega);rw [upF,if_pos h0,if_neg (by omega),<-zo7 l u];exact zpj l u r _ _ (by simp;omega) fun k A=>by have:=h (k+1) (by omega);rwa [mq,if_pos h0]at this
theorem zpk (l:List am) (F:dq l=true) {n:Nat} (A:n<l.length) (h:¬(di l n).length<=l.length):nc l n= []:=by
 have h1:(fy l (l.length+1) n).length=l.length+1:=by have:=zgx l (l.length+1) n;rw [di,List.length_reverse]at h;omega
 have D:=(zpe l _ _).1 h1;have E:=zpi l A D;exact zpj l F (l.length+1) n [] (by simp) fun k G=>by
  by_cases u:k<l.length+1
  ·exact D k u
  have:k=l.length+1:=by omega
  subst this;exact E
theorem zpl (l:List am) (n:Nat):di l n≠ []:=by rw [di,fy,if_pos (by omega)];simp
theorem zpm (l:List am) (A:dq l=true):ik l=ev l (q5 l):=by
 rw [ik,ev,Bool.eq_iff_iff,List.all_eq_true,List.all_eq_true];have key:∀i,i<l.length->(decide ((di l i).length<=l.length)=true↔q5 l i=true):=fun i hi=>by
  rw [q5,decide_eq_true_iff,decide_eq_true_iff];constructor
  ·intro h;rw [zph l A i h];exact List.length_pos_iff.2 (zpl l i)
  intro h;by_cases u:(di l i).length<=l.length
  ·exact u
  rw [zpk l A hi u]at h;simp at h
 constructor
 ·intro h i hi;exact (key i (List.mem_range.1 hi)).1 (h i hi)
 intro h i hi;exact (key i (List.mem_range.1 hi)).2 (h i hi)
theorem zpn {l:List am} (A:dq l=true) (u:ik l=true) {i:Nat} (hi:i<l.length):nc l i=di l i:=by rw [ik,List.all_eq_true]at u;have:=u i (List.mem_range.2 hi);exact zph l A i (of_decide_eq_true this)
theorem zpo {l:List am} (A:dq l=true) (u:ik l=true) {i:Nat} (hi:i<l.length):ki l i=fieldsOf l i:=by rw [ki,fieldsOf,zpn A u hi]
theorem zpp {l:List am} (A:dq l=true) (u:ik l=true) {i:Nat} (hi:i<l.length):ji l i=jm l i:=by rw [ji,jm,zpn A u hi]
theorem zpq {l:List am} {s:ByteArray} (h:0<=bw l s):∃(n:Nat) (hn:n<l.length),bw l s=n/\l[n].name=s:=by
 unfold bw at h ⊢;split at h
 ·rename_i i hi;obtain ⟨h1,u,_⟩:=List.findIdx?_eq_some_iff_getElem.1 hi;exact ⟨i,h1,rfl,of_decide_eq_true u⟩
 omega
theorem zpr {l:List am} {n:Nat} (E:n<l.length) {f:bo} (u:f∈fieldsOf l n):∃c∈l,f∈c.fields:=by rw [fieldsOf,List.mem_flatMap]at u;obtain ⟨k,D,u⟩:=u;have A:=zgy E k D;rw [zay A]at u;exact ⟨_,gm A,u⟩
theorem zps {s:ByteArray} (h:s.size=0):s=⟨#[]⟩:=by obtain ⟨⟨x⟩⟩:=s;have:x.length=0:=h;rw [List.eq_nil_of_length_eq_zero this]
theorem zpt {l:List am} (A:dq l=true) (O:ik l=true) (X:ni l=true) (u:∀c∈l,FineC c):j9 l=q6 l:=by
 have E:=X;rw [zo4 l A,q2,Bool.and_eq_true,decide_eq_true_iff,decide_eq_true_iff]at E;obtain ⟨t,Y,Z,G⟩:=zpq E.1;obtain ⟨x,D,I,e4⟩:=zpq E.2;have L:(bw l f9).toNat=x:=by rw [I];rfl
 rw [j9,q6,zo2 l _ A,zo2 l _ A,L,zpo A O D];have W:decide (dj l x=bw l fd)=decide ((b8 l x).bq=fd):=by
  rw [Bool.eq_iff_iff,decide_eq_true_iff,decide_eq_true_iff,dj,zo2 l _ A];constructor
  ·intro e;obtain ⟨m,hm,e5,J⟩:=zpq (l:=l) (s:=(b8 l x).bq) (by omega);have:m=t:=by omega
   subst this;rw [<-J,G]
  intro e;rw [e]
 rw [W];cases hf:fieldsOf l x with
 | nil=>rfl
 | cons f fs=>
   show (_&&dw f.kind ⟨1,⟨#[]⟩⟩)=(_&&decide (f.kind.kind=1));obtain ⟨c,hc,F⟩:=zpr D (f:=f) (by rw [hf];simp);have V:=((u c hc).2.2.2.1 f F).2;have:dw f.kind ⟨1,⟨#[]⟩⟩=decide (f.kind.kind=1):=by
    rw [dw];by_cases h1:f.kind.kind=1
    ·have N:=zps (V.2.2.2 (by rw [h1];rfl));rw [N];simp
    simp [h1]
   rw [this]
theorem zpu {l:List am} (D:dq l=true) (A:ik l=true):jb l=ev l (q8 l):=by
 have h:(l.all fun c=>dc (c.ar.map (·.name)))=ev l fun i=>dc ((b8 l i).ar.map (·.name)):=all_q fun i hi=>by rw [zay hi]
 rw [jb,h,ev,ev,Bool.eq_iff_iff,Bool.and_eq_true,List.all_eq_true,List.all_eq_true,List.all_eq_true];constructor
 ·rintro ⟨h1,u⟩ i hi;rw [q8,zpo D A (List.mem_range.1 hi),Bool.and_eq_true];exact ⟨h1 i hi,u i hi⟩
 intro h1;have u:=fun i hi=>by have:=h1 i hi;rwa [q8,zpo D A (List.mem_range.1 hi),Bool.and_eq_true]at this
 exact ⟨fun i hi=>(u i hi).1,fun i hi=>(u i hi).2⟩
theorem zpv (a b:ew):dw a b=true↔a=b:=by cases a;cases b;simp [dw]
theorem zpw:∀l m:List ew,cz dw l m=true↔l=m
 | [],[]=>by simp [cz]
 | [],_::_=>by simp [cz]
 | _::_,[]=>by simp [cz]
 | x::l,y::m=>by rw [cz,Bool.and_eq_true,zpv,zpw l m,List.cons.injEq]
def fits (x y:dx):Bool:=!x.static&& !y.static&&dw x.ret y.ret&&cz dw x.args y.args
theorem zpx (x y:dx):fits x y=true↔x.static=false/\y.static=false/\x.ret=y.ret/\x.args=y.args:=by
 simp only [fits,Bool.and_eq_true,Bool.not_eq_true',zpv,zpw];constructor
 ·rintro ⟨⟨⟨h1,u⟩,A⟩,D⟩;exact ⟨h1,u,A,D⟩
 rintro ⟨h1,u,A,D⟩;exact ⟨⟨⟨h1,u⟩,A⟩,D⟩
theorem zpy {x y z:dx} (h:fits x z=true) (k:fits z y=true):fits x y=true:=by rw [zpx]at*;exact ⟨h.1,k.2.1,h.2.2.1.trans k.2.2.1,h.2.2.2.trans k.2.2.2⟩
theorem zpz (x y:dx):ir x y=true↔(x.name=y.name->fits x y=true):=by
 by_cases h:x.name=y.name
 ·simp only [ir,h,decide_true,Bool.not_true,Bool.false_or,forall_const];rw [zpx];simp only [Bool.and_eq_true,Bool.not_eq_true',zpv,zpw];constructor
  ·rintro ⟨⟨⟨h1,u⟩,A⟩,D⟩;exact ⟨h1,u,D,A⟩
  rintro ⟨h1,u,A,D⟩;exact ⟨⟨⟨h1,u⟩,D⟩,A⟩
 simp [ir,h]
theorem zp0 {l:List ByteArray} {s:ByteArray} (h:0<=iu l s):∃(k:Nat) (u:k<l.length),iu l s=k/\l[k]=s:=by
 unfold iu at h ⊢;cases hf:l.findIdx? (fun x=>decide (x=s))with
 | none=>rw [hf]at h;simp at h
 | some k=>
   obtain ⟨u,h1,-⟩:=List.findIdx?_eq_some_iff_getElem.1 hf;exact ⟨k,u,rfl,by simpa using h1⟩
theorem zp1 (l:List ByteArray) (a s:ByteArray):iu (l++ [a]) s=if 0<=iu l s then iu l s else if a=s then (l.length:Int) else -1:=by
 unfold iu;rw [List.findIdx?_append];cases hf:l.findIdx? (fun x=>decide (x=s))with
 | some k=>simp
 | none=>
   by_cases u:a=s
   ·simp [u,List.findIdx?_cons]
   simp [u,List.findIdx?_cons]
def lookT (acc:List ByteArray×List cd) (s:ByteArray):Option cd:=if 0<=iu acc.1 s then acc.2[(iu acc.1 s).toNat]? else none
theorem zp2 (u:List ByteArray×List cd) (x:ByteArray×cd) (s:ByteArray) (h:u.1.length=u.2.length):lookT (ed u x) s=if x.1=s then some x.2 else lookT u s:=by
 unfold ed;by_cases E:0<=iu u.1 x.1
 ·rw [if_pos E];obtain ⟨k,N,e,L⟩:=zp0 E;unfold lookT;by_cases A:x.1=s
  ·rw [if_pos A,<-A,if_pos E,e];simp only [Int.toNat_natCast];rw [List.getElem?_set_self (by omega)]
  rw [if_neg A];by_cases h0:0<=iu u.1 s
  ·obtain ⟨J,G,F,D⟩:=zp0 h0;rw [if_pos h0,if_pos h0,e,F];simp only [Int.toNat_natCast];rw [List.getElem?_set_ne];intro I;subst I;exact A (L.symm.trans D)
  rw [if_neg h0,if_neg h0]
 rw [if_neg E];unfold lookT;rw [zp1];by_cases h0:0<=iu u.1 s
 ·obtain ⟨J,G,F,D⟩:=zp0 h0;have A:¬x.1=s:=fun e=>E (by rw [e];exact h0);rw [if_pos h0,if_pos h0,F];have:(0:Int)<=(J:Int):=by omega
  simp only [this,if_true,Int.toNat_natCast];rw [List.getElem?_append_left (by omega),if_neg A]
 by_cases A:x.1=s
 ·rw [if_neg h0,if_pos A,if_pos A];have:(0:Int)<=(u.1.length:Int):=by omega
  simp only [this,if_true,Int.toNat_natCast];rw [h,List.getElem?_append_right (nlq _)];simp
 rw [if_neg h0,if_neg A,if_neg A,if_neg h0];simp
def lookF (P:List (ByteArray×cd)) (s:ByteArray) (a:Option cd):Option cd:=P.foldl (fun a x=>if x.1=s then some x.2 else a) a
theorem zp3 (u:List ByteArray×List cd) (x:ByteArray×cd) (h:u.1.length=u.2.length):(ed u x).1.length=(ed u x).2.length:=zhd [x] u h
theorem zp4 (s:ByteArray):∀(P:List (ByteArray×cd)) (acc:List ByteArray×List cd),acc.1.length=acc.2.length->lookT (P.foldl ed acc) s=lookF P s (lookT acc s)
 | [],_,_=>rfl
 | x::P,acc,h=>by rw [List.foldl_cons,zp4 s P _ (zp3 acc x h),zp2 acc x s h];rfl
theorem zp5 (s:ByteArray) (P:List (ByteArray×cd)) (a:Option cd):(lookF P s a=a/\∀x∈P,x.1≠s)\/(∃t,lookF P s a=some t/\(s,t)∈P):=by
 induction P using za1 with
 | h0=>exact Or.inl ⟨rfl,fun x u=>by cases u⟩
 | h1 P x ih=>
   have e:lookF (P++ [x]) s a=if x.1=s then some x.2 else lookF P s a:=by unfold lookF;rw [List.foldl_append];rfl
   rw [e];by_cases u:x.1=s
   ·rw [if_pos u];exact Or.inr ⟨x.2,rfl,List.mem_append_right _ (by rw [<-u];simp)⟩
   rw [if_neg u];rcases ih with ⟨h1,A⟩ | ⟨t,h1,A⟩
   ·refine Or.inl ⟨h1,fun y D=>?_⟩;rcases List.mem_append.1 D with h | h
    ·exact A y h
    rw [List.mem_singleton.1 h];exact u
   exact Or.inr ⟨t,h1,List.mem_append_left _ A⟩
def lookC (l:List am) (L:List Nat) (s:ByteArray):Option cd:=lookF (L.flatMap (js l)) s none
theorem zp6 (l:List am) (L:List Nat) (u:Nat) (s:ByteArray):lookC l (L++ [u]) s=lookF (js l u) s (lookC l L s):=by unfold lookC lookF;rw [List.flatMap_append,List.foldl_append];simp
theorem zp7 {l:List am} {u:Nat} {s:ByteArray} {t:cd} (h:(s,t)∈js l u):∃(j:Nat) (hj:j<(b8 l u).ar.length),t=⟨u,j⟩/\(b8 l u).ar[j].name=s:=by obtain ⟨p,D,e⟩:=List.mem_map.1 h;obtain ⟨x,j⟩:=p;obtain ⟨h1,E,A⟩:=List.mem_zipIdx D;simp only [Prod.mk.injEq]at e;refine ⟨j,by omega,e.2.symm,?_⟩;rw [<-e.1,A];simp
theorem zp8 {l:List am} {u:Nat} {y:dx} (h:y∈(b8 l u).ar):∃x∈js l u,x.1=y.name:=by
 obtain ⟨j,A,e⟩:=List.mem_iff_getElem.1 h;refine ⟨(y.name,⟨u,j⟩),?_,rfl⟩;have D:j<(js l u).length:=by rw [zhg];exact A
 have:=zhh l u j D A;rw [e]at this;rw [<-this];exact gm D
def oneName (c:am):Prop:=∀y∈c.ar,∀z∈c.ar,y.name=z.name->y=z
theorem zp9 {c:am} (h:dc (c.ar.map (·.name))=true):oneName c:=by
 intro y D z E e;rw [zoy,List.pairwise_map,List.pairwise_iff_getElem]at h;obtain ⟨i,hi,rfl⟩:=List.mem_iff_getElem.1 D;obtain ⟨j,A,rfl⟩:=List.mem_iff_getElem.1 E;rcases Nat.lt_trichotomy i j with u | u | u
 ·exact absurd e (h i j hi A u)
 ·subst u;rfl
 exact absurd e.symm (h j i A hi u)
def relU (l:List am) (u c:Nat):Prop:=∀x∈(b8 l c).ar,∀y∈(b8 l u).ar,ir x y=true
def oz (l:List am) (L:List Nat) (x:dx):Prop:=∀t,lookC l L x.name=some t->fits x (mc l t)=true
theorem zqa (l:List am) (x:dx) (L:List Nat):L.Pairwise (relU l)->(∀u∈L,oneName (b8 l u))->(oz l L x↔∀u∈L,∀y∈(b8 l u).ar,ir x y=true):=by
 induction L using za1 with
 | h0=>
   intro _ _;refine ⟨fun _ u hu=>(by cases hu),fun _ t V=>?_⟩;simp [lookC,lookF]at V
 | h1 L u ih=>
   intro O X;rw [List.pairwise_append]at O;have W:=ih O.1 (fun v D=>X v (List.mem_append_left _ D));have I:=X u (by simp);rcases zp5 x.name (js l u) (lookC l L x.name)with ⟨e,N⟩ | ⟨t,e,hm⟩
   ·have J:oz l (L++ [u]) x↔oz l L x:=by unfold oz;rw [zp6,e]
    rw [J,W];constructor
    ·intro h v D y A;rcases List.mem_append.1 D with h1 | h1
     ·exact h v h1 y A
     rw [List.mem_singleton.1 h1]at A;obtain ⟨z,F,Z⟩:=zp8 A;exact (zpz x y).2 fun G=>absurd (Z.trans G.symm) (N z F)
    exact fun h v D y A=>h v (List.mem_append_left _ D) y A
   obtain ⟨j,E,rfl,F⟩:=zp7 hm;have J:oz l (L++ [u]) x↔fits x (b8 l u).ar[j]=true:=by
    unfold oz;rw [zp6,e];constructor
    ·intro h;have:=h _ rfl;rwa [zi2 E]at this
    intro h t V;cases V;rw [zi2 E];exact h
   rw [J];constructor
   ·intro Y v D y A;rw [zpz];intro G;rcases List.mem_append.1 D with h1 | h1
    ·have:=O.2.2 v h1 u (by simp) _ (gm E) y A;exact zpy Y ((zpz _ _).1 this (F.trans G))
    rw [List.mem_singleton.1 h1]at A;rw [I y A _ (gm E) (G.symm.trans F.symm)];exact Y
   intro h;exact (zpz _ _).1 (h u (by simp) _ (gm E)) F.symm
theorem zqb {l:List am} (E:ik l=true) {i n:Nat} (hi:i<l.length) (G:dj l i=n):di l i=di l n++ [i]/\n<l.length:=by
 have F:n<l.length:=by have:=(za2 l (b8 l i).bq).2;have e:dj l i=num l (b8 l i).bq:=rfl;omega
 have u:(di l i).length<=l.length:=by simpa using List.all_eq_true.1 E i (List.mem_range.2 hi)
 have A:fy l (l.length+1) i=i::fy l l.length n:=by rw [zf6 _ (by omega)];simp [G]
 have D:(fy l l.length n).length<l.length:=by rw [di,A]at u;simp at u;omega
 refine ⟨?_,F⟩;rw [di,A,di,zpf l _ _ D,List.reverse_cons]
theorem zqc {l:List am} {i:Nat} (u:dj l i<0):di l i= [i]:=by rw [di,zf6 _ (by omega)];simp only [Int.toNat_natCast];rw [zf5 (by omega)];rfl
theorem zqd (l:List am) (n:Nat) (m:dx):j7 l n m=true↔oz l (di l n) m:=by
 have e:lookC l (di l n) m.name=lookT (jm l n) m.name:=by rw [jm,zp4 m.name _ ([],[]) rfl];rfl
 unfold oz;rw [e];unfold j7 lookT;show (if iu (jm l n).1 m.name<0 then true else _)=true↔_;by_cases h:iu (jm l n).1 m.name<0
 ·rw [if_pos h,if_neg (by omega)];simp
 rw [if_neg h,if_pos (by omega)];show (match (jm l n).2[(iu (jm l n).1 m.name).toNat]? with | none=>true | some t=>!m.static&& !(mc l t).static&&dw m.ret (mc l t).ret&&cz dw m.args (mc l t).args)=true↔_;cases (jm l n).2[(iu (jm l n).1 m.name).toNat]? with
 | none=>simp
 | some t=>
   constructor
   ·intro h A u;cases u;exact h
   intro h;exact h t rfl
theorem zqe {l:List am} (hn:dq l=true) (h4:ld l=true) (O:ik l=true) (Y:jb l=true) (W:num l ⟨#[]⟩<0):ll l=ev l (q9 l):=by
 have hd:∀u,u<l.length->oneName (b8 l u):=fun u G=>by rw [jb,Bool.and_eq_true]at Y;rw [zay G];exact zp9 (List.all_eq_true.1 Y.2 _ (gm G))
 have E:∀i (hi:i<l.length),((b8 l i).bq=⟨#[]⟩/\dj l i<0)\/((b8 l i).bq≠⟨#[]⟩/\∃n:Nat,dj l i=n):=fun i hi=>by
  by_cases h:(b8 l i).bq=⟨#[]⟩
  ·exact Or.inl ⟨h,by rw [dj,h];exact W⟩
  refine Or.inr ⟨h,?_⟩;have h1:=List.all_eq_true.1 h4 l[i] (gm hi);rw [zay hi]at h;have I:kw l l[i].bq=true:=by simpa [h]using h1
  have h3:0<=dj l i:=by rw [dj,zay hi];simpa [kw]using I
  exact ⟨(dj l i).toNat,by omega⟩
 have hq:∀i (hi:i<l.length),q9 l i=true↔∀u∈(di l i).dropLast,relU l u i:=fun i hi=>by rw [q9,zpn hn O hi];simp only [List.all_eq_true,relU]
 rw [Bool.eq_iff_iff,ll,ev,List.all_eq_true,List.all_eq_true];constructor
 ·intro h;have hT:∀(i n:Nat) (_:i<l.length),dj l i=n->∀m∈(b8 l i).ar,oz l (di l n) m:=fun i n hi F m V=>by
   have h1:=h i (List.mem_range.2 hi);rcases E i hi with ⟨_,I⟩ | ⟨I,_⟩
   ·omega
   rw [F]at h1;simp only [I,decide_false,Bool.false_or,Int.toNat_natCast]at h1;exact (zqd l n m).1 (List.all_eq_true.1 h1 m V)
  have N:∀(d i:Nat),i<l.length->(di l i).length<=d->(di l i).Pairwise (relU l):=by
   intro d;induction d with
   | zero=>intro i _ J;exact absurd (List.eq_nil_of_length_eq_zero (by omega)) (zpl l i)
   | succ d ih=>
     intro i hi J;rcases E i hi with ⟨_,I⟩ | ⟨_,n,F⟩
     ·rw [zqc I];exact List.pairwise_singleton _ _
     obtain ⟨e,D⟩:=zqb O hi F;have L:=ih n D (by rw [e]at J;simp at J;omega);rw [e,List.pairwise_append];refine ⟨L,List.pairwise_singleton _ _,fun u G c hc=>?_⟩;rw [List.mem_singleton.1 hc];intro x hx;exact (zqa l x _ L (fun v X=>hd v (zgy D v X))).1 (hT i n hi F x hx) u G
  intro i hi;have A:=List.mem_range.1 hi;rw [hq i A];rcases E i A with ⟨_,I⟩ | ⟨_,n,F⟩
  ·rw [zqc I];intro u G;cases G
  obtain ⟨e,D⟩:=zqb O A F;have L:=N _ i A (nlq _);rw [e,List.pairwise_append]at L;rw [e,List.dropLast_concat];exact fun u G=>L.2.2 u G i (by simp)
 intro h;have Z:∀(i n:Nat) (_:i<l.length),dj l i=n->∀u∈di l n,relU l u i:=fun i n hi F=>by have:=(hq i hi).1 (h i (List.mem_range.2 hi));rwa [(zqb O hi F).1,List.dropLast_concat]at this
 have N:∀(d i:Nat),i<l.length->(di l i).length<=d->(di l i).Pairwise (relU l):=by
  intro d;induction d with
  | zero=>intro i _ J;exact absurd (List.eq_nil_of_length_eq_zero (by omega)) (zpl l i)
  | succ d ih=>
    intro i hi J;rcases E i hi with ⟨_,I⟩ | ⟨_,n,F⟩
    ·rw [zqc I];exact List.pairwise_singleton _ _
    obtain ⟨e,D⟩:=zqb O hi F;have L:=ih n D (by rw [e]at J;simp at J;omega);rw [e,List.pairwise_append];refine ⟨L,List.pairwise_singleton _ _,fun u G c hc=>?_⟩;rw [List.mem_singleton.1 hc];exact Z i n hi F u G
 intro i hi;have A:=List.mem_range.1 hi;rcases E i A with ⟨h1,_⟩ | ⟨h1,n,F⟩
 ·simp [h1]
 obtain ⟨e,D⟩:=zqb O A F;rw [F];simp only [h1,decide_false,Bool.false_or,Int.toNat_natCast];rw [List.all_eq_true];intro m V;rw [zqd,zqa l m _ (N _ n D (nlq _)) (fun v X=>hd v (zgy D v X))];exact fun u G y hy=>Z i n A F u G m V y hy
end Go.Proofs.YtjdnmblggdobgaaGreat
