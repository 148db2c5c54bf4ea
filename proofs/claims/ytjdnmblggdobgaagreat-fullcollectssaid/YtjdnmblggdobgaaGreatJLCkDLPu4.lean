import Derived.Test.YtjdnmblggdobgaaGreatJLRf1LRf3
import Derived.Test.YtjdnmblggdobgaaGreatJLErrLRf4
import Derived.Test.YtjdnmblggdobgaaGreatJPlainFine
import Derived.Test.YtjdnmblggdobgaaGreatJLNoneLSaD
namespace Go.Proofs.YtjdnmblggdobgaaGreat
open Go.RowKit Go.Sort
def ew (l:List am) (q:Nat->Bool):Bool:=(List.range l.length).all q
theorem zou {l:List am} {q:Nat->Bool} {k:Nat} (A:¬k<l.length) (h:∀j,j<k->q j=true):ew l q=true:=by rw [ew,List.all_eq_true];exact fun j u=>h j (by have:=List.mem_range.1 u;omega)
theorem zov {l:List am} {q:Nat->Bool} {k:Nat} (u:k<l.length) (h:q k=false):ew l q=false:=by rw [ew,List.all_eq_false];exact ⟨k,List.mem_range.2 u,by simp [h]⟩
theorem zow {q:Nat->Bool} {k:Nat} (h:∀j,j<k->q j=true) (A:q k=true):∀j,j<k+1->q j=true:=fun j D=>by
 by_cases u:j<k
 ·exact h j u
 have:j=k:=by omega
 subst this;exact A
theorem zox {s:ByteArray} (h:¬s=⟨#[]⟩):s.toList.isEmpty=false:=by
 cases hq:s.toList with
 | nil=>exact absurd (zca hq) h
 | cons _ _=>rfl
theorem zoy (l:List ByteArray):de l=true↔l.Pairwise (· ≠ ·):=by
 induction l using za1 with
 | h0=>simp [de]
 | h1 l x ih=>
   rw [za4,Bool.and_eq_true,ih,List.pairwise_append,List.all_eq_true];constructor
   ·rintro ⟨h1,u⟩;refine ⟨h1,List.pairwise_singleton _ _,fun a F b A=>?_⟩;rw [List.mem_singleton]at A;subst A;have:=u a F;intro e;simp [e]at this
   rintro ⟨h1,_,u⟩;refine ⟨h1,fun y G=>?_⟩;have D:=u y G x (by simp);have E:¬x=y:=fun e=>D e.symm;simp [E]
theorem zoz {α:Type} (f:α->ByteArray) (xs:List α) (h:∀(i j:Nat) (hi:i<xs.length) (A:j<xs.length),i<j->f xs[i]≠f xs[j]):de (xs.map f)=true:=by rw [zoy,List.pairwise_iff_getElem];intro i j hi A u;have:=h i j (by simpa using hi) (by simpa using A) u;simpa using this
theorem zo0 {α:Type} (f:α->ByteArray) (xs:List α) (i j:Nat) (hi:i<xs.length) (A:j<xs.length) (u:i<j) (h:f xs[i]=f xs[j]):de (xs.map f)=false:=by rw [Bool.eq_false_iff,ne_eq,zoy,List.pairwise_iff_getElem];intro D;exact D i j (by simpa using hi) (by simpa using A) u (by simpa using h)
def q1 (l:List am) (i:Nat):Bool:=decide (b9 l (cb l i).name=i)
def q2 (l:List am):Bool:=decide (0<=b9 l fd)&&decide (0<=b9 l fw)
def q3 (l:List am) (i:Nat):Bool:=upperB (cb l i)
def q4 (l:List am) (i:Nat):Bool:=decide ((cb l i).bp=(⟨#[]⟩:ByteArray))||decide (0<=b9 l (cb l i).bp)
def q5 (l:List am) (i:Nat):Bool:=decide (0<(mt l i).length)
def q6 (l:List am):Bool:=decide ((cb l (b9 l fw).toNat).bp=fd)&&(match j5 l (b9 l fw).toNat with | []=>false | f::_=>decide (f.kind.kind=1))
def ld (l:List am) (m:d7):Bool:=m.args.all (gn l)&&gn l m.ret&&m.hands.all (fun h=>decide (0<=b9 l h.db))
def q7 (l:List am) (i:Nat):Bool:=(cb l i).fields.all (fun f=>gn l f.kind)&&(cb l i).ax.all (ld l)
def q8 (l:List am) (i:Nat):Bool:=de ((j5 l i).map (·.name))&&de ((cb l i).ax.map (·.name))
def iu (x y:d7):Bool:=!decide (x.name=y.name)||(!x.static&& !y.static&&da dy x.args y.args&&dy x.ret y.ret)
def q9 (l:List am) (i:Nat):Bool:=(mt l i).dropLast.all fun u=>(cb l i).ax.all fun x=>(cb l u).ax.all fun y=>iu x y
def ck (l:List am):Int:=
 if dw l≠0 then dw l else if ew l (q1 l)=false then 6 else if q2 l=false then 5 else if ew l (q3 l)=false then 4 else if ew l (q4 l)=false then 5 else if ew l (q5 l)=false then 4
 else if q6 l=false then 4 else if ew l (q7 l)=false then 5 else if ew l (q8 l)=false then 6 else if ew l (q9 l)=false then 4 else 0
theorem lk1 {l:List am} (h0:dw l=0) (h:ew l (q1 l)=false):ck l=6:=by simp [ck,h0,h]
theorem lk2 {l:List am} (h0:dw l=0) (h1:ew l (q1 l)=true) (h:q2 l=false):ck l=5:=by simp [ck,h0,h,h1]
theorem lk3 {l:List am} (h0:dw l=0) (h1:ew l (q1 l)=true) (u:q2 l=true) (h:ew l (q3 l)=false):ck l=4:=by simp [ck,h0,h,h1,u]
theorem lk4 {l:List am} (h0:dw l=0) (h1:ew l (q1 l)=true) (u:q2 l=true) (A:ew l (q3 l)=true) (h:ew l (q4 l)=false):ck l=5:=by simp [ck,h0,h,h1,u,A]
theorem lk5 {l:List am} (h0:dw l=0) (h1:ew l (q1 l)=true) (u:q2 l=true) (A:ew l (q3 l)=true) (D:ew l (q4 l)=true) (h:ew l (q5 l)=false):ck l=4:=by simp [ck,h0,h,h1,u,A,D]
theorem lk6 {l:List am} (h0:dw l=0) (h1:ew l (q1 l)=true) (u:q2 l=true) (A:ew l (q3 l)=true) (D:ew l (q4 l)=true) (E:ew l (q5 l)=true) (h:q6 l=false):ck l=4:=by simp [ck,h0,h,h1,u,A,D,E]
theorem lk7 {l:List am} (h0:dw l=0) (h1:ew l (q1 l)=true) (u:q2 l=true) (A:ew l (q3 l)=true) (D:ew l (q4 l)=true) (E:ew l (q5 l)=true) (F:q6 l=true) (h:ew l (q7 l)=false):ck l=5:=by simp [ck,h0,h,h1,u,A,D,E,F]
theorem lk8 {l:List am} (h0:dw l=0) (h1:ew l (q1 l)=true) (u:q2 l=true) (A:ew l (q3 l)=true) (D:ew l (q4 l)=true) (E:ew l (q5 l)=true) (F:q6 l=true) (G:ew l (q7 l)=true) (h:ew l (q8 l)=false):ck l=6:=by simp [ck,h0,h,h1,u,A,D,E,F,G]
theorem lk9 {l:List am} (h0:dw l=0) (h1:ew l (q1 l)=true) (u:q2 l=true) (A:ew l (q3 l)=true) (D:ew l (q4 l)=true) (E:ew l (q5 l)=true) (F:q6 l=true) (G:ew l (q7 l)=true) (I:ew l (q8 l)=true) (h:ew l (q9 l)=false):ck l=4:=by simp [ck,h0,h,h1,u,A,D,E,F,G,I]
theorem lk10 {l:List am} (h0:dw l=0) (h1:ew l (q1 l)=true) (u:q2 l=true) (A:ew l (q3 l)=true) (D:ew l (q4 l)=true) (E:ew l (q5 l)=true) (F:q6 l=true) (G:ew l (q7 l)=true) (I:ew l (q8 l)=true) (J:ew l (q9 l)=true):ck l=0:=by simp [ck,h0,h1,u,A,D,E,F,G,I,J]
end Go.Proofs.YtjdnmblggdobgaaGreat
namespace Go.Proofs.YtjdnmblggdobgaaGreat
open Go.RowKit
theorem zo1 (l:List am) (c:am) (s:ByteArray):b9 (l++ [c]) s=if 0<=b9 l s then b9 l s else if c.name=s then (l.length:Int) else -1:=by
 by_cases h:∃(k:Nat) (E:k<l.length),l[k].name=s
 ·have O:∃k:Nat,(∃E:k<l.length,l[k].name=s)/\∀j:Nat,j<k->¬ ∃A:j<l.length,l[j].name=s:=by
   obtain ⟨k,E⟩:=h;induction k using Nat.strongRecOn with
   | _ k ih=>
     by_cases I:∃j:Nat,j<k/\∃A:j<l.length,l[j].name=s
     ·obtain ⟨j,u,A⟩:=I;exact ih j u A
     exact ⟨k,E,fun j A N=>I ⟨j,A,N⟩⟩
  obtain ⟨k,⟨E,J⟩,G⟩:=O;have h1:b9 l s=k:=zob E J fun j A u e=>G j u ⟨A,e⟩;have D:k<(l++ [c]).length:=by simp;omega
  have L:b9 (l++ [c]) s=k:=zob D (by rw [List.getElem_append_left E];exact J) fun j A u e=>G j u ⟨by omega,by rwa [List.getElem_append_left (by omega)]at e⟩;rw [h1,L,if_pos (by omega)]
 have h1:b9 l s= -1:=zoc fun j A e=>h ⟨j,A,e⟩;rw [h1,if_neg (by omega)];split
 ·rename_i hc;have D:l.length<(l++ [c]).length:=by simp
  exact zob D (by simp [hc]) fun j A u e=>h ⟨j,u,by rwa [List.getElem_append_left u]at e⟩
 rename_i hc;refine zoc fun j A e=>?_;by_cases F:j<l.length
 ·exact h ⟨j,F,by rwa [List.getElem_append_left F]at e⟩
 have:j=l.length:=by simp at A;omega
 subst this;simp at e;exact hc e
theorem zo2 (l:List am) (s:ByteArray):dq l=true->num l s=b9 l s:=by
 induction l using za1 with
 | h0=>intro _;rfl
 | h1 l c ih=>
   intro h;have h':de (l.map (·.name))=true/\(!decide (0<=num l c.name))=true:=by have:dq (l++ [c])=(de (l.map (·.name))&& !decide (0<=num l c.name)):=za7 l c;rw [this,Bool.and_eq_true]at h;exact h
   have u:=ih h'.1;rw [za0,zo1,<-u];by_cases hc:c.name=s
   ·rw [if_pos hc];have A:¬ 0<=num l s:=by
     have:=h'.2;rw [hc]at this;simpa using this
    rw [if_neg A,if_pos hc]
   rw [if_neg hc,if_neg hc];split
   ·rfl
   have:=(za2 l s).1;omega
theorem zo3 (l:List am):dq l=ew l (q1 l):=by
 rw [Bool.eq_iff_iff];constructor
 ·intro h;rw [ew,List.all_eq_true];intro i hi;have u:=List.mem_range.1 hi;rw [q1,decide_eq_true_iff,zay u];refine zob u rfl fun j A D e=>?_;have F:(l.map (·.name)).Pairwise (· ≠ ·):=(zoy _).1 h;rw [List.pairwise_iff_getElem]at F;exact F j i (by simpa using A) (by simpa using u) D (by simpa using e)
 intro h;rw [ew,List.all_eq_true]at h;refine zoz (fun c:am=>c.name) l fun i j hi A G e=>?_;have h1:=h j (List.mem_range.2 A);rw [q1,decide_eq_true_iff,zay A]at h1;have E:=h i (List.mem_range.2 hi);rw [q1,decide_eq_true_iff,zay hi]at E;have:(i:Int)=j:=by rw [<-h1,<-E];exact congrArg _ e
 omega
theorem zo4 (l:List am) (h:dq l=true):nc l=q2 l:=by rw [nc,q2,kf,kf,zo2 l _ h,zo2 l _ h]
theorem all_q {l:List am} {p:am->Bool} {q:Nat->Bool} (h:∀(i:Nat) (hi:i<l.length),q i=p l[i]):l.all p=ew l q:=by
 rw [Bool.eq_iff_iff,ew,List.all_eq_true,List.all_eq_true];constructor
 ·intro A i hi;have u:=List.mem_range.1 hi;rw [h i u];exact A _ (gm u)
 intro D c hc;obtain ⟨i,hi,rfl⟩:=List.getElem_of_mem hc;rw [<-h i hi];exact D i (List.mem_range.2 hi)
theorem zo5 (l:List am):askUpper l=ew l (q3 l):=all_q fun i hi=>by rw [q3,zay hi,upperB]
theorem zo6 (l:List am) (h:dq l=true):km l=ew l (q4 l):=all_q fun i hi=>by rw [q4,zay hi,kf,zo2 l _ h]
theorem zo7 (l:List am) (h:dq l=true) (n:Nat):dm l n=supF l n:=zo2 l _ h
theorem zo8 (l:List am) (h:dq l=true) (k:ey):gn l k=gu l k:=by rw [gn,gu,kf,zo2 l _ h]
theorem zo9 (l:List am) (h:dq l=true) (m:d7):ld l m=kq l m:=by
 have e:gn l=gu l:=funext fun k=>zo8 l h k;have u:(fun x:ik=>decide (0<=b9 l x.db))=fun x=>kf l x.db:=funext fun x=>by rw [kf,zo2 l _ h]
 rw [ld,kq,e,u]
theorem zpa (l:List am) (h:dq l=true):askTold l=ew l (q7 l):=all_q fun i hi=>by have e:(fun f:bk=>gn l f.kind)=fun f=>gu l f.kind:=funext fun f=>zo8 l h f.kind;have u:ld l=kq l:=funext fun m=>zo9 l h m;rw [q7,zay hi,e,u]
theorem pigeon:∀(m:Nat) (f:Nat->Nat),(∀k,k<=m->f k<m)->∃i j,i<j/\j<=m/\f i=f j
 | 0,f,h=>absurd (h 0 (nlq _)) (by omega)
 | m+1,f,h=>by
   by_cases D:∃i,i<=m/\f i=f (m+1)
   ·obtain ⟨i,hi,e⟩:=D;exact ⟨i,m+1,by omega,by omega,e⟩
   have u:∀i,i<=m->f i≠f (m+1):=fun i hi e=>D ⟨i,hi,e⟩;have J:=h (m+1) (nlq _);obtain ⟨i,j,A,I,e⟩:=pigeon m (fun k=>if f (m+1)<f k then f k - 1 else f k) (fun k F=>by
    have h1:=h k (by omega);have E:=u k F;show (if f (m+1)<f k then f k - 1 else f k)<m;split<;>omega)
   refine ⟨i,j,A,by omega,?_⟩;have E:=u i (by omega);have G:=u j (by omega);split at e<;>split at e<;>omega
def ma (l:List am):Nat->Int->Int
 | 0,n=>n
 | k+1,n=>if 0<=n then ma l k (dm l n.toNat) else n
theorem zpb (l:List am) {n:Int} (h:¬ 0<=n):∀k,ma l k n=n
 | 0=>rfl
 | k+1=>by rw [ma,if_neg h]
theorem zpc (l:List am):∀(a b:Nat) (n:Int),ma l (a+b) n=ma l b (ma l a n)
 | 0,b,n=>by simp [ma]
 | a+1,b,n=>by
   rw [show a+1+b=(a+b)+1 by omega,ma,ma];by_cases h:0<=n
   ·rw [if_pos h,if_pos h];exact zpc l a b _
   rw [if_neg h,if_neg h,zpb l h]
theorem zpd (l:List am):∀(k:Nat) (n:Int),n<l.length->ma l k n<l.length
 | 0,n,h=>h
 | k+1,n,h=>by
   rw [ma];split
   ·exact zpd l k _ (zf4 l _).2
   exact h
theorem zpe (l:List am):∀(f:Nat) (n:Int),(fu l f n).length=f↔∀k,k<f->0<=ma l k n
 | 0,n=>by simp [fu]
 | f+1,n=>by
   rw [fu];by_cases h:0<=n
   ·rw [if_pos h,List.length_cons];have A:=zpe l f (dm l n.toNat);constructor
    ·intro e k D;cases k with
     | zero=>exact h
     | succ k=>
       rw [ma,if_pos h];exact A.1 (by omega) k (by omega)
    intro u;have:(fu l f (dm l n.toNat)).length=f:=A.2 fun k D=>by have:=u (k+1) (by omega);rwa [ma,if_pos h]at this
    omega
   rw [if_neg h];constructor
   ·intro e;simp at e
   intro u;exact absurd (u 0 (by omega)) h
theorem zpf (l:List am):∀(f:Nat) (n:Int),(fu l f n).length<f->fu l (f+1) n=fu l f n
 | 0,n,h=>by simp at h
 | f+1,n,h=>by
   by_cases h0:0<=n
   ·rw [fu,if_pos h0,List.length_cons]at h;have u:fu l (f+1+1) n=n.toNat::fu l (f+1) (dm l n.toNat):=by rw [fu,if_pos h0]
    have A:fu l (f+1) n=n.toNat::fu l f (dm l n.toNat):=by rw [fu,if_pos h0]
    rw [u,A,zpf l f _ (by omega)]
   rw [zf5 h0,zf5 h0]
theorem zpg (l:List am) (u:dq l=true):∀(r:Nat) (n:Int) (out:List Nat),r+out.length=l.length+1->(fu l (r+1) n).length<=r->upF l (r+2) n out=(fu l r n).reverse++out
 | 0,n,out,ho,h=>by
   rw [upF];by_cases h0:0<=n
   ·rw [fu,if_pos h0]at h;simp at h
   rw [if_neg h0];simp [fu]
 | r+1,n,out,ho,h=>by
   rw [upF];by_cases h0:0<=n
   ·rw [if_pos h0,if_neg (by omega),<-zo7 l u,zpg l u r _ _ (by simp;omega) (by rw [fu,if_pos h0,List.length_cons]at h;omega),fu,if_pos h0];simp
   rw [if_neg h0,fu,if_neg h0];simp
theorem zph (l:List am) (u:dq l=true) (n:Nat) (h:(dj l n).length<=l.length):mt l n=dj l n:=by
 have h1:(fu l (l.length+1) n).length<=l.length:=by rwa [dj,List.length_reverse]at h
 have:=zpg l u (l.length+1) n [] (by simp) (by rw [zpf l _ _ (by omega)];omega);rw [mt,dj,this,List.append_nil]
theorem zpi (l:List am) {n:Nat} (I:n<l.length) (h:∀k,k<l.length+1->0<=ma l k n):0<=ma l (l.length+1) n:=by
 obtain ⟨i,j,E,F,e⟩:=pigeon l.length (fun k=>(ma l k n).toNat) (fun k G=>by
  have h1:=h k (by omega);have A:=zpd l k n (by omega);show (ma l k n).toNat<l.length;omega)
 have u:ma l i n=ma l j n:=by have h1:=h i (by omega);have A:=h j (by omega);omega
 have D:ma l (l.length+1) n=ma l (i+(l.length+1 - j)) n:=by rw [show l.length+1=j+(l.length+1 - j) by omega,zpc,<-u,<-zpc,show j+(l.length+1 - j)=l.length+1 by omega]
 rw [D];exact h _ (by omega)
theorem zpj (l:List am) (u:dq l=true):∀(r:Nat) (n:Int) (out:List Nat),r+out.length=l.length+1->(∀k,k<=r->0<=ma l k n)->upF l (r+2) n out= []
 | 0,n,out,ho,h=>by have h0:0<=n:=h 0 (by omega);rw [upF,if_pos h0,if_pos (by omega)]
 | r+1,n,out,ho,h=>by
   have h0:0<=n:=h 0 (by omega);rw [upF,if_pos h0,if_neg (by omega),<-zo7 l u];exact zpj l u r _ _ (by simp;omega) fun k A=>by have:=h (k+1) (by omega);rwa [ma,if_pos h0]at this
theorem zpk (l:List am) (F:dq l=true) {n:Nat} (A:n<l.length) (h:¬(dj l n).length<=l.length):mt l n= []:=by
 have h1:(fu l (l.length+1) n).length=l.length+1:=by have:=zgx l (l.length+1) n;rw [dj,List.length_reverse]at h;omega
 have D:=(zpe l _ _).1 h1;have E:=zpi l A D;exact zpj l F (l.length+1) n [] (by simp) fun k G=>by
  by_cases u:k<l.length+1
  ·exact D k u
  have:k=l.length+1:=by omega
  subst this;exact E
theorem zpl (l:List am) (n:Nat):dj l n≠ []:=by rw [dj,fu,if_pos (by omega)];simp
theorem zpm (l:List am) (A:dq l=true):im l=ew l (q5 l):=by
 rw [im,ew,Bool.eq_iff_iff,List.all_eq_true,List.all_eq_true];have key:∀i,i<l.length->(decide ((dj l i).length<=l.length)=true↔q5 l i=true):=fun i hi=>by
  rw [q5,decide_eq_true_iff,decide_eq_true_iff];constructor
  ·intro h;rw [zph l A i h];exact List.length_pos_iff.2 (zpl l i)
  intro h;by_cases u:(dj l i).length<=l.length
  ·exact u
  rw [zpk l A hi u]at h;simp at h
 constructor
 ·intro h i hi;exact (key i (List.mem_range.1 hi)).1 (h i hi)
 intro h i hi;exact (key i (List.mem_range.1 hi)).2 (h i hi)
theorem zpn {l:List am} (A:dq l=true) (u:im l=true) {i:Nat} (hi:i<l.length):mt l i=dj l i:=by rw [im,List.all_eq_true]at u;have:=u i (List.mem_range.2 hi);exact zph l A i (of_decide_eq_true this)
theorem zpo {l:List am} (A:dq l=true) (u:im l=true) {i:Nat} (hi:i<l.length):j5 l i=fieldsOf l i:=by rw [j5,fieldsOf,zpn A u hi]
theorem zpp {l:List am} (A:dq l=true) (u:im l=true) {i:Nat} (hi:i<l.length):i9 l i=jd l i:=by rw [i9,jd,zpn A u hi]
theorem zpq {l:List am} {s:ByteArray} (h:0<=b9 l s):∃(n:Nat) (hn:n<l.length),b9 l s=n/\l[n].name=s:=by
 unfold b9 at h ⊢;split at h
 ·rename_i i hi;obtain ⟨h1,u,_⟩:=List.findIdx?_eq_some_iff_getElem.1 hi;exact ⟨i,h1,rfl,of_decide_eq_true u⟩
 omega
theorem zpr {l:List am} {n:Nat} (E:n<l.length) {f:bk} (u:f∈fieldsOf l n):∃c∈l,f∈c.fields:=by rw [fieldsOf,List.mem_flatMap]at u;obtain ⟨k,D,u⟩:=u;have A:=zgy E k D;rw [zay A]at u;exact ⟨_,gm A,u⟩
theorem zps {s:ByteArray} (h:s.size=0):s=⟨#[]⟩:=by obtain ⟨⟨x⟩⟩:=s;have:x.length=0:=h;rw [List.eq_nil_of_length_eq_zero this]
theorem zpt {l:List am} (A:dq l=true) (O:im l=true) (X:nc l=true) (u:∀c∈l,FineC c):ju l=q6 l:=by
 have E:=X;rw [zo4 l A,q2,Bool.and_eq_true,decide_eq_true_iff,decide_eq_true_iff]at E;obtain ⟨t,Y,Z,G⟩:=zpq E.1;obtain ⟨x,D,I,e4⟩:=zpq E.2;have L:(b9 l fw).toNat=x:=by rw [I];rfl
 rw [ju,q6,zo2 l _ A,zo2 l _ A,L,zpo A O D];have W:decide (dm l x=b9 l fd)=decide ((cb l x).bp=fd):=by
  rw [Bool.eq_iff_iff,decide_eq_true_iff,decide_eq_true_iff,dm,zo2 l _ A];constructor
  ·intro e;obtain ⟨m,hm,e5,J⟩:=zpq (l:=l) (s:=(cb l x).bp) (by omega);have:m=t:=by omega
   subst this;rw [<-J,G]
  intro e;rw [e]
 rw [W];cases hf:fieldsOf l x with
 | nil=>rfl
 | cons f fs=>
   show (_&&dy f.kind ⟨1,⟨#[]⟩⟩)=(_&&decide (f.kind.kind=1));obtain ⟨c,hc,F⟩:=zpr D (f:=f) (by rw [hf];simp);have V:=((u c hc).2.2.2.1 f F).2;have:dy f.kind ⟨1,⟨#[]⟩⟩=decide (f.kind.kind=1):=by
    rw [dy];by_cases h1:f.kind.kind=1
    ·have N:=zps (V.2.2.2 (by rw [h1];rfl));rw [N];simp
    simp [h1]
   rw [this]
theorem zpu {l:List am} (D:dq l=true) (A:im l=true):i1 l=ew l (q8 l):=by
 have h:(l.all fun c=>de (c.ax.map (·.name)))=ew l fun i=>de ((cb l i).ax.map (·.name)):=all_q fun i hi=>by rw [zay hi]
 rw [i1,h,ew,ew,Bool.eq_iff_iff,Bool.and_eq_true,List.all_eq_true,List.all_eq_true,List.all_eq_true];constructor
 ·rintro ⟨h1,u⟩ i hi;rw [q8,zpo D A (List.mem_range.1 hi),Bool.and_eq_true];exact ⟨h1 i hi,u i hi⟩
 intro h1;have u:=fun i hi=>by have:=h1 i hi;rwa [q8,zpo D A (List.mem_range.1 hi),Bool.and_eq_true]at this
 exact ⟨fun i hi=>(u i hi).1,fun i hi=>(u i hi).2⟩
theorem zpv (a b:ey):dy a b=true↔a=b:=by cases a;cases b;simp [dy]
theorem zpw:∀l m:List ey,da dy l m=true↔l=m
 | [],[]=>by simp [da]
 | [],_::_=>by simp [da]
 | _::_,[]=>by simp [da]
 | x::l,y::m=>by rw [da,Bool.and_eq_true,zpv,zpw l m,List.cons.injEq]
def fits (x y:d7):Bool:=!x.static&& !y.static&&dy x.ret y.ret&&da dy x.args y.args
theorem zpx (x y:d7):fits x y=true↔x.static=false/\y.static=false/\x.ret=y.ret/\x.args=y.args:=by
 simp only [fits,Bool.and_eq_true,Bool.not_eq_true',zpv,zpw];constructor
 ·rintro ⟨⟨⟨h1,u⟩,A⟩,D⟩;exact ⟨h1,u,A,D⟩
 rintro ⟨h1,u,A,D⟩;exact ⟨⟨⟨h1,u⟩,A⟩,D⟩
theorem zpy {x y z:d7} (h:fits x z=true) (k:fits z y=true):fits x y=true:=by rw [zpx]at*;exact ⟨h.1,k.2.1,h.2.2.1.trans k.2.2.1,h.2.2.2.trans k.2.2.2⟩
theorem zpz (x y:d7):iu x y=true↔(x.name=y.name->fits x y=true):=by
 by_cases h:x.name=y.name
 ·simp only [iu,h,decide_true,Bool.not_true,Bool.false_or,forall_const];rw [zpx];simp only [Bool.and_eq_true,Bool.not_eq_true',zpv,zpw];constructor
  ·rintro ⟨⟨⟨h1,u⟩,A⟩,D⟩;exact ⟨h1,u,D,A⟩
  rintro ⟨h1,u,A,D⟩;exact ⟨⟨⟨h1,u⟩,D⟩,A⟩
 simp [iu,h]
theorem zp0 {l:List ByteArray} {s:ByteArray} (h:0<=iv l s):∃(k:Nat) (u:k<l.length),iv l s=k/\l[k]=s:=by
 unfold iv at h ⊢;cases hf:l.findIdx? (fun x=>decide (x=s))with
 | none=>rw [hf]at h;simp at h
 | some k=>
   obtain ⟨u,h1,-⟩:=List.findIdx?_eq_some_iff_getElem.1 hf;exact ⟨k,u,rfl,by simpa using h1⟩
theorem zp1 (l:List ByteArray) (a s:ByteArray):iv (l++ [a]) s=if 0<=iv l s then iv l s else if a=s then (l.length:Int) else -1:=by
 unfold iv;rw [List.findIdx?_append];cases hf:l.findIdx? (fun x=>decide (x=s))with
 | some k=>simp
 | none=>
   by_cases u:a=s
   ·simp [u,List.findIdx?_cons]
   simp [u,List.findIdx?_cons]
def lookT (acc:List ByteArray×List cq) (s:ByteArray):Option cq:=if 0<=iv acc.1 s then acc.2[(iv acc.1 s).toNat]? else none
theorem zp2 (u:List ByteArray×List cq) (x:ByteArray×cq) (s:ByteArray) (h:u.1.length=u.2.length):lookT (ep u x) s=if x.1=s then some x.2 else lookT u s:=by
 unfold ep;by_cases E:0<=iv u.1 x.1
 ·rw [if_pos E];obtain ⟨k,N,e,L⟩:=zp0 E;unfold lookT;by_cases A:x.1=s
  ·rw [if_pos A,<-A,if_pos E,e];simp only [Int.toNat_natCast];rw [List.getElem?_set_self (by omega)]
  rw [if_neg A];by_cases h0:0<=iv u.1 s
  ·obtain ⟨J,G,F,D⟩:=zp0 h0;rw [if_pos h0,if_pos h0,e,F];simp only [Int.toNat_natCast];rw [List.getElem?_set_ne];intro I;subst I;exact A (L.symm.trans D)
  rw [if_neg h0,if_neg h0]
 rw [if_neg E];unfold lookT;rw [zp1];by_cases h0:0<=iv u.1 s
 ·obtain ⟨J,G,F,D⟩:=zp0 h0;have A:¬x.1=s:=fun e=>E (by rw [e];exact h0);rw [if_pos h0,if_pos h0,F];have:(0:Int)<=(J:Int):=by omega
  simp only [this,if_true,Int.toNat_natCast];rw [List.getElem?_append_left (by omega),if_neg A]
 by_cases A:x.1=s
 ·rw [if_neg h0,if_pos A,if_pos A];have:(0:Int)<=(u.1.length:Int):=by omega
  simp only [this,if_true,Int.toNat_natCast];rw [h,List.getElem?_append_right (nlq _)];simp
 rw [if_neg h0,if_neg A,if_neg A,if_neg h0];simp
def lookF (P:List (ByteArray×cq)) (s:ByteArray) (a:Option cq):Option cq:=P.foldl (fun a x=>if x.1=s then some x.2 else a) a
theorem zp3 (u:List ByteArray×List cq) (x:ByteArray×cq) (h:u.1.length=u.2.length):(ep u x).1.length=(ep u x).2.length:=zhd [x] u h
theorem zp4 (s:ByteArray):∀(P:List (ByteArray×cq)) (acc:List ByteArray×List cq),acc.1.length=acc.2.length->lookT (P.foldl ep acc) s=lookF P s (lookT acc s)
 | [],_,_=>rfl
 | x::P,acc,h=>by rw [List.foldl_cons,zp4 s P _ (zp3 acc x h),zp2 acc x s h];rfl
theorem zp5 (s:ByteArray) (P:List (ByteArray×cq)) (a:Option cq):(lookF P s a=a/\∀x∈P,x.1≠s)\/(∃t,lookF P s a=some t/\(s,t)∈P):=by
 induction P using za1 with
 | h0=>exact Or.inl ⟨rfl,fun x u=>by cases u⟩
 | h1 P x ih=>
   have e:lookF (P++ [x]) s a=if x.1=s then some x.2 else lookF P s a:=by unfold lookF;rw [List.foldl_append];rfl
   rw [e];by_cases u:x.1=s
   ·rw [if_pos u];exact Or.inr ⟨x.2,rfl,List.mem_append_right _ (by rw [<-u];simp)⟩
   rw [if_neg u];rcases ih with ⟨h1,A⟩ | ⟨t,h1,A⟩
   ·refine Or.inl ⟨h1,fun y D=>?_⟩;rcases List.mem_append.1 D with h | h
    ·exact A y h
    rw [List.mem_singleton.1 h];exact u
   exact Or.inr ⟨t,h1,List.mem_append_left _ A⟩
def lookC (l:List am) (L:List Nat) (s:ByteArray):Option cq:=lookF (L.flatMap (jh l)) s none
theorem zp6 (l:List am) (L:List Nat) (u:Nat) (s:ByteArray):lookC l (L++ [u]) s=lookF (jh l u) s (lookC l L s):=by unfold lookC lookF;rw [List.flatMap_append,List.foldl_append];simp
theorem zp7 {l:List am} {u:Nat} {s:ByteArray} {t:cq} (h:(s,t)∈jh l u):∃(j:Nat) (hj:j<(cb l u).ax.length),t=⟨u,j⟩/\(cb l u).ax[j].name=s:=by obtain ⟨p,D,e⟩:=List.mem_map.1 h;obtain ⟨x,j⟩:=p;obtain ⟨h1,E,A⟩:=List.mem_zipIdx D;simp only [Prod.mk.injEq]at e;refine ⟨j,by omega,e.2.symm,?_⟩;rw [<-e.1,A];simp
theorem zp8 {l:List am} {u:Nat} {y:d7} (h:y∈(cb l u).ax):∃x∈jh l u,x.1=y.name:=by
 obtain ⟨j,A,e⟩:=List.mem_iff_getElem.1 h;refine ⟨(y.name,⟨u,j⟩),?_,rfl⟩;have D:j<(jh l u).length:=by rw [zhg];exact A
 have:=zhh l u j D A;rw [e]at this;rw [<-this];exact gm D
def oneName (c:am):Prop:=∀y∈c.ax,∀z∈c.ax,y.name=z.name->y=z
theorem zp9 {c:am} (h:de (c.ax.map (·.name))=true):oneName c:=by
 intro y D z E e;rw [zoy,List.pairwise_map,List.pairwise_iff_getElem]at h;obtain ⟨i,hi,rfl⟩:=List.mem_iff_getElem.1 D;obtain ⟨j,A,rfl⟩:=List.mem_iff_getElem.1 E;rcases Nat.lt_trichotomy i j with u | u | u
 ·exact absurd e (h i j hi A u)
 ·subst u;rfl
 exact absurd e.symm (h j i A hi u)
def relU (l:List am) (u c:Nat):Prop:=∀x∈(cb l c).ax,∀y∈(cb l u).ax,iu x y=true
def oa (l:List am) (L:List Nat) (x:d7):Prop:=∀t,lookC l L x.name=some t->fits x (li l t)=true
theorem zqa (l:List am) (x:d7) (L:List Nat):L.Pairwise (relU l)->(∀u∈L,oneName (cb l u))->(oa l L x↔∀u∈L,∀y∈(cb l u).ax,iu x y=true):=by
 induction L using za1 with
 | h0=>
   intro _ _;refine ⟨fun _ u hu=>(by cases hu),fun _ t V=>?_⟩;simp [lookC,lookF]at V
 | h1 L u ih=>
   intro O X;rw [List.pairwise_append]at O;have W:=ih O.1 (fun v D=>X v (List.mem_append_left _ D));have I:=X u (by simp);rcases zp5 x.name (jh l u) (lookC l L x.name)with ⟨e,N⟩ | ⟨t,e,hm⟩
   ·have J:oa l (L++ [u]) x↔oa l L x:=by unfold oa;rw [zp6,e]
    rw [J,W];constructor
    ·intro h v D y A;rcases List.mem_append.1 D with h1 | h1
     ·exact h v h1 y A
     rw [List.mem_singleton.1 h1]at A;obtain ⟨z,F,Z⟩:=zp8 A;exact (zpz x y).2 fun G=>absurd (Z.trans G.symm) (N z F)
    exact fun h v D y A=>h v (List.mem_append_left _ D) y A
   obtain ⟨j,E,rfl,F⟩:=zp7 hm;have J:oa l (L++ [u]) x↔fits x (cb l u).ax[j]=true:=by
    unfold oa;rw [zp6,e];constructor
    ·intro h;have:=h _ rfl;rwa [zi2 E]at this
    intro h t V;cases V;rw [zi2 E];exact h
   rw [J];constructor
   ·intro Y v D y A;rw [zpz];intro G;rcases List.mem_append.1 D with h1 | h1
    ·have:=O.2.2 v h1 u (by simp) _ (gm E) y A;exact zpy Y ((zpz _ _).1 this (F.trans G))
    rw [List.mem_singleton.1 h1]at A;rw [I y A _ (gm E) (G.symm.trans F.symm)];exact Y
   intro h;exact (zpz _ _).1 (h u (by simp) _ (gm E)) F.symm
theorem zqb {l:List am} (E:im l=true) {i n:Nat} (hi:i<l.length) (G:dm l i=n):dj l i=dj l n++ [i]/\n<l.length:=by
 have F:n<l.length:=by have:=(za2 l (cb l i).bp).2;have e:dm l i=num l (cb l i).bp:=rfl;omega
 have u:(dj l i).length<=l.length:=by simpa using List.all_eq_true.1 E i (List.mem_range.2 hi)
 have A:fu l (l.length+1) i=i::fu l l.length n:=by rw [zf6 _ (by omega)];simp [G]
 have D:(fu l l.length n).length<l.length:=by rw [dj,A]at u;simp at u;omega
 refine ⟨?_,F⟩;rw [dj,A,dj,zpf l _ _ D,List.reverse_cons]
theorem zqc {l:List am} {i:Nat} (u:dm l i<0):dj l i= [i]:=by rw [dj,zf6 _ (by omega)];simp only [Int.toNat_natCast];rw [zf5 (by omega)];rfl
theorem zqd (l:List am) (n:Nat) (m:d7):js l n m=true↔oa l (dj l n) m:=by
 have e:lookC l (dj l n) m.name=lookT (jd l n) m.name:=by rw [jd,zp4 m.name _ ([],[]) rfl];rfl
 unfold oa;rw [e];unfold js lookT;show (if iv (jd l n).1 m.name<0 then true else _)=true↔_;by_cases h:iv (jd l n).1 m.name<0
 ·rw [if_pos h,if_neg (by omega)];simp
 rw [if_neg h,if_pos (by omega)];show (match (jd l n).2[(iv (jd l n).1 m.name).toNat]? with | none=>true | some t=>!m.static&& !(li l t).static&&dy m.ret (li l t).ret&&da dy m.args (li l t).args)=true↔_;cases (jd l n).2[(iv (jd l n).1 m.name).toNat]? with
 | none=>simp
 | some t=>
   constructor
   ·intro h A u;cases u;exact h
   intro h;exact h t rfl
theorem zqe {l:List am} (hn:dq l=true) (h4:km l=true) (O:im l=true) (Y:i1 l=true) (W:num l ⟨#[]⟩<0):kv l=ew l (q9 l):=by
 have hd:∀u,u<l.length->oneName (cb l u):=fun u G=>by rw [i1,Bool.and_eq_true]at Y;rw [zay G];exact zp9 (List.all_eq_true.1 Y.2 _ (gm G))
 have E:∀i (hi:i<l.length),((cb l i).bp=⟨#[]⟩/\dm l i<0)\/((cb l i).bp≠⟨#[]⟩/\∃n:Nat,dm l i=n):=fun i hi=>by
  by_cases h:(cb l i).bp=⟨#[]⟩
  ·exact Or.inl ⟨h,by rw [dm,h];exact W⟩
  refine Or.inr ⟨h,?_⟩;have h1:=List.all_eq_true.1 h4 l[i] (gm hi);rw [zay hi]at h;have I:kf l l[i].bp=true:=by simpa [h]using h1
  have h3:0<=dm l i:=by rw [dm,zay hi];simpa [kf]using I
  exact ⟨(dm l i).toNat,by omega⟩
 have hq:∀i (hi:i<l.length),q9 l i=true↔∀u∈(dj l i).dropLast,relU l u i:=fun i hi=>by rw [q9,zpn hn O hi];simp only [List.all_eq_true,relU]
 rw [Bool.eq_iff_iff,kv,ew,List.all_eq_true,List.all_eq_true];constructor
 ·intro h;have hT:∀(i n:Nat) (_:i<l.length),dm l i=n->∀m∈(cb l i).ax,oa l (dj l n) m:=fun i n hi F m V=>by
   have h1:=h i (List.mem_range.2 hi);rcases E i hi with ⟨_,I⟩ | ⟨I,_⟩
   ·omega
   rw [F]at h1;simp only [I,decide_false,Bool.false_or,Int.toNat_natCast]at h1;exact (zqd l n m).1 (List.all_eq_true.1 h1 m V)
  have N:∀(d i:Nat),i<l.length->(dj l i).length<=d->(dj l i).Pairwise (relU l):=by
   intro d;induction d with
   | zero=>intro i _ J;exact absurd (List.eq_nil_of_length_eq_zero (by omega)) (zpl l i)
   | succ d ih=>
     intro i hi J;rcases E i hi with ⟨_,I⟩ | ⟨_,n,F⟩
     ·rw [zqc I];exact List.pairwise_singleton _ _
     obtain ⟨e,D⟩:=zqb O hi F;have L:=ih n D (by rw [e]at J;simp at J;omega);rw [e,List.pairwise_append];refine ⟨L,List.pairwise_singleton _ _,fun u G c hc=>?_⟩;rw [List.mem_singleton.1 hc];intro x hx;exact (zqa l x _ L (fun v X=>hd v (zgy D v X))).1 (hT i n hi F x hx) u G
  intro i hi;have A:=List.mem_range.1 hi;rw [hq i A];rcases E i A with ⟨_,I⟩ | ⟨_,n,F⟩
  ·rw [zqc I];intro u G;cases G
  obtain ⟨e,D⟩:=zqb O A F;have L:=N _ i A (nlq _);rw [e,List.pairwise_append]at L;rw [e,List.dropLast_concat];exact fun u G=>L.2.2 u G i (by simp)
 intro h;have Z:∀(i n:Nat) (_:i<l.length),dm l i=n->∀u∈dj l n,relU l u i:=fun i n hi F=>by have:=(hq i hi).1 (h i (List.mem_range.2 hi));rwa [(zqb O hi F).1,List.dropLast_concat]at this
 have N:∀(d i:Nat),i<l.length->(dj l i).length<=d->(dj l i).Pairwise (relU l):=by
  intro d;induction d with
  | zero=>intro i _ J;exact absurd (List.eq_nil_of_length_eq_zero (by omega)) (zpl l i)
  | succ d ih=>
    intro i hi J;rcases E i hi with ⟨_,I⟩ | ⟨_,n,F⟩
    ·rw [zqc I];exact List.pairwise_singleton _ _
    obtain ⟨e,D⟩:=zqb O hi F;have L:=ih n D (by rw [e]at J;simp at J;omega);rw [e,List.pairwise_append];refine ⟨L,List.pairwise_singleton _ _,fun u G c hc=>?_⟩;rw [List.mem_singleton.1 hc];exact Z i n hi F u G
 intro i hi;have A:=List.mem_range.1 hi;rcases E i A with ⟨h1,_⟩ | ⟨h1,n,F⟩
 ·simp [h1]
 obtain ⟨e,D⟩:=zqb O A F;rw [F];simp only [h1,decide_false,Bool.false_or,Int.toNat_natCast];rw [List.all_eq_true];intro m V;rw [zqd,zqa l m _ (N _ n D (nlq _)) (fun v X=>hd v (zgy D v X))];exact fun u G y hy=>Z i n A F u G m V y hy
end Go.Proofs.YtjdnmblggdobgaaGreat
