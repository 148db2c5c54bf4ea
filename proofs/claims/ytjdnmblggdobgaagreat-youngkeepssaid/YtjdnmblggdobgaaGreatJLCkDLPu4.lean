import Derived.Test.YtjdnmblggdobgaaGreatJLRf1LRf3
import Derived.Test.YtjdnmblggdobgaaGreatJLErrLRf4
import Derived.Test.YtjdnmblggdobgaaGreatJPlainFine
import Derived.Test.YtjdnmblggdobgaaGreatJLNoneLSaD
namespace Go.Proofs.YtjdnmblggdobgaaGreat
open Go.RowKit Go.Sort
def ev (l:List ap) (q:Nat->Bool):Bool:=(List.range l.length).all q
theorem zou {l:List ap} {q:Nat->Bool} {k:Nat} (D:¬k<l.length) (h:∀j,j<k->q j=true):ev l q=true:=by rw [ev,List.all_eq_true];exact fun j A=>h j (by have:=List.mem_range.1 A;omega)
theorem zov {l:List ap} {q:Nat->Bool} {k:Nat} (A:k<l.length) (h:q k=false):ev l q=false:=by rw [ev,List.all_eq_false];exact ⟨k,List.mem_range.2 A,by simp [h]⟩
theorem zow {q:Nat->Bool} {k:Nat} (h:∀j,j<k->q j=true) (D:q k=true):∀j,j<k+1->q j=true:=fun j E=>by
 by_cases A:j<k
 ·exact h j A
 have:j=k:=by omega
 subst this;exact D
theorem zox {s:ByteArray} (h:¬s=⟨#[]⟩):s.toList.isEmpty=false:=by
 cases hq:s.toList with
 | nil=>exact absurd (zca hq) h
 | cons _ _=>rfl
theorem zoy (l:List ByteArray):dc l=true↔l.Pairwise (· ≠ ·):=by
 induction l using za1 with
 | h0=>simp [dc]
 | h1 l x ih=>
   rw [za4,Bool.and_eq_true,ih,List.pairwise_append,List.all_eq_true];constructor
   ·rintro ⟨h1,A⟩;refine ⟨h1,List.pairwise_singleton _ _,fun a G b D=>?_⟩;rw [List.mem_singleton]at D;subst D;have:=A a G;intro e;simp [e]at this
   rintro ⟨h1,_,A⟩;refine ⟨h1,fun y I=>?_⟩;have E:=A y I x (by simp);have F:¬x=y:=fun e=>E e.symm;simp [F]
theorem zoz {α:Type} (f:α->ByteArray) (xs:List α) (h:∀(i j:Nat) (D:i<xs.length) (E:j<xs.length),i<j->f xs[i]≠f xs[j]):dc (xs.map f)=true:=by rw [zoy,List.pairwise_iff_getElem];intro i j D E A;have:=h i j (by simpa using D) (by simpa using E) A;simpa using this
theorem zo0 {α:Type} (f:α->ByteArray) (xs:List α) (i j:Nat) (D:i<xs.length) (E:j<xs.length) (A:i<j) (h:f xs[i]=f xs[j]):dc (xs.map f)=false:=by rw [Bool.eq_false_iff,ne_eq,zoy,List.pairwise_iff_getElem];intro F;exact F i j (by simpa using D) (by simpa using E) A (by simpa using h)
def q1 (l:List ap) (i:Nat):Bool:=decide (bv l (b9 l i).name=i)
def q2 (l:List ap):Bool:=decide (0<=bv l fd)&&decide (0<=bv l fx)
def q3 (l:List ap) (i:Nat):Bool:=upperB (b9 l i)
def q4 (l:List ap) (i:Nat):Bool:=decide ((b9 l i).bo=(⟨#[]⟩:ByteArray))||decide (0<=bv l (b9 l i).bo)
def q5 (l:List ap) (i:Nat):Bool:=decide (0<(mb l i).length)
def q6 (l:List ap):Bool:=decide ((b9 l (bv l fx).toNat).bo=fd)&&(match jv l (bv l fx).toNat with | []=>false | f::_=>decide (f.kind.kind=1))
def kq (l:List ap) (m:dx):Bool:=m.args.all (gi l)&&gi l m.ret&&m.hands.all (fun h=>decide (0<=bv l h.da))
def q7 (l:List ap) (i:Nat):Bool:=(b9 l i).fields.all (fun f=>gi l f.kind)&&(b9 l i).ba.all (kq l)
def q8 (l:List ap) (i:Nat):Bool:=dc ((jv l i).map (·.name))&&dc ((b9 l i).ba.map (·.name))
def iv (x y:dx):Bool:=!decide (x.name=y.name)||(!x.static&& !y.static&&cz dv x.args y.args&&dv x.ret y.ret)
def q9 (l:List ap) (i:Nat):Bool:=(mb l i).dropLast.all fun u=>(b9 l i).ba.all fun x=>(b9 l u).ba.all fun y=>iv x y
def cd (l:List ap):Int:=
 if dt l≠0 then dt l else if ev l (q1 l)=false then 6 else if q2 l=false then 5 else if ev l (q3 l)=false then 4 else if ev l (q4 l)=false then 5 else if ev l (q5 l)=false then 4
 else if q6 l=false then 4 else if ev l (q7 l)=false then 5 else if ev l (q8 l)=false then 6 else if ev l (q9 l)=false then 4 else 0
theorem lk1 {l:List ap} (h0:dt l=0) (h:ev l (q1 l)=false):cd l=6:=by simp [cd,h0,h]
theorem lk2 {l:List ap} (h0:dt l=0) (h1:ev l (q1 l)=true) (h:q2 l=false):cd l=5:=by simp [cd,h0,h,h1]
theorem lk3 {l:List ap} (h0:dt l=0) (h1:ev l (q1 l)=true) (A:q2 l=true) (h:ev l (q3 l)=false):cd l=4:=by simp [cd,h0,h,h1,A]
theorem lk4 {l:List ap} (h0:dt l=0) (h1:ev l (q1 l)=true) (A:q2 l=true) (D:ev l (q3 l)=true) (h:ev l (q4 l)=false):cd l=5:=by simp [cd,h0,h,h1,A,D]
theorem lk5 {l:List ap} (h0:dt l=0) (h1:ev l (q1 l)=true) (A:q2 l=true) (D:ev l (q3 l)=true) (E:ev l (q4 l)=true) (h:ev l (q5 l)=false):cd l=4:=by simp [cd,h0,h,h1,A,D,E]
theorem lk6 {l:List ap} (h0:dt l=0) (h1:ev l (q1 l)=true) (A:q2 l=true) (D:ev l (q3 l)=true) (E:ev l (q4 l)=true) (F:ev l (q5 l)=true) (h:q6 l=false):cd l=4:=by simp [cd,h0,h,h1,A,D,E,F]
theorem lk7 {l:List ap} (h0:dt l=0) (h1:ev l (q1 l)=true) (A:q2 l=true) (D:ev l (q3 l)=true) (E:ev l (q4 l)=true) (F:ev l (q5 l)=true) (G:q6 l=true) (h:ev l (q7 l)=false):cd l=5:=by simp [cd,h0,h,h1,A,D,E,F,G]
theorem lk8 {l:List ap} (h0:dt l=0) (h1:ev l (q1 l)=true) (A:q2 l=true) (D:ev l (q3 l)=true) (E:ev l (q4 l)=true) (F:ev l (q5 l)=true) (G:q6 l=true) (I:ev l (q7 l)=true) (h:ev l (q8 l)=false):cd l=6:=by simp [cd,h0,h,h1,A,D,E,F,G,I]
theorem lk9 {l:List ap} (h0:dt l=0) (h1:ev l (q1 l)=true) (A:q2 l=true) (D:ev l (q3 l)=true) (E:ev l (q4 l)=true) (F:ev l (q5 l)=true) (G:q6 l=true) (I:ev l (q7 l)=true) (J:ev l (q8 l)=true) (h:ev l (q9 l)=false):cd l=4:=by simp [cd,h0,h,h1,A,D,E,F,G,I,J]
theorem lk10 {l:List ap} (h0:dt l=0) (h1:ev l (q1 l)=true) (A:q2 l=true) (D:ev l (q3 l)=true) (E:ev l (q4 l)=true) (F:ev l (q5 l)=true) (G:q6 l=true) (I:ev l (q7 l)=true) (J:ev l (q8 l)=true) (L:ev l (q9 l)=true):cd l=0:=by simp [cd,h0,h1,A,D,E,F,G,I,J,L]
end Go.Proofs.YtjdnmblggdobgaaGreat
namespace Go.Proofs.YtjdnmblggdobgaaGreat
open Go.RowKit
theorem zo1 (l:List ap) (c:ap) (s:ByteArray):bv (l++ [c]) s=if 0<=bv l s then bv l s else if c.name=s then (l.length:Int) else -1:=by
 by_cases h:∃(k:Nat) (F:k<l.length),l[k].name=s
 ·have V:∃k:Nat,(∃F:k<l.length,l[k].name=s)/\∀j:Nat,j<k->¬ ∃D:j<l.length,l[j].name=s:=by
   obtain ⟨k,F⟩:=h;induction k using Nat.strongRecOn with
   | _ k ih=>
     by_cases J:∃j:Nat,j<k/\∃D:j<l.length,l[j].name=s
     ·obtain ⟨j,A,D⟩:=J;exact ih j A D
     exact ⟨k,F,fun j D O=>J ⟨j,D,O⟩⟩
  obtain ⟨k,⟨F,L⟩,I⟩:=V;have h1:bv l s=k:=zob F L fun j D A e=>I j A ⟨D,e⟩;have E:k<(l++ [c]).length:=by simp;omega
  have N:bv (l++ [c]) s=k:=zob E (by rw [List.getElem_append_left F];exact L) fun j D A e=>I j A ⟨by omega,by rwa [List.getElem_append_left (by omega)]at e⟩;rw [h1,N,if_pos (by omega)]
 have h1:bv l s= -1:=zoc fun j D e=>h ⟨j,D,e⟩;rw [h1,if_neg (by omega)];split
 ·rename_i hc;have E:l.length<(l++ [c]).length:=by simp
  exact zob E (by simp [hc]) fun j D A e=>h ⟨j,A,by rwa [List.getElem_append_left A]at e⟩
 rename_i hc;refine zoc fun j D e=>?_;by_cases G:j<l.length
 ·exact h ⟨j,G,by rwa [List.getElem_append_left G]at e⟩
 have:j=l.length:=by simp at D;omega
 subst this;simp at e;exact hc e
theorem zo2 (l:List ap) (s:ByteArray):dm l=true->num l s=bv l s:=by
 induction l using za1 with
 | h0=>intro _;rfl
 | h1 l c ih=>
   intro h;have h':dc (l.map (·.name))=true/\(!decide (0<=num l c.name))=true:=by have:dm (l++ [c])=(dc (l.map (·.name))&& !decide (0<=num l c.name)):=za7 l c;rw [this,Bool.and_eq_true]at h;exact h
   have A:=ih h'.1;rw [za0,zo1,<-A];by_cases hc:c.name=s
   ·rw [if_pos hc];have D:¬ 0<=num l s:=by
     have:=h'.2;rw [hc]at this;simpa using this
    rw [if_neg D,if_pos hc]
   rw [if_neg hc,if_neg hc];split
   ·rfl
   have:=(za2 l s).1;omega
theorem zo3 (l:List ap):dm l=ev l (q1 l):=by
 rw [Bool.eq_iff_iff];constructor
 ·intro h;rw [ev,List.all_eq_true];intro i D;have A:=List.mem_range.1 D;rw [q1,decide_eq_true_iff,zay A];refine zob A rfl fun j E F e=>?_;have I:(l.map (·.name)).Pairwise (· ≠ ·):=(zoy _).1 h;rw [List.pairwise_iff_getElem]at I;exact I j i (by simpa using E) (by simpa using A) F (by simpa using e)
 intro h;rw [ev,List.all_eq_true]at h;refine zoz (fun c:ap=>c.name) l fun i j D E J e=>?_;have h1:=h j (List.mem_range.2 E);rw [q1,decide_eq_true_iff,zay E]at h1;have G:=h i (List.mem_range.2 D);rw [q1,decide_eq_true_iff,zay D]at G;have:(i:Int)=j:=by rw [<-h1,<-G];exact congrArg _ e
 omega
theorem zo4 (l:List ap) (h:dm l=true):mi l=q2 l:=by rw [mi,q2,j8,j8,zo2 l _ h,zo2 l _ h]
theorem all_q {l:List ap} {p:ap->Bool} {q:Nat->Bool} (h:∀(i:Nat) (A:i<l.length),q i=p l[i]):l.all p=ev l q:=by
 rw [Bool.eq_iff_iff,ev,List.all_eq_true,List.all_eq_true];constructor
 ·intro E i A;have D:=List.mem_range.1 A;rw [h i D];exact E _ (gm D)
 intro F c hc;obtain ⟨i,A,rfl⟩:=List.getElem_of_mem hc;rw [<-h i A];exact F i (List.mem_range.2 A)
theorem zo5 (l:List ap):askUpper l=ev l (q3 l):=all_q fun i A=>by rw [q3,zay A,upperB]
theorem zo6 (l:List ap) (h:dm l=true):kd l=ev l (q4 l):=all_q fun i A=>by rw [q4,zay A,j8,zo2 l _ h]
theorem zo7 (l:List ap) (h:dm l=true) (n:Nat):df l n=supF l n:=zo2 l _ h
theorem zo8 (l:List ap) (h:dm l=true) (k:ew):gi l k=gj l k:=by rw [gi,gj,j8,zo2 l _ h]
theorem zo9 (l:List ap) (h:dm l=true) (m:dx):kq l m=kf l m:=by
 have e:gi l=gj l:=funext fun k=>zo8 l h k;have A:(fun x:ic=>decide (0<=bv l x.da))=fun x=>j8 l x.da:=funext fun x=>by rw [j8,zo2 l _ h]
 rw [kq,kf,e,A]
theorem zpa (l:List ap) (h:dm l=true):askTold l=ev l (q7 l):=all_q fun i D=>by have e:(fun f:bg=>gi l f.kind)=fun f=>gj l f.kind:=funext fun f=>zo8 l h f.kind;have A:kq l=kf l:=funext fun m=>zo9 l h m;rw [q7,zay D,e,A]
theorem pigeon:∀(m:Nat) (f:Nat->Nat),(∀k,k<=m->f k<m)->∃i j,i<j/\j<=m/\f i=f j
 | 0,f,h=>absurd (h 0 (nlq _)) (by omega)
 | m+1,f,h=>by
   by_cases F:∃i,i<=m/\f i=f (m+1)
   ·obtain ⟨i,E,e⟩:=F;exact ⟨i,m+1,by omega,by omega,e⟩
   have A:∀i,i<=m->f i≠f (m+1):=fun i E e=>F ⟨i,E,e⟩;have N:=h (m+1) (nlq _);obtain ⟨i,j,D,L,e⟩:=pigeon m (fun k=>if f (m+1)<f k then f k - 1 else f k) (fun k I=>by
    have h1:=h k (by omega);have G:=A k I;show (if f (m+1)<f k then f k - 1 else f k)<m;split<;>omega)
   refine ⟨i,j,D,by omega,?_⟩;have G:=A i (by omega);have J:=A j (by omega);split at e<;>split at e<;>omega
def lh (l:List ap):Nat->Int->Int
 | 0,n=>n
 | k+1,n=>if 0<=n then lh l k (df l n.toNat) else n
theorem zpb (l:List ap) {n:Int} (h:¬ 0<=n):∀k,lh l k n=n
 | 0=>rfl
 | k+1=>by rw [lh,if_neg h]
theorem zpc (l:List ap):∀(a b:Nat) (n:Int),lh l (a+b) n=lh l b (lh l a n)
 | 0,b,n=>by simp [lh]
 | a+1,b,n=>by
   rw [show a+1+b=(a+b)+1 by omega,lh,lh];by_cases h:0<=n
   ·rw [if_pos h,if_pos h];exact zpc l a b _
   rw [if_neg h,if_neg h,zpb l h]
theorem zpd (l:List ap):∀(k:Nat) (n:Int),n<l.length->lh l k n<l.length
 | 0,n,h=>h
 | k+1,n,h=>by
   rw [lh];split
   ·exact zpd l k _ (zf4 l _).2
   exact h
theorem zpe (l:List ap):∀(f:Nat) (n:Int),(fw l f n).length=f↔∀k,k<f->0<=lh l k n
 | 0,n=>by simp [fw]
 | f+1,n=>by
   rw [fw];by_cases h:0<=n
   ·rw [if_pos h,List.length_cons];have D:=zpe l f (df l n.toNat);constructor
    ·intro e k E;cases k with
     | zero=>exact h
     | succ k=>
       rw [lh,if_pos h];exact D.1 (by omega) k (by omega)
    intro A;have:(fw l f (df l n.toNat)).length=f:=D.2 fun k E=>by have:=A (k+1) (by omega);rwa [lh,if_pos h]at this
    omega
   rw [if_neg h];constructor
   ·intro e;simp at e
   intro A;exact absurd (A 0 (by omega)) h
theorem zpf (l:List ap):∀(f:Nat) (n:Int),(fw l f n).length<f->fw l (f+1) n=fw l f n
 | 0,n,h=>by simp at h
 | f+1,n,h=>by
   by_cases h0:0<=n
   ·rw [fw,if_pos h0,List.length_cons]at h;have A:fw l (f+1+1) n=n.toNat::fw l (f+1) (df l n.toNat):=by rw [fw,if_pos h0]
    have D:fw l (f+1) n=n.toNat::fw l f (df l n.toNat):=by rw [fw,if_pos h0]
    rw [A,D,zpf l f _ (by omega)]
   rw [zf5 h0,zf5 h0]
theorem zpg (l:List ap) (A:dm l=true):∀(r:Nat) (n:Int) (out:List Nat),r+out.length=l.length+1->(fw l (r+1) n).length<=r->upF l (r+2) n out=(fw l r n).reverse++out
 | 0,n,out,ho,h=>by
   rw [upF];by_cases h0:0<=n
   ·rw [fw,if_pos h0]at h;simp at h
   rw [if_neg h0];simp [fw]
 | r+1,n,out,ho,h=>by
   rw [upF];by_cases h0:0<=n
   ·rw [if_pos h0,if_neg (by omega),<-zo7 l A,zpg l A r _ _ (by simp;omega) (by rw [fw,if_pos h0,List.length_cons]at h;omega),fw,if_pos h0];simp
   rw [if_neg h0,fw,if_neg h0];simp
theorem zph (l:List ap) (A:dm l=true) (n:Nat) (h:(de l n).length<=l.length):mb l n=de l n:=by
 have h1:(fw l (l.length+1) n).length<=l.length:=by rwa [de,List.length_reverse]at h
 have:=zpg l A (l.length+1) n [] (by simp) (by rw [zpf l _ _ (by omega)];omega);rw [mb,de,this,List.append_nil]
theorem zpi (l:List ap) {n:Nat} (J:n<l.length) (h:∀k,k<l.length+1->0<=lh l k n):0<=lh l (l.length+1) n:=by
 obtain ⟨i,j,F,G,e⟩:=pigeon l.length (fun k=>(lh l k n).toNat) (fun k I=>by
  have h1:=h k (by omega);have D:=zpd l k n (by omega);show (lh l k n).toNat<l.length;omega)
 have A:lh l i n=lh l j n:=by have h1:=h i (by omega);have D:=h j (by omega);omega
 have E:lh l (l.length+1) n=lh l (i+(l.length+1 - j)) n:=by rw [show l.length+1=j+(l.length+1 - j) by omega,zpc,<-A,<-zpc,show j+(l.length+1 - j)=l.length+1 by omega]
 rw [E];exact h _ (by omega)
theorem zpj (l:List ap) (A:dm l=true):∀(r:Nat) (n:Int) (out:List Nat),r+out.length=l.length+1->(∀k,k<=r->0<=lh l k n)->upF l (r+2) n out= []
 | 0,n,out,ho,h=>by have h0:0<=n:=h 0 (by omega);rw [upF,if_pos h0,if_pos (by omega)]
 | r+1,n,out,ho,h=>by
   have h0:0<=n:=h 0 (by omega);rw [upF,if_pos h0,if_neg (by omega),<-zo7 l A];exact zpj l A r _ _ (by simp;omega) fun k D=>by have:=h (k+1) (by omega);rwa [lh,if_pos h0]at this
theorem zpk (l:List ap) (G:dm l=true) {n:Nat} (D:n<l.length) (h:¬(de l n).length<=l.length):mb l n= []:=by
 have h1:(fw l (l.length+1) n).length=l.length+1:=by have:=zgx l (l.length+1) n;rw [de,List.length_reverse]at h;omega
 have E:=(zpe l _ _).1 h1;have F:=zpi l D E;exact zpj l G (l.length+1) n [] (by simp) fun k I=>by
  by_cases A:k<l.length+1
  ·exact E k A
  have:k=l.length+1:=by omega
  subst this;exact F
theorem zpl (l:List ap) (n:Nat):de l n≠ []:=by rw [de,fw,if_pos (by omega)];simp
theorem zpm (l:List ap) (E:dm l=true):ig l=ev l (q5 l):=by
 rw [ig,ev,Bool.eq_iff_iff,List.all_eq_true,List.all_eq_true];have key:∀i,i<l.length->(decide ((de l i).length<=l.length)=true↔q5 l i=true):=fun i A=>by
  rw [q5,decide_eq_true_iff,decide_eq_true_iff];constructor
  ·intro h;rw [zph l E i h];exact List.length_pos_iff.2 (zpl l i)
  intro h;by_cases D:(de l i).length<=l.length
  ·exact D
  rw [zpk l E A D]at h;simp at h
 constructor
 ·intro h i A;exact (key i (List.mem_range.1 A)).1 (h i A)
 intro h i A;exact (key i (List.mem_range.1 A)).2 (h i A)
theorem zpn {l:List ap} (E:dm l=true) (A:ig l=true) {i:Nat} (D:i<l.length):mb l i=de l i:=by rw [ig,List.all_eq_true]at A;have:=A i (List.mem_range.2 D);exact zph l E i (of_decide_eq_true this)
theorem zpo {l:List ap} (E:dm l=true) (A:ig l=true) {i:Nat} (D:i<l.length):jv l i=fieldsOf l i:=by rw [jv,fieldsOf,zpn E A D]
theorem zpp {l:List ap} (E:dm l=true) (A:ig l=true) {i:Nat} (D:i<l.length):ja l i=jh l i:=by rw [ja,jh,zpn E A D]
theorem zpq {l:List ap} {s:ByteArray} (h:0<=bv l s):∃(n:Nat) (hn:n<l.length),bv l s=n/\l[n].name=s:=by
 unfold bv at h ⊢;split at h
 ·rename_i i hi;obtain ⟨h1,A,_⟩:=List.findIdx?_eq_some_iff_getElem.1 hi;exact ⟨i,h1,rfl,of_decide_eq_true A⟩
 omega
theorem zpr {l:List ap} {n:Nat} (F:n<l.length) {f:bg} (A:f∈fieldsOf l n):∃c∈l,f∈c.fields:=by rw [fieldsOf,List.mem_flatMap]at A;obtain ⟨k,E,A⟩:=A;have D:=zgy F k E;rw [zay D]at A;exact ⟨_,gm D,A⟩
theorem zps {s:ByteArray} (h:s.size=0):s=⟨#[]⟩:=by obtain ⟨⟨x⟩⟩:=s;have:x.length=0:=h;rw [List.eq_nil_of_length_eq_zero this]
theorem zpt {l:List ap} (D:dm l=true) (V:ig l=true) (Y:mi l=true) (A:∀c∈l,FineC c):js l=q6 l:=by
 have F:=Y;rw [zo4 l D,q2,Bool.and_eq_true,decide_eq_true_iff,decide_eq_true_iff]at F;obtain ⟨t,Z,e1,I⟩:=zpq F.1;obtain ⟨x,E,J,e4⟩:=zpq F.2;have N:(bv l fx).toNat=x:=by rw [J];rfl
 rw [js,q6,zo2 l _ D,zo2 l _ D,N,zpo D V E];have X:decide (df l x=bv l fd)=decide ((b9 l x).bo=fd):=by
  rw [Bool.eq_iff_iff,decide_eq_true_iff,decide_eq_true_iff,df,zo2 l _ D];constructor
  ·intro e;obtain ⟨m,hm,e5,L⟩:=zpq (l:=l) (s:=(b9 l x).bo) (by omega);have:m=t:=by omega
   subst this;rw [<-L,I]
  intro e;rw [e]
 rw [X];cases hf:fieldsOf l x with
 | nil=>rfl
 | cons f fs=>
   show (_&&dv f.kind ⟨1,⟨#[]⟩⟩)=(_&&decide (f.kind.kind=1));obtain ⟨c,hc,G⟩:=zpr E (f:=f) (by rw [hf];simp);have W:=((A c hc).2.2.2.1 f G).2;have:dv f.kind ⟨1,⟨#[]⟩⟩=decide (f.kind.kind=1):=by
    rw [dv];by_cases h1:f.kind.kind=1
    ·have O:=zps (W.2.2.2 (by rw [h1];rfl));rw [O];simp
    simp [h1]
   rw [this]
theorem zpu {l:List ap} (F:dm l=true) (E:ig l=true):i0 l=ev l (q8 l):=by
 have h:(l.all fun c=>dc (c.ba.map (·.name)))=ev l fun i=>dc ((b9 l i).ba.map (·.name)):=all_q fun i A=>by rw [zay A]
 rw [i0,h,ev,ev,Bool.eq_iff_iff,Bool.and_eq_true,List.all_eq_true,List.all_eq_true,List.all_eq_true];constructor
 ·rintro ⟨h1,D⟩ i A;rw [q8,zpo F E (List.mem_range.1 A),Bool.and_eq_true];exact ⟨h1 i A,D i A⟩
 intro h1;have D:=fun i A=>by have:=h1 i A;rwa [q8,zpo F E (List.mem_range.1 A),Bool.and_eq_true]at this
 exact ⟨fun i A=>(D i A).1,fun i A=>(D i A).2⟩
theorem zpv (a b:ew):dv a b=true↔a=b:=by cases a;cases b;simp [dv]
theorem zpw:∀l m:List ew,cz dv l m=true↔l=m
 | [],[]=>by simp [cz]
 | [],_::_=>by simp [cz]
 | _::_,[]=>by simp [cz]
 | x::l,y::m=>by rw [cz,Bool.and_eq_true,zpv,zpw l m,List.cons.injEq]
def fits (x y:dx):Bool:=!x.static&& !y.static&&dv x.ret y.ret&&cz dv x.args y.args
theorem zpx (x y:dx):fits x y=true↔x.static=false/\y.static=false/\x.ret=y.ret/\x.args=y.args:=by
 simp only [fits,Bool.and_eq_true,Bool.not_eq_true',zpv,zpw];constructor
 ·rintro ⟨⟨⟨h1,A⟩,D⟩,E⟩;exact ⟨h1,A,D,E⟩
 rintro ⟨h1,A,D,E⟩;exact ⟨⟨⟨h1,A⟩,D⟩,E⟩
theorem zpy {x y z:dx} (h:fits x z=true) (k:fits z y=true):fits x y=true:=by rw [zpx]at*;exact ⟨h.1,k.2.1,h.2.2.1.trans k.2.2.1,h.2.2.2.trans k.2.2.2⟩
theorem zpz (x y:dx):iv x y=true↔(x.name=y.name->fits x y=true):=by
 by_cases h:x.name=y.name
 ·simp only [iv,h,decide_true,Bool.not_true,Bool.false_or,forall_const];rw [zpx];simp only [Bool.and_eq_true,Bool.not_eq_true',zpv,zpw];constructor
  ·rintro ⟨⟨⟨h1,A⟩,D⟩,E⟩;exact ⟨h1,A,E,D⟩
  rintro ⟨h1,A,D,E⟩;exact ⟨⟨⟨h1,A⟩,E⟩,D⟩
 simp [iv,h]
theorem zp0 {l:List ByteArray} {s:ByteArray} (h:0<=iw l s):∃(k:Nat) (A:k<l.length),iw l s=k/\l[k]=s:=by
 unfold iw at h ⊢;cases hf:l.findIdx? (fun x=>decide (x=s))with
 | none=>rw [hf]at h;simp at h
 | some k=>
   obtain ⟨A,h1,-⟩:=List.findIdx?_eq_some_iff_getElem.1 hf;exact ⟨k,A,rfl,by simpa using h1⟩
theorem zp1 (l:List ByteArray) (a s:ByteArray):iw (l++ [a]) s=if 0<=iw l s then iw l s else if a=s then (l.length:Int) else -1:=by
 unfold iw;rw [List.findIdx?_append];cases hf:l.findIdx? (fun x=>decide (x=s))with
 | some k=>simp
 | none=>
   by_cases A:a=s
   ·simp [A,List.findIdx?_cons]
   simp [A,List.findIdx?_cons]
def lookT (acc:List ByteArray×List cg) (s:ByteArray):Option cg:=if 0<=iw acc.1 s then acc.2[(iw acc.1 s).toNat]? else none
theorem zp2 (A:List ByteArray×List cg) (x:ByteArray×cg) (s:ByteArray) (h:A.1.length=A.2.length):lookT (ed A x) s=if x.1=s then some x.2 else lookT A s:=by
 unfold ed;by_cases F:0<=iw A.1 x.1
 ·rw [if_pos F];obtain ⟨k,O,e,N⟩:=zp0 F;unfold lookT;by_cases D:x.1=s
  ·rw [if_pos D,<-D,if_pos F,e];simp only [Int.toNat_natCast];rw [List.getElem?_set_self (by omega)]
  rw [if_neg D];by_cases h0:0<=iw A.1 s
  ·obtain ⟨L,I,G,E⟩:=zp0 h0;rw [if_pos h0,if_pos h0,e,G];simp only [Int.toNat_natCast];rw [List.getElem?_set_ne];intro J;subst J;exact D (N.symm.trans E)
  rw [if_neg h0,if_neg h0]
 rw [if_neg F];unfold lookT;rw [zp1];by_cases h0:0<=iw A.1 s
 ·obtain ⟨L,I,G,E⟩:=zp0 h0;have D:¬x.1=s:=fun e=>F (by rw [e];exact h0);rw [if_pos h0,if_pos h0,G];have:(0:Int)<=(L:Int):=by omega
  simp only [this,if_true,Int.toNat_natCast];rw [List.getElem?_append_left (by omega),if_neg D]
 by_cases D:x.1=s
 ·rw [if_neg h0,if_pos D,if_pos D];have:(0:Int)<=(A.1.length:Int):=by omega
  simp only [this,if_true,Int.toNat_natCast];rw [h,List.getElem?_append_right (nlq _)];simp
 rw [if_neg h0,if_neg D,if_neg D,if_neg h0];simp
def lookF (P:List (ByteArray×cg)) (s:ByteArray) (a:Option cg):Option cg:=P.foldl (fun a x=>if x.1=s then some x.2 else a) a
theorem zp3 (A:List ByteArray×List cg) (x:ByteArray×cg) (h:A.1.length=A.2.length):(ed A x).1.length=(ed A x).2.length:=zhd [x] A h
theorem zp4 (s:ByteArray):∀(P:List (ByteArray×cg)) (acc:List ByteArray×List cg),acc.1.length=acc.2.length->lookT (P.foldl ed acc) s=lookF P s (lookT acc s)
 | [],_,_=>rfl
 | x::P,acc,h=>by rw [List.foldl_cons,zp4 s P _ (zp3 acc x h),zp2 acc x s h];rfl
theorem zp5 (s:ByteArray) (P:List (ByteArray×cg)) (a:Option cg):(lookF P s a=a/\∀x∈P,x.1≠s)\/(∃t,lookF P s a=some t/\(s,t)∈P):=by
 induction P using za1 with
 | h0=>exact Or.inl ⟨rfl,fun x A=>by cases A⟩
 | h1 P x ih=>
   have e:lookF (P++ [x]) s a=if x.1=s then some x.2 else lookF P s a:=by unfold lookF;rw [List.foldl_append];rfl
   rw [e];by_cases A:x.1=s
   ·rw [if_pos A];exact Or.inr ⟨x.2,rfl,List.mem_append_right _ (by rw [<-A];simp)⟩
   rw [if_neg A];rcases ih with ⟨h1,D⟩ | ⟨t,h1,D⟩
   ·refine Or.inl ⟨h1,fun y E=>?_⟩;rcases List.mem_append.1 E with h | h
    ·exact D y h
    rw [List.mem_singleton.1 h];exact A
   exact Or.inr ⟨t,h1,List.mem_append_left _ D⟩
def lookC (l:List ap) (L:List Nat) (s:ByteArray):Option cg:=lookF (L.flatMap (jk l)) s none
theorem zp6 (l:List ap) (L:List Nat) (u:Nat) (s:ByteArray):lookC l (L++ [u]) s=lookF (jk l u) s (lookC l L s):=by unfold lookC lookF;rw [List.flatMap_append,List.foldl_append];simp
theorem zp7 {l:List ap} {u:Nat} {s:ByteArray} {t:cg} (h:(s,t)∈jk l u):∃(j:Nat) (hj:j<(b9 l u).ba.length),t=⟨u,j⟩/\(b9 l u).ba[j].name=s:=by obtain ⟨p,D,e⟩:=List.mem_map.1 h;obtain ⟨x,j⟩:=p;obtain ⟨h1,E,A⟩:=List.mem_zipIdx D;simp only [Prod.mk.injEq]at e;refine ⟨j,by omega,e.2.symm,?_⟩;rw [<-e.1,A];simp
theorem zp8 {l:List ap} {u:Nat} {y:dx} (h:y∈(b9 l u).ba):∃x∈jk l u,x.1=y.name:=by
 obtain ⟨j,A,e⟩:=List.mem_iff_getElem.1 h;refine ⟨(y.name,⟨u,j⟩),?_,rfl⟩;have D:j<(jk l u).length:=by rw [zhg];exact A
 have:=zhh l u j D A;rw [e]at this;rw [<-this];exact gm D
def oneName (c:ap):Prop:=∀y∈c.ba,∀z∈c.ba,y.name=z.name->y=z
theorem zp9 {c:ap} (h:dc (c.ba.map (·.name))=true):oneName c:=by
 intro y F z G e;rw [zoy,List.pairwise_map,List.pairwise_iff_getElem]at h;obtain ⟨i,D,rfl⟩:=List.mem_iff_getElem.1 F;obtain ⟨j,E,rfl⟩:=List.mem_iff_getElem.1 G;rcases Nat.lt_trichotomy i j with A | A | A
 ·exact absurd e (h i j D E A)
 ·subst A;rfl
 exact absurd e.symm (h j i E D A)
def relU (l:List ap) (u c:Nat):Prop:=∀x∈(b9 l c).ba,∀y∈(b9 l u).ba,iv x y=true
def ng (l:List ap) (L:List Nat) (x:dx):Prop:=∀t,lookC l L x.name=some t->fits x (kz l t)=true
theorem zqa (l:List ap) (x:dx) (L:List Nat):L.Pairwise (relU l)->(∀u∈L,oneName (b9 l u))->(ng l L x↔∀u∈L,∀y∈(b9 l u).ba,iv x y=true):=by
 induction L using za1 with
 | h0=>
   intro _ _;refine ⟨fun _ u hu=>(by cases hu),fun _ t V=>?_⟩;simp [lookC,lookF]at V
 | h1 L u ih=>
   intro O X;rw [List.pairwise_append]at O;have W:=ih O.1 (fun v D=>X v (List.mem_append_left _ D));have I:=X u (by simp);rcases zp5 x.name (jk l u) (lookC l L x.name)with ⟨e,N⟩ | ⟨t,e,hm⟩
   ·have J:ng l (L++ [u]) x↔ng l L x:=by unfold ng;rw [zp6,e]
    rw [J,W];constructor
    ·intro h v D y A;rcases List.mem_append.1 D with h1 | h1
     ·exact h v h1 y A
     rw [List.mem_singleton.1 h1]at A;obtain ⟨z,F,Z⟩:=zp8 A;exact (zpz x y).2 fun G=>absurd (Z.trans G.symm) (N z F)
    exact fun h v D y A=>h v (List.mem_append_left _ D) y A
   obtain ⟨j,E,rfl,F⟩:=zp7 hm;have J:ng l (L++ [u]) x↔fits x (b9 l u).ba[j]=true:=by
    unfold ng;rw [zp6,e];constructor
    ·intro h;have:=h _ rfl;rwa [zi2 E]at this
    intro h t V;cases V;rw [zi2 E];exact h
   rw [J];constructor
   ·intro Y v D y A;rw [zpz];intro G;rcases List.mem_append.1 D with h1 | h1
    ·have:=O.2.2 v h1 u (by simp) _ (gm E) y A;exact zpy Y ((zpz _ _).1 this (F.trans G))
    rw [List.mem_singleton.1 h1]at A;rw [I y A _ (gm E) (G.symm.trans F.symm)];exact Y
   intro h;exact (zpz _ _).1 (h u (by simp) _ (gm E)) F.symm
theorem zqb {l:List ap} (F:ig l=true) {i n:Nat} (G:i<l.length) (J:df l i=n):de l i=de l n++ [i]/\n<l.length:=by
 have I:n<l.length:=by have:=(za2 l (b9 l i).bo).2;have e:df l i=num l (b9 l i).bo:=rfl;omega
 have A:(de l i).length<=l.length:=by simpa using List.all_eq_true.1 F i (List.mem_range.2 G)
 have D:fw l (l.length+1) i=i::fw l l.length n:=by rw [zf6 _ (by omega)];simp [J]
 have E:(fw l l.length n).length<l.length:=by rw [de,D]at A;simp at A;omega
 refine ⟨?_,I⟩;rw [de,D,de,zpf l _ _ E,List.reverse_cons]
theorem zqc {l:List ap} {i:Nat} (A:df l i<0):de l i= [i]:=by rw [de,zf6 _ (by omega)];simp only [Int.toNat_natCast];rw [zf5 (by omega)];rfl
theorem zqd (l:List ap) (n:Nat) (m:dx):jr l n m=true↔ng l (de l n) m:=by
 have e:lookC l (de l n) m.name=lookT (jh l n) m.name:=by rw [jh,zp4 m.name _ ([],[]) rfl];rfl
 unfold ng;rw [e];unfold jr lookT;show (if iw (jh l n).1 m.name<0 then true else _)=true↔_;by_cases h:iw (jh l n).1 m.name<0
 ·rw [if_pos h,if_neg (by omega)];simp
 rw [if_neg h,if_pos (by omega)];show (match (jh l n).2[(iw (jh l n).1 m.name).toNat]? with | none=>true | some t=>!m.static&& !(kz l t).static&&dv m.ret (kz l t).ret&&cz dv m.args (kz l t).args)=true↔_;cases (jh l n).2[(iw (jh l n).1 m.name).toNat]? with
 | none=>simp
 | some t=>
   constructor
   ·intro h D A;cases A;exact h
   intro h;exact h t rfl
theorem zqe {l:List ap} (hn:dm l=true) (h4:kd l=true) (V:ig l=true) (Z:i0 l=true) (X:num l ⟨#[]⟩<0):ki l=ev l (q9 l):=by
 have hd:∀u,u<l.length->oneName (b9 l u):=fun u I=>by rw [i0,Bool.and_eq_true]at Z;rw [zay I];exact zp9 (List.all_eq_true.1 Z.2 _ (gm I))
 have F:∀i (A:i<l.length),((b9 l i).bo=⟨#[]⟩/\df l i<0)\/((b9 l i).bo≠⟨#[]⟩/\∃n:Nat,df l i=n):=fun i A=>by
  by_cases h:(b9 l i).bo=⟨#[]⟩
  ·exact Or.inl ⟨h,by rw [df,h];exact X⟩
  refine Or.inr ⟨h,?_⟩;have h1:=List.all_eq_true.1 h4 l[i] (gm A);rw [zay A]at h;have J:j8 l l[i].bo=true:=by simpa [h]using h1
  have h3:0<=df l i:=by rw [df,zay A];simpa [j8]using J
  exact ⟨(df l i).toNat,by omega⟩
 have hq:∀i (A:i<l.length),q9 l i=true↔∀u∈(de l i).dropLast,relU l u i:=fun i A=>by rw [q9,zpn hn V A];simp only [List.all_eq_true,relU]
 rw [Bool.eq_iff_iff,ki,ev,List.all_eq_true,List.all_eq_true];constructor
 ·intro h;have hT:∀(i n:Nat) (_:i<l.length),df l i=n->∀m∈(b9 l i).ba,ng l (de l n) m:=fun i n A G m W=>by
   have h1:=h i (List.mem_range.2 A);rcases F i A with ⟨_,J⟩ | ⟨J,_⟩
   ·omega
   rw [G]at h1;simp only [J,decide_false,Bool.false_or,Int.toNat_natCast]at h1;exact (zqd l n m).1 (List.all_eq_true.1 h1 m W)
  have O:∀(d i:Nat),i<l.length->(de l i).length<=d->(de l i).Pairwise (relU l):=by
   intro d;induction d with
   | zero=>intro i _ L;exact absurd (List.eq_nil_of_length_eq_zero (by omega)) (zpl l i)
   | succ d ih=>
     intro i A L;rcases F i A with ⟨_,J⟩ | ⟨_,n,G⟩
     ·rw [zqc J];exact List.pairwise_singleton _ _
     obtain ⟨e,E⟩:=zqb V A G;have N:=ih n E (by rw [e]at L;simp at L;omega);rw [e,List.pairwise_append];refine ⟨N,List.pairwise_singleton _ _,fun u I c hc=>?_⟩;rw [List.mem_singleton.1 hc];intro x hx;exact (zqa l x _ N (fun v Y=>hd v (zgy E v Y))).1 (hT i n A G x hx) u I
  intro i A;have D:=List.mem_range.1 A;rw [hq i D];rcases F i D with ⟨_,J⟩ | ⟨_,n,G⟩
  ·rw [zqc J];intro u I;cases I
  obtain ⟨e,E⟩:=zqb V D G;have N:=O _ i D (nlq _);rw [e,List.pairwise_append]at N;rw [e,List.dropLast_concat];exact fun u I=>N.2.2 u I i (by simp)
 intro h;have hQ:∀(i n:Nat) (_:i<l.length),df l i=n->∀u∈de l n,relU l u i:=fun i n A G=>by have:=(hq i A).1 (h i (List.mem_range.2 A));rwa [(zqb V A G).1,List.dropLast_concat]at this
 have O:∀(d i:Nat),i<l.length->(de l i).length<=d->(de l i).Pairwise (relU l):=by
  intro d;induction d with
  | zero=>intro i _ L;exact absurd (List.eq_nil_of_length_eq_zero (by omega)) (zpl l i)
  | succ d ih=>
    intro i A L;rcases F i A with ⟨_,J⟩ | ⟨_,n,G⟩
    ·rw [zqc J];exact List.pairwise_singleton _ _
    obtain ⟨e,E⟩:=zqb V A G;have N:=ih n E (by rw [e]at L;simp at L;omega);rw [e,List.pairwise_append];refine ⟨N,List.pairwise_singleton _ _,fun u I c hc=>?_⟩;rw [List.mem_singleton.1 hc];exact hQ i n A G u I
 intro i A;have D:=List.mem_range.1 A;rcases F i D with ⟨h1,_⟩ | ⟨h1,n,G⟩
 ·simp [h1]
 obtain ⟨e,E⟩:=zqb V D G;rw [G];simp only [h1,decide_false,Bool.false_or,Int.toNat_natCast];rw [List.all_eq_true];intro m W;rw [zqd,zqa l m _ (O _ n E (nlq _)) (fun v Y=>hd v (zgy E v Y))];exact fun u I y hy=>hQ i n D G u I m W y hy
end Go.Proofs.YtjdnmblggdobgaaGreat
