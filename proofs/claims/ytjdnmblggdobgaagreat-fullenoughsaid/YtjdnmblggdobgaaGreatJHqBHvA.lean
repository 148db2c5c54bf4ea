import Derived.Test.YtjdnmblggdobgaaGreatHqA
import Derived.Test.YtjdnmblggdobgaaGreatJHrAHrC
namespace Go.Proofs.YtjdnmblggdobgaaGreat
open Go.RowKit Go.Maps
def ye (h:ar) (t:bk):Bool:=!qd t.hash 1 (h.next - 1)
def sd (h:ar) (ts:List bk) (a:Int):Bool:=wd h.ab a != 0&& !(ts.map bk.loc).contains (wd h.ab a)
def ze (d:bd) (h:ar) (ts:List bk) (t:bk):Bool:=(refsOf d.fields t).any (sd h ts)
def rj (h:ar) (i:Nat):Bool:=wd h.ab i != 0&&(i==0||qd i h.bo h.ae||decide (h.ba<=i))
def tj (d:bd) (h:ar) (os:List bk) (i:Nat):Bool:=decide (0<i/\wd h.am i<=wd h.am ((i:Int) - 1))|| !(os.map bk.loc).contains (wd h.am i)||(refsOf d.fields (bj h.ab (wd h.am i))).isEmpty
def se (h:ar) (t:bk) (a:Int):Bool:=qd (wd h.ab a) 1 h.ae&& !h.am.contains t.loc
def zf (d:bd) (h:ar) (t:bk):Bool:=(refsOf d.fields t).any (se h t)
def iy (d:bd) (h:ar) (ts os:List bk):Int:=
 if ts.any (ye h) then 3 else if !decide ((ts.map bk.hash).Nodup) then 6 else if ts.any (ze d h ts) then 5 else if (List.range h.ab.length).any (rj h) then 1
 else if (List.range h.am.length).any (tj d h os) then 4 else if os.any (zf d h) then 4 else 0
def gi (d:bd) (h:ar):Int:=
 if j6 h then (if jg h then (if jx h then (match b9 d.aj.length d.fields h.ab 1 h.bo,b9 d.aj.length d.fields h.ab (h.ae+1) h.ba with | some ys,some os=>iy d h (ys++os) os | _,_=>1) else 3) else 1) else 3
theorem zns {α:Type} {l:List α} {f:α->Bool} {k:Nat} (A:k<l.length) (h:(l.take k).any f=false) (D:f l[k]=false):(l.take (k+1)).any f=false:=by rw [List.take_succ_eq_append_getElem A,List.any_append,h];simp [D]
theorem znt {α:Type} {l:List α} {f:α->Bool} {k:Nat} (A:k<l.length) (D:f l[k]=true):l.any f=true:=List.any_eq_true.2 ⟨_,gm A,D⟩
theorem znu {α:Type} {l:List α} {f:α->Bool} {k:Nat} (A:¬k<l.length) (h:(l.take k).any f=false):l.any f=false:=by rwa [List.take_of_length_le (by omega)]at h
theorem znv {f:Nat->Bool} {n k:Nat} (A:k<n) (D:f k=true):(List.range n).any f=true:=List.any_eq_true.2 ⟨k,List.mem_range.2 A,D⟩
theorem znw {f:Nat->Bool} {n:Nat} (h:∀j,j<n->f j=false):(List.range n).any f=false:=by rw [List.any_eq_false];intro j A;rw [h j (List.mem_range.1 A)];decide
theorem znx {l:List Int} {k:Nat} (A:k<l.length) (h:(l.take k).Nodup) (D:l[k]∉l.take k):(l.take (k+1)).Nodup:=by rw [List.take_succ_eq_append_getElem A];exact (zii _ _).2 ⟨h,D⟩
theorem zny {l:List Int} {j k:Nat} (D:k<l.length) (A:j<k) (e:l[j]=l[k]):¬l.Nodup:=fun E=>by exact (List.pairwise_iff_getElem.1 E) j k (by omega) D A e
theorem znz (ts:List bk) {n:Int} (h:j9 ts n=none):∀t∈ts,t.loc≠n:=by
 have key:∀(l:List bk) (A:Option bk),l.foldl (fun A t=>if t.loc=n then some t else A) A=none->A=none/\∀t∈l,t.loc≠n:=by
  intro l;induction l with
  | nil=>exact fun A h=>⟨h,fun t D=>by cases D⟩
  | cons x l ih=>
    intro A h;rw [List.foldl_cons]at h;obtain ⟨h1,E⟩:=ih _ h;by_cases e:x.loc=n
    ·rw [if_pos e]at h1;cases h1
    rw [if_neg e]at h1;refine ⟨h1,fun t D=>?_⟩;rcases List.mem_cons.1 D with rfl | D
    ·exact e
    exact E t D
 exact (key ts none h).2
theorem Cd (ts:List bk) (n:Int):(j9 ts n).isSome=(ts.map bk.loc).contains n:=by
 rw [Bool.eq_iff_iff,List.contains_iff_mem,List.mem_map];constructor
 ·intro h;obtain ⟨t,A⟩:=Option.isSome_iff_exists.1 h;exact ⟨t,Dr ts A⟩
 rintro ⟨t,A,rfl⟩;cases hp:j9 ts t.loc with
 | none=>exact absurd rfl (znz ts hp t A)
 | some x=>rfl
theorem zn1 (h:ar):ye h=jd h:=by funext t;unfold ye jd qd;rw [Bool.eq_iff_iff];simp;omega
theorem zn2 (d:bd) (h:ar) (ts:List bk):ze d h ts=fun x=>ep d.fields h.ab x fun n=>!b8 ts n:=by funext t;unfold ze ep sd b8;congr 1;funext a;show _= !((j9 ts (wd h.ab a)).isSome||wd h.ab a==0);rw [Cd];cases (ts.map bk.loc).contains (wd h.ab a)<;>simp [bne]
theorem zn3 {d:bd} {h:ar} (E:nj d h):(List.range h.ab.length).any (rj h)=(km h).any (· != 0):=by
 have G:=E.ae;have I:=E.old;have J:=E.len;have L:=E.bo;have N:=E.ba;rw [Bool.eq_iff_iff,List.any_eq_true,List.any_eq_true];constructor
 ·rintro ⟨i,hi,D⟩;have hi:=List.mem_range.1 hi;unfold rj qd at D;rw [pi hi]at D;simp only [Bool.and_eq_true,Bool.or_eq_true,decide_eq_true_eq,beq_iff_eq]at D;refine ⟨h.ab[i],?_,D.1⟩;unfold km;rw [List.mem_append,List.mem_append];rcases D.2 with (h0 | h1) | F
  ·subst h0;exact Or.inl (List.mem_iff_getElem.2 ⟨0,by simp;omega,by simp⟩)
  ·refine Or.inr (Or.inl (List.mem_iff_getElem.2 ⟨i - h.bo.toNat,by simp;omega,?_⟩));simp only [List.getElem_drop,List.getElem_take];congr 1;omega
  refine Or.inr (Or.inr (List.mem_iff_getElem.2 ⟨i - h.ba.toNat,by simp;omega,?_⟩));simp only [List.getElem_drop];congr 1;omega
 rintro ⟨x,A,D⟩;unfold km at A;rw [List.mem_append,List.mem_append]at A;have key:∀i (hi:i<h.ab.length),h.ab[i]=x->(i=0\/(h.bo<=i/\(i:Int)<=h.ae)\/h.ba<=i)->∃j,j∈List.range h.ab.length/\rj h j=true:=by
  intro i hi e hc;refine ⟨i,List.mem_range.2 hi,?_⟩;unfold rj qd;rw [pi hi,e,D];simp only [Bool.true_and,Bool.or_eq_true,Bool.and_eq_true,decide_eq_true_eq,beq_iff_eq];rcases hc with h0 | h0 | h0
  ·exact Or.inl (Or.inl h0)
  ·exact Or.inl (Or.inr h0)
  exact Or.inr h0
 rcases A with A | A | A
 ·obtain ⟨i,hi,e⟩:=List.mem_iff_getElem.1 A;simp at hi e;exact key i (by omega) e (Or.inl (by omega))
 ·obtain ⟨i,hi,e⟩:=List.mem_iff_getElem.1 A;simp only [List.getElem_drop,List.getElem_take]at e;simp at hi;exact key (h.bo.toNat+i) (by omega) e (Or.inr (Or.inl (by omega)))
 obtain ⟨i,hi,e⟩:=List.mem_iff_getElem.1 A;simp only [List.getElem_drop]at e;simp at hi;exact key (h.ba.toNat+i) (by omega) e (Or.inr (Or.inr (by omega)))
theorem zn4 {d:bd} {h:ar} {F E:List bk} (J:nj d h) (G:b9 d.aj.length d.fields h.ab 1 h.bo=some F) (I:b9 d.aj.length d.fields h.ab (h.ae+1) h.ba=some E):(∀t∈F,t.loc<=h.ae)/\∀t∈E,h.ae<t.loc:=by
 refine ⟨fun t A=>?_,fun t A=>?_⟩
 ·have D:=sc G t A;have h0:=vd D.2.2.2.2;have L:t.fin=t.loc+3+t.len:=rfl;have:=D.2.1;have:=J.bo;omega
 have:=(sc I t A).1;omega
theorem zn5 {d:bd} {h:ar} {E D:List bk} (F:b9 d.aj.length d.fields h.ab 1 h.bo=some E) (G:b9 d.aj.length d.fields h.ab (h.ae+1) h.ba=some D):∀t∈E++D,t=bj h.ab t.loc:=by
 intro t A;rcases List.mem_append.1 A with A | A
 ·exact (sc F t A).2.2.1
 exact (sc G t A).2.2.1
theorem zn6 {d:bd} {h:ar} {G D:List bk} (W:nj d h) (L:b9 d.aj.length d.fields h.ab 1 h.bo=some G) (N:b9 d.aj.length d.fields h.ab (h.ae+1) h.ba=some D) (n:Int):
 fh d h (G++D) n=(!(D.map bk.loc).contains n||(refsOf d.fields (bj h.ab n)).isEmpty):=by
 have F:=zn4 W L N;have I:=zn5 L N;unfold fh;cases hc:(D.map bk.loc).contains n with
 | true=>
   obtain ⟨t,A,rfl⟩:=List.mem_map.1 (List.contains_iff_mem.1 hc);have E:(j9 (G++D) t.loc).isSome=true:=by rw [Cd,List.contains_iff_mem,List.mem_map];exact ⟨t,List.mem_append.2 (Or.inr A),rfl⟩
   obtain ⟨x,O⟩:=Option.isSome_iff_exists.1 E;obtain ⟨V,J⟩:=Dr _ O;have e:nu (G++D) t.loc=bj h.ab t.loc:=by unfold nu;rw [O];show x=_;rw [<-J];exact I x V
   rw [E,e,decide_eq_true (F.2 t A)];cases refsOf d.fields (bj h.ab t.loc)<;>simp;omega
 | false=>
   cases E:(j9 (G++D) n).isSome with
   | false=>simp
   | true=>
     have:¬h.ae<n:=fun X=>by
      rw [Cd,List.contains_iff_mem,List.mem_map]at E;obtain ⟨t,A,rfl⟩:=E;rcases List.mem_append.1 A with A | A
      ·have:=F.1 t A;omega
      have:(D.map bk.loc).contains t.loc=true:=List.contains_iff_mem.2 (List.mem_map.2 ⟨t,A,rfl⟩);rw [hc]at this;cases this
     simp [this]
theorem zn7 {d:bd} {h:ar} {N G:List bk} (L:nj d h) (I:b9 d.aj.length d.fields h.ab 1 h.bo=some N) (J:b9 d.aj.length d.fields h.ab (h.ae+1) h.ba=some G):
 (List.range h.am.length).any (tj d h G)=(!pd h.am||h.am.any (fh d h (N++G))):=by
 rw [Bool.eq_iff_iff,List.any_eq_true,Bool.or_eq_true,List.any_eq_true];constructor
 ·rintro ⟨i,hi,A⟩;have hi:=List.mem_range.1 hi;unfold tj at A;rw [Bool.or_assoc,<-zn6 L I J,Bool.or_eq_true,decide_eq_true_eq]at A;rcases A with A | A
  ·left;cases F:pd h.am with
   | false=>rfl
   | true=>
     have:=(zkj _).1 F i A.1 hi;omega
  right;exact ⟨wd h.am i,by rw [pi hi];exact gm hi,A⟩
 rintro (F | ⟨x,V,A⟩)
 ·by_cases E:∃i,i<h.am.length/\0<i/\wd h.am i<=wd h.am ((i:Int) - 1)
  ·obtain ⟨i,hi,h0,D⟩:=E;refine ⟨i,List.mem_range.2 hi,?_⟩;unfold tj;rw [decide_eq_true ⟨h0,D⟩];rfl
  exfalso;have:pd h.am=true:=(zkj _).2 fun j h0 O=>by
   by_cases D:wd h.am j<=wd h.am ((j:Int) - 1)
   ·exact absurd ⟨j,O,h0,D⟩ E
   omega
  rw [this]at F;cases F
 obtain ⟨i,hi,rfl⟩:=List.mem_iff_getElem.1 V;refine ⟨i,List.mem_range.2 hi,?_⟩;unfold tj;rw [Bool.or_assoc,<-zn6 L I J,pi hi,A,Bool.or_true]
theorem zn8 {d:bd} {h:ar} {G E:List bk} (N:nj d h) (I:b9 d.aj.length d.fields h.ab 1 h.bo=some G) (J:b9 d.aj.length d.fields h.ab (h.ae+1) h.ba=some E):
 E.any (zf d h)=(G++E).any (ia d h):=by
 have D:=zn4 N I J;have L:G.any (ia d h)=false:=by rw [List.any_eq_false];intro t A;unfold ia;have:=D.1 t A;rw [decide_eq_false (by omega)];simp
 rw [List.any_append,L,Bool.false_or];have key:∀t∈E,zf d h t=ia d h t:=by
  intro t A;unfold zf ia ep se;rw [decide_eq_true (D.2 t A),Bool.true_and];cases h.am.contains t.loc with
  | true=>simp
  | false=>
    simp only [Bool.not_false,Bool.and_true,Bool.true_and];congr 1
 rw [Bool.eq_iff_iff,List.any_eq_true,List.any_eq_true];constructor
 ·rintro ⟨t,A,F⟩;exact ⟨t,A,by rw [<-key t A];exact F⟩
 rintro ⟨t,A,F⟩;exact ⟨t,A,by rw [key t A];exact F⟩
theorem zn9 {d:bd} {h:ar} (E:Cu d):gi d h=ng d h:=by
 unfold gi ng;cases h1:j6 h with
 | false=>rfl
 | true=>
   cases h2:jg h with
   | false=>rfl
   | true=>
     cases h3:jx h with
     | false=>rfl
     | true=>
       have A:=zkk E h1 h2 h3;simp only [if_true];cases e1:b9 d.aj.length d.fields h.ab 1 h.bo with
       | none=>simp [io,e1]
       | some ys=>
         cases e2:b9 d.aj.length d.fields h.ab (h.ae+1) h.ba with
         | none=>simp [io,e1,e2]
         | some os=>
           have D:io d h=some (ys++os):=by simp [io,e1,e2]
           rw [D];show iy d h (ys++os) os=kw d h (ys++os);unfold iy kw;rw [zn1,zn2,zn3 A,zn7 A e1 e2,zn8 A e1 e2];cases pd h.am<;>cases h.am.any (fh d h (ys++os))<;>rfl
theorem Cn {ws:List Int} {m:Nat} {v i:Int} (h:i.toNat≠m):wd (ws.set m v) i=wd ws i:=by unfold wd;rw [List.getElem?_set_ne (Ne.symm h)]
theorem zsa {ws:List Int} {m:Nat} {v:Int} (h:m<ws.length):wd (ws.set m v) (m:Int)=v:=by unfold wd;simp [h]
def mh (ws ws':List Int) (loc:Int):Prop:=wd ws' loc=wd ws loc/\wd ws' (loc+1)=wd ws (loc+1)/\wd ws' (loc+2)=wd ws (loc+2)
theorem mh.th {ws D:List Int} {A:Int} (h:mh ws D A):bj D A=bj ws A:=by unfold bj;rw [h.1,h.2.1,h.2.2]
theorem mh.read {ws E:List Int} {A:Int} (h:mh ws E A) (n:Nat) (fs:List (List bq)) (D:Int):gr n fs E A D=gr n fs ws A D:=by unfold gr;rw [h.th,h.1,h.2.1]
theorem zsb {n:Nat} {fs:List (List bq)} {ws:List Int} {D E A:Int} (h:gr n fs ws D E=true) (J:E<=A):gr n fs ws D A=true:=by unfold gr at h ⊢;simp only [Bool.and_eq_true,decide_eq_true_eq]at h ⊢;obtain ⟨⟨⟨h1,F⟩,G⟩,I⟩:=h;exact ⟨⟨⟨by omega,F⟩,G⟩,by omega⟩
theorem zsc {n:Nat} {fs:List (List bq)} {ws E:List Int} {A D:Int} (L:A<=D):∀(f:Nat) (lo:Int) (ts:List bk),(A - lo).toNat<=f->lo<=A->b9 n fs ws lo A=some ts->(∀t∈ts,mh ws E t.loc)->b9 n fs E lo D=(b9 n fs E A D).map (ts++ ·)
 | f,lo,ts,hf,hl,e,hs=>by
   by_cases F:lo<A
   ·by_cases G:gr n fs ws lo A=true
    ·rw [Cb F G]at e;cases hx:b9 n fs ws (bj ws lo).fin A with
     | none=>rw [hx]at e;cases e
     | some ts'=>
       rw [hx]at e;have e:=ojq e;subst e;have h0:mh ws E lo:=hs (bj ws lo) (List.mem_cons_self ..);have h1:=Ay G;have I:gr n fs E lo D=true:=by rw [h0.read];exact zsb G L
       rw [Cb (by omega) I,h0.th];match f,hf with
       | 0,hf=>omega
       | f+1,hf=>
         rw [zsc L f (bj ws lo).fin ts' (by omega) h1.2.1 hx (fun t J=>hs t (List.mem_cons_of_mem _ J))];cases b9 n fs E A D<;>rfl
    rw [Cc F G]at e;cases e
   have N:lo=A:=by omega
   subst N;rw [A6 F]at e;have e:=ojq e;subst e;cases b9 n fs E lo D<;>rfl
theorem zsd {n:Nat} {fs:List (List bq)} {ws D:List Int} {A lo:Int} {ts:List bk} (E:lo<=A) (e:b9 n fs ws lo A=some ts) (F:∀t∈ts,mh ws D t.loc):b9 n fs D lo A=some ts:=by rw [zsc (Int.le_refl A) _ lo ts (nlq _) E e F,A6 (by omega)];simp
theorem zse {n:Nat} {fs:List (List bq)} {ws D:List Int} {A lo:Int} {ts:List bk} (F:lo<=A) (e:b9 n fs ws lo A=some ts) (G:∀t∈ts,mh ws D t.loc) (E:gr n fs D A (bj D A).fin=true):b9 n fs D lo (bj D A).fin=some (ts++ [bj D A]):=by have h1:=Ay E;rw [zsc (by omega) _ lo ts (nlq _) F e G,Cb (by omega) E,A6 (by omega)];rfl
theorem zsf {n:Nat} {fs:List (List bq)} {ws:List Int} {A:Int} :∀(f:Nat) (lo:Int) (ts:List bk),(A - lo).toNat<=f->b9 n fs ws lo A=some ts->∀t∈ts,lo<=t.loc/\t.loc+3<=t.fin/\t.fin<=A/\∀u∈ts,u=t\/u.fin<=t.loc\/t.fin<=u.loc
 | f,lo,ts,hf,e,t,F=>by
   by_cases D:lo<A
   ·by_cases G:gr n fs ws lo A=true
    ·rw [Cb D G]at e;cases hx:b9 n fs ws (bj ws lo).fin A with
     | none=>rw [hx]at e;cases e
     | some ts'=>
       rw [hx]at e;have e:=ojq e;subst e;have h1:=Ay G;match f,hf with
       | 0,hf=>omega
       | f+1,hf=>
         have I:=zsf f (bj ws lo).fin ts' (by omega) hx;have V:(bj ws lo).loc=lo:=rfl;rcases List.mem_cons.1 F with rfl | F
         ·refine ⟨Int.le_refl _,by rw [V];exact h1.1,h1.2.1,fun u E=>?_⟩;rcases List.mem_cons.1 E with rfl | E
          ·exact Or.inl rfl
          exact Or.inr (Or.inr (I u E).1)
         obtain ⟨J,L,N,O⟩:=I t F;refine ⟨by omega,L,N,fun u E=>?_⟩;rcases List.mem_cons.1 E with rfl | E
         ·exact Or.inr (Or.inl J)
         exact O u E
    rw [Cc D G]at e;cases e
   rw [A6 D]at e;have e:=ojq e;subst e;cases F
theorem wv {d:bd} {h:ar} {ts:List bk} (E:nj d h) (e:io d h=some ts):∀t∈ts,1<=t.loc/\t.loc+3<=t.fin/\t.fin<=h.ab.length/\∀u∈ts,u=t\/u.fin<=t.loc\/t.fin<=u.loc:=by
 obtain ⟨X,W,O,V,rfl⟩:=xu e;have h1:=E.ae;have Y:=E.old;have Z:=E.len;have h4:=E.bo;have h5:=E.ba;have L:=zsf _ _ X (nlq _) O;have J:=zsf _ _ W (nlq _) V;intro t D;rcases List.mem_append.1 D with D | D
 ·obtain ⟨I,F,N,G⟩:=L t D;refine ⟨I,F,by omega,fun u A=>?_⟩;rcases List.mem_append.1 A with A | A
  ·exact G u A
  have:=(J u A).1;exact Or.inr (Or.inr (by omega))
 obtain ⟨I,F,N,G⟩:=J t D;refine ⟨by omega,F,by omega,fun u A=>?_⟩;rcases List.mem_append.1 A with A | A
 ·have:=(L u A).2.2.1;exact Or.inr (Or.inl (by omega))
 exact G u A
end Go.Proofs.YtjdnmblggdobgaaGreat
