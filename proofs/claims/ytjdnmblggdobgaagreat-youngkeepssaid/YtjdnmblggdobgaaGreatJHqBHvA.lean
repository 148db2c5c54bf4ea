import Derived.Test.YtjdnmblggdobgaaGreatHqA
import Derived.Test.YtjdnmblggdobgaaGreatJHrAHrC
namespace Go.Proofs.YtjdnmblggdobgaaGreat
open Go.RowKit Go.Maps
def bad1 (h:bb) (t:bp):Bool:=!mx t.hash 1 (h.next - 1)
def bad3a (h:bb) (ts:List bp) (a:Int):Bool:=wd h.ab a != 0&& !(ts.map bp.loc).contains (wd h.ab a)
def bad3 (d:bd) (h:bb) (ts:List bp) (t:bp):Bool:=(refsOf d.fields t).any (bad3a h ts)
def bad4 (h:bb) (i:Nat):Bool:=wd h.ab i != 0&&(i==0||mx i h.be h.ag||decide (h.ar<=i))
def bad5 (d:bd) (h:bb) (os:List bp) (i:Nat):Bool:=decide (0<i/\wd h.am i<=wd h.am ((i:Int) - 1))|| !(os.map bp.loc).contains (wd h.am i)||(refsOf d.fields (bj h.ab (wd h.am i))).isEmpty
def bad6a (h:bb) (t:bp) (a:Int):Bool:=mx (wd h.ab a) 1 h.ag&& !h.am.contains t.loc
def bad6 (d:bd) (h:bb) (t:bp):Bool:=(refsOf d.fields t).any (bad6a h t)
def ib (d:bd) (h:bb) (ts os:List bp):Int:=
 if ts.any (bad1 h) then 3 else if !decide ((ts.map bp.hash).Nodup) then 6 else if ts.any (bad3 d h ts) then 5 else if (List.range h.ab.length).any (bad4 h) then 1
 else if (List.range h.am.length).any (bad5 d h os) then 4 else if os.any (bad6 d h) then 4 else 0
def ge (d:bd) (h:bb):Int:=
 if jd h then (if i2 h then (if ju h then (match cb d.aj.length d.fields h.ab 1 h.be,cb d.aj.length d.fields h.ab (h.ag+1) h.ar with | some ys,some os=>ib d h (ys++os) os | _,_=>1) else 3) else 1) else 3
theorem zns {α:Type} {l:List α} {f:α->Bool} {k:Nat} (A:k<l.length) (h:(l.take k).any f=false) (D:f l[k]=false):(l.take (k+1)).any f=false:=by rw [List.take_succ_eq_append_getElem A,List.any_append,h];simp [D]
theorem znt {α:Type} {l:List α} {f:α->Bool} {k:Nat} (A:k<l.length) (D:f l[k]=true):l.any f=true:=List.any_eq_true.2 ⟨_,gm A,D⟩
theorem znu {α:Type} {l:List α} {f:α->Bool} {k:Nat} (A:¬k<l.length) (h:(l.take k).any f=false):l.any f=false:=by rwa [List.take_of_length_le (by omega)]at h
theorem znv {f:Nat->Bool} {n k:Nat} (A:k<n) (D:f k=true):(List.range n).any f=true:=List.any_eq_true.2 ⟨k,List.mem_range.2 A,D⟩
theorem znw {f:Nat->Bool} {n:Nat} (h:∀j,j<n->f j=false):(List.range n).any f=false:=by rw [List.any_eq_false];intro j A;rw [h j (List.mem_range.1 A)];decide
theorem znx {l:List Int} {k:Nat} (A:k<l.length) (h:(l.take k).Nodup) (D:l[k]∉l.take k):(l.take (k+1)).Nodup:=by rw [List.take_succ_eq_append_getElem A];exact (zii _ _).2 ⟨h,D⟩
theorem zny {l:List Int} {j k:Nat} (D:k<l.length) (A:j<k) (e:l[j]=l[k]):¬l.Nodup:=fun E=>by exact (List.pairwise_iff_getElem.1 E) j k (by omega) D A e
theorem znz (ts:List bp) {n:Int} (h:km ts n=none):∀t∈ts,t.loc≠n:=by
 have key:∀(l:List bp) (A:Option bp),l.foldl (fun A t=>if t.loc=n then some t else A) A=none->A=none/\∀t∈l,t.loc≠n:=by
  intro l;induction l with
  | nil=>exact fun A h=>⟨h,fun t D=>by cases D⟩
  | cons x l ih=>
    intro A h;rw [List.foldl_cons]at h;obtain ⟨h1,E⟩:=ih _ h;by_cases e:x.loc=n
    ·rw [if_pos e]at h1;cases h1
    rw [if_neg e]at h1;refine ⟨h1,fun t D=>?_⟩;rcases List.mem_cons.1 D with rfl | D
    ·exact e
    exact E t D
 exact (key ts none h).2
theorem zn0 (ts:List bp) (n:Int):(km ts n).isSome=(ts.map bp.loc).contains n:=by
 rw [Bool.eq_iff_iff,List.contains_iff_mem,List.mem_map];constructor
 ·intro h;obtain ⟨t,A⟩:=Option.isSome_iff_exists.1 h;exact ⟨t,zie ts A⟩
 rintro ⟨t,A,rfl⟩;cases hp:km ts t.loc with
 | none=>exact absurd rfl (znz ts hp t A)
 | some x=>rfl
theorem zn1 (h:bb):bad1 h=i4 h:=by funext t;unfold bad1 i4 mx;rw [Bool.eq_iff_iff];simp;omega
theorem zn2 (d:bd) (h:bb) (ts:List bp):bad3 d h ts=fun x=>gc d.fields h.ab x fun n=>!dh ts n:=by funext t;unfold bad3 gc bad3a dh;congr 1;funext a;show _= !((km ts (wd h.ab a)).isSome||wd h.ab a==0);rw [zn0];cases (ts.map bp.loc).contains (wd h.ab a)<;>simp [bne]
theorem zn3 {d:bd} {h:bb} (F:jy d h):(List.range h.ab.length).any (bad4 h)=(jq h).any (· != 0):=by
 have I:=F.ag;have J:=F.old;have L:=F.len;have N:=F.be;have O:=F.ar;rw [Bool.eq_iff_iff,List.any_eq_true,List.any_eq_true];constructor
 ·rintro ⟨i,A,E⟩;have A:=List.mem_range.1 A;unfold bad4 mx at E;rw [mw A]at E;simp only [Bool.and_eq_true,Bool.or_eq_true,decide_eq_true_eq,beq_iff_eq]at E;refine ⟨h.ab[i],?_,E.1⟩;unfold jq;rw [List.mem_append,List.mem_append];rcases E.2 with (h0 | h1) | G
  ·subst h0;exact Or.inl (List.mem_iff_getElem.2 ⟨0,by simp;omega,by simp⟩)
  ·refine Or.inr (Or.inl (List.mem_iff_getElem.2 ⟨i - h.be.toNat,by simp;omega,?_⟩));simp only [List.getElem_drop,List.getElem_take];congr 1;omega
  refine Or.inr (Or.inr (List.mem_iff_getElem.2 ⟨i - h.ar.toNat,by simp;omega,?_⟩));simp only [List.getElem_drop];congr 1;omega
 rintro ⟨x,D,E⟩;unfold jq at D;rw [List.mem_append,List.mem_append]at D;have key:∀i (A:i<h.ab.length),h.ab[i]=x->(i=0\/(h.be<=i/\(i:Int)<=h.ag)\/h.ar<=i)->∃j,j∈List.range h.ab.length/\bad4 h j=true:=by
  intro i A e hc;refine ⟨i,List.mem_range.2 A,?_⟩;unfold bad4 mx;rw [mw A,e,E];simp only [Bool.true_and,Bool.or_eq_true,Bool.and_eq_true,decide_eq_true_eq,beq_iff_eq];rcases hc with h0 | h0 | h0
  ·exact Or.inl (Or.inl h0)
  ·exact Or.inl (Or.inr h0)
  exact Or.inr h0
 rcases D with D | D | D
 ·obtain ⟨i,A,e⟩:=List.mem_iff_getElem.1 D;simp at A e;exact key i (by omega) e (Or.inl (by omega))
 ·obtain ⟨i,A,e⟩:=List.mem_iff_getElem.1 D;simp only [List.getElem_drop,List.getElem_take]at e;simp at A;exact key (h.be.toNat+i) (by omega) e (Or.inr (Or.inl (by omega)))
 obtain ⟨i,A,e⟩:=List.mem_iff_getElem.1 D;simp only [List.getElem_drop]at e;simp at A;exact key (h.ar.toNat+i) (by omega) e (Or.inr (Or.inr (by omega)))
theorem zn4 {d:bd} {h:bb} {F E:List bp} (J:jy d h) (G:cb d.aj.length d.fields h.ab 1 h.be=some F) (I:cb d.aj.length d.fields h.ab (h.ag+1) h.ar=some E):(∀t∈F,t.loc<=h.ag)/\∀t∈E,h.ag<t.loc:=by
 refine ⟨fun t A=>?_,fun t A=>?_⟩
 ·have D:=zkn G t A;have h0:=zeo D.2.2.2.2;have L:t.fin=t.loc+3+t.len:=rfl;have:=D.2.1;have:=J.be;omega
 have:=(zkn I t A).1;omega
theorem zn5 {d:bd} {h:bb} {E D:List bp} (F:cb d.aj.length d.fields h.ab 1 h.be=some E) (G:cb d.aj.length d.fields h.ab (h.ag+1) h.ar=some D):∀t∈E++D,t=bj h.ab t.loc:=by
 intro t A;rcases List.mem_append.1 A with A | A
 ·exact (zkn F t A).2.2.1
 exact (zkn G t A).2.2.1
theorem zn6 {d:bd} {h:bb} {G D:List bp} (W:jy d h) (L:cb d.aj.length d.fields h.ab 1 h.be=some G) (N:cb d.aj.length d.fields h.ab (h.ag+1) h.ar=some D) (n:Int):
 ga d h (G++D) n=(!(D.map bp.loc).contains n||(refsOf d.fields (bj h.ab n)).isEmpty):=by
 have F:=zn4 W L N;have I:=zn5 L N;unfold ga;cases hc:(D.map bp.loc).contains n with
 | true=>
   obtain ⟨t,A,rfl⟩:=List.mem_map.1 (List.contains_iff_mem.1 hc);have E:(km (G++D) t.loc).isSome=true:=by rw [zn0,List.contains_iff_mem,List.mem_map];exact ⟨t,List.mem_append.2 (Or.inr A),rfl⟩
   obtain ⟨x,O⟩:=Option.isSome_iff_exists.1 E;obtain ⟨V,J⟩:=zie _ O;have e:atOr (G++D) t.loc=bj h.ab t.loc:=by unfold atOr;rw [O];show x=_;rw [<-J];exact I x V
   rw [E,e,decide_eq_true (F.2 t A)];cases refsOf d.fields (bj h.ab t.loc)<;>simp;omega
 | false=>
   cases E:(km (G++D) n).isSome with
   | false=>simp
   | true=>
     have:¬h.ag<n:=fun X=>by
      rw [zn0,List.contains_iff_mem,List.mem_map]at E;obtain ⟨t,A,rfl⟩:=E;rcases List.mem_append.1 A with A | A
      ·have:=F.1 t A;omega
      have:(D.map bp.loc).contains t.loc=true:=List.contains_iff_mem.2 (List.mem_map.2 ⟨t,A,rfl⟩);rw [hc]at this;cases this
     simp [this]
theorem zn7 {d:bd} {h:bb} {O I:List bp} (N:jy d h) (J:cb d.aj.length d.fields h.ab 1 h.be=some O) (L:cb d.aj.length d.fields h.ab (h.ag+1) h.ar=some I):
 (List.range h.am.length).any (bad5 d h I)=(!lu h.am||h.am.any (ga d h (O++I))):=by
 rw [Bool.eq_iff_iff,List.any_eq_true,Bool.or_eq_true,List.any_eq_true];constructor
 ·rintro ⟨i,A,D⟩;have A:=List.mem_range.1 A;unfold bad5 at D;rw [Bool.or_assoc,<-zn6 N J L,Bool.or_eq_true,decide_eq_true_eq]at D;rcases D with D | D
  ·left;cases G:lu h.am with
   | false=>rfl
   | true=>
     have:=(zkj _).1 G i D.1 A;omega
  right;exact ⟨wd h.am i,by rw [mw A];exact gm A,D⟩
 rintro (G | ⟨x,W,D⟩)
 ·by_cases F:∃i,i<h.am.length/\0<i/\wd h.am i<=wd h.am ((i:Int) - 1)
  ·obtain ⟨i,A,h0,E⟩:=F;refine ⟨i,List.mem_range.2 A,?_⟩;unfold bad5;rw [decide_eq_true ⟨h0,E⟩];rfl
  exfalso;have:lu h.am=true:=(zkj _).2 fun j h0 V=>by
   by_cases E:wd h.am j<=wd h.am ((j:Int) - 1)
   ·exact absurd ⟨j,V,h0,E⟩ F
   omega
  rw [this]at G;cases G
 obtain ⟨i,A,rfl⟩:=List.mem_iff_getElem.1 W;refine ⟨i,List.mem_range.2 A,?_⟩;unfold bad5;rw [Bool.or_assoc,<-zn6 N J L,mw A,D,Bool.or_true]
theorem zn8 {d:bd} {h:bb} {G E:List bp} (N:jy d h) (I:cb d.aj.length d.fields h.ab 1 h.be=some G) (J:cb d.aj.length d.fields h.ab (h.ag+1) h.ar=some E):
 E.any (bad6 d h)=(G++E).any (iq d h):=by
 have D:=zn4 N I J;have L:G.any (iq d h)=false:=by rw [List.any_eq_false];intro t A;unfold iq;have:=D.1 t A;rw [decide_eq_false (by omega)];simp
 rw [List.any_append,L,Bool.false_or];have key:∀t∈E,bad6 d h t=iq d h t:=by
  intro t A;unfold bad6 iq gc bad6a;rw [decide_eq_true (D.2 t A),Bool.true_and];cases h.am.contains t.loc with
  | true=>simp
  | false=>
    simp only [Bool.not_false,Bool.and_true,Bool.true_and];congr 1
 rw [Bool.eq_iff_iff,List.any_eq_true,List.any_eq_true];constructor
 ·rintro ⟨t,A,F⟩;exact ⟨t,A,by rw [<-key t A];exact F⟩
 rintro ⟨t,A,F⟩;exact ⟨t,A,by rw [key t A];exact F⟩
theorem zn9 {d:bd} {h:bb} (E:Few d):ge d h=kj d h:=by
 unfold ge kj;cases h1:jd h with
 | false=>rfl
 | true=>
   cases h2:i2 h with
   | false=>rfl
   | true=>
     cases h3:ju h with
     | false=>rfl
     | true=>
       have A:=zkk E h1 h2 h3;simp only [if_true];cases e1:cb d.aj.length d.fields h.ab 1 h.be with
       | none=>simp [im,e1]
       | some ys=>
         cases e2:cb d.aj.length d.fields h.ab (h.ag+1) h.ar with
         | none=>simp [im,e1,e2]
         | some os=>
           have D:im d h=some (ys++os):=by simp [im,e1,e2]
           rw [D];show ib d h (ys++os) os=jo d h (ys++os);unfold ib jo;rw [zn1,zn2,zn3 A,zn7 A e1 e2,zn8 A e1 e2];cases lu h.am<;>cases h.am.any (ga d h (ys++os))<;>rfl
theorem zr9 {ws:List Int} {m:Nat} {v i:Int} (h:i.toNat≠m):wd (ws.set m v) i=wd ws i:=by unfold wd;rw [List.getElem?_set_ne (Ne.symm h)]
theorem zsa {ws:List Int} {m:Nat} {v:Int} (h:m<ws.length):wd (ws.set m v) (m:Int)=v:=by unfold wd;simp [h]
theorem zsf {n:Nat} {fs:List (List bg)} {ws:List Int} {A:Int} :∀(f:Nat) (lo:Int) (ts:List bp),(A - lo).toNat<=f->cb n fs ws lo A=some ts->∀t∈ts,lo<=t.loc/\t.loc+3<=t.fin/\t.fin<=A/\∀u∈ts,u=t\/u.fin<=t.loc\/t.fin<=u.loc
 | f,lo,ts,hf,e,t,F=>by
   by_cases D:lo<A
   ·by_cases G:io n fs ws lo A=true
    ·rw [zet D G]at e;cases hx:cb n fs ws (bj ws lo).fin A with
     | none=>rw [hx]at e;cases e
     | some ts'=>
       rw [hx]at e;have e:=ojq e;subst e;have h1:=zep G;match f,hf with
       | 0,hf=>omega
       | f+1,hf=>
         have I:=zsf f (bj ws lo).fin ts' (by omega) hx;have V:(bj ws lo).loc=lo:=rfl;rcases List.mem_cons.1 F with rfl | F
         ·refine ⟨Int.le_refl _,by rw [V];exact h1.1,h1.2.1,fun u E=>?_⟩;rcases List.mem_cons.1 E with rfl | E
          ·exact Or.inl rfl
          exact Or.inr (Or.inr (I u E).1)
         obtain ⟨J,L,N,O⟩:=I t F;refine ⟨by omega,L,N,fun u E=>?_⟩;rcases List.mem_cons.1 E with rfl | E
         ·exact Or.inr (Or.inl J)
         exact O u E
    rw [zeu D G]at e;cases e
   rw [zes D]at e;have e:=ojq e;subst e;cases F
theorem zsg {d:bd} {h:bb} {ts:List bp} (E:jy d h) (e:im d h=some ts):∀t∈ts,1<=t.loc/\t.loc+3<=t.fin/\t.fin<=h.ab.length/\∀u∈ts,u=t\/u.fin<=t.loc\/t.fin<=u.loc:=by
 obtain ⟨X,W,O,V,rfl⟩:=zko e;have h1:=E.ag;have Y:=E.old;have Z:=E.len;have h4:=E.be;have h5:=E.ar;have L:=zsf _ _ X (nlq _) O;have J:=zsf _ _ W (nlq _) V;intro t D;rcases List.mem_append.1 D with D | D
 ·obtain ⟨I,F,N,G⟩:=L t D;refine ⟨I,F,by omega,fun u A=>?_⟩;rcases List.mem_append.1 A with A | A
  ·exact G u A
  have:=(J u A).1;exact Or.inr (Or.inr (by omega))
 obtain ⟨I,F,N,G⟩:=J t D;refine ⟨by omega,F,by omega,fun u A=>?_⟩;rcases List.mem_append.1 A with A | A
 ·have:=(L u A).2.2.1;exact Or.inr (Or.inl (by omega))
 exact G u A
end Go.Proofs.YtjdnmblggdobgaaGreat
