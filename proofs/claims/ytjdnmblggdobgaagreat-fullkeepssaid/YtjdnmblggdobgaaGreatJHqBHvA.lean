import Derived.Test.YtjdnmblggdobgaaGreatHqA
import Derived.Test.YtjdnmblggdobgaaGreatJHrAHrC
namespace Go.Proofs.YtjdnmblggdobgaaGreat
open Go.RowKit Go.Maps
def bad1 (h:bd) (t:bp):Bool:=!btw t.hash 1 (h.next - 1)
def bad3a (h:bd) (ts:List bp) (a:Int):Bool:=wd h.ab a != 0&& !(ts.map bp.loc).contains (wd h.ab a)
def bad3 (d:be) (h:bd) (ts:List bp) (t:bp):Bool:=(refsOf d.fields t).any (bad3a h ts)
def bad4 (h:bd) (i:Nat):Bool:=wd h.ab i != 0&&(i==0||btw i h.bg h.ae||decide (h.bk<=i))
def bad5 (d:be) (h:bd) (os:List bp) (i:Nat):Bool:=decide (0<i/\wd h.ap i<=wd h.ap ((i:Int) - 1))|| !(os.map bp.loc).contains (wd h.ap i)||(refsOf d.fields (bj h.ab (wd h.ap i))).isEmpty
def bad6a (h:bd) (t:bp) (a:Int):Bool:=btw (wd h.ab a) 1 h.ae&& !h.ap.contains t.loc
def bad6 (d:be) (h:bd) (t:bp):Bool:=(refsOf d.fields t).any (bad6a h t)
def ig (d:be) (h:bd) (ts os:List bp):Int:=
 if ts.any (bad1 h) then 3 else if !decide ((ts.map bp.hash).Nodup) then 6 else if ts.any (bad3 d h ts) then 5 else if (List.range h.ab.length).any (bad4 h) then 1
 else if (List.range h.ap.length).any (bad5 d h os) then 4 else if os.any (bad6 d h) then 4 else 0
def gh (d:be) (h:bd):Int:=
 if jg h then (if iv h then (if ju h then (match b9 d.aj.length d.fields h.ab 1 h.bg,b9 d.aj.length d.fields h.ab (h.ae+1) h.bk with | some ys,some os=>ig d h (ys++os) os | _,_=>1) else 3) else 1) else 3
theorem zns {α:Type} {l:List α} {f:α->Bool} {k:Nat} (u:k<l.length) (h:(l.take k).any f=false) (A:f l[k]=false):(l.take (k+1)).any f=false:=by rw [List.take_succ_eq_append_getElem u,List.any_append,h];simp [A]
theorem znt {α:Type} {l:List α} {f:α->Bool} {k:Nat} (u:k<l.length) (A:f l[k]=true):l.any f=true:=List.any_eq_true.2 ⟨_,gm u,A⟩
theorem znu {α:Type} {l:List α} {f:α->Bool} {k:Nat} (u:¬k<l.length) (h:(l.take k).any f=false):l.any f=false:=by rwa [List.take_of_length_le (by omega)]at h
theorem znv {f:Nat->Bool} {n k:Nat} (u:k<n) (A:f k=true):(List.range n).any f=true:=List.any_eq_true.2 ⟨k,List.mem_range.2 u,A⟩
theorem znw {f:Nat->Bool} {n:Nat} (h:∀j,j<n->f j=false):(List.range n).any f=false:=by rw [List.any_eq_false];intro j u;rw [h j (List.mem_range.1 u)];decide
theorem znx {l:List Int} {k:Nat} (u:k<l.length) (h:(l.take k).Nodup) (A:l[k]∉l.take k):(l.take (k+1)).Nodup:=by rw [List.take_succ_eq_append_getElem u];exact (zii _ _).2 ⟨h,A⟩
theorem zny {l:List Int} {j k:Nat} (A:k<l.length) (u:j<k) (e:l[j]=l[k]):¬l.Nodup:=fun D=>by exact (List.pairwise_iff_getElem.1 D) j k (by omega) A u e
theorem znz (ts:List bp) {n:Int} (h:km ts n=none):∀t∈ts,t.loc≠n:=by
 have key:∀(l:List bp) (u:Option bp),l.foldl (fun u t=>if t.loc=n then some t else u) u=none->u=none/\∀t∈l,t.loc≠n:=by
  intro l;induction l with
  | nil=>exact fun u h=>⟨h,fun t A=>by cases A⟩
  | cons x l ih=>
    intro u h;rw [List.foldl_cons]at h;obtain ⟨h1,D⟩:=ih _ h;by_cases e:x.loc=n
    ·rw [if_pos e]at h1;cases h1
    rw [if_neg e]at h1;refine ⟨h1,fun t A=>?_⟩;rcases List.mem_cons.1 A with rfl | A
    ·exact e
    exact D t A
 exact (key ts none h).2
theorem zn0 (ts:List bp) (n:Int):(km ts n).isSome=(ts.map bp.loc).contains n:=by
 rw [Bool.eq_iff_iff,List.contains_iff_mem,List.mem_map];constructor
 ·intro h;obtain ⟨t,u⟩:=Option.isSome_iff_exists.1 h;exact ⟨t,zie ts u⟩
 rintro ⟨t,u,rfl⟩;cases hp:km ts t.loc with
 | none=>exact absurd rfl (znz ts hp t u)
 | some x=>rfl
theorem zn1 (h:bd):bad1 h=iy h:=by funext t;unfold bad1 iy btw;rw [Bool.eq_iff_iff];simp;omega
theorem zn2 (d:be) (h:bd) (ts:List bp):bad3 d h ts=fun x=>fq d.fields h.ab x fun n=>!cw ts n:=by funext t;unfold bad3 fq bad3a cw;congr 1;funext a;show _= !((km ts (wd h.ab a)).isSome||wd h.ab a==0);rw [zn0];cases (ts.map bp.loc).contains (wd h.ab a)<;>simp [bne]
theorem zn3 {d:be} {h:bd} (D:mf d h):(List.range h.ab.length).any (bad4 h)=(kf h).any (· != 0):=by
 have F:=D.ae;have G:=D.old;have I:=D.len;have J:=D.bg;have L:=D.bk;rw [Bool.eq_iff_iff,List.any_eq_true,List.any_eq_true];constructor
 ·rintro ⟨i,hi,A⟩;have hi:=List.mem_range.1 hi;unfold bad4 btw at A;rw [zen hi]at A;simp only [Bool.and_eq_true,Bool.or_eq_true,decide_eq_true_eq,beq_iff_eq]at A;refine ⟨h.ab[i],?_,A.1⟩;unfold kf;rw [List.mem_append,List.mem_append];rcases A.2 with (h0 | h1) | E
  ·subst h0;exact Or.inl (List.mem_iff_getElem.2 ⟨0,by simp;omega,by simp⟩)
  ·refine Or.inr (Or.inl (List.mem_iff_getElem.2 ⟨i - h.bg.toNat,by simp;omega,?_⟩));simp only [List.getElem_drop,List.getElem_take];congr 1;omega
  refine Or.inr (Or.inr (List.mem_iff_getElem.2 ⟨i - h.bk.toNat,by simp;omega,?_⟩));simp only [List.getElem_drop];congr 1;omega
 rintro ⟨x,u,A⟩;unfold kf at u;rw [List.mem_append,List.mem_append]at u;have key:∀i (hi:i<h.ab.length),h.ab[i]=x->(i=0\/(h.bg<=i/\(i:Int)<=h.ae)\/h.bk<=i)->∃j,j∈List.range h.ab.length/\bad4 h j=true:=by
  intro i hi e hc;refine ⟨i,List.mem_range.2 hi,?_⟩;unfold bad4 btw;rw [zen hi,e,A];simp only [Bool.true_and,Bool.or_eq_true,Bool.and_eq_true,decide_eq_true_eq,beq_iff_eq];rcases hc with h0 | h0 | h0
  ·exact Or.inl (Or.inl h0)
  ·exact Or.inl (Or.inr h0)
  exact Or.inr h0
 rcases u with u | u | u
 ·obtain ⟨i,hi,e⟩:=List.mem_iff_getElem.1 u;simp at hi e;exact key i (by omega) e (Or.inl (by omega))
 ·obtain ⟨i,hi,e⟩:=List.mem_iff_getElem.1 u;simp only [List.getElem_drop,List.getElem_take]at e;simp at hi;exact key (h.bg.toNat+i) (by omega) e (Or.inr (Or.inl (by omega)))
 obtain ⟨i,hi,e⟩:=List.mem_iff_getElem.1 u;simp only [List.getElem_drop]at e;simp at hi;exact key (h.bk.toNat+i) (by omega) e (Or.inr (Or.inr (by omega)))
theorem zn4 {d:be} {h:bd} {E D:List bp} (I:mf d h) (F:b9 d.aj.length d.fields h.ab 1 h.bg=some E) (G:b9 d.aj.length d.fields h.ab (h.ae+1) h.bk=some D):(∀t∈E,t.loc<=h.ae)/\∀t∈D,h.ae<t.loc:=by
 refine ⟨fun t u=>?_,fun t u=>?_⟩
 ·have A:=zkn F t u;have h0:=zeo A.2.2.2.2;have J:t.fin=t.loc+3+t.len:=rfl;have:=A.2.1;have:=I.bg;omega
 have:=(zkn G t u).1;omega
theorem zn5 {d:be} {h:bd} {D A:List bp} (E:b9 d.aj.length d.fields h.ab 1 h.bg=some D) (F:b9 d.aj.length d.fields h.ab (h.ae+1) h.bk=some A):∀t∈D++A,t=bj h.ab t.loc:=by
 intro t u;rcases List.mem_append.1 u with u | u
 ·exact (zkn E t u).2.2.1
 exact (zkn F t u).2.2.1
theorem zn6 {d:be} {h:bd} {F A:List bp} (V:mf d h) (J:b9 d.aj.length d.fields h.ab 1 h.bg=some F) (L:b9 d.aj.length d.fields h.ab (h.ae+1) h.bk=some A) (n:Int):
 gi d h (F++A) n=(!(A.map bp.loc).contains n||(refsOf d.fields (bj h.ab n)).isEmpty):=by
 have E:=zn4 V J L;have G:=zn5 J L;unfold gi;cases hc:(A.map bp.loc).contains n with
 | true=>
   obtain ⟨t,u,rfl⟩:=List.mem_map.1 (List.contains_iff_mem.1 hc);have D:(km (F++A) t.loc).isSome=true:=by rw [zn0,List.contains_iff_mem,List.mem_map];exact ⟨t,List.mem_append.2 (Or.inr u),rfl⟩
   obtain ⟨x,N⟩:=Option.isSome_iff_exists.1 D;obtain ⟨O,I⟩:=zie _ N;have e:nj (F++A) t.loc=bj h.ab t.loc:=by unfold nj;rw [N];show x=_;rw [<-I];exact G x O
   rw [D,e,decide_eq_true (E.2 t u)];cases refsOf d.fields (bj h.ab t.loc)<;>simp;omega
 | false=>
   cases D:(km (F++A) n).isSome with
   | false=>simp
   | true=>
     have:¬h.ae<n:=fun W=>by
      rw [zn0,List.contains_iff_mem,List.mem_map]at D;obtain ⟨t,u,rfl⟩:=D;rcases List.mem_append.1 u with u | u
      ·have:=E.1 t u;omega
      have:(A.map bp.loc).contains t.loc=true:=List.contains_iff_mem.2 (List.mem_map.2 ⟨t,u,rfl⟩);rw [hc]at this;cases this
     simp [this]
theorem zn7 {d:be} {h:bd} {L F:List bp} (J:mf d h) (G:b9 d.aj.length d.fields h.ab 1 h.bg=some L) (I:b9 d.aj.length d.fields h.ab (h.ae+1) h.bk=some F):
 (List.range h.ap.length).any (bad5 d h F)=(!nb h.ap||h.ap.any (gi d h (L++F))):=by
 rw [Bool.eq_iff_iff,List.any_eq_true,Bool.or_eq_true,List.any_eq_true];constructor
 ·rintro ⟨i,hi,u⟩;have hi:=List.mem_range.1 hi;unfold bad5 at u;rw [Bool.or_assoc,<-zn6 J G I,Bool.or_eq_true,decide_eq_true_eq]at u;rcases u with u | u
  ·left;cases E:nb h.ap with
   | false=>rfl
   | true=>
     have:=(zkj _).1 E i u.1 hi;omega
  right;exact ⟨wd h.ap i,by rw [zen hi];exact gm hi,u⟩
 rintro (E | ⟨x,O,u⟩)
 ·by_cases D:∃i,i<h.ap.length/\0<i/\wd h.ap i<=wd h.ap ((i:Int) - 1)
  ·obtain ⟨i,hi,h0,A⟩:=D;refine ⟨i,List.mem_range.2 hi,?_⟩;unfold bad5;rw [decide_eq_true ⟨h0,A⟩];rfl
  exfalso;have:nb h.ap=true:=(zkj _).2 fun j h0 N=>by
   by_cases A:wd h.ap j<=wd h.ap ((j:Int) - 1)
   ·exact absurd ⟨j,N,h0,A⟩ D
   omega
  rw [this]at E;cases E
 obtain ⟨i,hi,rfl⟩:=List.mem_iff_getElem.1 O;refine ⟨i,List.mem_range.2 hi,?_⟩;unfold bad5;rw [Bool.or_assoc,<-zn6 J G I,zen hi,u,Bool.or_true]
theorem zn8 {d:be} {h:bd} {F D:List bp} (L:mf d h) (G:b9 d.aj.length d.fields h.ab 1 h.bg=some F) (I:b9 d.aj.length d.fields h.ab (h.ae+1) h.bk=some D):
 D.any (bad6 d h)=(F++D).any (il d h):=by
 have A:=zn4 L G I;have J:F.any (il d h)=false:=by rw [List.any_eq_false];intro t u;unfold il;have:=A.1 t u;rw [decide_eq_false (by omega)];simp
 rw [List.any_append,J,Bool.false_or];have key:∀t∈D,bad6 d h t=il d h t:=by
  intro t u;unfold bad6 il fq bad6a;rw [decide_eq_true (A.2 t u),Bool.true_and];cases h.ap.contains t.loc with
  | true=>simp
  | false=>
    simp only [Bool.not_false,Bool.and_true,Bool.true_and];congr 1
 rw [Bool.eq_iff_iff,List.any_eq_true,List.any_eq_true];constructor
 ·rintro ⟨t,u,E⟩;exact ⟨t,u,by rw [<-key t u];exact E⟩
 rintro ⟨t,u,E⟩;exact ⟨t,u,by rw [key t u];exact E⟩
theorem zn9 {d:be} {h:bd} (D:Few d):gh d h=lq d h:=by
 unfold gh lq;cases h1:jg h with
 | false=>rfl
 | true=>
   cases h2:iv h with
   | false=>rfl
   | true=>
     cases h3:ju h with
     | false=>rfl
     | true=>
       have u:=zkk D h1 h2 h3;simp only [if_true];cases e1:b9 d.aj.length d.fields h.ab 1 h.bg with
       | none=>simp [im,e1]
       | some ys=>
         cases e2:b9 d.aj.length d.fields h.ab (h.ae+1) h.bk with
         | none=>simp [im,e1,e2]
         | some os=>
           have A:im d h=some (ys++os):=by simp [im,e1,e2]
           rw [A];show ig d h (ys++os) os=jw d h (ys++os);unfold ig jw;rw [zn1,zn2,zn3 u,zn7 u e1 e2,zn8 u e1 e2];cases nb h.ap<;>cases h.ap.any (gi d h (ys++os))<;>rfl
theorem zr9 {ws:List Int} {m:Nat} {v i:Int} (h:i.toNat≠m):wd (ws.set m v) i=wd ws i:=by unfold wd;rw [List.getElem?_set_ne (Ne.symm h)]
theorem zsa {ws:List Int} {m:Nat} {v:Int} (h:m<ws.length):wd (ws.set m v) (m:Int)=v:=by unfold wd;simp [h]
theorem zsf {n:Nat} {fs:List (List bo)} {ws:List Int} {A:Int} :∀(f:Nat) (lo:Int) (ts:List bp),(A - lo).toNat<=f->b9 n fs ws lo A=some ts->∀t∈ts,lo<=t.loc/\t.loc+3<=t.fin/\t.fin<=A/\∀u∈ts,u=t\/u.fin<=t.loc\/t.fin<=u.loc
 | f,lo,ts,hf,e,t,F=>by
   by_cases D:lo<A
   ·by_cases G:ip n fs ws lo A=true
    ·rw [zet D G]at e;cases hx:b9 n fs ws (bj ws lo).fin A with
     | none=>rw [hx]at e;cases e
     | some ts'=>
       rw [hx]at e;have e:=ojq e;subst e;have h1:=zep G;match f,hf with
       | 0,hf=>omega
       | f+1,hf=>
         have I:=zsf f (bj ws lo).fin ts' (by omega) hx;have V:(bj ws lo).loc=lo:=rfl;rcases List.mem_cons.1 F with rfl | F
         ·refine ⟨Int.le_refl _,by rw [V];exact h1.1,h1.2.1,fun u E=>?_⟩;rcases List.mem_cons.1 E with rfl | E
          ·exact Or.inl rfl
          exact Or.inr (Or.inr (I u E).1)
         obtain ⟨J,L,N,O⟩:=I t F;refine ⟨by omega,L,N,fun u E=>?_⟩;rcases List.mem_cons.1 E with rfl | E
         ·exact Or.inr (Or.inl J)
         exact O u E
    rw [zeu D G]at e;cases e
   rw [zes D]at e;have e:=ojq e;subst e;cases F
theorem zsg {d:be} {h:bd} {ts:List bp} (E:mf d h) (e:im d h=some ts):∀t∈ts,1<=t.loc/\t.loc+3<=t.fin/\t.fin<=h.ab.length/\∀u∈ts,u=t\/u.fin<=t.loc\/t.fin<=u.loc:=by
 obtain ⟨X,W,O,V,rfl⟩:=zko e;have h1:=E.ae;have Y:=E.old;have Z:=E.len;have h4:=E.bg;have h5:=E.bk;have L:=zsf _ _ X (nlq _) O;have J:=zsf _ _ W (nlq _) V;intro t D;rcases List.mem_append.1 D with D | D
 ·obtain ⟨I,F,N,G⟩:=L t D;refine ⟨I,F,by omega,fun u A=>?_⟩;rcases List.mem_append.1 A with A | A
  ·exact G u A
  have:=(J u A).1;exact Or.inr (Or.inr (by omega))
 obtain ⟨I,F,N,G⟩:=J t D;refine ⟨by omega,F,by omega,fun u A=>?_⟩;rcases List.mem_append.1 A with A | A
 ·have:=(L u A).2.2.1;exact Or.inr (Or.inl (by omega))
 exact G u A
end Go.Proofs.YtjdnmblggdobgaaGreat
