import Derived.Test.YtjdnmblggdobgaaGreatHqA
import Derived.Test.YtjdnmblggdobgaaGreatJHrAHrC
namespace Go.Proofs.YtjdnmblggdobgaaGreat
open Go.Maps Go.RowKit List Or
variable (ts:List bq) {ws:List Int} {m:Nat} {v:Int} {α:Type} {l:List α} {f:α->Bool} {k:Nat} {d:ax} {h:ar} {N G F E D:List bq}
def zl (h:ar) (t:bq):Bool:=!rh t.hash 1 (h.next - 1)
def tg (h:ar) (ts:List bq) (a:Int):Bool:=wd h.ab a != 0&& !(ts.map bq.loc).contains (wd h.ab a)
def Af (d:ax) (h:ar) (ts:List bq) (t:bq):Bool:=(refsOf d.fields t).any (tg h ts)
def uj (h:ar) (i:Nat):Bool:=wd h.ab i != 0&&(i==0||rh i h.bk h.ae||decide (h.be<=i))
def ul (d:ax) (h:ar) (os:List bq) (i:Nat):Bool:=decide (0<i/\wd h.ap i<=wd h.ap ((i:Int) - 1))|| !(os.map bq.loc).contains (wd h.ap i)||(refsOf d.fields (bp h.ab (wd h.ap i))).isEmpty
def ti (h:ar) (t:bq) (a:Int):Bool:=rh (wd h.ab a) 1 h.ae&& !h.ap.contains t.loc
def Ag (d:ax) (h:ar) (t:bq):Bool:=(refsOf d.fields t).any (ti h t)
def jb (d:ax) (h:ar) (ts os:List bq):Int:=
 if ts.any (zl h) then 3 else if !decide ((ts.map bq.hash).Nodup) then 6 else if ts.any (Af d h ts) then 5 else if (range h.ab.length).any (uj h) then 1
 else if (range h.ap.length).any (ul d h os) then 4 else if os.any (Ag d h) then 4 else 0
def gp (d:ax) (h:ar):Int:=
 if kj h then (if ju h then (if lq h then (match cw d.am.length d.fields h.ab 1 h.bk,cw d.am.length d.fields h.ab (h.ae+1) h.be with | some ys,some os=>jb d h (ys++os) os | _,_=>1) else 3) else 1) else 3
theorem zni (A:k<l.length) (h:(l.take k).any f=false) (D:f l[k]=false):(l.take (k+1)).any f=false:=by rw [take_succ_eq_append_getElem A,any_append,h];simp [D]
theorem znj (A:k<l.length) (D:f l[k]=true):l.any f=true:=any_eq_true.2 ⟨_,gm A,D⟩
theorem znk (A:¬k<l.length) (h:(l.take k).any f=false):l.any f=false:=by rwa [take_of_length_le (by omega)]at h
theorem znl {f:Nat->Bool} {n k:Nat} (A:k<n) (D:f k=true):(range n).any f=true:=any_eq_true.2 ⟨k,mem_range.2 A,D⟩
theorem znm {f:Nat->Bool} {n:Nat} (h:∀j,j<n->f j=false):(range n).any f=false:=by rw [any_eq_false];intro j A;rw [h j (mem_range.1 A)];decide
theorem znn {l:List Int} {k:Nat} (A:k<l.length) (h:(l.take k).Nodup) (D:l[k]∉l.take k):(l.take (k+1)).Nodup:=by rw [take_succ_eq_append_getElem A];exact (zh9 _ _).2 ⟨h,D⟩
theorem zno {l:List Int} {j k:Nat} (D:k<l.length) (A:j<k) (e:l[j]=l[k]):¬l.Nodup:=fun E=>by exact (pairwise_iff_getElem.1 E) j k (by omega) D A e
theorem znp {n:Int} (h:mw ts n=none):∀t∈ts,t.loc≠n:=by
 have key:∀(l:List bq) (A:Option bq),l.foldl (fun A t=>if t.loc=n then some t else A) A=none->A=none/\∀t∈l,t.loc≠n:=by
  intro l;induction l with
  | nil=>exact fun A h=>⟨h,fun t D=>by cases D⟩
  | cons x l ih=>
    intro A h;rw [foldl_cons]at h;obtain ⟨h1,E⟩:=ih _ h;by_cases e:x.loc=n
    ·rw [if_pos e]at h1;cases h1
    rw [if_neg e]at h1;refine ⟨h1,fun t D=>?_⟩;rcases mem_cons.1 D with rfl | D
    ·exact e
    exact E t D
 exact (key ts none h).2
theorem Fx (n:Int):(mw ts n).isSome=(ts.map bq.loc).contains n:=by
 rw [Bool.eq_iff_iff,contains_iff_mem,mem_map];constructor
 ·intro h;obtain ⟨t,A⟩:=Option.isSome_iff_exists.1 h;exact ⟨t,Fr ts A⟩
 rintro ⟨t,A,rfl⟩;cases hp:mw ts t.loc with
 | none=>exact absurd rfl (znp ts hp t A)
 | some x=>rfl
theorem znr (h:ar):zl h=jx h:=by funext t;unfold zl jx rh;rw [Bool.eq_iff_iff];simp;omega
theorem zns (d:ax) (h:ar) (ts:List bq):Af d h ts=fun x=>fx d.fields h.ab x fun n=>!cq ts n:=by funext t;unfold Af fx tg cq;congr 1;funext a;show _= !((mw ts (wd h.ab a)).isSome||wd h.ab a==0);rw [Fx];cases (ts.map bq.loc).contains (wd h.ab a)<;>simp [bne]
theorem znt (E:na d h):(range h.ab.length).any (uj h)=(lj h).any (· != 0):=by
 have G:=E.ae;have I:=E.old;have J:=E.len;have L:=E.bk;have N:=E.be;rw [Bool.eq_iff_iff,any_eq_true,any_eq_true];constructor
 ·rintro ⟨i,hi,D⟩;have hi:=mem_range.1 hi;unfold uj rh at D;rw [qm hi]at D;simp only [Bool.and_eq_true,Bool.or_eq_true,decide_eq_true_eq,beq_iff_eq]at D;refine ⟨h.ab[i],?_,D.1⟩;unfold lj;rw [mem_append,mem_append];rcases D.2 with (h0 | h1) | F
  ·subst h0;exact inl (mem_iff_getElem.2 ⟨0,by simp;omega,by simp⟩)
  ·refine inr (inl (mem_iff_getElem.2 ⟨i - h.bk.toNat,by simp;omega,?_⟩));simp only [getElem_drop,getElem_take];congr 1;omega
  refine inr (inr (mem_iff_getElem.2 ⟨i - h.be.toNat,by simp;omega,?_⟩));simp only [getElem_drop];congr 1;omega
 rintro ⟨x,A,D⟩;unfold lj at A;rw [mem_append,mem_append]at A;have key:∀i (hi:i<h.ab.length),h.ab[i]=x->(i=0\/(h.bk<=i/\(i:Int)<=h.ae)\/h.be<=i)->∃j,j∈range h.ab.length/\uj h j=true:=by
  intro i hi e hc;refine ⟨i,mem_range.2 hi,?_⟩;unfold uj rh;rw [qm hi,e,D];simp only [Bool.true_and,Bool.or_eq_true,Bool.and_eq_true,decide_eq_true_eq,beq_iff_eq];rcases hc with h0 | h0 | h0
  ·exact inl (inl h0)
  ·exact inl (inr h0)
  exact inr h0
 rcases A with A | A | A
 ·obtain ⟨i,hi,e⟩:=mem_iff_getElem.1 A;simp at hi e;exact key i (by omega) e (inl (by omega))
 ·obtain ⟨i,hi,e⟩:=mem_iff_getElem.1 A;simp only [getElem_drop,getElem_take]at e;simp at hi;exact key (h.bk.toNat+i) (by omega) e (inr (inl (by omega)))
 obtain ⟨i,hi,e⟩:=mem_iff_getElem.1 A;simp only [getElem_drop]at e;simp at hi;exact key (h.be.toNat+i) (by omega) e (inr (inr (by omega)))
theorem znu (J:na d h) (G:cw d.am.length d.fields h.ab 1 h.bk=some F) (I:cw d.am.length d.fields h.ab (h.ae+1) h.be=some E):(∀t∈F,t.loc<=h.ae)/\∀t∈E,h.ae<t.loc:=by
 refine ⟨fun t A=>?_,fun t A=>?_⟩
 ·have D:=td G t A;have h0:=yb D.2.2.2.2;have L:t.fin=t.loc+3+t.len:=rfl;have:=D.2.1;have:=J.bk;omega
 have:=(td I t A).1;omega
theorem znv (F:cw d.am.length d.fields h.ab 1 h.bk=some E) (G:cw d.am.length d.fields h.ab (h.ae+1) h.be=some D):∀t∈E++D,t=bp h.ab t.loc:=by
 intro t A;rcases mem_append.1 A with A | A
 ·exact (td F t A).2.2.1
 exact (td G t A).2.2.1
theorem znw (W:na d h) (L:cw d.am.length d.fields h.ab 1 h.bk=some G) (N:cw d.am.length d.fields h.ab (h.ae+1) h.be=some D) (n:Int):
 ib d h (G++D) n=(!(D.map bq.loc).contains n||(refsOf d.fields (bp h.ab n)).isEmpty):=by
 have F:=znu W L N;have I:=znv L N;unfold ib;cases hc:(D.map bq.loc).contains n
 ·cases E:(mw (G++D) n).isSome
  ·simp
  have:¬h.ae<n:=fun X=>by
   rw [Fx,contains_iff_mem,mem_map]at E;obtain ⟨t,A,rfl⟩:=E;rcases mem_append.1 A with A | A
   ·have:=F.1 t A;omega
   have:(D.map bq.loc).contains t.loc=true:=contains_iff_mem.2 (mem_map.2 ⟨t,A,rfl⟩);rw [hc]at this;cases this
  simp [this]
 obtain ⟨t,A,rfl⟩:=mem_map.1 (contains_iff_mem.1 hc);have E:(mw (G++D) t.loc).isSome=true:=by rw [Fx,contains_iff_mem,mem_map];exact ⟨t,mem_append.2 (inr A),rfl⟩
 obtain ⟨x,O⟩:=Option.isSome_iff_exists.1 E;obtain ⟨V,J⟩:=Fr _ O;have e:qp (G++D) t.loc=bp h.ab t.loc:=by unfold qp;rw [O];show x=_;rw [<-J];exact I x V
 rw [E,e,decide_eq_true (F.2 t A)];cases refsOf d.fields (bp h.ab t.loc)<;>simp;omega
theorem znx (L:na d h) (I:cw d.am.length d.fields h.ab 1 h.bk=some N) (J:cw d.am.length d.fields h.ab (h.ae+1) h.be=some G):
 (range h.ap.length).any (ul d h G)=(!pv h.ap||h.ap.any (ib d h (N++G))):=by
 rw [Bool.eq_iff_iff,any_eq_true,Bool.or_eq_true,any_eq_true];constructor
 ·rintro ⟨i,hi,A⟩;have hi:=mem_range.1 hi;unfold ul at A;rw [Bool.or_assoc,<-znw L I J,Bool.or_eq_true,decide_eq_true_eq]at A;rcases A with A | A
  ·left;cases F:pv h.ap
   ·rfl
   have:=(zka _).1 F i A.1 hi;omega
  right;exact ⟨wd h.ap i,by rw [qm hi];exact gm hi,A⟩
 rintro (F | ⟨x,V,A⟩)
 ·by_cases E:∃i,i<h.ap.length/\0<i/\wd h.ap i<=wd h.ap ((i:Int) - 1)
  ·obtain ⟨i,hi,h0,D⟩:=E;refine ⟨i,mem_range.2 hi,?_⟩;unfold ul;rw [decide_eq_true ⟨h0,D⟩];rfl
  exfalso;have:pv h.ap=true:=(zka _).2 fun j h0 O=>by
   by_cases D:wd h.ap j<=wd h.ap ((j:Int) - 1)
   ·exact absurd ⟨j,O,h0,D⟩ E
   omega
  rw [this]at F;cases F
 obtain ⟨i,hi,rfl⟩:=mem_iff_getElem.1 V;refine ⟨i,mem_range.2 hi,?_⟩;unfold ul;rw [Bool.or_assoc,<-znw L I J,qm hi,A,Bool.or_true]
theorem zny (N:na d h) (I:cw d.am.length d.fields h.ab 1 h.bk=some G) (J:cw d.am.length d.fields h.ab (h.ae+1) h.be=some E):
 E.any (Ag d h)=(G++E).any (iv d h):=by
 have D:=znu N I J;have L:G.any (iv d h)=false:=by rw [any_eq_false];intro t A;unfold iv;have:=D.1 t A;rw [decide_eq_false (by omega)];simp
 rw [any_append,L,Bool.false_or];have key:∀t∈E,Ag d h t=iv d h t:=by
  intro t A;unfold Ag iv fx ti;rw [decide_eq_true (D.2 t A),Bool.true_and];cases h.ap.contains t.loc
  ·simp only [Bool.not_false,Bool.and_true,Bool.true_and];congr 1
  simp
 rw [Bool.eq_iff_iff,any_eq_true,any_eq_true];constructor
 ·rintro ⟨t,A,F⟩;exact ⟨t,A,by rw [<-key t A];exact F⟩
 rintro ⟨t,A,F⟩;exact ⟨t,A,by rw [key t A];exact F⟩
theorem znz (E:B9 d):gp d h=oa d h:=by
 unfold gp oa;cases h1:kj h
 ·rfl
 cases h2:ju h
 ·rfl
 cases h3:lq h
 ·rfl
 have A:=zkb E h1 h2 h3;simp only [if_true];cases e1:cw d.am.length d.fields h.ab 1 h.bk with
 | none=>simp [jh,e1]
 | some ys=>
   cases e2:cw d.am.length d.fields h.ab (h.ae+1) h.be with
   | none=>simp [jh,e1,e2]
   | some os=>
     have D:jh d h=some (ys++os):=by simp [jh,e1,e2]
     rw [D];show jb d h (ys++os) os=mc d h (ys++os);unfold jb mc;rw [znr,zns,znt A,znx A e1 e2,zny A e1 e2];cases pv h.ap<;>cases h.ap.any (ib d h (ys++os))<;>rfl
theorem zrz {i:Int} (h:i.toNat≠m):wd (ws.set m v) i=wd ws i:=by unfold wd;rw [getElem?_set_ne (Ne.symm h)]
theorem zr0 (h:m<ws.length):wd (ws.set m v) (m:Int)=v:=by unfold wd;simp [h]
theorem zr5 {n:Nat} {fs:List (List bv)} {ws:List Int} {A:Int} :∀(f:Nat) (lo:Int) (ts:List bq),(A - lo).toNat<=f->cw n fs ws lo A=some ts->∀t∈ts,lo<=t.loc/\t.loc+3<=t.fin/\t.fin<=A/\∀u∈ts,u=t\/u.fin<=t.loc\/t.fin<=u.loc
 | f,lo,ts,hf,e,t,F=>by
   by_cases D:lo<A
   ·by_cases G:je n fs ws lo A=true
    ·rw [Ep D G]at e;cases hx:cw n fs ws (bp ws lo).fin A with
     | none=>rw [hx]at e;cases e
     | some ts'=>
       rw [hx]at e;have e:=ojq e;subst e;have h1:=Cs G;match f,hf with
       | 0,hf=>omega
       | f+1,hf=>
         have I:=zr5 f (bp ws lo).fin ts' (by omega) hx;have V:(bp ws lo).loc=lo:=rfl;rcases mem_cons.1 F with rfl | F
         ·refine ⟨Int.le_refl _,by rw [V];exact h1.1,h1.2.1,fun u E=>?_⟩;rcases mem_cons.1 E with rfl | E
          ·exact inl rfl
          exact inr (inr (I u E).1)
         obtain ⟨J,L,N,O⟩:=I t F;refine ⟨by omega,L,N,fun u E=>?_⟩;rcases mem_cons.1 E with rfl | E
         ·exact inr (inl J)
         exact O u E
    rw [Cy D G]at e;cases e
   rw [Dw D]at e;have e:=ojq e;subst e;cases F
theorem B5 {ts:List bq} (E:na d h) (e:jh d h=some ts):∀t∈ts,1<=t.loc/\t.loc+3<=t.fin/\t.fin<=h.ab.length/\∀u∈ts,u=t\/u.fin<=t.loc\/t.fin<=u.loc:=by
 obtain ⟨X,W,O,V,rfl⟩:=Ab e;have h1:=E.ae;have Y:=E.old;have Z:=E.len;have h4:=E.bk;have h5:=E.be;have L:=zr5 _ _ X (nlq _) O;have J:=zr5 _ _ W (nlq _) V;intro t D;rcases mem_append.1 D with D | D
 ·obtain ⟨I,F,N,G⟩:=L t D;refine ⟨I,F,by omega,fun u A=>?_⟩;rcases mem_append.1 A with A | A
  ·exact G u A
  have:=(J u A).1;exact inr (inr (by omega))
 obtain ⟨I,F,N,G⟩:=J t D;refine ⟨by omega,F,by omega,fun u A=>?_⟩;rcases mem_append.1 A with A | A
 ·have:=(L u A).2.2.1;exact inr (inl (by omega))
 exact G u A
end Go.Proofs.YtjdnmblggdobgaaGreat
