import Derived.Test.YtjdnmblggdobgaaGreatJLCkDLPu4
import Derived.Test.YtjdnmblggdobgaaGreatJLLvLLo
import Derived.Test.YtjdnmblggdobgaaGreatJSameLRf6
import Derived.Test.YtjdnmblggdobgaaGreatJLLkLBas
import Derived.Test.YtjdnmblggdobgaaGreatJTk2Dies
import Derived.Test.YtjdnmblggdobgaaGreatJHtGHuC
import Derived.Test.YtjdnmblggdobgaaGreatHrG
set_option maxHeartbeats 2000000
set_option maxRecDepth 100000
namespace Go.Proofs.YtjdnmblggdobgaaGreat
open Go.RowKit
theorem zq1 {s:ByteArray} (h:db s=true):s≠⟨#[]⟩:=by rintro rfl;revert h;decide
theorem zq2 {c:am} (h:dy c=0):c.name≠⟨#[]⟩:=by unfold dy at h;exact zq1 (zgb h (by decide)).1
theorem zq3 {l:List am} (h:dt l=0):num l ⟨#[]⟩<0:=by
 have h1:kw l ⟨#[]⟩=false:=by
  rw [kw,za6,List.any_eq_false];intro c hc;have u:dy c=0:=by unfold dt at h;exact zgd (zgb h (by decide)).2 c hc
  have:=zq2 u;simpa using fun e=>this e.symm
 simpa [kw]using h1
theorem few_q {l:List am} (D:dq l=true) (A:ik l=true):la l=ev l (fewI l):=by
 rw [la,ev,Bool.eq_iff_iff,Bool.and_eq_true];simp only [List.all_eq_true,fewI,Bool.and_eq_true];constructor
 ·rintro ⟨h1,E⟩ i hi;have u:=List.mem_range.1 hi;rw [zpo D A u,zpp D A u];exact ⟨h1 i hi,E i hi⟩
 intro h;refine ⟨fun i hi=>?_,fun i hi=>?_⟩
 ·have:=(h i hi).1;rwa [zpo D A (List.mem_range.1 hi)]at this
 have:=(h i hi).2;rwa [zpp D A (List.mem_range.1 hi)]at this
theorem zq4 {l:List am} {e:Int} (h:cb l=e) (u:e≠0):ic l=e:=by rw [ic,h,if_pos u]
theorem zq5 (l:List am):gj l=ic l:=by
 by_cases hc:dt l=0
 rotate_left
 ·rw [gj,if_neg hc];exact (zq4 (by simp [cb,hc]) hc).symm
 have u:=(zgm hc).2;rw [gj,if_pos hc];cases h1:dq l with
 | false=>rw [zq4 (lk1 hc (zo3 l ▸ h1)) (by decide)];simp [jp,dv,h1]
 | true=>
 have A:=zo3 l ▸ h1;cases h2:ni l with
 | false=>rw [zq4 (lk2 hc A (zo4 l h1 ▸ h2)) (by decide)];simp [jp,dv,h1,h2]
 | true=>
 have D:=zo4 l h1 ▸ h2;cases h3:askUpper l with
 | false=>rw [zq4 (lk3 hc A D (zo5 l ▸ h3)) (by decide)];simp [jp,dv,h1,h2,h3]
 | true=>
 have E:=zo5 l ▸ h3;cases h4:ld l with
 | false=>rw [zq4 (lk4 hc A D E (zo6 l h1 ▸ h4)) (by decide)];simp [jp,dv,h1,h2,h3,h4]
 | true=>
 have F:=zo6 l h1 ▸ h4;cases h5:ik l with
 | false=>rw [zq4 (lk5 hc A D E F (zpm l h1 ▸ h5)) (by decide)];simp [jp,dv,h1,h2,h3,h4,h5]
 | true=>
 have G:=zpm l h1 ▸ h5;cases h6:j9 l with
 | false=>rw [zq4 (lk6 hc A D E F G (zpt h1 h5 h2 u ▸ h6)) (by decide)];simp [jp,dv,h1,h2,h3,h4,h5,h6]
 | true=>
 have I:=zpt h1 h5 h2 u ▸ h6;cases h7:askTold l with
 | false=>rw [zq4 (lk7 hc A D E F G I (zpa l h1 ▸ h7)) (by decide)];simp [jp,dv,h1,h2,h3,h4,h5,h6,h7]
 | true=>
 have J:=zpa l h1 ▸ h7;cases h8:jb l with
 | false=>rw [zq4 (lk8 hc A D E F G I J (zpu h1 h5 ▸ h8)) (by decide)];simp [jp,dv,h1,h2,h3,h4,h5,h6,h7,h8]
 | true=>
 have L:=zpu h1 h5 ▸ h8;cases h9:ll l with
 | false=>rw [zq4 (lk9 hc A D E F G I J L (zqe h1 h4 h5 h8 (zq3 hc) ▸ h9)) (by decide)];simp [jp,dv,h1,h2,h3,h4,h5,h6,h7,h8,h9]
 | true=>
 have N:=zqe h1 h4 h5 h8 (zq3 hc) ▸ h9;rw [ic,lk10 hc A D E F G I J L N,<-few_q h1 h5];cases h10:la l<;>simp [jp,dv,h1,h2,h3,h4,h5,h6,h7,h8,h9,h10]
theorem zq6 {g:Nat} {e:Int} {a:Bool} {l:List QD} (h:dv (⟨g,e,a⟩::l)=0) (u:e≠0):a=true/\dv l=0:=by
 rw [dv]at h;cases a with
 | true=>exact ⟨rfl,by simpa using h⟩
 | false=>exact absurd (by simpa using h) u
theorem zq7 {l:List am} (h:gj l=0):dq l=true/\ni l=true/\askUpper l=true/\ld l=true/\ik l=true/\j9 l=true/\askTold l=true/\jb l=true/\ll l=true/\la l=true:=by have hc:=zka h;rw [gj,if_pos hc]at h;obtain ⟨h1,h⟩:=zq6 h (by decide);obtain ⟨A,h⟩:=zq6 h (by decide);obtain ⟨D,h⟩:=zq6 h (by decide);obtain ⟨E,h⟩:=zq6 h (by decide);obtain ⟨F,h⟩:=zq6 h (by decide);obtain ⟨G,h⟩:=zq6 h (by decide);obtain ⟨I,h⟩:=zq6 h (by decide);obtain ⟨J,h⟩:=zq6 h (by decide);obtain ⟨L,h⟩:=zq6 h (by decide);obtain ⟨u,-⟩:=zq6 h (by decide);exact ⟨h1,A,D,E,F,G,I,J,L,u⟩
theorem zq8 {l:List am} (h:gj l=0):na l=od l:=by
 obtain ⟨h1,-,-,-,u,-⟩:=zq7 h;have A:(List.range l.length).map (dj l)=(List.range l.length).map fun i=>bw l (b8 l i).bq:=List.map_congr_left fun i _=>zo2 l _ h1;have D:(List.range l.length).map (fieldsOf l)=(List.range l.length).map (ki l):=List.map_congr_left fun i hi=>(zpo h1 u (List.mem_range.1 hi)).symm;have E:(List.range l.length).map (d9 l)=(List.range l.length).map fun i=>(ji l i).1:=List.map_congr_left fun i hi=>by rw [zpp h1 u (List.mem_range.1 hi)];rfl
 have F:(List.range l.length).map (d7 l)=(List.range l.length).map fun i=>(ji l i).2:=List.map_congr_left fun i hi=>by rw [zpp h1 u (List.mem_range.1 hi)];rfl
 rw [na,od,A,D,E,F]
end Go.Proofs.YtjdnmblggdobgaaGreat
namespace Go.Proofs.YtjdnmblggdobgaaGreat
open Go.RowKit Go.Maps
theorem zq9 {α:Type} {p:α->α->Bool} (h:∀x y,p x y=p y x):∀l m:List α,cz p l m=cz p m l
 | [],[]=>rfl
 | [],_::_=>rfl
 | _::_,[]=>rfl
 | x::l,y::m=>by rw [cz,cz,h,zq9 h l m]
theorem zra (x y:ew):dw x y=dw y x:=by rw [Bool.eq_iff_iff,zpv,zpv];exact ⟨Eq.symm,Eq.symm⟩
theorem zrb (d e:be):fw d e=fw e d:=by rw [fw,fw,zq9 (fun x y=>by rw [Bool.eq_iff_iff,fp,fp,beq_iff_eq,beq_iff_eq];exact eq_comm) d.ax,zq9 (zq9 fun x y=>by simp only [ey];rw [zra x.kind,decide_eq_decide.2 eq_comm]) d.fields,zq9 (zq9 fun x y=>by rw [Bool.eq_iff_iff,fx,fx,beq_iff_eq,beq_iff_eq];exact eq_comm) d.names,zq9 (zq9 fun x y=>by rw [Bool.eq_iff_iff,fg,fg,Bool.and_eq_true,Bool.and_eq_true,beq_iff_eq,beq_iff_eq,beq_iff_eq,beq_iff_eq,eq_comm (a:=x.da),eq_comm (a:=x.meth)]) d.aq]
def jj (d:be):Int:=if ic d.aj=0/\fw d (od d.aj)=true then 0 else 4
theorem zrc (d:be):jj d=gu d []:=by
 have e:o7 d=true↔(ic d.aj=0/\fw d (od d.aj)=true):=by
  rw [o7,Bool.and_eq_true,decide_eq_true_iff,zq5];constructor
  ·rintro ⟨h1,u⟩;refine ⟨h1,?_⟩;rw [<-zq8 ((zq5 _).trans h1),zrb];exact u
  rintro ⟨h1,u⟩;refine ⟨h1,?_⟩;rw [<-zq8 ((zq5 _).trans h1),zrb]at u;exact u
 unfold jj gu;by_cases h:o7 d=true
 ·rw [if_pos (e.1 h),if_pos h];rfl
 rw [if_neg (fun A=>h (e.2 A)),if_neg h]
theorem zrd (w:World) (B:Nat) (kC kS kF kN kT:Value) (d:be) (V:ma (· <B) w kC kS kF kN kT d) (Z:B<=w.heap.size):
 Calls Tryz.prog 54 #[.agg #[kC,kS,kF,kN,kT]] w fun r w'=>r=.returned (.int .i64 (jj d))/\Below w.heap.size w w':=by
 have HK:=ag V;obtain ⟨aC,cC,aS,cS,aF,cF,aN,cN,aT,cT,rfl,rfl,rfl,rfl,rfl⟩:=V.agg;clear V;have L:=ag (fun o=>(br w.heap.size w).alloc (nlq _) o);go_enter Tryz.func54,Tryz.ntmps54;go_wp2_with fail;refine (zqr _ B d.aj _ (HK.o.C.keptC (Kp.below ((L.o _).mono Z))) (lt3 Z (L.o _).size)).mono ?_;rintro r I ⟨F,⟨h0,jC,jS,jF,jN,jT,rfl,hj⟩ | ⟨h0,rfl⟩⟩
 ·have A:=(F.block w.heap.size (by simp)).trans (heap_alloc_new w _);have u:Below w.heap.size w I:=(L.o _).trans (F.mono (L.o _).size);have O:=hj.mono (M':=(· <I.heap.size)) fun k h=>h.2;obtain ⟨bC,eC,bS,eS,bF,eF,bN,eN,bT,eT,rfl,rfl,rfl,rfl,rfl⟩:=hj.agg;have lk1:=bz A;have x0:=ba A 0 (x:=.slice aC d.aj.length cC) rfl;have x1:=ba A 1 (x:=.slice aS d.ax.length cS) rfl;have x2:=ba A 2 (x:=.slice aF d.fields.length cF) rfl;have x3:=ba A 3 (x:=.slice aN d.names.length cN) rfl;have x4:=ba A 4 (x:=.slice aT d.aq.length cT) rfl;have D:=ag (fun o=>(br I.heap.size I).alloc (nlq _) o);have N:Hid (∀W,Below I.heap.size I W->Calls Tryz.prog 118 #[.agg #[.slice aC d.aj.length cC,.slice aS d.ax.length cS,.slice aF d.fields.length cF,.slice aN d.names.length cN,.slice aT d.aq.length cT],.agg #[.slice bC (od d.aj).aj.length eC,.slice bS (od d.aj).ax.length eS,.slice bF (od d.aj).fields.length eF,.slice bN (od d.aj).names.length eN,.slice bT (od d.aj).aq.length eT]] W fun r w'=>r=.returned (.bool (fw d (od d.aj)))/\Below W.heap.size W w'):=fun W hW=>zqx W I.heap.size _ _ _ _ _ _ _ _ _ _ d (od d.aj) ((HK.o.kept (Kp.below ((u.trans (hW.mono u.size)).mono Z))).mono fun k V=>ll3 V (lt3 Z u.size)) (O.kept (Kp.below hW)) rfl hW.size;have Y:Hid (jj d=if fw d (od d.aj)=true then 0 else 4):=by show jj d=_;simp [jj,h0]
  have E:=ag u;clear F hj O h0 A u;generalize fw d (od d.aj)=sr at*;generalize hrd:od d.aj=rd at*;clear hrd;cases sr with
  | true=>
    go_wp2_with (go_at_call 118;refine (N.o _ (D.o _)).mono ?_;rintro r w2 ⟨rfl,G⟩;have J:=ag (E.o.trans (((D.o _).trans (G.mono (D.o _).size)).mono E.o.size));clear G);go_ret;exact ⟨by rw [Y.o];rfl,J.o⟩
  | false=>
    go_wp2_with (go_at_call 118;refine (N.o _ (D.o _)).mono ?_;rintro r w2 ⟨rfl,G⟩;have J:=ag (E.o.trans (((D.o _).trans (G.mono (D.o _).size)).mono E.o.size));clear G);go_ret;exact ⟨by rw [Y.o];rfl,J.o⟩
 have u:Below w.heap.size w I:=(L.o _).trans (F.mono (L.o _).size);have E:=ag (u.alloc u.size (.cells #[.slice none 0 0,.slice none 0 0,.slice none 0 0,.slice none 0 0,.slice none 0 0] 36));have Y:Hid (jj d=4):=by show jj d=4;simp [jj,h0]
 have X:(ic d.aj==0)=false:=beq_eq_false_iff_ne.2 h0;clear F h0 u;generalize ic d.aj=le at*;have aa:¬le=0:=fun e=>by rw [e]at X;simp at X
 unfold nilLk;go_wp2_with fail;go_ret;exact ⟨by rw [Y.o];rfl,E.o⟩
theorem zre (d:be):jj d=if o7 d=true then 0 else 4:=by rw [zrc];unfold gu;simp
theorem zrf (w:World) (B:Nat) (vW vO kC kS kF kN kT:Value) (h:bd) (d:be) (g:Hd B w vW vO kC kS kF kN kT h d) (aa:h.next<=9223372036854775807):
 Calls Tryz.prog 21 #[.agg #[vW,.int .i64 h.ae,.int .i64 h.old,.int .i64 h.bg,.int .i64 h.bk,vO,.int .i64 h.next],.agg #[kC,kS,kF,kN,kT]] w fun r w'=>r=.returned (.int .i64 (dm d h))/\Below w.heap.size w w':=by
 have O:=ag g;obtain ⟨aW,cW,aO,cO,aC,cC,aS,cS,aF,cF,aN,cN,aT,cT,rfl,rfl,rfl,rfl,rfl,rfl,rfl⟩:=g.agg;clear g;obtain ⟨W0,N,F,ac,A,E⟩:=nk w #[.slice aW h.ab.length cW,.int .i64 h.ae,.int .i64 h.old,.int .i64 h.bg,.int .i64 h.bk,.slice aO h.ap.length cO,.int .i64 h.next] #[.slice aC d.aj.length cC,.slice aS d.ax.length cS,.slice aF d.fields.length cF,.slice aN d.names.length cN,.slice aT d.aq.length cT] 24 36;have ai:=bz A;have lk1:=bz E;have c0:=ba A 0 (x:=.slice aW h.ab.length cW) rfl;have c1:=ba A 1 (x:=.int .i64 h.ae) rfl;have c2:=ba A 2 (x:=.int .i64 h.old) rfl;have c3:=ba A 3 (x:=.int .i64 h.bg) rfl;have c4:=ba A 4 (x:=.int .i64 h.bk) rfl;have c5:=ba A 5 (x:=.slice aO h.ap.length cO) rfl;have c6:=ba A 6 (x:=.int .i64 h.next) rfl;have e0:=ba E 0 (x:=.slice aC d.aj.length cC) rfl;have e1:=ba E 1 (x:=.slice aS d.ax.length cS) rfl;have e2:=ba E 2 (x:=.slice aF d.fields.length cF) rfl;have e3:=ba E 3 (x:=.slice aN d.names.length cN) rfl;have e4:=ba E 4 (x:=.slice aT d.aq.length cT) rfl;have I:=ag F;have L:=ag N;have W:=ag (And.intro A E);have u:=ag (zrd W0 B _ _ _ _ _ d (O.o.below (F.mono O.o.le)).lk (O.o.below (F.mono O.o.le)).le);rw [zre]at u;cases hok:o7 d with
 | false=>
   rw [hok]at u;simp only [Bool.false_eq_true,if_false]at u;have HR:Hid (dm d h=4):=by show _=_;unfold dm;rw [hok];rfl
   rw [L.o]at u;clear A E F N ac hok;go_enter Tryz.func21,Tryz.ntmps21;go_wp2_with fail;refine u.o.mono ?_;rw [<-L.o];rintro r w1 ⟨rfl,D⟩;have J:=ag (I.o.trans (D.mono I.o.size));clear D u;go_wp2_with fail;go_ret;exact ⟨by rw [HR.o];rfl,J.o⟩
 | true=>
   rw [hok]at u;simp only [if_true]at u;have G:=zki hok;have ah:Hid (∀V,Below W0.heap.size W0 V->Calls Tryz.prog 55 #[.agg #[.slice aW h.ab.length cW,.int .i64 h.ae,.int .i64 h.old,.int .i64 h.bg,.int .i64 h.bk,.slice aO h.ap.length cO,.int .i64 h.next],.agg #[.slice aC d.aj.length cC,.slice aS d.ax.length cS,.slice aF d.fields.length cF,.slice aN d.names.length cN,.slice aT d.aq.length cT]] V fun r w'=>r=.returned (.int .i64 (dm d h))/\Below V.heap.size V w'):=fun V hV=>by have X:=O.o.below ((F.trans (hV.mono F.size)).mono O.o.le);have:=zoa V B _ _ _ _ _ _ _ h d X.sW X.sO X.lk X.le G aa;rw [zn9 G]at this;unfold dm;rw [hok,if_pos rfl];exact this
   rw [L.o]at u;clear A E F N ac hok G aa;generalize dm d h=er at*;go_enter Tryz.func21,Tryz.ntmps21;go_wp2_with fail;refine u.o.mono ?_;rw [<-L.o];rintro r w1 ⟨rfl,D⟩;have Y:=I.o.trans (D.mono I.o.size);have A:=(D.block _ ai).trans W.o.1;have E:=(D.block _ lk1).trans W.o.2;have m0:=bz A;have m1:=bz E;have f0:=ba A 0 (x:=.slice aW h.ab.length cW) rfl;have f1:=ba A 1 (x:=.int .i64 h.ae) rfl;have f2:=ba A 2 (x:=.int .i64 h.old) rfl;have f3:=ba A 3 (x:=.int .i64 h.bg) rfl;have f4:=ba A 4 (x:=.int .i64 h.bk) rfl;have f5:=ba A 5 (x:=.slice aO h.ap.length cO) rfl;have f6:=ba A 6 (x:=.int .i64 h.next) rfl;have g0:=ba E 0 (x:=.slice aC d.aj.length cC) rfl;have g1:=ba E 1 (x:=.slice aS d.ax.length cS) rfl;have X:=ba E 2 (x:=.slice aF d.fields.length cF) rfl;have g3:=ba E 3 (x:=.slice aN d.names.length cN) rfl;have g4:=ba E 4 (x:=.slice aT d.aq.length cT) rfl;have af:=ag (ah.o w1 D);have J:=ag Y;clear D Y A E u;go_wp2_with fail;refine af.o.mono ?_;rintro r w2 ⟨rfl,Z⟩;have ad:=ag (J.o.trans (Z.mono J.o.size));clear Z;go_wp2_with fail;go_ret;exact ⟨rfl,ad.o⟩
end Go.Proofs.YtjdnmblggdobgaaGreat
