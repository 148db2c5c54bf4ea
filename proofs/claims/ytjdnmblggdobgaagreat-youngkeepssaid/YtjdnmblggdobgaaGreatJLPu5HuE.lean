import Derived.Test.YtjdnmblggdobgaaGreatJLCkDLPu4
import Derived.Test.YtjdnmblggdobgaaGreatLLo
import Derived.Test.YtjdnmblggdobgaaGreatJSameLRf6
import Derived.Test.YtjdnmblggdobgaaGreatJLLkLBas
import Derived.Test.YtjdnmblggdobgaaGreatJTk2Dies
import Derived.Test.YtjdnmblggdobgaaGreatJHtHHuC
import Derived.Test.YtjdnmblggdobgaaGreatHrG
set_option maxHeartbeats 2000000
set_option maxRecDepth 100000
namespace Go.Proofs.YtjdnmblggdobgaaGreat
open Go.RowKit
theorem zq1 {s:ByteArray} (h:db s=true):s≠⟨#[]⟩:=by rintro rfl;revert h;decide
theorem zq2 {c:ap} (h:dy c=0):c.name≠⟨#[]⟩:=by unfold dy at h;exact zq1 (zgb h (by decide)).1
theorem zq3 {l:List ap} (h:dt l=0):num l ⟨#[]⟩<0:=by
 have h1:j8 l ⟨#[]⟩=false:=by
  rw [j8,za6,List.any_eq_false];intro c hc;have A:dy c=0:=by unfold dt at h;exact zgd (zgb h (by decide)).2 c hc
  have:=zq2 A;simpa using fun e=>this e.symm
 simpa [j8]using h1
theorem few_q {l:List ap} (F:dm l=true) (E:ig l=true):kc l=ev l (fewI l):=by
 rw [kc,ev,Bool.eq_iff_iff,Bool.and_eq_true];simp only [List.all_eq_true,fewI,Bool.and_eq_true];constructor
 ·rintro ⟨h1,G⟩ i A;have D:=List.mem_range.1 A;rw [zpo F E D,zpp F E D];exact ⟨h1 i A,G i A⟩
 intro h;refine ⟨fun i A=>?_,fun i A=>?_⟩
 ·have:=(h i A).1;rwa [zpo F E (List.mem_range.1 A)]at this
 have:=(h i A).2;rwa [zpp F E (List.mem_range.1 A)]at this
theorem zq4 {l:List ap} {e:Int} (h:cd l=e) (A:e≠0):gy l=e:=by rw [gy,h,if_pos A]
theorem zq5 (l:List ap):gf l=gy l:=by
 by_cases hc:dt l=0
 rotate_left
 ·rw [gf,if_neg hc];exact (zq4 (by simp [cd,hc]) hc).symm
 have A:=(zgm hc).2;rw [gf,if_pos hc];cases h1:dm l with
 | false=>rw [zq4 (lk1 hc (zo3 l ▸ h1)) (by decide)];simp [ji,dr,h1]
 | true=>
 have D:=zo3 l ▸ h1;cases h2:mi l with
 | false=>rw [zq4 (lk2 hc D (zo4 l h1 ▸ h2)) (by decide)];simp [ji,dr,h1,h2]
 | true=>
 have E:=zo4 l h1 ▸ h2;cases h3:askUpper l with
 | false=>rw [zq4 (lk3 hc D E (zo5 l ▸ h3)) (by decide)];simp [ji,dr,h1,h2,h3]
 | true=>
 have F:=zo5 l ▸ h3;cases h4:kd l with
 | false=>rw [zq4 (lk4 hc D E F (zo6 l h1 ▸ h4)) (by decide)];simp [ji,dr,h1,h2,h3,h4]
 | true=>
 have G:=zo6 l h1 ▸ h4;cases h5:ig l with
 | false=>rw [zq4 (lk5 hc D E F G (zpm l h1 ▸ h5)) (by decide)];simp [ji,dr,h1,h2,h3,h4,h5]
 | true=>
 have I:=zpm l h1 ▸ h5;cases h6:js l with
 | false=>rw [zq4 (lk6 hc D E F G I (zpt h1 h5 h2 A ▸ h6)) (by decide)];simp [ji,dr,h1,h2,h3,h4,h5,h6]
 | true=>
 have J:=zpt h1 h5 h2 A ▸ h6;cases h7:askTold l with
 | false=>rw [zq4 (lk7 hc D E F G I J (zpa l h1 ▸ h7)) (by decide)];simp [ji,dr,h1,h2,h3,h4,h5,h6,h7]
 | true=>
 have L:=zpa l h1 ▸ h7;cases h8:i0 l with
 | false=>rw [zq4 (lk8 hc D E F G I J L (zpu h1 h5 ▸ h8)) (by decide)];simp [ji,dr,h1,h2,h3,h4,h5,h6,h7,h8]
 | true=>
 have N:=zpu h1 h5 ▸ h8;cases h9:ki l with
 | false=>rw [zq4 (lk9 hc D E F G I J L N (zqe h1 h4 h5 h8 (zq3 hc) ▸ h9)) (by decide)];simp [ji,dr,h1,h2,h3,h4,h5,h6,h7,h8,h9]
 | true=>
 have O:=zqe h1 h4 h5 h8 (zq3 hc) ▸ h9;rw [gy,lk10 hc D E F G I J L N O,<-few_q h1 h5];cases h10:kc l<;>simp [ji,dr,h1,h2,h3,h4,h5,h6,h7,h8,h9,h10]
theorem zq6 {g:Nat} {e:Int} {a:Bool} {l:List QD} (h:dr (⟨g,e,a⟩::l)=0) (A:e≠0):a=true/\dr l=0:=by
 rw [dr]at h;cases a with
 | true=>exact ⟨rfl,by simpa using h⟩
 | false=>exact absurd (by simpa using h) A
theorem zq7 {l:List ap} (h:gf l=0):dm l=true/\mi l=true/\askUpper l=true/\kd l=true/\ig l=true/\js l=true/\askTold l=true/\i0 l=true/\ki l=true/\kc l=true:=by have hc:=zka h;rw [gf,if_pos hc]at h;obtain ⟨h1,h⟩:=zq6 h (by decide);obtain ⟨D,h⟩:=zq6 h (by decide);obtain ⟨E,h⟩:=zq6 h (by decide);obtain ⟨F,h⟩:=zq6 h (by decide);obtain ⟨G,h⟩:=zq6 h (by decide);obtain ⟨I,h⟩:=zq6 h (by decide);obtain ⟨J,h⟩:=zq6 h (by decide);obtain ⟨L,h⟩:=zq6 h (by decide);obtain ⟨N,h⟩:=zq6 h (by decide);obtain ⟨A,-⟩:=zq6 h (by decide);exact ⟨h1,D,E,F,G,I,J,L,N,A⟩
theorem zq8 {l:List ap} (h:gf l=0):ld l=nb l:=by
 obtain ⟨h1,-,-,-,D,-⟩:=zq7 h;have E:(List.range l.length).map (df l)=(List.range l.length).map fun i=>bv l (b9 l i).bo:=List.map_congr_left fun i _=>zo2 l _ h1;have F:(List.range l.length).map (fieldsOf l)=(List.range l.length).map (jv l):=List.map_congr_left fun i A=>(zpo h1 D (List.mem_range.1 A)).symm;have G:(List.range l.length).map (d9 l)=(List.range l.length).map fun i=>(ja l i).1:=List.map_congr_left fun i A=>by rw [zpp h1 D (List.mem_range.1 A)];rfl
 have I:(List.range l.length).map (d7 l)=(List.range l.length).map fun i=>(ja l i).2:=List.map_congr_left fun i A=>by rw [zpp h1 D (List.mem_range.1 A)];rfl
 rw [ld,nb,E,F,G,I]
end Go.Proofs.YtjdnmblggdobgaaGreat
namespace Go.Proofs.YtjdnmblggdobgaaGreat
open Go.RowKit Go.Maps
theorem zq9 {α:Type} {p:α->α->Bool} (h:∀x y,p x y=p y x):∀l m:List α,cz p l m=cz p m l
 | [],[]=>rfl
 | [],_::_=>rfl
 | _::_,[]=>rfl
 | x::l,y::m=>by rw [cz,cz,h,zq9 h l m]
theorem zra (x y:ew):dv x y=dv y x:=by rw [Bool.eq_iff_iff,zpv,zpv];exact ⟨Eq.symm,Eq.symm⟩
theorem zrb (d e:bd):fu d e=fu e d:=by rw [fu,fu,zq9 (fun x y=>by rw [Bool.eq_iff_iff,fh,fh,beq_iff_eq,beq_iff_eq];exact eq_comm) d.ax,zq9 (zq9 fun x y=>by simp only [fb];rw [zra x.kind,decide_eq_decide.2 eq_comm]) d.fields,zq9 (zq9 fun x y=>by rw [Bool.eq_iff_iff,fv,fv,beq_iff_eq,beq_iff_eq];exact eq_comm) d.names,zq9 (zq9 fun x y=>by rw [Bool.eq_iff_iff,ff,ff,Bool.and_eq_true,Bool.and_eq_true,beq_iff_eq,beq_iff_eq,beq_iff_eq,beq_iff_eq,eq_comm (a:=x.da),eq_comm (a:=x.meth)]) d.aq]
def jb (d:bd):Int:=if gy d.aj=0/\fu d (nb d.aj)=true then 0 else 4
theorem zrc (d:bd):jb d=gn d []:=by
 have e:nh d=true↔(gy d.aj=0/\fu d (nb d.aj)=true):=by
  rw [nh,Bool.and_eq_true,decide_eq_true_iff,zq5];constructor
  ·rintro ⟨h1,A⟩;refine ⟨h1,?_⟩;rw [<-zq8 ((zq5 _).trans h1),zrb];exact A
  rintro ⟨h1,A⟩;refine ⟨h1,?_⟩;rw [<-zq8 ((zq5 _).trans h1),zrb]at A;exact A
 unfold jb gn;by_cases h:nh d=true
 ·rw [if_pos (e.1 h),if_pos h];rfl
 rw [if_neg (fun D=>h (e.2 D)),if_neg h]
theorem zrd (w:World) (B:Nat) (kC kS kF kN kT:Value) (d:bd) (X:j9 (· <B) w kC kS kF kN kT d) (hB:B<=w.heap.size):
 Calls Tryz.prog 54 #[.agg #[kC,kS,kF,kN,kT]] w fun r w'=>r=.returned (.int .i64 (jb d))/\Below w.heap.size w w':=by
 have HK:=ae X;obtain ⟨aC,cC,aS,cS,aF,cF,aN,cN,aT,cT,rfl,rfl,rfl,rfl,rfl⟩:=X.agg;clear X;have N:=ae (fun o=>(br w.heap.size w).alloc (nlq _) o);go_enter Tryz.func54,Tryz.ntmps54;go_wp2_with fail;refine (zqr _ B d.aj _ (HK.o.C.keptC (Kp.below ((N.o _).mono hB))) (lt3 hB (N.o _).size)).mono ?_;rintro r J ⟨G,⟨h0,jC,jS,jF,jN,jT,rfl,hj⟩ | ⟨h0,rfl⟩⟩
 ·have D:=(G.block w.heap.size (by simp)).trans (heap_alloc_new w _);have A:Below w.heap.size w J:=(N.o _).trans (G.mono (N.o _).size);have V:=hj.mono (M':=(· <J.heap.size)) fun k h=>h.2;obtain ⟨bC,eC,bS,eS,bF,eF,bN,eN,bT,eT,rfl,rfl,rfl,rfl,rfl⟩:=hj.agg;have lk1:=bk D;have x0:=aw D 0 (x:=.slice aC d.aj.length cC) rfl;have x1:=aw D 1 (x:=.slice aS d.ax.length cS) rfl;have x2:=aw D 2 (x:=.slice aF d.fields.length cF) rfl;have x3:=aw D 3 (x:=.slice aN d.names.length cN) rfl;have x4:=aw D 4 (x:=.slice aT d.aq.length cT) rfl;have E:=ae (fun o=>(br J.heap.size J).alloc (nlq _) o);have O:Hid (∀W,Below J.heap.size J W->Calls Tryz.prog 118 #[.agg #[.slice aC d.aj.length cC,.slice aS d.ax.length cS,.slice aF d.fields.length cF,.slice aN d.names.length cN,.slice aT d.aq.length cT],.agg #[.slice bC (nb d.aj).aj.length eC,.slice bS (nb d.aj).ax.length eS,.slice bF (nb d.aj).fields.length eF,.slice bN (nb d.aj).names.length eN,.slice bT (nb d.aj).aq.length eT]] W fun r w'=>r=.returned (.bool (fu d (nb d.aj)))/\Below W.heap.size W w'):=fun W hW=>zqx W J.heap.size _ _ _ _ _ _ _ _ _ _ d (nb d.aj) ((HK.o.kept (Kp.below ((A.trans (hW.mono A.size)).mono hB))).mono fun k X=>ll3 X (lt3 hB A.size)) (V.kept (Kp.below hW)) rfl hW.size;have Z:Hid (jb d=if fu d (nb d.aj)=true then 0 else 4):=by show jb d=_;simp [jb,h0]
  have F:=ae A;clear G hj V h0 D A;generalize fu d (nb d.aj)=sr at*;generalize hrd:nb d.aj=rd at*;clear hrd;cases sr with
  | true=>
    go_wp2_with (go_at_call 118;refine (O.o _ (E.o _)).mono ?_;rintro r w2 ⟨rfl,I⟩;have L:=ae (F.o.trans (((E.o _).trans (I.mono (E.o _).size)).mono F.o.size));clear I);go_ret;exact ⟨by rw [Z.o];rfl,L.o⟩
  | false=>
    go_wp2_with (go_at_call 118;refine (O.o _ (E.o _)).mono ?_;rintro r w2 ⟨rfl,I⟩;have L:=ae (F.o.trans (((E.o _).trans (I.mono (E.o _).size)).mono F.o.size));clear I);go_ret;exact ⟨by rw [Z.o];rfl,L.o⟩
 have A:Below w.heap.size w J:=(N.o _).trans (G.mono (N.o _).size);have F:=ae (A.alloc A.size (.cells #[.slice none 0 0,.slice none 0 0,.slice none 0 0,.slice none 0 0,.slice none 0 0] 36));have Z:Hid (jb d=4):=by show jb d=4;simp [jb,h0]
 have Y:(gy d.aj==0)=false:=beq_eq_false_iff_ne.2 h0;clear G h0 A;generalize gy d.aj=le at*;have aa:¬le=0:=fun e=>by rw [e]at Y;simp at Y
 unfold nilLk;go_wp2_with fail;go_ret;exact ⟨by rw [Z.o];rfl,F.o⟩
theorem zre (d:bd):jb d=if nh d=true then 0 else 4:=by rw [zrc];unfold gn;simp
theorem zrf (w:World) (B:Nat) (vW vO kC kS kF kN kT:Value) (h:bb) (d:bd) (g:Hd B w vW vO kC kS kF kN kT h d) (ac:h.next<=9223372036854775807):
 Calls Tryz.prog 21 #[.agg #[vW,.int .i64 h.ag,.int .i64 h.old,.int .i64 h.be,.int .i64 h.ar,vO,.int .i64 h.next],.agg #[kC,kS,kF,kN,kT]] w fun r w'=>r=.returned (.int .i64 (bq d h))/\Below w.heap.size w w':=by
 have W:=ae g;obtain ⟨aW,cW,aO,cO,aC,cC,aS,cS,aF,cF,aN,cN,aT,cT,rfl,rfl,rfl,rfl,rfl,rfl,rfl⟩:=g.agg;clear g;obtain ⟨W0,O,G,ad,D,F⟩:=j7 w #[.slice aW h.ab.length cW,.int .i64 h.ag,.int .i64 h.old,.int .i64 h.be,.int .i64 h.ar,.slice aO h.am.length cO,.int .i64 h.next] #[.slice aC d.aj.length cC,.slice aS d.ax.length cS,.slice aF d.fields.length cF,.slice aN d.names.length cN,.slice aT d.aq.length cT] 24 36;have ak:=bk D;have lk1:=bk F;have c0:=aw D 0 (x:=.slice aW h.ab.length cW) rfl;have c1:=aw D 1 (x:=.int .i64 h.ag) rfl;have c2:=aw D 2 (x:=.int .i64 h.old) rfl;have c3:=aw D 3 (x:=.int .i64 h.be) rfl;have c4:=aw D 4 (x:=.int .i64 h.ar) rfl;have c5:=aw D 5 (x:=.slice aO h.am.length cO) rfl;have c6:=aw D 6 (x:=.int .i64 h.next) rfl;have e0:=aw F 0 (x:=.slice aC d.aj.length cC) rfl;have e1:=aw F 1 (x:=.slice aS d.ax.length cS) rfl;have e2:=aw F 2 (x:=.slice aF d.fields.length cF) rfl;have e3:=aw F 3 (x:=.slice aN d.names.length cN) rfl;have e4:=aw F 4 (x:=.slice aT d.aq.length cT) rfl;have J:=ae G;have N:=ae O;have X:=ae (And.intro D F);have A:=ae (zrd W0 B _ _ _ _ _ d (W.o.below (G.mono W.o.le)).lk (W.o.below (G.mono W.o.le)).le);rw [zre]at A;cases hok:nh d with
 | false=>
   rw [hok]at A;simp only [Bool.false_eq_true,if_false]at A;have HR:Hid (bq d h=4):=by show _=_;unfold bq;rw [hok];rfl
   rw [N.o]at A;clear D F G O ad hok;go_enter Tryz.func21,Tryz.ntmps21;go_wp2_with fail;refine A.o.mono ?_;rw [<-N.o];rintro r w1 ⟨rfl,E⟩;have L:=ae (J.o.trans (E.mono J.o.size));clear E A;go_wp2_with fail;go_ret;exact ⟨by rw [HR.o];rfl,L.o⟩
 | true=>
   rw [hok]at A;simp only [if_true]at A;have I:=zki hok;have ai:Hid (∀V,Below W0.heap.size W0 V->Calls Tryz.prog 55 #[.agg #[.slice aW h.ab.length cW,.int .i64 h.ag,.int .i64 h.old,.int .i64 h.be,.int .i64 h.ar,.slice aO h.am.length cO,.int .i64 h.next],.agg #[.slice aC d.aj.length cC,.slice aS d.ax.length cS,.slice aF d.fields.length cF,.slice aN d.names.length cN,.slice aT d.aq.length cT]] V fun r w'=>r=.returned (.int .i64 (bq d h))/\Below V.heap.size V w'):=fun V hV=>by have Y:=W.o.below ((G.trans (hV.mono G.size)).mono W.o.le);have:=zoa V B _ _ _ _ _ _ _ h d Y.sW Y.sO Y.lk Y.le I ac;rw [zn9 I]at this;unfold bq;rw [hok,if_pos rfl];exact this
   rw [N.o]at A;clear D F G O ad hok I ac;generalize bq d h=er at*;go_enter Tryz.func21,Tryz.ntmps21;go_wp2_with fail;refine A.o.mono ?_;rw [<-N.o];rintro r w1 ⟨rfl,E⟩;have Z:=J.o.trans (E.mono J.o.size);have D:=(E.block _ ak).trans X.o.1;have F:=(E.block _ lk1).trans X.o.2;have m0:=bk D;have m1:=bk F;have f0:=aw D 0 (x:=.slice aW h.ab.length cW) rfl;have f1:=aw D 1 (x:=.int .i64 h.ag) rfl;have f2:=aw D 2 (x:=.int .i64 h.old) rfl;have f3:=aw D 3 (x:=.int .i64 h.be) rfl;have f4:=aw D 4 (x:=.int .i64 h.ar) rfl;have f5:=aw D 5 (x:=.slice aO h.am.length cO) rfl;have f6:=aw D 6 (x:=.int .i64 h.next) rfl;have g0:=aw F 0 (x:=.slice aC d.aj.length cC) rfl;have g1:=aw F 1 (x:=.slice aS d.ax.length cS) rfl;have Y:=aw F 2 (x:=.slice aF d.fields.length cF) rfl;have g3:=aw F 3 (x:=.slice aN d.names.length cN) rfl;have g4:=aw F 4 (x:=.slice aT d.aq.length cT) rfl;have ah:=ae (ai.o w1 E);have L:=ae Z;clear E Z D F A;go_wp2_with fail;refine ah.o.mono ?_;rintro r w2 ⟨rfl,aa⟩;have af:=ae (L.o.trans (aa.mono L.o.size));clear aa;go_wp2_with fail;go_ret;exact ⟨rfl,af.o⟩
end Go.Proofs.YtjdnmblggdobgaaGreat
