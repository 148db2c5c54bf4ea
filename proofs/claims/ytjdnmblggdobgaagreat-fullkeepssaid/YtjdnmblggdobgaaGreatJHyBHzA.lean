import Derived.Test.YtjdnmblggdobgaaGreatJHyDHyF
import Derived.Test.YtjdnmblggdobgaaGreatJLPu5HuE
import Derived.Test.YtjdnmblggdobgaaGreatJTilHvE
import Derived.Test.YtjdnmblggdobgaaGreatJTk2Dies
set_option maxHeartbeats 8000000
set_option maxRecDepth 100000
namespace Go.Proofs.YtjdnmblggdobgaaGreat
open Go.RowKit Go.Maps
def iz (ts:List bp) (rs:List Int):Int:=if decide ((rs.length:Int)<=1000) then (if !rs.any fun x=>!cw ts x then 0 else 5) else 2
def de (d:be) (h:bd) (rs:List Int):Int:=if dm d h=0 then iz (tsOf d h) rs else dm d h
def oe (ts:List bp) (rs:List Int):List QD:=[⟨135,2,decide ((rs.length:Int)<=1000)⟩,⟨136,5,!rs.any fun x=>!cw ts x⟩]
theorem zr5 (ts:List bp) (rs:List Int):dv (oe ts rs)=iz ts rs:=by unfold oe iz;simp only [dv]
theorem zr6 (ts:List bp) (rs:List Int):∀q∈oe ts rs,∀args w,(callFunc q.g args).run Tryz.prog w=.ok (.enter q.g args) w:=by intro q u args w;simp only [oe,List.mem_cons,List.not_mem_nil,or_false]at u;rcases u with rfl | rfl<;>kernel_rfl
theorem zr7 (ts:List bp) (rs:List Int):∀q∈oe ts rs,q.e≠0:=by intro q u;simp only [oe,List.mem_cons,List.not_mem_nil,or_false]at u;rcases u with rfl | rfl<;>simp
theorem zr8 (w:World) (X B C:Nat) (Y W J O L N V E:Value) (h:bd) (d:be) (ts:List bp) (hc:oo X B w Y W J O L N V E h d ts) (u:Option Addr) (A:Nat) (rs:List Int) (I:SL 1 RI (· <C) w (.slice u rs.length A) rs) (F:C<=w.heap.size) (D:∀x∈rs,(Lit.int .i64 x).wf=true) (k:Nat) (G:k<(oe ts rs).length):
 Calls Tryz.prog (oe ts rs)[k].g #[.agg #[.pointer (some ⟨X+1,0,none⟩),.slice u rs.length A]] w fun r w'=>r=.returned (.bool (oe ts rs)[k].ans)/\Below w.heap.size w w':=by
 match k,G with
 | 0,_=>exact zr1 w _ u rs.length A
 | 1,_=>exact zr4 w X B C _ _ _ _ _ _ _ E h d ts hc _ rs I F D
theorem zud (ts:List bp) (v:Int):(!cw ts v)=(v != 0&& !(ts.map bp.loc).contains v):=by unfold cw;rw [zn0];cases (ts.map bp.loc).contains v<;>cases h:v==0<;>simp_all
theorem zue (w:World) (B:Nat) (vW vO kC kS kF kN kT:Value) (h:bd) (d:be) (g:Hd B w vW vO kC kS kF kN kT h d) (hz:mf d h) (hd:Few d) (ts:List bp) (E:im d h=some ts) (vR:Value) (rs:List Int) (hs:SL 1 RI (· <B) w vR rs):
 Calls Tryz.prog 85 #[.agg #[vW,.int .i64 h.ae,.int .i64 h.old,.int .i64 h.bg,.int .i64 h.bk,vO,.int .i64 h.next],.agg #[kC,kS,kF,kN,kT],vR] w fun r w'=>r=.returned (.int .i64 (iz ts rs))/\Below w.heap.size w w':=by
 have HG:=ag g;have ay:=ag hs;obtain ⟨aW,cW,aO,cO,aC,cC,aS,cS,aF,cF,aN,cN,aT,cT,rfl,rfl,rfl,rfl,rfl,rfl,rfl⟩:=g.agg;obtain ⟨aR,cR,rfl,-,a0,-⟩:=hs;unfold maxLen at a0;clear g;obtain ⟨W0,ai,Z,a3,k0,k1⟩:=nk w #[.slice aW h.ab.length cW,.int .i64 h.ae,.int .i64 h.old,.int .i64 h.bg,.int .i64 h.bk,.slice aO h.ap.length cO,.int .i64 h.next] #[.slice aC d.aj.length cC,.slice aS d.ax.length cS,.slice aF d.fields.length cF,.slice aN d.names.length cN,.slice aT d.aq.length cT] 24 36;have g2:=HG.o.below (Z.mono HG.o.le);have I:=ag (znr W0 B _ _ _ _ _ _ _ h d g2.sW g2.sO g2.lk g2.le hz (fun f hf=>lt3 (hd.fs f hf) (by omega)));have ah:=ag E;have HZ:=ag hz;have O:=ag Z;have V:=ag ai;rw [V.o]at I;clear k0 k1 Z ai a3 g2 E hz hd;by_cases D:(rs.length:Int)<=1000
 rotate_left
 ·have HR:Hid (iz ts rs=2):=by show _=_;unfold iz;rw [if_neg (by simpa using D)]
  have ar:Hid (Below w.heap.size w ((w.alloc (.cells #[.slice aW h.ab.length cW,.int .i64 h.ae,.int .i64 h.old,.int .i64 h.bg,.int .i64 h.bk,.slice aO h.ap.length cO,.int .i64 h.next] 24)).alloc (.cells #[.slice aC d.aj.length cC,.slice aS d.ax.length cS,.slice aF d.fields.length cF,.slice aN d.names.length cN,.slice aT d.aq.length cT] 36))):=by rw [<-V.o];exact O.o
  clear I;go_enter Tryz.func85,Tryz.ntmps85;go_wp2_with fail;go_ret;exact ⟨by rw [HR.o];rfl,ar.o⟩
 go_enter Tryz.func85,Tryz.ntmps85;go_wp2_with fail;refine I.o.mono ?_;rw [<-V.o];rintro r w1 ⟨ak,⟨ys,os,vy,vo,h1,h2,rfl,J,L⟩ | ⟨ao,-⟩⟩
 rotate_left
 ·rw [ah.o]at ao;cases ao
 have E:=zrh ah.o h1 h2;have X:Hid (∀v,(!cw ts v)=(v != 0&&(!(ys.map bp.loc).contains v&& !(os.map bp.loc).contains v))):=fun v=>by rw [zud,E,List.map_append,List.contains_append,Bool.not_or]
 obtain ⟨m1,ac⟩:∃m:List Int,ys.map bp.loc=m:=⟨_,rfl⟩;obtain ⟨m2,ad⟩:∃m:List Int,os.map bp.loc=m:=⟨_,rfl⟩;rw [ac]at J X;rw [ad]at L X;have z1:=HZ.o.ae;have z2:=HZ.o.old;have z4:=HZ.o.bg;have z5:=HZ.o.bk;have al:m1.length<=1000000:=by have:=zhn (by omega) h1;rw [<-ac,List.length_map];omega
 have an:m2.length<=1000000:=by have:=zhn (by omega) h2;rw [<-ad,List.length_map];omega
 clear z1 z2 z4 z5;have s1:=zfb J al;have s2:=zfb L an;have av:Hid (∀v,Calls Tryz.prog 74 #[vy,.int .i64 v] w1 fun r w'=>r=.returned (.bool (m1.contains v))/\w'=w1):=fun v=>zkz w1 _ _ _ s1 v;have aw:Hid (∀v,Calls Tryz.prog 74 #[vo,.int .i64 v] w1 fun r w'=>r=.returned (.bool (m2.contains v))/\w'=w1):=fun v=>zkz w1 _ _ _ s2 v;obtain ⟨a1,c1,rfl⟩:=zms J;obtain ⟨a2,c2,rfl⟩:=zms L;have A:=O.o.trans (ak.mono O.o.size);have af:=ag A;have az:=ag (ay.o.keptI (Kp.below (A.mono HG.o.le)));clear ak A J L s1 s2 ac ad h1 h2 E al an I;go_wp2_with fail;go_loopw [10] (fun i wr=>∃k:Nat,i=.int .i64 k/\k<=rs.length/\wr=w1/\Hid (∀v∈rs.take k,(!cw ts v)=false)) (fun i _=>rs.length - (intOf i).toNat)
 case atStart=>exact ⟨0,rfl,n0q _,rfl,fun v F=>by cases F⟩
 case round=>
  obtain ⟨k,rfl,hk,rfl,HP⟩:=hrel;by_cases aa:k<rs.length
  ·obtain ⟨bR,off,rfl,a5,e0⟩:=az.o.atI k aa;have u:=ag (X.o rs[k]);have Y:Hid ((!cw ts rs[k])=false->∀v∈rs.take (k+1),(!cw ts v)=false):=fun hq v F=>by
    rw [List.take_succ_eq_append_getElem aa]at F;rcases List.mem_append.1 F with F | F
    ·exact HP.o v F
    rw [List.mem_singleton]at F;rw [F];exact hq
   have au:Hid ((!cw ts rs[k])=true->iz ts rs=5):=fun hq=>by unfold iz;rw [if_pos (decide_eq_true D)];have:(rs.any fun x=>!cw ts x)=true:=List.any_eq_true.2 ⟨rs[k],gm aa,hq⟩;rw [this];rfl
   have hA:=av.o rs[k];have hB:=aw.o rs[k];generalize rs[k]=v at*;have HA:=ag hA;have G:=ag hB;generalize (!cw ts v)=q at*;clear hA hB;by_cases N:v=0
   ·have W:Hid (q=false):=by show _=_;rw [u.o,N];rfl
    have a4:(v==0)=true:=by simpa using N
    clear u;go_wp2_with fail;go_roundw
    case rel=>exact ⟨k+1,by go_num,by omega,by trivial,Y.o W.o⟩
    case measure=>simp [intOf];omega
   have a4:(v==0)=false:=by simpa using N
   cases hq1:m1.contains v with
   | true=>
     have W:Hid (q=false):=by show _=_;rw [u.o,hq1];simp
     rw [hq1]at HA;clear u hq1;go_wp2_with fail;refine HA.o.mono ?_;rintro r _ ⟨rfl,rfl⟩;go_wp2_with fail;go_roundw
     case rel=>exact ⟨k+1,by go_num,by omega,by trivial,Y.o W.o⟩
     case measure=>simp [intOf];omega
   | false=>
     rw [hq1]at HA;cases hq2:m2.contains v with
     | true=>
       have W:Hid (q=false):=by show _=_;rw [u.o,hq1,hq2];simp
       rw [hq2]at G;clear u hq1 hq2;go_wp2_with fail;refine HA.o.mono ?_;rintro r _ ⟨rfl,rfl⟩;go_wp2_with fail;refine G.o.mono ?_;rintro r _ ⟨rfl,rfl⟩;go_wp2_with fail;go_roundw
       case rel=>exact ⟨k+1,by go_num,by omega,by trivial,Y.o W.o⟩
       case measure=>simp [intOf];omega
     | false=>
       have W:Hid (q=true):=by show _=_;rw [u.o,hq1,hq2];simpa using N
       rw [hq2]at G;clear u hq1 hq2;go_wp2_with fail;refine HA.o.mono ?_;rintro r _ ⟨rfl,rfl⟩;go_wp2_with fail;refine G.o.mono ?_;rintro r _ ⟨rfl,rfl⟩;go_wp2_with fail;go_ret;exact ⟨by rw [au.o W.o];rfl,af.o⟩
  have HR:Hid (iz ts rs=0):=by
   show _=_;unfold iz;rw [if_pos (decide_eq_true D)];have:(rs.any fun x=>!cw ts x)=false:=List.any_eq_false.2 fun v F=>by have hp:=HP.o;rw [List.take_of_length_le (by omega)]at hp;rw [hp v F];decide
   rw [this];rfl
  go_wp2_with fail;go_ret;exact ⟨by rw [HR.o];rfl,af.o⟩
def SwOut (w:World) (d:be) (h:bd) (rs:List Int) (kC kS kF kN kT:Value) (r:Ending) (w':World):Prop:=
 (de d h rs=0/\∃nW dW nO dO nR dR,r=.returned (.agg #[.slice nW h.ab.length dW,.int .i64 h.ae,.int .i64 h.old,.int .i64 h.bg,.int .i64 h.bk,.slice nO h.ap.length dO,.int .i64 h.next,kC,kS,kF,kN,kT,.slice nR rs.length dR])/\jo w.heap.size w' (.slice nW h.ab.length dW) (.slice nO h.ap.length dO) h/\
  w'.ownsRow w.heap.size 3 1 (.slice nR rs.length dR) rs.length (bv rs)/\∀k,(Value.slice nR rs.length dR).ownBlock=some k->(Value.slice nW h.ab.length dW).ownBlock≠some k/\(Value.slice nO h.ap.length dO).ownBlock≠some k)\/
 (de d h rs≠0/\r=.panicked [wrongV (de d h rs) 0])
theorem zys (w:World) (B:Nat) (vW vO kC kS kF kN kT:Value) (h:bd) (d:be) (g:Hd B w vW vO kC kS kF kN kT h d) (vR:Value) (rs:List Int) (hs:SL 1 RI (· <B) w vR rs) (b6:∀x∈rs,(Lit.int .i64 x).wf=true):
 Calls Tryz.prog 81 #[.agg #[vW,.int .i64 h.ae,.int .i64 h.old,.int .i64 h.bg,.int .i64 h.bk,vO,.int .i64 h.next],.agg #[kC,kS,kF,kN,kT],vR] w fun r w'=>Below w.heap.size w w'/\SwOut w d h rs kC kS kF kN kT r w':=by
 have cx:=np Tryz.prog;have HG:=ag g;have cn:=ag hs;obtain ⟨aW,cW,aO,cO,aC,cC,aS,cS,aF,cF,aN,cN,aT,cT,rfl,rfl,rfl,rfl,rfl,rfl,rfl⟩:=g.agg;obtain ⟨aR,cR,rfl,-⟩:=hs;clear g;obtain ⟨E,bm,L,cr,k0,k1,k2⟩:=boxes3 w #[.slice aW h.ab.length cW,.int .i64 h.ae,.int .i64 h.old,.int .i64 h.bg,.int .i64 h.bk,.slice aO h.ap.length cO,.int .i64 h.next] #[.slice aC d.aj.length cC,.slice aS d.ax.length cS,.slice aF d.fields.length cF,.slice aN d.names.length cN,.slice aT d.aq.length cT] #[.slice none 0 0,.int .i64 0,.int .i64 0,.int .i64 0,.int .i64 0,.slice none 0 0,.int .i64 0,.slice none 0 0,.slice none 0 0,.slice none 0 0,.slice none 0 0,.slice none 0 0,.slice none 0 0] 24 36 131;have b7:=bz k0;have lk1:=bz k1;have lk2:=bz k2;have A:=ag L;have O:=ag (And.intro k0 (And.intro k1 k2));have ad:Hid (∀V,Below E.heap.size E V->Hd B V (.slice aW h.ab.length cW) (.slice aO h.ap.length cO) (.slice aC d.aj.length cC) (.slice aS d.ax.length cS) (.slice aF d.fields.length cF) (.slice aN d.names.length cN) (.slice aT d.aq.length cT) h d):=fun V hV=>HG.o.below ((L.trans (hV.mono L.size)).mono HG.o.le);have bc:Hid (∀V,Below E.heap.size E V->SL 1 RI (· <B) V (.slice aR rs.length cR) rs):=fun V hV=>cn.o.keptI (Kp.below ((L.trans (hV.mono L.size)).mono HG.o.le));have ac:=ag (zlf E B _ _ _ _ _ _ _ h d (ad.o E (br _ _)));have a9:=ag bm;have cp:=ag b6;clear bm k0 k1 k2 L cr b6;by_cases hE:dm d h=0
 rotate_left
 ·have HR:Hid (de d h rs=dm d h):=by show _=_;unfold de;rw [if_neg hE]
  have cy:(dm d h==0)=false:=by simpa using hE
  have cf:=ag hE;generalize dm d h=he at*;clear hE;go_enter Tryz.func81,Tryz.ntmps81;go_wp2_with fail;rw [<-a9.o];refine ac.o.mono ?_;rintro r w1 ⟨rfl,Z⟩;have F:=ag Z;clear Z;go_wp2_with fail;refine (mh _ _ _).mono ?_;rintro r w3 ⟨rfl,⟨hb,rfl⟩ | ⟨hb,rfl⟩⟩
  ·exact ⟨rfl,A.o.trans (F.o.mono A.o.size),Or.inr ⟨by rw [HR.o];exact cf.o,by rw [HR.o]⟩⟩
  exact absurd hb (by simp)
 have ar:=ag hE;rw [hE]at ac;clear hE;go_enter Tryz.func81,Tryz.ntmps81;go_wp2_with fail;rw [<-a9.o];refine ac.o.mono ?_;rintro r wa ⟨rfl,Z⟩;have F:=ag Z;clear Z ac;go_wp2_with fail;refine (mh _ _ _).mono ?_;rintro r w1 ⟨rfl,⟨hb,rfl⟩ | ⟨-,rfl⟩⟩
 ·exact absurd hb (by simp)
 obtain ⟨ts,rt⟩:=ztn ar.o;have h3:=zmb ar.o rt.both HG.o.ww;have g1:=ad.o w1 F.o;have HF:=ag (zho w1 B _ _ _ _ _ _ _ h d g1.le g1.sW g1.sO g1.lk h3.1);have au:=ag rt.both;have af:=ag h3;have j0:=(F.o.block _ b7).trans O.o.1;have j1:=(F.o.block _ lk1).trans O.o.2.1;obtain ⟨a0,a1,a2,a3,a4,a5,a6,az,al⟩:=jk j0;obtain ⟨b0,b1,b2,b3,b4,bl⟩:=cells5 j1;clear rt h3 g1 j0 j1;go_wp2_with fail;refine HF.o.mono ?_;rintro r w4 ⟨bq,⟨cv,vA,b5,rfl,bs⟩ | ⟨hn,rfl⟩⟩
 rotate_left
 ·rw [au.o]at hn;cases hn
 obtain rfl:ts=cv:=ojq (au.o.symm.trans b5);clear HF b5;clear a0 a1 a2 a3 a4 a5 a6 al az;clear b0 b1 b2 b3 b4 bl;have W:Below E.heap.size E w4:=F.o.trans (bq.mono F.o.size);obtain ⟨W5,bn,av,a7,q0⟩:=kj w4 #[.pointer (some ⟨w1.heap.size+1+1+1,0,none⟩),.slice aR rs.length cR] 188;have HQ:Hid (SL 2 (RQ #[.agg #[.pointer (some ⟨w1.heap.size+1+1+1,0,none⟩),.slice aR rs.length cR]]) (· <w4.heap.size+1+1) (W5.alloc (.cells #[.func (.func 135) #[.agg #[.pointer (some ⟨w1.heap.size+1+1+1,0,none⟩),.slice aR rs.length cR]] #[],.int .i64 2,.func (.func 136) #[.agg #[.pointer (some ⟨w1.heap.size+1+1+1,0,none⟩),.slice aR rs.length cR]] #[],.int .i64 5] 170)) (.slice (some ⟨w4.heap.size+1,0,none⟩) 2 2) (oe ts rs)):=by rw [<-a7];exact qsSL W5 170 #[.agg #[.pointer (some ⟨w1.heap.size+1+1+1,0,none⟩),.slice aR rs.length cR]] (oe ts rs) (by simp [oe])
 have ao:Below E.heap.size E W5:=W.trans (av.mono W.size);have HA:=ag (fun o=>(br W5.heap.size W5).alloc (nlq _) o);have u:=ag ao;have ce:=ag (bs.below av);have cm:=ag a7;have co:=ag bn;have HR:Hid (de d h rs=iz ts rs):=by show _=_;unfold de tsOf;rw [if_pos ar.o,au.o];rfl
 clear bq bs W bn av a7 q0 ao;go_wp2_with fail;rw [<-co.o];refine (zjf _ (w4.heap.size+1+1) _ _ (oe ts rs) HQ.o (by simp [cm.o]) (zr6 ts rs) (zr7 ts rs) ?_).mono ?_
 ·intro k hk _ V hV;have bi:=(HA.o _).trans (hV.mono (HA.o _).size);have bh:=u.o.trans (bi.mono u.o.size);exact zr8 V _ B B _ _ _ _ _ _ _ vA h d ts (ce.o.below bi) aR cR rs (bc.o V bh) (ad.o V bh).le cp.o k hk
 rintro r w6 ⟨⟨hc,rfl⟩ | ⟨hc,rfl⟩,aw⟩
 ·rw [zr5]at hc;exact ⟨rfl,A.o.trans ((u.o.trans (((HA.o _).trans (aw.mono (HA.o _).size)).mono u.o.size)).mono A.o.size),Or.inr ⟨by rw [HR.o];exact hc,by rw [HR.o,zr5]⟩⟩
 rw [zr5]at hc;have ci:Hid (de d h rs=0):=HR.o.trans hc;have D:Below E.heap.size E w6:=u.o.trans (((HA.o _).trans (aw.mono (HA.o _).size)).mono u.o.size);have bx:rs.length<=1000000:=by
  unfold iz at hc;cases hd1:decide ((rs.length:Int)<=1000)
  ·rw [hd1]at hc;simp at hc
  have:=of_decide_eq_true hd1;omega
 have g6:=ad.o w6 D;have an:=ag (zln w6 B _ _ _ _ _ _ _ h d g6.sW g6.sO g6.lk g6.le (by have:=af.o.1.len;have:=af.o.1.ae;have:=af.o.1.old;omega) af.o.2.2);have cl:=ag bx;have j0:=(D.block _ b7).trans O.o.1;have j1:=(D.block _ lk1).trans O.o.2.1;obtain ⟨a0,a1,a2,a3,a4,a5,a6,az,al⟩:=jk j0;obtain ⟨b0,b1,b2,b3,b4,bl⟩:=cells5 j1;have N:=ag D;clear aw D g6 j0 j1 hc bx HQ HR;go_wp2_with fail;refine an.o.mono ?_;rintro r w7 ⟨ay,nW,dW,nO,dO,rfl,bu⟩;have X:Below E.heap.size E w7:=N.o.trans (ay.mono N.o.size);have a8:=ag (zlm w7 (· <B) _ rs (bc.o w7 X) cl.o);have ak:=ag X;have J:=ag bu;have c1:=ay.size;clear a0 a1 a2 a3 a4 a5 a6 al az;clear b0 b1 b2 b3 b4 bl;clear an ay bu X;go_wp2_with fail;refine a8.o.mono ?_;rintro r w8 ⟨ah,nR,dR,rfl,aa⟩;have Y:Below E.heap.size E w8:=ak.o.trans (ah.mono ak.o.size);have k8:=(Y.block _ lk2).trans O.o.2.2;have bf:Below w.heap.size w w8:=A.o.trans (Y.mono A.o.size);have c2:=ah.size;have c0:=N.o.size;obtain ⟨W9,h9,ai,G,I,rz,rl⟩:=setN (zs:=[.slice none 0 0,.int .i64 0,.int .i64 0,.int .i64 0,.int .i64 0,.slice none 0 0,.int .i64 0,.slice none 0 0,.slice none 0 0,.slice none 0 0,.slice none 0 0,.slice none 0 0,.slice none 0 0]) k8 [.slice nW h.ab.length dW,.int .i64 h.ae,.int .i64 h.old,.int .i64 h.bg,.int .i64 h.bk,.slice nO h.ap.length dO,.int .i64 h.next,.slice aC d.aj.length cC,.slice aS d.ax.length cS,.slice aF d.fields.length cF,.slice aN d.names.length cN,.slice aT d.aq.length cT,.slice nR rs.length dR] rfl;have r0:=I 0 _ rfl;have r1:=I 1 _ rfl;have r2:=I 2 _ rfl;have r3:=I 3 _ rfl;have r4:=I 4 _ rfl;have r5:=I 5 _ rfl;have r6:=I 6 _ rfl;have r7:=I 7 _ rfl;have r8:=I 8 _ rfl;have r9:=I 9 _ rfl;have c4:=I 10 _ rfl;have c5:=I 11 _ rfl;have c6:=I 12 _ rfl;have q0:=G 0 _ rfl;have q1:=G 1 _ rfl;have q2:=G 2 _ rfl;have q3:=G 3 _ rfl;have q4:=G 4 _ rfl;have q5:=G 5 _ rfl;have q6:=G 6 _ rfl;have q7:=G 7 _ rfl;have q8:=G 8 _ rfl;have q9:=G 9 _ rfl;have cs:=G 10 _ rfl;have ct:=G 11 _ rfl;have cu:=G 12 _ rfl;have c3:=ai.size;have cc:=ag (nt (bf) ai (by omega));have bb:=ag ai;simp only [kv,Nat.reduceAdd]at h9;have H9:=ag h9;clear ai G I h9;have ch:Hid (jo w.heap.size W9 (.slice nW h.ab.length dW) (.slice nO h.ap.length dO) h):=((J.o.below ah).grown bb.o (fun e=>by have:=(J.o.rW.lt _ e).1;omega) (fun e=>by have:=(J.o.rO.lt _ e).1;omega)).mono (by have:=A.o.size;omega);have cj:Hid (W9.ownsRow w.heap.size 3 1 (.slice nR rs.length dR) rs.length (bv rs)):=zhp (aa.kept bb.o (Or.inr fun e=>by have:=(aa.lt _ e).1;omega)) (by have:=A.o.size;omega);have ca:Hid (∀k,(Value.slice nR rs.length dR).ownBlock=some k->(Value.slice nW h.ab.length dW).ownBlock≠some k/\(Value.slice nO h.ap.length dO).ownBlock≠some k):=fun k e=>⟨fun e2=>by have:=(aa.lt _ e).1;have:=(J.o.rW.lt _ e2).2;omega,fun e2=>by have:=(aa.lt _ e).1;have:=(J.o.rO.lt _ e2).2;omega⟩;clear aa ah Y k8 bf a8 J;go_wp2_with fail;rw [H9.o];exact bodyPost_ret (v:=.agg #[.slice nW h.ab.length dW,.int .i64 h.ae,.int .i64 h.old,.int .i64 h.bg,.int .i64 h.bk,.slice nO h.ap.length dO,.int .i64 h.next,.slice aC d.aj.length cC,.slice aS d.ax.length cS,.slice aF d.fields.length cF,.slice aN d.names.length cN,.slice aT d.aq.length cT,.slice nR rs.length dR]) (by simp [results,Tryz.results81,go_sem,q0,q1,q2,q3,q4,q5,q6,q7,q8,q9,cs,ct,cu]) rfl ⟨cc.o,Or.inl ⟨ci.o,_,_,_,_,_,_,rfl,ch.o,cj.o,ca.o⟩⟩
end Go.Proofs.YtjdnmblggdobgaaGreat
