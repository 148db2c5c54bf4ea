import Derived.Test.YtjdnmblggdobgaaGreatJHyDHyF
set_option maxHeartbeats 8000000
set_option maxRecDepth 100000
namespace Go.Proofs.YtjdnmblggdobgaaGreat
open Go.RowKit Go.Maps Tryz
def jr (ts:List bk) (rs:List Int):Int:=if decide ((rs.length:Int)<=1000) then (if !rs.any fun x=>!b8 ts x then 0 else 5) else 2
def dv (d:bd) (h:ar) (rs:List Int):Int:=if dt d h=0 then jr (sj d h) rs else dt d h
def qp (ts:List bk) (rs:List Int):List QD:=[⟨135,2,decide ((rs.length:Int)<=1000)⟩,⟨136,5,!rs.any fun x=>!b8 ts x⟩]
theorem zr5 (ts:List bk) (rs:List Int):dx (qp ts rs)=jr ts rs:=by unfold qp jr;simp only [dx]
theorem zr6 (ts:List bk) (rs:List Int):∀q∈qp ts rs,∀args w,(callFunc q.g args).run prog w=.ok (.enter q.g args) w:=by intro q A args w;simp only [qp,List.mem_cons,List.not_mem_nil,or_false]at A;rcases A with rfl | rfl<;>kernel_rfl
theorem zr7 (ts:List bk) (rs:List Int):∀q∈qp ts rs,q.e≠0:=by intro q A;simp only [qp,List.mem_cons,List.not_mem_nil,or_false]at A;rcases A with rfl | rfl<;>simp
theorem zr8 (w:World) (X B C:Nat) (Z Y L V N O W F:Value) (h:ar) (d:bd) (ts:List bk) (hc:qr X B w Z Y L V N O W F h d ts) (A:Option Addr) (D:Nat) (rs:List Int) (J:SL 1 RI (· <C) w (.slice A rs.length D) rs) (G:C<=w.heap.size) (E:∀x∈rs,(Lit.int .i64 x).wf=true) (k:Nat) (I:k<(qp ts rs).length):
 Calls prog (qp ts rs)[k].g #[.agg #[.p (X+1),.slice A rs.length D]] w fun r w'=>r=.returned (.bool (qp ts rs)[k].ans)/\Bl w w':=by
 match k,I with
 | 0,_=>exact zr1 w _ A rs.length D
 | 1,_=>exact zr4 w X B C _ _ _ _ _ _ _ F h d ts hc _ rs J G E
theorem zud (ts:List bk) (v:Int):(!b8 ts v)=(v != 0&& !(ts.map bk.loc).contains v):=by unfold b8;rw [Cd];cases (ts.map bk.loc).contains v<;>cases h:v==0<;>simp_all
theorem zue (w:World) (B:Nat) (vW vO kC kS kF kN kT:Value) (h:ar) (d:bd) (g:Hd B w vW vO kC kS kF kN kT h d) (hz:nj d h) (hd:Cu d) (ts:List bk) (F:io d h=some ts) (vR:Value) (rs:List Int) (hs:SL 1 RI (· <B) w vR rs):
 Calls prog 85 #[.agg #[vW,.i h.ae,.i h.old,.i h.bo,.i h.ba,vO,.i h.next],.agg #[kC,kS,kF,kN,kT],vR] w fun r w'=>r=.returned (.i (jr ts rs))/\Bl w w':=by
 have HG:=ag g;have az:=ag hs;obtain ⟨aW,cW,aO,cO,aC,cC,aS,cS,aF,cF,aN,cN,aT,cT,rfl,rfl,rfl,rfl,rfl,rfl,rfl⟩:=g.agg;obtain ⟨aR,cR,rfl,-,a3,-⟩:=hs;unfold maxLen at a3;clear g;obtain ⟨W0,ak,aa,a4,k0,k1⟩:=ro w #[.slice aW h.ab.length cW,.i h.ae,.i h.old,.i h.bo,.i h.ba,.slice aO h.am.length cO,.i h.next] #[.slice aC d.aj.length cC,.slice aS d.bg.length cS,.slice aF d.fields.length cF,.slice aN d.names.length cN,.slice aT d.ax.length cT] 24 36;have g2:=HG.o.below (aa.mono HG.o.le);have J:=ag (znr W0 B _ _ _ _ _ _ _ h d g2.sW g2.sO g2.lk g2.le hz (fun f hf=>lt3 (hd.fs f hf) (by omega)));have ai:=ag F;have HZ:=ag hz;have V:=ag aa;have W:=ag ak;rw [W.o]at J;clear k0 k1 aa ak a4 g2 F hz hd;by_cases E:(rs.length:Int)<=1000
 rotate_left
 ·have HR:Hid (jr ts rs=2):=by show _=_;unfold jr;rw [if_neg (by simpa using E)]
  have au:Hid (Bl w ((w.alloc (.cells #[.slice aW h.ab.length cW,.i h.ae,.i h.old,.i h.bo,.i h.ba,.slice aO h.am.length cO,.i h.next] 24)).alloc (.cells #[.slice aC d.aj.length cC,.slice aS d.bg.length cS,.slice aF d.fields.length cF,.slice aN d.names.length cN,.slice aT d.ax.length cT] 36))):=by rw [<-W.o];exact V.o
  clear J;go_enter func85,ntmps85;go_wp2_with fail;go_ret;exact ⟨by rw [HR.o];rfl,au.o⟩
 go_enter func85,ntmps85;go_wp2_with fail;refine J.o.mono ?_;rw [<-W.o];rintro r w1 ⟨al,⟨ys,os,vy,vo,h1,h2,rfl,L,N⟩ | ⟨ap,-⟩⟩
 rotate_left
 ·rw [ai.o]at ap;cases ap
 have F:=zrh ai.o h1 h2;have Y:Hid (∀v,(!b8 ts v)=(v != 0&&(!(ys.map bk.loc).contains v&& !(os.map bk.loc).contains v))):=fun v=>by rw [zud,F,List.map_append,List.contains_append,Bool.not_or]
 obtain ⟨m1,ad⟩:∃m:List Int,ys.map bk.loc=m:=⟨_,rfl⟩;obtain ⟨m2,af⟩:∃m:List Int,os.map bk.loc=m:=⟨_,rfl⟩;rw [ad]at L Y;rw [af]at N Y;have z1:=HZ.o.ae;have z2:=HZ.o.old;have z4:=HZ.o.bo;have z5:=HZ.o.ba;have an:m1.length<=1000000:=by have:=Dq (by omega) h1;rw [<-ad,List.length_map];omega
 have ao:m2.length<=1000000:=by have:=Dq (by omega) h2;rw [<-af,List.length_map];omega
 clear z1 z2 z4 z5;have s1:=ru L an;have s2:=ru N ao;have aw:Hid (∀v,Calls prog 74 #[vy,.i v] w1 fun r w'=>r=.returned (.bool (m1.contains v))/\w'=w1):=fun v=>Fo w1 _ _ _ s1 v;have ay:Hid (∀v,Calls prog 74 #[vo,.i v] w1 fun r w'=>r=.returned (.bool (m2.contains v))/\w'=w1):=fun v=>Fo w1 _ _ _ s2 v;obtain ⟨a1,c1,rfl⟩:=zms L;obtain ⟨a2,c2,rfl⟩:=zms N;have D:=V.o.trans (al.mono V.o.size);have ah:=ag D;have a0:=ag (az.o.keptI (Kp.below (D.mono HG.o.le)));clear al D L N s1 s2 ad af h1 h2 F an ao J;go_wp2_with fail;go_loopw [10] (fun i wr=>∃k:Nat,i=.i k/\k<=rs.length/\wr=w1/\Hid (∀v∈rs.take k,(!b8 ts v)=false)) (fun i _=>rs.length - (intOf i).toNat)
 case atStart=>exact ⟨0,rfl,n0q _,rfl,fun v G=>by cases G⟩
 case round=>
  obtain ⟨k,rfl,hk,rfl,HP⟩:=hrel;by_cases ac:k<rs.length
  ·obtain ⟨bR,off,rfl,a6,e0⟩:=a0.o.atI k ac;have A:=ag (Y.o rs[k]);have Z:Hid ((!b8 ts rs[k])=false->∀v∈rs.take (k+1),(!b8 ts v)=false):=fun hq v G=>by
    rw [List.take_succ_eq_append_getElem ac]at G;rcases List.mem_append.1 G with G | G
    ·exact HP.o v G
    rw [List.mem_singleton]at G;rw [G];exact hq
   have av:Hid ((!b8 ts rs[k])=true->jr ts rs=5):=fun hq=>by unfold jr;rw [if_pos (decide_eq_true E)];have:(rs.any fun x=>!b8 ts x)=true:=List.any_eq_true.2 ⟨rs[k],gm ac,hq⟩;rw [this];rfl
   have hA:=aw.o rs[k];have hB:=ay.o rs[k];generalize rs[k]=v at*;have HA:=ag hA;have I:=ag hB;generalize (!b8 ts v)=q at*;clear hA hB;by_cases O:v=0
   ·have X:Hid (q=false):=by show _=_;rw [A.o,O];rfl
    have a5:(v==0)=true:=by simpa using O
    clear A;go_wp2_with fail;go_roundw
    case rel=>exact ⟨k+1,by go_num,by omega,by trivial,Z.o X.o⟩
    case measure=>simp [intOf];omega
   have a5:(v==0)=false:=by simpa using O
   cases hq1:m1.contains v with
   | true=>
     have X:Hid (q=false):=by show _=_;rw [A.o,hq1];simp
     rw [hq1]at HA;clear A hq1;go_wp2_with fail;refine HA.o.mono ?_;rintro r _ ⟨rfl,rfl⟩;go_wp2_with fail;go_roundw
     case rel=>exact ⟨k+1,by go_num,by omega,by trivial,Z.o X.o⟩
     case measure=>simp [intOf];omega
   | false=>
     rw [hq1]at HA;cases hq2:m2.contains v with
     | true=>
       have X:Hid (q=false):=by show _=_;rw [A.o,hq1,hq2];simp
       rw [hq2]at I;clear A hq1 hq2;go_wp2_with fail;refine HA.o.mono ?_;rintro r _ ⟨rfl,rfl⟩;go_wp2_with fail;refine I.o.mono ?_;rintro r _ ⟨rfl,rfl⟩;go_wp2_with fail;go_roundw
       case rel=>exact ⟨k+1,by go_num,by omega,by trivial,Z.o X.o⟩
       case measure=>simp [intOf];omega
     | false=>
       have X:Hid (q=true):=by show _=_;rw [A.o,hq1,hq2];simpa using O
       rw [hq2]at I;clear A hq1 hq2;go_wp2_with fail;refine HA.o.mono ?_;rintro r _ ⟨rfl,rfl⟩;go_wp2_with fail;refine I.o.mono ?_;rintro r _ ⟨rfl,rfl⟩;go_wp2_with fail;go_ret;exact ⟨by rw [av.o X.o];rfl,ah.o⟩
  have HR:Hid (jr ts rs=0):=by
   show _=_;unfold jr;rw [if_pos (decide_eq_true E)];have:(rs.any fun x=>!b8 ts x)=false:=List.any_eq_false.2 fun v G=>by have hp:=HP.o;rw [List.take_of_length_le (by omega)]at hp;rw [hp v G];decide
   rw [this];rfl
  go_wp2_with fail;go_ret;exact ⟨by rw [HR.o];rfl,ah.o⟩
def SwOut (w:World) (d:bd) (h:ar) (rs:List Int) (kC kS kF kN kT:Value) (r:Ending) (w':World):Prop:=
 (dv d h rs=0/\∃nW dW nO dO nR dR,r=.returned (.agg #[.slice nW h.ab.length dW,.i h.ae,.i h.old,.i h.bo,.i h.ba,.slice nO h.am.length dO,.i h.next,kC,kS,kF,kN,kT,.slice nR rs.length dR])/\ni w.heap.size w' (.slice nW h.ab.length dW) (.slice nO h.am.length dO) h/\
  w'.ownsRow w.heap.size 3 1 (.slice nR rs.length dR) rs.length (bw rs)/\∀k,(Value.slice nR rs.length dR).ownBlock=some k->(Value.slice nW h.ab.length dW).ownBlock≠some k/\(Value.slice nO h.am.length dO).ownBlock≠some k)\/
 (dv d h rs≠0/\r=.panicked [wrongV (dv d h rs) 0])
theorem zys (w:World) (B:Nat) (vW vO kC kS kF kN kT:Value) (h:ar) (d:bd) (g:Hd B w vW vO kC kS kF kN kT h d) (vR:Value) (rs:List Int) (hs:SL 1 RI (· <B) w vR rs) (bf:∀x∈rs,(Lit.int .i64 x).wf=true):
 Calls prog 81 #[.agg #[vW,.i h.ae,.i h.old,.i h.bo,.i h.ba,vO,.i h.next],.agg #[kC,kS,kF,kN,kT],vR] w fun r w'=>Bl w w'/\SwOut w d h rs kC kS kF kN kT r w':=by
 have b6:=qj prog;have HG:=ag g;have b1:=ag hs;obtain ⟨aW,cW,aO,cO,aC,cC,aS,cS,aF,cF,aN,cN,aT,cT,rfl,rfl,rfl,rfl,rfl,rfl,rfl⟩:=g.agg;obtain ⟨aR,cR,rfl,-⟩:=hs;clear g;obtain ⟨W0,a5,I,b4,k0,k1,k2⟩:=uq w #[.slice aW h.ab.length cW,.i h.ae,.i h.old,.i h.bo,.i h.ba,.slice aO h.am.length cO,.i h.next] #[.slice aC d.aj.length cC,.slice aS d.bg.length cS,.slice aF d.fields.length cF,.slice aN d.names.length cN,.slice aT d.ax.length cT] #[.nl,.i 0,.i 0,.i 0,.i 0,.nl,.i 0,.nl,.nl,.nl,.nl,.nl,.nl] 24 36 131;have bh:=bz k0;have xn:=bz k1;have lk2:=bz k2;have D:=ag I;have L:=ag (And.intro k0 (And.intro k1 k2));have aa:Hid (∀V,Bl W0 V->Hd B V (.slice aW h.ab.length cW) (.slice aO h.am.length cO) (.slice aC d.aj.length cC) (.slice aS d.bg.length cS) (.slice aF d.fields.length cF) (.slice aN d.names.length cN) (.slice aT d.ax.length cT) h d):=fun V hV=>HG.o.below ((I.trans (hV.mono I.size)).mono HG.o.le);have a1:Hid (∀V,Bl W0 V->SL 1 RI (· <B) V (.slice aR rs.length cR) rs):=fun V hV=>b1.o.keptI (Kp.below ((I.trans (hV.mono I.size)).mono HG.o.le));have Z:=ag (zlf W0 B _ _ _ _ _ _ _ h d (aa.o W0 (br _ _)));have az:=ag a5;have b3:=ag bf;clear a5 k0 k1 k2 I b4 bf;by_cases hE:dt d h=0
 rotate_left
 ·have HR:Hid (dv d h rs=dt d h):=by show _=_;unfold dv;rw [if_neg hE]
  have b7:(dt d h==0)=false:=by simpa using hE
  have bn:=ag hE;generalize dt d h=he at*;clear hE;go_enter func81,ntmps81;go_wp2_with fail;rw [<-az.o];refine Z.o.mono ?_;rintro r w1 ⟨rfl,X⟩;have F:=ag X;clear X;go_wp2_with fail;refine (od _ _ _).mono ?_;rintro r w3 ⟨rfl,⟨hb,rfl⟩ | ⟨hb,rfl⟩⟩
  ·exact ⟨rfl,D.o.trans (F.o.mono D.o.size),Or.inr ⟨by rw [HR.o];exact bn.o,by rw [HR.o]⟩⟩
  exact absurd hb (by simp)
 have an:=ag hE;rw [hE]at Z;clear hE;go_enter func81,ntmps81;go_wp2_with fail;rw [<-az.o];refine Z.o.mono ?_;rintro r wa ⟨rfl,X⟩;have F:=ag X;clear X Z;go_wp2_with fail;refine (od _ _ _).mono ?_;rintro r w1 ⟨rfl,⟨hb,rfl⟩ | ⟨-,rfl⟩⟩
 ·exact absurd hb (by simp)
 obtain ⟨ts,rt⟩:=ztn an.o;have h3:=Fp an.o rt.both HG.o.ww;have g1:=aa.o w1 F.o;have HF:=ag (zho w1 B _ _ _ _ _ _ _ h d g1.le g1.sW g1.sO g1.lk h3.1);have ao:=ag rt.both;have ad:=ag h3;have j0:=(F.o.block _ bh).trans L.o.1;have j1:=(F.o.block _ xn).trans L.o.2.1;have ac:=ip j0;have bc:=cells5 j1;clear rt h3 g1 j0 j1;go_wp2_with fail;refine HF.o.mono ?_;rintro r w4 ⟨a7,⟨b5,vA,be,rfl,a8⟩ | ⟨hn,rfl⟩⟩
 rotate_left
 ·rw [ao.o]at hn;cases hn
 obtain rfl:ts=b5:=ojq (ao.o.symm.trans be);clear HF be;clear ac;clear bc;have N:Bl W0 w4:=F.o.trans (a7.mono F.o.size);obtain ⟨W5,a6,ap,aw,q0⟩:=mi w4 #[.p (w1.heap.size+1+1+1),.slice aR rs.length cR] 188;have HQ:Hid (SL 2 (RQ #[.agg #[.p (w1.heap.size+1+1+1),.slice aR rs.length cR]]) (· <w4.heap.size+1+1) (W5.alloc (.cells #[.func (.func 135) #[.agg #[.p (w1.heap.size+1+1+1),.slice aR rs.length cR]] #[],.i 2,.func (.func 136) #[.agg #[.p (w1.heap.size+1+1+1),.slice aR rs.length cR]] #[],.i 5] 170)) (.slice (some ⟨w4.heap.size+1,0,none⟩) 2 2) (qp ts rs)):=by rw [<-aw];exact Fe W5 170 #[.agg #[.p (w1.heap.size+1+1+1),.slice aR rs.length cR]] (qp ts rs) (by simp [qp])
 have al:Bl W0 W5:=N.trans (ap.mono N.size);have HA:=ag (fun o=>(br W5.heap.size W5).alloc (nlq _) o);have A:=ag al;have bm:=ag (a8.below ap);have b0:=ag aw;have b2:=ag a6;have HR:Hid (dv d h rs=jr ts rs):=by show _=_;unfold dv sj;rw [if_pos an.o,ao.o];rfl
 clear a7 a8 N a6 ap aw q0 al;go_wp2_with fail;rw [<-b2.o];refine (zjf _ (w4.heap.size+1+1) _ _ (qp ts rs) HQ.o (by simp [b0.o]) (zr6 ts rs) (zr7 ts rs) ?_).mono ?_
 ·intro k hk _ V hV;have a4:=(HA.o _).trans (hV.mono (HA.o _).size);have a3:=A.o.trans (a4.mono A.o.size);exact zr8 V _ B B _ _ _ _ _ _ _ vA h d ts (bm.o.below a4) aR cR rs (a1.o V a3) (aa.o V a3).le b3.o k hk
 rintro r w6 ⟨⟨hc,rfl⟩ | ⟨hc,rfl⟩,au⟩
 ·rw [zr5]at hc;exact ⟨rfl,D.o.trans ((A.o.trans (((HA.o _).trans (au.mono (HA.o _).size)).mono A.o.size)).mono D.o.size),Or.inr ⟨by rw [HR.o];exact hc,by rw [HR.o,zr5]⟩⟩
 rw [zr5]at hc;have bu:Hid (dv d h rs=0):=HR.o.trans hc;have E:Bl W0 w6:=A.o.trans (((HA.o _).trans (au.mono (HA.o _).size)).mono A.o.size);have bb:rs.length<=1000000:=by
  unfold jr at hc;cases hd1:decide ((rs.length:Int)<=1000)
  ·rw [hd1]at hc;simp at hc
  have:=of_decide_eq_true hd1;omega
 have g6:=aa.o w6 E;have ak:=ag (zln w6 B _ _ _ _ _ _ _ h d g6.sW g6.sO g6.lk g6.le (by have:=ad.o.1.len;have:=ad.o.1.ae;have:=ad.o.1.old;omega) ad.o.2.2);have bx:=ag bb;have j0:=(E.block _ bh).trans L.o.1;have j1:=(E.block _ xn).trans L.o.2.1;have ac:=ip j0;have bc:=cells5 j1;have J:=ag E;clear au E g6 j0 j1 hc bb HQ HR;go_wp2_with fail;refine ak.o.mono ?_;rintro r w7 ⟨av,nW,dW,nO,dO,rfl,a9⟩;have O:Bl W0 w7:=J.o.trans (av.mono J.o.size);have ay:=ag (zlm w7 (· <B) _ rs (a1.o w7 O) bx.o);have ai:=ag O;have G:=ag a9;have cc:=av.size;clear ac;clear bc;clear ak av a9 O;go_wp2_with fail;refine ay.o.mono ?_;rintro r w8 ⟨af,nR,dR,rfl,Y⟩;have W:Bl W0 w8:=ai.o.trans (af.mono ai.o.size);have k8:=(W.block _ lk2).trans L.o.2.2;have a2:Bl w w8:=D.o.trans (W.mono D.o.size);have ce:=af.size;have ca:=J.o.size;obtain ⟨W9,h9,ah,hq,hr,rz,rl⟩:=B7 k8 [.slice nW h.ab.length dW,.i h.ae,.i h.old,.i h.bo,.i h.ba,.slice nO h.am.length dO,.i h.next,.slice aC d.aj.length cC,.slice aS d.bg.length cS,.slice aF d.fields.length cF,.slice aN d.names.length cN,.slice aT d.ax.length cT,.slice nR rs.length dR] rfl;have rk:=D1 hr;have qk:=D1 hq;have cf:=ah.size;have bl:=ag (rn (a2) ah (by omega));have a0:=ag ah;simp only [pf,Nat.reduceAdd]at h9;have H9:=ag h9;clear ah hq hr h9;have bs:Hid (ni w.heap.size W9 (.slice nW h.ab.length dW) (.slice nO h.am.length dO) h):=((G.o.below af).grown a0.o (fun e=>by have:=(G.o.rW.lt _ e).1;omega) (fun e=>by have:=(G.o.rO.lt _ e).1;omega)).mono (by have:=D.o.size;omega);have bv:Hid (W9.ownsRow w.heap.size 3 1 (.slice nR rs.length dR) rs.length (bw rs)):=yy (Y.kept a0.o (Or.inr fun e=>by have:=(Y.lt _ e).1;omega)) (by have:=D.o.size;omega);have bi:Hid (∀k,(Value.slice nR rs.length dR).ownBlock=some k->(Value.slice nW h.ab.length dW).ownBlock≠some k/\(Value.slice nO h.am.length dO).ownBlock≠some k):=fun k e=>⟨fun e2=>by have:=(Y.lt _ e).1;have:=(G.o.rW.lt _ e2).2;omega,fun e2=>by have:=(Y.lt _ e).1;have:=(G.o.rO.lt _ e2).2;omega⟩;clear Y af W k8 a2 ay G;go_wp2_with fail;rw [H9.o];exact bodyPost_ret (v:=.agg #[.slice nW h.ab.length dW,.i h.ae,.i h.old,.i h.bo,.i h.ba,.slice nO h.am.length dO,.i h.next,.slice aC d.aj.length cC,.slice aS d.bg.length cS,.slice aF d.fields.length cF,.slice aN d.names.length cN,.slice aT d.ax.length cT,.slice nR rs.length dR]) (by simp [results,results81,go_sem,qk]) rfl ⟨bl.o,Or.inl ⟨bu.o,_,_,_,_,_,_,rfl,bs.o,bv.o,bi.o⟩⟩
end Go.Proofs.YtjdnmblggdobgaaGreat
