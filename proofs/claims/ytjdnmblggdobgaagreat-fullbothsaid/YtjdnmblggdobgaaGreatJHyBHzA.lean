import Derived.Test.YtjdnmblggdobgaaGreatJHyDHyF
set_option maxHeartbeats 8000000
set_option maxRecDepth 100000
namespace Go.Proofs.YtjdnmblggdobgaaGreat
open Go.Maps Go.RowKit Tryz List Or
variable (w:World) (X B C:Nat) (Z Y L V N O W F vW vO kC kS kF kN kT:Value) (h:ar) (d:ax) (ts:List bq) (rs:List Int)
def j8 (ts:List bq) (rs:List Int):Int:=if decide ((rs.length:Int)<=1000) then (if !rs.any fun x=>!cq ts x then 0 else 5) else 2
def dq (d:ax) (h:ar) (rs:List Int):Int:=if cg d h=0 then j8 (sw d h) rs else cg d h
def ra (ts:List bq) (rs:List Int):List QD:=[⟨135,2,decide ((rs.length:Int)<=1000)⟩,⟨136,5,!rs.any fun x=>!cq ts x⟩]
theorem zrv:d9 (ra ts rs)=j8 ts rs:=by unfold ra j8;simp only [d9]
theorem zrw:∀q∈ra ts rs,∀args w,(callFunc q.g args).run prog w=.ok (.enter q.g args) w:=by intro q A args w;simp only [ra,mem_cons,not_mem_nil,or_false]at A;rcases A with rfl | rfl<;>kernel_rfl
theorem zrx:∀q∈ra ts rs,q.e≠0:=by intro q A;simp only [ra,mem_cons,not_mem_nil,or_false]at A;rcases A with rfl | rfl<;>simp
theorem zry (hc:qc X B w Z Y L V N O W F h d ts) (A:Option Addr) (D:Nat) (rs:List Int) (J:SL 1 RI (· <C) w (.slice A rs.length D) rs) (G:C<=w.heap.size) (E:∀x∈rs,(Lit.int .i64 x).wf=true) (k:Nat) (I:k<(ra ts rs).length):
 Calls prog (ra ts rs)[k].g #[.agg #[.p (X+1),.slice A rs.length D]] w fun r w'=>r=.returned (.bool (ra ts rs)[k].ans)/\Bl w w':=by
 match k,I with
 | 0,_=>exact zrr w _ A rs.length D
 | 1,_=>exact zru w X B C _ _ _ _ _ _ _ F h d ts hc _ rs J G E
theorem zt3 (v:Int):(!cq ts v)=(v != 0&& !(ts.map bq.loc).contains v):=by unfold cq;rw [Fx];cases (ts.map bq.loc).contains v<;>cases h:v==0<;>simp_all
theorem zt4 (g:Hd B w vW vO kC kS kF kN kT h d) (hz:na d h) (hd:B9 d) (ts:List bq) (F:jh d h=some ts) (vR:Value) (rs:List Int) (hs:SL 1 RI (· <B) w vR rs):
 Calls prog 85 #[.agg #[vW,.i h.ae,.i h.old,.i h.bk,.i h.be,vO,.i h.next],.agg #[kC,kS,kF,kN,kT],vR] w fun r w'=>r=.returned (.i (j8 ts rs))/\Bl w w':=by
 have HG:=aj g;have a0:=aj hs;obtain ⟨aW,cW,aO,cO,aC,cC,aS,cS,aF,cF,aN,cN,aT,cT,rfl,rfl,rfl,rfl,rfl,rfl,rfl⟩:=g.agg;obtain ⟨aR,cR,rfl,-,a4,-⟩:=hs;unfold maxLen at a4;clear g;obtain ⟨W0,ak,aa,a5,k0,k1⟩:=nf w (H7 aW cW aO cO h) (K5 aC cC aS cS aF cF aN cN aT cT d) 24 36;have g2:=HG.o.below (aa.mono HG.o.le);have J:=aj (znh W0 B _ _ _ _ _ _ _ h d g2.sW g2.sO g2.lk g2.le hz (fun f hf=>lt3 (hd.fs f hf) (by omega)));have ai:=aj F;have HZ:=aj hz;have V:=aj aa;have W:=aj ak;rw [W.o]at J;clear k0 k1 aa ak a5 g2 F hz hd;by_cases E:(rs.length:Int)<=1000
 rotate_left
 ·have HR:Hid (j8 ts rs=2):=by show _=_;unfold j8;rw [if_neg (by simpa using E)]
  have av:Hid (Bl w ((w.alloc (.cells (H7 aW cW aO cO h) 24)).alloc (.cells (K5 aC cC aS cS aF cF aN cN aT cT d) 36))):=by rw [<-W.o];exact V.o
  clear J;go_enter func85,ntmps85;go_wp2_with fail;go_ret;exact ⟨by rw [HR.o];rfl,av.o⟩
 go_enter func85,ntmps85;go_wp2_with fail;refine J.o.mono ?_;rw [<-W.o];rintro r w1 ⟨al,⟨ys,os,vy,vo,h1,h2,rfl,L,N⟩ | ⟨au,-⟩⟩
 rotate_left
 ·rw [ai.o]at au;cases au
 have F:=zq7 ai.o h1 h2;have Y:Hid (∀v,(!cq ts v)=(v != 0&&(!(ys.map bq.loc).contains v&& !(os.map bq.loc).contains v))):=fun v=>by rw [zt3,F,map_append,contains_append,Bool.not_or]
 obtain ⟨m1,ad⟩:∃m:List Int,ys.map bq.loc=m:=⟨_,rfl⟩;obtain ⟨m2,af⟩:∃m:List Int,os.map bq.loc=m:=⟨_,rfl⟩;rw [ad]at L Y;rw [af]at N Y;have z1:=HZ.o.ae;have z2:=HZ.o.old;have z4:=HZ.o.bk;have z5:=HZ.o.be;have am:m1.length<=1000000:=by have:=Fs (by omega) h1;rw [<-ad,length_map];omega
 have an:m2.length<=1000000:=by have:=Fs (by omega) h2;rw [<-af,length_map];omega
 clear z1 z2 z4 z5;have s1:=rg L am;have s2:=rg N an;have ay:Hid (∀v,Calls prog 74 #[vy,.i v] w1 fun r w'=>r=.returned (.bool (m1.contains v))/\w'=w1):=fun v=>zkq w1 _ _ _ s1 v;have az:Hid (∀v,Calls prog 74 #[vo,.i v] w1 fun r w'=>r=.returned (.bool (m2.contains v))/\w'=w1):=fun v=>zkq w1 _ _ _ s2 v;obtain ⟨a1,c1,rfl⟩:=zmi L;obtain ⟨a2,c2,rfl⟩:=zmi N;have D:=V.o.trans (al.mono V.o.size);have ah:=aj D;have a3:=aj (a0.o.keptI (Kp.below (D.mono HG.o.le)));clear al D L N s1 s2 ad af h1 h2 F am an J;go_wp2_with fail;go_loopw [10] (fun i wr=>∃k:Nat,i=.i k/\k<=rs.length/\wr=w1/\Hid (∀v∈rs.take k,(!cq ts v)=false)) (fun i _=>rs.length - (intOf i).toNat)
 case atStart=>exact ⟨0,rfl,n0q _,rfl,fun v G=>by cases G⟩
 case round=>
  obtain ⟨k,rfl,hk,rfl,HP⟩:=hrel;by_cases ac:k<rs.length
  ·obtain ⟨bR,off,rfl,a7,e0⟩:=a3.o.atI k ac;have A:=aj (Y.o rs[k]);have Z:Hid ((!cq ts rs[k])=false->∀v∈rs.take (k+1),(!cq ts v)=false):=fun hq v G=>by
    rw [take_succ_eq_append_getElem ac]at G;rcases mem_append.1 G with G | G
    ·exact HP.o v G
    rw [mem_singleton]at G;rw [G];exact hq
   have aw:Hid ((!cq ts rs[k])=true->j8 ts rs=5):=fun hq=>by unfold j8;rw [if_pos (decide_eq_true E)];have:(rs.any fun x=>!cq ts x)=true:=any_eq_true.2 ⟨rs[k],gm ac,hq⟩;rw [this];rfl
   have hA:=ay.o rs[k];have hB:=az.o rs[k];generalize rs[k]=v at*;have HA:=aj hA;have I:=aj hB;generalize (!cq ts v)=q at*;clear hA hB;by_cases O:v=0
   ·have X:Hid (q=false):=by show _=_;rw [A.o,O];rfl
    have a6:(v==0)=true:=by simpa using O
    clear A;go_wp2_with fail;go_roundw
    case rel=>exact ⟨k+1,by go_num,by omega,by trivial,Z.o X.o⟩
    case measure=>simp [intOf];omega
   have a6:(v==0)=false:=by simpa using O
   cases hq1:m1.contains v;rotate_left
   ·have X:Hid (q=false):=by show _=_;rw [A.o,hq1];simp
    rw [hq1]at HA;clear A hq1;go_wp2_with fail;refine HA.o.mono ?_;rintro r _ ⟨rfl,rfl⟩;go_wp2_with fail;go_roundw
    case rel=>exact ⟨k+1,by go_num,by omega,by trivial,Z.o X.o⟩
    case measure=>simp [intOf];omega
   rw [hq1]at HA;cases hq2:m2.contains v
   ·have X:Hid (q=true):=by show _=_;rw [A.o,hq1,hq2];simpa using O
    rw [hq2]at I;clear A hq1 hq2;go_wp2_with fail;refine HA.o.mono ?_;rintro r _ ⟨rfl,rfl⟩;go_wp2_with fail;refine I.o.mono ?_;rintro r _ ⟨rfl,rfl⟩;go_wp2_with fail;go_ret;exact ⟨by rw [aw.o X.o];rfl,ah.o⟩
   have X:Hid (q=false):=by show _=_;rw [A.o,hq1,hq2];simp
   rw [hq2]at I;clear A hq1 hq2;go_wp2_with fail;refine HA.o.mono ?_;rintro r _ ⟨rfl,rfl⟩;go_wp2_with fail;refine I.o.mono ?_;rintro r _ ⟨rfl,rfl⟩;go_wp2_with fail;go_roundw
   case rel=>exact ⟨k+1,by go_num,by omega,by trivial,Z.o X.o⟩
   case measure=>simp [intOf];omega
  have HR:Hid (j8 ts rs=0):=by
   show _=_;unfold j8;rw [if_pos (decide_eq_true E)];have:(rs.any fun x=>!cq ts x)=false:=any_eq_false.2 fun v G=>by have hp:=HP.o;rw [take_of_length_le (by omega)]at hp;rw [hp v G];decide
   rw [this];rfl
  go_wp2_with fail;go_ret;exact ⟨by rw [HR.o];rfl,ah.o⟩
def SwOut (w:World) (d:ax) (h:ar) (rs:List Int) (kC kS kF kN kT:Value) (r:Ending) (w':World):Prop:=
 (dq d h rs=0/\∃nW dW nO dO nR dR,r=.returned (.agg #[.slice nW h.ab.length dW,.i h.ae,.i h.old,.i h.bk,.i h.be,.slice nO h.ap.length dO,.i h.next,kC,kS,kF,kN,kT,.slice nR rs.length dR])/\ik w.heap.size w' (.slice nW h.ab.length dW) (.slice nO h.ap.length dO) h/\
  w'.ownsRow w.heap.size 3 1 (.slice nR rs.length dR) rs.length (b8 rs)/\∀k,(Value.slice nR rs.length dR).ownBlock=some k->(Value.slice nW h.ab.length dW).ownBlock≠some k/\(Value.slice nO h.ap.length dO).ownBlock≠some k)\/
 (dq d h rs≠0/\r=.panicked [wrongV (dq d h rs) 0])
theorem zyi (g:Hd B w vW vO kC kS kF kN kT h d) (vR:Value) (rs:List Int) (hs:SL 1 RI (· <B) w vR rs) (bi:∀x∈rs,(Lit.int .i64 x).wf=true):
 Calls prog 81 #[.agg #[vW,.i h.ae,.i h.old,.i h.bk,.i h.be,vO,.i h.next],.agg #[kC,kS,kF,kN,kT],vR] w fun r w'=>Bl w w'/\SwOut w d h rs kC kS kF kN kT r w':=by
 have b9:=ri prog;have HG:=aj g;have b3:=aj hs;obtain ⟨aW,cW,aO,cO,aC,cC,aS,cS,aF,cF,aN,cN,aT,cT,rfl,rfl,rfl,rfl,rfl,rfl,rfl⟩:=g.agg;obtain ⟨aR,cR,rfl,-⟩:=hs;clear g;obtain ⟨W0,a7,I,b6,k0,k1,k2⟩:=we w (H7 aW cW aO cO h) (K5 aC cC aS cS aF cF aN cN aT cT d) #[.nl,.i 0,.i 0,.i 0,.i 0,.nl,.i 0,.nl,.nl,.nl,.nl,.nl,.nl] 24 36 131;have bl:=bz k0;have Aq:=bz k1;have lk2:=bz k2;have D:=aj I;have L:=aj (And.intro k0 (And.intro k1 k2));have aa:Hid (∀V,Bl W0 V->Hd B V (.slice aW h.ab.length cW) (.slice aO h.ap.length cO) (.slice aC d.am.length cC) (.slice aS d.bj.length cS) (.slice aF d.fields.length cF) (.slice aN d.names.length cN) (.slice aT d.ba.length cT) h d):=fun V hV=>HG.o.below ((I.trans (hV.mono I.size)).mono HG.o.le);have a3:Hid (∀V,Bl W0 V->SL 1 RI (· <B) V (.slice aR rs.length cR) rs):=fun V hV=>b3.o.keptI (Kp.below ((I.trans (hV.mono I.size)).mono HG.o.le));have Z:=aj (zk6 W0 B _ _ _ _ _ _ _ h d (aa.o W0 (br _ _)));have a1:=aj a7;have b5:=aj bi;clear a7 k0 k1 k2 I b6 bi;by_cases hE:cg d h=0
 rotate_left
 ·have HR:Hid (dq d h rs=cg d h):=by show _=_;unfold dq;rw [if_neg hE]
  have ca:(cg d h==0)=false:=by simpa using hE
  have bs:=aj hE;generalize cg d h=he at*;clear hE;go_enter func81,ntmps81;go_wp2_with fail;rw [<-a1.o];refine Z.o.mono ?_;rintro r w1 ⟨rfl,X⟩;have F:=aj X;clear X;go_wp2_with fail;refine (oz _ _ _).mono ?_;rintro r w3 ⟨rfl,⟨hb,rfl⟩ | ⟨hb,rfl⟩⟩
  ·exact ⟨rfl,D.o.trans (F.o.mono D.o.size),inr ⟨by rw [HR.o];exact bs.o,by rw [HR.o]⟩⟩
  exact absurd hb (by simp)
 have an:=aj hE;rw [hE]at Z;clear hE;go_enter func81,ntmps81;go_wp2_with fail;rw [<-a1.o];refine Z.o.mono ?_;rintro r wa ⟨rfl,X⟩;have F:=aj X;clear X Z;go_wp2_with fail;refine (oz _ _ _).mono ?_;rintro r w1 ⟨rfl,⟨hb,rfl⟩ | ⟨-,rfl⟩⟩
 ·exact absurd hb (by simp)
 obtain ⟨ts,rt⟩:=ztd an.o;have h3:=zl1 an.o rt.both HG.o.ww;have g1:=aa.o w1 F.o;have HF:=aj (zhf w1 B _ _ _ _ _ _ _ h d g1.le g1.sW g1.sO g1.lk h3.1);have au:=aj rt.both;have ad:=aj h3;have j0:=(F.o.block _ bl).trans L.o.1;have j1:=(F.o.block _ Aq).trans L.o.2.1;have ac:=il j0;have bc:=cells5 j1;clear rt h3 g1 j0 j1;go_wp2_with fail;refine HF.o.mono ?_;rintro r w4 ⟨a9,⟨b7,vA,bh,rfl,bb⟩ | ⟨hn,rfl⟩⟩
 rotate_left
 ·rw [au.o]at hn;cases hn
 obtain rfl:ts=b7:=ojq (au.o.symm.trans bh);clear HF bh;clear ac;clear bc;have N:Bl W0 w4:=F.o.trans (a9.mono F.o.size);obtain ⟨W5,a8,av,az,q0⟩:=jq w4 #[.p (w1.heap.size+1+1+1),.slice aR rs.length cR] 188;have HQ:Hid (SL 2 (RQ #[.agg #[.p (w1.heap.size+1+1+1),.slice aR rs.length cR]]) (· <w4.heap.size+1+1) (W5.alloc (.cells #[.func (.func 135) #[.agg #[.p (w1.heap.size+1+1+1),.slice aR rs.length cR]] #[],.i 2,.func (.func 136) #[.agg #[.p (w1.heap.size+1+1+1),.slice aR rs.length cR]] #[],.i 5] 170)) (.slice (some ⟨w4.heap.size+1,0,none⟩) 2 2) (ra ts rs)):=by rw [<-az];exact Dt W5 170 #[.agg #[.p (w1.heap.size+1+1+1),.slice aR rs.length cR]] (ra ts rs) (by simp [ra])
 have al:Bl W0 W5:=N.trans (av.mono N.size);have HA:=aj (fun o=>(br W5.heap.size W5).alloc (nlq _) o);have A:=aj al;have bo:=aj (bb.below av);have b2:=aj az;have b4:=aj a8;have HR:Hid (dq d h rs=j8 ts rs):=by show _=_;unfold dq sw;rw [if_pos an.o,au.o];rfl
 clear a9 bb N a8 av az q0 al;go_wp2_with fail;rw [<-b4.o];refine (zi6 _ (w4.heap.size+1+1) _ _ (ra ts rs) HQ.o (by simp [b2.o]) (zrw ts rs) (zrx ts rs) ?_).mono ?_
 ·intro k hk _ V hV;have a6:=(HA.o _).trans (hV.mono (HA.o _).size);have a5:=A.o.trans (a6.mono A.o.size);exact zry V _ B B _ _ _ _ _ _ _ vA h d ts (bo.o.below a6) aR cR rs (a3.o V a5) (aa.o V a5).le b5.o k hk
 rintro r w6 ⟨⟨hc,rfl⟩ | ⟨hc,rfl⟩,aw⟩
 ·rw [zrv]at hc;exact ⟨rfl,D.o.trans ((A.o.trans (((HA.o _).trans (aw.mono (HA.o _).size)).mono A.o.size)).mono D.o.size),inr ⟨by rw [HR.o];exact hc,by rw [HR.o,zrv]⟩⟩
 rw [zrv]at hc;have bx:Hid (dq d h rs=0):=HR.o.trans hc;have E:Bl W0 w6:=A.o.trans (((HA.o _).trans (aw.mono (HA.o _).size)).mono A.o.size);have bf:rs.length<=1000000:=by
  unfold j8 at hc;cases hd1:decide ((rs.length:Int)<=1000)
  ·rw [hd1]at hc;simp at hc
  have:=of_decide_eq_true hd1;omega
 have g6:=aa.o w6 E;have ak:=aj (zle w6 B _ _ _ _ _ _ _ h d g6.sW g6.sO g6.lk g6.le (by have:=ad.o.1.len;have:=ad.o.1.ae;have:=ad.o.1.old;omega) ad.o.2.2);have b1:=aj bf;have j0:=(E.block _ bl).trans L.o.1;have j1:=(E.block _ Aq).trans L.o.2.1;have ac:=il j0;have bc:=cells5 j1;have J:=aj E;clear aw E g6 j0 j1 hc bf HQ HR;go_wp2_with fail;refine ak.o.mono ?_;rintro r w7 ⟨ay,nW,dW,nO,dO,rfl,bd⟩;have O:Bl W0 w7:=J.o.trans (ay.mono J.o.size);have a0:=aj (zld w7 (· <B) _ rs (a3.o w7 O) b1.o);have ai:=aj O;have G:=aj bd;have ce:=ay.size;clear ac;clear bc;clear ak ay bd O;go_wp2_with fail;refine a0.o.mono ?_;rintro r w8 ⟨af,nR,dR,rfl,Y⟩;have W:Bl W0 w8:=ai.o.trans (af.mono ai.o.size);have k8:=(W.block _ lk2).trans L.o.2.2;have a4:Bl w w8:=D.o.trans (W.mono D.o.size);have cf:=af.size;have cc:=J.o.size;obtain ⟨W9,h9,ah,hq,hr,rz,rl⟩:=si k8 [.slice nW h.ab.length dW,.i h.ae,.i h.old,.i h.bk,.i h.be,.slice nO h.ap.length dO,.i h.next,.slice aC d.am.length cC,.slice aS d.bj.length cS,.slice aF d.fields.length cF,.slice aN d.names.length cN,.slice aT d.ba.length cT,.slice nR rs.length dR] rfl;have rk:=uv hr;have qk:=uv hq;have ch:=ah.size;have bn:=aj (pf (a4) ah (by omega));have a2:=aj ah;simp only [jj,Nat.reduceAdd]at h9;have H9:=aj h9;clear ah hq hr h9;have bu:Hid (ik w.heap.size W9 (.slice nW h.ab.length dW) (.slice nO h.ap.length dO) h):=((G.o.below af).grown a2.o (fun e=>by have:=(G.o.rW.lt _ e).1;omega) (fun e=>by have:=(G.o.rO.lt _ e).1;omega)).mono (by have:=D.o.size;omega);have b0:Hid (W9.ownsRow w.heap.size 3 1 (.slice nR rs.length dR) rs.length (b8 rs)):=vb (Y.kept a2.o (inr fun e=>by have:=(Y.lt _ e).1;omega)) (by have:=D.o.size;omega);have bm:Hid (∀k,(Value.slice nR rs.length dR).ownBlock=some k->(Value.slice nW h.ab.length dW).ownBlock≠some k/\(Value.slice nO h.ap.length dO).ownBlock≠some k):=fun k e=>⟨fun e2=>by have:=(Y.lt _ e).1;have:=(G.o.rW.lt _ e2).2;omega,fun e2=>by have:=(Y.lt _ e).1;have:=(G.o.rO.lt _ e2).2;omega⟩;clear Y af W k8 a4 a0 G;go_wp2_with fail;rw [H9.o];exact bodyPost_ret (v:=.agg #[.slice nW h.ab.length dW,.i h.ae,.i h.old,.i h.bk,.i h.be,.slice nO h.ap.length dO,.i h.next,.slice aC d.am.length cC,.slice aS d.bj.length cS,.slice aF d.fields.length cF,.slice aN d.names.length cN,.slice aT d.ba.length cT,.slice nR rs.length dR]) (by simp [results,results81,go_sem,qk]) rfl ⟨bn.o,inl ⟨bx.o,_,_,_,_,_,_,rfl,bu.o,b0.o,bm.o⟩⟩
end Go.Proofs.YtjdnmblggdobgaaGreat
