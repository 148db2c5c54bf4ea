import Derived.Test.YtjdnmblggdobgaaGreatJHxLHxN
import Derived.Test.YtjdnmblggdobgaaGreatJHmKHyO
set_option maxHeartbeats 4000000
set_option maxRecDepth 100000
namespace Go.Proofs.YtjdnmblggdobgaaGreat
open Go.Maps Go.RowKit Tryz List Or World
variable (args:Array Value) (l:List bq) (w:World) (B P0 P1 P2:Nat) (vW vO kC kS kF kN kT:Value) (h:ar) (d:ax)
def dr (d:ax) (h:ar) (rs:List Int):ar:=rq ⟨qx d.fields (pm (h.ae+1) (mu d h rs)) h.ab (pm (h.ae+1) (mu d h rs)),h.ae,h.old,h.bk,h.ae+1+ii (mu d h rs),h.ap,h.next⟩
def gu (d:ax) (h:ar) (rs:List Int):List Int:=rs.map (nc (pm (h.ae+1) (mu d h rs)))
def jc (d:ax) (h:ar) (rs:List Int):Int:=if dq d h rs=0 then (if ic d h rs<=h.old then 0 else 8) else dq d h rs
theorem z0f (g:Hd B w vW vO kC kS kF kN kT h d) (vR:Value) (rs:List Int) (hs:SL 1 RI (· <B) w vR rs) (a2:∀x∈rs,(Lit.int .i64 x).wf=true) (k0:w.heap[P0]? =some (.cells #[vW,.i h.ae,.i h.old,.i h.bk,.i h.be,vO,.i h.next] 24 (0,0))) (k1:w.heap[P1]? =some (.cells #[kC,kS,kF,kN,kT] 36 (0,0))) (k2:w.heap[P2]? =some (.cells #[vR] 22 (0,0))):
 Calls prog 94 #[.p P0,.p P1,.p P2] w fun r w'=>Bl w w'/\((∃v,r=.returned v/\vu v/\jc d h rs=0/\ru w.heap.size kC kS kF kN kT (dr d h rs) (gu d h rs) v w')\/∃e p,r=.panicked [wrongV e p]/\e=jc d h rs/\p=0/\jc d h rs≠0):=by
 have HG:=aj g;obtain ⟨aW,cW,aO,cO,aC,cC,aS,cS,aF,cF,aN,cN,aT,cT,rfl,rfl,rfl,rfl,rfl,rfl,rfl⟩:=g.agg;have b9:=aj hs;obtain ⟨aR,cR,rfl,-⟩:=hs;clear g;obtain ⟨W0,an,D,a1,z0⟩:=jq w #[.nl,.i 0,.i 0,.i 0,.i 0,.nl,.i 0,.nl,.nl,.nl,.nl,.nl,.nl] 131;have l0:=bz k0;have l1:=bz k1;have l2:=bz k2;have lz:=bz z0;have a3:=(D.block _ l0).trans k0;have a4:=(D.block _ l1).trans k1;have a5:=(D.block _ l2).trans k2;rw [an]at a3 a4 a5;have A:=bg a5 0 (x:=.slice aR rs.length cR) rfl;have ac:=il a3;have bc:=cells5 a4;have a9:Hid (∀V,Bl W0 V->Hd B V (.slice aW h.ab.length cW) (.slice aO h.ap.length cO) (.slice aC d.am.length cC) (.slice aS d.bj.length cS) (.slice aF d.fields.length cF) (.slice aN d.names.length cN) (.slice aT d.ba.length cT) h d):=fun V hV=>HG.o.below ((D.trans (hV.mono D.size)).mono HG.o.le);have a7:=aj (zyi W0 B _ _ _ _ _ _ _ h d (a9.o W0 (br _ _)) (.slice aR rs.length cR) rs (b9.o.keptI (Kp.below (D.mono HG.o.le))) a2);have I:=aj D;have b5:=aj an;have b7:=aj a1;have HZ:=aj z0;have ce:=aj a2;clear D an a1 z0 k0 k1 k2 a3 a4 a5 a2;go_enter func94,ntmps94;go_wp2_with fail;rw [<-b5.o];refine a7.o.mono ?_;rintro r w1 ⟨ad,⟨h0,nW,dW,nO,dO,nR,dR,rfl,J,aw,au⟩ | ⟨h0,rfl⟩⟩
 rotate_left
 ·have E:jc d h rs=dq d h rs:=by unfold jc;rw [if_neg h0]
  exact ⟨rfl,I.o.trans (ad.mono I.o.size),inr ⟨_,_,rfl,E.symm,rfl,by rw [E];exact h0⟩⟩
 obtain ⟨ts,rt,a0,az⟩:=z0c h0;have hz:=rt.sized;have z1:=hz.ae;have z2:=hz.old;have z3:=hz.len;have z4:=hz.bk;have z5:=hz.be;have cf:=HG.o.le;have a1:=b7.o;have b1:=ad.size;obtain ⟨W2,bm,X,cm,m0⟩:=jq w1 #[.slice nW h.ab.length dW,.i h.ae,.i h.old,.i h.bk,.i h.be,.slice nO h.ap.length dO,.i h.next,.slice aC d.am.length cC,.slice aS d.bj.length cS,.slice aF d.fields.length cF,.slice aN d.names.length cN,.slice aT d.ba.length cT,.slice nR rs.length dR] 131;have av:Bl W0 W2:=ad.trans (X.mono b1);have al:qd W0.heap.size B W2 w1.heap.size (.slice nW h.ab.length dW) (.slice nO h.ap.length dO) (.slice nR rs.length dR) (.slice aC d.am.length cC) (.slice aS d.bj.length cS) (.slice aF d.fields.length cF) (.slice aN d.names.length cN) (.slice aT d.ba.length cT) h rs d:=by refine ⟨m0,km J.rW X,km J.rO X,km aw X,(a9.o W2 av).lk,by omega,b1,?_⟩;unfold sr;simp only [pairwise_cons,mem_cons,not_mem_nil,or_false,forall_eq_or_imp,forall_eq,Pairwise.nil,and_true,false_implies,implies_true];exact ⟨⟨fun k e A=>by have:=ojq e;have:=(J.rW.lt k A).2;omega,fun k e A=>by have:=ojq e;have:=(J.rO.lt k A).2;omega,fun k e A=>by have:=ojq e;have:=(aw.lt k A).2;omega⟩,⟨fun k e=>J.ne k e,fun k e A=>(au k A).1 e⟩,fun k e A=>(au k A).2 e⟩
 have a6:=aj (zz0 W2 W0.heap.size B w1.heap.size _ _ _ _ _ _ _ _ h rs d al ts rt az HG.o.ww a0 ce.o);have ca:=aj al;have ak:=aj av;have cc:=aj bm;have bd:=aj h0;have bi:=aj (And.intro rt (And.intro a0 az));clear ad J aw au bm X av al m0 h0 rt a0 az hz z1 z2 z3 z4 z5 a7 cf A;clear ac;clear bc;go_wp2_with fail;rw [<-cc.o];refine a6.o.mono ?_;rintro r w5 (⟨ai,rfl,bn⟩ | ⟨ai,rfl,Y,all,ls,cj,bo,bx,b0,ci,F⟩)
 ·have E:jc d h rs=8:=by unfold jc;rw [if_pos bd.o,if_neg (by omega)]
  have aa:=aj E;have b4:Hid (Bl w w5):=I.o.trans ((ak.o.trans (bn.mono (ak.o.size))).mono I.o.size);clear E bn ai;go_wp2_with fail;refine (oz _ _ _).mono ?_;rintro r w4 ⟨rfl,⟨hb,rfl⟩ | ⟨hb,rfl⟩⟩
  ·exact ⟨rfl,b4.o,inr ⟨_,_,rfl,aa.o.symm,rfl,by rw [aa.o];decide⟩⟩
  exact absurd hb (by simp)
 have E:jc d h rs=0:=by unfold jc;rw [if_pos bd.o,if_pos ai]
 have aa:=aj E;have ch:=ls_is bi.o.1 bi.o.2.2 bo bx b0;subst ch;have F:qd W0.heap.size B w5 w1.heap.size cj (.nl) (.slice nR rs.length dR) (.slice aC d.am.length cC) (.slice aS d.bj.length cS) (.slice aF d.fields.length cF) (.slice aN d.names.length cN) (.slice aT d.ba.length cT) (dr d h rs) (gu d h rs) d:=F;have bf:=aj (And.intro F Y);clear E ai bo bx b0 ci F Y ca a6;go_wp2_with fail;refine (oz _ _ _).mono ?_;rintro r w4 ⟨rfl,⟨hb,rfl⟩ | ⟨hb,rfl⟩⟩
 ·exact absurd hb (by simp)
 clear hb;obtain ⟨F,Y⟩:=bf.o;obtain ⟨hc,ah⟩:∃hc,dr d h rs=hc:=⟨_,rfl⟩;obtain ⟨rc,ay⟩:∃rc,gu d h rs=rc:=⟨_,rfl⟩;rw [ah,ay]at F;have bb:=aj (And.intro ah ay);obtain ⟨N,W,bu⟩:=ku F.rW;obtain ⟨L,O,bs⟩:=ku F.rR;have G:Bl W0 w4:=ak.o.trans Y;have k8:=(G.block _ lz).trans HZ.o;have bl:Bl w w4:=I.o.trans (G.mono I.o.size);have cn:=G.size;rw [bu,bs]at F;have vk:=rn F.blk;have lv:=bz F.blk;have cp:w.heap.size<w1.heap.size:=by omega
 obtain ⟨W9,h9,af,hq,hr,rz,rl⟩:=si k8 [.slice N hc.ab.length W,.i hc.ae,.i hc.old,.i hc.bk,.i hc.be,.nl,.i hc.next,.slice aC d.am.length cC,.slice aS d.bj.length cS,.slice aF d.fields.length cF,.slice aN d.names.length cN,.slice aT d.ba.length cT,.slice L rc.length O] rfl;have rk:=uv hr;have qk:=uv hq;have co:=af.size;have b3:=aj (pf (bl) af (by omega));have a8:=aj af;simp only [jj,Nat.reduceAdd]at h9;have H9:=aj h9;clear af hq hr h9;have ck:∀k,W0.heap.size<=k->w.heap.size≠k:=fun k hk=>by omega
 have bh:Hid (ik w.heap.size W9 (.slice N hc.ab.length W) (.slice none 0 hc.ap.length) hc/\hc.ap= []):=by
  have Z:hc.ap= []:=by rw [<-ah];rfl
  refine ⟨⟨vb (F.rW.kept a8.o (inr fun e=>by have:=(F.rW.lt _ e).1;omega)) (by omega),?_,fun k e1 A=>(by cases A)⟩,Z⟩;rw [Z];exact ownsRow_nil _ _ _ _
 have b6:Hid (W9.ownsRow w.heap.size 3 1 (.slice L rc.length O) rc.length (b8 rc)):=vb (F.rR.kept a8.o (inr fun e=>by have:=(F.rR.lt _ e).1;omega)) (by omega);have b2:Hid (∀k,(Value.slice L rc.length O).ownBlock=some k->(Value.slice N hc.ab.length W).ownBlock≠some k):=fun k e A=>qr F.sep (i:=1) (j:=3) (by decide) (congrArg some A) (congrArg some e);clear F Y G k8 bl bf ah ay bu bs;go_wp2_with fail;rw [H9.o];refine bodyPost_ret (v:=.agg #[.slice N hc.ab.length W,.i hc.ae,.i hc.old,.i hc.bk,.i hc.be,.nl,.i hc.next,.slice aC d.am.length cC,.slice aS d.bj.length cS,.slice aF d.fields.length cF,.slice aN d.names.length cN,.slice aT d.ba.length cT,.slice L rc.length O]) (by simp [results,results94,go_sem,qk]) rfl ⟨b3.o,inl ⟨_,rfl,⟨_,_,_,_,_,_,_,_,_,_,_,_,_,_,_,_,_,_,_,_,_,_,_,_,_,_,_,_,_,rfl⟩,aa.o,?_⟩⟩;rw [bb.o.1,bb.o.2];have Z:=bh.o.2;refine ⟨N,W,none,0,L,O,?_,?_,b6.o,fun k e=>⟨b2.o k e,fun A=>(by cases A)⟩⟩
 ·rw [Z];rfl
 have:=bh.o.1;rw [Z]at this ⊢;exact this
theorem Bg:(callFunc 94 args).run prog w=.ok (.enter 94 args) w:=by kernel_rfl
def E6 (w:World) (d:ax) (h:ar) (rs:List Int) (r:Ending) (w':World):Prop:=
 (jc d h rs=0/\∃nW dW nO dO nR dR,r=.returned (.tuple #[.agg (H7 nW dW nO dO (dr d h rs)),.slice nR (gu d h rs).length dR,.i 0])/\ik w.heap.size w' (.slice nW (dr d h rs).ab.length dW) (.slice nO (dr d h rs).ap.length dO) (dr d h rs)/\w'.ownsRow w.heap.size 3 1 (.slice nR (gu d h rs).length dR) (gu d h rs).length (b8 (gu d h rs)))\/
  (jc d h rs≠0/\r=.returned (.tuple #[.agg #[.nl,.i 0,.i 0,.i 0,.i 0,.nl,.i 0],.nl,.i (jc d h rs)]))
theorem z0g (g:Hd B w vW vO kC kS kF kN kT h d) (vR:Value) (rs:List Int) (hs:SL 1 RI (· <B) w vR rs) (a4:∀x∈rs,(Lit.int .i64 x).wf=true):
 Calls prog 43 #[.agg #[vW,.i h.ae,.i h.old,.i h.bk,.i h.be,vO,.i h.next],.agg #[kC,kS,kF,kN,kT],vR] w fun r w'=>Bl w w'/\E6 w d h rs r w':=by
 have bl:=ri prog;have HG:=aj g;have a7:=aj hs;obtain ⟨aW,cW,aO,cO,aC,cC,aS,cS,aF,cF,aN,cN,aT,cT,rfl,rfl,rfl,rfl,rfl,rfl,rfl⟩:=g.agg;obtain ⟨aR,cR,rfl,-⟩:=hs;clear g;obtain ⟨W0,a2,af,J,k0,k1,k2,k3⟩:=Ah w (H7 aW cW aO cO h) (K5 aC cC aS cS aF cF aN cN aT cT d) #[.slice aR rs.length cR] #[.nl,.i 0,.i 0,.i 0,.i 0,.nl,.i 0] 24 36 22 24;have ad:Hid (Calls prog 79 #[.func (.func 94) #[] #[.p w.heap.size,.p (w.heap.size+1),.p (w.heap.size+1+1)]] W0 fun r w'=>Bl W0 w'/\W0.heap.size+5<=w'.heap.size/\
  ((∃v,r=.returned (.tuple #[v,.agg #[.i 0,.i 0]])/\vu v/\jc d h rs=0/\ru (W0.heap.size+5) (.slice aC d.am.length cC) (.slice aS d.bj.length cS) (.slice aF d.fields.length cF) (.slice aN d.names.length cN) (.slice aT d.ba.length cT) (dr d h rs) (gu d h rs) v w')\/
   (∃e p,r=.returned (.tuple #[.agg #[.nl,.i 0,.i 0,.i 0,.i 0,.nl,.i 0,.nl,.nl,.nl,.nl,.nl,.nl],.agg #[.i e,.i p]])/\(e=jc d h rs/\p=0/\jc d h rs≠0)))):=by
  refine zz8 W0 94 _ (fun v w'=>jc d h rs=0/\ru (W0.heap.size+5) (.slice aC d.am.length cC) (.slice aS d.bj.length cS) (.slice aF d.fields.length cF) (.slice aN d.names.length cN) (.slice aT d.ba.length cT) (dr d h rs) (gu d h rs) v w') (fun e p=>e=jc d h rs/\p=0/\jc d h rs≠0) Bg ?_ ?_
  ·intro W hW hs;have hk:∀(b:Nat) (ob:Obj),W0.heap[b]? =some ob->W.heap[b]? =some ob:=fun b ob e=>(hW.block b (bz e)).trans e;have a3:=(af.trans (hW.mono af.size)).mono HG.o.le;have:=z0f W B _ _ _ _ _ _ _ _ _ _ h d (HG.o.below a3) _ rs (a7.o.keptI (Kp.below a3)) a4 (hk _ _ k0) (hk _ _ k1) (hk _ _ k2);rw [<-hs];exact this
  rintro v W W' hs hf ⟨h0,o⟩;exact ⟨h0,o.far hf (nlq _)⟩
 have Y:=aj af;have az:=aj a2;have a1:=aj J;have aa:=aj k3;rw [az.o]at ad;clear k0 k1 k2 k3 af a2 J a4;go_enter func43,ntmps43;go_wp2_with fail;refine ad.o.mono ?_;rw [<-az.o];rintro r F ⟨I,bm,⟨v,rfl,-,h0,nW,dW,nO,dO,nR,dR,rfl,V,ai,-⟩ | ⟨e,p,rfl,rfl,rfl,h0⟩⟩
 ·obtain ⟨hc,ah⟩:∃hc,dr d h rs=hc:=⟨_,rfl⟩;obtain ⟨rc,ak⟩:∃rc,gu d h rs=rc:=⟨_,rfl⟩;rw [ah]at V;rw [ak]at ai;rw [ah,ak];have J:=a1.o;have ac:=aj h0;have Z:=aj (And.intro ah ak);clear ah ak ad h0;obtain ⟨G,O,A,a8,m0,m1⟩:=nf F #[.slice nW hc.ab.length dW,.i hc.ae,.i hc.old,.i hc.bk,.i hc.be,.slice nO hc.ap.length dO,.i hc.next,.slice aC d.am.length cC,.slice aS d.bj.length cS,.slice aF d.fields.length cF,.slice aN d.names.length cN,.slice aT d.ba.length cT,.slice nR rc.length dR] #[.i 0,.i 0] 131 84;have X:=A.size;have k2:G.heap[w.heap.size+1+1+1]? =some (.cells #[.nl,.i 0,.i 0,.i 0,.i 0,.nl,.i 0] 24 (0,0)):=(A.block _ (by omega)).trans ((I.block _ (bz aa.o)).trans aa.o);have N:Bl w G:=(Y.o.trans (I.mono Y.o.size)).trans (A.mono (by omega));obtain ⟨W9,h9,E,hq,hr,rz,rl⟩:=si k2 [.slice nW hc.ab.length dW,.i hc.ae,.i hc.old,.i hc.bk,.i hc.be,.slice nO hc.ap.length dO,.i hc.next] rfl;have rk:=so hr;have qk:=so hq;have a9:=E.size;have al:=aj (pf (N) E (by omega));have L:=aj E;simp only [jj,Nat.reduceAdd]at h9;have H9:=aj h9;clear E hq hr h9;have vk:=rn m0;have u0:=bg m1 0 (x:=.i 0) rfl;have bb:=bz m0;have bc:=bz m1;have bd:¬F.heap.size=w.heap.size+1+1+1:=by omega
  have bf:¬F.heap.size+1=w.heap.size+1+1+1:=by omega
  have bh:¬F.heap.size=w.heap.size+1+1:=by omega
  have bi:¬F.heap.size=w.heap.size+2:=by omega
  have an:Hid (∀p:Addr,p.block<G.heap.size->p.block≠w.heap.size+1+1+1->W9.cell? p=G.cell? p):=fun p hp ay=>cell?_of_block (a:=p) (L.o.block p.block hp (fun e=>ay (ojq e)));have a5:Hid (ik w.heap.size W9 (.slice nW hc.ab.length dW) (.slice nO hc.ap.length dO) hc):=((V.below A).mono (by omega)).grown L.o (fun e=>by have:=(V.rW.lt _ e).1;omega) (fun e=>by have:=(V.rO.lt _ e).1;omega);have a6:Hid (W9.ownsRow w.heap.size 3 1 (.slice nR rc.length dR) rc.length (b8 rc)):=vb ((km ai A).kept L.o (inr fun e=>by have:=(ai.lt _ e).1;omega)) (by omega);clear V ai J;have au:=aj O;clear A m0 m1 k2 N I O X;go_wp2_with fail;rw [<-au.o];refine wp_region_held_drew (S:=fun W'=>∀p:Addr,p.block<G.heap.size->p.block≠w.heap.size+1+1+1->W'.cell? p=G.cell? p) (by kernel_rfl) (fun p hp _=>rfl) fun D=>?_;refine ta 0 (.p F.heap.size) rfl D ?_;refine ta 1 (.p F.heap.size) rfl D ?_;refine ta 2 (.agg (H7 nW dW nO dO hc)) rfl D ?_;refine ta 3 (.pointer (some ⟨F.heap.size,12,none⟩)) rfl D ?_;refine ta 4 (.slice nR rc.length dR) rfl D ?_;refine ta 5 (.p (F.heap.size+1)) rfl D ?_;refine ta 6 (.i 0) rfl D ?_;refine wpAnyH_ready (rs:=[7]) (by kernel_rfl) (by simp) ?_;refine AllReadyH.cons rfl (fun K7 av=>?_) AllReadyH.nil;go_simp;rw [H9.o];refine av.o _ _ an.o fun D=>?_;refine ta 8 (.slice nR rc.length dR) rfl D ?_;refine ta 9 (.i 0) rfl D ?_;refine wpAnyH_done (by kernel_rfl) ?_ _;clear D;try simp only [Act.put,p1q,p4q,p3q,p2q,p5q,p6q]
  go_wp2_with fail;exact bodyPost_ret (v:=.tuple #[.agg (H7 nW dW nO dO hc),.slice nR rc.length dR,.i 0]) (by simp [results,results43,go_sem,qk]) rfl ⟨al.o.drew,inl ⟨ac.o,nW,dW,nO,dO,nR,dR,by rw [Z.o.1,Z.o.2],by rw [Z.o.1];exact a5.o.below (br _ _).drew,by rw [Z.o.2];exact km a6.o (br _ _).drew⟩⟩
 have J:=a1.o;have ac:=aj h0;obtain ⟨mr,aw⟩:∃mr,jc d h rs=mr:=⟨_,rfl⟩;rw [aw]at ac ⊢;have a0:=aj aw;clear aw ad h0;obtain ⟨G,O,A,a8,m0,m1⟩:=nf F #[.nl,.i 0,.i 0,.i 0,.i 0,.nl,.i 0,.nl,.nl,.nl,.nl,.nl,.nl] #[.i mr,.i 0] 131 84;have X:=A.size;have k2:G.heap[w.heap.size+1+1+1]? =some (.cells #[.nl,.i 0,.i 0,.i 0,.i 0,.nl,.i 0] 24 (0,0)):=(A.block _ (by omega)).trans ((I.block _ (bz aa.o)).trans aa.o);have N:Bl w G:=(Y.o.trans (I.mono Y.o.size)).trans (A.mono (by omega));obtain ⟨W9,h9,E,hq,hr,rz,rl⟩:=si k2 [.nl,.i 0,.i 0,.i 0,.i 0,.nl,.i 0] rfl;have rk:=so hr;have qk:=so hq;have a9:=E.size;have al:=aj (pf (N) E (by omega));have L:=aj E;simp only [jj,Nat.reduceAdd]at h9;have H9:=aj h9;clear E hq hr h9;have vk:=rn m0;have u0:=bg m1 0 (x:=.i mr) rfl;have bb:=bz m0;have bc:=bz m1;have bd:¬F.heap.size=w.heap.size+1+1+1:=by omega
 have bf:¬F.heap.size+1=w.heap.size+1+1+1:=by omega
 have bh:¬F.heap.size=w.heap.size+1+1:=by omega
 have bi:¬F.heap.size=w.heap.size+2:=by omega
 have an:Hid (∀p:Addr,p.block<G.heap.size->p.block≠w.heap.size+1+1+1->W9.cell? p=G.cell? p):=fun p hp ay=>cell?_of_block (a:=p) (L.o.block p.block hp (fun e=>ay (ojq e)));clear J;have au:=aj O;clear A m0 m1 k2 N I O X;go_wp2_with fail;rw [<-au.o];refine wp_region_held_drew (S:=fun W'=>∀p:Addr,p.block<G.heap.size->p.block≠w.heap.size+1+1+1->W'.cell? p=G.cell? p) (by kernel_rfl) (fun p hp _=>rfl) fun D=>?_;refine ta 0 (.p F.heap.size) rfl D ?_;refine ta 1 (.p F.heap.size) rfl D ?_;refine ta 2 (.agg #[.nl,.i 0,.i 0,.i 0,.i 0,.nl,.i 0]) rfl D ?_;refine ta 3 (.pointer (some ⟨F.heap.size,12,none⟩)) rfl D ?_;refine ta 4 (.nl) rfl D ?_;refine ta 5 (.p (F.heap.size+1)) rfl D ?_;refine ta 6 (.i mr) rfl D ?_;refine wpAnyH_ready (rs:=[7]) (by kernel_rfl) (by simp) ?_;refine AllReadyH.cons rfl (fun K7 av=>?_) AllReadyH.nil;go_simp;rw [H9.o];refine av.o _ _ an.o fun D=>?_;refine ta 8 (.nl) rfl D ?_;refine ta 9 (.i mr) rfl D ?_;refine wpAnyH_done (by kernel_rfl) ?_ _;clear D;try simp only [Act.put,p1q,p4q,p3q,p2q,p5q,p6q]
 go_wp2_with fail;exact bodyPost_ret (v:=.tuple #[.agg #[.nl,.i 0,.i 0,.i 0,.i 0,.nl,.i 0],.nl,.i mr]) (by simp [results,results43,go_sem,qk]) rfl ⟨al.o.drew,inr ⟨by rw [a0.o];exact ac.o,by rw [a0.o]⟩⟩
theorem z0h (mv:List (Int×bq)) (l:List Int):∀(ws:List Int),l.Nodup->(∀a∈l,0<=a/\a<ws.length)->∀a:Int,0<=a->wd (l.foldl (sj mv) ws) a=if a∈l then nc mv (wd ws a) else wd ws a:=by
 induction l with
 | nil=>intro ws _ _ a _;rw [if_neg (by simp)];rfl
 | cons b l ih=>
   intro ws F A a D;obtain ⟨G,I⟩:=nodup_cons.1 F;have E:=A b (mem_cons_self ..);rw [foldl_cons,ih (sj mv ws b) I (fun c hc=>by rw [sj,length_set];exact A c (mem_cons_of_mem _ hc)) a D];unfold sj;by_cases e:a=b
   ·subst e;rw [if_neg G,if_pos (mem_cons_self ..)];have:=zr0 (ws:=ws) (m:=a.toNat) (v:=nc mv (wd ws a)) (by omega);rwa [show ((a.toNat:Nat):Int)=a by omega]at this
   have h1:wd (ws.set b.toNat (nc mv (wd ws b))) a=wd ws a:=zrz (by omega);rw [h1];by_cases c:a∈l
   ·rw [if_pos c,if_pos (mem_cons_of_mem _ c)]
   rw [if_neg c,if_neg (by simp [e,c])]
structure Cb (d:ax) (us order news:List Int) (mv:List (Int×bq)) (q:Int×bq):Prop where
 src:0<=q.1
 dst:0<=q.2.loc
 th:bp us q.1=⟨q.1,q.2.tag,q.2.len,q.2.hash⟩
 len:0<=q.2.len
 sf:q.1+3+q.2.len<=us.length
 df:q.2.loc+3+q.2.len<=us.length
 trn:∀a∈refsOf d.fields (bp us q.1),nj order news (wd us a)=nc mv (wd us a)
theorem z0i {d:ax} {A ws order news:List Int} {mv:List (Int×bq)} {q:Int×bq} (hu:A.length=ws.length) (k:Cb d A order news mv q):u6 d.fields mv A ws q=xp d A order news ws q.1 q.2.loc:=by
 have h1:=k.src;have Y:=k.dst;have E:=k.th;have hl:=k.len;have hs:=k.sf;have hd:=k.df;have I:(mi A q.1.toNat (q.2.len+3).toNat).length=(q.2.len+3).toNat:=zt7 (by omega);have G:q.2.loc.toNat+(mi A q.1.toNat (q.2.len+3).toNat).length<=ws.length:=by rw [I];omega
 have O:t8 A ws.length (q.1,q.2.loc):=⟨h1,Y,by show 0<=(bp A q.1).len;rw [E];exact hl,by show q.2.loc+3+(bp A q.1).len<=_;rw [E];show q.2.loc+3+q.2.len<=_;omega⟩;have V:∀a∈refsOf d.fields q.2,0<=a/\a<(mx ws q.2.loc.toNat (mi A q.1.toNat (q.2.len+3).toNat)).length:=fun a Z=>by obtain ⟨n,e,X,-⟩:=Bb Z;rw [C5 G];omega
 refine zxb (by unfold u6;rw [zys,C5 G,zv8]) fun i hi=>?_;rw [zw7 (p:=(q.1,q.2.loc)) O (by omega)];unfold u6;rw [z0h mv _ _ (Fz _ _) V _ (by omega)];have F:(bp A q.1).len=q.2.len:=by rw [E]
 show _=if q.2.loc<=(i:Int)/\(i:Int)<q.2.loc+3+(bp A q.1).len then ve d A order news q.1.toNat ((i:Int) - q.2.loc).toNat else wd ws i
 rw [F];by_cases c:q.2.loc<=(i:Int)/\(i:Int)<q.2.loc+3+q.2.len
 ·have N:wd (mx ws q.2.loc.toNat (mi A q.1.toNat (q.2.len+3).toNat)) i=wd A (q.1+((i:Int) - q.2.loc)):=by
   rw [zt9 (by omega) (by omega) (by rw [I];omega),zt8 (by omega) (by omega)];congr 1;omega
  rw [if_pos c,N];unfold ve;rw [show ((q.1.toNat:Nat):Int)=q.1 by omega,show ((q.1.toNat+((i:Int) - q.2.loc).toNat:Nat):Int)=q.1+((i:Int) - q.2.loc) by omega,C7 (x:=bp A q.1) (y:=q.2) (by rw [E])];by_cases J:(decide (3<=((i:Int) - q.2.loc).toNat)&&jw d.fields q.2 (((i:Int) - q.2.loc).toNat - 3))=true
  ·rw [if_pos J];rw [Bool.and_eq_true,decide_eq_true_eq]at J;have D:(i:Int)∈refsOf d.fields q.2:=by
    have:=C6 (x:=q.2) (n:=((i:Int) - q.2.loc).toNat - 3) (by omega) J.2;rwa [show q.2.loc+3+((((i:Int) - q.2.loc).toNat - 3:Nat):Int)=(i:Int) by omega]at this
   rw [if_pos D];have L:q.1+((i:Int) - q.2.loc)∈refsOf d.fields (bp A q.1):=by
    have:=C6 (fs:=d.fields) (x:=bp A q.1) (n:=((i:Int) - q.2.loc).toNat - 3) (by rw [F];omega) (by rw [C7 (y:=q.2) (by rw [E])];exact J.2);have e:(bp A q.1).loc+3+((((i:Int) - q.2.loc).toNat - 3:Nat):Int)=q.1+((i:Int) - q.2.loc):=by show q.1+3+((((i:Int) - q.2.loc).toNat - 3:Nat):Int)=_;omega
    rwa [e]at this
   exact (k.trn _ L).symm
  have D:(i:Int)∉refsOf d.fields q.2:=fun hc=>J (by
   obtain ⟨n,e,X,W⟩:=Bb hc;rw [show ((i:Int) - q.2.loc).toNat - 3=n by omega,W,decide_eq_true (by omega:3<=((i:Int) - q.2.loc).toNat)];rfl)
  rw [if_neg J,if_neg D]
 have D:(i:Int)∉refsOf d.fields q.2:=fun hc=>by obtain ⟨n,e,X,-⟩:=Bb hc;omega
 rw [if_neg c,if_neg D,zua G (by omega) (by rw [I];omega)]
theorem z0j {d:ax} {A order news:List Int} {mv:List (Int×bq)} :∀(l:List (Int×bq)) (ws:List Int),A.length=ws.length->(∀q∈l,Cb d A order news mv q)->l.foldl (u6 d.fields mv A) ws=me d A order news (l.map fun q=>(q.1,q.2.loc)) ws
 | [],_,_,_=>rfl
 | q::l,ws,hu,h=>by show l.foldl (u6 d.fields mv A) (u6 d.fields mv A ws q)=me d A order news (l.map fun q=>(q.1,q.2.loc)) (xp d A order news ws q.1 q.2.loc);rw [z0i hu (h q (mem_cons_self ..))];exact z0j l _ (by rw [zv8];exact hu) fun x D=>h x (mem_cons_of_mem _ D)
theorem z0k:∀p,Laid p (pm p l) (p+ii l):=by
 induction l with
 | nil=>intro p;show p=p+0;omega
 | cons x l ih=>
   intro p;refine ⟨rfl,?_⟩;have h:=ih (p+3+x.len);rw [show p+ii (x::l)=p+3+x.len+ii l by simp only [ii,map_cons,sum_cons];omega];exact h
theorem z0l:∀p,∀q∈pm p l,∃t∈l,q.1=t.loc/\q.2.tag=t.tag/\q.2.len=t.len/\q.2.hash=t.hash:=by
 induction l with
 | nil=>intro p q A;cases A
 | cons x l ih=>
   intro p q A;rcases mem_cons.1 A with rfl | A
   ·exact ⟨x,mem_cons_self ..,rfl,rfl,rfl,rfl⟩
   obtain ⟨t,D,e⟩:=ih _ q A;exact ⟨t,mem_cons_of_mem _ D,e⟩
theorem z0m {d:ax} {h:ar} {ts E D:List bq} (r:Right d h ts) (G:cw d.am.length d.fields h.ab 1 h.bk=some E) (I:cw d.am.length d.fields h.ab (h.ae+1) h.be=some D) (rs:List Int):(mu d h rs).map bq.loc=gi (de d h rs) E D:=by
 have F:sw d h=E++D:=by obtain ⟨aa,Z,J,L,e⟩:=Ab r.both;rw [G]at J;rw [I]at L;unfold sw;rw [r.both,e,<-ojq J,<-ojq L];rfl
 have z4:=r.sized.bk;have O:∀t∈E,t.loc<=h.ae:=fun t A=>by have q:=td G t A;have q1:=q.2.1;have q2:=yb q.2.2.2.2;have q3:t.fin=t.loc+3+t.len:=rfl;omega
 have N:∀t∈D,h.ae<t.loc:=fun t A=>by have:=(td I t A).1;omega
 unfold mu gi;rw [F,filter_append,filter_append,map_append,map_append,map_append,filter_map,filter_map];have V:E.filter (fun t=>decide (h.ae<t.loc)&&(de d h rs).contains t.loc)= []:=filter_eq_nil_iff.2 fun t A=>by have:=O t A;rw [decide_eq_false (by omega:¬h.ae<t.loc)];simp
 have W:D.filter (fun t=>decide (t.loc<=h.ae)&&(de d h rs).contains t.loc)= []:=filter_eq_nil_iff.2 fun t A=>by have:=N t A;rw [decide_eq_false (by omega:¬t.loc<=h.ae)];simp
 have X:D.filter (fun t=>decide (h.ae<t.loc)&&(de d h rs).contains t.loc)=D.filter (((de d h rs).contains ·)∘bq.loc):=filter_congr fun t A=>by rw [decide_eq_true (N t A)];simp
 have Y:E.filter (fun t=>decide (t.loc<=h.ae)&&(de d h rs).contains t.loc)=E.filter (((de d h rs).contains ·)∘bq.loc):=filter_congr fun t A=>by rw [decide_eq_true (O t A)];simp
 rw [V,W,X,Y,map_nil,nil_append,append_nil]
theorem z0n {d:ax} {h:ar} {ts D A:List bq} (r:Right d h ts) (e1:cw d.am.length d.fields h.ab 1 h.bk=some D) (e2:cw d.am.length d.fields h.ab (h.ae+1) h.be=some A) (rs:List Int) (hr:∀v∈rs,cq ts v=true) (hl:ic d h rs<=h.old):
 dr d h rs=pc d h [] (gi (de d h rs) D A) (h.ae+1)/\gu d h rs=Ar h (gi (de d h rs) D A) (h.ae+1) rs:=by
 obtain ⟨k,aw,ay,an,a3⟩:=zx5 r e1 e2 rs hr hl;have ak:=z0m r e1 e2 rs;have z1:=r.sized.ae;have z2:=r.sized.old;have z3:=r.sized.len;have J:∀t∈mu d h rs,t∈ts:=fun t N=>((zz4 r rs t).1 N).1;have F:(pm (h.ae+1) (mu d h rs)).map (·.1)=gi (de d h rs) D A:=by rw [zzp,ak]
 have I:∀q∈pm (h.ae+1) (mu d h rs),∃t∈ts,t.loc=q.1/\bp h.ab q.1=⟨q.1,q.2.tag,q.2.len,q.2.hash⟩/\1<=t.loc/\t.fin<=h.ab.length/\0<=q.2.len/\t.len=q.2.len:=fun q E=>by
  obtain ⟨t,N,q1,q2,q3,q4⟩:=z0l _ _ q E;have ah:=B5 r.sized r.both t (J t N);have ea:=se r (J t N);refine ⟨t,J t N,q1.symm,?_,ah.1,?_,?_,q3.symm⟩
  ·rw [q1,q2,q3,q4];exact ea.symm
  ·have ai:t.fin=t.loc+3+t.len:=rfl;omega
  rw [q3];have ai:t.fin=t.loc+3+t.len:=rfl;omega
 have L:∀q∈pm (h.ae+1) (mu d h rs),0<=q.2.len:=fun q E=>by obtain ⟨t,-,-,-,-,-,e,-⟩:=I q E;exact e
 have V:=z0k (mu d h rs) (h.ae+1);have W:=C9 V L;obtain ⟨n1,n2⟩:=zw2 (ws:=h.ab) V fun q E=>by obtain ⟨t,-,-,e,-⟩:=I q E;exact (congrArg bq.len e).symm
 rw [F]at n1 n2;have a2:(0:Int)∉(pm (h.ae+1) (mu d h rs)).map (·.1):=fun hc=>by obtain ⟨q,E,e⟩:=mem_map.1 hc;obtain ⟨t,-,e2,-,e3,-⟩:=I q E;omega
 have ad:=zw5 (l:=pm (h.ae+1) (mu d h rs)) (by rw [F];exact an) a2;rw [F,<-n1]at ad;have Y:∀v,v=0\/v∈gi (de d h rs) D A->nj (gi (de d h rs) D A) (ia h.ab (h.ae+1) (gi (de d h rs) D A)) v=nc (pm (h.ae+1) (mu d h rs)) v:=fun v G=>by
  rw [ad];unfold jv nc;rcases G with rfl | G
  ·rfl
  rw [<-F]at G;have:=zuk.2 G;cases e:io (pm (h.ae+1) (mu d h rs)) v with
  | none=>rw [e]at this;cases this
  | some x=>rfl
 have O:∀v,(∃q∈jm h [] (gi (de d h rs) D A) (h.ae+1),q.1=v)->v∈gi (de d h rs) D A:=fun v G=>by obtain ⟨q,E,rfl⟩:=G;unfold jm at E;rw [map_nil,nil_append]at E;exact (of_mem_zip E).1
 have al:∀v∈gi (de d h rs) D A,∃q∈jm h [] (gi (de d h rs) D A) (h.ae+1),q.1=v:=fun v G=>by have e:=zxx (gi (de d h rs) D A) (ia h.ab (h.ae+1) (gi (de d h rs) D A)) (zv7 _ _ _).symm;have af:=G;rw [<-e]at af;obtain ⟨q,E,e⟩:=mem_map.1 af;exact ⟨q,by unfold jm;rw [map_nil,nil_append];exact E,e⟩
 have a4:h.ae+1+ii (mu d h rs)=h.ae+1+ic d h rs:=by rw [<-n2,ay]
 have ac:∀q∈pm (h.ae+1) (mu d h rs),Cb d h.ab (gi (de d h rs) D A) (ia h.ab (h.ae+1) (gi (de d h rs) D A)) (pm (h.ae+1) (mu d h rs)) q:=fun q E=>by obtain ⟨t,N,q1,q2,q3,q4,q5,q6⟩:=I q E;have a6:=W.2 q E;have q7:q.2.fin=q.2.loc+3+q.2.len:=rfl;have q8:t.fin=t.loc+3+t.len:=rfl;refine ⟨by omega,by omega,q2,q5,by omega,by omega,fun a ha=>?_⟩;obtain ⟨p,Z,e⟩:=al q.1 (by rw [<-F];exact mem_map.2 ⟨q,E,rfl⟩);have:=k.refs p Z a (by rw [e];exact ha);exact Y _ (this.imp id (O _))
 have av:qx d.fields (pm (h.ae+1) (mu d h rs)) h.ab (pm (h.ae+1) (mu d h rs))=(pc d h [] (gi (de d h rs) D A) (h.ae+1)).ab:=by show (pm (h.ae+1) (mu d h rs)).foldl _ (replicate h.ab.length 0)=me d h.ab (gi (de d h rs) D A) (ia h.ab (h.ae+1) (gi (de d h rs) D A)) ((gi (de d h rs) D A).zip (ia h.ab (h.ae+1) (gi (de d h rs) D A))) (replicate h.ab.length 0);rw [z0j _ _ (by rw [length_replicate]) ac,<-zxd (fun q:Int×bq=>q.1) (fun q:Int×bq=>q.2.loc),F,<-n1]
 have X:∀a:Int,0<=a->a<=h.ae->wd (pc d h [] (gi (de d h rs) D A) (h.ae+1)).ab a=0:=fun a a0 a1=>by
  show wd (me d h.ab (gi (de d h rs) D A) (ia h.ab (h.ae+1) (gi (de d h rs) D A)) ((gi (de d h rs) D A).zip (ia h.ab (h.ae+1) (gi (de d h rs) D A))) (replicate h.ab.length 0)) a=0;rw [n1,<-F,zxd,E2 _ _ a a0 ?_ ?_,zxc]
  ·intro p Z;obtain ⟨q,E,rfl⟩:=mem_map.1 Z;have ok:=ac q E;have k1:=ok.src;have k2:=ok.dst;have k3:=ok.len;have k4:=ok.df;have k5:=congrArg bq.len ok.th;have k5:(bp h.ab q.1).len=q.2.len:=k5;exact ⟨k1,k2,by show 0<=(bp h.ab q.1).len;omega,by rw [length_replicate];show q.2.loc+3+(bp h.ab q.1).len<=_;omega⟩
  intro p Z hc;obtain ⟨q,E,rfl⟩:=mem_map.1 Z;have:=(W.2 q E).1;have a5:q.2.loc<=a:=hc.1;omega
 have az:=zzl d h [] (gi (de d h rs) D A) (h.ae+1);constructor
 ·show ar.mk (mx (qx d.fields (pm (h.ae+1) (mu d h rs)) h.ab (pm (h.ae+1) (mu d h rs))) 1 (replicate h.ae.toNat 0)) h.ae h.old 1 (h.ae+1+ii (mu d h rs)) [] h.next=ar.mk (pc d h [] (gi (de d h rs) D A) (h.ae+1)).ab h.ae h.old 1 (toR h.ab (h.ae+1) (gi (de d h rs) D A)) [] h.next;rw [av,n2];have aa:1+(replicate h.ae.toNat (0:Int)).length<=(pc d h [] (gi (de d h rs) D A) (h.ae+1)).ab.length:=by rw [length_replicate,az];omega
  have au:mx (pc d h [] (gi (de d h rs) D A) (h.ae+1)).ab 1 (replicate h.ae.toNat 0)=(pc d h [] (gi (de d h rs) D A) (h.ae+1)).ab:=by
   refine zxb (C5 aa) fun i hi=>?_;by_cases c:1<=(i:Int)/\(i:Int)<=h.ae
   ·rw [zt9 (by omega) (by omega) (by rw [length_replicate];omega),zxc,X i (by omega) c.2]
   rw [zua aa (by omega) (by rw [length_replicate];omega)]
  rw [au]
 unfold gu Ar;refine map_congr_left fun v G=>(Y v ?_).symm;exact (aw v G).imp id (O v)
end Go.Proofs.YtjdnmblggdobgaaGreat
