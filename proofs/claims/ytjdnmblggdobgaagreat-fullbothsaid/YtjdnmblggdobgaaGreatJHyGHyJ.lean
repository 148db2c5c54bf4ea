import Derived.Test.YtjdnmblggdobgaaGreatJHyDHyF
set_option maxHeartbeats 8000000
set_option maxRecDepth 100000
namespace Go.Proofs.YtjdnmblggdobgaaGreat
open Go.Maps Go.RowKit Tryz List Or World
variable (w:World) (b B T M X:Nat) (Z nW nO nR gv kC kS kF kN kT:Value) (fs:List (List bv)) (f i:Nat) (s:ge) (h:ar) (mv:List (Int×bq)) (rs l:List Int) (k:Nat) (d:ax)
theorem Mo.lts {b B T M X:Nat} {w:World} {F D E A G L I J N:Value} {h:ar} {m g:List (Int×bq)} {rs:List Int} {d:ax} (o:Mo b B w T M X F D E A G L I J N h m g rs d):T<w.heap.size/\M<w.heap.size/\X<w.heap.size/\(∀k,F.ownBlock=some k->k<w.heap.size)/\(∀k,D.ownBlock=some k->k<w.heap.size)/\(∀k,E.ownBlock=some k->k<w.heap.size)/\(∀k,A.ownBlock=some k->k<w.heap.size):=
 ⟨bz o.blk,bz o.sd,o.mp.lt,fun k e=>(o.rW.lt k e).2,fun k e=>(o.rO.lt k e).2,fun k e=>(o.rR.lt k e).2,fun k e=>(o.rG.lt k e).2⟩
theorem Mo.other {b B T M X:Nat} {w w':World} {G E F D J O L N V:Value} {h:ar} {m g:List (Int×bq)} {rs:List Int} {d:ax} (o:Mo b B w T M X G E F D J O L N V h m g rs d) {k:Nat} (A:w.grownBy w' (some k)) (I:b<=k) (W:T<k/\M<k/\X<k/\(∀j,G.ownBlock=some j->j<k)/\(∀j,E.ownBlock=some j->j<k)/\(∀j,F.ownBlock=some j->j<k)/\(∀j,D.ownBlock=some j->j<k)):Mo b B w' T M X G E F D J O L N V h m g rs d/\Below b w w':=by obtain ⟨n1,n2,n3,Y,Z,n6,n7⟩:=W;refine ⟨⟨(A.block T (bz o.blk) (fun e=>by have:=ojq e;omega)).trans o.blk,(A.block M (bz o.sd) (fun e=>by have:=ojq e;omega)).trans o.sd,o.rW.kept A (inr fun e=>by have:=Y _ e;omega),o.rO.kept A (inr fun e=>by have:=Z _ e;omega),o.rR.kept A (inr fun e=>by have:=n6 _ e;omega),o.rG.kept A (inr fun e=>by have:=n7 _ e;omega),o.mp.kept A (fun e=>by have:=ojq e;omega),o.lkUp A I,o.le,o.bT,o.bM,o.bX,o.sep⟩,(br b w).grown A (by have:=bz o.blk;have:=o.bT;omega) (fun j e=>by cases e;exact I)⟩
theorem zvl (o:Mo b B w T M X nW nO nR gv kC kS kF kN kT h mv mv rs d) (t:bq) (hf:qf d t) (h1:1<=t.loc) (h2:t.fin<=h.ae+1) (h3:h.be+3+t.len<=h.ab.length) (h4:h.ae<h.be) (h5:h.ab.length<=1000000) (h6:mv.length<=1000000):
 Calls prog 190 #[.p M,nw t] w fun r w'=>r=.returned (.i h.be)/\(∃gv',Mo b B w' T M X nW nO nR gv' kC kS kF kN kT (Cn h t) (mv++ [(t.loc,(⟨h.be,t.tag,t.len,t.hash⟩:bq))]) (mv++ [(t.loc,(⟨h.be,t.tag,t.len,t.hash⟩:bq))]) rs d/\mq w.heap.size T M X nW gv w gv' w'):=by
 obtain ⟨iT,c6,co,cp,cr⟩:=info_parts um;have bd:t.fin=t.loc+3+t.len:=rfl;have ef:=hf.lo;obtain ⟨F,N,dd,ee⟩:∃F N,nW=.slice (some ⟨F,0,none⟩) h.ab.length N/\h.ab.length<=N:=by
  rcases o.rW.2 with ⟨e,h0⟩ | ⟨g,cap,ec,e,-,-,hc,-⟩
  ·omega
  exact ⟨g,cap,e,hc⟩
 subst dd;obtain ⟨aO,cO,c8⟩:=ku o.rO;subst c8;obtain ⟨aR,cR,c9⟩:=ku o.rR;subst c9;obtain ⟨O,Y,c7⟩:=ku o.rG;subst c7;obtain ⟨aC,cC,aS,cS,aF,cF,aN,cN,aT,cT,rfl,rfl,rfl,rfl,rfl⟩:=o.lk.agg;have ac:=o.lts;have cx:Hid (∀k,(.slice O mv.length Y:Value).ownBlock=some k->k<w.heap.size):=ac.2.2.2.2.2.2;have ci:b<=w.heap.size:=by have:=o.bT;omega
 have bs:=aj ci;have a5:=aj ac;obtain ⟨W0,bl,bi,cn,kp⟩:=jq w #[.i t.loc,.i t.tag,.i t.len,.i t.hash] 101;have o0:=o.below bi;have bx:=aj o0;have ct:Hid (mq w.heap.size T M X (.slice (some ⟨F,0,none⟩) h.ab.length N) (.slice O mv.length Y) w (.slice O mv.length Y) W0):=mq.ofBelow bi;have cv:=aj bl;have c0:=aj kp;have d6:=aj cn;have lM:=bz o0.sd;have lT:=bz o0.blk;have lP:=bz kp;have m0:=bg o0.sd 0 (x:=.p T) rfl;have m1:=bg o0.sd 1 (x:=.map (some X)) rfl;have m2:=bg o0.sd 2 (x:=.slice O mv.length Y) rfl;have a0:=bg o0.blk 0 (x:=.slice (some ⟨F,0,none⟩) h.ab.length N) rfl;have a4:=bg o0.blk 4 (x:=.i h.be) rfl;have p0:=bg kp 0 (x:=.i t.loc) rfl;have p1:=bg kp 1 (x:=.i t.tag) rfl;have p2:=bg kp 2 (x:=.i t.len) rfl;have p3:=bg kp 3 (x:=.i t.hash) rfl;have bu:Hid (∀W,Calls prog 72 #[.agg #[.i t.loc,.i t.tag,.i t.len,.i t.hash]] W fun r w'=>r=.returned (.i (t.loc+3+t.len))/\Bl W w'):=fun W=>Er W t (by unfold small;omega) (by unfold small;omega);have a9:Hid (∀W,Calls prog 72 #[.agg #[.i h.be,.i t.tag,.i t.len,.i t.hash]] W fun r w'=>r=.returned (.i (h.be+3+t.len))/\Bl W w'):=fun W=>Er W ⟨h.be,t.tag,t.len,t.hash⟩ (by show small h.be;unfold small;omega) (by show small t.len;unfold small;omega);have r9:∀V,(Instr.slice 22 (.slice (some ⟨F,0,none⟩) h.ab.length N) (some (.i h.be)) none none).run prog V=.ok (.slice (some ⟨F,h.be.toNat,none⟩) (h.ab.length - h.be.toNat) (N - h.be.toNat)) V:=fun V=>by rw [run_slice_l V 22 _ _ _ underlying22 .i64 h.be (by omega) (by omega)];show Result.ok (sliced (some ⟨F,0,none⟩) h.be.toNat h.ab.length N 1) V=_;unfold sliced;rw [if_neg (by omega),Option.map_some,zd,Nat.mul_one,Nat.zero_add]
 have ek:∀V,(Instr.slice 22 (.slice (some ⟨F,0,none⟩) h.ab.length N) (some (.i t.loc)) (some (.i (t.loc+3+t.len))) none).run prog V=.ok (.slice (some ⟨F,t.loc.toNat,none⟩) (t.len+3).toNat (N - t.loc.toNat)) V:=fun V=>by rw [run_slice_lh V 22 _ _ _ underlying22 .i64 .i64 t.loc (t.loc+3+t.len) (by omega) (by omega) (by omega)];show Result.ok (sliced (some ⟨F,0,none⟩) t.loc.toNat (t.loc+3+t.len).toNat N 1) V=_;unfold sliced;rw [if_neg (by omega),Option.map_some,zd,Nat.mul_one,Nat.zero_add,show (t.loc+3+t.len).toNat - t.loc.toNat=(t.len+3).toNat by omega]
 have nM:¬M=F:=fun e=>qr o.sep (i:=1) (j:=3) (by decide) rfl (by rw [e];rfl);have nT:¬T=F:=fun e=>qr o.sep (i:=0) (j:=3) (by decide) rfl (by rw [e];rfl);have nP:¬w.heap.size=F:=fun e=>by have:=ac.2.2.2.1 F rfl;omega
 have nX:¬M=X:=fun e=>qr o.sep (i:=1) (j:=2) (by decide) rfl (by rw [e];rfl);have nY:¬w.heap.size=X:=fun e=>by have:=ac.2.2.1;omega
 have mL:=m0;have aL:=a4;rw [bl]at mL aL;unfold nw;rw [bd]at h2;clear bd bi bl kp o0 o cn ac bs;go_enter func190,ntmps190;go_wp2_with fail;rw [<-cv.o];refine wp_region_held_drew (S:=fun W'=>∀p:Addr,p.block<W0.heap.size->p.block≠F->W'.cell? p=W0.cell? p) (by kernel_rfl) (fun p hp _=>rfl) fun A=>?_;refine ta 0 (.p M) rfl A ?_;refine ta 1 (.p M) rfl A ?_;refine ta 2 (.p M) rfl A ?_;refine ta 3 (.p T) rfl A ?_;refine ta 4 (.p T) rfl A ?_;refine ta 5 (.p T) rfl A ?_;refine ta 6 (.p T) rfl A ?_;refine ta 7 (.slice (some ⟨F,0,none⟩) h.ab.length N) rfl A ?_;refine ta 8 (.i h.be) rfl A ?_;refine ta 9 (.slice (some ⟨F,h.be.toNat,none⟩) (h.ab.length - h.be.toNat) (N - h.be.toNat)) rfl A ?_;refine ta 10 (.p M) rfl A ?_;refine ta 11 (.p M) rfl A ?_;refine ta 12 (.p M) rfl A ?_;refine ta 13 (.p T) rfl A ?_;refine ta 14 (.p T) rfl A ?_;refine ta 15 (.p T) rfl A ?_;refine ta 16 (.p T) rfl A ?_;refine ta 17 (.slice (some ⟨F,0,none⟩) h.ab.length N) rfl A ?_;refine ta 18 (.p w.heap.size) rfl A ?_;refine ta 19 (.i t.loc) rfl A ?_;refine ta 20 (.agg #[.i t.loc,.i t.tag,.i t.len,.i t.hash]) rfl A ?_;refine wpAnyH_ready (rs:=[21]) (by kernel_rfl) (by simp) ?_;refine AllReadyH.cons rfl (fun ea b9=>?_) AllReadyH.nil;go_simp;refine (bu.o _).mono ?_;rintro r w5 ⟨rfl,aw⟩;have E:Bl W0 w5:=(br W0.heap.size W0).drew.trans aw;refine b9.o _ _ (fun p hp _=>E.cell hp) fun A=>?_;refine ta 22 (.slice (some ⟨F,t.loc.toNat,none⟩) (t.len+3).toNat (N - t.loc.toNat)) rfl A ?_;refine wpAnyH_ready (rs:=[23]) (by kernel_rfl) (by simp) ?_;refine AllReadyH.cons rfl (fun eb ca=>?_) AllReadyH.nil;have o5:=bx.o.below E;refine zvk rfl (.tmp 23) (.tmp 36) rfl b F h.be.toNat t.loc.toNat (t.len+3).toNat (h.ab.length - h.be.toNat) (N - h.be.toNat) (N - t.loc.toNat) N h.ab o5.rW rfl rfl (by omega) (by omega) (by omega) ?_;intro w4 am cm;refine ca.o _ _ (fun p hp bm=>(cell?_of_block (a:=p) (am.block p.block (ll3 hp E.size) (fun e=>bm (ojq e)))).trans (E.cell hp)) fun A=>?_;refine wpAnyH_done (by kernel_rfl) ?_ _;clear A;try simp only [Act.put,p1q,p4q,p3q,p2q,p5q,p6q]
 obtain ⟨o4,c4⟩:=o5.ab (k:=F) rfl am cm;have df:=am.size;have dg:=E.size;have a2:=(am.block w.heap.size (by omega) (fun e=>by have:=a5.o.2.2.2.1 F rfl;have:=ojq e;omega)).trans ((E.block _ lP).trans c0.o);have d5:=aj a2;have bc:mq w.heap.size T M X (.slice (some ⟨F,0,none⟩) h.ab.length N) (.slice O mv.length Y) w (.slice O mv.length Y) w4:=ct.o.trans ((mq.ofBelow (E.mono (by omega))).trans (mq.ofGrown am (inr (inr (inr (inl rfl))))));have cu:=aj bc;have bn:=o4.below (br _ _).drew;have b1:=aj bn;have eh:=bz o4.sd;have dj:=bz a2;have ei:=bg o4.sd 1 (x:=.map (some X)) rfl;have ej:=bg a2 0 (x:=.i t.loc) rfl;obtain ⟨D,az,hD⟩:=bn.mp;have bf:keyOf prog 3 (.i t.loc)=some (jt t.loc):=keyOf_int_mk underlying3 (WalkArith.wf_i64 (by omega));obtain ⟨bo,d0,al,Z⟩:=ownsMap.update (w:=w4.drew) az qq underlying194 (by unfold maxLen;omega) bf (plainElem_int (H:=Unit) underlying3 (a:=h.be) (WalkArith.wf_i64 (by omega)));have cy:=aj Z;have ck:j9 bo X (mv++ [(t.loc,(⟨h.be,t.tag,t.len,t.hash⟩:bq))]):=⟨_,by rw [length_append];exact al,zvg hD (az.tidy qq) (t.loc,(⟨h.be,t.tag,t.len,t.hash⟩:bq))⟩;obtain ⟨cs,cc⟩:=b1.o.map Z ck;have ad:=(Z.block w.heap.size dj (fun e=>by have:=a5.o.2.2.1;have:=ojq e;omega)).trans a2;have pp:=bg ad 0 (x:=.i t.loc) rfl;have pz:=pq ad 0;have pl:=bz ad;obtain ⟨G,ah⟩:∃G,G=bo.setCell ⟨w.heap.size,0,none⟩ (.i h.be):=⟨_,rfl⟩;have ay:bo.grownBy G (some w.heap.size):=ah ▸ pi (grownBy.refl _ _) _ _ (inl rfl);have I:G.heap[w.heap.size]? =some (.cells #[.i h.be,.i t.tag,.i t.len,.i t.hash] 101 (0,0)):=ah ▸ s9 ad _;obtain ⟨an,ce⟩:=cs.other ay ci a5.o;have ba:=aj an;have b3:=aj I;have b5:=aj ah;have au:Hid (mq w.heap.size T M X (.slice (some ⟨F,0,none⟩) h.ab.length N) (.slice O mv.length Y) w (.slice O mv.length Y) G):=cu.o.trans (((mq.ofBelow (br _ w4).drew).trans (mq.ofGrown Z (inr (inr (inl rfl))))).trans (mq.ofGrown ay (inr (inr (inr (inr (nlq _)))))));have n0:=bg an.sd 0 (x:=.p T) rfl;have n4:=bg an.blk 4 (x:=.i h.be) rfl;have d1:=bz an.sd;have d4:=bz an.blk;have bh:=bz I;have u0:=bg I 0 (x:=.i h.be) rfl;have u1:=bg I 1 (x:=.i t.tag) rfl;have u2:=bg I 2 (x:=.i t.len) rfl;have u3:=bg I 3 (x:=.i t.hash) rfl;clear o4 c4 am cm o5 aw E a2 bc bn az hD bf al Z ck cs cc ad ay I an ce b1 bx bu m0 m1 m2 a0 a4 p0 p1 p2 p3 ah df dg;go_wp2_with fail;refine wp_region_held_drew (S:=fun W'=>∀p:Addr,p.block<w4.heap.size->p.block≠X->W'.cell? p=w4.cell? p) (by kernel_rfl) (fun p hp _=>rfl) fun A=>?_;refine ta 0 (.p M) rfl A ?_;refine ta 1 (.p M) rfl A ?_;refine ta 2 (.pointer (some ⟨M,1,none⟩)) rfl A ?_;refine ta 3 (.map (some X)) rfl A ?_;refine ta 4 (.p w.heap.size) rfl A ?_;refine ta 5 (.i t.loc) rfl A ?_;refine ta 6 (.i h.be) rfl A ?_;refine wpAnyH_ready (rs:=[7]) (by kernel_rfl) (by simp) ?_;refine AllReadyH.cons rfl (fun K7 bj=>?_) AllReadyH.nil;go_simp;refine bj.o _ _ (fun p hp bm=>cell?_of_block (a:=p) (cy.o.block p.block hp (fun e=>bm (ojq e)))) fun A=>?_;refine wpAnyH_done (by kernel_rfl) ?_ _;clear A;try simp only [Act.put,p1q,p4q,p3q,p2q,p5q,p6q]
 go_wp2_with fail;rw [<-b5.o];refine zrg (fun W'=>∀p:Addr,p.block<G.heap.size->W'.cell? p=G.cell? p) 9 (by kernel_rfl) (fun p hp=>rfl) fun A=>?_;refine qi 0 (.p M) rfl (by kernel_rfl) (by kernel_rfl) (fun _ _ _ h=>h) ?_ A ?_
 ·intro w;go_simp
 refine qi 1 (.p M) rfl (by kernel_rfl) (by kernel_rfl) (fun _ _ _ h=>h) ?_ A ?_
 ·intro w;go_simp
 refine qi 2 (.p M) rfl (by kernel_rfl) (by kernel_rfl) (fun _ _ _ h=>h) ?_ A ?_
 ·intro w;go_simp
 refine B6 3 (.p T) rfl (by kernel_rfl) (by kernel_rfl) (by kernel_rfl) (fun _ _ _ h=>h) ?_ A ?_
 ·intro w av;go_simp
 refine B6 4 (.agg #[.i h.be,.i t.tag,.i t.len,.i t.hash]) rfl (by kernel_rfl) (by kernel_rfl) (by kernel_rfl) (fun _ _ _ h=>h) ?_ A ?_
 ·intro w av;go_simp
 refine Ba (rs:=[5]) (by kernel_rfl) (by simp) ?_;refine lr.cons rfl (fun K5 c1=>?_) lr.nil;go_simp;refine (a9.o _).mono ?_;rintro r w5 ⟨rfl,aw⟩;have E:Bl G w5:=(br G.heap.size G).drew.trans aw;have A:=fun (p:Addr) (hp:p.block<G.heap.size)=>E.cell hp;refine c1.o _ _ (fun _ _=>A) ?_;refine qi 6 (.p T) rfl (by kernel_rfl) (by kernel_rfl) (fun _ _ _ h=>h) ?_ A ?_
 ·intro w;go_simp
 refine qi 7 (.p T) rfl (by kernel_rfl) (by kernel_rfl) (fun _ _ _ h=>h) ?_ A ?_
 ·intro w;go_simp
 refine qi 8 (.pointer (some ⟨T,4,none⟩)) rfl (by kernel_rfl) (by kernel_rfl) (fun _ _ _ h=>h) ?_ A ?_
 ·intro w;go_simp
 have o5:=ba.o.below E;have x4:=bg o5.blk 4 (x:=.i h.be) rfl;have x5:=pq o5.blk 4;have x6:=bz o5.blk;refine Ba (rs:=[9]) (by kernel_rfl) (by simp) ?_;refine lr.cons rfl (fun K9 c3=>?_) lr.nil;go_simp;refine c3.o _ _ (fun h=>absurd rfl h) ?_;obtain ⟨L,ai⟩:∃L,L=w5.setCell ⟨T,4,none⟩ (.i (h.be+3+t.len)):=⟨_,rfl⟩;rw [<-ai];refine zrf (by kernel_rfl) ?_ _;try simp only [Act.put,p1q,p4q,p3q,p2q,p5q,p6q]
 have aa:w5.grownBy L (some T):=ai ▸ pi (grownBy.refl _ _) _ _ (inl rfl);obtain ⟨a7,cf⟩:=o5.task (h':=Cn h t) (nO':=.slice aO h.ap.length cO) aa (ai ▸ s9 o5.blk _) rfl (o5.rO.kept aa (inr fun e=>qr o5.sep (i:=0) (j:=4) (by decide) rfl (congrArg some e))) (inl rfl);have J:=(aa.block w.heap.size (ll3 bh E.size) (fun e=>by have:=a5.o.1;have:=ojq e;omega)).trans ((E.block _ bh).trans b3.o);have bb:=aj J;have b0:=aj a7;have a8:Hid (mq w.heap.size T M X (.slice (some ⟨F,0,none⟩) h.ab.length N) (.slice O mv.length Y) w (.slice O mv.length Y) L):=au.o.trans ((mq.ofBelow (E.mono (by have:=au.o.size;omega))).trans (mq.ofGrown aa (inl rfl)));have b4:Hid (w.heap.size<=L.heap.size):=a8.o.size;have d2:=bz a7.sd;have d3:=bz J;have v2:=bg a7.sd 2 (x:=.slice O mv.length Y) rfl;have dk:=bg J 0 (x:=.i h.be) rfl;have dl:=bg J 1 (x:=.i t.tag) rfl;have ds:=bg J 2 (x:=.i t.len) rfl;have du:=bg J 3 (x:=.i t.hash) rfl;clear aa a7 cf J o5 E aw x4 x5 x6 ai ba au a9 A n0 n4 u0 u1 u2 u3;go_wp2_with fail;refine zrg (fun W'=>W'.cell? ⟨M,2,none⟩=some (.slice O mv.length Y)/\W'.cell? ⟨w.heap.size,0,none⟩=some (.i h.be)/\W'.cell? ⟨w.heap.size,1,none⟩=some (.i t.tag)/\W'.cell? ⟨w.heap.size,2,none⟩=some (.i t.len)/\W'.cell? ⟨w.heap.size,3,none⟩=some (.i t.hash)) 10 (by kernel_rfl) ⟨v2,dk,dl,ds,du⟩ fun A=>?_;obtain ⟨V0,a6⟩:∃V0,V0=L.drew:=⟨_,rfl⟩;rw [<-a6]at A ⊢;have c5:Bl L V0:=a6 ▸ (br _ _).drew;have eg:V0.heap.size<=L.heap.size/\L.heap.size<=V0.heap.size:=by rw [a6];exact ⟨nlq _,nlq _⟩
 clear a6;refine qi 0 (.p M) rfl (by kernel_rfl) (by kernel_rfl) (fun _ _ _ h=>h) ?_ A ?_
 ·intro w;go_simp
 refine qi 1 (.p M) rfl (by kernel_rfl) (by kernel_rfl) (fun _ _ _ h=>h) ?_ A ?_
 ·intro w;go_simp
 refine qi 2 (.p M) rfl (by kernel_rfl) (by kernel_rfl) (fun _ _ _ h=>h) ?_ A ?_
 ·intro w;go_simp
 refine qi 3 (.pointer (some ⟨M,2,none⟩)) rfl (by kernel_rfl) (by kernel_rfl) (fun _ _ _ h=>h) ?_ A ?_
 ·intro w;go_simp
 refine B6 4 (.slice O mv.length Y) rfl (by kernel_rfl) (by kernel_rfl) (by kernel_rfl) (fun _ _ _ h=>h) ?_ A ?_
 ·intro w av;obtain ⟨s0,s1,s2,s3,s4⟩:=av;go_simp
 refine B6 5 (.agg #[.i h.be,.i t.tag,.i t.len,.i t.hash]) rfl (by kernel_rfl) (by kernel_rfl) (by kernel_rfl) (fun _ _ _ h=>h) ?_ A ?_
 ·intro w av;obtain ⟨s0,s1,s2,s3,s4⟩:=av;go_simp
 refine Ba (rs:=[6]) (by kernel_rfl) (by simp) ?_;refine lr.cons rfl (fun K6 c2=>?_) lr.nil;go_simp;obtain ⟨V6,bk⟩:∃V6,V6=V0.alloc (.cells #[.i h.be,.i t.tag,.i t.len,.i t.hash] 101):=⟨_,rfl⟩;rw [<-bk];have E:Bl L V6:=bk ▸ c5.alloc (by omega) _;have cj:V6.heap[V0.heap.size]? =some (.cells #[.i h.be,.i t.tag,.i t.len,.i t.hash] 101 (0,0)):=bk ▸ heap_alloc_new V0 _;have af:=(E.block _ (bz bb.o)).trans bb.o;have o6:=b0.o.below E;have A:V6.cell? ⟨M,2,none⟩=some (.slice O mv.length Y)/\V6.cell? ⟨w.heap.size,0,none⟩=some (.i h.be)/\V6.cell? ⟨w.heap.size,1,none⟩=some (.i t.tag)/\V6.cell? ⟨w.heap.size,2,none⟩=some (.i t.len)/\V6.cell? ⟨w.heap.size,3,none⟩=some (.i t.hash):=⟨bg o6.sd 2 rfl,bg af 0 rfl,bg af 1 rfl,bg af 2 rfl,bg af 3 rfl⟩;refine c2.o _ _ (fun _ _=>A) ?_;refine Ba (rs:=[7]) (by kernel_rfl) (by simp) ?_;refine lr.cons rfl (fun K7 bj=>?_) lr.nil;refine step_append_lies _ rfl (.tmp 60) (.tmp 62) 182 rfl b 101 iT (.agg #[.i 0,.i 0,.i 0,.i 0]) 4 32 underlying182 c6 co cp cr rfl (by decide) (.slice O mv.length Y) mv.length (fy (mv.map (·.2))) rfl o6.rG ⟨V0.heap.size,0,none⟩ 1 1 [.i h.be,.i t.tag,.i t.len,.i t.hash] rfl rfl (news_of_block cj) (by intro u hu;simp at hu;rcases hu with rfl | rfl | rfl | rfl<;>rfl) (by decide) (by unfold maxLen;omega) (by omega) (by have:=o6.bT;have:=bz o6.blk;omega) _ rfl ?_;intro gA cA w9 a1 ak b6 dz;have k9:w9.heap[M]? =some (.cells #[.p T,.map (some X),.slice O mv.length Y] 196 (0,0)):=(ak.block M (bz o6.sd) (fun e=>qr o6.sep (i:=1) (j:=6) (by decide) rfl (congrArg some e.symm))).trans o6.sd;have a3:=(ak.block _ (bz af) (fun e=>by have:=cx.o _ e.symm;omega)).trans af;have A:w9.cell? ⟨M,2,none⟩=some (.slice O mv.length Y)/\w9.cell? ⟨w.heap.size,0,none⟩=some (.i h.be)/\w9.cell? ⟨w.heap.size,1,none⟩=some (.i t.tag)/\w9.cell? ⟨w.heap.size,2,none⟩=some (.i t.len)/\w9.cell? ⟨w.heap.size,3,none⟩=some (.i t.hash):=⟨bg k9 2 rfl,bg a3 0 rfl,bg a3 1 rfl,bg a3 2 rfl,bg a3 3 rfl⟩;have x5:=pq k9 2;have x6:=bz k9;have x4:=bg k9 2 (x:=.slice O mv.length Y) rfl;obtain ⟨om,-,ch⟩:=o6.more (q:=(t.loc,(⟨h.be,t.tag,t.len,t.hash⟩:bq))) ak a1 (b6.imp id fun e=>by omega) rfl;have b2:=aj (And.intro om (a8.o.trans ((mq.ofBelow (E.mono b4.o)).trans (ch _ (by have:=E.size;have:=b4.o;omega)))));clear cj a1 ak b6 om ch af a3 o6;refine bj.o _ _ (fun _ _=>A) ?_;refine qi 8 (.p M) rfl (by kernel_rfl) (by kernel_rfl) (fun _ _ _ h=>h) ?_ A ?_
 ·intro w;go_simp
 refine qi 9 (.pointer (some ⟨M,2,none⟩)) rfl (by kernel_rfl) (by kernel_rfl) (fun _ _ _ h=>h) ?_ A ?_
 ·intro w;go_simp
 refine Ba (rs:=[10]) (by kernel_rfl) (by simp) ?_;refine lr.cons rfl (fun d8 b7=>?_) lr.nil;go_simp;refine b7.o _ _ (fun h=>absurd rfl h) ?_;refine zrf (by kernel_rfl) ?_ _;try simp only [Act.put,p1q,p4q,p3q,p2q,p5q,p6q]
 go_wp2_with fail;go_ret;exact ⟨rfl,_,b2.o.1,b2.o.2⟩
theorem zvm {s:ge} {v:Int} (h:dw s.h v=false):s.lead v=s/\s.dst v=v:=by unfold ge.lead ge.dst;rw [h];exact ⟨rfl,rfl⟩
theorem zvn {s:ge} {v A:Int} (h:dw s.h v=true) (D:io s.mv v=some A):s.lead v=s/\s.dst v=A:=by unfold ge.lead ge.dst;rw [h,D];exact ⟨rfl,rfl⟩
theorem zvo {s:ge} {v:Int} (h:dw s.h v=true) (A:io s.mv v=none):s.lead v=s.move (bp s.h.ab v)/\s.dst v=s.h.be:=by unfold ge.lead ge.dst;rw [h,A];exact ⟨rfl,rfl⟩
theorem zvp (o:Mo b B w T M X nW nO nR gv kC kS kF kN kT s.h s.mv s.mv rs d) (v:Int) (hv:(Lit.int .i64 v).wf=true) (hc:dw s.h v=true->io s.mv v=none->Can d s v) (h5:s.h.ab.length<=1000000) (h7:s.h.ap.length<=1000000) (h6:s.mv.length<=1000000):
 Calls prog 139 #[.p M,.i v] w fun r w'=>r=.returned (.i (s.dst v))/\(∃gv',Mo b B w' T M X nW nO nR gv' kC kS kF kN kT (s.lead v).h (s.lead v).mv (s.lead v).mv rs d/\mq w.heap.size T M X nW gv w gv' w'):=by
 have E:=aj (zer w _ T _ _ _ _ _ _ _ _ d (o.gd h5 h7) v);have HO:=aj o;have m0:=bg o.sd 0 (x:=.p T) rfl;have m1:=bg o.sd 1 (x:=.map (some X)) rfl;have lM:=bz o.sd;cases hy:dw s.h v
 ·have J:=aj (zvm hy);rw [hy]at E;clear o hc hy;go_enter func139,ntmps139;go_wp2_with fail;refine E.o.mono ?_;rintro r _ ⟨rfl,rfl⟩;go_wp2_with fail;go_ret;exact ⟨by rw [J.o.2];rfl,gv,by rw [J.o.1];exact HO.o,mq.ofBelow (br _ _)⟩
 rw [hy]at E;obtain ⟨D,A,hD⟩:=o.mp;have G:keyOf prog 3 (.i v)=some (jt v):=keyOf_int_mk underlying3 hv;have HD:=aj hD;have HK:=aj G;cases hn:io s.mv v with
 | some tt=>
   have J:=aj (zvn hy hn);have HN:=aj hn;clear o hc hy hn hD G;go_enter func139,ntmps139;go_wp2_with fail;refine E.o.mono ?_;rintro r _ ⟨rfl,rfl⟩;go_wp2_with (at_lookup;refine wpList_lookup_own_ok_int _ rfl _ _ 194 rfl 3 3 .i64 qq underlying194 underlying3 (xh _) X s.mv.length D rfl A _ _ rfl HK.o ?_);intro c I hw;have ad:c=tt:=by have e:=I;rw [HD.o.at_ v tt _ HN.o]at e;exact ((Lit.int.inj (DataW.lit.inj e)).2).symm
   rw [HD.o.has v,HN.o];subst ad;clear I hw A;go_wp2_with fail;go_ret;exact ⟨by rw [J.o.2];rfl,gv,by rw [J.o.1];exact HO.o,mq.ofBelow (br _ _)⟩
 | none=>
   have J:=aj (zvo hy hn);have HN:=aj hn;have F:=hc hy hn;have c1:=F.lo;have c2:=F.fin;have c3:=F.fit.lo;have c4:=F.room;have c5:=F.top;have c6:(bp s.h.ab v).fin=v+3+(bp s.h.ab v).len:=rfl;obtain ⟨n,rfl⟩:∃n:Nat,v=(n:Int):=⟨v.toNat,by omega⟩;have N:=aj (ze0 w _ T _ _ _ _ _ _ _ _ d (o.gd h5 h7) n (by omega));have L:=aj (fun W (hW:Bl w W)=>zvl W b B T M X _ _ _ _ _ _ _ _ _ s.h s.mv rs d (HO.o.below hW) (bp s.h.ab n) F.fit F.lo F.fin F.room F.top h5 h6);generalize htt:bp s.h.ab n=t at*;have aa:=aj htt;unfold nw at N L;clear o hc hy hn hD G F c1 c2 c3 c4 c5 c6 htt;go_enter func139,ntmps139;go_wp2_with fail;refine E.o.mono ?_;rintro r _ ⟨rfl,rfl⟩;go_wp2_with (at_lookup;refine wpList_lookup_own_ok_int _ rfl _ _ 194 rfl 3 3 .i64 qq underlying194 underlying3 (xh _) X s.mv.length D rfl A _ _ rfl HK.o ?_);intro c I hw;rw [HD.o.has (n:Int),HN.o];clear I hw A;go_wp2_with fail;refine N.o.mono ?_;rintro r w1 ⟨rfl,O⟩;have V:=aj O;have Y:=aj (L.o w1 O);clear O N L;go_wp2_with fail;refine Y.o.mono ?_;rintro r w2 ⟨rfl,ac,o2,Z⟩;have HF:=aj (And.intro o2 Z);clear o2 Z Y;go_wp2_with fail;go_ret;have ht:t.loc=(n:Int):=by rw [<-aa.o];rfl
   refine ⟨by rw [J.o.2];rfl,ac,?_,(mq.ofBelow V.o).trans (HF.o.2.mono V.o.size)⟩;rw [J.o.1];exact HF.o.1
theorem zvq {L T M X B e n len:Nat} {I G E v:Value} {w w':World} {xs:List Value} (h:w.ownsRow B e n v len xs) (k:mq L T M X I G w E w') (O:∀j,v.ownBlock=some j->j<w.heap.size->j<L/\j≠T/\j≠M/\j≠X/\I.ownBlock≠some j/\G.ownBlock≠some j):w'.ownsRow B e n v len xs:=by refine ⟨h.1,h.2.imp id ?_⟩;rintro ⟨g,cap,A,F,J,D,N⟩;have q:=O g (by rw [F];rfl) (bz D);exact ⟨g,cap,A,F,J,(k.block g q.1 (bz D) q.2.1 q.2.2.1 q.2.2.2.1 q.2.2.2.2.1 q.2.2.2.2.2).trans D,N⟩
theorem zvr (A:k<l.length):s.refs (l.take (k+1))=(s.refs (l.take k)).ref l[k]:=by unfold ge.refs;rw [take_succ_eq_append_getElem A,foldl_append];rfl
structure D1 (d:ax) (s:ge) (h:ar) (a:Int):Prop where
 wf:(Lit.int .i64 (wd s.h.ab a)).wf=true
 can:dw s.h (wd s.h.ab a)=true->io s.mv (wd s.h.ab a)=none->Can d s (wd s.h.ab a)
 lo:0<=a
 hi:a<s.h.ab.length
 wl:s.h.ab.length=h.ab.length
 wn:s.h.ap=h.ap
 few:s.mv.length<=1000000
 yu:(s.lead (wd s.h.ab a)).h.ab.length=s.h.ab.length
theorem zvs (o:Mo b B w T M X Z nO nR gv kC kS kF kN kT s.h s.mv s.mv rs d) (x:bq) (hf:qf d x) (bf:0<=x.loc/\x.loc<=100000) (bd:x.len<=100000) (h5:s.h.ab.length<=1000000) (h7:s.h.ap.length<=1000000) (hc:∀k (hk:k<(refsOf d.fields x).length),D1 d (s.refs ((refsOf d.fields x).take k)) s.h (refsOf d.fields x)[k]):
 Calls prog 140 #[.p M,nw x] w fun r w'=>r=.returned (.tuple #[])/\(∃gv',Mo b B w' T M X Z nO nR gv' kC kS kF kN kT (s.refs (refsOf d.fields x)).h (s.refs (refsOf d.fields x)).mv (s.refs (refsOf d.fields x)).mv rs d/\mq w.heap.size T M X Z gv w gv' w'):=by
 obtain ⟨L,a3,ae,bi,kp⟩:=jq w #[.i x.loc,.i x.tag,.i x.len,.i x.hash] 101;have o0:=o.below ae;have ay:=aj o0;have ac:=aj (zhk L.drew _ T _ _ _ _ _ _ _ s.h d ((o0.below (br _ _).drew).gd h5 h7) x hf bf bd);have aa:=aj ae;have a6:=aj a3;have m0:=bg o0.sd 0 (x:=.p T) rfl;have lM:=bz o0.sd;have lP:=bz kp;have p0:=bg kp 0 (x:=.i x.loc) rfl;have p1:=bg kp 1 (x:=.i x.tag) rfl;have p2:=bg kp 2 (x:=.i x.len) rfl;have p3:=bg kp 3 (x:=.i x.hash) rfl;have HC:=aj hc;have an:=aj (And.intro h5 h7);have bu:(refsOf d.fields x).length<=100000:=lt3 (Et d.fields x x.len.toNat) (by omega);generalize refsOf d.fields x=l at*;unfold nw at ac ⊢;clear hc ae a3 kp o0 h5 h7 hf bi;go_enter func140,ntmps140;go_wp2_with fail;rw [<-a6.o];refine wp_region_held_drew (S:=fun W'=>∀p:Addr,p.block<L.heap.size->W'.cell? p=L.cell? p) (by kernel_rfl) (fun p hp=>rfl) fun A=>?_;refine ta 0 (.p M) rfl A ?_;refine ta 1 (.p M) rfl A ?_;refine ta 2 (.p M) rfl A ?_;refine ta 3 (.p T) rfl A ?_;refine ta 4 (.agg #[.i x.loc,.i x.tag,.i x.len,.i x.hash]) rfl A ?_;refine ta 7 (.i 0) rfl A ?_;refine wpAnyH_ready (rs:=[5]) (by kernel_rfl) (by simp) ?_;refine AllReadyH.cons rfl (fun K5 bb=>?_) AllReadyH.nil;go_simp;refine ac.o.mono ?_;rintro r w1 ⟨O,vl,rfl,ah⟩;obtain ⟨aL,cL,rfl⟩:=ku ah;refine bb.o _ _ (fun p hp=>((br L.heap.size L).drew.trans O).cell hp) fun A=>?_;refine ta 6 (.i (l.length:Int)) rfl A ?_;refine wpAnyH_done (by kernel_rfl) ?_ _;clear A;try simp only [Act.put,p1q,p4q,p3q,p2q,p5q,p6q]
 have W:Bl w w1:=aa.o.trans (((br L.heap.size L).drew.trans O).mono aa.o.size);have a5:=ay.o.below ((br L.heap.size L).drew.trans O);have a9:=aj a5;have am:=aj W;have az:=aj ah;have aw:=aj (And.intro o.lts (And.intro aa.o.size O.size));clear O W a5 ah ac ay m0 p0 p1 p2 p3 lM lP A o;go_wp2_with fail;go_loopw [13] (fun i wr=>∃(k:Nat) (I:Value),i=.i k/\k<=l.length/\Hid (Mo b B wr T M X Z nO nR I kC kS kF kN kT (s.refs (l.take k)).h (s.refs (l.take k)).mv (s.refs (l.take k)).mv rs d/\mq w1.heap.size T M X Z gv w1 I wr)) (fun i _=>l.length - (intOf i).toNat)
 case atStart=>exact ⟨0,gv,rfl,n0q _,a9.o,mq.ofBelow (br _ _)⟩
 case round=>
  obtain ⟨k,I,rfl,hk,HI⟩:=hrel;by_cases af:k<l.length
  ·have Y:wr.ownsRow L.drew.heap.size 3 1 (.slice aL l.length cL) l.length (b8 l):=zvq az.o HI.o.2 (fun j e1 e2=>by have h0:=(az.o.lt j e1).1;have h1:=aw.o.1;have h2:=aw.o.2;have h3:L.drew.heap.size=L.heap.size:=rfl;have h4:=h1.2.2.2.2.2.2 j;have h5:=h1.2.2.2.1 j;exact ⟨by omega,by omega,by omega,by omega,fun q=>by have:=h5 q;omega,fun q=>by have:=h4 q;omega⟩);obtain ⟨bl,off,rfl,bo,e0⟩:=(rg Y (by omega)).atI k af;have D:=HC.o k af;have ak:=zvr s l k af;obtain ⟨a,ha⟩:∃a:Nat,l[k]=(a:Int):=⟨l[k].toNat,by have:=D.lo;omega⟩;rw [ha]at e0 D ak;have E:=HI.o.1;generalize s.refs (l.take k)=sk at*;have N:a<sk.h.ab.length:=by have:=D.hi;omega
   obtain ⟨F,V,bh,bs⟩:∃F V,Z=.slice (some ⟨F,0,none⟩) s.h.ab.length V/\s.h.ab.length<=V:=by
    rcases E.rW.2 with ⟨e,h0⟩ | ⟨g,cap,bn,e,-,-,hc,-⟩
    ·omega
    exact ⟨g,cap,by rw [e,D.wl],by rw [<-D.wl];exact hc⟩
   subst bh;have ai:=E.rW;rw [<-D.wl]at ai;have xv:=(ai.cellAt a (by rw [Nat.mul_one];exact N)).trans (Dy N);rw [<-qm N]at xv;have au:=aj (zvp wr.drew b B T M X _ _ _ _ _ _ _ _ _ sk rs d (E.below (br _ _).drew) (wd sk.h.ab a) D.wf D.can (by rw [D.wl];exact an.o.1) (by rw [D.wn];exact an.o.2) D.few);have m0:=bg E.sd 0 (x:=.p T) rfl;have t0:=bg E.blk 0 (x:=.slice (some ⟨F,0,none⟩) s.h.ab.length V) rfl;have lM:=bz E.sd;have lT:=bz E.blk;have lW:=(E.rW.lt F rfl).2;have a7:Hid (a<(sk.lead (wd sk.h.ab a)).h.ab.length):=by show _<_;rw [D.yu];exact N
   have av:Hid ((sk.lead (wd sk.h.ab a)).h.ab.length=s.h.ab.length):=D.yu.trans D.wl;have ba:Hid (s.refs (l.take (k+1))=(sk.lead (wd sk.h.ab a)).put a (sk.dst (wd sk.h.ab a))):=ak;have b0:(a:Int)<s.h.ab.length:=by have:=D.hi;rw [D.wl]at this;exact this
   have bx:(0:Int)<=a:=by omega
   have a8:=aj E;generalize wd sk.h.ab a=v at*;generalize sk.dst v=tv at*;generalize sk.lead v=sl at*;clear Y D ak E N ai;go_wp2_with fail;refine zrg (fun W'=>W'.cell? ⟨M,0,none⟩=some (.p T)/\W'.cell? ⟨T,0,none⟩=some (.slice (some ⟨F,0,none⟩) s.h.ab.length V)) 23 (by kernel_rfl) ⟨m0,t0⟩ fun A=>?_;refine qi 0 (.p M) rfl (by kernel_rfl) (by kernel_rfl) (fun _ _ _ h=>h) ?_ A ?_
   ·intro w;go_simp
   refine qi 1 (.p M) rfl (by kernel_rfl) (by kernel_rfl) (fun _ _ _ h=>h) ?_ A ?_
   ·intro w;go_simp
   refine qi 2 (.p M) rfl (by kernel_rfl) (by kernel_rfl) (fun _ _ _ h=>h) ?_ A ?_
   ·intro w;go_simp
   refine B6 3 (.p T) rfl (by kernel_rfl) (by kernel_rfl) (by kernel_rfl) (fun _ _ _ h=>h) ?_ A ?_
   ·intro w G;obtain ⟨s0,s1⟩:=G;go_simp
   refine qi 4 (.p T) rfl (by kernel_rfl) (by kernel_rfl) (fun _ _ _ h=>h) ?_ A ?_
   ·intro w;go_simp
   refine qi 5 (.p T) rfl (by kernel_rfl) (by kernel_rfl) (fun _ _ _ h=>h) ?_ A ?_
   ·intro w;go_simp
   refine qi 6 (.p T) rfl (by kernel_rfl) (by kernel_rfl) (fun _ _ _ h=>h) ?_ A ?_
   ·intro w;go_simp
   refine B6 7 (.slice (some ⟨F,0,none⟩) s.h.ab.length V) rfl (by kernel_rfl) (by kernel_rfl) (by kernel_rfl) (fun _ _ _ h=>h) ?_ A ?_
   ·intro w G;obtain ⟨s0,s1⟩:=G;go_simp
   refine qi 8 (.i (a:Int)) rfl (by kernel_rfl) (by kernel_rfl) (fun _ _ _ h=>h) ?_ A ?_
   ·intro w;go_simp
   refine qi 9 (.p M) rfl (by kernel_rfl) (by kernel_rfl) (fun _ _ _ h=>h) ?_ A ?_
   ·intro w;go_simp
   refine qi 10 (.p M) rfl (by kernel_rfl) (by kernel_rfl) (fun _ _ _ h=>h) ?_ A ?_
   ·intro w;go_simp
   refine qi 11 (.p M) rfl (by kernel_rfl) (by kernel_rfl) (fun _ _ _ h=>h) ?_ A ?_
   ·intro w;go_simp
   refine qi 12 (.p M) rfl (by kernel_rfl) (by kernel_rfl) (fun _ _ _ h=>h) ?_ A ?_
   ·intro w;go_simp
   refine B6 13 (.p T) rfl (by kernel_rfl) (by kernel_rfl) (by kernel_rfl) (fun _ _ _ h=>h) ?_ A ?_
   ·intro w G;obtain ⟨s0,s1⟩:=G;go_simp
   refine qi 14 (.p T) rfl (by kernel_rfl) (by kernel_rfl) (fun _ _ _ h=>h) ?_ A ?_
   ·intro w;go_simp
   refine qi 15 (.p T) rfl (by kernel_rfl) (by kernel_rfl) (fun _ _ _ h=>h) ?_ A ?_
   ·intro w;go_simp
   refine qi 16 (.p T) rfl (by kernel_rfl) (by kernel_rfl) (fun _ _ _ h=>h) ?_ A ?_
   ·intro w;go_simp
   refine B6 17 (.slice (some ⟨F,0,none⟩) s.h.ab.length V) rfl (by kernel_rfl) (by kernel_rfl) (by kernel_rfl) (fun _ _ _ h=>h) ?_ A ?_
   ·intro w G;obtain ⟨s0,s1⟩:=G;go_simp
   refine qi 18 (.i (a:Int)) rfl (by kernel_rfl) (by kernel_rfl) (fun _ _ _ h=>h) ?_ A ?_
   ·intro w;go_simp
   refine qi 19 (.pointer (some ⟨F,a,none⟩)) rfl (by kernel_rfl) (by kernel_rfl) (fun _ _ _ h=>h) ?_ A ?_
   ·intro w;go_simp
   refine Ba (rs:=[20]) (by kernel_rfl) (by simp) ?_;refine lr.cons rfl (fun bj a0=>?_) lr.nil;go_simp;refine a0.o _ _ (fun _ _=>A) ?_;refine Ba (rs:=[21]) (by kernel_rfl) (by simp) ?_;refine lr.cons rfl (fun bk a1=>?_) lr.nil;go_simp;refine au.o.mono ?_;rintro r w5 ⟨rfl,ad,o5,a4⟩;have A:w5.cell? ⟨M,0,none⟩=some (.p T)/\w5.cell? ⟨T,0,none⟩=some (.slice (some ⟨F,0,none⟩) s.h.ab.length V):=⟨bg o5.sd 0 rfl,(bg o5.blk 0 rfl)⟩;refine a1.o _ _ (fun _ _=>A) ?_;refine qi 22 (.pointer (some ⟨F,a,none⟩)) rfl (by kernel_rfl) (by kernel_rfl) (fun _ _ _ h=>h) ?_ A ?_
   ·intro w;go_simp
   have J:=o5.rW;rw [av.o]at J;have x4:=(J.cellAt a (by rw [Nat.mul_one];omega)).trans (Dy a7.o);have x5:=J.frozenAt a;have x6:=(J.lt F rfl).2;refine Ba (rs:=[23]) (by kernel_rfl) (by simp) ?_;refine lr.cons rfl (fun bm a2=>?_) lr.nil;go_simp;refine a2.o _ _ (fun h=>absurd rfl h) ?_;obtain ⟨w6,al⟩:∃w6,w6=w5.setCell ⟨F,a,none⟩ (.i tv):=⟨_,rfl⟩;rw [<-al];refine zrf (by kernel_rfl) ?_ _;try simp only [Act.put,p1q,p4q,p3q,p2q,p5q,p6q]
   obtain ⟨r1,hg⟩:=J.stored a (.i tv);rw [<-al]at r1 hg;have HF:Hid (Mo b B w6 T M X (.slice (some ⟨F,0,none⟩) s.h.ab.length V) nO nR ad kC kS kF kN kT (s.refs (l.take (k+1))).h (s.refs (l.take (k+1))).mv (s.refs (l.take (k+1))).mv rs d/\mq w1.heap.size T M X (.slice (some ⟨F,0,none⟩) s.h.ab.length V) gv w1 ad w6):=by refine ⟨?_,HI.o.2.trans (((mq.ofBelow (br _ wr).drew).trans (a4.mono HI.o.2.size)).trans (mq.ofGrown hg (inr (inr (inr (inl rfl))))))⟩;rw [ba.o];have:=(o5.ab (k:=F) (ws:=sl.h.ab.set a tv) rfl hg (by rw [length_set,av.o,b8,map_set];exact r1)).1;exact this
   clear o5 a4 J x4 x5 x6 A r1 hg al au m0 t0 xv HI a8;go_wp2_with fail;go_roundw
   case rel=>exact ⟨k+1,ad,by go_num,by omega,HF.o⟩
   case measure=>simp [intOf];omega
  have bc:l.take k=l:=take_of_length_le (by omega);have HF:Hid (Mo b B wr T M X Z nO nR I kC kS kF kN kT (s.refs l).h (s.refs l).mv (s.refs l).mv rs d/\mq w.heap.size T M X Z gv w I wr):=⟨bc ▸ HI.o.1,(mq.ofBelow am.o).trans (HI.o.2.mono am.o.size)⟩;go_wp2_with fail;go_end0;exact ⟨rfl,I,HF.o.1,HF.o.2⟩
structure qd (b B:Nat) (w:World) (T:Nat) (nW nO nR kC kS kF kN kT:Value) (h:ar) (rs:List Int) (d:ax):Prop where
 blk:w.heap[T]? =some (.cells #[nW,.i h.ae,.i h.old,.i h.bk,.i h.be,nO,.i h.next,kC,kS,kF,kN,kT,nR] 131 (0,0))
 rW:w.ownsRow b 3 1 nW h.ab.length (b8 h.ab)
 rO:w.ownsRow b 3 1 nO h.ap.length (b8 h.ap)
 rR:w.ownsRow b 3 1 nR rs.length (b8 rs)
 lk:nh (· <B) w kC kS kF kN kT d
 le:B<=b
 bT:b<=T
 sep:sr [some T,nW.ownBlock,nO.ownBlock,nR.ownBlock]
theorem qd.below {b B T:Nat} {w:World} {N J L D G E F I:Value} {h:ar} {rs:List Int} {d:ax} (o:qd b B w T N J L D G E F I h rs d) {w':World} (A:Bl w w'):qd b B w' T N J L D G E F I h rs d:=
 have O:=bz o.blk
 ⟨(A.block _ O).trans o.blk,km o.rW A,km o.rO A,km o.rR A,o.lk.kept (Kp.below (A.mono (by have:=o.le;have:=o.bT;omega))),o.le,o.bT,o.sep⟩
theorem qd.ab {b B T:Nat} {w:World} {D E F I N J L O:Value} {h:ar} {rs:List Int} {d:ax} (o:qd b B w T D E F I N J L O h rs d) {w':World} {k:Nat} {ws:List Int} (G:D.ownBlock=some k) (A:w.grownBy w' (some k)) (Y:w'.ownsRow b 3 1 D ws.length (b8 ws)):qd b B w' T D E F I N J L O ⟨ws,h.ae,h.old,h.bk,h.be,h.ap,h.next⟩ rs d/\Below b w w':=
 have V:b<=k:=(o.rW.lt k G).1;have hi: [some T,D.ownBlock,E.ownBlock,F.ownBlock][1]? =some (some k):=congrArg some G
 ⟨⟨(A.block T (bz o.blk) (fun e=>Bc o.sep (i:=0) (by decide) hi (congrArg some e))).trans o.blk,Y,o.rO.kept A (inr fun e=>qr o.sep (j:=2) (by decide) hi (congrArg some e)),o.rR.kept A (inr fun e=>qr o.sep (j:=3) (by decide) hi (congrArg some e)),o.lk.kept ⟨A.size,fun j W X=>A.block j X (by have:=o.le;have:=W;intro e;injection e;omega)⟩,o.le,o.bT,o.sep⟩,(br b w).grown A (by have:=bz o.blk;have:=o.bT;omega) (fun j e=>by cases e;exact V)⟩
theorem qd.task {b B T:Nat} {w:World} {E O D G L I J N:Value} {h:ar} {rs:List Int} {d:ax} (o:qd b B w T E O D G L I J N h rs d) {w':World} {h':ar} {nO':Value} (A:w.grownBy w' (some T)) (V:w'.heap[T]? =some (.cells #[E,.i h'.ae,.i h'.old,.i h'.bk,.i h'.be,nO',.i h'.next,G,L,I,J,N,D] 131 (0,0))) (hw:h'.ab=h.ab) (Y:w'.ownsRow b 3 1 nO' h'.ap.length (b8 h'.ap)) (F:nO'=O\/nO'.ownBlock=none):qd b B w' T E nO' D G L I J N h' rs d/\Below b w w':=
 have hi: [some T,E.ownBlock,O.ownBlock,D.ownBlock][0]? =some (some T):=rfl
 have Z:sr [some T,E.ownBlock,nO'.ownBlock,D.ownBlock]:=by
  rcases F with rfl | F
  ·exact o.sep
  have:=o.sep;unfold sr at this ⊢;rw [F];simp only [pairwise_cons,mem_cons,not_mem_nil,or_false,forall_eq_or_imp,forall_eq,Pairwise.nil,and_true,false_implies,implies_true]at this ⊢;exact ⟨⟨this.1.1,fun _ _ e=>(by cases e),this.1.2.2⟩,⟨fun _ _ e=>(by cases e),this.2.1.2⟩,fun _ e=>(by cases e)⟩
 ⟨⟨V,hw ▸ o.rW.kept A (inr fun e=>qr o.sep (j:=1) (by decide) hi (congrArg some e)),Y,o.rR.kept A (inr fun e=>qr o.sep (j:=3) (by decide) hi (congrArg some e)),o.lk.kept ⟨A.size,fun j W X=>A.block j X (by have:=o.le;have:=o.bT;have:=W;intro e;injection e;omega)⟩,o.le,o.bT,Z⟩,(br b w).grown A (by have:=bz o.blk;have:=o.bT;omega) (fun j e=>by cases e;exact o.bT)⟩
theorem zwd {ops:Array Oper} {o:Oper} {a:Act} {w:World} {K:Act->World->Prop} {Q:Exit->Act->World->Prop} {E:Prop} (V:o.guard=none) (s:Operand)
 (ho:o.op=.call { callee:=.builtin .clear,args:=#[s],argTypes:=#[22] }) (b g off n F cap:Nat) (ws:List Int) (J:w.ownsRow b 3 1 (.slice (some ⟨g,0,none⟩) ws.length cap) ws.length (b8 ws))
 (hs:a.eval s=.slice (some ⟨g,off,none⟩) n F) (hn:0<n) (ad:off+n<=ws.length)
 (h:∀w',w.grownBy w' (some g)->w'.ownsRow b 3 1 (.slice (some ⟨g,0,none⟩) ws.length cap) (mx ws off (replicate n 0)).length (b8 (mx ws off (replicate n 0)))->K (a.put o.dst (.tuple #[])) w'):
 if Region.wanted o (yielded ops a.tmps)=true then Oper.wp prog o a w K Q else E:=by
 have hw:Region.wanted o (yielded ops a.tmps)=true:=by simp [Region.wanted,V]
 rw [if_pos hw];obtain ⟨ae,N,hB,hc,hm,Z,hx,D⟩:=zso J;have Y:∀j,j<n->∃x,ws[off+j]? =some x:=fun j A=>⟨ws[off+j]'(by omega),getElem?_eq_getElem (by omega)⟩;have L:=Lib.run_clear_slice (P:=prog) w 22 3 o.type (.i 0) underlying22 xh rfl rfl g off n F hn (fun j A=>by
  obtain ⟨x,aa⟩:=Y j A;rw [D (off+j) (.i x) (by rw [zsq,aa];rfl)];rfl) (fun j _=>pq N (off+j))
 unfold Oper.wp;simp [execOp,ho,resolve,invoke,builtin,hs,L,Result.andThen];have G:(mx ws off (replicate n 0)).length=ws.length:=C5 (by rw [length_replicate];omega);refine h _ (zsk _ _ (grownBy.refl _ _)) ?_;rw [G];obtain ⟨ac,O,X⟩:=zsl (replicate n (.i 0)) off N;refine zsn O hB (by rw [X,Z]) hc hm (by rw [vi,G]) fun j v A=>?_;rw [zss N off _ (by rw [length_replicate];omega) j,length_replicate];rw [zsq]at A;have af:j<ws.length:=by
  rcases Nat.lt_or_ge j ws.length with q | q
  ·exact q
  rw [getElem?_eq_none (by rw [G];exact q)]at A;cases A
 have e1:(ws.take off).length=off:=by simp;omega
 by_cases I:off<=j/\j<off+n
 ·rw [if_pos I];unfold mx at A;rw [getElem?_append_right (by omega),e1,getElem?_append_left (by rw [length_replicate];omega),getElem?_replicate,if_pos (by omega)]at A;rw [getElem?_replicate,if_pos (by omega)];exact A
 rw [if_neg I];unfold mx at A;have W:(ws[j]?).map (fun x=>Value.int .i64 x)=some v:=by
  rcases Nat.lt_or_ge j off with q | q
  ·rw [getElem?_append_left (by omega),getElem?_take_of_lt q]at A;exact A
  rw [getElem?_append_right (by omega),e1,getElem?_append_right (by rw [length_replicate];omega),length_replicate,getElem?_drop,show off+n+(j - off - n)=j by omega]at A;exact A
 exact D j v (by rw [zsq];exact W)
theorem zwe (o:qd b B w T nW nO nR kC kS kF kN kT h rs d) (hy:1<=h.ae/\h.ae<=1000000) (h5:h.ae+1<=h.ab.length):
 Calls prog 142 #[.p T] w fun r w'=>r=.returned (.tuple #[])/\qd b B w' T nW (.nl) nR kC kS kF kN kT (rq h) rs d/\Below b w w':=by
 obtain ⟨D,E,af,an⟩:∃D E,nW=.slice (some ⟨D,0,none⟩) h.ab.length E/\h.ab.length<=E:=by
  rcases o.rW.2 with ⟨e,h0⟩ | ⟨g,cap,al,e,-,-,hc,-⟩
  ·omega
  exact ⟨g,cap,e,hc⟩
 subst af;obtain ⟨aO,cO,ac⟩:=ku o.rO;subst ac;obtain ⟨aR,cR,ad⟩:=ku o.rR;subst ad;obtain ⟨aC,cC,aS,cS,aF,cF,aN,cN,aT,cT,rfl,rfl,rfl,rfl,rfl⟩:=o.lk.agg;have HO:=aj (o.below (br _ _).drew);have lT:=bz o.blk;have nT:¬T=D:=fun e=>qr o.sep (i:=0) (j:=1) (by decide) rfl (by rw [e];rfl);have a0:=bg o.blk 0 (x:=.slice (some ⟨D,0,none⟩) h.ab.length E) rfl;have a1:=bg o.blk 1 (x:=.i h.ae) rfl;have au:∀V,(Instr.slice 22 (.slice (some ⟨D,0,none⟩) h.ab.length E) (some (.i 1)) (some (.i (h.ae+1))) none).run prog V=.ok (.slice (some ⟨D,1,none⟩) h.ae.toNat (E - 1)) V:=fun V=>by rw [run_slice_lh V 22 _ _ _ underlying22 .i64 .i64 1 (h.ae+1) (by omega) (by omega) (by omega)];show Result.ok (sliced (some ⟨D,0,none⟩) 1 (h.ae+1).toNat E 1) V=_;unfold sliced;rw [if_neg (by omega),Option.map_some,zd,Nat.mul_one,Nat.zero_add,show (h.ae+1).toNat - 1=h.ae.toNat by omega]
 have w1:IntKind.i64.wrap (h.ae+1)=h.ae+1:=by rw [IntKind.wrap_i64];omega
 clear o;go_enter func142,ntmps142;go_wp2_with fail;refine wp_region_held_drew (S:=fun W'=>∀p:Addr,p.block<w.heap.size->p.block≠D->W'.cell? p=w.cell? p) (by kernel_rfl) (fun p hp _=>rfl) fun A=>?_;refine ta 0 (.p T) rfl A ?_;refine ta 1 (.p T) rfl A ?_;refine ta 2 (.p T) rfl A ?_;refine ta 3 (.p T) rfl A ?_;refine ta 4 (.p T) rfl A ?_;refine ta 5 (.slice (some ⟨D,0,none⟩) h.ab.length E) rfl A ?_;refine ta 6 (.p T) rfl A ?_;refine ta 7 (.p T) rfl A ?_;refine ta 8 (.p T) rfl A ?_;refine ta 9 (.p T) rfl A ?_;refine ta 10 (.pointer (some ⟨T,1,none⟩)) rfl A ?_;refine ta 11 (.i h.ae) rfl A ?_;refine ta 12 (.i (h.ae+1)) rfl A ?_;refine ta 13 (.slice (some ⟨D,1,none⟩) h.ae.toNat (E - 1)) rfl A ?_;refine wpAnyH_ready (rs:=[14]) (by kernel_rfl) (by simp) ?_;refine AllReadyH.cons rfl (fun ak O=>?_) AllReadyH.nil;refine zwd rfl (.tmp 15) rfl b D 1 h.ae.toNat (E - 1) E h.ab HO.o.rW (by go_simp) (by omega) (by omega) ?_;intro w4 L Z;refine O.o _ _ (fun p hp ah=>cell?_of_block (a:=p) (L.block p.block hp (fun e=>ah (ojq e)))) fun A=>?_;refine wpAnyH_done (by kernel_rfl) ?_ _;clear A;try simp only [Act.put,p1q,p4q,p3q,p2q,p5q,p6q]
 obtain ⟨J,W⟩:=HO.o.ab (k:=D) rfl L Z;have I:Below b w w4:=(br b w).drew.trans W;have ai:=aj J;have aa:=aj I;have s3:=bg J.blk 3 (x:=.i h.bk) rfl;have s5:=bg J.blk 5 (x:=.slice aO h.ap.length cO) rfl;have sz:=fun j=>pq J.blk j;have l4:=bz J.blk;obtain ⟨N,F⟩:∃N,N=w4.setCell ⟨T,3,none⟩ (.i 1):=⟨_,rfl⟩;have X:w4.grownBy N (some T):=F ▸ pi (grownBy.refl _ _) _ _ (inl rfl);have k5:N.heap[T]? =some (.cells #[.slice (some ⟨D,0,none⟩) h.ab.length E,.i h.ae,.i h.old,.i 1,.i h.be,.slice aO h.ap.length cO,.i h.next,.slice aC d.am.length cC,.slice aS d.bj.length cS,.slice aF d.fields.length cF,.slice aN d.names.length cN,.slice aT d.ba.length cT,.slice aR rs.length cR] 131 (0,0)):=F ▸ s9 J.blk _;have u5:=bg k5 5 (x:=.slice aO h.ap.length cO) rfl;have uz:=fun j=>pq k5 j;have l5:=bz k5;obtain ⟨W6,G⟩:∃W6,W6=N.setCell ⟨T,5,none⟩ (.nl):=⟨_,rfl⟩;have Y:w4.grownBy W6 (some T):=G ▸ pi X _ _ (inl rfl);have k6:W6.heap[T]? =some (.cells #[.slice (some ⟨D,0,none⟩) h.ab.length E,.i h.ae,.i h.old,.i 1,.i h.be,.nl,.i h.next,.slice aC d.am.length cC,.slice aS d.bj.length cS,.slice aF d.fields.length cF,.slice aN d.names.length cN,.slice aT d.ba.length cT,.slice aR rs.length cR] 131 (0,0)):=G ▸ s9 k5 _;have HF:=aj (J.task (h':=rq h) (nO':=.nl) Y k6 rfl (ownsRow_nil _ _ _ _) (inr rfl));have H5:=aj F;have H6:=aj G;clear J W L Z I X k5 Y k6 F G a0 a1 HO;go_wp2_with fail;rw [<-H5.o];go_wp2_with fail;rw [<-H6.o];go_end0;exact ⟨rfl,HF.o.1,aa.o.trans HF.o.2⟩
theorem zwf:∀(l:List Int) (s:ge),(s.tos l).length=l.length
 | [],_=>rfl
 | v::l,s=>by rw [ge.tos,length_cons,length_cons,zwf l]
theorem zwg:∀(l:List Int) (s:ge) (v:Int),s.tos (l++ [v])=s.tos l++ [(s.roots l).dst v]
 | [],_,_=>rfl
 | u::l,s,v=>by rw [cons_append,ge.tos,ge.tos,zwg l,cons_append];rfl
theorem zwh (A:k<l.length):s.roots (l.take (k+1))=(s.roots (l.take k)).lead l[k]:=by unfold ge.roots;rw [take_succ_eq_append_getElem A,foldl_append];rfl
theorem zwi (A:k<l.length):s.ap fs (l.take (k+1))=(s.ap fs (l.take k)).refs (refsOf fs (bp (s.ap fs (l.take k)).h.ab l[k])):=by unfold ge.ap;rw [take_succ_eq_append_getElem A,foldl_append];rfl
def oo (s:ge) (rs:List Int) (k:Nat):List Int:=s.tos (rs.take k)++rs.drop k
theorem zwj:(oo s rs k).length=rs.length:=by unfold oo;rw [length_append,zwf,length_take,length_drop];omega
theorem zwk (A:k<rs.length):(oo s rs k)[k]'(by rw [zwj];exact A)=rs[k]:=by
 have e:(oo s rs k)[k]? =some rs[k]:=by
  unfold oo;have D:(s.tos (rs.take k)).length=k:=by rw [zwf,length_take];omega
  rw [getElem?_append_right (by omega),D,Nat.sub_self,getElem?_drop,Nat.add_zero,getElem?_eq_getElem A]
 rw [getElem?_eq_getElem (by rw [zwj];exact A)]at e;exact ojq e
theorem zwl (A:k<rs.length):(oo s rs k).set k ((s.roots (rs.take k)).dst rs[k])=oo s rs (k+1):=by
 unfold oo;have D:(s.tos (rs.take k)).length=k:=by rw [zwf,length_take];omega
 rw [take_succ_eq_append_getElem A,zwg,set_append_right _ _ (by omega),D,Nat.sub_self,drop_eq_getElem_cons A,p4q,append_assoc];rfl
theorem zwm (h:s.mv.length<=i):ge.gone fs f i s=s:=by
 cases f with
 | zero=>rfl
 | succ f=>rw [ge.gone,getElem?_eq_none h]
theorem zwn {p:Int×bq} (h:s.mv[i]? =some p):ge.gone fs (f+1) i s=ge.gone fs f (i+1) (s.refs (refsOf fs p.2)):=by rw [ge.gone,h]
theorem wd_wf {ws:List Int} (h:∀x∈ws,(Lit.int .i64 x).wf=true) (a:Int):(Lit.int .i64 (wd ws a)).wf=true:=by
 unfold wd;cases hx:ws[a.toNat]? with
 | none=>decide
 | some x=>exact h x (mem_of_getElem? hx)
theorem jl.canAt {d:ax} {h0:ar} {ts:List bq} {s:ge} {dn:Int->Prop} (r:Right d h0 ts) (A:0<=leftD h0) (V:∀x∈h0.ab,(Lit.int .i64 x).wf=true) {l:List Int} (x:jl d h0 ts s dn) (D:l.Nodup) (h:∀a∈l,¬dn a/\h0.ae<a/\a<s.h.be/\cq ts (wd h0.ab (jk s.mv a))=true) (k:Nat) (F:k<l.length):
 D1 d (s.refs (l.take k)) s.h l[k]:=by
 obtain ⟨y,G,I,J⟩:=x.refsAt r A D h k F;obtain ⟨-,Z⟩:=jl.refs r A (l.take k) s dn x (D.sublist (take_sublist _ _)) fun a N=>h a (mem_of_mem_take N);obtain ⟨L,W,X,Y⟩:=h l[k] (gm F);have E:l[k]∉l.take k:=by intro O;obtain ⟨j,hj,e⟩:=mem_take_iff_getElem.1 O;have:=(getElem_inj (xs:=l) D).1 e;omega
 have e:=y.B1 l[k] I J (by rintro (h | h);exact L h;exact E h);have hc:=y.count r A;have z1:=r.sized.ae;have z2:=r.sized.old;have z3:=r.sized.len;exact ⟨by rw [e];exact wd_wf V _,y.can r A G,I,by rw [y.len];exact J,y.len.trans x.len.symm,y.no.trans x.no.symm,by omega,(y.lead r A G).1.len.trans y.len.symm⟩
theorem F0 {d:ax} {h:ar} {ts:List bq} (r:Right d h ts) {n:Int} (D:n∈h.ap):∃t∈ts,t.loc=n/\h.ae<n:=by
 have h1:=any_eq_false.1 r.note n D;unfold ib at h1;cases hp:mw ts n with
 | none=>rw [hp]at h1;simp at h1
 | some t=>
   obtain ⟨E,F⟩:=Fr ts hp;refine ⟨t,E,F,?_⟩;by_cases A:h.ae<n
   ·exact A
   simp [hp,A]at h1
theorem zwp {d:ax} {h:ar} {ts:List bq} (r:Right d h ts):h.ap.Nodup:=by have h1:=zti.1 ((zka _).1 r.rise);exact h1.imp fun h e=>by omega
theorem Mo.tsk {b B T M X:Nat} {w:World} {L I J N A F D E G:Value} {h:ar} {m g:List (Int×bq)} {rs:List Int} {d:ax} (o:Mo b B w T M X L I J N A F D E G h m g rs d):qd b B w T L I J A F D E G h rs d:=
 ⟨o.blk,o.rW,o.rO,o.rR,o.lk,o.le,o.bT,Pairwise.sublist (by
  refine Sublist.cons_cons _ (Sublist.cons _ (Sublist.cons _ (Sublist.cons_cons _ (Sublist.cons_cons _ (Sublist.cons_cons _ (Sublist.cons _ Sublist.slnil))))))) o.sep⟩
theorem qd.mo {b B T:Nat} {w:World} {J G I N X O V Y:Value} {h:ar} {rs:List Int} {d:ax} (o:qd b B w T J G I N X O V Y h rs d) (W:World) (F:W=(w.alloc (.map #[] 0)).alloc (.cells #[.p T,.map (some w.heap.size),.nl] 196)):
 Mo b B W T (w.heap.size+1) w.heap.size J G I (.nl) N X O V Y h [] [] rs d/\Bl w W:=by
 have L:Bl w W:=F ▸ ((br _ _).alloc (nlq _) _).alloc (by simp) _;have E:=o.below L;have lT:=bz o.blk;have Z:W.heap[w.heap.size+1]? =some (.cells #[.p T,.map (some w.heap.size),.nl] 196 (0,0)):=by have:=heap_alloc_new (w.alloc (.map #[] 0)) (.cells #[.p T,.map (some w.heap.size),.nl] 196);rw [<-F]at this;simpa using this
 have hp:j9 W w.heap.size []:=by have h1:=(ownsMap_made (H:=Unit) w prog 3 (plainElem prog 3)).alloc (.cells #[.p T,.map (some w.heap.size),.nl] 196);rw [<-F]at h1;exact ⟨.map [],h1,zvf⟩
 refine ⟨⟨E.blk,Z,E.rW,E.rO,E.rR,ownsRow_nil _ _ _ _,hp,E.lk,o.le,o.bT,by have:=o.bT;omega,by have:=o.bT;omega,?_⟩,L⟩;have D:=o.sep;have q1:∀k,J.ownBlock=some k->k<w.heap.size:=fun k e=>(o.rW.lt k e).2;have q2:∀k,G.ownBlock=some k->k<w.heap.size:=fun k e=>(o.rO.lt k e).2;have q3:∀k,I.ownBlock=some k->k<w.heap.size:=fun k e=>(o.rR.lt k e).2;unfold sr at D ⊢;simp only [pairwise_cons,mem_cons,not_mem_nil,or_false,forall_eq_or_imp,forall_eq,Pairwise.nil,and_true,false_implies,implies_true]at D ⊢;refine ⟨⟨fun k e A=>by have:=ojq e;have:=ojq A;omega,fun k e A=>by have:=ojq e;have:=ojq A;omega,D.1.1,D.1.2.1,D.1.2.2,fun _ _ e=>(by cases e)⟩,⟨fun k e A=>by have:=ojq e;have:=ojq A;omega,fun k e A=>by have:=q1 k A;have:=ojq e;omega,fun k e A=>by have:=q2 k A;have:=ojq e;omega,fun k e A=>by have:=q3 k A;have:=ojq e;omega,fun _ _ e=>(by cases e)⟩,⟨fun k e A=>by have:=q1 k A;have:=ojq e;omega,fun k e A=>by have:=q2 k A;have:=ojq e;omega,fun k e A=>by have:=q3 k A;have:=ojq e;omega,fun _ _ e=>(by cases e)⟩,⟨D.2.1.1,D.2.1.2,fun _ _ e=>(by cases e)⟩,⟨D.2.2,fun _ _ e=>(by cases e)⟩,fun _ _ e=>(by cases e)⟩
theorem zwq (o:qd b B w T nW nO nR kC kS kF kN kT h rs d) (ts:List bq) (rt:Right d h ts) (hl:0<=leftD h) (hr:∀v∈rs,cq ts v=true) (hw:∀x∈h.ab,(Lit.int .i64 x).wf=true) (ck:∀x∈rs,(Lit.int .i64 x).wf=true) (d4:rs.length<=1000000):
 Calls prog 84 #[.p T] w fun r w'=>r=.returned (.tuple #[])/\qd b B w' T nW (.nl) nR kC kS kF kN kT (bw d h rs) (cb h rs) d/\Below b w w':=by
 have d3:=@run_makeMap prog;obtain ⟨aO,cO,dd⟩:=ku o.rO;subst dd;obtain ⟨aR,cR,df⟩:=ku o.rR;subst df;obtain ⟨aC,cC,aS,cS,aF,cF,aN,cN,aT,cT,rfl,rfl,rfl,rfl,rfl⟩:=o.lk.agg;obtain ⟨W0,a6⟩:∃W0,W0=(w.alloc (.map #[] 0)).alloc (.cells #[.p T,.map (some w.heap.size),.nl] 196):=⟨_,rfl⟩;obtain ⟨o0,b4⟩:=o.mo W0 a6;have z:=rt.sized;have z1:=z.ae;have z2:=z.old;have z3:=z.len;have z5:=z.be;have az:h.ap.length<=1000000:=(zl1 rt.err rt.both hw).2.2;have c6:b<=w.heap.size:=by have:=o.bT;have:=bz o.blk;omega
 have bx:=aj o0;have cp:Hid (Below b w W0):=b4.mono c6;have cs:=aj a6;have A:=aj (And.intro rt hl);have HR:=aj (And.intro hr ck);have HW:=aj hw;have cy:Hid (jl d h ts (ge.mk h []) (fun _=>False)):=zus;have bc:=aj (fun k=>jl.roots rt hl (rs.take k) (ge.mk h []) _ zus (fun v hv=>hr v (mem_of_mem_take hv)));have lT:=bz o0.blk;have b2:=bg o0.blk 12 (x:=.slice aR rs.length cR) rfl;have aL:=b2;rw [a6]at aL;clear o o0 b4 a6 rt hl hr ck hw z;go_enter func84,ntmps84;go_wp2_with fail;rw [<-cs.o];go_loopw [19] (fun i wr=>∃(k:Nat) (Z:Value),i=.i k/\k<=rs.length/\Hid (Mo b B wr T (w.heap.size+1) w.heap.size nW (.slice aO h.ap.length cO) (.slice aR rs.length cR) Z (.slice aC d.am.length cC) (.slice aS d.bj.length cS) (.slice aF d.fields.length cF) (.slice aN d.names.length cN) (.slice aT d.ba.length cT) ((ge.mk h []).roots (rs.take k)).h ((ge.mk h []).roots (rs.take k)).mv ((ge.mk h []).roots (rs.take k)).mv (oo (ge.mk h []) rs k) d/\Below b w wr)) (fun i _=>rs.length - (intOf i).toNat)
 case atStart=>exact ⟨0,_,rfl,n0q _,bx.o,cp.o⟩
 case round=>
  obtain ⟨k,Z,rfl,hk,I⟩:=hrel;by_cases ac:k<rs.length
  ·have D:=I.o.1;obtain ⟨xk,xe⟩:=bc.o k;have ak:=zwj (ge.mk h []) rs k;have cf:=zwk (ge.mk h []) rs k ac;have ci:=zwl (ge.mk h []) rs k ac;have cj:=zwh (ge.mk h []) rs k ac;have E:=xk.can A.o.1 A.o.2 (HR.o.1 rs[k] (gm ac));have b6:=xk.count A.o.1 A.o.2;have cc:=xk.len;have V:=xk.no;have cm:=HR.o.2 rs[k] (gm ac);obtain ⟨gR,c8⟩:∃gR,aR=some ⟨gR,0,none⟩:=by
    rcases D.rR.2 with ⟨e,h0⟩ | ⟨g,cap,dk,e,-⟩
    ·omega
    injection e with e1;exact ⟨g,e1⟩
   subst c8;have av:k<(oo (ge.mk h []) rs k).length:=by omega
   have bm:=D.rR;rw [ak]at bm;have b0:=aj ak;have xv:=(bm.cellAt k (by rw [Nat.mul_one];exact ac)).trans (Dy av);rw [cf]at xv;generalize rs[k]=v at*;generalize hsk:(ge.mk h []).roots (rs.take k)=sk at*;have bs:=aj (zvp wr.drew b B T (w.heap.size+1) w.heap.size _ _ _ _ _ _ _ _ _ sk (oo (ge.mk h []) rs k) d (D.below (br _ _).drew) v cm E (by omega) (by rw [V];exact az) (by omega));have co:=bg D.blk 12 (x:=.slice (some ⟨gR,0,none⟩) rs.length cR) rfl;have dg:=bz D.blk;have lR:=(D.rR.lt gR rfl).2;have cu:=aj av;have af:Hid ((ge.mk h []).roots (rs.take (k+1))=sk.lead v/\(oo (ge.mk h []) rs k).set k (sk.dst v)=oo (ge.mk h []) rs (k+1)):=⟨cj,ci⟩;generalize sk.dst v=tv at*;generalize sk.lead v=sl at*;clear D xk xe cf ci cj E cm hsk av ak bm;go_wp2_with fail;refine zrg (fun W'=>W'.cell? ⟨T,12,none⟩=some (.slice (some ⟨gR,0,none⟩) rs.length cR)) 9 (by kernel_rfl) co fun hH=>?_;refine qi 0 (.p T) rfl (by kernel_rfl) (by kernel_rfl) (fun _ _ _ h=>h) ?_ hH ?_
   ·intro w;go_simp
   refine qi 1 (.p T) rfl (by kernel_rfl) (by kernel_rfl) (fun _ _ _ h=>h) ?_ hH ?_
   ·intro w;go_simp
   refine qi 2 (.pointer (some ⟨T,12,none⟩)) rfl (by kernel_rfl) (by kernel_rfl) (fun _ _ _ h=>h) ?_ hH ?_
   ·intro w;go_simp
   refine B6 3 (.slice (some ⟨gR,0,none⟩) rs.length cR) rfl (by kernel_rfl) (by kernel_rfl) (by kernel_rfl) (fun _ _ _ h=>h) ?_ hH ?_
   ·intro w du;go_simp
   refine qi 4 (.i (k:Int)) rfl (by kernel_rfl) (by kernel_rfl) (fun _ _ _ h=>h) ?_ hH ?_
   ·intro w;go_simp
   refine qi 5 (.p (w.heap.size+1)) rfl (by kernel_rfl) (by kernel_rfl) (fun _ _ _ h=>h) ?_ hH ?_
   ·intro w;go_simp
   refine qi 6 (.i v) rfl (by kernel_rfl) (by kernel_rfl) (fun _ _ _ h=>h) ?_ hH ?_
   ·intro w;go_simp
   refine Ba (rs:=[7]) (by kernel_rfl) (by simp) ?_;refine lr.cons rfl (fun K7 c1=>?_) lr.nil;go_simp;refine bs.o.mono ?_;rintro r w5 ⟨rfl,b3,o5,ce⟩;have hH:w5.cell? ⟨T,12,none⟩=some (.slice (some ⟨gR,0,none⟩) rs.length cR):=bg o5.blk 12 rfl;refine c1.o _ _ (fun _ _=>hH) ?_;refine qi 8 (.pointer (some ⟨gR,k,none⟩)) rfl (by kernel_rfl) (by kernel_rfl) (fun _ _ _ h=>h) ?_ hH ?_
   ·intro w;go_simp
   have ai:=o5.rR;rw [b0.o]at ai;have x4:=(ai.cellAt k (by rw [Nat.mul_one];exact ac)).trans (Dy cu.o);have x5:=ai.frozenAt k;have x6:=(ai.lt gR rfl).2;refine Ba (rs:=[9]) (by kernel_rfl) (by simp) ?_;refine lr.cons rfl (fun K9 c2=>?_) lr.nil;go_simp;refine c2.o _ _ (fun h=>absurd rfl h) ?_;obtain ⟨w6,bn⟩:∃w6,w6=w5.setCell ⟨gR,k,none⟩ (.i tv):=⟨_,rfl⟩;rw [<-bn];refine zrf (by kernel_rfl) ?_ _;try simp only [Act.put,p1q,p4q,p3q,p2q,p5q,p6q]
   obtain ⟨r1,hg⟩:=ai.stored k (.i tv);rw [<-bn]at r1 hg;have HF:Hid (Mo b B w6 T (w.heap.size+1) w.heap.size nW (.slice aO h.ap.length cO) (.slice (some ⟨gR,0,none⟩) rs.length cR) b3 (.slice aC d.am.length cC) (.slice aS d.bj.length cS) (.slice aF d.fields.length cF) (.slice aN d.names.length cN) (.slice aT d.ba.length cT) ((ge.mk h []).roots (rs.take (k+1))).h ((ge.mk h []).roots (rs.take (k+1))).mv ((ge.mk h []).roots (rs.take (k+1))).mv (oo (ge.mk h []) rs (k+1)) d/\Below b w w6):=by obtain ⟨o6,c5⟩:=o5.rootsUp (k:=gR) (rs':=(oo (ge.mk h []) rs k).set k tv) rfl hg (by rw [length_set,b0.o,b8,map_set];exact r1);rw [af.o.1,<-af.o.2];exact ⟨o6,I.o.2.trans (((br b wr).drew.trans (mq.toBelow (I.o.1.below (br _ _).drew) ce (by have:=I.o.2.size;show b<=wr.heap.size;omega))).trans c5)⟩
   clear o5 ce ai x4 x5 x6 hH r1 hg bn bs co xv I;go_wp2_with fail;go_roundw
   case rel=>exact ⟨k+1,b3,by go_num,by omega,HF.o⟩
   case measure=>simp [intOf];omega
  obtain rfl:k=rs.length:=by omega
  have bh:=bc.o rs.length;have G:=I.o;have ak:oo (ge.mk h []) rs rs.length=cb h rs:=by unfold oo cb;rw [take_length,drop_length,append_nil]
  rw [take_length]at bh;rw [ak,take_length]at G;have a4:=aj G;have b1:=aj bh.1;have n5:=bg G.1.blk 5 (x:=.slice aO h.ap.length cO) rfl;have dg:=bz G.1.blk;have cr:Hid (ij d h rs=ge.gone d.fields h.ab.length 0 (ge.ap d.fields ((ge.mk h []).roots rs) h.ap)):=rfl;generalize (ge.mk h []).roots rs=s1 at*;obtain ⟨F,a2⟩:∃F,cb h rs=F:=⟨_,rfl⟩;rw [a2]at a4;have cv:=aj a2;clear a2;clear I bc G bh ak b2 bx cy;go_wp2_with fail;go_loopw [41] (fun i wr=>∃(k:Nat) (Z:Value),i=.i k/\k<=h.ap.length/\Hid (Mo b B wr T (w.heap.size+1) w.heap.size nW (.slice aO h.ap.length cO) (.slice aR rs.length cR) Z (.slice aC d.am.length cC) (.slice aS d.bj.length cS) (.slice aF d.fields.length cF) (.slice aN d.names.length cN) (.slice aT d.ba.length cT) (s1.ap d.fields (h.ap.take k)).h (s1.ap d.fields (h.ap.take k)).mv (s1.ap d.fields (h.ap.take k)).mv F d/\jl d h ts (s1.ap d.fields (h.ap.take k)) (Cu d.fields ts (h.ap.take k))/\Below b w wr)) (fun i _=>h.ap.length - (intOf i).toNat)
  case atStart=>exact ⟨0,Z,rfl,n0q _,a4.o.1,b1.o.iff fun a=>⟨False.elim,fun ⟨n,hn,_⟩=>by cases hn⟩,a4.o.2⟩
  case round=>
   obtain ⟨k,c0,rfl,hk,I⟩:=hrel;by_cases O:k<h.ap.length
   ·obtain ⟨D,J,aa⟩:=I.o;obtain ⟨t,ht,al,a8⟩:=F0 A.o.1 (gm O);have bk:t.loc∉h.ap.take k:=by
     rw [al];intro hm;obtain ⟨j,hj,e⟩:=mem_take_iff_getElem.1 hm;have:=(getElem_inj (xs:=h.ap) (zwp A.o.1)).1 e;omega
    have ad:∀n∈h.ap.take k,h.ae<n:=fun n hn=>by obtain ⟨_,_,_,q⟩:=F0 A.o.1 (mem_of_mem_take hn);exact q
    rw [<-al]at a8;obtain ⟨a3,ah⟩:=J.noteAt A.o.1 ad ht a8 bk;have hst:=J.noteStep A.o.1 A.o.2 ad ht a8 bk;have a0:=Bw A.o.1 ht a8;have X:=zwi d.fields s1 h.ap k O;have E:=fun j hj=>J.canAt A.o.1 A.o.2 HW.o (Fz d.fields t) ah j hj;have cc:=J.len;have V:=J.no;rw [<-al,a3]at X;rw [a3]at hst;have au:t.fin=t.loc+3+t.len:=rfl;have ds:=a0.2.2.2.1.lo;have av:k<(s1.ap d.fields (h.ap.take k)).h.ap.length:=by rw [V];exact O
    have bf:=D.rO;rw [V]at bf;obtain ⟨bl,off,c4,d0,xv⟩:=(rg bf az).atI k O;subst c4;obtain ⟨n,hn⟩:∃n:Nat,t.loc=(n:Int):=⟨t.loc.toNat,by omega⟩;rw [<-al,hn]at xv;rw [hn]at a3;generalize hsk:s1.ap d.fields (h.ap.take k)=sk at*;have a5:=aj (ze0 wr _ T _ _ _ _ _ _ _ sk.h d (D.gd (by omega) (by rw [V];exact az)) n (by omega));rw [a3]at a5;have Y:=aj (fun W (hW:Bl wr W)=>zvs W b B T (w.heap.size+1) w.heap.size _ _ _ _ _ _ _ _ _ sk F d (D.below hW) t a0.2.2.2.1 ⟨by omega,by omega⟩ (by omega) (by omega) (by rw [V];exact az) E);have cx:Hid (h.ap.take k++ [t.loc]=h.ap.take (k+1)):=by show _=_;rw [take_succ_eq_append_getElem O,al]
    have af:=aj X;have bd:=aj hst;have d5:=bz D.blk;unfold nw at a5 Y;clear D J ah hst a0 X E hsk bf bk ad av a3 al ht hn au;go_wp2_with fail;refine a5.o.mono ?_;rintro r w3 ⟨rfl,bi⟩;have a9:=aj bi;have bo:=aj (Y.o w3 bi);have L:=aj aa;clear bi a5 Y aa;go_wp2_with fail;refine bo.o.mono ?_;rintro r w4 ⟨rfl,an,o4,ay⟩;have HF:Hid (Mo b B w4 T (w.heap.size+1) w.heap.size nW (.slice (some ⟨bl,off,none⟩) h.ap.length cO) (.slice aR rs.length cR) an (.slice aC d.am.length cC) (.slice aS d.bj.length cS) (.slice aF d.fields.length cF) (.slice aN d.names.length cN) (.slice aT d.ba.length cT) (s1.ap d.fields (h.ap.take (k+1))).h (s1.ap d.fields (h.ap.take (k+1))).mv (s1.ap d.fields (h.ap.take (k+1))).mv F d/\jl d h ts (s1.ap d.fields (h.ap.take (k+1))) (Cu d.fields ts (h.ap.take (k+1)))/\Below b w w4):=by rw [af.o,<-cx.o];exact ⟨o4,bd.o.1,L.o.trans ((a9.o.mono (by have:=L.o.size;omega)).trans (mq.toBelow (I.o.1.below a9.o) ay (by have:=L.o.size;have:=a9.o.size;omega)))⟩
    clear o4 ay bo I xv;go_wp2_with fail;go_roundw
    case rel=>exact ⟨k+1,an,by go_num,by omega,HF.o⟩
    case measure=>simp [intOf];omega
   obtain rfl:k=h.ap.length:=by omega
   have G:=I.o;rw [take_length]at G;have bb:=aj G;generalize s1.ap d.fields h.ap=s2 at*;clear I G a4 b1 n5;go_wp2_with fail;go_loopw [7] (fun i wr=>∃(k:Nat) (Z:Value) (s:ge),i=.i k/\k<=s.mv.length/\k<=h.ab.length/\Hid (Mo b B wr T (w.heap.size+1) w.heap.size nW (.slice aO h.ap.length cO) (.slice aR rs.length cR) Z (.slice aC d.am.length cC) (.slice aS d.bj.length cS) (.slice aF d.fields.length cF) (.slice aN d.names.length cN) (.slice aT d.ba.length cT) s.h s.mv s.mv F d/\jl d h ts s (Bp d.fields ts h.ap k s.mv)/\ge.gone d.fields (h.ab.length - k) k s=ij d h rs/\Below b w wr)) (fun i _=>h.ab.length - (intOf i).toNat)
   case atStart=>exact ⟨0,c0,s2,rfl,n0q _,n0q _,bb.o.1,bb.o.2.1.iff fun a=>⟨inl,fun q=>q.elim id fun ⟨j,p,hj,_⟩=>by omega⟩,cr.o.symm,bb.o.2.2⟩
   case round=>
    obtain ⟨k,dl,s,rfl,d2,d1,I⟩:=hrel;obtain ⟨D,J,a7,aa⟩:=I.o;have b6:=J.count A.o.1 A.o.2;have cc:=J.len;have V:=J.no;obtain ⟨aG,cG,c9⟩:=ku D.rG;subst c9;have g2:=bg D.sd 2 (x:=.slice aG s.mv.length cG) rfl;have lM:=bz D.sd;by_cases aw:k<s.mv.length
    ·have ad:∀n∈h.ap,h.ae<n:=fun n hn=>by
      obtain ⟨_,_,_,q⟩:=F0 A.o.1 hn;exact q
     obtain ⟨p,a1⟩:∃p,s.mv[k]? =some p:=⟨_,getElem?_eq_getElem aw⟩;obtain ⟨N,au,ah⟩:=J.goneAt A.o.1 A.o.2 ad a1;have hst:=J.goneStep A.o.1 A.o.2 ad a1;have E:=fun j hj=>J.canAt A.o.1 A.o.2 HW.o (Fz d.fields p.2) ah j hj;have X:=zwn d.fields (h.ab.length - (k+1)) k s a1;rw [show h.ab.length - (k+1)+1=h.ab.length - k by omega,a7]at X;have ch:wr.ownsRow b 101 4 (.slice aG s.mv.length cG) (s.mv.map (·.2)).length (fy (s.mv.map (·.2))):=by rw [length_map];exact D.rG
     have ca:k<(s.mv.map (·.2)).length:=by rw [length_map];exact aw
     obtain ⟨bG,off,c3,dz,e0,e1,e2,e3⟩:=(zhn ch (by rw [length_map];omega)).atTh k ca;subst c3;have b7:(s.mv.map (·.2))[k]=p.2:=by rw [getElem_map];exact congrArg Prod.snd (ojq ((getElem?_eq_getElem aw).symm.trans a1))
     rw [b7]at e0 e1 e2 e3;have c7:p.2.fin=p.2.loc+3+p.2.len:=rfl;have f0:=N.lo;have f1:=N.loc;obtain ⟨x,cn⟩:∃x,p.2=x:=⟨_,rfl⟩;rw [cn]at c7 N au ah hst E X e0 e1 e2 e3 f0 f1;have Y:=aj (zvs wr b B T (w.heap.size+1) w.heap.size _ _ _ _ _ _ _ _ _ s F d D x N ⟨by omega,by omega⟩ (by omega) (by omega) (by rw [V];exact az) E);have af:=aj X;have bd:=aj hst;have L:=aj aa;have dj:s.mv.length<=(s.refs (refsOf d.fields x)).mv.length:=by obtain ⟨⟨e,he⟩,-⟩:=hst.2;rw [he,length_append];omega
     unfold nw at Y;clear D J a7 aa ad a1 ah hst E X ch ca b7 N cn;go_wp2_with fail;refine Y.o.mono ?_;rintro r w4 ⟨rfl,an,o4,ay⟩;have HF:Hid (Mo b B w4 T (w.heap.size+1) w.heap.size nW (.slice aO h.ap.length cO) (.slice aR rs.length cR) an (.slice aC d.am.length cC) (.slice aS d.bj.length cS) (.slice aF d.fields.length cF) (.slice aN d.names.length cN) (.slice aT d.ba.length cT) (s.refs (refsOf d.fields x)).h (s.refs (refsOf d.fields x)).mv (s.refs (refsOf d.fields x)).mv F d/\jl d h ts (s.refs (refsOf d.fields x)) (Bp d.fields ts h.ap (k+1) (s.refs (refsOf d.fields x)).mv)/\ge.gone d.fields (h.ab.length - (k+1)) (k+1) (s.refs (refsOf d.fields x))=ij d h rs/\Below b w w4):=
      ⟨o4,bd.o.1,af.o.symm,L.o.trans (mq.toBelow I.o.1 ay (by have:=L.o.size;omega))⟩
     clear o4 ay Y I e0 e1 e2 e3 g2;go_wp2_with fail;go_roundw
     case rel=>exact ⟨k+1,an,_,by go_num,by omega,by omega,HF.o⟩
     case measure=>simp [intOf];omega
    have b9:s=ij d h rs:=by rw [<-a7];exact (zwm _ _ _ _ (by omega)).symm
    have bu:=aj (zwe wr b B T _ _ _ _ _ _ _ _ s.h F d D.tsk (by rw [J.yo];omega) (by rw [J.yo,J.len];omega));have ct:=aj b9;have L:=aj aa;clear D J a7 aa I b9;go_wp2_with fail;refine bu.o.mono ?_;rintro r w4 ⟨rfl,o4,b5⟩;have HF:Hid (qd b B w4 T nW (.nl) (.slice aR rs.length cR) (.slice aC d.am.length cC) (.slice aS d.bj.length cS) (.slice aF d.fields.length cF) (.slice aN d.names.length cN) (.slice aT d.ba.length cT) (bw d h rs) F d/\Below b w w4):=by unfold bw;rw [<-ct.o];exact ⟨o4,L.o.trans b5⟩
    clear o4 b5 bu;go_wp2_with fail;go_end0;exact ⟨rfl,by rw [cv.o];exact HF.o.1,HF.o.2⟩
end Go.Proofs.YtjdnmblggdobgaaGreat
