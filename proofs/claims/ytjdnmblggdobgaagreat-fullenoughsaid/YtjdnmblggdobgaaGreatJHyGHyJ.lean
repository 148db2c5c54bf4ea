import Derived.Test.YtjdnmblggdobgaaGreatJHyDHyF
set_option maxHeartbeats 8000000
set_option maxRecDepth 100000
namespace Go.Proofs.YtjdnmblggdobgaaGreat
open Go.RowKit Go.Maps Tryz
theorem Mo.lts {b B T M X:Nat} {w:World} {F D E A G L I J N:Value} {h:ar} {m g:List (Int×bk)} {rs:List Int} {d:bd} (o:Mo b B w T M X F D E A G L I J N h m g rs d):T<w.heap.size/\M<w.heap.size/\X<w.heap.size/\(∀k,F.ownBlock=some k->k<w.heap.size)/\(∀k,D.ownBlock=some k->k<w.heap.size)/\(∀k,E.ownBlock=some k->k<w.heap.size)/\(∀k,A.ownBlock=some k->k<w.heap.size):=
 ⟨bz o.blk,bz o.qz,o.mp.lt,fun k e=>(o.rW.lt k e).2,fun k e=>(o.rO.lt k e).2,fun k e=>(o.rR.lt k e).2,fun k e=>(o.rG.lt k e).2⟩
theorem Mo.other {b B T M X:Nat} {w w':World} {G E F D J O L N V:Value} {h:ar} {m g:List (Int×bk)} {rs:List Int} {d:bd} (o:Mo b B w T M X G E F D J O L N V h m g rs d) {k:Nat} (A:w.grownBy w' (some k)) (I:b<=k) (W:T<k/\M<k/\X<k/\(∀j,G.ownBlock=some j->j<k)/\(∀j,E.ownBlock=some j->j<k)/\(∀j,F.ownBlock=some j->j<k)/\(∀j,D.ownBlock=some j->j<k)):Mo b B w' T M X G E F D J O L N V h m g rs d/\Below b w w':=by obtain ⟨n1,n2,n3,Y,Z,n6,n7⟩:=W;refine ⟨⟨(A.block T (bz o.blk) (fun e=>by have:=ojq e;omega)).trans o.blk,(A.block M (bz o.qz) (fun e=>by have:=ojq e;omega)).trans o.qz,o.rW.kept A (Or.inr fun e=>by have:=Y _ e;omega),o.rO.kept A (Or.inr fun e=>by have:=Z _ e;omega),o.rR.kept A (Or.inr fun e=>by have:=n6 _ e;omega),o.rG.kept A (Or.inr fun e=>by have:=n7 _ e;omega),o.mp.kept A (fun e=>by have:=ojq e;omega),o.lkUp A I,o.le,o.bT,o.bM,o.bX,o.sep⟩,(br b w).grown A (by have:=bz o.blk;have:=o.bT;omega) (fun j e=>by cases e;exact I)⟩
theorem zvv (w:World) (b B T M X:Nat) (nW nO nR gv kC kS kF kN kT:Value) (h:ar) (mv:List (Int×bk)) (rs:List Int) (d:bd) (o:Mo b B w T M X nW nO nR gv kC kS kF kN kT h mv mv rs d) (t:bk) (hf:pm d t) (h1:1<=t.loc) (h2:t.fin<=h.ae+1) (h3:h.ba+3+t.len<=h.ab.length) (h4:h.ae<h.ba) (h5:h.ab.length<=1000000) (h6:mv.length<=1000000):
 Calls prog 190 #[.p M,nb t] w fun r w'=>r=.returned (.i h.ba)/\(∃gv',Mo b B w' T M X nW nO nR gv' kC kS kF kN kT (Bt h t) (mv++ [(t.loc,(⟨h.ba,t.tag,t.len,t.hash⟩:bk))]) (mv++ [(t.loc,(⟨h.ba,t.tag,t.len,t.hash⟩:bk))]) rs d/\j7 w.heap.size T M X nW gv w gv' w'):=by
 obtain ⟨iT,c4,cm,cn,co⟩:=info_parts tm;have bb:t.fin=t.loc+3+t.len:=rfl;have ec:=hf.lo;obtain ⟨F,N,c8,eb⟩:∃F N,nW=.slice (some ⟨F,0,none⟩) h.ab.length N/\h.ab.length<=N:=by
  rcases o.rW.2 with ⟨e,h0⟩ | ⟨g,cap,ea,e,-,-,hc,-⟩
  ·omega
  exact ⟨g,cap,e,hc⟩
 subst c8;obtain ⟨aO,cO,c6⟩:=kq o.rO;subst c6;obtain ⟨aR,cR,c7⟩:=kq o.rR;subst c7;obtain ⟨O,Y,c5⟩:=kq o.rG;subst c5;obtain ⟨aC,cC,aS,cS,aF,cF,aN,cN,aT,cT,rfl,rfl,rfl,rfl,rfl⟩:=o.lk.agg;have ac:=o.lts;have cu:Hid (∀k,(.slice O mv.length Y:Value).ownBlock=some k->k<w.heap.size):=ac.2.2.2.2.2.2;have ch:b<=w.heap.size:=by have:=o.bT;omega
 have bo:=ag ch;have a1:=ag ac;obtain ⟨W0,bi,bf,cl,kp⟩:=mi w #[.i t.loc,.i t.tag,.i t.len,.i t.hash] 101;have o0:=o.below bf;have bu:=ag o0;have cr:Hid (j7 w.heap.size T M X (.slice (some ⟨F,0,none⟩) h.ab.length N) (.slice O mv.length Y) w (.slice O mv.length Y) W0):=j7.ofBelow bf;have ct:=ag bi;have cx:=ag kp;have d4:=ag cl;have lM:=bz o0.qz;have lT:=bz o0.blk;have lP:=bz kp;have m0:=bp o0.qz 0 (x:=.p T) rfl;have m1:=bp o0.qz 1 (x:=.map (some X)) rfl;have m2:=bp o0.qz 2 (x:=.slice O mv.length Y) rfl;have a0:=bp o0.blk 0 (x:=.slice (some ⟨F,0,none⟩) h.ab.length N) rfl;have a4:=bp o0.blk 4 (x:=.i h.ba) rfl;have p0:=bp kp 0 (x:=.i t.loc) rfl;have p1:=bp kp 1 (x:=.i t.tag) rfl;have p2:=bp kp 2 (x:=.i t.len) rfl;have p3:=bp kp 3 (x:=.i t.hash) rfl;have bs:Hid (∀W,Calls prog 72 #[.agg #[.i t.loc,.i t.tag,.i t.len,.i t.hash]] W fun r w'=>r=.returned (.i (t.loc+3+t.len))/\Bl W w'):=fun W=>Ei W t (by unfold small;omega) (by unfold small;omega);have a6:Hid (∀W,Calls prog 72 #[.agg #[.i h.ba,.i t.tag,.i t.len,.i t.hash]] W fun r w'=>r=.returned (.i (h.ba+3+t.len))/\Bl W w'):=fun W=>Ei W ⟨h.ba,t.tag,t.len,t.hash⟩ (by show small h.ba;unfold small;omega) (by show small t.len;unfold small;omega);have r9:∀V,(Instr.slice 22 (.slice (some ⟨F,0,none⟩) h.ab.length N) (some (.i h.ba)) none none).run prog V=.ok (.slice (some ⟨F,h.ba.toNat,none⟩) (h.ab.length - h.ba.toNat) (N - h.ba.toNat)) V:=fun V=>by rw [run_slice_l V 22 _ _ _ underlying22 .i64 h.ba (by omega) (by omega)];show Result.ok (sliced (some ⟨F,0,none⟩) h.ba.toNat h.ab.length N 1) V=_;unfold sliced;rw [if_neg (by omega),Option.map_some,ua,Nat.mul_one,Nat.zero_add]
 have ei:∀V,(Instr.slice 22 (.slice (some ⟨F,0,none⟩) h.ab.length N) (some (.i t.loc)) (some (.i (t.loc+3+t.len))) none).run prog V=.ok (.slice (some ⟨F,t.loc.toNat,none⟩) (t.len+3).toNat (N - t.loc.toNat)) V:=fun V=>by rw [run_slice_lh V 22 _ _ _ underlying22 .i64 .i64 t.loc (t.loc+3+t.len) (by omega) (by omega) (by omega)];show Result.ok (sliced (some ⟨F,0,none⟩) t.loc.toNat (t.loc+3+t.len).toNat N 1) V=_;unfold sliced;rw [if_neg (by omega),Option.map_some,ua,Nat.mul_one,Nat.zero_add,show (t.loc+3+t.len).toNat - t.loc.toNat=(t.len+3).toNat by omega]
 have nM:¬M=F:=fun e=>pw o.sep (i:=1) (j:=3) (by decide) rfl (by rw [e];rfl);have nT:¬T=F:=fun e=>pw o.sep (i:=0) (j:=3) (by decide) rfl (by rw [e];rfl);have nP:¬w.heap.size=F:=fun e=>by have:=ac.2.2.2.1 F rfl;omega
 have nX:¬M=X:=fun e=>pw o.sep (i:=1) (j:=2) (by decide) rfl (by rw [e];rfl);have nY:¬w.heap.size=X:=fun e=>by have:=ac.2.2.1;omega
 have mL:=m0;have aL:=a4;rw [bi]at mL aL;unfold nb;rw [bb]at h2;clear bb bf bi kp o0 o cl ac bo;go_enter func190,ntmps190;go_wp2_with fail;rw [<-ct.o];refine wp_region_held_drew (S:=fun W'=>∀p:Addr,p.block<W0.heap.size->p.block≠F->W'.cell? p=W0.cell? p) (by kernel_rfl) (fun p hp _=>rfl) fun A=>?_;refine ta 0 (.p M) rfl A ?_;refine ta 1 (.p M) rfl A ?_;refine ta 2 (.p M) rfl A ?_;refine ta 3 (.p T) rfl A ?_;refine ta 4 (.p T) rfl A ?_;refine ta 5 (.p T) rfl A ?_;refine ta 6 (.p T) rfl A ?_;refine ta 7 (.slice (some ⟨F,0,none⟩) h.ab.length N) rfl A ?_;refine ta 8 (.i h.ba) rfl A ?_;refine ta 9 (.slice (some ⟨F,h.ba.toNat,none⟩) (h.ab.length - h.ba.toNat) (N - h.ba.toNat)) rfl A ?_;refine ta 10 (.p M) rfl A ?_;refine ta 11 (.p M) rfl A ?_;refine ta 12 (.p M) rfl A ?_;refine ta 13 (.p T) rfl A ?_;refine ta 14 (.p T) rfl A ?_;refine ta 15 (.p T) rfl A ?_;refine ta 16 (.p T) rfl A ?_;refine ta 17 (.slice (some ⟨F,0,none⟩) h.ab.length N) rfl A ?_;refine ta 18 (.p w.heap.size) rfl A ?_;refine ta 19 (.i t.loc) rfl A ?_;refine ta 20 (.agg #[.i t.loc,.i t.tag,.i t.len,.i t.hash]) rfl A ?_;refine wpAnyH_ready (rs:=[21]) (by kernel_rfl) (by simp) ?_;refine AllReadyH.cons rfl (fun d6 b6=>?_) AllReadyH.nil;go_simp;refine (bs.o _).mono ?_;rintro r w5 ⟨rfl,au⟩;have E:Bl W0 w5:=(br W0.heap.size W0).drew.trans au;refine b6.o _ _ (fun p hp _=>E.cell hp) fun A=>?_;refine ta 22 (.slice (some ⟨F,t.loc.toNat,none⟩) (t.len+3).toNat (N - t.loc.toNat)) rfl A ?_;refine wpAnyH_ready (rs:=[23]) (by kernel_rfl) (by simp) ?_;refine AllReadyH.cons rfl (fun d8 b7=>?_) AllReadyH.nil;have o5:=bu.o.below E;refine zvu rfl (.tmp 23) (.tmp 36) rfl b F h.ba.toNat t.loc.toNat (t.len+3).toNat (h.ab.length - h.ba.toNat) (N - h.ba.toNat) (N - t.loc.toNat) N h.ab o5.rW rfl rfl (by omega) (by omega) (by omega) ?_;intro w4 al ck;refine b7.o _ _ (fun p hp bl=>(World.cell?_of_block (a:=p) (al.block p.block (ll3 hp E.size) (fun e=>bl (ojq e)))).trans (E.cell hp)) fun A=>?_;refine wpAnyH_done (by kernel_rfl) ?_ _;clear A;try simp only [Act.put,p1q,p4q,p3q,p2q,p5q,p6q]
 obtain ⟨o4,c2⟩:=o5.ab (k:=F) rfl al ck;have c9:=al.size;have dd:=E.size;have ay:=(al.block w.heap.size (by omega) (fun e=>by have:=a1.o.2.2.2.1 F rfl;have:=ojq e;omega)).trans ((E.block _ lP).trans cx.o);have d3:=ag ay;have a9:j7 w.heap.size T M X (.slice (some ⟨F,0,none⟩) h.ab.length N) (.slice O mv.length Y) w (.slice O mv.length Y) w4:=cr.o.trans ((j7.ofBelow (E.mono (by omega))).trans (j7.ofGrown al (Or.inr (Or.inr (Or.inr (Or.inl rfl))))));have cs:=ag a9;have bm:=o4.below (br _ _).drew;have bx:=ag bm;have ef:=bz o4.qz;have de:=bz ay;have eg:=bp o4.qz 1 (x:=.map (some X)) rfl;have eh:=bp ay 0 (x:=.i t.loc) rfl;obtain ⟨D,aw,hD⟩:=bm.mp;have bc:keyOf prog 3 (.i t.loc)=some (jm t.loc):=keyOf_int_mk underlying3 (WalkArith.wf_i64 (by omega));obtain ⟨bn,du,ak,Z⟩:=World.ownsMap.update (w:=w4.drew) aw qc underlying194 (by unfold maxLen;omega) bc (plainElem_int (H:=Unit) underlying3 (a:=h.ba) (WalkArith.wf_i64 (by omega)));have cv:=ag Z;have cj:js bn X (mv++ [(t.loc,(⟨h.ba,t.tag,t.len,t.hash⟩:bk))]):=⟨_,by rw [List.length_append];exact ak,zvq hD (aw.tidy qc) (t.loc,(⟨h.ba,t.tag,t.len,t.hash⟩:bk))⟩;obtain ⟨cp,ca⟩:=bx.o.map Z cj;have ad:=(Z.block w.heap.size de (fun e=>by have:=a1.o.2.2.1;have:=ojq e;omega)).trans ay;have pp:=bp ad 0 (x:=.i t.loc) rfl;have pz:=pj ad 0;have pl:=bz ad;obtain ⟨G,ah⟩:∃G,G=bn.setCell ⟨w.heap.size,0,none⟩ (.i h.ba):=⟨_,rfl⟩;have av:bn.grownBy G (some w.heap.size):=ah ▸ ow (World.grownBy.refl _ _) _ _ (Or.inl rfl);have I:G.heap[w.heap.size]? =some (.cells #[.i h.ba,.i t.tag,.i t.len,.i t.hash] 101 (0,0)):=ah ▸ rr ad _;obtain ⟨an,cc⟩:=cp.other av ch a1.o;have a7:=ag an;have b1:=ag I;have b3:=ag ah;have ao:Hid (j7 w.heap.size T M X (.slice (some ⟨F,0,none⟩) h.ab.length N) (.slice O mv.length Y) w (.slice O mv.length Y) G):=cs.o.trans (((j7.ofBelow (br _ w4).drew).trans (j7.ofGrown Z (Or.inr (Or.inr (Or.inl rfl))))).trans (j7.ofGrown av (Or.inr (Or.inr (Or.inr (Or.inr (nlq _)))))));have n0:=bp an.qz 0 (x:=.p T) rfl;have n4:=bp an.blk 4 (x:=.i h.ba) rfl;have dz:=bz an.qz;have d2:=bz an.blk;have be:=bz I;have u0:=bp I 0 (x:=.i h.ba) rfl;have u1:=bp I 1 (x:=.i t.tag) rfl;have u2:=bp I 2 (x:=.i t.len) rfl;have u3:=bp I 3 (x:=.i t.hash) rfl;clear o4 c2 al ck o5 au E ay a9 bm aw hD bc ak Z cj cp ca ad av I an cc bx bu bs m0 m1 m2 a0 a4 p0 p1 p2 p3 ah c9 dd;go_wp2_with fail;refine wp_region_held_drew (S:=fun W'=>∀p:Addr,p.block<w4.heap.size->p.block≠X->W'.cell? p=w4.cell? p) (by kernel_rfl) (fun p hp _=>rfl) fun A=>?_;refine ta 0 (.p M) rfl A ?_;refine ta 1 (.p M) rfl A ?_;refine ta 2 (.pointer (some ⟨M,1,none⟩)) rfl A ?_;refine ta 3 (.map (some X)) rfl A ?_;refine ta 4 (.p w.heap.size) rfl A ?_;refine ta 5 (.i t.loc) rfl A ?_;refine ta 6 (.i h.ba) rfl A ?_;refine wpAnyH_ready (rs:=[7]) (by kernel_rfl) (by simp) ?_;refine AllReadyH.cons rfl (fun K7 bg=>?_) AllReadyH.nil;go_simp;refine bg.o _ _ (fun p hp bl=>World.cell?_of_block (a:=p) (cv.o.block p.block hp (fun e=>bl (ojq e)))) fun A=>?_;refine wpAnyH_done (by kernel_rfl) ?_ _;clear A;try simp only [Act.put,p1q,p4q,p3q,p2q,p5q,p6q]
 go_wp2_with fail;rw [<-b3.o];refine zrq (fun W'=>∀p:Addr,p.block<G.heap.size->W'.cell? p=G.cell? p) 9 (by kernel_rfl) (fun p hp=>rfl) fun A=>?_;refine pr 0 (.p M) rfl (by kernel_rfl) (by kernel_rfl) (fun _ _ _ h=>h) ?_ A ?_
 ·intro w;go_simp
 refine pr 1 (.p M) rfl (by kernel_rfl) (by kernel_rfl) (fun _ _ _ h=>h) ?_ A ?_
 ·intro w;go_simp
 refine pr 2 (.p M) rfl (by kernel_rfl) (by kernel_rfl) (fun _ _ _ h=>h) ?_ A ?_
 ·intro w;go_simp
 refine A9 3 (.p T) rfl (by kernel_rfl) (by kernel_rfl) (by kernel_rfl) (fun _ _ _ h=>h) ?_ A ?_
 ·intro w ap;go_simp
 refine A9 4 (.agg #[.i h.ba,.i t.tag,.i t.len,.i t.hash]) rfl (by kernel_rfl) (by kernel_rfl) (by kernel_rfl) (fun _ _ _ h=>h) ?_ A ?_
 ·intro w ap;go_simp
 refine Aj (rs:=[5]) (by kernel_rfl) (by simp) ?_;refine ku.cons rfl (fun K5 cy=>?_) ku.nil;go_simp;refine (a6.o _).mono ?_;rintro r w5 ⟨rfl,au⟩;have E:Bl G w5:=(br G.heap.size G).drew.trans au;have A:=fun (p:Addr) (hp:p.block<G.heap.size)=>E.cell hp;refine cy.o _ _ (fun _ _=>A) ?_;refine pr 6 (.p T) rfl (by kernel_rfl) (by kernel_rfl) (fun _ _ _ h=>h) ?_ A ?_
 ·intro w;go_simp
 refine pr 7 (.p T) rfl (by kernel_rfl) (by kernel_rfl) (fun _ _ _ h=>h) ?_ A ?_
 ·intro w;go_simp
 refine pr 8 (.pointer (some ⟨T,4,none⟩)) rfl (by kernel_rfl) (by kernel_rfl) (fun _ _ _ h=>h) ?_ A ?_
 ·intro w;go_simp
 have o5:=a7.o.below E;have x4:=bp o5.blk 4 (x:=.i h.ba) rfl;have x5:=pj o5.blk 4;have x6:=bz o5.blk;refine Aj (rs:=[9]) (by kernel_rfl) (by simp) ?_;refine ku.cons rfl (fun K9 c1=>?_) ku.nil;go_simp;refine c1.o _ _ (fun h=>absurd rfl h) ?_;obtain ⟨L,ai⟩:∃L,L=w5.setCell ⟨T,4,none⟩ (.i (h.ba+3+t.len)):=⟨_,rfl⟩;rw [<-ai];refine zrp (by kernel_rfl) ?_ _;try simp only [Act.put,p1q,p4q,p3q,p2q,p5q,p6q]
 have aa:w5.grownBy L (some T):=ai ▸ ow (World.grownBy.refl _ _) _ _ (Or.inl rfl);obtain ⟨a3,ce⟩:=o5.task (h':=Bt h t) (nO':=.slice aO h.am.length cO) aa (ai ▸ rr o5.blk _) rfl (o5.rO.kept aa (Or.inr fun e=>pw o5.sep (i:=0) (j:=4) (by decide) rfl (congrArg some e))) (Or.inl rfl);have J:=(aa.block w.heap.size (ll3 be E.size) (fun e=>by have:=a1.o.1;have:=ojq e;omega)).trans ((E.block _ be).trans b1.o);have a8:=ag J;have bv:=ag a3;have a5:Hid (j7 w.heap.size T M X (.slice (some ⟨F,0,none⟩) h.ab.length N) (.slice O mv.length Y) w (.slice O mv.length Y) L):=ao.o.trans ((j7.ofBelow (E.mono (by have:=ao.o.size;omega))).trans (j7.ofGrown aa (Or.inl rfl)));have b2:Hid (w.heap.size<=L.heap.size):=a5.o.size;have d0:=bz a3.qz;have d1:=bz J;have v2:=bp a3.qz 2 (x:=.slice O mv.length Y) rfl;have df:=bp J 0 (x:=.i h.ba) rfl;have dg:=bp J 1 (x:=.i t.tag) rfl;have dk:=bp J 2 (x:=.i t.len) rfl;have dl:=bp J 3 (x:=.i t.hash) rfl;clear aa a3 ce J o5 E au x4 x5 x6 ai a7 ao a6 A n0 n4 u0 u1 u2 u3;go_wp2_with fail;refine zrq (fun W'=>W'.cell? ⟨M,2,none⟩=some (.slice O mv.length Y)/\W'.cell? ⟨w.heap.size,0,none⟩=some (.i h.ba)/\W'.cell? ⟨w.heap.size,1,none⟩=some (.i t.tag)/\W'.cell? ⟨w.heap.size,2,none⟩=some (.i t.len)/\W'.cell? ⟨w.heap.size,3,none⟩=some (.i t.hash)) 10 (by kernel_rfl) ⟨v2,df,dg,dk,dl⟩ fun A=>?_;obtain ⟨V0,a2⟩:∃V0,V0=L.drew:=⟨_,rfl⟩;rw [<-a2]at A ⊢;have c3:Bl L V0:=a2 ▸ (br _ _).drew;have ee:V0.heap.size<=L.heap.size/\L.heap.size<=V0.heap.size:=by rw [a2];exact ⟨nlq _,nlq _⟩
 clear a2;refine pr 0 (.p M) rfl (by kernel_rfl) (by kernel_rfl) (fun _ _ _ h=>h) ?_ A ?_
 ·intro w;go_simp
 refine pr 1 (.p M) rfl (by kernel_rfl) (by kernel_rfl) (fun _ _ _ h=>h) ?_ A ?_
 ·intro w;go_simp
 refine pr 2 (.p M) rfl (by kernel_rfl) (by kernel_rfl) (fun _ _ _ h=>h) ?_ A ?_
 ·intro w;go_simp
 refine pr 3 (.pointer (some ⟨M,2,none⟩)) rfl (by kernel_rfl) (by kernel_rfl) (fun _ _ _ h=>h) ?_ A ?_
 ·intro w;go_simp
 refine A9 4 (.slice O mv.length Y) rfl (by kernel_rfl) (by kernel_rfl) (by kernel_rfl) (fun _ _ _ h=>h) ?_ A ?_
 ·intro w ap;obtain ⟨s0,s1,s2,s3,s4⟩:=ap;go_simp
 refine A9 5 (.agg #[.i h.ba,.i t.tag,.i t.len,.i t.hash]) rfl (by kernel_rfl) (by kernel_rfl) (by kernel_rfl) (fun _ _ _ h=>h) ?_ A ?_
 ·intro w ap;obtain ⟨s0,s1,s2,s3,s4⟩:=ap;go_simp
 refine Aj (rs:=[6]) (by kernel_rfl) (by simp) ?_;refine ku.cons rfl (fun K6 c0=>?_) ku.nil;go_simp;obtain ⟨V6,bh⟩:∃V6,V6=V0.alloc (.cells #[.i h.ba,.i t.tag,.i t.len,.i t.hash] 101):=⟨_,rfl⟩;rw [<-bh];have E:Bl L V6:=bh ▸ c3.alloc (by omega) _;have ci:V6.heap[V0.heap.size]? =some (.cells #[.i h.ba,.i t.tag,.i t.len,.i t.hash] 101 (0,0)):=bh ▸ heap_alloc_new V0 _;have af:=(E.block _ (bz a8.o)).trans a8.o;have o6:=bv.o.below E;have A:V6.cell? ⟨M,2,none⟩=some (.slice O mv.length Y)/\V6.cell? ⟨w.heap.size,0,none⟩=some (.i h.ba)/\V6.cell? ⟨w.heap.size,1,none⟩=some (.i t.tag)/\V6.cell? ⟨w.heap.size,2,none⟩=some (.i t.len)/\V6.cell? ⟨w.heap.size,3,none⟩=some (.i t.hash):=⟨bp o6.qz 2 rfl,bp af 0 rfl,bp af 1 rfl,bp af 2 rfl,bp af 3 rfl⟩;refine c0.o _ _ (fun _ _=>A) ?_;refine Aj (rs:=[7]) (by kernel_rfl) (by simp) ?_;refine ku.cons rfl (fun K7 bg=>?_) ku.nil;refine step_append_lies _ rfl (.tmp 60) (.tmp 62) 182 rfl b 101 iT (.agg #[.i 0,.i 0,.i 0,.i 0]) 4 32 underlying182 c4 cm cn co rfl (by decide) (.slice O mv.length Y) mv.length (fu (mv.map (·.2))) rfl o6.rG ⟨V0.heap.size,0,none⟩ 1 1 [.i h.ba,.i t.tag,.i t.len,.i t.hash] rfl rfl (World.news_of_block ci) (by intro u hu;simp at hu;rcases hu with rfl | rfl | rfl | rfl<;>rfl) (by decide) (by unfold maxLen;omega) (by omega) (by have:=o6.bT;have:=bz o6.blk;omega) _ rfl ?_;intro gA cA w9 ax aj b4 ds;have k9:w9.heap[M]? =some (.cells #[.p T,.map (some X),.slice O mv.length Y] 196 (0,0)):=(aj.block M (bz o6.qz) (fun e=>pw o6.sep (i:=1) (j:=6) (by decide) rfl (congrArg some e.symm))).trans o6.qz;have az:=(aj.block _ (bz af) (fun e=>by have:=cu.o _ e.symm;omega)).trans af;have A:w9.cell? ⟨M,2,none⟩=some (.slice O mv.length Y)/\w9.cell? ⟨w.heap.size,0,none⟩=some (.i h.ba)/\w9.cell? ⟨w.heap.size,1,none⟩=some (.i t.tag)/\w9.cell? ⟨w.heap.size,2,none⟩=some (.i t.len)/\w9.cell? ⟨w.heap.size,3,none⟩=some (.i t.hash):=⟨bp k9 2 rfl,bp az 0 rfl,bp az 1 rfl,bp az 2 rfl,bp az 3 rfl⟩;have x5:=pj k9 2;have x6:=bz k9;have x4:=bp k9 2 (x:=.slice O mv.length Y) rfl;obtain ⟨om,-,cf⟩:=o6.more (q:=(t.loc,(⟨h.ba,t.tag,t.len,t.hash⟩:bk))) aj ax (b4.imp id fun e=>by omega) rfl;have b0:=ag (And.intro om (a5.o.trans ((j7.ofBelow (E.mono b2.o)).trans (cf _ (by have:=E.size;have:=b2.o;omega)))));clear ci ax aj b4 om cf af az o6;refine bg.o _ _ (fun _ _=>A) ?_;refine pr 8 (.p M) rfl (by kernel_rfl) (by kernel_rfl) (fun _ _ _ h=>h) ?_ A ?_
 ·intro w;go_simp
 refine pr 9 (.pointer (some ⟨M,2,none⟩)) rfl (by kernel_rfl) (by kernel_rfl) (fun _ _ _ h=>h) ?_ A ?_
 ·intro w;go_simp
 refine Aj (rs:=[10]) (by kernel_rfl) (by simp) ?_;refine ku.cons rfl (fun d5 b5=>?_) ku.nil;go_simp;refine b5.o _ _ (fun h=>absurd rfl h) ?_;refine zrp (by kernel_rfl) ?_ _;try simp only [Act.put,p1q,p4q,p3q,p2q,p5q,p6q]
 go_wp2_with fail;go_ret;exact ⟨rfl,_,b0.o.1,b0.o.2⟩
theorem zvw {s:ga} {v:Int} (h:dm s.h v=false):s.lead v=s/\s.dst v=v:=by unfold ga.lead ga.dst;rw [h];exact ⟨rfl,rfl⟩
theorem zvx {s:ga} {v A:Int} (h:dm s.h v=true) (D:ij s.mv v=some A):s.lead v=s/\s.dst v=A:=by unfold ga.lead ga.dst;rw [h,D];exact ⟨rfl,rfl⟩
theorem zvy {s:ga} {v:Int} (h:dm s.h v=true) (A:ij s.mv v=none):s.lead v=s.move (bj s.h.ab v)/\s.dst v=s.h.ba:=by unfold ga.lead ga.dst;rw [h,A];exact ⟨rfl,rfl⟩
theorem zvz (w:World) (b B T M X:Nat) (nW nO nR gv kC kS kF kN kT:Value) (s:ga) (rs:List Int) (d:bd) (o:Mo b B w T M X nW nO nR gv kC kS kF kN kT s.h s.mv s.mv rs d) (v:Int) (hv:(Lit.int .i64 v).wf=true) (hc:dm s.h v=true->ij s.mv v=none->Can d s v) (h5:s.h.ab.length<=1000000) (h7:s.h.am.length<=1000000) (h6:s.mv.length<=1000000):
 Calls prog 139 #[.p M,.i v] w fun r w'=>r=.returned (.i (s.dst v))/\(∃gv',Mo b B w' T M X nW nO nR gv' kC kS kF kN kT (s.lead v).h (s.lead v).mv (s.lead v).mv rs d/\j7 w.heap.size T M X nW gv w gv' w'):=by
 have E:=ag (ze0 w _ T _ _ _ _ _ _ _ _ d (o.gd h5 h7) v);have HO:=ag o;have m0:=bp o.qz 0 (x:=.p T) rfl;have m1:=bp o.qz 1 (x:=.map (some X)) rfl;have lM:=bz o.qz;cases hy:dm s.h v with
 | false=>
   have J:=ag (zvw hy);rw [hy]at E;clear o hc hy;go_enter func139,ntmps139;go_wp2_with fail;refine E.o.mono ?_;rintro r _ ⟨rfl,rfl⟩;go_wp2_with fail;go_ret;exact ⟨by rw [J.o.2];rfl,gv,by rw [J.o.1];exact HO.o,j7.ofBelow (br _ _)⟩
 | true=>
   rw [hy]at E;obtain ⟨D,A,hD⟩:=o.mp;have G:keyOf prog 3 (.i v)=some (jm v):=keyOf_int_mk underlying3 hv;have HD:=ag hD;have HK:=ag G;cases hn:ij s.mv v with
   | some tt=>
     have J:=ag (zvx hy hn);have HN:=ag hn;clear o hc hy hn hD G;go_enter func139,ntmps139;go_wp2_with fail;refine E.o.mono ?_;rintro r _ ⟨rfl,rfl⟩;go_wp2_with (at_lookup;refine wpList_lookup_own_ok_int _ rfl _ _ 194 rfl 3 3 .i64 qc underlying194 underlying3 (ve _) X s.mv.length D rfl A _ _ rfl HK.o ?_);intro c I hw;have ad:c=tt:=by have e:=I;rw [HD.o.at_ v tt _ HN.o]at e;exact ((Lit.int.inj (DataW.lit.inj e)).2).symm
     rw [HD.o.has v,HN.o];subst ad;clear I hw A;go_wp2_with fail;go_ret;exact ⟨by rw [J.o.2];rfl,gv,by rw [J.o.1];exact HO.o,j7.ofBelow (br _ _)⟩
   | none=>
     have J:=ag (zvy hy hn);have HN:=ag hn;have F:=hc hy hn;have c1:=F.lo;have c2:=F.fin;have c3:=F.fit.lo;have c4:=F.room;have c5:=F.top;have c6:(bj s.h.ab v).fin=v+3+(bj s.h.ab v).len:=rfl;obtain ⟨n,rfl⟩:∃n:Nat,v=(n:Int):=⟨v.toNat,by omega⟩;have N:=ag (ze9 w _ T _ _ _ _ _ _ _ _ d (o.gd h5 h7) n (by omega));have L:=ag (fun W (hW:Bl w W)=>zvv W b B T M X _ _ _ _ _ _ _ _ _ s.h s.mv rs d (HO.o.below hW) (bj s.h.ab n) F.fit F.lo F.fin F.room F.top h5 h6);generalize htt:bj s.h.ab n=t at*;have aa:=ag htt;unfold nb at N L;clear o hc hy hn hD G F c1 c2 c3 c4 c5 c6 htt;go_enter func139,ntmps139;go_wp2_with fail;refine E.o.mono ?_;rintro r _ ⟨rfl,rfl⟩;go_wp2_with (at_lookup;refine wpList_lookup_own_ok_int _ rfl _ _ 194 rfl 3 3 .i64 qc underlying194 underlying3 (ve _) X s.mv.length D rfl A _ _ rfl HK.o ?_);intro c I hw;rw [HD.o.has (n:Int),HN.o];clear I hw A;go_wp2_with fail;refine N.o.mono ?_;rintro r w1 ⟨rfl,O⟩;have V:=ag O;have Y:=ag (L.o w1 O);clear O N L;go_wp2_with fail;refine Y.o.mono ?_;rintro r w2 ⟨rfl,ac,o2,Z⟩;have HF:=ag (And.intro o2 Z);clear o2 Z Y;go_wp2_with fail;go_ret;have ht:t.loc=(n:Int):=by rw [<-aa.o];rfl
     refine ⟨by rw [J.o.2];rfl,ac,?_,(j7.ofBelow V.o).trans (HF.o.2.mono V.o.size)⟩;rw [J.o.1];exact HF.o.1
theorem zv0 {L T M X B e n len:Nat} {I G E v:Value} {w w':World} {xs:List Value} (h:w.ownsRow B e n v len xs) (k:j7 L T M X I G w E w') (O:∀j,v.ownBlock=some j->j<w.heap.size->j<L/\j≠T/\j≠M/\j≠X/\I.ownBlock≠some j/\G.ownBlock≠some j):w'.ownsRow B e n v len xs:=by refine ⟨h.1,h.2.imp id ?_⟩;rintro ⟨g,cap,A,F,J,D,N⟩;have q:=O g (by rw [F];rfl) (bz D);exact ⟨g,cap,A,F,J,(k.block g q.1 (bz D) q.2.1 q.2.2.1 q.2.2.2.1 q.2.2.2.2.1 q.2.2.2.2.2).trans D,N⟩
theorem zv1 (s:ga) (l:List Int) (k:Nat) (A:k<l.length):s.refs (l.take (k+1))=(s.refs (l.take k)).ref l[k]:=by unfold ga.refs;rw [List.take_succ_eq_append_getElem A,List.foldl_append];rfl
structure Dw (d:bd) (s:ga) (h:ar) (a:Int):Prop where
 wf:(Lit.int .i64 (wd s.h.ab a)).wf=true
 can:dm s.h (wd s.h.ab a)=true->ij s.mv (wd s.h.ab a)=none->Can d s (wd s.h.ab a)
 lo:0<=a
 hi:a<s.h.ab.length
 wl:s.h.ab.length=h.ab.length
 wn:s.h.am=h.am
 few:s.mv.length<=1000000
 xj:(s.lead (wd s.h.ab a)).h.ab.length=s.h.ab.length
theorem zv2 (w:World) (b B T M X:Nat) (Z nO nR gv kC kS kF kN kT:Value) (s:ga) (rs:List Int) (d:bd) (o:Mo b B w T M X Z nO nR gv kC kS kF kN kT s.h s.mv s.mv rs d) (x:bk) (hf:pm d x) (be:0<=x.loc/\x.loc<=100000) (bc:x.len<=100000) (h5:s.h.ab.length<=1000000) (h7:s.h.am.length<=1000000)
 (hc:∀k (hk:k<(refsOf d.fields x).length),Dw d (s.refs ((refsOf d.fields x).take k)) s.h (refsOf d.fields x)[k]):
 Calls prog 140 #[.p M,nb x] w fun r w'=>r=.returned (.tuple #[])/\(∃gv',Mo b B w' T M X Z nO nR gv' kC kS kF kN kT (s.refs (refsOf d.fields x)).h (s.refs (refsOf d.fields x)).mv (s.refs (refsOf d.fields x)).mv rs d/\j7 w.heap.size T M X Z gv w gv' w'):=by
 obtain ⟨L,a1,af,bg,kp⟩:=mi w #[.i x.loc,.i x.tag,.i x.len,.i x.hash] 101;have o0:=o.below af;have aw:=ag o0;have ac:=ag (zht L.drew _ T _ _ _ _ _ _ _ s.h d ((o0.below (br _ _).drew).gd h5 h7) x hf be bc);have aa:=ag af;have a4:=ag a1;have m0:=bp o0.qz 0 (x:=.p T) rfl;have lM:=bz o0.qz;have lP:=bz kp;have p0:=bp kp 0 (x:=.i x.loc) rfl;have p1:=bp kp 1 (x:=.i x.tag) rfl;have p2:=bp kp 2 (x:=.i x.len) rfl;have p3:=bp kp 3 (x:=.i x.hash) rfl;have HC:=ag hc;have ao:=ag (And.intro h5 h7);have bu:(refsOf d.fields x).length<=100000:=lt3 (Ek d.fields x x.len.toNat) (by omega);generalize refsOf d.fields x=l at*;unfold nb at ac ⊢;clear hc af a1 kp o0 h5 h7 hf bg;go_enter func140,ntmps140;go_wp2_with fail;rw [<-a4.o];refine wp_region_held_drew (S:=fun W'=>∀p:Addr,p.block<L.heap.size->W'.cell? p=L.cell? p) (by kernel_rfl) (fun p hp=>rfl) fun A=>?_;refine ta 0 (.p M) rfl A ?_;refine ta 1 (.p M) rfl A ?_;refine ta 2 (.p M) rfl A ?_;refine ta 3 (.p T) rfl A ?_;refine ta 4 (.agg #[.i x.loc,.i x.tag,.i x.len,.i x.hash]) rfl A ?_;refine ta 7 (.i 0) rfl A ?_;refine wpAnyH_ready (rs:=[5]) (by kernel_rfl) (by simp) ?_;refine AllReadyH.cons rfl (fun K5 a9=>?_) AllReadyH.nil;go_simp;refine ac.o.mono ?_;rintro r w1 ⟨O,vl,rfl,ai⟩;obtain ⟨aL,cL,rfl⟩:=kq ai;refine a9.o _ _ (fun p hp=>((br L.heap.size L).drew.trans O).cell hp) fun A=>?_;refine ta 6 (.i (l.length:Int)) rfl A ?_;refine wpAnyH_done (by kernel_rfl) ?_ _;clear A;try simp only [Act.put,p1q,p4q,p3q,p2q,p5q,p6q]
 have W:Bl w w1:=aa.o.trans (((br L.heap.size L).drew.trans O).mono aa.o.size);have a3:=aw.o.below ((br L.heap.size L).drew.trans O);have a7:=ag a3;have an:=ag W;have ax:=ag ai;have av:=ag (And.intro o.lts (And.intro aa.o.size O.size));clear O W a3 ai ac aw m0 p0 p1 p2 p3 lM lP A o;go_wp2_with fail;go_loopw [13] (fun i wr=>∃(k:Nat) (I:Value),i=.i k/\k<=l.length/\Hid (Mo b B wr T M X Z nO nR I kC kS kF kN kT (s.refs (l.take k)).h (s.refs (l.take k)).mv (s.refs (l.take k)).mv rs d/\j7 w1.heap.size T M X Z gv w1 I wr)) (fun i _=>l.length - (intOf i).toNat)
 case atStart=>exact ⟨0,gv,rfl,n0q _,a7.o,j7.ofBelow (br _ _)⟩
 case round=>
  obtain ⟨k,I,rfl,hk,HI⟩:=hrel;by_cases ah:k<l.length
  ·have Y:wr.ownsRow L.drew.heap.size 3 1 (.slice aL l.length cL) l.length (bw l):=zv0 ax.o HI.o.2 (fun j e1 e2=>by have h0:=(ax.o.lt j e1).1;have h1:=av.o.1;have h2:=av.o.2;have h3:L.drew.heap.size=L.heap.size:=rfl;have h4:=h1.2.2.2.2.2.2 j;have h5:=h1.2.2.2.1 j;exact ⟨by omega,by omega,by omega,by omega,fun q=>by have:=h5 q;omega,fun q=>by have:=h4 q;omega⟩);obtain ⟨bl,off,rfl,bo,e0⟩:=(ru Y (by omega)).atI k ah;have D:=HC.o k ah;have ak:=zv1 s l k ah;obtain ⟨a,ha⟩:∃a:Nat,l[k]=(a:Int):=⟨l[k].toNat,by have:=D.lo;omega⟩;rw [ha]at e0 D ak;have E:=HI.o.1;generalize s.refs (l.take k)=sk at*;have N:a<sk.h.ab.length:=by have:=D.hi;omega
   obtain ⟨F,V,bf,bs⟩:∃F V,Z=.slice (some ⟨F,0,none⟩) s.h.ab.length V/\s.h.ab.length<=V:=by
    rcases E.rW.2 with ⟨e,h0⟩ | ⟨g,cap,bn,e,-,-,hc,-⟩
    ·omega
    exact ⟨g,cap,by rw [e,D.wl],by rw [<-D.wl];exact hc⟩
   subst bf;have aj:=E.rW;rw [<-D.wl]at aj;have xv:=(aj.cellAt a (by rw [Nat.mul_one];exact N)).trans (A8 N);rw [<-pi N]at xv;have ap:=ag (zvz wr.drew b B T M X _ _ _ _ _ _ _ _ _ sk rs d (E.below (br _ _).drew) (wd sk.h.ab a) D.wf D.can (by rw [D.wl];exact ao.o.1) (by rw [D.wn];exact ao.o.2) D.few);have m0:=bp E.qz 0 (x:=.p T) rfl;have t0:=bp E.blk 0 (x:=.slice (some ⟨F,0,none⟩) s.h.ab.length V) rfl;have lM:=bz E.qz;have lT:=bz E.blk;have lW:=(E.rW.lt F rfl).2;have a5:Hid (a<(sk.lead (wd sk.h.ab a)).h.ab.length):=by show _<_;rw [D.xj];exact N
   have au:Hid ((sk.lead (wd sk.h.ab a)).h.ab.length=s.h.ab.length):=D.xj.trans D.wl;have a8:Hid (s.refs (l.take (k+1))=(sk.lead (wd sk.h.ab a)).put a (sk.dst (wd sk.h.ab a))):=ak;have bx:(a:Int)<s.h.ab.length:=by have:=D.hi;rw [D.wl]at this;exact this
   have bv:(0:Int)<=a:=by omega
   have a6:=ag E;generalize wd sk.h.ab a=v at*;generalize sk.dst v=tv at*;generalize sk.lead v=sl at*;clear Y D ak E N aj;go_wp2_with fail;refine zrq (fun W'=>W'.cell? ⟨M,0,none⟩=some (.p T)/\W'.cell? ⟨T,0,none⟩=some (.slice (some ⟨F,0,none⟩) s.h.ab.length V)) 23 (by kernel_rfl) ⟨m0,t0⟩ fun A=>?_;refine pr 0 (.p M) rfl (by kernel_rfl) (by kernel_rfl) (fun _ _ _ h=>h) ?_ A ?_
   ·intro w;go_simp
   refine pr 1 (.p M) rfl (by kernel_rfl) (by kernel_rfl) (fun _ _ _ h=>h) ?_ A ?_
   ·intro w;go_simp
   refine pr 2 (.p M) rfl (by kernel_rfl) (by kernel_rfl) (fun _ _ _ h=>h) ?_ A ?_
   ·intro w;go_simp
   refine A9 3 (.p T) rfl (by kernel_rfl) (by kernel_rfl) (by kernel_rfl) (fun _ _ _ h=>h) ?_ A ?_
   ·intro w G;obtain ⟨s0,s1⟩:=G;go_simp
   refine pr 4 (.p T) rfl (by kernel_rfl) (by kernel_rfl) (fun _ _ _ h=>h) ?_ A ?_
   ·intro w;go_simp
   refine pr 5 (.p T) rfl (by kernel_rfl) (by kernel_rfl) (fun _ _ _ h=>h) ?_ A ?_
   ·intro w;go_simp
   refine pr 6 (.p T) rfl (by kernel_rfl) (by kernel_rfl) (fun _ _ _ h=>h) ?_ A ?_
   ·intro w;go_simp
   refine A9 7 (.slice (some ⟨F,0,none⟩) s.h.ab.length V) rfl (by kernel_rfl) (by kernel_rfl) (by kernel_rfl) (fun _ _ _ h=>h) ?_ A ?_
   ·intro w G;obtain ⟨s0,s1⟩:=G;go_simp
   refine pr 8 (.i (a:Int)) rfl (by kernel_rfl) (by kernel_rfl) (fun _ _ _ h=>h) ?_ A ?_
   ·intro w;go_simp
   refine pr 9 (.p M) rfl (by kernel_rfl) (by kernel_rfl) (fun _ _ _ h=>h) ?_ A ?_
   ·intro w;go_simp
   refine pr 10 (.p M) rfl (by kernel_rfl) (by kernel_rfl) (fun _ _ _ h=>h) ?_ A ?_
   ·intro w;go_simp
   refine pr 11 (.p M) rfl (by kernel_rfl) (by kernel_rfl) (fun _ _ _ h=>h) ?_ A ?_
   ·intro w;go_simp
   refine pr 12 (.p M) rfl (by kernel_rfl) (by kernel_rfl) (fun _ _ _ h=>h) ?_ A ?_
   ·intro w;go_simp
   refine A9 13 (.p T) rfl (by kernel_rfl) (by kernel_rfl) (by kernel_rfl) (fun _ _ _ h=>h) ?_ A ?_
   ·intro w G;obtain ⟨s0,s1⟩:=G;go_simp
   refine pr 14 (.p T) rfl (by kernel_rfl) (by kernel_rfl) (fun _ _ _ h=>h) ?_ A ?_
   ·intro w;go_simp
   refine pr 15 (.p T) rfl (by kernel_rfl) (by kernel_rfl) (fun _ _ _ h=>h) ?_ A ?_
   ·intro w;go_simp
   refine pr 16 (.p T) rfl (by kernel_rfl) (by kernel_rfl) (fun _ _ _ h=>h) ?_ A ?_
   ·intro w;go_simp
   refine A9 17 (.slice (some ⟨F,0,none⟩) s.h.ab.length V) rfl (by kernel_rfl) (by kernel_rfl) (by kernel_rfl) (fun _ _ _ h=>h) ?_ A ?_
   ·intro w G;obtain ⟨s0,s1⟩:=G;go_simp
   refine pr 18 (.i (a:Int)) rfl (by kernel_rfl) (by kernel_rfl) (fun _ _ _ h=>h) ?_ A ?_
   ·intro w;go_simp
   refine pr 19 (.pointer (some ⟨F,a,none⟩)) rfl (by kernel_rfl) (by kernel_rfl) (fun _ _ _ h=>h) ?_ A ?_
   ·intro w;go_simp
   refine Aj (rs:=[20]) (by kernel_rfl) (by simp) ?_;refine ku.cons rfl (fun bh ay=>?_) ku.nil;go_simp;refine ay.o _ _ (fun _ _=>A) ?_;refine Aj (rs:=[21]) (by kernel_rfl) (by simp) ?_;refine ku.cons rfl (fun bi az=>?_) ku.nil;go_simp;refine ap.o.mono ?_;rintro r w5 ⟨rfl,ad,o5,a2⟩;have A:w5.cell? ⟨M,0,none⟩=some (.p T)/\w5.cell? ⟨T,0,none⟩=some (.slice (some ⟨F,0,none⟩) s.h.ab.length V):=⟨bp o5.qz 0 rfl,(bp o5.blk 0 rfl)⟩;refine az.o _ _ (fun _ _=>A) ?_;refine pr 22 (.pointer (some ⟨F,a,none⟩)) rfl (by kernel_rfl) (by kernel_rfl) (fun _ _ _ h=>h) ?_ A ?_
   ·intro w;go_simp
   have J:=o5.rW;rw [au.o]at J;have x4:=(J.cellAt a (by rw [Nat.mul_one];omega)).trans (A8 a5.o);have x5:=J.frozenAt a;have x6:=(J.lt F rfl).2;refine Aj (rs:=[23]) (by kernel_rfl) (by simp) ?_;refine ku.cons rfl (fun bm a0=>?_) ku.nil;go_simp;refine a0.o _ _ (fun h=>absurd rfl h) ?_;obtain ⟨w6,al⟩:∃w6,w6=w5.setCell ⟨F,a,none⟩ (.i tv):=⟨_,rfl⟩;rw [<-al];refine zrp (by kernel_rfl) ?_ _;try simp only [Act.put,p1q,p4q,p3q,p2q,p5q,p6q]
   obtain ⟨r1,hg⟩:=J.stored a (.i tv);rw [<-al]at r1 hg;have HF:Hid (Mo b B w6 T M X (.slice (some ⟨F,0,none⟩) s.h.ab.length V) nO nR ad kC kS kF kN kT (s.refs (l.take (k+1))).h (s.refs (l.take (k+1))).mv (s.refs (l.take (k+1))).mv rs d/\j7 w1.heap.size T M X (.slice (some ⟨F,0,none⟩) s.h.ab.length V) gv w1 ad w6):=by refine ⟨?_,HI.o.2.trans (((j7.ofBelow (br _ wr).drew).trans (a2.mono HI.o.2.size)).trans (j7.ofGrown hg (Or.inr (Or.inr (Or.inr (Or.inl rfl))))))⟩;rw [a8.o];have:=(o5.ab (k:=F) (ws:=sl.h.ab.set a tv) rfl hg (by rw [List.length_set,au.o,bw,List.map_set];exact r1)).1;exact this
   clear o5 a2 J x4 x5 x6 A r1 hg al ap m0 t0 xv HI a6;go_wp2_with fail;go_roundw
   case rel=>exact ⟨k+1,ad,by go_num,by omega,HF.o⟩
   case measure=>simp [intOf];omega
  have bb:l.take k=l:=List.take_of_length_le (by omega);have HF:Hid (Mo b B wr T M X Z nO nR I kC kS kF kN kT (s.refs l).h (s.refs l).mv (s.refs l).mv rs d/\j7 w.heap.size T M X Z gv w I wr):=⟨bb ▸ HI.o.1,(j7.ofBelow an.o).trans (HI.o.2.mono an.o.size)⟩;go_wp2_with fail;go_end0;exact ⟨rfl,I,HF.o.1,HF.o.2⟩
structure nc (b B:Nat) (w:World) (T:Nat) (nW nO nR kC kS kF kN kT:Value) (h:ar) (rs:List Int) (d:bd):Prop where
 blk:w.heap[T]? =some (.cells #[nW,.i h.ae,.i h.old,.i h.bo,.i h.ba,nO,.i h.next,kC,kS,kF,kN,kT,nR] 131 (0,0))
 rW:w.ownsRow b 3 1 nW h.ab.length (bw h.ab)
 rO:w.ownsRow b 3 1 nO h.am.length (bw h.am)
 rR:w.ownsRow b 3 1 nR rs.length (bw rs)
 lk:mt (· <B) w kC kS kF kN kT d
 le:B<=b
 bT:b<=T
 sep:si [some T,nW.ownBlock,nO.ownBlock,nR.ownBlock]
theorem nc.below {b B T:Nat} {w:World} {N J L D G E F I:Value} {h:ar} {rs:List Int} {d:bd} (o:nc b B w T N J L D G E F I h rs d) {w':World} (A:Bl w w'):nc b B w' T N J L D G E F I h rs d:=
 have O:=bz o.blk
 ⟨(A.block _ O).trans o.blk,mf o.rW A,mf o.rO A,mf o.rR A,o.lk.kept (Kp.below (A.mono (by have:=o.le;have:=o.bT;omega))),o.le,o.bT,o.sep⟩
theorem nc.ab {b B T:Nat} {w:World} {D E F I N J L O:Value} {h:ar} {rs:List Int} {d:bd} (o:nc b B w T D E F I N J L O h rs d) {w':World} {k:Nat} {ws:List Int} (G:D.ownBlock=some k) (A:w.grownBy w' (some k)) (Y:w'.ownsRow b 3 1 D ws.length (bw ws)):nc b B w' T D E F I N J L O ⟨ws,h.ae,h.old,h.bo,h.ba,h.am,h.next⟩ rs d/\Below b w w':=
 have V:b<=k:=(o.rW.lt k G).1;have hi: [some T,D.ownBlock,E.ownBlock,F.ownBlock][1]? =some (some k):=congrArg some G
 ⟨⟨(A.block T (bz o.blk) (fun e=>Ak o.sep (i:=0) (by decide) hi (congrArg some e))).trans o.blk,Y,o.rO.kept A (Or.inr fun e=>pw o.sep (j:=2) (by decide) hi (congrArg some e)),o.rR.kept A (Or.inr fun e=>pw o.sep (j:=3) (by decide) hi (congrArg some e)),o.lk.kept ⟨A.size,fun j W X=>A.block j X (by have:=o.le;have:=W;intro e;injection e;omega)⟩,o.le,o.bT,o.sep⟩,(br b w).grown A (by have:=bz o.blk;have:=o.bT;omega) (fun j e=>by cases e;exact V)⟩
theorem nc.task {b B T:Nat} {w:World} {E O D G L I J N:Value} {h:ar} {rs:List Int} {d:bd} (o:nc b B w T E O D G L I J N h rs d) {w':World} {h':ar} {nO':Value} (A:w.grownBy w' (some T)) (V:w'.heap[T]? =some (.cells #[E,.i h'.ae,.i h'.old,.i h'.bo,.i h'.ba,nO',.i h'.next,G,L,I,J,N,D] 131 (0,0))) (hw:h'.ab=h.ab) (Y:w'.ownsRow b 3 1 nO' h'.am.length (bw h'.am)) (F:nO'=O\/nO'.ownBlock=none):nc b B w' T E nO' D G L I J N h' rs d/\Below b w w':=
 have hi: [some T,E.ownBlock,O.ownBlock,D.ownBlock][0]? =some (some T):=rfl
 have Z:si [some T,E.ownBlock,nO'.ownBlock,D.ownBlock]:=by
  rcases F with rfl | F
  ·exact o.sep
  have:=o.sep;unfold si at this ⊢;rw [F];simp only [List.pairwise_cons,List.mem_cons,List.not_mem_nil,or_false,forall_eq_or_imp,forall_eq,List.Pairwise.nil,and_true,false_implies,implies_true]at this ⊢;exact ⟨⟨this.1.1,fun _ _ e=>(by cases e),this.1.2.2⟩,⟨fun _ _ e=>(by cases e),this.2.1.2⟩,fun _ e=>(by cases e)⟩
 ⟨⟨V,hw ▸ o.rW.kept A (Or.inr fun e=>pw o.sep (j:=1) (by decide) hi (congrArg some e)),Y,o.rR.kept A (Or.inr fun e=>pw o.sep (j:=3) (by decide) hi (congrArg some e)),o.lk.kept ⟨A.size,fun j W X=>A.block j X (by have:=o.le;have:=o.bT;have:=W;intro e;injection e;omega)⟩,o.le,o.bT,Z⟩,(br b w).grown A (by have:=bz o.blk;have:=o.bT;omega) (fun j e=>by cases e;exact o.bT)⟩
theorem zwn {ops:Array Oper} {o:Oper} {a:Act} {w:World} {K:Act->World->Prop} {Q:Exit->Act->World->Prop} {E:Prop} (V:o.guard=none) (s:Operand)
 (ho:o.op=.call { callee:=.builtin .clear,args:=#[s],argTypes:=#[22] }) (b g off n F cap:Nat) (ws:List Int) (J:w.ownsRow b 3 1 (.slice (some ⟨g,0,none⟩) ws.length cap) ws.length (bw ws))
 (hs:a.eval s=.slice (some ⟨g,off,none⟩) n F) (hn:0<n) (ad:off+n<=ws.length)
 (h:∀w',w.grownBy w' (some g)->w'.ownsRow b 3 1 (.slice (some ⟨g,0,none⟩) ws.length cap) (ma ws off (List.replicate n 0)).length (bw (ma ws off (List.replicate n 0)))->K (a.put o.dst (.tuple #[])) w'):
 if Region.wanted o (yielded ops a.tmps)=true then Oper.wp prog o a w K Q else E:=by
 have hw:Region.wanted o (yielded ops a.tmps)=true:=by simp [Region.wanted,V]
 rw [if_pos hw];obtain ⟨af,N,hB,hc,hm,Z,hx,D⟩:=zsy J;have Y:∀j,j<n->∃x,ws[off+j]? =some x:=fun j A=>⟨ws[off+j]'(by omega),List.getElem?_eq_getElem (by omega)⟩;have L:=Lib.run_clear_slice (P:=prog) w 22 3 o.type (.i 0) underlying22 ve rfl rfl g off n F hn (fun j A=>by
  obtain ⟨x,aa⟩:=Y j A;rw [D (off+j) (.i x) (by rw [zs1,aa];rfl)];rfl) (fun j _=>pj N (off+j))
 unfold Oper.wp;simp [execOp,ho,resolve,invoke,builtin,hs,L,Result.andThen];have G:(ma ws off (List.replicate n 0)).length=ws.length:=Cp (by rw [List.length_replicate];omega);refine h _ (zsu _ _ (World.grownBy.refl _ _)) ?_;rw [G];obtain ⟨ac,O,X⟩:=zsv (List.replicate n (.i 0)) off N;refine zsx O hB (by rw [X,Z]) hc hm (by rw [ui,G]) fun j v A=>?_;rw [zs3 N off _ (by rw [List.length_replicate];omega) j,List.length_replicate];rw [zs1]at A;have ah:j<ws.length:=by
  rcases Nat.lt_or_ge j ws.length with q | q
  ·exact q
  rw [List.getElem?_eq_none (by rw [G];exact q)]at A;cases A
 have e1:(ws.take off).length=off:=by simp;omega
 by_cases I:off<=j/\j<off+n
 ·rw [if_pos I];unfold ma at A;rw [List.getElem?_append_right (by omega),e1,List.getElem?_append_left (by rw [List.length_replicate];omega),List.getElem?_replicate,if_pos (by omega)]at A;rw [List.getElem?_replicate,if_pos (by omega)];exact A
 rw [if_neg I];unfold ma at A;have W:(ws[j]?).map (fun x=>Value.int .i64 x)=some v:=by
  rcases Nat.lt_or_ge j off with q | q
  ·rw [List.getElem?_append_left (by omega),List.getElem?_take_of_lt q]at A;exact A
  rw [List.getElem?_append_right (by omega),e1,List.getElem?_append_right (by rw [List.length_replicate];omega),List.length_replicate,List.getElem?_drop,show off+n+(j - off - n)=j by omega]at A;exact A
 exact D j v (by rw [zs1];exact W)
theorem zwo (w:World) (b B T:Nat) (nW nO nR kC kS kF kN kT:Value) (h:ar) (rs:List Int) (d:bd) (o:nc b B w T nW nO nR kC kS kF kN kT h rs d) (hy:1<=h.ae/\h.ae<=1000000) (h5:h.ae+1<=h.ab.length):
 Calls prog 142 #[.p T] w fun r w'=>r=.returned (.tuple #[])/\nc b B w' T nW (.nl) nR kC kS kF kN kT (qw h) rs d/\Below b w w':=by
 obtain ⟨D,E,af,an⟩:∃D E,nW=.slice (some ⟨D,0,none⟩) h.ab.length E/\h.ab.length<=E:=by
  rcases o.rW.2 with ⟨e,h0⟩ | ⟨g,cap,al,e,-,-,hc,-⟩
  ·omega
  exact ⟨g,cap,e,hc⟩
 subst af;obtain ⟨aO,cO,ac⟩:=kq o.rO;subst ac;obtain ⟨aR,cR,ad⟩:=kq o.rR;subst ad;obtain ⟨aC,cC,aS,cS,aF,cF,aN,cN,aT,cT,rfl,rfl,rfl,rfl,rfl⟩:=o.lk.agg;have HO:=ag (o.below (br _ _).drew);have lT:=bz o.blk;have nT:¬T=D:=fun e=>pw o.sep (i:=0) (j:=1) (by decide) rfl (by rw [e];rfl);have a0:=bp o.blk 0 (x:=.slice (some ⟨D,0,none⟩) h.ab.length E) rfl;have a1:=bp o.blk 1 (x:=.i h.ae) rfl;have ao:∀V,(Instr.slice 22 (.slice (some ⟨D,0,none⟩) h.ab.length E) (some (.i 1)) (some (.i (h.ae+1))) none).run prog V=.ok (.slice (some ⟨D,1,none⟩) h.ae.toNat (E - 1)) V:=fun V=>by rw [run_slice_lh V 22 _ _ _ underlying22 .i64 .i64 1 (h.ae+1) (by omega) (by omega) (by omega)];show Result.ok (sliced (some ⟨D,0,none⟩) 1 (h.ae+1).toNat E 1) V=_;unfold sliced;rw [if_neg (by omega),Option.map_some,ua,Nat.mul_one,Nat.zero_add,show (h.ae+1).toNat - 1=h.ae.toNat by omega]
 have w1:IntKind.i64.wrap (h.ae+1)=h.ae+1:=by rw [IntKind.wrap_i64];omega
 clear o;go_enter func142,ntmps142;go_wp2_with fail;refine wp_region_held_drew (S:=fun W'=>∀p:Addr,p.block<w.heap.size->p.block≠D->W'.cell? p=w.cell? p) (by kernel_rfl) (fun p hp _=>rfl) fun A=>?_;refine ta 0 (.p T) rfl A ?_;refine ta 1 (.p T) rfl A ?_;refine ta 2 (.p T) rfl A ?_;refine ta 3 (.p T) rfl A ?_;refine ta 4 (.p T) rfl A ?_;refine ta 5 (.slice (some ⟨D,0,none⟩) h.ab.length E) rfl A ?_;refine ta 6 (.p T) rfl A ?_;refine ta 7 (.p T) rfl A ?_;refine ta 8 (.p T) rfl A ?_;refine ta 9 (.p T) rfl A ?_;refine ta 10 (.pointer (some ⟨T,1,none⟩)) rfl A ?_;refine ta 11 (.i h.ae) rfl A ?_;refine ta 12 (.i (h.ae+1)) rfl A ?_;refine ta 13 (.slice (some ⟨D,1,none⟩) h.ae.toNat (E - 1)) rfl A ?_;refine wpAnyH_ready (rs:=[14]) (by kernel_rfl) (by simp) ?_;refine AllReadyH.cons rfl (fun ak O=>?_) AllReadyH.nil;refine zwn rfl (.tmp 15) rfl b D 1 h.ae.toNat (E - 1) E h.ab HO.o.rW (by go_simp) (by omega) (by omega) ?_;intro w4 L Z;refine O.o _ _ (fun p hp ah=>World.cell?_of_block (a:=p) (L.block p.block hp (fun e=>ah (ojq e)))) fun A=>?_;refine wpAnyH_done (by kernel_rfl) ?_ _;clear A;try simp only [Act.put,p1q,p4q,p3q,p2q,p5q,p6q]
 obtain ⟨J,W⟩:=HO.o.ab (k:=D) rfl L Z;have I:Below b w w4:=(br b w).drew.trans W;have ai:=ag J;have aa:=ag I;have s3:=bp J.blk 3 (x:=.i h.bo) rfl;have s5:=bp J.blk 5 (x:=.slice aO h.am.length cO) rfl;have sz:=fun j=>pj J.blk j;have l4:=bz J.blk;obtain ⟨N,F⟩:∃N,N=w4.setCell ⟨T,3,none⟩ (.i 1):=⟨_,rfl⟩;have X:w4.grownBy N (some T):=F ▸ ow (World.grownBy.refl _ _) _ _ (Or.inl rfl);have k5:N.heap[T]? =some (.cells #[.slice (some ⟨D,0,none⟩) h.ab.length E,.i h.ae,.i h.old,.i 1,.i h.ba,.slice aO h.am.length cO,.i h.next,.slice aC d.aj.length cC,.slice aS d.bg.length cS,.slice aF d.fields.length cF,.slice aN d.names.length cN,.slice aT d.ax.length cT,.slice aR rs.length cR] 131 (0,0)):=F ▸ rr J.blk _;have u5:=bp k5 5 (x:=.slice aO h.am.length cO) rfl;have uz:=fun j=>pj k5 j;have l5:=bz k5;obtain ⟨W6,G⟩:∃W6,W6=N.setCell ⟨T,5,none⟩ (.nl):=⟨_,rfl⟩;have Y:w4.grownBy W6 (some T):=G ▸ ow X _ _ (Or.inl rfl);have k6:W6.heap[T]? =some (.cells #[.slice (some ⟨D,0,none⟩) h.ab.length E,.i h.ae,.i h.old,.i 1,.i h.ba,.nl,.i h.next,.slice aC d.aj.length cC,.slice aS d.bg.length cS,.slice aF d.fields.length cF,.slice aN d.names.length cN,.slice aT d.ax.length cT,.slice aR rs.length cR] 131 (0,0)):=G ▸ rr k5 _;have HF:=ag (J.task (h':=qw h) (nO':=.nl) Y k6 rfl (World.ownsRow_nil _ _ _ _) (Or.inr rfl));have H5:=ag F;have H6:=ag G;clear J W L Z I X k5 Y k6 F G a0 a1 HO;go_wp2_with fail;rw [<-H5.o];go_wp2_with fail;rw [<-H6.o];go_end0;exact ⟨rfl,HF.o.1,aa.o.trans HF.o.2⟩
theorem zwp:∀(l:List Int) (s:ga),(s.tos l).length=l.length
 | [],_=>rfl
 | v::l,s=>by rw [ga.tos,List.length_cons,List.length_cons,zwp l]
theorem zwq:∀(l:List Int) (s:ga) (v:Int),s.tos (l++ [v])=s.tos l++ [(s.roots l).dst v]
 | [],_,_=>rfl
 | u::l,s,v=>by rw [List.cons_append,ga.tos,ga.tos,zwq l,List.cons_append];rfl
theorem zwr (s:ga) (l:List Int) (k:Nat) (A:k<l.length):s.roots (l.take (k+1))=(s.roots (l.take k)).lead l[k]:=by unfold ga.roots;rw [List.take_succ_eq_append_getElem A,List.foldl_append];rfl
theorem zws (fs:List (List bq)) (s:ga) (l:List Int) (k:Nat) (A:k<l.length):s.am fs (l.take (k+1))=(s.am fs (l.take k)).refs (refsOf fs (bj (s.am fs (l.take k)).h.ab l[k])):=by unfold ga.am;rw [List.take_succ_eq_append_getElem A,List.foldl_append];rfl
def np (s:ga) (rs:List Int) (k:Nat):List Int:=s.tos (rs.take k)++rs.drop k
theorem zwt (s:ga) (rs:List Int) (k:Nat):(np s rs k).length=rs.length:=by unfold np;rw [List.length_append,zwp,List.length_take,List.length_drop];omega
theorem zwu (s:ga) (rs:List Int) (k:Nat) (A:k<rs.length):(np s rs k)[k]'(by rw [zwt];exact A)=rs[k]:=by
 have e:(np s rs k)[k]? =some rs[k]:=by
  unfold np;have D:(s.tos (rs.take k)).length=k:=by rw [zwp,List.length_take];omega
  rw [List.getElem?_append_right (by omega),D,Nat.sub_self,List.getElem?_drop,Nat.add_zero,List.getElem?_eq_getElem A]
 rw [List.getElem?_eq_getElem (by rw [zwt];exact A)]at e;exact ojq e
theorem zwv (s:ga) (rs:List Int) (k:Nat) (A:k<rs.length):(np s rs k).set k ((s.roots (rs.take k)).dst rs[k])=np s rs (k+1):=by
 unfold np;have D:(s.tos (rs.take k)).length=k:=by rw [zwp,List.length_take];omega
 rw [List.take_succ_eq_append_getElem A,zwq,List.set_append_right _ _ (by omega),D,Nat.sub_self,List.drop_eq_getElem_cons A,p4q,List.append_assoc];rfl
theorem zww (fs:List (List bq)) (f i:Nat) (s:ga) (h:s.mv.length<=i):ga.gone fs f i s=s:=by
 cases f with
 | zero=>rfl
 | succ f=>rw [ga.gone,List.getElem?_eq_none h]
theorem zwx (fs:List (List bq)) (f i:Nat) (s:ga) {p:Int×bk} (h:s.mv[i]? =some p):ga.gone fs (f+1) i s=ga.gone fs f (i+1) (s.refs (refsOf fs p.2)):=by rw [ga.gone,h]
theorem wd_wf {ws:List Int} (h:∀x∈ws,(Lit.int .i64 x).wf=true) (a:Int):(Lit.int .i64 (wd ws a)).wf=true:=by
 unfold wd;cases hx:ws[a.toNat]? with
 | none=>decide
 | some x=>exact h x (List.mem_of_getElem? hx)
theorem jh.canAt {d:bd} {h0:ar} {ts:List bk} {s:ga} {dn:Int->Prop} (r:Right d h0 ts) (A:0<=leftD h0) (V:∀x∈h0.ab,(Lit.int .i64 x).wf=true) {l:List Int} (x:jh d h0 ts s dn) (D:l.Nodup) (h:∀a∈l,¬dn a/\h0.ae<a/\a<s.h.ba/\b8 ts (wd h0.ab (jf s.mv a))=true) (k:Nat) (F:k<l.length):
 Dw d (s.refs (l.take k)) s.h l[k]:=by
 obtain ⟨y,G,I,J⟩:=x.refsAt r A D h k F;obtain ⟨-,Z⟩:=jh.refs r A (l.take k) s dn x (D.sublist (List.take_sublist _ _)) fun a N=>h a (List.mem_of_mem_take N);obtain ⟨L,W,X,Y⟩:=h l[k] (gm F);have E:l[k]∉l.take k:=by intro O;obtain ⟨j,hj,e⟩:=List.mem_take_iff_getElem.1 O;have:=(List.getElem_inj (xs:=l) D).1 e;omega
 have e:=y.A3 l[k] I J (by rintro (h | h);exact L h;exact E h);have hc:=y.count r A;have z1:=r.sized.ae;have z2:=r.sized.old;have z3:=r.sized.len;exact ⟨by rw [e];exact wd_wf V _,y.can r A G,I,by rw [y.len];exact J,y.len.trans x.len.symm,y.no.trans x.no.symm,by omega,(y.lead r A G).1.len.trans y.len.symm⟩
theorem Fu {d:bd} {h:ar} {ts:List bk} (r:Right d h ts) {n:Int} (D:n∈h.am):∃t∈ts,t.loc=n/\h.ae<n:=by
 have h1:=List.any_eq_false.1 r.note n D;unfold fh at h1;cases hp:j9 ts n with
 | none=>rw [hp]at h1;simp at h1
 | some t=>
   obtain ⟨E,F⟩:=Dr ts hp;refine ⟨t,E,F,?_⟩;by_cases A:h.ae<n
   ·exact A
   simp [hp,A]at h1
theorem zwz {d:bd} {h:ar} {ts:List bk} (r:Right d h ts):h.am.Nodup:=by have h1:=zts.1 ((zkj _).1 r.rise);exact h1.imp fun h e=>by omega
theorem Mo.tsk {b B T M X:Nat} {w:World} {L I J N A F D E G:Value} {h:ar} {m g:List (Int×bk)} {rs:List Int} {d:bd} (o:Mo b B w T M X L I J N A F D E G h m g rs d):nc b B w T L I J A F D E G h rs d:=
 ⟨o.blk,o.rW,o.rO,o.rR,o.lk,o.le,o.bT,List.Pairwise.sublist (by
  refine List.Sublist.cons_cons _ (List.Sublist.cons _ (List.Sublist.cons _ (List.Sublist.cons_cons _ (List.Sublist.cons_cons _ (List.Sublist.cons_cons _ (List.Sublist.cons _ List.Sublist.slnil))))))) o.sep⟩
theorem nc.mo {b B T:Nat} {w:World} {J G I N X O V Y:Value} {h:ar} {rs:List Int} {d:bd} (o:nc b B w T J G I N X O V Y h rs d) (W:World) (F:W=(w.alloc (.map #[] 0)).alloc (.cells #[.p T,.map (some w.heap.size),.nl] 196)):
 Mo b B W T (w.heap.size+1) w.heap.size J G I (.nl) N X O V Y h [] [] rs d/\Bl w W:=by
 have L:Bl w W:=F ▸ ((br _ _).alloc (nlq _) _).alloc (by simp) _;have E:=o.below L;have lT:=bz o.blk;have Z:W.heap[w.heap.size+1]? =some (.cells #[.p T,.map (some w.heap.size),.nl] 196 (0,0)):=by have:=heap_alloc_new (w.alloc (.map #[] 0)) (.cells #[.p T,.map (some w.heap.size),.nl] 196);rw [<-F]at this;simpa using this
 have hp:js W w.heap.size []:=by have h1:=(World.ownsMap_made (H:=Unit) w prog 3 (plainElem prog 3)).alloc (.cells #[.p T,.map (some w.heap.size),.nl] 196);rw [<-F]at h1;exact ⟨.map [],h1,zvp⟩
 refine ⟨⟨E.blk,Z,E.rW,E.rO,E.rR,World.ownsRow_nil _ _ _ _,hp,E.lk,o.le,o.bT,by have:=o.bT;omega,by have:=o.bT;omega,?_⟩,L⟩;have D:=o.sep;have q1:∀k,J.ownBlock=some k->k<w.heap.size:=fun k e=>(o.rW.lt k e).2;have q2:∀k,G.ownBlock=some k->k<w.heap.size:=fun k e=>(o.rO.lt k e).2;have q3:∀k,I.ownBlock=some k->k<w.heap.size:=fun k e=>(o.rR.lt k e).2;unfold si at D ⊢;simp only [List.pairwise_cons,List.mem_cons,List.not_mem_nil,or_false,forall_eq_or_imp,forall_eq,List.Pairwise.nil,and_true,false_implies,implies_true]at D ⊢;refine ⟨⟨fun k e A=>by have:=ojq e;have:=ojq A;omega,fun k e A=>by have:=ojq e;have:=ojq A;omega,D.1.1,D.1.2.1,D.1.2.2,fun _ _ e=>(by cases e)⟩,⟨fun k e A=>by have:=ojq e;have:=ojq A;omega,fun k e A=>by have:=q1 k A;have:=ojq e;omega,fun k e A=>by have:=q2 k A;have:=ojq e;omega,fun k e A=>by have:=q3 k A;have:=ojq e;omega,fun _ _ e=>(by cases e)⟩,⟨fun k e A=>by have:=q1 k A;have:=ojq e;omega,fun k e A=>by have:=q2 k A;have:=ojq e;omega,fun k e A=>by have:=q3 k A;have:=ojq e;omega,fun _ _ e=>(by cases e)⟩,⟨D.2.1.1,D.2.1.2,fun _ _ e=>(by cases e)⟩,⟨D.2.2,fun _ _ e=>(by cases e)⟩,fun _ _ e=>(by cases e)⟩
theorem zw0 (w:World) (b B T:Nat) (nW nO nR kC kS kF kN kT:Value) (h:ar) (rs:List Int) (d:bd) (o:nc b B w T nW nO nR kC kS kF kN kT h rs d) (ts:List bk) (rt:Right d h ts) (hl:0<=leftD h) (hr:∀v∈rs,b8 ts v=true) (hw:∀x∈h.ab,(Lit.int .i64 x).wf=true) (cj:∀x∈rs,(Lit.int .i64 x).wf=true) (d2:rs.length<=1000000):
 Calls prog 84 #[.p T] w fun r w'=>r=.returned (.tuple #[])/\nc b B w' T nW (.nl) nR kC kS kF kN kT (im d h rs) (j8 h rs) d/\Below b w w':=by
 have d1:=@run_makeMap prog;obtain ⟨aO,cO,c8⟩:=kq o.rO;subst c8;obtain ⟨aR,cR,c9⟩:=kq o.rR;subst c9;obtain ⟨aC,cC,aS,cS,aF,cF,aN,cN,aT,cT,rfl,rfl,rfl,rfl,rfl⟩:=o.lk.agg;obtain ⟨W0,a4⟩:∃W0,W0=(w.alloc (.map #[] 0)).alloc (.cells #[.p T,.map (some w.heap.size),.nl] 196):=⟨_,rfl⟩;obtain ⟨o0,b2⟩:=o.mo W0 a4;have z:=rt.sized;have z1:=z.ae;have z2:=z.old;have z3:=z.len;have z5:=z.ba;have aw:h.am.length<=1000000:=(Fp rt.err rt.both hw).2.2;have c4:b<=w.heap.size:=by have:=o.bT;have:=bz o.blk;omega
 have bu:=ag o0;have cn:Hid (Below b w W0):=b2.mono c4;have cp:=ag a4;have A:=ag (And.intro rt hl);have HR:=ag (And.intro hr cj);have HW:=ag hw;have cv:Hid (jh d h ts (ga.mk h []) (fun _=>False)):=zu2;have a9:=ag (fun k=>jh.roots rt hl (rs.take k) (ga.mk h []) _ zu2 (fun v hv=>hr v (List.mem_of_mem_take hv)));have lT:=bz o0.blk;have b0:=bp o0.blk 12 (x:=.slice aR rs.length cR) rfl;have aL:=b0;rw [a4]at aL;clear o o0 b2 a4 rt hl hr cj hw z;go_enter func84,ntmps84;go_wp2_with fail;rw [<-cp.o];go_loopw [19] (fun i wr=>∃(k:Nat) (Z:Value),i=.i k/\k<=rs.length/\Hid (Mo b B wr T (w.heap.size+1) w.heap.size nW (.slice aO h.am.length cO) (.slice aR rs.length cR) Z (.slice aC d.aj.length cC) (.slice aS d.bg.length cS) (.slice aF d.fields.length cF) (.slice aN d.names.length cN) (.slice aT d.ax.length cT) ((ga.mk h []).roots (rs.take k)).h ((ga.mk h []).roots (rs.take k)).mv ((ga.mk h []).roots (rs.take k)).mv (np (ga.mk h []) rs k) d/\Below b w wr)) (fun i _=>rs.length - (intOf i).toNat)
 case atStart=>exact ⟨0,_,rfl,n0q _,bu.o,cn.o⟩
 case round=>
  obtain ⟨k,Z,rfl,hk,I⟩:=hrel;by_cases ac:k<rs.length
  ·have D:=I.o.1;obtain ⟨xk,xe⟩:=a9.o k;have ak:=zwt (ga.mk h []) rs k;have ce:=zwu (ga.mk h []) rs k ac;have ch:=zwv (ga.mk h []) rs k ac;have ci:=zwr (ga.mk h []) rs k ac;have E:=xk.can A.o.1 A.o.2 (HR.o.1 rs[k] (gm ac));have b4:=xk.count A.o.1 A.o.2;have ca:=xk.len;have V:=xk.no;have ck:=HR.o.2 rs[k] (gm ac);obtain ⟨gR,c6⟩:∃gR,aR=some ⟨gR,0,none⟩:=by
    rcases D.rR.2 with ⟨e,h0⟩ | ⟨g,cap,df,e,-⟩
    ·omega
    injection e with e1;exact ⟨g,e1⟩
   subst c6;have ap:k<(np (ga.mk h []) rs k).length:=by omega
   have bi:=D.rR;rw [ak]at bi;have bv:=ag ak;have xv:=(bi.cellAt k (by rw [Nat.mul_one];exact ac)).trans (A8 ap);rw [ce]at xv;generalize rs[k]=v at*;generalize hsk:(ga.mk h []).roots (rs.take k)=sk at*;have bo:=ag (zvz wr.drew b B T (w.heap.size+1) w.heap.size _ _ _ _ _ _ _ _ _ sk (np (ga.mk h []) rs k) d (D.below (br _ _).drew) v ck E (by omega) (by rw [V];exact aw) (by omega));have cm:=bp D.blk 12 (x:=.slice (some ⟨gR,0,none⟩) rs.length cR) rfl;have dd:=bz D.blk;have lR:=(D.rR.lt gR rfl).2;have cs:=ag ap;have af:Hid ((ga.mk h []).roots (rs.take (k+1))=sk.lead v/\(np (ga.mk h []) rs k).set k (sk.dst v)=np (ga.mk h []) rs (k+1)):=⟨ci,ch⟩;generalize sk.dst v=tv at*;generalize sk.lead v=sl at*;clear D xk xe ce ch ci E ck hsk ap ak bi;go_wp2_with fail;refine zrq (fun W'=>W'.cell? ⟨T,12,none⟩=some (.slice (some ⟨gR,0,none⟩) rs.length cR)) 9 (by kernel_rfl) cm fun hH=>?_;refine pr 0 (.p T) rfl (by kernel_rfl) (by kernel_rfl) (fun _ _ _ h=>h) ?_ hH ?_
   ·intro w;go_simp
   refine pr 1 (.p T) rfl (by kernel_rfl) (by kernel_rfl) (fun _ _ _ h=>h) ?_ hH ?_
   ·intro w;go_simp
   refine pr 2 (.pointer (some ⟨T,12,none⟩)) rfl (by kernel_rfl) (by kernel_rfl) (fun _ _ _ h=>h) ?_ hH ?_
   ·intro w;go_simp
   refine A9 3 (.slice (some ⟨gR,0,none⟩) rs.length cR) rfl (by kernel_rfl) (by kernel_rfl) (by kernel_rfl) (fun _ _ _ h=>h) ?_ hH ?_
   ·intro w dl;go_simp
   refine pr 4 (.i (k:Int)) rfl (by kernel_rfl) (by kernel_rfl) (fun _ _ _ h=>h) ?_ hH ?_
   ·intro w;go_simp
   refine pr 5 (.p (w.heap.size+1)) rfl (by kernel_rfl) (by kernel_rfl) (fun _ _ _ h=>h) ?_ hH ?_
   ·intro w;go_simp
   refine pr 6 (.i v) rfl (by kernel_rfl) (by kernel_rfl) (fun _ _ _ h=>h) ?_ hH ?_
   ·intro w;go_simp
   refine Aj (rs:=[7]) (by kernel_rfl) (by simp) ?_;refine ku.cons rfl (fun K7 cy=>?_) ku.nil;go_simp;refine bo.o.mono ?_;rintro r w5 ⟨rfl,b1,o5,cc⟩;have hH:w5.cell? ⟨T,12,none⟩=some (.slice (some ⟨gR,0,none⟩) rs.length cR):=bp o5.blk 12 rfl;refine cy.o _ _ (fun _ _=>hH) ?_;refine pr 8 (.pointer (some ⟨gR,k,none⟩)) rfl (by kernel_rfl) (by kernel_rfl) (fun _ _ _ h=>h) ?_ hH ?_
   ·intro w;go_simp
   have ai:=o5.rR;rw [bv.o]at ai;have x4:=(ai.cellAt k (by rw [Nat.mul_one];exact ac)).trans (A8 cs.o);have x5:=ai.frozenAt k;have x6:=(ai.lt gR rfl).2;refine Aj (rs:=[9]) (by kernel_rfl) (by simp) ?_;refine ku.cons rfl (fun K9 c0=>?_) ku.nil;go_simp;refine c0.o _ _ (fun h=>absurd rfl h) ?_;obtain ⟨w6,bm⟩:∃w6,w6=w5.setCell ⟨gR,k,none⟩ (.i tv):=⟨_,rfl⟩;rw [<-bm];refine zrp (by kernel_rfl) ?_ _;try simp only [Act.put,p1q,p4q,p3q,p2q,p5q,p6q]
   obtain ⟨r1,hg⟩:=ai.stored k (.i tv);rw [<-bm]at r1 hg;have HF:Hid (Mo b B w6 T (w.heap.size+1) w.heap.size nW (.slice aO h.am.length cO) (.slice (some ⟨gR,0,none⟩) rs.length cR) b1 (.slice aC d.aj.length cC) (.slice aS d.bg.length cS) (.slice aF d.fields.length cF) (.slice aN d.names.length cN) (.slice aT d.ax.length cT) ((ga.mk h []).roots (rs.take (k+1))).h ((ga.mk h []).roots (rs.take (k+1))).mv ((ga.mk h []).roots (rs.take (k+1))).mv (np (ga.mk h []) rs (k+1)) d/\Below b w w6):=by obtain ⟨o6,c3⟩:=o5.rootsUp (k:=gR) (rs':=(np (ga.mk h []) rs k).set k tv) rfl hg (by rw [List.length_set,bv.o,bw,List.map_set];exact r1);rw [af.o.1,<-af.o.2];exact ⟨o6,I.o.2.trans (((br b wr).drew.trans (j7.toBelow (I.o.1.below (br _ _).drew) cc (by have:=I.o.2.size;show b<=wr.heap.size;omega))).trans c3)⟩
   clear o5 cc ai x4 x5 x6 hH r1 hg bm bo cm xv I;go_wp2_with fail;go_roundw
   case rel=>exact ⟨k+1,b1,by go_num,by omega,HF.o⟩
   case measure=>simp [intOf];omega
  obtain rfl:k=rs.length:=by omega
  have be:=a9.o rs.length;have G:=I.o;have ak:np (ga.mk h []) rs rs.length=j8 h rs:=by unfold np j8;rw [List.take_length,List.drop_length,List.append_nil]
  rw [List.take_length]at be;rw [ak,List.take_length]at G;have a2:=ag G;have bx:=ag be.1;have n5:=bp G.1.blk 5 (x:=.slice aO h.am.length cO) rfl;have dd:=bz G.1.blk;have co:Hid (ie d h rs=ga.gone d.fields h.ab.length 0 (ga.am d.fields ((ga.mk h []).roots rs) h.am)):=rfl;generalize (ga.mk h []).roots rs=s1 at*;obtain ⟨F,a0⟩:∃F,j8 h rs=F:=⟨_,rfl⟩;rw [a0]at a2;have ct:=ag a0;clear a0;clear I a9 G be ak b0 bu cv;go_wp2_with fail;go_loopw [41] (fun i wr=>∃(k:Nat) (Z:Value),i=.i k/\k<=h.am.length/\Hid (Mo b B wr T (w.heap.size+1) w.heap.size nW (.slice aO h.am.length cO) (.slice aR rs.length cR) Z (.slice aC d.aj.length cC) (.slice aS d.bg.length cS) (.slice aF d.fields.length cF) (.slice aN d.names.length cN) (.slice aT d.ax.length cT) (s1.am d.fields (h.am.take k)).h (s1.am d.fields (h.am.take k)).mv (s1.am d.fields (h.am.take k)).mv F d/\jh d h ts (s1.am d.fields (h.am.take k)) (Ce d.fields ts (h.am.take k))/\Below b w wr)) (fun i _=>h.am.length - (intOf i).toNat)
  case atStart=>exact ⟨0,Z,rfl,n0q _,a2.o.1,bx.o.iff fun a=>⟨False.elim,fun ⟨n,hn,_⟩=>by cases hn⟩,a2.o.2⟩
  case round=>
   obtain ⟨k,cx,rfl,hk,I⟩:=hrel;by_cases O:k<h.am.length
   ·obtain ⟨D,J,aa⟩:=I.o;obtain ⟨t,ht,al,a6⟩:=Fu A.o.1 (gm O);have bh:t.loc∉h.am.take k:=by
     rw [al];intro hm;obtain ⟨j,hj,e⟩:=List.mem_take_iff_getElem.1 hm;have:=(List.getElem_inj (xs:=h.am) (zwz A.o.1)).1 e;omega
    have ad:∀n∈h.am.take k,h.ae<n:=fun n hn=>by obtain ⟨_,_,_,q⟩:=Fu A.o.1 (List.mem_of_mem_take hn);exact q
    rw [<-al]at a6;obtain ⟨a1,ah⟩:=J.noteAt A.o.1 ad ht a6 bh;have hst:=J.noteStep A.o.1 A.o.2 ad ht a6 bh;have ay:=A0 A.o.1 ht a6;have X:=zws d.fields s1 h.am k O;have E:=fun j hj=>J.canAt A.o.1 A.o.2 HW.o (Fq d.fields t) ah j hj;have ca:=J.len;have V:=J.no;rw [<-al,a1]at X;rw [a1]at hst;have ao:t.fin=t.loc+3+t.len:=rfl;have dk:=ay.2.2.2.1.lo;have ap:k<(s1.am d.fields (h.am.take k)).h.am.length:=by rw [V];exact O
    have bc:=D.rO;rw [V]at bc;obtain ⟨bl,off,c2,du,xv⟩:=(ru bc aw).atI k O;subst c2;obtain ⟨n,hn⟩:∃n:Nat,t.loc=(n:Int):=⟨t.loc.toNat,by omega⟩;rw [<-al,hn]at xv;rw [hn]at a1;generalize hsk:s1.am d.fields (h.am.take k)=sk at*;have a3:=ag (ze9 wr _ T _ _ _ _ _ _ _ sk.h d (D.gd (by omega) (by rw [V];exact aw)) n (by omega));rw [a1]at a3;have Y:=ag (fun W (hW:Bl wr W)=>zv2 W b B T (w.heap.size+1) w.heap.size _ _ _ _ _ _ _ _ _ sk F d (D.below hW) t ay.2.2.2.1 ⟨by omega,by omega⟩ (by omega) (by omega) (by rw [V];exact aw) E);have cu:Hid (h.am.take k++ [t.loc]=h.am.take (k+1)):=by show _=_;rw [List.take_succ_eq_append_getElem O,al]
    have af:=ag X;have bb:=ag hst;have d3:=bz D.blk;unfold nb at a3 Y;clear D J ah hst ay X E hsk bc bh ad ap a1 al ht hn ao;go_wp2_with fail;refine a3.o.mono ?_;rintro r w3 ⟨rfl,bf⟩;have a7:=ag bf;have bn:=ag (Y.o w3 bf);have L:=ag aa;clear bf a3 Y aa;go_wp2_with fail;refine bn.o.mono ?_;rintro r w4 ⟨rfl,an,o4,av⟩;have HF:Hid (Mo b B w4 T (w.heap.size+1) w.heap.size nW (.slice (some ⟨bl,off,none⟩) h.am.length cO) (.slice aR rs.length cR) an (.slice aC d.aj.length cC) (.slice aS d.bg.length cS) (.slice aF d.fields.length cF) (.slice aN d.names.length cN) (.slice aT d.ax.length cT) (s1.am d.fields (h.am.take (k+1))).h (s1.am d.fields (h.am.take (k+1))).mv (s1.am d.fields (h.am.take (k+1))).mv F d/\jh d h ts (s1.am d.fields (h.am.take (k+1))) (Ce d.fields ts (h.am.take (k+1)))/\Below b w w4):=by rw [af.o,<-cu.o];exact ⟨o4,bb.o.1,L.o.trans ((a7.o.mono (by have:=L.o.size;omega)).trans (j7.toBelow (I.o.1.below a7.o) av (by have:=L.o.size;have:=a7.o.size;omega)))⟩
    clear o4 av bn I xv;go_wp2_with fail;go_roundw
    case rel=>exact ⟨k+1,an,by go_num,by omega,HF.o⟩
    case measure=>simp [intOf];omega
   obtain rfl:k=h.am.length:=by omega
   have G:=I.o;rw [List.take_length]at G;have a8:=ag G;generalize s1.am d.fields h.am=s2 at*;clear I G a2 bx n5;go_wp2_with fail;go_loopw [7] (fun i wr=>∃(k:Nat) (Z:Value) (s:ga),i=.i k/\k<=s.mv.length/\k<=h.ab.length/\Hid (Mo b B wr T (w.heap.size+1) w.heap.size nW (.slice aO h.am.length cO) (.slice aR rs.length cR) Z (.slice aC d.aj.length cC) (.slice aS d.bg.length cS) (.slice aF d.fields.length cF) (.slice aN d.names.length cN) (.slice aT d.ax.length cT) s.h s.mv s.mv F d/\jh d h ts s (As d.fields ts h.am k s.mv)/\ga.gone d.fields (h.ab.length - k) k s=ie d h rs/\Below b w wr)) (fun i _=>h.ab.length - (intOf i).toNat)
   case atStart=>exact ⟨0,cx,s2,rfl,n0q _,n0q _,a8.o.1,a8.o.2.1.iff fun a=>⟨Or.inl,fun q=>q.elim id fun ⟨j,p,hj,_⟩=>by omega⟩,co.o.symm,a8.o.2.2⟩
   case round=>
    obtain ⟨k,dg,s,rfl,d0,dz,I⟩:=hrel;obtain ⟨D,J,a5,aa⟩:=I.o;have b4:=J.count A.o.1 A.o.2;have ca:=J.len;have V:=J.no;obtain ⟨aG,cG,c7⟩:=kq D.rG;subst c7;have g2:=bp D.qz 2 (x:=.slice aG s.mv.length cG) rfl;have lM:=bz D.qz;by_cases au:k<s.mv.length
    ·have ad:∀n∈h.am,h.ae<n:=fun n hn=>by
      obtain ⟨_,_,_,q⟩:=Fu A.o.1 hn;exact q
     obtain ⟨p,az⟩:∃p,s.mv[k]? =some p:=⟨_,List.getElem?_eq_getElem au⟩;obtain ⟨N,ao,ah⟩:=J.goneAt A.o.1 A.o.2 ad az;have hst:=J.goneStep A.o.1 A.o.2 ad az;have E:=fun j hj=>J.canAt A.o.1 A.o.2 HW.o (Fq d.fields p.2) ah j hj;have X:=zwx d.fields (h.ab.length - (k+1)) k s az;rw [show h.ab.length - (k+1)+1=h.ab.length - k by omega,a5]at X;have cf:wr.ownsRow b 101 4 (.slice aG s.mv.length cG) (s.mv.map (·.2)).length (fu (s.mv.map (·.2))):=by rw [List.length_map];exact D.rG
     have b7:k<(s.mv.map (·.2)).length:=by rw [List.length_map];exact au
     obtain ⟨bG,off,c1,ds,e0,e1,e2,e3⟩:=(zhw cf (by rw [List.length_map];omega)).atTh k b7;subst c1;have b5:(s.mv.map (·.2))[k]=p.2:=by rw [List.getElem_map];exact congrArg Prod.snd (ojq ((List.getElem?_eq_getElem au).symm.trans az))
     rw [b5]at e0 e1 e2 e3;have c5:p.2.fin=p.2.loc+3+p.2.len:=rfl;have f0:=N.lo;have f1:=N.loc;obtain ⟨x,cl⟩:∃x,p.2=x:=⟨_,rfl⟩;rw [cl]at c5 N ao ah hst E X e0 e1 e2 e3 f0 f1;have Y:=ag (zv2 wr b B T (w.heap.size+1) w.heap.size _ _ _ _ _ _ _ _ _ s F d D x N ⟨by omega,by omega⟩ (by omega) (by omega) (by rw [V];exact aw) E);have af:=ag X;have bb:=ag hst;have L:=ag aa;have de:s.mv.length<=(s.refs (refsOf d.fields x)).mv.length:=by obtain ⟨⟨e,he⟩,-⟩:=hst.2;rw [he,List.length_append];omega
     unfold nb at Y;clear D J a5 aa ad az ah hst E X cf b7 b5 N cl;go_wp2_with fail;refine Y.o.mono ?_;rintro r w4 ⟨rfl,an,o4,av⟩;have HF:Hid (Mo b B w4 T (w.heap.size+1) w.heap.size nW (.slice aO h.am.length cO) (.slice aR rs.length cR) an (.slice aC d.aj.length cC) (.slice aS d.bg.length cS) (.slice aF d.fields.length cF) (.slice aN d.names.length cN) (.slice aT d.ax.length cT) (s.refs (refsOf d.fields x)).h (s.refs (refsOf d.fields x)).mv (s.refs (refsOf d.fields x)).mv F d/\jh d h ts (s.refs (refsOf d.fields x)) (As d.fields ts h.am (k+1) (s.refs (refsOf d.fields x)).mv)/\ga.gone d.fields (h.ab.length - (k+1)) (k+1) (s.refs (refsOf d.fields x))=ie d h rs/\Below b w w4):=
      ⟨o4,bb.o.1,af.o.symm,L.o.trans (j7.toBelow I.o.1 av (by have:=L.o.size;omega))⟩
     clear o4 av Y I e0 e1 e2 e3 g2;go_wp2_with fail;go_roundw
     case rel=>exact ⟨k+1,an,_,by go_num,by omega,by omega,HF.o⟩
     case measure=>simp [intOf];omega
    have b6:s=ie d h rs:=by rw [<-a5];exact (zww _ _ _ _ (by omega)).symm
    have bs:=ag (zwo wr b B T _ _ _ _ _ _ _ _ s.h F d D.tsk (by rw [J.yo];omega) (by rw [J.yo,J.len];omega));have cr:=ag b6;have L:=ag aa;clear D J a5 aa I b6;go_wp2_with fail;refine bs.o.mono ?_;rintro r w4 ⟨rfl,o4,b3⟩;have HF:Hid (nc b B w4 T nW (.nl) (.slice aR rs.length cR) (.slice aC d.aj.length cC) (.slice aS d.bg.length cS) (.slice aF d.fields.length cF) (.slice aN d.names.length cN) (.slice aT d.ax.length cT) (im d h rs) F d/\Below b w w4):=by unfold im;rw [<-cr.o];exact ⟨o4,L.o.trans b3⟩
    clear o4 b3 bs;go_wp2_with fail;go_end0;exact ⟨rfl,by rw [ct.o];exact HF.o.1,HF.o.2⟩
end Go.Proofs.YtjdnmblggdobgaaGreat
