import Derived.Test.YtjdnmblggdobgaaGreatJTk2Dies
import Derived.Test.YtjdnmblggdobgaaGreatJHyDHyF
set_option maxHeartbeats 4000000
set_option maxRecDepth 100000
namespace Go.Proofs.YtjdnmblggdobgaaGreat
open Go.RowKit Go.Maps
theorem Mo.lts {b B T M X:Nat} {w:World} {nW nO nR gv kC kS kF kN kT:Value} {h:HeapD} {m g:List (Int×ThD)} {rs:List Int} {d:LinkD} (o:Mo b B w T M X nW nO nR gv kC kS kF kN kT h m g rs d):T<w.heap.size/\M<w.heap.size/\X<w.heap.size/\(∀k,nW.ownBlock=some k->k<w.heap.size)/\(∀k,nO.ownBlock=some k->k<w.heap.size)/\(∀k,nR.ownBlock=some k->k<w.heap.size)/\(∀k,gv.ownBlock=some k->k<w.heap.size):=
 ⟨lt0 o.blk,lt0 o.mvr,o.mp.lt,fun k e=>(o.rW.lt k e).2,fun k e=>(o.rO.lt k e).2,fun k e=>(o.rR.lt k e).2,fun k e=>(o.rG.lt k e).2⟩
theorem Mo.other {b B T M X:Nat} {w w':World} {nW nO nR gv kC kS kF kN kT:Value} {h:HeapD} {m g:List (Int×ThD)} {rs:List Int} {d:LinkD} (o:Mo b B w T M X nW nO nR gv kC kS kF kN kT h m g rs d) {k:Nat} (hg:w.grownBy w' (some k)) (hk:b<=k) (hn:T<k/\M<k/\X<k/\(∀j,nW.ownBlock=some j->j<k)/\(∀j,nO.ownBlock=some j->j<k)/\(∀j,nR.ownBlock=some j->j<k)/\(∀j,gv.ownBlock=some j->j<k)):Mo b B w' T M X nW nO nR gv kC kS kF kN kT h m g rs d/\Below b w w':=by
 obtain ⟨n1,n2,n3,n4,n5,n6,n7⟩:=hn
 refine ⟨⟨(hg.block T (lt0 o.blk) (fun e=>by have:=Option.some.inj e;omega)).trans o.blk,(hg.block M (lt0 o.mvr) (fun e=>by have:=Option.some.inj e;omega)).trans o.mvr,o.rW.kept hg (Or.inr fun e=>by have:=n4 _ e;omega),o.rO.kept hg (Or.inr fun e=>by have:=n5 _ e;omega),o.rR.kept hg (Or.inr fun e=>by have:=n6 _ e;omega),o.rG.kept hg (Or.inr fun e=>by have:=n7 _ e;omega),o.mp.kept hg (fun e=>by have:=Option.some.inj e;omega),o.lkUp hg hk,o.le,o.bT,o.bM,o.bX,o.sep⟩,(Below.refl b w).grown hg (by have:=lt0 o.blk;have:=o.bT;omega) (fun j e=>by cases e;exact hk)⟩
theorem zva (w:World) (b B T M X:Nat) (nW nO nR gv kC kS kF kN kT:Value) (h:HeapD) (mv:List (Int×ThD)) (rs:List Int) (d:LinkD) (o:Mo b B w T M X nW nO nR gv kC kS kF kN kT h mv mv rs d) (t:ThD) (hf:FitT d t) (h1:1<=t.loc) (h2:t.fin<=h.young+1) (h3:h.otop+3+t.len<=h.words.length) (h4:h.young<h.otop) (h5:h.words.length<=1000000) (h6:mv.length<=1000000):
 Calls Tryz.prog 190 #[.pointer (some ⟨M,0,none⟩),thV t] w fun r w'=>r=.returned (.int .i64 h.otop)/\(∃gv',Mo b B w' T M X nW nO nR gv' kC kS kF kN kT (moveW h t) (mv++ [(t.loc,(⟨h.otop,t.tag,t.len,t.hash⟩:ThD))]) (mv++ [(t.loc,(⟨h.otop,t.tag,t.len,t.hash⟩:ThD))]) rs d/\Mvd w.heap.size T M X nW gv w gv' w'):=by
 obtain ⟨iT,hiT,hzT0,hzT1,hzT2⟩:=info_parts Tryz.infoThing
 have hfin:t.fin=t.loc+3+t.len:=rfl
 have hl0:=hf.lo
 obtain ⟨gW,dW,hnW,hdW⟩:∃gW dW,nW=.slice (some ⟨gW,0,none⟩) h.words.length dW/\h.words.length<=dW:=by
  rcases o.rW.2 with ⟨e,h0⟩ | ⟨g,cap,cur,e,-,-,hc,-⟩
  ·
   omega
  exact ⟨g,cap,e,hc⟩
 subst hnW
 obtain ⟨aO,cO,hnO⟩:=zfz o.rO
 subst hnO
 obtain ⟨aR,cR,hnR⟩:=zfz o.rR
 subst hnR
 obtain ⟨aG,cG,hnG⟩:=zfz o.rG
 subst hnG
 obtain ⟨aC,cC,aS,cS,aF,cF,aN,cN,aT,cT,rfl,rfl,rfl,rfl,rfl⟩:=o.lk.agg
 have hlts:=o.lts
 have HGL:Hid (∀k,(.slice aG mv.length cG:Value).ownBlock=some k->k<w.heap.size):=hlts.2.2.2.2.2.2
 have hbw:b<=w.heap.size:=by have:=o.bT;omega
 have HBW0:=mk0 hbw
 have HLT:=mk0 hlts
 obtain ⟨W0,hW0,hB0,hs0,kp⟩:=boxes1 w #[.int .i64 t.loc,.int .i64 t.tag,.int .i64 t.len,.int .i64 t.hash] 101
 have o0:=o.below hB0
 have HO0:=mk0 o0
 have HB0:Hid (Mvd w.heap.size T M X (.slice (some ⟨gW,0,none⟩) h.words.length dW) (.slice aG mv.length cG) w (.slice aG mv.length cG) W0):=Mvd.ofBelow hB0
 have HE0:=mk0 hW0
 have HP0:=mk0 kp
 have HS0:=mk0 hs0
 have lM:=lt0 o0.mvr
 have lT:=lt0 o0.blk
 have lP:=lt0 kp
 have m0:=cl0 o0.mvr 0 (x:=.pointer (some ⟨T,0,none⟩)) rfl
 have m1:=cl0 o0.mvr 1 (x:=.map (some X)) rfl
 have m2:=cl0 o0.mvr 2 (x:=.slice aG mv.length cG) rfl
 have a0:=cl0 o0.blk 0 (x:=.slice (some ⟨gW,0,none⟩) h.words.length dW) rfl
 have a4:=cl0 o0.blk 4 (x:=.int .i64 h.otop) rfl
 have p0:=cl0 kp 0 (x:=.int .i64 t.loc) rfl
 have p1:=cl0 kp 1 (x:=.int .i64 t.tag) rfl
 have p2:=cl0 kp 2 (x:=.int .i64 t.len) rfl
 have p3:=cl0 kp 3 (x:=.int .i64 t.hash) rfl
 have HEN:Hid (∀W,Calls Tryz.prog 72 #[.agg #[.int .i64 t.loc,.int .i64 t.tag,.int .i64 t.len,.int .i64 t.hash]] W fun r w'=>r=.returned (.int .i64 (t.loc+3+t.len))/\Below W.heap.size W w'):=fun W=>ze2 W t (by unfold small;omega) (by unfold small;omega)
 have HEN2:Hid (∀W,Calls Tryz.prog 72 #[.agg #[.int .i64 h.otop,.int .i64 t.tag,.int .i64 t.len,.int .i64 t.hash]] W fun r w'=>r=.returned (.int .i64 (h.otop+3+t.len))/\Below W.heap.size W w'):=fun W=>ze2 W ⟨h.otop,t.tag,t.len,t.hash⟩ (by show small h.otop;unfold small;omega) (by show small t.len;unfold small;omega)
 have r9:∀V,(Instr.slice 22 (.slice (some ⟨gW,0,none⟩) h.words.length dW) (some (.int .i64 h.otop)) none none).run Tryz.prog V=.ok (.slice (some ⟨gW,h.otop.toNat,none⟩) (h.words.length - h.otop.toNat) (dW - h.otop.toNat)) V:=fun V=>by
  rw [run_slice_l V 22 _ _ _ Tryz.underlying22 .i64 h.otop (by omega) (by omega)]
  show Result.ok (sliced (some ⟨gW,0,none⟩) h.otop.toNat h.words.length dW 1) V=_
  unfold sliced
  rw [if_neg (by omega),Option.map_some,zg1,Nat.mul_one,Nat.zero_add]
 have r22:∀V,(Instr.slice 22 (.slice (some ⟨gW,0,none⟩) h.words.length dW) (some (.int .i64 t.loc)) (some (.int .i64 (t.loc+3+t.len))) none).run Tryz.prog V=.ok (.slice (some ⟨gW,t.loc.toNat,none⟩) (t.len+3).toNat (dW - t.loc.toNat)) V:=fun V=>by
  rw [run_slice_lh V 22 _ _ _ Tryz.underlying22 .i64 .i64 t.loc (t.loc+3+t.len) (by omega) (by omega) (by omega)]
  show Result.ok (sliced (some ⟨gW,0,none⟩) t.loc.toNat (t.loc+3+t.len).toNat dW 1) V=_
  unfold sliced
  rw [if_neg (by omega),Option.map_some,zg1,Nat.mul_one,Nat.zero_add,show (t.loc+3+t.len).toNat - t.loc.toNat=(t.len+3).toNat by omega]
 have nM:¬M=gW:=fun e=>zu6 o.sep (i:=1) (j:=3) (by decide) rfl (by rw [e];rfl)
 have nT:¬T=gW:=fun e=>zu6 o.sep (i:=0) (j:=3) (by decide) rfl (by rw [e];rfl)
 have nP:¬w.heap.size=gW:=fun e=>by have:=hlts.2.2.2.1 gW rfl;omega
 have nX:¬M=X:=fun e=>zu6 o.sep (i:=1) (j:=2) (by decide) rfl (by rw [e];rfl)
 have nY:¬w.heap.size=X:=fun e=>by have:=hlts.2.2.1;omega
 have mL:=m0
 have aL:=a4
 rw [hW0]at mL aL
 unfold thV
 rw [hfin]at h2
 clear hfin hB0 hW0 kp o0 o hs0 hlts HBW0
 go_enter Tryz.func190,Tryz.ntmps190
 go_wp2_with fail
 rw [<-HE0.out]
 refine wp_region_held_drew (S:=fun W'=>∀p:Addr,p.block<W0.heap.size->p.block≠gW->W'.cell? p=W0.cell? p) (by kernel_rfl) (fun p hp _=>rfl) fun hH=>?_
 refine ta 0 (.pointer (some ⟨M,0,none⟩)) rfl hH ?_
 refine ta 1 (.pointer (some ⟨M,0,none⟩)) rfl hH ?_
 refine ta 2 (.pointer (some ⟨M,0,none⟩)) rfl hH ?_
 refine ta 3 (.pointer (some ⟨T,0,none⟩)) rfl hH ?_
 refine ta 4 (.pointer (some ⟨T,0,none⟩)) rfl hH ?_
 refine ta 5 (.pointer (some ⟨T,0,none⟩)) rfl hH ?_
 refine ta 6 (.pointer (some ⟨T,0,none⟩)) rfl hH ?_
 refine ta 7 (.slice (some ⟨gW,0,none⟩) h.words.length dW) rfl hH ?_
 refine ta 8 (.int .i64 h.otop) rfl hH ?_
 refine ta 9 (.slice (some ⟨gW,h.otop.toNat,none⟩) (h.words.length - h.otop.toNat) (dW - h.otop.toNat)) rfl hH ?_
 refine ta 10 (.pointer (some ⟨M,0,none⟩)) rfl hH ?_
 refine ta 11 (.pointer (some ⟨M,0,none⟩)) rfl hH ?_
 refine ta 12 (.pointer (some ⟨M,0,none⟩)) rfl hH ?_
 refine ta 13 (.pointer (some ⟨T,0,none⟩)) rfl hH ?_
 refine ta 14 (.pointer (some ⟨T,0,none⟩)) rfl hH ?_
 refine ta 15 (.pointer (some ⟨T,0,none⟩)) rfl hH ?_
 refine ta 16 (.pointer (some ⟨T,0,none⟩)) rfl hH ?_
 refine ta 17 (.slice (some ⟨gW,0,none⟩) h.words.length dW) rfl hH ?_
 refine ta 18 (.pointer (some ⟨w.heap.size,0,none⟩)) rfl hH ?_
 refine ta 19 (.int .i64 t.loc) rfl hH ?_
 refine ta 20 (.agg #[.int .i64 t.loc,.int .i64 t.tag,.int .i64 t.len,.int .i64 t.hash]) rfl hH ?_
 refine wpAnyH_ready (rs:=[21]) (by kernel_rfl) (by simp) ?_
 refine AllReadyH.cons rfl (fun K21 hK21=>?_) AllReadyH.nil
 go_simp
 refine (HEN.out _).mono ?_
 rintro r w5 ⟨rfl,hb5⟩
 have hb6:Below W0.heap.size W0 w5:=(Below.refl W0.heap.size W0).drew.trans hb5
 refine hK21.out _ _ (fun p hp _=>hb6.cell hp) fun hH=>?_
 refine ta 22 (.slice (some ⟨gW,t.loc.toNat,none⟩) (t.len+3).toNat (dW - t.loc.toNat)) rfl hH ?_
 refine wpAnyH_ready (rs:=[23]) (by kernel_rfl) (by simp) ?_
 refine AllReadyH.cons rfl (fun K23 hK23=>?_) AllReadyH.nil
 have o5:=HO0.out.below hb6
 refine zu9 rfl (.tmp 23) (.tmp 36) rfl b gW h.otop.toNat t.loc.toNat (t.len+3).toNat (h.words.length - h.otop.toNat) (dW - h.otop.toNat) (dW - t.loc.toNat) dW h.words o5.rW rfl rfl (by omega) (by omega) (by omega) ?_
 intro w4 hg4 ho4
 refine hK23.out _ _ (fun p hp hne=>(World.cell?_of_block (a:=p) (hg4.block p.block (Nat.lt_of_lt_of_le hp hb6.size) (fun e=>hne (Option.some.inj e)))).trans (hb6.cell hp)) fun hH=>?_
 refine wpAnyH_done (by kernel_rfl) ?_ _
 clear hH
 try simp only [Act.put,List.setIfInBounds_toArray,List.set_cons_zero,List.set_cons_succ,List.getElem_toArray,List.getElem_cons_zero,List.getElem_cons_succ]
 obtain ⟨o4,hb4⟩:=o5.words (k:=gW) rfl hg4 ho4
 have hs4:=hg4.size
 have hs5:=hb6.size
 have kp4:=(hg4.block w.heap.size (by omega) (fun e=>by have:=HLT.out.2.2.2.1 gW rfl;have:=Option.some.inj e;omega)).trans ((hb6.block _ lP).trans HP0.out)
 have HP4:=mk0 kp4
 have hbw4:Mvd w.heap.size T M X (.slice (some ⟨gW,0,none⟩) h.words.length dW) (.slice aG mv.length cG) w (.slice aG mv.length cG) w4:=HB0.out.trans ((Mvd.ofBelow (hb6.mono (by omega))).trans (Mvd.ofGrown hg4 (Or.inr (Or.inr (Or.inr (Or.inl rfl))))))
 have HB4:=mk0 hbw4
 have o4d:=o4.below (Below.refl _ _).drew
 have HO4:=mk0 o4d
 have lM4:=lt0 o4.mvr
 have lP4:=lt0 kp4
 have mm1:=cl0 o4.mvr 1 (x:=.map (some X)) rfl
 have pp0:=cl0 kp4 0 (x:=.int .i64 t.loc) rfl
 obtain ⟨D,hown,hD⟩:=o4d.mp
 have hkey:keyOf Tryz.prog 3 (.int .i64 t.loc)=some (ikey t.loc):=keyOf_int_mk Tryz.underlying3 (WalkArith.wf_i64 (by omega))
 obtain ⟨w11,hrun,hown11,hg11⟩:=World.ownsMap.update (w:=w4.drew) hown law3 Tryz.underlying194 (by unfold maxLen;omega) hkey (plainElem_int (H:=Unit) Tryz.underlying3 (a:=h.otop) (WalkArith.wf_i64 (by omega)))
 have HGX:=mk0 hg11
 have hnw:NwMap w11 X (mv++ [(t.loc,(⟨h.otop,t.tag,t.len,t.hash⟩:ThD))]):=⟨_,by rw [List.length_append];exact hown11,zu5 hD (hown.tidy law3) (t.loc,(⟨h.otop,t.tag,t.len,t.hash⟩:ThD))⟩
 obtain ⟨o11,hb11⟩:=HO4.out.map hg11 hnw
 have kp11:=(hg11.block w.heap.size lP4 (fun e=>by have:=HLT.out.2.2.1;have:=Option.some.inj e;omega)).trans kp4
 have pp:=cl0 kp11 0 (x:=.int .i64 t.loc) rfl
 have pz:=zcf kp11 0
 have pl:=lt0 kp11
 obtain ⟨W12,hW12⟩:∃W12,W12=w11.setCell ⟨w.heap.size,0,none⟩ (.int .i64 h.otop):=⟨_,rfl⟩
 have hg12:w11.grownBy W12 (some w.heap.size):=hW12 ▸ za8 (World.grownBy.refl _ _) _ _ (Or.inl rfl)
 have kp12:W12.heap[w.heap.size]? =some (.cells #[.int .i64 h.otop,.int .i64 t.tag,.int .i64 t.len,.int .i64 t.hash] 101 (0,0)):=hW12 ▸ zg6 kp11 _
 obtain ⟨o12,hb12⟩:=o11.other hg12 hbw HLT.out
 have HO12:=mk0 o12
 have HP12:=mk0 kp12
 have HW12:=mk0 hW12
 have HB12:Hid (Mvd w.heap.size T M X (.slice (some ⟨gW,0,none⟩) h.words.length dW) (.slice aG mv.length cG) w (.slice aG mv.length cG) W12):=HB4.out.trans (((Mvd.ofBelow (Below.refl _ w4).drew).trans (Mvd.ofGrown hg11 (Or.inr (Or.inr (Or.inl rfl))))).trans (Mvd.ofGrown hg12 (Or.inr (Or.inr (Or.inr (Or.inr (Nat.le_refl _)))))))
 have n0:=cl0 o12.mvr 0 (x:=.pointer (some ⟨T,0,none⟩)) rfl
 have n4:=cl0 o12.blk 4 (x:=.int .i64 h.otop) rfl
 have lM12:=lt0 o12.mvr
 have lT12:=lt0 o12.blk
 have lP12:=lt0 kp12
 have u0:=cl0 kp12 0 (x:=.int .i64 h.otop) rfl
 have u1:=cl0 kp12 1 (x:=.int .i64 t.tag) rfl
 have u2:=cl0 kp12 2 (x:=.int .i64 t.len) rfl
 have u3:=cl0 kp12 3 (x:=.int .i64 t.hash) rfl
 clear o4 hb4 hg4 ho4 o5 hb5 hb6 kp4 hbw4 o4d hown hD hkey hown11 hg11 hnw o11 hb11 kp11 hg12 kp12 o12 hb12 HO4 HO0 HEN m0 m1 m2 a0 a4 p0 p1 p2 p3 hW12 hs4 hs5
 go_wp2_with fail
 refine wp_region_held_drew (S:=fun W'=>∀p:Addr,p.block<w4.heap.size->p.block≠X->W'.cell? p=w4.cell? p) (by kernel_rfl) (fun p hp _=>rfl) fun hH=>?_
 refine ta 0 (.pointer (some ⟨M,0,none⟩)) rfl hH ?_
 refine ta 1 (.pointer (some ⟨M,0,none⟩)) rfl hH ?_
 refine ta 2 (.pointer (some ⟨M,1,none⟩)) rfl hH ?_
 refine ta 3 (.map (some X)) rfl hH ?_
 refine ta 4 (.pointer (some ⟨w.heap.size,0,none⟩)) rfl hH ?_
 refine ta 5 (.int .i64 t.loc) rfl hH ?_
 refine ta 6 (.int .i64 h.otop) rfl hH ?_
 refine wpAnyH_ready (rs:=[7]) (by kernel_rfl) (by simp) ?_
 refine AllReadyH.cons rfl (fun K7 hK7=>?_) AllReadyH.nil
 go_simp
 refine hK7.out _ _ (fun p hp hne=>World.cell?_of_block (a:=p) (HGX.out.block p.block hp (fun e=>hne (Option.some.inj e)))) fun hH=>?_
 refine wpAnyH_done (by kernel_rfl) ?_ _
 clear hH
 try simp only [Act.put,List.setIfInBounds_toArray,List.set_cons_zero,List.set_cons_succ,List.getElem_toArray,List.getElem_cons_zero,List.getElem_cons_succ]
 go_wp2_with fail
 rw [<-HW12.out]
 refine zr5 (fun W'=>∀p:Addr,p.block<W12.heap.size->W'.cell? p=W12.cell? p) 9 (by kernel_rfl) (fun p hp=>rfl) fun hH=>?_
 refine zr2 0 (.pointer (some ⟨M,0,none⟩)) rfl (by kernel_rfl) (by kernel_rfl) (fun _ _ _ h=>h) ?_ hH ?_
 ·
  intro w
  go_simp
 refine zr2 1 (.pointer (some ⟨M,0,none⟩)) rfl (by kernel_rfl) (by kernel_rfl) (fun _ _ _ h=>h) ?_ hH ?_
 ·
  intro w
  go_simp
 refine zr2 2 (.pointer (some ⟨M,0,none⟩)) rfl (by kernel_rfl) (by kernel_rfl) (fun _ _ _ h=>h) ?_ hH ?_
 ·
  intro w
  go_simp
 refine zr1 3 (.pointer (some ⟨T,0,none⟩)) rfl (by kernel_rfl) (by kernel_rfl) (by kernel_rfl) (fun _ _ _ h=>h) ?_ hH ?_
 ·
  intro w hSw;go_simp
 refine zr1 4 (.agg #[.int .i64 h.otop,.int .i64 t.tag,.int .i64 t.len,.int .i64 t.hash]) rfl (by kernel_rfl) (by kernel_rfl) (by kernel_rfl) (fun _ _ _ h=>h) ?_ hH ?_
 ·
  intro w hSw;go_simp
 refine zr3 (rs:=[5]) (by kernel_rfl) (by simp) ?_
 refine TilR.cons rfl (fun K5 hK5=>?_) TilR.nil
 go_simp
 refine (HEN2.out _).mono ?_
 rintro r w5 ⟨rfl,hb5⟩
 have hb6:Below W12.heap.size W12 w5:=(Below.refl W12.heap.size W12).drew.trans hb5
 have hH:=fun (p:Addr) (hp:p.block<W12.heap.size)=>hb6.cell hp
 refine hK5.out _ _ (fun _ _=>hH) ?_
 refine zr2 6 (.pointer (some ⟨T,0,none⟩)) rfl (by kernel_rfl) (by kernel_rfl) (fun _ _ _ h=>h) ?_ hH ?_
 ·
  intro w
  go_simp
 refine zr2 7 (.pointer (some ⟨T,0,none⟩)) rfl (by kernel_rfl) (by kernel_rfl) (fun _ _ _ h=>h) ?_ hH ?_
 ·
  intro w
  go_simp
 refine zr2 8 (.pointer (some ⟨T,4,none⟩)) rfl (by kernel_rfl) (by kernel_rfl) (fun _ _ _ h=>h) ?_ hH ?_
 ·
  intro w
  go_simp
 have o5:=HO12.out.below hb6
 have x4:=cl0 o5.blk 4 (x:=.int .i64 h.otop) rfl
 have x5:=zcf o5.blk 4
 have x6:=lt0 o5.blk
 refine zr3 (rs:=[9]) (by kernel_rfl) (by simp) ?_
 refine TilR.cons rfl (fun K9 hK9=>?_) TilR.nil
 go_simp
 refine hK9.out _ _ (fun h=>absurd rfl h) ?_
 obtain ⟨W13,hW13⟩:∃W13,W13=w5.setCell ⟨T,4,none⟩ (.int .i64 (h.otop+3+t.len)):=⟨_,rfl⟩
 rw [<-hW13]
 refine zr4 (by kernel_rfl) ?_ _
 try simp only [Act.put,List.setIfInBounds_toArray,List.set_cons_zero,List.set_cons_succ,List.getElem_toArray,List.getElem_cons_zero,List.getElem_cons_succ]
 have hg13:w5.grownBy W13 (some T):=hW13 ▸ za8 (World.grownBy.refl _ _) _ _ (Or.inl rfl)
 obtain ⟨o13,hb13⟩:=o5.task (h':=moveW h t) (nO':=.slice aO h.noted.length cO) hg13 (hW13 ▸ zg6 o5.blk _) rfl (o5.rO.kept hg13 (Or.inr fun e=>zu6 o5.sep (i:=0) (j:=4) (by decide) rfl (congrArg some e))) (Or.inl rfl)
 have kp13:=(hg13.block w.heap.size (Nat.lt_of_lt_of_le lP12 hb6.size) (fun e=>by have:=HLT.out.1;have:=Option.some.inj e;omega)).trans ((hb6.block _ lP12).trans HP12.out)
 have HP13:=mk0 kp13
 have HO13:=mk0 o13
 have HB13:Hid (Mvd w.heap.size T M X (.slice (some ⟨gW,0,none⟩) h.words.length dW) (.slice aG mv.length cG) w (.slice aG mv.length cG) W13):=HB12.out.trans ((Mvd.ofBelow (hb6.mono (by have:=HB12.out.size;omega))).trans (Mvd.ofGrown hg13 (Or.inl rfl)))
 have HSZ:Hid (w.heap.size<=W13.heap.size):=HB13.out.size
 have lM13:=lt0 o13.mvr
 have lP13:=lt0 kp13
 have v2:=cl0 o13.mvr 2 (x:=.slice aG mv.length cG) rfl
 have v10:=cl0 kp13 0 (x:=.int .i64 h.otop) rfl
 have v11:=cl0 kp13 1 (x:=.int .i64 t.tag) rfl
 have v12:=cl0 kp13 2 (x:=.int .i64 t.len) rfl
 have v13:=cl0 kp13 3 (x:=.int .i64 t.hash) rfl
 clear hg13 o13 hb13 kp13 o5 hb6 hb5 x4 x5 x6 hW13 HO12 HB12 HEN2 hH n0 n4 u0 u1 u2 u3
 go_wp2_with fail
 refine zr5 (fun W'=>W'.cell? ⟨M,2,none⟩=some (.slice aG mv.length cG)/\W'.cell? ⟨w.heap.size,0,none⟩=some (.int .i64 h.otop)/\W'.cell? ⟨w.heap.size,1,none⟩=some (.int .i64 t.tag)/\W'.cell? ⟨w.heap.size,2,none⟩=some (.int .i64 t.len)/\W'.cell? ⟨w.heap.size,3,none⟩=some (.int .i64 t.hash)) 10 (by kernel_rfl) ⟨v2,v10,v11,v12,v13⟩ fun hH=>?_
 obtain ⟨V0,hV0⟩:∃V0,V0=W13.drew:=⟨_,rfl⟩
 rw [<-hV0]at hH ⊢
 have hbV:Below W13.heap.size W13 V0:=hV0 ▸ (Below.refl _ _).drew
 have hzV:V0.heap.size<=W13.heap.size/\W13.heap.size<=V0.heap.size:=by rw [hV0];exact ⟨Nat.le_refl _,Nat.le_refl _⟩
 clear hV0
 refine zr2 0 (.pointer (some ⟨M,0,none⟩)) rfl (by kernel_rfl) (by kernel_rfl) (fun _ _ _ h=>h) ?_ hH ?_
 ·
  intro w
  go_simp
 refine zr2 1 (.pointer (some ⟨M,0,none⟩)) rfl (by kernel_rfl) (by kernel_rfl) (fun _ _ _ h=>h) ?_ hH ?_
 ·
  intro w
  go_simp
 refine zr2 2 (.pointer (some ⟨M,0,none⟩)) rfl (by kernel_rfl) (by kernel_rfl) (fun _ _ _ h=>h) ?_ hH ?_
 ·
  intro w
  go_simp
 refine zr2 3 (.pointer (some ⟨M,2,none⟩)) rfl (by kernel_rfl) (by kernel_rfl) (fun _ _ _ h=>h) ?_ hH ?_
 ·
  intro w
  go_simp
 refine zr1 4 (.slice aG mv.length cG) rfl (by kernel_rfl) (by kernel_rfl) (by kernel_rfl) (fun _ _ _ h=>h) ?_ hH ?_
 ·
  intro w hSw
  obtain ⟨s0,s1,s2,s3,s4⟩:=hSw
  go_simp
 refine zr1 5 (.agg #[.int .i64 h.otop,.int .i64 t.tag,.int .i64 t.len,.int .i64 t.hash]) rfl (by kernel_rfl) (by kernel_rfl) (by kernel_rfl) (fun _ _ _ h=>h) ?_ hH ?_
 ·
  intro w hSw
  obtain ⟨s0,s1,s2,s3,s4⟩:=hSw
  go_simp
 refine zr3 (rs:=[6]) (by kernel_rfl) (by simp) ?_
 refine TilR.cons rfl (fun K6 hK6=>?_) TilR.nil
 go_simp
 obtain ⟨V6,hV6⟩:∃V6,V6=V0.alloc (.cells #[.int .i64 h.otop,.int .i64 t.tag,.int .i64 t.len,.int .i64 t.hash] 101):=⟨_,rfl⟩
 rw [<-hV6]
 have hb6:Below W13.heap.size W13 V6:=hV6 ▸ hbV.alloc (by omega) _
 have hn6:V6.heap[V0.heap.size]? =some (.cells #[.int .i64 h.otop,.int .i64 t.tag,.int .i64 t.len,.int .i64 t.hash] 101 (0,0)):=hV6 ▸ heap_alloc_new V0 _
 have kp6:=(hb6.block _ (lt0 HP13.out)).trans HP13.out
 have o6:=HO13.out.below hb6
 have hH:V6.cell? ⟨M,2,none⟩=some (.slice aG mv.length cG)/\V6.cell? ⟨w.heap.size,0,none⟩=some (.int .i64 h.otop)/\V6.cell? ⟨w.heap.size,1,none⟩=some (.int .i64 t.tag)/\V6.cell? ⟨w.heap.size,2,none⟩=some (.int .i64 t.len)/\V6.cell? ⟨w.heap.size,3,none⟩=some (.int .i64 t.hash):=⟨cl0 o6.mvr 2 rfl,cl0 kp6 0 rfl,cl0 kp6 1 rfl,cl0 kp6 2 rfl,cl0 kp6 3 rfl⟩
 refine hK6.out _ _ (fun _ _=>hH) ?_
 refine zr3 (rs:=[7]) (by kernel_rfl) (by simp) ?_
 refine TilR.cons rfl (fun K7 hK7=>?_) TilR.nil
 refine step_append_lies _ rfl (.tmp 60) (.tmp 62) 182 rfl b 101 iT (.agg #[.int .i64 0,.int .i64 0,.int .i64 0,.int .i64 0]) 4 32 Tryz.underlying182 hiT hzT0 hzT1 hzT2 rfl (by decide) (.slice aG mv.length cG) mv.length (thCells (mv.map (·.2))) rfl o6.rG ⟨V0.heap.size,0,none⟩ 1 1 [.int .i64 h.otop,.int .i64 t.tag,.int .i64 t.len,.int .i64 t.hash] rfl rfl (World.news_of_block hn6) (by intro u hu;simp at hu;rcases hu with rfl | rfl | rfl | rfl<;>rfl) (by decide) (by unfold maxLen;omega) (by omega) (by have:=o6.bT;have:=lt0 o6.blk;omega) _ rfl ?_
 intro gA cA w9 hown9 hgr9 hA9 hlt9
 have k9:w9.heap[M]? =some (.cells #[.pointer (some ⟨T,0,none⟩),.map (some X),.slice aG mv.length cG] 196 (0,0)):=(hgr9.block M (lt0 o6.mvr) (fun e=>zu6 o6.sep (i:=1) (j:=6) (by decide) rfl (congrArg some e.symm))).trans o6.mvr
 have kp9:=(hgr9.block _ (lt0 kp6) (fun e=>by have:=HGL.out _ e.symm;omega)).trans kp6
 have hH:w9.cell? ⟨M,2,none⟩=some (.slice aG mv.length cG)/\w9.cell? ⟨w.heap.size,0,none⟩=some (.int .i64 h.otop)/\w9.cell? ⟨w.heap.size,1,none⟩=some (.int .i64 t.tag)/\w9.cell? ⟨w.heap.size,2,none⟩=some (.int .i64 t.len)/\w9.cell? ⟨w.heap.size,3,none⟩=some (.int .i64 t.hash):=⟨cl0 k9 2 rfl,cl0 kp9 0 rfl,cl0 kp9 1 rfl,cl0 kp9 2 rfl,cl0 kp9 3 rfl⟩
 have x5:=zcf k9 2
 have x6:=lt0 k9
 have x4:=cl0 k9 2 (x:=.slice aG mv.length cG) rfl
 obtain ⟨om,-,hbm⟩:=o6.more (q:=(t.loc,(⟨h.otop,t.tag,t.len,t.hash⟩:ThD))) hgr9 hown9 (hA9.imp id fun e=>by omega) rfl
 have HOM:=mk0 (And.intro om (HB13.out.trans ((Mvd.ofBelow (hb6.mono HSZ.out)).trans (hbm _ (by have:=hb6.size;have:=HSZ.out;omega)))))
 clear hn6 hown9 hgr9 hA9 om hbm kp6 kp9 o6
 refine hK7.out _ _ (fun _ _=>hH) ?_
 refine zr2 8 (.pointer (some ⟨M,0,none⟩)) rfl (by kernel_rfl) (by kernel_rfl) (fun _ _ _ h=>h) ?_ hH ?_
 ·
  intro w
  go_simp
 refine zr2 9 (.pointer (some ⟨M,2,none⟩)) rfl (by kernel_rfl) (by kernel_rfl) (fun _ _ _ h=>h) ?_ hH ?_
 ·
  intro w
  go_simp
 refine zr3 (rs:=[10]) (by kernel_rfl) (by simp) ?_
 refine TilR.cons rfl (fun K10 hK10=>?_) TilR.nil
 go_simp
 refine hK10.out _ _ (fun h=>absurd rfl h) ?_
 refine zr4 (by kernel_rfl) ?_ _
 try simp only [Act.put,List.setIfInBounds_toArray,List.set_cons_zero,List.set_cons_succ,List.getElem_toArray,List.getElem_cons_zero,List.getElem_cons_succ]
 go_wp2_with fail
 go_ret
 exact ⟨rfl,_,HOM.out.1,HOM.out.2⟩
theorem zvb {s:MvS} {v:Int} (h:youngB s.h v=false):s.lead v=s/\s.dst v=v:=by
 unfold MvS.lead MvS.dst
 rw [h]
 exact ⟨rfl,rfl⟩
theorem zvc {s:MvS} {v tt:Int} (h:youngB s.h v=true) (hn:nowAt s.mv v=some tt):s.lead v=s/\s.dst v=tt:=by
 unfold MvS.lead MvS.dst
 rw [h,hn]
 exact ⟨rfl,rfl⟩
theorem zvd {s:MvS} {v:Int} (h:youngB s.h v=true) (hn:nowAt s.mv v=none):s.lead v=s.move (thAt s.h.words v)/\s.dst v=s.h.otop:=by
 unfold MvS.lead MvS.dst
 rw [h,hn]
 exact ⟨rfl,rfl⟩
theorem zve (w:World) (b B T M X:Nat) (nW nO nR gv kC kS kF kN kT:Value) (s:MvS) (rs:List Int) (d:LinkD) (o:Mo b B w T M X nW nO nR gv kC kS kF kN kT s.h s.mv s.mv rs d) (v:Int) (hv:(Lit.int .i64 v).wf=true) (hc:youngB s.h v=true->nowAt s.mv v=none->Can d s v) (h5:s.h.words.length<=1000000) (h7:s.h.noted.length<=1000000) (h6:s.mv.length<=1000000):
 Calls Tryz.prog 139 #[.pointer (some ⟨M,0,none⟩),.int .i64 v] w fun r w'=>r=.returned (.int .i64 (s.dst v))/\(∃gv',Mo b B w' T M X nW nO nR gv' kC kS kF kN kT (s.lead v).h (s.lead v).mv (s.lead v).mv rs d/\Mvd w.heap.size T M X nW gv w gv' w'):=by
 have HIY:=mk0 (ze0 w _ T _ _ _ _ _ _ _ _ d (o.gd h5 h7) v)
 have HO:=mk0 o
 have m0:=cl0 o.mvr 0 (x:=.pointer (some ⟨T,0,none⟩)) rfl
 have m1:=cl0 o.mvr 1 (x:=.map (some X)) rfl
 have lM:=lt0 o.mvr
 cases hy:youngB s.h v with
 | false=>
   have HE:=mk0 (zvb hy)
   rw [hy]at HIY
   clear o hc hy
   go_enter Tryz.func139,Tryz.ntmps139
   go_wp2_with fail
   refine HIY.out.mono ?_
   rintro r _ ⟨rfl,rfl⟩
   go_wp2_with fail
   go_ret
   exact ⟨by rw [HE.out.2];rfl,gv,by rw [HE.out.1];exact HO.out,Mvd.ofBelow (Below.refl _ _)⟩
 | true=>
   rw [hy]at HIY
   obtain ⟨D,hown,hD⟩:=o.mp
   have hkey:keyOf Tryz.prog 3 (.int .i64 v)=some (ikey v):=keyOf_int_mk Tryz.underlying3 hv
   have HD:=mk0 hD
   have HK:=mk0 hkey
   cases hn:nowAt s.mv v with
   | some tt=>
     have HE:=mk0 (zvc hy hn)
     have HN:=mk0 hn
     clear o hc hy hn hD hkey
     go_enter Tryz.func139,Tryz.ntmps139
     go_wp2_with fail
     refine HIY.out.mono ?_
     rintro r _ ⟨rfl,rfl⟩
     go_wp2_with (at_lookup;refine wpList_lookup_own_ok_int _ rfl _ _ 194 rfl 3 3 .i64 law3 Tryz.underlying194 Tryz.underlying3 (zero3 _) X s.mv.length D rfl hown _ _ rfl HK.out ?_)
     intro c hat hw
     have hce:c=tt:=by
      have e:=hat
      rw [HD.out.at_ v tt _ HN.out]at e
      exact ((Lit.int.inj (DataW.lit.inj e)).2).symm
     rw [HD.out.has v,HN.out]
     subst hce
     clear hat hw hown
     go_wp2_with fail
     go_ret
     exact ⟨by rw [HE.out.2];rfl,gv,by rw [HE.out.1];exact HO.out,Mvd.ofBelow (Below.refl _ _)⟩
   | none=>
     have HE:=mk0 (zvd hy hn)
     have HN:=mk0 hn
     have ca:=hc hy hn
     have c1:=ca.lo
     have c2:=ca.fin
     have c3:=ca.fit.lo
     have c4:=ca.room
     have c5:=ca.top
     have c6:(thAt s.h.words v).fin=v+3+(thAt s.h.words v).len:=rfl
     obtain ⟨n,rfl⟩:∃n:Nat,v=(n:Int):=⟨v.toNat,by omega⟩
     have HTH:=mk0 (ze9 w _ T _ _ _ _ _ _ _ _ d (o.gd h5 h7) n (by omega))
     have HMV:=mk0 (fun W (hW:Below w.heap.size w W)=>zva W b B T M X _ _ _ _ _ _ _ _ _ s.h s.mv rs d (HO.out.below hW) (thAt s.h.words n) ca.fit ca.lo ca.fin ca.room ca.top h5 h6)
     generalize htt:thAt s.h.words n=t at*
     have HTT:=mk0 htt
     unfold thV at HTH HMV
     clear o hc hy hn hD hkey ca c1 c2 c3 c4 c5 c6 htt
     go_enter Tryz.func139,Tryz.ntmps139
     go_wp2_with fail
     refine HIY.out.mono ?_
     rintro r _ ⟨rfl,rfl⟩
     go_wp2_with (at_lookup;refine wpList_lookup_own_ok_int _ rfl _ _ 194 rfl 3 3 .i64 law3 Tryz.underlying194 Tryz.underlying3 (zero3 _) X s.mv.length D rfl hown _ _ rfl HK.out ?_)
     intro c hat hw
     rw [HD.out.has (n:Int),HN.out]
     clear hat hw hown
     go_wp2_with fail
     refine HTH.out.mono ?_
     rintro r w1 ⟨rfl,hb1⟩
     have HB1:=mk0 hb1
     have HM1:=mk0 (HMV.out w1 hb1)
     clear hb1 HTH HMV
     go_wp2_with fail
     refine HM1.out.mono ?_
     rintro r w2 ⟨rfl,gv2,o2,hm2⟩
     have HF:=mk0 (And.intro o2 hm2)
     clear o2 hm2 HM1
     go_wp2_with fail
     go_ret
     have ht:t.loc=(n:Int):=by rw [<-HTT.out];rfl
     refine ⟨by rw [HE.out.2];rfl,gv2,?_,(Mvd.ofBelow HB1.out).trans (HF.out.2.mono HB1.out.size)⟩
     rw [HE.out.1]
     exact HF.out.1
theorem zvf {L T M X B e n len:Nat} {nW gv gv' v:Value} {w w':World} {xs:List Value} (h:w.ownsRow B e n v len xs) (k:Mvd L T M X nW gv w gv' w') (hj:∀j,v.ownBlock=some j->j<w.heap.size->j<L/\j≠T/\j≠M/\j≠X/\nW.ownBlock≠some j/\gv.ownBlock≠some j):w'.ownsRow B e n v len xs:=by
 refine ⟨h.1,h.2.imp id ?_⟩
 rintro ⟨g,cap,cur,e1,e2,e3,e4⟩
 have q:=hj g (by rw [e1];rfl) (lt0 e3)
 exact ⟨g,cap,cur,e1,e2,(k.block g q.1 (lt0 e3) q.2.1 q.2.2.1 q.2.2.2.1 q.2.2.2.2.1 q.2.2.2.2.2).trans e3,e4⟩
theorem zvg (s:MvS) (l:List Int) (k:Nat) (hk:k<l.length):s.refs (l.take (k+1))=(s.refs (l.take k)).ref l[k]:=by
 unfold MvS.refs
 rw [List.take_succ_eq_append_getElem hk,List.foldl_append]
 rfl
structure CanAt (d:LinkD) (s:MvS) (h:HeapD) (a:Int):Prop where
 wf:(Lit.int .i64 (wd s.h.words a)).wf=true
 can:youngB s.h (wd s.h.words a)=true->nowAt s.mv (wd s.h.words a)=none->Can d s (wd s.h.words a)
 lo:0<=a
 hi:a<s.h.words.length
 wl:s.h.words.length=h.words.length
 wn:s.h.noted=h.noted
 few:s.mv.length<=1000000
 len2:(s.lead (wd s.h.words a)).h.words.length=s.h.words.length
theorem zvh (w:World) (b B T M X:Nat) (nW nO nR gv kC kS kF kN kT:Value) (s:MvS) (rs:List Int) (d:LinkD) (o:Mo b B w T M X nW nO nR gv kC kS kF kN kT s.h s.mv s.mv rs d) (x:ThD) (hf:FitT d x) (hlo:0<=x.loc/\x.loc<=100000) (hle:x.len<=100000) (h5:s.h.words.length<=1000000) (h7:s.h.noted.length<=1000000)
 (hc:∀k (hk:k<(refsOf d.fields x).length),CanAt d (s.refs ((refsOf d.fields x).take k)) s.h (refsOf d.fields x)[k]):
 Calls Tryz.prog 140 #[.pointer (some ⟨M,0,none⟩),thV x] w fun r w'=>r=.returned (.tuple #[])/\(∃gv',Mo b B w' T M X nW nO nR gv' kC kS kF kN kT (s.refs (refsOf d.fields x)).h (s.refs (refsOf d.fields x)).mv (s.refs (refsOf d.fields x)).mv rs d/\Mvd w.heap.size T M X nW gv w gv' w'):=by
 obtain ⟨W0,hW0,hB0,hs0,kp⟩:=boxes1 w #[.int .i64 x.loc,.int .i64 x.tag,.int .i64 x.len,.int .i64 x.hash] 101
 have o0:=o.below hB0
 have HO0:=mk0 o0
 have HRF:=mk0 (zht W0.drew _ T _ _ _ _ _ _ _ s.h d ((o0.below (Below.refl _ _).drew).gd h5 h7) x hf hlo hle)
 have HB0:=mk0 hB0
 have HE0:=mk0 hW0
 have m0:=cl0 o0.mvr 0 (x:=.pointer (some ⟨T,0,none⟩)) rfl
 have lM:=lt0 o0.mvr
 have lP:=lt0 kp
 have p0:=cl0 kp 0 (x:=.int .i64 x.loc) rfl
 have p1:=cl0 kp 1 (x:=.int .i64 x.tag) rfl
 have p2:=cl0 kp 2 (x:=.int .i64 x.len) rfl
 have p3:=cl0 kp 3 (x:=.int .i64 x.hash) rfl
 have HC:=mk0 hc
 have HL7:=mk0 (And.intro h5 h7)
 have hrl:(refsOf d.fields x).length<=100000:=Nat.le_trans (zhr d.fields x x.len.toNat) (by omega)
 generalize refsOf d.fields x=l at*
 unfold thV at HRF ⊢
 clear hc hB0 hW0 kp o0 h5 h7 hf hs0
 go_enter Tryz.func140,Tryz.ntmps140
 go_wp2_with fail
 rw [<-HE0.out]
 refine wp_region_held_drew (S:=fun W'=>∀p:Addr,p.block<W0.heap.size->W'.cell? p=W0.cell? p) (by kernel_rfl) (fun p hp=>rfl) fun hH=>?_
 refine ta 0 (.pointer (some ⟨M,0,none⟩)) rfl hH ?_
 refine ta 1 (.pointer (some ⟨M,0,none⟩)) rfl hH ?_
 refine ta 2 (.pointer (some ⟨M,0,none⟩)) rfl hH ?_
 refine ta 3 (.pointer (some ⟨T,0,none⟩)) rfl hH ?_
 refine ta 4 (.agg #[.int .i64 x.loc,.int .i64 x.tag,.int .i64 x.len,.int .i64 x.hash]) rfl hH ?_
 refine ta 7 (.int .i64 0) rfl hH ?_
 refine wpAnyH_ready (rs:=[5]) (by kernel_rfl) (by simp) ?_
 refine AllReadyH.cons rfl (fun K5 hK5=>?_) AllReadyH.nil
 go_simp
 refine HRF.out.mono ?_
 rintro r w1 ⟨hb1,vl,rfl,hol⟩
 obtain ⟨aL,cL,rfl⟩:=zfz hol
 refine hK5.out _ _ (fun p hp=>((Below.refl W0.heap.size W0).drew.trans hb1).cell hp) fun hH=>?_
 refine ta 6 (.int .i64 (l.length:Int)) rfl hH ?_
 refine wpAnyH_done (by kernel_rfl) ?_ _
 clear hH
 try simp only [Act.put,List.setIfInBounds_toArray,List.set_cons_zero,List.set_cons_succ,List.getElem_toArray,List.getElem_cons_zero,List.getElem_cons_succ]
 have hb01:Below w.heap.size w w1:=HB0.out.trans (((Below.refl W0.heap.size W0).drew.trans hb1).mono HB0.out.size)
 have ho1:=HO0.out.below ((Below.refl W0.heap.size W0).drew.trans hb1)
 have HO1:=mk0 ho1
 have HB1:=mk0 hb01
 have HOL:=mk0 hol
 have HLT:=mk0 (And.intro o.lts (And.intro HB0.out.size hb1.size))
 clear hb1 hb01 ho1 hol HRF HO0 m0 p0 p1 p2 p3 lM lP hH o
 go_wp2_with fail
 go_loopw [13] (fun i wr=>∃(k:Nat) (gv1:Value),i=.int .i64 k/\k<=l.length/\Hid (Mo b B wr T M X nW nO nR gv1 kC kS kF kN kT (s.refs (l.take k)).h (s.refs (l.take k)).mv (s.refs (l.take k)).mv rs d/\Mvd w1.heap.size T M X nW gv w1 gv1 wr)) (fun i _=>l.length - (intOf i).toNat)
 case atStart=>exact ⟨0,gv,rfl,Nat.zero_le _,HO1.out,Mvd.ofBelow (Below.refl _ _)⟩
 case round=>
  obtain ⟨k,gv1,rfl,hk,HI⟩:=hrel
  by_cases hlt:k<l.length
  ·
   have hrow:wr.ownsRow W0.drew.heap.size 3 1 (.slice aL l.length cL) l.length (intV l):=zvf HOL.out HI.out.2 (fun j e1 e2=>by have h0:=(HOL.out.lt j e1).1;have h1:=HLT.out.1;have h2:=HLT.out.2;have h3:W0.drew.heap.size=W0.heap.size:=rfl;have h4:=h1.2.2.2.2.2.2 j;have h5:=h1.2.2.2.1 j;exact ⟨by omega,by omega,by omega,by omega,fun q=>by have:=h5 q;omega,fun q=>by have:=h4 q;omega⟩)
   obtain ⟨bl,off,rfl,hbl,e0⟩:=(zfb hrow (by omega)).atI k hlt
   have hca:=HC.out k hlt
   have hrt:=zvg s l k hlt
   obtain ⟨a,ha⟩:∃a:Nat,l[k]=(a:Int):=⟨l[k].toNat,by have:=hca.lo;omega⟩
   rw [ha]at e0 hca hrt
   have hMI:=HI.out.1
   generalize s.refs (l.take k)=sk at*
   have hal:a<sk.h.words.length:=by have:=hca.hi;omega
   obtain ⟨gW,dW,hnW,hdW⟩:∃gW dW,nW=.slice (some ⟨gW,0,none⟩) s.h.words.length dW/\s.h.words.length<=dW:=by
    rcases hMI.rW.2 with ⟨e,h0⟩ | ⟨g,cap,cur,e,-,-,hc,-⟩
    ·
     omega
    exact ⟨g,cap,by rw [e,hca.wl],by rw [<-hca.wl];exact hc⟩
   subst hnW
   have hrW:=hMI.rW
   rw [<-hca.wl]at hrW
   have xv:=(hrW.cellAt a (by rw [Nat.mul_one];exact hal)).trans (zni hal)
   rw [<-zen hal]at xv
   have HLD:=mk0 (zve wr.drew b B T M X _ _ _ _ _ _ _ _ _ sk rs d (hMI.below (Below.refl _ _).drew) (wd sk.h.words a) hca.wf hca.can (by rw [hca.wl];exact HL7.out.1) (by rw [hca.wn];exact HL7.out.2) hca.few)
   have m0:=cl0 hMI.mvr 0 (x:=.pointer (some ⟨T,0,none⟩)) rfl
   have t0:=cl0 hMI.blk 0 (x:=.slice (some ⟨gW,0,none⟩) s.h.words.length dW) rfl
   have lM:=lt0 hMI.mvr
   have lT:=lt0 hMI.blk
   have lW:=(hMI.rW.lt gW rfl).2
   have HLN:Hid (a<(sk.lead (wd sk.h.words a)).h.words.length):=by show _<_;rw [hca.len2];exact hal
   have HLE:Hid ((sk.lead (wd sk.h.words a)).h.words.length=s.h.words.length):=hca.len2.trans hca.wl
   have HRT:Hid (s.refs (l.take (k+1))=(sk.lead (wd sk.h.words a)).put a (sk.dst (wd sk.h.words a))):=hrt
   have hwl:(a:Int)<s.h.words.length:=by have:=hca.hi;rw [hca.wl]at this;exact this
   have hw0:(0:Int)<=a:=by omega
   have HMI:=mk0 hMI
   generalize wd sk.h.words a=v at*
   generalize sk.dst v=tv at*
   generalize sk.lead v=sl at*
   clear hrow hca hrt hMI hal hrW
   go_wp2_with fail
   refine zr5 (fun W'=>W'.cell? ⟨M,0,none⟩=some (.pointer (some ⟨T,0,none⟩))/\W'.cell? ⟨T,0,none⟩=some (.slice (some ⟨gW,0,none⟩) s.h.words.length dW)) 23 (by kernel_rfl) ⟨m0,t0⟩ fun hH=>?_
   refine zr2 0 (.pointer (some ⟨M,0,none⟩)) rfl (by kernel_rfl) (by kernel_rfl) (fun _ _ _ h=>h) ?_ hH ?_
   ·
    intro w
    go_simp
   refine zr2 1 (.pointer (some ⟨M,0,none⟩)) rfl (by kernel_rfl) (by kernel_rfl) (fun _ _ _ h=>h) ?_ hH ?_
   ·
    intro w
    go_simp
   refine zr2 2 (.pointer (some ⟨M,0,none⟩)) rfl (by kernel_rfl) (by kernel_rfl) (fun _ _ _ h=>h) ?_ hH ?_
   ·
    intro w
    go_simp
   refine zr1 3 (.pointer (some ⟨T,0,none⟩)) rfl (by kernel_rfl) (by kernel_rfl) (by kernel_rfl) (fun _ _ _ h=>h) ?_ hH ?_
   ·
    intro w hSw
    obtain ⟨s0,s1⟩:=hSw
    go_simp
   refine zr2 4 (.pointer (some ⟨T,0,none⟩)) rfl (by kernel_rfl) (by kernel_rfl) (fun _ _ _ h=>h) ?_ hH ?_
   ·
    intro w
    go_simp
   refine zr2 5 (.pointer (some ⟨T,0,none⟩)) rfl (by kernel_rfl) (by kernel_rfl) (fun _ _ _ h=>h) ?_ hH ?_
   ·
    intro w
    go_simp
   refine zr2 6 (.pointer (some ⟨T,0,none⟩)) rfl (by kernel_rfl) (by kernel_rfl) (fun _ _ _ h=>h) ?_ hH ?_
   ·
    intro w
    go_simp
   refine zr1 7 (.slice (some ⟨gW,0,none⟩) s.h.words.length dW) rfl (by kernel_rfl) (by kernel_rfl) (by kernel_rfl) (fun _ _ _ h=>h) ?_ hH ?_
   ·
    intro w hSw
    obtain ⟨s0,s1⟩:=hSw
    go_simp
   refine zr2 8 (.int .i64 (a:Int)) rfl (by kernel_rfl) (by kernel_rfl) (fun _ _ _ h=>h) ?_ hH ?_
   ·
    intro w
    go_simp
   refine zr2 9 (.pointer (some ⟨M,0,none⟩)) rfl (by kernel_rfl) (by kernel_rfl) (fun _ _ _ h=>h) ?_ hH ?_
   ·
    intro w
    go_simp
   refine zr2 10 (.pointer (some ⟨M,0,none⟩)) rfl (by kernel_rfl) (by kernel_rfl) (fun _ _ _ h=>h) ?_ hH ?_
   ·
    intro w
    go_simp
   refine zr2 11 (.pointer (some ⟨M,0,none⟩)) rfl (by kernel_rfl) (by kernel_rfl) (fun _ _ _ h=>h) ?_ hH ?_
   ·
    intro w
    go_simp
   refine zr2 12 (.pointer (some ⟨M,0,none⟩)) rfl (by kernel_rfl) (by kernel_rfl) (fun _ _ _ h=>h) ?_ hH ?_
   ·
    intro w
    go_simp
   refine zr1 13 (.pointer (some ⟨T,0,none⟩)) rfl (by kernel_rfl) (by kernel_rfl) (by kernel_rfl) (fun _ _ _ h=>h) ?_ hH ?_
   ·
    intro w hSw
    obtain ⟨s0,s1⟩:=hSw
    go_simp
   refine zr2 14 (.pointer (some ⟨T,0,none⟩)) rfl (by kernel_rfl) (by kernel_rfl) (fun _ _ _ h=>h) ?_ hH ?_
   ·
    intro w
    go_simp
   refine zr2 15 (.pointer (some ⟨T,0,none⟩)) rfl (by kernel_rfl) (by kernel_rfl) (fun _ _ _ h=>h) ?_ hH ?_
   ·
    intro w
    go_simp
   refine zr2 16 (.pointer (some ⟨T,0,none⟩)) rfl (by kernel_rfl) (by kernel_rfl) (fun _ _ _ h=>h) ?_ hH ?_
   ·
    intro w
    go_simp
   refine zr1 17 (.slice (some ⟨gW,0,none⟩) s.h.words.length dW) rfl (by kernel_rfl) (by kernel_rfl) (by kernel_rfl) (fun _ _ _ h=>h) ?_ hH ?_
   ·
    intro w hSw
    obtain ⟨s0,s1⟩:=hSw
    go_simp
   refine zr2 18 (.int .i64 (a:Int)) rfl (by kernel_rfl) (by kernel_rfl) (fun _ _ _ h=>h) ?_ hH ?_
   ·
    intro w
    go_simp
   refine zr2 19 (.pointer (some ⟨gW,a,none⟩)) rfl (by kernel_rfl) (by kernel_rfl) (fun _ _ _ h=>h) ?_ hH ?_
   ·
    intro w
    go_simp
   refine zr3 (rs:=[20]) (by kernel_rfl) (by simp) ?_
   refine TilR.cons rfl (fun K20 hK20=>?_) TilR.nil
   go_simp
   refine hK20.out _ _ (fun _ _=>hH) ?_
   refine zr3 (rs:=[21]) (by kernel_rfl) (by simp) ?_
   refine TilR.cons rfl (fun K21 hK21=>?_) TilR.nil
   go_simp
   refine HLD.out.mono ?_
   rintro r w5 ⟨rfl,gv5,o5,hm5⟩
   have hH:w5.cell? ⟨M,0,none⟩=some (.pointer (some ⟨T,0,none⟩))/\w5.cell? ⟨T,0,none⟩=some (.slice (some ⟨gW,0,none⟩) s.h.words.length dW):=⟨cl0 o5.mvr 0 rfl,(cl0 o5.blk 0 rfl)⟩
   refine hK21.out _ _ (fun _ _=>hH) ?_
   refine zr2 22 (.pointer (some ⟨gW,a,none⟩)) rfl (by kernel_rfl) (by kernel_rfl) (fun _ _ _ h=>h) ?_ hH ?_
   ·
    intro w
    go_simp
   have hr5:=o5.rW
   rw [HLE.out]at hr5
   have x4:=(hr5.cellAt a (by rw [Nat.mul_one];omega)).trans (zni HLN.out)
   have x5:=hr5.frozenAt a
   have x6:=(hr5.lt gW rfl).2
   refine zr3 (rs:=[23]) (by kernel_rfl) (by simp) ?_
   refine TilR.cons rfl (fun K23 hK23=>?_) TilR.nil
   go_simp
   refine hK23.out _ _ (fun h=>absurd rfl h) ?_
   obtain ⟨w6,hw6⟩:∃w6,w6=w5.setCell ⟨gW,a,none⟩ (.int .i64 tv):=⟨_,rfl⟩
   rw [<-hw6]
   refine zr4 (by kernel_rfl) ?_ _
   try simp only [Act.put,List.setIfInBounds_toArray,List.set_cons_zero,List.set_cons_succ,List.getElem_toArray,List.getElem_cons_zero,List.getElem_cons_succ]
   obtain ⟨r1,hg⟩:=hr5.stored a (.int .i64 tv)
   rw [<-hw6]at r1 hg
   have HF:Hid (Mo b B w6 T M X (.slice (some ⟨gW,0,none⟩) s.h.words.length dW) nO nR gv5 kC kS kF kN kT (s.refs (l.take (k+1))).h (s.refs (l.take (k+1))).mv (s.refs (l.take (k+1))).mv rs d/\Mvd w1.heap.size T M X (.slice (some ⟨gW,0,none⟩) s.h.words.length dW) gv w1 gv5 w6):=by
    refine ⟨?_,HI.out.2.trans (((Mvd.ofBelow (Below.refl _ wr).drew).trans (hm5.mono HI.out.2.size)).trans (Mvd.ofGrown hg (Or.inr (Or.inr (Or.inr (Or.inl rfl))))))⟩
    rw [HRT.out]
    have:=(o5.words (k:=gW) (ws:=sl.h.words.set a tv) rfl hg (by rw [List.length_set,HLE.out,intV,List.map_set];exact r1)).1
    exact this
   clear o5 hm5 hr5 x4 x5 x6 hH r1 hg hw6 HLD m0 t0 xv HI HMI
   go_wp2_with fail
   go_roundw
   case rel=>exact ⟨k+1,gv5,by go_num,by omega,HF.out⟩
   case measure=>simp [intOf];omega
  have hkl:l.take k=l:=List.take_of_length_le (by omega)
  have HF:Hid (Mo b B wr T M X nW nO nR gv1 kC kS kF kN kT (s.refs l).h (s.refs l).mv (s.refs l).mv rs d/\Mvd w.heap.size T M X nW gv w gv1 wr):=⟨hkl ▸ HI.out.1,(Mvd.ofBelow HB1.out).trans (HI.out.2.mono HB1.out.size)⟩
  go_wp2_with fail
  go_end0
  exact ⟨rfl,gv1,HF.out.1,HF.out.2⟩
end Go.Proofs.YtjdnmblggdobgaaGreat
