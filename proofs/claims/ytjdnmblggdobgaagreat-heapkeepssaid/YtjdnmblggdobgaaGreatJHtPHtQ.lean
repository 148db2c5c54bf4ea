import Derived.Test.YtjdnmblggdobgaaGreatJTk2Dies
import Derived.Test.YtjdnmblggdobgaaGreatHtN
import Derived.Test.YtjdnmblggdobgaaGreatJHmTHmR
set_option maxHeartbeats 4000000
set_option maxRecDepth 100000
namespace Go.Proofs.YtjdnmblggdobgaaGreat
open Go.RowKit Go.Maps
def rowT (h:HeapD) (t:ThD):List Int:=(h.words.take t.fin.toNat).drop (t.loc+3).toNat
theorem zt0 (w:World) (B P0 P1 P2:Nat) (vW vO kC kS kF kN kT:Value) (h:HeapD) (d:LinkD) (g:Hd B w vW vO kC kS kF kN kT h d) (loc:Int) (hwf:(Lit.int .i64 loc).wf=true) (k0:w.heap[P0]? =some (.cells #[vW,.int .i64 h.young,.int .i64 h.old,.int .i64 h.ytop,.int .i64 h.otop,vO,.int .i64 h.next] 24 (0,0))) (k1:w.heap[P1]? =some (.cells #[kC,kS,kF,kN,kT] 36 (0,0))) (k2:w.heap[P2]? =some (.cells #[.int .i64 loc] 3 (0,0))):
 Calls Tryz.prog 70 #[.pointer (some ⟨P0,0,none⟩),.pointer (some ⟨P1,0,none⟩),.pointer (some ⟨P2,0,none⟩)] w fun r w'=>Below w.heap.size w w'/\((∃v,r=.returned v/\(∃z:Option Addr×Nat×Nat,v=.slice z.1 z.2.1 z.2.2)/\(thErr d h loc=0/\w'.ownsRow w.heap.size 3 1 v (rowT h (atOr (tsOf d h) loc)).length (intV (rowT h (atOr (tsOf d h) loc)))))\/∃e p,r=.panicked [wrongV e p]/\e=thErr d h loc/\p=0/\thErr d h loc≠0):=by
 have HWF:=mk0 hwf
 clear hwf
 have hB0:Below w.heap.size w w:=Below.refl _ _
 have HS0:Hid (w.heap.size=w.heap.size):=Eq.refl w.heap.size
 have l0:=lt0 k0
 have k0':=(hB0.block _ l0).trans k0
 have l1:=lt0 k1
 have k1':=(hB0.block _ l1).trans k1
 have l2:=lt0 k2
 have k2':=(hB0.block _ l2).trans k2
 have c0:=cl0 k0' 0 (x:=vW) rfl
 have c1:=cl0 k0' 1 (x:=.int .i64 h.young) rfl
 have c2:=cl0 k0' 2 (x:=.int .i64 h.old) rfl
 have c3:=cl0 k0' 3 (x:=.int .i64 h.ytop) rfl
 have c4:=cl0 k0' 4 (x:=.int .i64 h.otop) rfl
 have c5:=cl0 k0' 5 (x:=vO) rfl
 have c6:=cl0 k0' 6 (x:=.int .i64 h.next) rfl
 have e0:=cl0 k1' 0 (x:=kC) rfl
 have e1:=cl0 k1' 1 (x:=kS) rfl
 have e2:=cl0 k1' 2 (x:=kF) rfl
 have e3:=cl0 k1' 3 (x:=kN) rfl
 have e4:=cl0 k1' 4 (x:=kT) rfl
 have b2:=cl0 k2' 0 (x:=.int .i64 loc) rfl
 have HCK:Hid (∀V,Below w.heap.size w V->Calls Tryz.prog 53 #[.agg #[vW,.int .i64 h.young,.int .i64 h.old,.int .i64 h.ytop,.int .i64 h.otop,vO,.int .i64 h.next],.agg #[kC,kS,kF,kN,kT]] V fun r w'=>Below V.heap.size V w'/\HeapOut V B vW vO kC kS kF kN kT h d r w'):=fun V hV=>zlc (g.below ((hB0.trans (hV.mono hB0.size)).mono g.le))
 have HB0:=mk0 hB0
 have HG:=mk0 g
 obtain ⟨aW,cW,aO,cO,aC,cC,aS,cS,aF,cF,aN,cN,aT,cT,rfl,rfl,rfl,rfl,rfl,rfl,rfl⟩:=g.agg
 clear g hB0 k0 k0' k1 k1' k2 k2'
 go_enter Tryz.func70,Tryz.ntmps70
 go_wp2_with fail
 refine wp_region_held_drew (S:=fun W'=>∀p:Addr,p.block<w.heap.size->W'.cell? p=w.cell? p) (by kernel_rfl) (fun p hp=>rfl) fun hH=>?_
 obtain ⟨V0,hV0⟩:∃V0,V0=w.drew:=⟨_,rfl⟩
 rw [<-hV0]at hH ⊢
 have hbV0:Below w.heap.size w V0:=hV0 ▸ (Below.refl _ _).drew
 clear hV0
 refine ta 0 (.agg #[.slice aW h.words.length cW,.int .i64 h.young,.int .i64 h.old,.int .i64 h.ytop,.int .i64 h.otop,.slice aO h.noted.length cO,.int .i64 h.next]) rfl hH ?_
 refine ta 1 (.agg #[.slice aC d.classes.length cC,.slice aS d.supers.length cS,.slice aF d.fields.length cF,.slice aN d.names.length cN,.slice aT d.targets.length cT]) rfl hH ?_
 refine ta 3 (.int .i64 loc) rfl hH ?_
 refine wpAnyH_ready (rs:=[2,5]) (by kernel_rfl) (by simp) ?_
 refine AllReadyH.cons rfl (fun K hK=>?_) (AllReadyH.cons rfl (fun K hK=>?_) AllReadyH.nil)
 focus
  go_simp
  refine (HCK.out V0 hbV0).mono ?_
  rintro r w5 ⟨hb5,⟨h0,X,vA,ts,rfl,hts,hX,hcht⟩ | ⟨h0,rfl⟩⟩
  rotate_left
  ·exact ⟨rfl,hbV0.trans (hb5.mono hbV0.size),Or.inr ⟨_,_,rfl,zmf h0,rfl,by rw [<-zmf h0];exact h0⟩⟩
  have hbw5:Below w.heap.size w w5:=hbV0.trans (hb5.mono hbV0.size)
  refine hK.out _ _ (fun p hp=>hbw5.cell hp) fun hH=>?_
  have hs5:=hbw5.size
  refine wpAnyH_ready (rs:=[4,5]) (by kernel_rfl) (by simp) ?_
  refine AllReadyH.cons rfl (fun K hK=>?_) (AllReadyH.cons rfl (fun K hK=>?_) AllReadyH.nil)
  focus
   go_simp
   refine (zlj w5 X B _ _ _ _ _ _ _ vA h d ts hcht loc HWF.out).mono ?_
   rintro r w7 ⟨hb7,⟨t,hpl,rfl⟩ | ⟨hpl,rfl⟩⟩
   rotate_left
   ·exact ⟨rfl,hbw5.trans (hb7.mono hbw5.size),Or.inr ⟨_,_,rfl,(zmg h0 hts hpl).symm,rfl,by rw [zmg h0 hts hpl];decide⟩⟩
   have hbw7:Below w.heap.size w w7:=hbw5.trans (hb7.mono hbw5.size)
   have hs7:=hb7.size
   refine hK.out _ _ (fun p hp=>hbw7.cell hp) fun hH=>?_
   refine wpAnyH_ready (rs:=[5]) (by kernel_rfl) (by simp) ?_
   refine AllReadyH.cons rfl (fun K hK=>?_) AllReadyH.nil
   go_simp
   obtain ⟨V8,hV8⟩:∃V8,V8=w7.alloc (.cells #[.int .i64 0,.int .i64 0,.int .i64 0,.int .i64 0] 101):=⟨_,rfl⟩
   rw [<-hV8]
   have hdV8:Below w7.heap.size w7 V8:=hV8 ▸ (Below.refl _ _).alloc (Nat.le_refl _) _
   have hbV8:Below w.heap.size w V8:=hbw7.trans (hdV8.mono hbw7.size)
   have kTV8:V8.heap[w7.heap.size]? =some (.cells #[.int .i64 0,.int .i64 0,.int .i64 0,.int .i64 0] 101 (0,0)):=hV8 ▸ heap_alloc_new w7 _
   refine hK.out _ _ (fun p hp=>hbV8.cell hp) fun hH=>?_
   clear hV8
   have kT:=kTV8
   obtain ⟨VV,hVV⟩:∃VV,VV=V8:=⟨_,rfl⟩
   have hbV:=hbV8
   rw [<-hVV]at kT hbV hH ⊢
   have hTB:w.heap.size<=w7.heap.size:=by omega
   obtain ⟨TB,hTe⟩:∃TB,TB=w7.heap.size:=⟨_,rfl⟩
   rw [<-hTe]at kT hTB ⊢
   clear hTe hVV
  rotate_left
  focus
   go_simp
   obtain ⟨V6,hV6⟩:∃V6,V6=w5.alloc (.cells #[.int .i64 0,.int .i64 0,.int .i64 0,.int .i64 0] 101):=⟨_,rfl⟩
   rw [<-hV6]
   have hdV6:Below w5.heap.size w5 V6:=hV6 ▸ (Below.refl _ _).alloc (Nat.le_refl _) _
   have hbV6:Below w.heap.size w V6:=hbw5.trans (hdV6.mono hbw5.size)
   have kTV6:V6.heap[w5.heap.size]? =some (.cells #[.int .i64 0,.int .i64 0,.int .i64 0,.int .i64 0] 101 (0,0)):=hV6 ▸ heap_alloc_new w5 _
   refine hK.out _ _ (fun p hp=>hbV6.cell hp) fun hH=>?_
   clear hV6
   refine wpAnyH_ready (rs:=[4]) (by kernel_rfl) (by simp) ?_
   refine AllReadyH.cons rfl (fun K hK=>?_) AllReadyH.nil
   go_simp
   refine (zlj V6 X B _ _ _ _ _ _ _ vA h d ts (hcht.below hdV6) loc HWF.out).mono ?_
   rintro r w7 ⟨hb7,⟨t,hpl,rfl⟩ | ⟨hpl,rfl⟩⟩
   rotate_left
   ·exact ⟨rfl,hbV6.trans (hb7.mono hbV6.size),Or.inr ⟨_,_,rfl,(zmg h0 hts hpl).symm,rfl,by rw [zmg h0 hts hpl];decide⟩⟩
   have hbw7:Below w.heap.size w w7:=hbV6.trans (hb7.mono hbV6.size)
   have hs7:=hb7.size
   refine hK.out _ _ (fun p hp=>hbw7.cell hp) fun hH=>?_
   have kT:=(hb7.block _ (lt0 kTV6)).trans kTV6
   obtain ⟨VV,hVV⟩:∃VV,VV=w7:=⟨_,rfl⟩
   have hbV:=hbw7
   rw [<-hVV]at kT hbV hH ⊢
   have hTB:w.heap.size<=w5.heap.size:=by omega
   obtain ⟨TB,hTe⟩:∃TB,TB=w5.heap.size:=⟨_,rfl⟩
   rw [<-hTe]at kT hTB ⊢
   clear hTe hVV
  rotate_left
 rotate_left 2
 focus
  go_simp
  obtain ⟨V1,hV1⟩:∃V1,V1=V0.alloc (.cells #[.int .i64 0,.int .i64 0,.int .i64 0,.int .i64 0] 101):=⟨_,rfl⟩
  rw [<-hV1]
  have hdV1:Below V0.heap.size V0 V1:=hV1 ▸ (Below.refl _ _).alloc (Nat.le_refl _) _
  have hbV1:Below w.heap.size w V1:=hbV0.trans (hdV1.mono hbV0.size)
  have kTV1:V1.heap[V0.heap.size]? =some (.cells #[.int .i64 0,.int .i64 0,.int .i64 0,.int .i64 0] 101 (0,0)):=hV1 ▸ heap_alloc_new V0 _
  refine hK.out _ _ (fun p hp=>hbV1.cell hp) fun hH=>?_
  clear hV1
  refine wpAnyH_ready (rs:=[2]) (by kernel_rfl) (by simp) ?_
  refine AllReadyH.cons rfl (fun K hK=>?_) AllReadyH.nil
  go_simp
  refine (HCK.out V1 hbV1).mono ?_
  rintro r w5 ⟨hb5,⟨h0,X,vA,ts,rfl,hts,hX,hcht⟩ | ⟨h0,rfl⟩⟩
  rotate_left
  ·exact ⟨rfl,hbV1.trans (hb5.mono hbV1.size),Or.inr ⟨_,_,rfl,zmf h0,rfl,by rw [<-zmf h0];exact h0⟩⟩
  have hbw5:Below w.heap.size w w5:=hbV1.trans (hb5.mono hbV1.size)
  refine hK.out _ _ (fun p hp=>hbw5.cell hp) fun hH=>?_
  have hs5:=hbw5.size
  refine wpAnyH_ready (rs:=[4]) (by kernel_rfl) (by simp) ?_
  refine AllReadyH.cons rfl (fun K hK=>?_) AllReadyH.nil
  go_simp
  refine (zlj w5 X B _ _ _ _ _ _ _ vA h d ts hcht loc HWF.out).mono ?_
  rintro r w7 ⟨hb7,⟨t,hpl,rfl⟩ | ⟨hpl,rfl⟩⟩
  rotate_left
  ·exact ⟨rfl,hbw5.trans (hb7.mono hbw5.size),Or.inr ⟨_,_,rfl,(zmg h0 hts hpl).symm,rfl,by rw [zmg h0 hts hpl];decide⟩⟩
  have hbw7:Below w.heap.size w w7:=hbw5.trans (hb7.mono hbw5.size)
  have hs7:=hb7.size
  refine hK.out _ _ (fun p hp=>hbw7.cell hp) fun hH=>?_
  have hsV:=hbV0.size
  have kT:=(hb7.block _ (lt0 ((hb5.block _ (lt0 kTV1)).trans kTV1))).trans ((hb5.block _ (lt0 kTV1)).trans kTV1)
  obtain ⟨VV,hVV⟩:∃VV,VV=w7:=⟨_,rfl⟩
  have hbV:=hbw7
  rw [<-hVV]at kT hbV hH ⊢
  have hTB:w.heap.size<=V0.heap.size:=by omega
  obtain ⟨TB,hTe⟩:∃TB,TB=V0.heap.size:=⟨_,rfl⟩
  rw [<-hTe]at kT hTB ⊢
  clear hTe hVV
 all_goals
  have HRES:=mk0 (zmh h0 hts hpl)
  have HOK:=mk0 (zma h0 hts HG.out.ww)
  have HLN:=mk0 (zkp HOK.out.2.1 HOK.out.1 HG.out.ww hts)
  obtain ⟨ht,hloc⟩:=zie ts hpl
  obtain ⟨hft,hl0,hl1⟩:=HLN.out.fit t ht
  have hl2:=HLN.out.words
  have hlo:=hft.lo
  have hfi:t.fin=t.loc+3+t.len:=rfl
  have HSM:Hid (small t.loc/\small t.len):=⟨by unfold small;omega,by unfold small;omega⟩
  obtain ⟨aV,cV,eV,hcap,hmx,hel⟩:=HG.out.sW
  cases eV
  obtain ⟨bW,oW,cs,e2,hbB,hbl,-⟩:=hel 0 (by omega)
  subst e2
  unfold maxLen at hmx
  obtain ⟨sv,hsv⟩:∃s,s=sliced (some ⟨bW,oW,none⟩) (t.loc+3).toNat t.fin.toNat cW 1:=⟨_,rfl⟩
  have rs:∀V,(Instr.slice 22 (.slice (some ⟨bW,oW,none⟩) h.words.length cW) (some (.int .i64 (t.loc+3))) (some (.int .i64 t.fin)) none).run Tryz.prog V=.ok sv V:=fun V=>by
   rw [hsv,run_slice_lh V 22 _ _ _ Tryz.underlying22 .i64 .i64 (t.loc+3) t.fin (by omega) (by omega) (by omega)]
   rfl
  have t6:SL 1 RI (· <B) w sv (rowT h t):=hsv ▸ HG.out.sW.sub (t.loc+3).toNat t.fin.toNat (by omega) (by omega)
  obtain ⟨sa,sn,sc,e1⟩:∃a n c,sv=.slice a n c:=by obtain ⟨a,c,e,-⟩:=t6;exact ⟨a,_,c,e⟩
  have HLL:Hid ((rowT h t).length<=1000000):=by show _<=_;unfold rowT;simp;omega
  unfold thV
  obtain ⟨W9,h9,hgS,hq,hr,rz,rl⟩:=setN (zs:=[.int .i64 0,.int .i64 0,.int .i64 0,.int .i64 0]) kT [.int .i64 t.loc,.int .i64 t.tag,.int .i64 t.len,.int .i64 t.hash] rfl
  have r0:=hr 0 _ rfl
  have r1:=hr 1 _ rfl
  have r2:=hr 2 _ rfl
  have r3:=hr 3 _ rfl
  have q0:=hq 0 _ rfl
  have q1:=hq 1 _ rfl
  have q2:=hq 2 _ rfl
  have q3:=hq 3 _ rfl
  have hw9:=hgS.size
  have HB9:=mk0 (bg0 (hbV) hgS hTB)
  have HG9:=mk0 hgS
  simp only [setL,Nat.reduceAdd]at h9
  have H9:=mk0 h9
  clear hgS hq hr h9
  have HSL:=mk0 (t6.keptI (Kp.below (HB9.out.mono HG.out.le)))
  have HB9B:Hid (B<=W9.heap.size):=Nat.le_trans HG.out.le HB9.out.size
  have hsV:=hbV.size
  have hCL:∀p:Addr,p.block<w.heap.size->W9.cell? p=w.cell? p:=fun p hp=>(World.cell?_of_block (a:=p) (HG9.out.block p.block (by omega) (by intro e;injection e;omega))).trans (hbV.cell hp)
  have HCL:=mk0 hCL
  have u0:=(hCL ⟨P0,0,none⟩ l0).trans c0
  have lP:P0<W9.heap.size:=by omega
  have lT:TB<W9.heap.size:=by omega
  subst e1
  have h9v:=H9.out
  clear hsv t6 hel hcap hmx hbB hbl hCL hpl hts h0 ht hloc hft hl0 hl1 hl2 hlo hfi hcht hX kT hb7 hb5
  refine wpAnyH_ready (rs:=[6]) (by kernel_rfl) (by simp) ?_
  refine AllReadyH.cons rfl (fun K hK=>?_) AllReadyH.nil
  go_simp
  refine hK.out _ _ HCL.out fun hH=>?_
  clear h9v H9 r0 r1 r2 r3 rz rl hK
  refine wpAnyH_done (by kernel_rfl) ?_ _
  clear hH
  try simp only [Act.put,List.setIfInBounds_toArray,List.set_cons_zero,List.set_cons_succ,List.getElem_toArray,List.getElem_cons_zero,List.getElem_cons_succ]
  go_wp2_with fail
  refine wp_region_held_drew (S:=fun W'=>∀p:Addr,p.block<W9.heap.size->W'.cell? p=W9.cell? p) (by kernel_rfl) (fun p hp=>rfl) fun hH=>?_
  refine ta 0 (.pointer (some ⟨P0,0,none⟩)) rfl hH ?_
  refine ta 1 (.slice (some ⟨bW,oW,none⟩) h.words.length cW) rfl hH ?_
  refine ta 2 (.agg #[.int .i64 t.loc,.int .i64 t.tag,.int .i64 t.len,.int .i64 t.hash]) rfl hH ?_
  refine ta 4 (.agg #[.int .i64 t.loc,.int .i64 t.tag,.int .i64 t.len,.int .i64 t.hash]) rfl hH ?_
  refine wpAnyH_ready (rs:=[3]) (by kernel_rfl) (by simp) ?_
  refine AllReadyH.cons rfl (fun K3 hK3=>?_) AllReadyH.nil
  go_simp
  refine (ze1 _ t 0 HSM.out.1 (by unfold small;omega)).mono ?_
  rintro r wa ⟨rfl,hba⟩
  rw [Int.add_zero]
  have hbA:Below W9.heap.size W9 wa:=(Below.refl W9.heap.size W9).drew.trans hba
  refine hK3.out _ _ (fun p hp=>hbA.cell hp) fun hH=>?_
  refine wpAnyH_ready (rs:=[5]) (by kernel_rfl) (by simp) ?_
  refine AllReadyH.cons rfl (fun K5 hK5=>?_) AllReadyH.nil
  go_simp
  refine (ze2 _ t HSM.out.1 HSM.out.2).mono ?_
  rintro r wb ⟨rfl,hbb⟩
  have hbB:Below W9.heap.size W9 wb:=hbA.trans (hbb.mono hbA.size)
  refine hK5.out _ _ (fun p hp=>hbB.cell hp) fun hH=>?_
  refine ta 6 (.slice sa sn sc) rfl hH ?_
  refine wpAnyH_ready (rs:=[7]) (by kernel_rfl) (by simp) ?_
  refine AllReadyH.cons rfl (fun K7 hK7=>?_) AllReadyH.nil
  go_simp
  refine (zll _ (· <B) _ _ (HSL.out.keptI (Kp.below (hbB.mono HB9B.out))) HLL.out).mono ?_
  rintro r wc ⟨hbc,aR,cR,rfl,hor⟩
  have hbC:Below W9.heap.size W9 wc:=hbB.trans (hbc.mono hbB.size)
  refine hK7.out _ _ (fun p hp=>hbC.cell hp) fun hH=>?_
  refine ta 8 (.slice aR (rowT h t).length cR) rfl hH ?_
  refine wpAnyH_done (by kernel_rfl) ?_ _
  clear hH
  try simp only [Act.put,List.setIfInBounds_toArray,List.set_cons_zero,List.set_cons_succ,List.getElem_toArray,List.getElem_cons_zero,List.getElem_cons_succ]
  go_wp2_with fail
  go_ret
  exact ⟨HB9.out.trans (hbC.mono HB9.out.size),Or.inl ⟨_,rfl,⟨(aR,_,cR),rfl⟩,HRES.out.1,by rw [HRES.out.2];exact zhp hor (by have:=hbB.size;have:=HB9.out.size;omega)⟩⟩
theorem callRow1 (args:Array Value) (w:World):(callFunc 70 args).run Tryz.prog w=.ok (.enter 70 args) w:=by kernel_rfl
theorem zub (w:World) (B:Nat) (vW vO kC kS kF kN kT:Value) (h:HeapD) (d:LinkD) (g:Hd B w vW vO kC kS kF kN kT h d) (loc:Int) (hwf:(Lit.int .i64 loc).wf=true):
 Calls Tryz.prog 27 #[.agg #[vW,.int .i64 h.young,.int .i64 h.old,.int .i64 h.ytop,.int .i64 h.otop,vO,.int .i64 h.next],.agg #[kC,kS,kF,kN,kT],.int .i64 loc] w fun r w'=>Below w.heap.size w w'/\((thErr d h loc=0/\∃a c,r=.returned (.tuple #[.slice a (rowT h (atOr (tsOf d h) loc)).length c,.int .i64 0])/\w'.ownsRow w.heap.size 3 1 (.slice a (rowT h (atOr (tsOf d h) loc)).length c) (rowT h (atOr (tsOf d h) loc)).length (intV (rowT h (atOr (tsOf d h) loc))))\/(thErr d h loc≠0/\r=.returned (.tuple #[.slice none 0 0,.int .i64 (thErr d h loc)]))):=by
 have hmf:=mkf Tryz.prog
 have HG:=mk0 g
 obtain ⟨aW,cW,aO,cO,aC,cC,aS,cS,aF,cF,aN,cN,aT,cT,rfl,rfl,rfl,rfl,rfl,rfl,rfl⟩:=g.agg
 clear g
 obtain ⟨W0,hW0,hB0,hs0,k0,k1,k2⟩:=boxes3 w #[.slice aW h.words.length cW,.int .i64 h.young,.int .i64 h.old,.int .i64 h.ytop,.int .i64 h.otop,.slice aO h.noted.length cO,.int .i64 h.next] #[.slice aC d.classes.length cC,.slice aS d.supers.length cS,.slice aF d.fields.length cF,.slice aN d.names.length cN,.slice aT d.targets.length cT] #[.int .i64 loc] 24 36 3
 have HMD:Hid (Calls Tryz.prog 69 #[.func (.func 70) #[] #[.pointer (some ⟨w.heap.size,0,none⟩),.pointer (some ⟨w.heap.size+1,0,none⟩),.pointer (some ⟨w.heap.size+1+1,0,none⟩)]] W0 fun r w'=>Below W0.heap.size W0 w'/\W0.heap.size+4<=w'.heap.size/\
  ((∃v,r=.returned (.tuple #[v,.agg #[.int .i64 0,.int .i64 0]])/\(∃z:Option Addr×Nat×Nat,v=.slice z.1 z.2.1 z.2.2)/\(thErr d h loc=0/\w'.ownsRow (W0.heap.size+4) 3 1 v (rowT h (atOr (tsOf d h) loc)).length (intV (rowT h (atOr (tsOf d h) loc)))))\/
   (∃e p,r=.returned (.tuple #[.slice none 0 0,.agg #[.int .i64 e,.int .i64 p]])/\(e=thErr d h loc/\p=0/\thErr d h loc≠0)))):=by
  refine ztz W0 70 _ (fun v w'=>thErr d h loc=0/\w'.ownsRow (W0.heap.size+4) 3 1 v (rowT h (atOr (tsOf d h) loc)).length (intV (rowT h (atOr (tsOf d h) loc)))) (fun e p=>e=thErr d h loc/\p=0/\thErr d h loc≠0) callRow1 ?_ ?_
  ·intro W hW hs
   have hk:∀(b:Nat) (ob:Obj),W0.heap[b]? =some ob->W.heap[b]? =some ob:=fun b ob e=>(hW.block b (by
    rcases Nat.lt_or_ge b W0.heap.size with hlt | hge
    ·exact hlt
    rw [Array.getElem?_eq_none hge]at e;cases e)).trans e
   have:=zt0 W B _ _ _ _ _ _ _ _ _ _ h d (HG.out.below ((hB0.trans (hW.mono hB0.size)).mono HG.out.le)) loc hwf (hk _ _ k0) (hk _ _ k1) (hk _ _ k2)
   rw [hs]at this
   rw [hs]
   exact this
  exact fun v W W' _ hf e=>⟨e.1,zl9 e.2 hf (Nat.le_refl _)⟩
 have HB0:=mk0 hB0
 have HE0:=mk0 hW0
 rw [HE0.out]at HMD
 clear k0 k1 k2 hB0 hW0 hs0 hwf
 go_enter Tryz.func27,Tryz.ntmps27
 go_wp2_with fail
 refine HMD.out.mono ?_
 rw [<-HE0.out]
 rintro r w1 ⟨hb1,hs1,⟨v,rfl,-,h0,hor⟩ | ⟨e,p,rfl,rfl,rfl,h0⟩⟩
 ·have HM0:=mk0 h0
  obtain ⟨aR,cR,rfl⟩:=zfz hor
  have HOR:=mk0 hor
  obtain ⟨rn,hrn⟩:∃rn,(rowT h (atOr (tsOf d h) loc)).length=rn:=⟨_,rfl⟩
  rw [hrn]at HOR ⊢
  have HRN:=mk0 hrn
  clear h0 HMD hor hrn
  obtain ⟨W2,hW2,hA2,hs2,m0⟩:=boxes1 w1 #[.int .i64 0,.int .i64 0] 84
  have HB2:=mk0 ((HB0.out.trans (hb1.mono HB0.out.size)).trans (hA2.mono (by have:=HB0.out.size;have:=hb1.size;omega)))
  have HA2:=mk0 hA2
  have lm0:=lt0 m0
  have u0:=cl0 m0 0 (x:=.int .i64 0) rfl
  have HW2:=mk0 hW2
  clear hA2 m0 hb1 hW2 hs1 hs2
  go_wp2_with fail
  rw [<-HW2.out]
  refine wp_region_held_drew (S:=fun W'=>∀p:Addr,p.block<W2.heap.size->W'.cell? p=W2.cell? p) (by kernel_rfl) (fun p hp=>rfl) fun hH=>?_
  refine ta 0 (.slice aR rn cR) rfl hH ?_
  refine ta 1 (.pointer (some ⟨w1.heap.size,0,none⟩)) rfl hH ?_
  refine ta 2 (.int .i64 0) rfl hH ?_
  refine ta 3 (.slice aR rn cR) rfl hH ?_
  refine ta 4 (.int .i64 0) rfl hH ?_
  refine wpAnyH_done (by kernel_rfl) ?_ _
  clear hH
  try simp only [Act.put,List.setIfInBounds_toArray,List.set_cons_zero,List.set_cons_succ,List.getElem_toArray,List.getElem_cons_zero,List.getElem_cons_succ]
  go_wp2_with fail
  refine bodyPost_ret (v:=.tuple #[.slice aR rn cR,.int .i64 0]) (by simp [results,Tryz.results27,go_sem]) rfl ⟨HB2.out.drew,Or.inl ⟨HM0.out,aR,cR,by rw [HRN.out],?_⟩⟩
  rw [HRN.out]
  exact zhp (zhj HOR.out HA2.out.drew) (by have:=HB0.out.size;omega)
 have HM0:=mk0 h0
 generalize hx:thErr d h loc=x at*
 have HX:=mk0 hx
 clear h0 HMD hx
 obtain ⟨W2,hW2,hA2,hs2,m0⟩:=boxes1 w1 #[.int .i64 x,.int .i64 0] 84
 have HB2:=mk0 ((HB0.out.trans (hb1.mono HB0.out.size)).trans (hA2.mono (by have:=HB0.out.size;have:=hb1.size;omega)))
 have HA2:=mk0 hA2
 have lm0:=lt0 m0
 have u0:=cl0 m0 0 (x:=.int .i64 x) rfl
 have HW2:=mk0 hW2
 clear hA2 m0 hb1 hW2 hs1 hs2
 go_wp2_with fail
 rw [<-HW2.out]
 refine wp_region_held_drew (S:=fun W'=>∀p:Addr,p.block<W2.heap.size->W'.cell? p=W2.cell? p) (by kernel_rfl) (fun p hp=>rfl) fun hH=>?_
 refine ta 0 (.slice none 0 0) rfl hH ?_
 refine ta 1 (.pointer (some ⟨w1.heap.size,0,none⟩)) rfl hH ?_
 refine ta 2 (.int .i64 x) rfl hH ?_
 refine ta 3 (.slice none 0 0) rfl hH ?_
 refine ta 4 (.int .i64 x) rfl hH ?_
 refine wpAnyH_done (by kernel_rfl) ?_ _
 clear hH
 try simp only [Act.put,List.setIfInBounds_toArray,List.set_cons_zero,List.set_cons_succ,List.getElem_toArray,List.getElem_cons_zero,List.getElem_cons_succ]
 go_wp2_with fail
 exact bodyPost_ret (v:=.tuple #[.slice none 0 0,.int .i64 x]) (by simp [results,Tryz.results27,go_sem]) rfl ⟨HB2.out.drew,Or.inr ⟨by rw [HX.out];exact HM0.out,by rw [HX.out]⟩⟩
end Go.Proofs.YtjdnmblggdobgaaGreat
