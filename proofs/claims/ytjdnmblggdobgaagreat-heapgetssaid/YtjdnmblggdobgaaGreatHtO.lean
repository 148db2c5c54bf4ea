import Derived.Test.YtjdnmblggdobgaaGreatJTk2Dies
import Derived.Test.YtjdnmblggdobgaaGreatHtN
import Derived.Test.YtjdnmblggdobgaaGreatJHmTHmR
set_option maxHeartbeats 4000000
set_option maxRecDepth 100000
namespace Go.Proofs.YtjdnmblggdobgaaGreat
open Go.RowKit Go.Maps
theorem tag1_any (w:World) (B P0 P1 P2:Nat) (vW vO kC kS kF kN kT:Value) (h:HeapD) (d:LinkD) (g:Hd B w vW vO kC kS kF kN kT h d) (loc:Int) (hwf:(Lit.int .i64 loc).wf=true) (k0:w.heap[P0]? =some (.cells #[vW,.int .i64 h.young,.int .i64 h.old,.int .i64 h.ytop,.int .i64 h.otop,vO,.int .i64 h.next] 24 (0,0))) (k1:w.heap[P1]? =some (.cells #[kC,kS,kF,kN,kT] 36 (0,0))) (k2:w.heap[P2]? =some (.cells #[.int .i64 loc] 3 (0,0))):
 Calls Tryz.prog 63 #[.pointer (some ⟨P0,0,none⟩),.pointer (some ⟨P1,0,none⟩),.pointer (some ⟨P2,0,none⟩)] w fun r w'=>Below w.heap.size w w'/\((∃v,r=.returned v/\IsTh v/\v=thV (atOr (tsOf d h) loc)/\thErr d h loc=0)\/∃e p,r=.panicked [wrongV e p]/\e=thErr d h loc/\p=0/\thErr d h loc≠0):=by
 have HWF:=mk0 hwf
 clear hwf
 obtain ⟨W0,hW0⟩:∃W0,W0=w.alloc (.cells #[.int .i64 0,.int .i64 0,.int .i64 0,.int .i64 0] 101):=⟨_,rfl⟩
 have hB0:Below w.heap.size w W0:=hW0 ▸ (Below.refl _ _).alloc (Nat.le_refl _) _
 have hb0:W0.heap[w.heap.size]? =some (.cells #[.int .i64 0,.int .i64 0,.int .i64 0,.int .i64 0] 101 (0,0)):=hW0 ▸ heap_alloc_new w _
 have HS0:Hid (W0.heap.size=w.heap.size+1):=by show _=_;rw [hW0];simp
 have l0:=lt0 k0
 have k0':=(hB0.block _ l0).trans k0
 have l1:=lt0 k1
 have k1':=(hB0.block _ l1).trans k1
 have l2:=lt0 k2
 have k2':=(hB0.block _ l2).trans k2
 have c0:=cl0 k0' 0 (x:=vW) rfl
 have c1:=cl0 k0' 1 (x:=.int .i64 h.young) rfl
 have c2:=cl0 k0' 2 (x:=.int .i64 h.old) rfl
 have c3:=cl0 k0' 3 (x:=.int .i64 h.ytop) rfl
 have c4:=cl0 k0' 4 (x:=.int .i64 h.otop) rfl
 have c5:=cl0 k0' 5 (x:=vO) rfl
 have c6:=cl0 k0' 6 (x:=.int .i64 h.next) rfl
 have e0:=cl0 k1' 0 (x:=kC) rfl
 have e1:=cl0 k1' 1 (x:=kS) rfl
 have e2:=cl0 k1' 2 (x:=kF) rfl
 have e3:=cl0 k1' 3 (x:=kN) rfl
 have e4:=cl0 k1' 4 (x:=kT) rfl
 have b2:=cl0 k2' 0 (x:=.int .i64 loc) rfl
 have HCK:Hid (∀V,Below W0.heap.size W0 V->Calls Tryz.prog 53 #[.agg #[vW,.int .i64 h.young,.int .i64 h.old,.int .i64 h.ytop,.int .i64 h.otop,vO,.int .i64 h.next],.agg #[kC,kS,kF,kN,kT]] V fun r w'=>Below V.heap.size V w'/\HeapOut V B vW vO kC kS kF kN kT h d r w'):=fun V hV=>checkedD_any (g.below ((hB0.trans (hV.mono hB0.size)).mono g.le))
 have HB0:=mk0 hB0
 have HG:=mk0 g
 have HE0:=mk0 hW0
 have HK0:=mk0 hb0
 obtain ⟨aW,cW,aO,cO,aC,cC,aS,cS,aF,cF,aN,cN,aT,cT,rfl,rfl,rfl,rfl,rfl,rfl,rfl⟩:=g.agg
 clear g hB0 hW0 hb0 k0 k0' k1 k1' k2 k2'
 go_enter Tryz.func63,Tryz.ntmps63
 go_wp2_with fail
 rw [<-HE0.out]
 refine wp_region_held_drew (S:=fun W'=>∀p:Addr,p.block<w.heap.size->W'.cell? p=W0.cell? p) (by kernel_rfl) (fun p hp=>rfl) fun hH=>?_
 refine ta 0 (.agg #[.slice aW h.words.length cW,.int .i64 h.young,.int .i64 h.old,.int .i64 h.ytop,.int .i64 h.otop,.slice aO h.noted.length cO,.int .i64 h.next]) rfl hH ?_
 refine ta 1 (.agg #[.slice aC d.classes.length cC,.slice aS d.supers.length cS,.slice aF d.fields.length cF,.slice aN d.names.length cN,.slice aT d.targets.length cT]) rfl hH ?_
 refine ta 3 (.int .i64 loc) rfl hH ?_
 refine wpAnyH_ready (rs:=[2]) (by kernel_rfl) (by simp) ?_
 refine AllReadyH.cons rfl (fun K2 hK2=>?_) AllReadyH.nil
 go_simp
 refine (HCK.out _ (Below.refl _ _).drew).mono ?_
 rintro r w5 ⟨hb5,⟨h0,X,vA,ts,rfl,hts,hX,hcht⟩ | ⟨h0,rfl⟩⟩
 rotate_left
 ·
  exact ⟨rfl,HB0.out.trans (((Below.refl W0.heap.size W0).drew.trans hb5).mono HB0.out.size),Or.inr ⟨_,_,rfl,thErr_bad h0,rfl,by rw [<-thErr_bad h0];exact h0⟩⟩
 have hb6:Below W0.heap.size W0 w5:=(Below.refl W0.heap.size W0).drew.trans hb5
 have HTW:=mk0 (thingW_any w5 X B _ _ _ _ _ _ _ vA h d ts hcht loc HWF.out)
 have HTS:=mk0 hts
 have H00:=mk0 h0
 have hs6:=hb6.size
 refine hK2.out _ _ (fun p hp=>hb6.cell (by have:=HS0.out;omega)) fun hH=>?_
 refine wpAnyH_ready (rs:=[4]) (by kernel_rfl) (by simp) ?_
 refine AllReadyH.cons rfl (fun K4 hK4=>?_) AllReadyH.nil
 go_simp
 refine HTW.out.mono ?_
 rintro r w7 ⟨hb7,⟨t,hpl,rfl⟩ | ⟨hpl,rfl⟩⟩
 rotate_left
 ·
  exact ⟨rfl,HB0.out.trans ((hb6.trans (hb7.mono hs6)).mono HB0.out.size),Or.inr ⟨_,_,rfl,(thErr_none H00.out HTS.out hpl).symm,rfl,by rw [thErr_none H00.out HTS.out hpl];decide⟩⟩
 have HRES:=mk0 (thErr_ok H00.out HTS.out hpl)
 unfold thV
 have hb8:Below W0.heap.size W0 w7:=hb6.trans (hb7.mono hs6)
 have hs7:=hb7.size
 have k7:=(hb8.block _ (lt0 HK0.out)).trans HK0.out
 have hB7:Below w.heap.size w w7:=HB0.out.trans (hb8.mono HB0.out.size)
 have hs0:=HS0.out
 obtain ⟨W9,h9,hgS,hq,hr,rz,rl⟩:=setN (zs:=[.int .i64 0,.int .i64 0,.int .i64 0,.int .i64 0]) k7 [.int .i64 t.loc,.int .i64 t.tag,.int .i64 t.len,.int .i64 t.hash] rfl
 have r0:=hr 0 _ rfl
 have r1:=hr 1 _ rfl
 have r2:=hr 2 _ rfl
 have r3:=hr 3 _ rfl
 have q0:=hq 0 _ rfl
 have q1:=hq 1 _ rfl
 have q2:=hq 2 _ rfl
 have q3:=hq 3 _ rfl
 have hw9:=hgS.size
 have HB9:=mk0 (bg0 (hB7) hgS (by omega))
 have HG9:=mk0 hgS
 simp only [setL,Nat.reduceAdd]at h9
 have H9:=mk0 h9
 clear hgS hq hr h9
 have HCL:Hid (∀p:Addr,p.block<w.heap.size->W9.cell? p=W0.cell? p):=fun p hp=>(World.cell?_of_block (a:=p) (HG9.out.block p.block (by omega) (by intro e;injection e;omega))).trans (hb8.cell (by omega))
 refine hK4.out _ _ (fun p hp=>hb8.cell (by omega)) fun hH=>?_
 clear hb7 k7 hB7 hb8 hb6 hb5 hcht hts hX hs0 hpl
 refine wpAnyH_ready (rs:=[5]) (by kernel_rfl) (by simp) ?_
 refine AllReadyH.cons rfl (fun K5 hK5=>?_) AllReadyH.nil
 go_simp
 rw [H9.out]
 refine hK5.out _ _ HCL.out fun hH=>?_
 refine wpAnyH_done (by kernel_rfl) ?_ _
 clear hH
 try simp only [Act.put,List.setIfInBounds_toArray,List.set_cons_zero,List.set_cons_succ,List.getElem_toArray,List.getElem_cons_zero,List.getElem_cons_succ]
 go_wp2_with fail
 refine bodyPost_ret (v:=.agg #[.int .i64 t.loc,.int .i64 t.tag,.int .i64 t.len,.int .i64 t.hash]) (by simp [results,Tryz.results63,go_sem,q0,q1,q2,q3]) rfl ⟨HB9.out,Or.inl ⟨_,rfl,⟨_,_,_,_,rfl⟩,?_,HRES.out.1⟩⟩
 rw [HRES.out.2]
 rfl
theorem callTag1 (args:Array Value) (w:World):(callFunc 63 args).run Tryz.prog w=.ok (.enter 63 args) w:=by kernel_rfl
def tagOf (d:LinkD) (h:HeapD) (loc:Int):ThD:=if thErr d h loc=0 then (atOr (tsOf d h) loc) else ⟨0,0,0,0⟩
theorem Tag_any (w:World) (B:Nat) (vW vO kC kS kF kN kT:Value) (h:HeapD) (d:LinkD) (g:Hd B w vW vO kC kS kF kN kT h d) (loc:Int) (hwf:(Lit.int .i64 loc).wf=true):
 Calls Tryz.prog 25 #[.agg #[vW,.int .i64 h.young,.int .i64 h.old,.int .i64 h.ytop,.int .i64 h.otop,vO,.int .i64 h.next],.agg #[kC,kS,kF,kN,kT],.int .i64 loc] w fun r w'=>Below w.heap.size w w'/\r=.returned (.tuple #[.int .i64 (tagOf d h loc).tag,.int .i64 (tagOf d h loc).len,.int .i64 (tagOf d h loc).hash,.int .i64 (thErr d h loc)]):=by
 have hmf:=mkf Tryz.prog
 have HG:=mk0 g
 obtain ⟨aW,cW,aO,cO,aC,cC,aS,cS,aF,cF,aN,cN,aT,cT,rfl,rfl,rfl,rfl,rfl,rfl,rfl⟩:=g.agg
 clear g
 obtain ⟨W0,hW0,hB0,hs0,k0,k1,k2⟩:=boxes3 w #[.slice aW h.words.length cW,.int .i64 h.young,.int .i64 h.old,.int .i64 h.ytop,.int .i64 h.otop,.slice aO h.noted.length cO,.int .i64 h.next] #[.slice aC d.classes.length cC,.slice aS d.supers.length cS,.slice aF d.fields.length cF,.slice aN d.names.length cN,.slice aT d.targets.length cT] #[.int .i64 loc] 24 36 3
 have HMD:Hid (Calls Tryz.prog 62 #[.func (.func 63) #[] #[.pointer (some ⟨w.heap.size,0,none⟩),.pointer (some ⟨w.heap.size+1,0,none⟩),.pointer (some ⟨w.heap.size+1+1,0,none⟩)]] W0 fun r w'=>Below W0.heap.size W0 w'/\W0.heap.size+5<=w'.heap.size/\
  ((∃v,r=.returned (.tuple #[v,.agg #[.int .i64 0,.int .i64 0]])/\IsTh v/\(v=thV (atOr (tsOf d h) loc)/\thErr d h loc=0))\/
   (∃e p,r=.returned (.tuple #[.agg #[.int .i64 0,.int .i64 0,.int .i64 0,.int .i64 0],.agg #[.int .i64 e,.int .i64 p]])/\(e=thErr d h loc/\p=0/\thErr d h loc≠0)))):=by
  refine madeTh_any W0 63 _ (fun v _=>v=thV (atOr (tsOf d h) loc)/\thErr d h loc=0) (fun e p=>e=thErr d h loc/\p=0/\thErr d h loc≠0) callTag1 ?_ ?_
  ·
   intro W hW hs
   have hk:∀(b:Nat) (ob:Obj),W0.heap[b]? =some ob->W.heap[b]? =some ob:=fun b ob e=>(hW.block b (by
    rcases Nat.lt_or_ge b W0.heap.size with hlt | hge
    ·
     exact hlt
    ·
     rw [Array.getElem?_eq_none hge]at e;cases e)).trans e
   exact tag1_any W B _ _ _ _ _ _ _ _ _ _ h d (HG.out.below ((hB0.trans (hW.mono hB0.size)).mono HG.out.le)) loc hwf (hk _ _ k0) (hk _ _ k1) (hk _ _ k2)
  ·
   exact fun _ _ _ _ _ e=>e
 have HB0:=mk0 hB0
 have HE0:=mk0 hW0
 rw [HE0.out]at HMD
 clear k0 k1 k2 hB0 hW0 hs0 hwf
 go_enter Tryz.func25,Tryz.ntmps25
 go_wp2_with fail
 refine HMD.out.mono ?_
 rw [<-HE0.out]
 rintro r w1 ⟨hb1,hs1,⟨v,rfl,-,rfl,h0⟩ | ⟨e,p,rfl,rfl,rfl,h0⟩⟩
 ·
  have HM0:=mk0 h0
  generalize hx:(atOr (tsOf d h) loc)=t at*
  have HX:Hid (tagOf d h loc=t):=by show _=_;unfold tagOf;rw [if_pos h0,hx]
  clear h0 HMD hx
  unfold thV
  obtain ⟨W2,hW2⟩:∃W2,W2=((w1.alloc (.cells #[.int .i64 t.loc,.int .i64 t.tag,.int .i64 t.len,.int .i64 t.hash] 101)).alloc (.cells #[.int .i64 0,.int .i64 0] 84)):=⟨_,rfl⟩
  have hA2:Below w1.heap.size w1 W2:=hW2 ▸ ((Below.refl _ _).alloc (Nat.le_refl _) _).alloc (by simp) _
  have m0:W2.heap[w1.heap.size]? =some (.cells #[.int .i64 t.loc,.int .i64 t.tag,.int .i64 t.len,.int .i64 t.hash] 101 (0,0)):=by rw [hW2];exact (Below.heap_alloc _ _ _ (by simp)).trans (heap_alloc_new w1 _)
  have m1:W2.heap[w1.heap.size+1]? =some (.cells #[.int .i64 0,.int .i64 0] 84 (0,0)):=by
   have:=heap_alloc_new (w1.alloc (.cells #[.int .i64 t.loc,.int .i64 t.tag,.int .i64 t.len,.int .i64 t.hash] 101)) (.cells #[.int .i64 0,.int .i64 0] 84)
   rw [<-hW2]at this
   simpa using this
  have HB2:=mk0 ((HB0.out.trans (hb1.mono HB0.out.size)).trans (hA2.mono (by have:=HB0.out.size;have:=hb1.size;omega)))
  have lm0:=lt0 m0
  have lm1:=lt0 m1
  have v0:=cl0 m0 0 (x:=.int .i64 t.loc) rfl
  have v1:=cl0 m0 1 (x:=.int .i64 t.tag) rfl
  have v2:=cl0 m0 2 (x:=.int .i64 t.len) rfl
  have v3:=cl0 m0 3 (x:=.int .i64 t.hash) rfl
  have u0:=cl0 m1 0 (x:=.int .i64 0) rfl
  have HW2:=mk0 hW2
  clear hA2 m0 m1 hb1 hW2 hs1
  go_wp2_with fail
  rw [<-HW2.out]
  refine wp_region_held_drew (S:=fun W'=>∀p:Addr,p.block<W2.heap.size->W'.cell? p=W2.cell? p) (by kernel_rfl) (fun p hp=>rfl) fun hH=>?_
  refine ta 0 (.pointer (some ⟨w1.heap.size,1,none⟩)) rfl hH ?_
  refine ta 1 (.int .i64 t.tag) rfl hH ?_
  refine ta 2 (.pointer (some ⟨w1.heap.size,2,none⟩)) rfl hH ?_
  refine ta 3 (.int .i64 t.len) rfl hH ?_
  refine ta 4 (.pointer (some ⟨w1.heap.size,3,none⟩)) rfl hH ?_
  refine ta 5 (.int .i64 t.hash) rfl hH ?_
  refine ta 6 (.pointer (some ⟨w1.heap.size+1,0,none⟩)) rfl hH ?_
  refine ta 7 (.int .i64 0) rfl hH ?_
  refine ta 8 (.int .i64 t.tag) rfl hH ?_
  refine ta 9 (.int .i64 t.len) rfl hH ?_
  refine ta 10 (.int .i64 t.hash) rfl hH ?_
  refine ta 11 (.int .i64 0) rfl hH ?_
  refine wpAnyH_done (by kernel_rfl) ?_ _
  clear hH
  try simp only [Act.put,List.setIfInBounds_toArray,List.set_cons_zero,List.set_cons_succ,List.getElem_toArray,List.getElem_cons_zero,List.getElem_cons_succ]
  go_wp2_with fail
  refine bodyPost_ret (v:=.tuple #[.int .i64 t.tag,.int .i64 t.len,.int .i64 t.hash,.int .i64 0]) (by simp [results,Tryz.results25,go_sem]) rfl ⟨HB2.out.drew,by rw [HX.out,HM0.out]⟩
 ·
  have HM0:Hid (tagOf d h loc=⟨0,0,0,0⟩):=by show _=_;unfold tagOf;rw [if_neg h0]
  generalize hx:thErr d h loc=x at*
  have HX:=mk0 hx
  clear h0 HMD hx
  obtain ⟨W2,hW2⟩:∃W2,W2=((w1.alloc (.cells #[.int .i64 0,.int .i64 0,.int .i64 0,.int .i64 0] 101)).alloc (.cells #[.int .i64 x,.int .i64 0] 84)):=⟨_,rfl⟩
  have hA2:Below w1.heap.size w1 W2:=hW2 ▸ ((Below.refl _ _).alloc (Nat.le_refl _) _).alloc (by simp) _
  have m0:W2.heap[w1.heap.size]? =some (.cells #[.int .i64 0,.int .i64 0,.int .i64 0,.int .i64 0] 101 (0,0)):=by rw [hW2];exact (Below.heap_alloc _ _ _ (by simp)).trans (heap_alloc_new w1 _)
  have m1:W2.heap[w1.heap.size+1]? =some (.cells #[.int .i64 x,.int .i64 0] 84 (0,0)):=by
   have:=heap_alloc_new (w1.alloc (.cells #[.int .i64 0,.int .i64 0,.int .i64 0,.int .i64 0] 101)) (.cells #[.int .i64 x,.int .i64 0] 84)
   rw [<-hW2]at this
   simpa using this
  have HB2:=mk0 ((HB0.out.trans (hb1.mono HB0.out.size)).trans (hA2.mono (by have:=HB0.out.size;have:=hb1.size;omega)))
  have lm0:=lt0 m0
  have lm1:=lt0 m1
  have v0:=cl0 m0 0 (x:=.int .i64 0) rfl
  have v1:=cl0 m0 1 (x:=.int .i64 0) rfl
  have v2:=cl0 m0 2 (x:=.int .i64 0) rfl
  have v3:=cl0 m0 3 (x:=.int .i64 0) rfl
  have u0:=cl0 m1 0 (x:=.int .i64 x) rfl
  have HW2:=mk0 hW2
  clear hA2 m0 m1 hb1 hW2 hs1
  go_wp2_with fail
  rw [<-HW2.out]
  refine wp_region_held_drew (S:=fun W'=>∀p:Addr,p.block<W2.heap.size->W'.cell? p=W2.cell? p) (by kernel_rfl) (fun p hp=>rfl) fun hH=>?_
  refine ta 0 (.pointer (some ⟨w1.heap.size,1,none⟩)) rfl hH ?_
  refine ta 1 (.int .i64 0) rfl hH ?_
  refine ta 2 (.pointer (some ⟨w1.heap.size,2,none⟩)) rfl hH ?_
  refine ta 3 (.int .i64 0) rfl hH ?_
  refine ta 4 (.pointer (some ⟨w1.heap.size,3,none⟩)) rfl hH ?_
  refine ta 5 (.int .i64 0) rfl hH ?_
  refine ta 6 (.pointer (some ⟨w1.heap.size+1,0,none⟩)) rfl hH ?_
  refine ta 7 (.int .i64 x) rfl hH ?_
  refine ta 8 (.int .i64 0) rfl hH ?_
  refine ta 9 (.int .i64 0) rfl hH ?_
  refine ta 10 (.int .i64 0) rfl hH ?_
  refine ta 11 (.int .i64 x) rfl hH ?_
  refine wpAnyH_done (by kernel_rfl) ?_ _
  clear hH
  try simp only [Act.put,List.setIfInBounds_toArray,List.set_cons_zero,List.set_cons_succ,List.getElem_toArray,List.getElem_cons_zero,List.getElem_cons_succ]
  go_wp2_with fail
  refine bodyPost_ret (v:=.tuple #[.int .i64 0,.int .i64 0,.int .i64 0,.int .i64 x]) (by simp [results,Tryz.results25,go_sem]) rfl ⟨HB2.out.drew,by rw [HM0.out,HX.out]⟩
end Go.Proofs.YtjdnmblggdobgaaGreat
