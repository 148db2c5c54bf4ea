import Derived.Test.YtcddpmappmjilaaGreatDoorJLClVmM
import Derived.Test.YtcddpmappmjilaaGreatDoorLNam
import Derived.Test.YtcddpmappmjilaaGreatDoorTka
import Derived.Deep.RegionHeld3
namespace Go.Proofs.YtcddpmappmjilaaGreatDoor
open Go.RowKit Go.Maps
theorem own_setK {w:World} {F Q j:Nat} {v u:Value} {l:List KindD} (h:OwnK w F v l) (hne:v.ownBlock≠some Q):OwnK (w.setCell ⟨Q,j,none⟩ u) F v l:=
 h.kept (row:=some Q) (grown_set (World.grownBy.refl _ _) _ _ (Or.inl rfl)) (Or.inr hne)
theorem Sp.ff {c:Lkr} {F P Q:Nat} {x:Cd.Op4} {w:World} {vL vS:Value} {lo st:List KindD} (h:Sp c F P Q x w vL vS lo st):F<=w.heap.size:=by
 have:=h.FQ
 have:=lt_of h.blk
 omega
theorem Sp.stack {c:Lkr} {F P Q:Nat} {x:Cd.Op4} {w:World} {vL vS vS':Value} {lo st st':List KindD} (h:Sp c F P Q x w vL vS lo st) (ho:OwnK w F vS' st') (hq:vS'.ownBlock≠some Q) (hn:∀b,vL.ownBlock=some b->vS'.ownBlock≠some b) (hg:∀k∈st',GdK (Kn c) k):
 Sp c F P Q x (w.setCell ⟨Q,6,none⟩ vS') vL vS' lo st':=
 ⟨heap_set h.blk vS',h.FQ,own_setK h.oL h.nL,own_setK ho hq,h.nL,hq,hn,h.gL,hg⟩
set_option maxHeartbeats 1000000 in
theorem put_any {c:Lkr} {F P Q:Nat} {x:Cd.Op4} (w:World) {vL vS:Value} {lo st:List KindD} (h:Sp c F P Q x w vL vS lo st) (M:Nat->Prop) (vM:Value) (made:List KindD) (hM:SL 2 RK M w vM made) (gM:∀k∈made,GdK (Kn c) k) (hb:st.length+made.length<=1000):
 Calls Tryz.prog 311 #[.pointer (some ⟨Q,0,none⟩),vM] w fun r w'=>r=.returned (.tuple #[])/\Below F w w'/\∃vS',Sp c F P Q x w' vL vS' lo (st++made):=by
 have H:=mkHid h
 have HM:=mkHid hM
 have HG:=mkHid gM
 have c6:=cell_of h.blk 6 (x:=vS) rfl
 have hQ:=lt_of h.blk
 obtain ⟨aS,cS,rfl⟩:=own_shape h.oS
 obtain ⟨aM,cM,rfl,-⟩:=hM
 have HF:=mkHid h.ff
 have HL:Hid (st.length+made.length<=1000000):=(by omega:st.length+made.length<=1000000)
 obtain ⟨n9,hn9⟩:∃n9,n9=(st++made).length:=⟨_,rfl⟩
 have HN9:=mkHid hn9
 clear h gM hb hn9
 go_enter Tryz.func311,Tryz.ntmps311
 go_wp2_with (at_builtin;refine wpList_append_kinds _ rfl _ _ rfl F (.slice aS st.length cS) st rfl H.out.oS M (.slice aM made.length cM) made rfl HM.out HL.out HF.out ?_;intro v' w' ho hg hv;have q:=(hg.block Q hQ (fun e=>H.out.nS e.symm)).trans H.out.blk;have d6:=cell_of q 6 (x:=.slice aS st.length cS) rfl;have df:=frz_of q 6;obtain ⟨a9,c9,e9⟩:=own_shape ho;rw [<-HN9.out]at e9;subst e9;have HO:=mkHid ho;have HGR:=mkHid hg;have HV:=mkHid hv;have HQ:=mkHid q;clear ho hg hv q)
 go_end0
 have hB:Below F w w':=(Below.refl F w).grown HGR.out HF.out (fun k e=>(H.out.oS.lt k e).1)
 have hkL:OwnK w' F vL lo:=H.out.oL.kept HGR.out (by
  cases e:vL.ownBlock with
  | none=>exact Or.inl rfl
  | some b=>exact Or.inr fun e'=>H.out.ne b e e'.symm)
 have hqn:(Value.slice a9 n9 c9).ownBlock≠some Q:=fun e=>by
  rcases HV.out Q e with e | e
  ·
   exact H.out.nS e
  omega
 have hnn:∀b,vL.ownBlock=some b->(Value.slice a9 n9 c9).ownBlock≠some b:=fun b e e'=>by
  rcases HV.out b e' with e2 | e2
  ·
   exact H.out.ne b e e2
  have:=(H.out.oL.lt b e).2
  omega
 refine ⟨rfl,hB.setCell H.out.FQ _,_,heap_set HQ.out _,H.out.FQ,own_setK hkL H.out.nL,own_setK HO.out hqn,H.out.nL,hqn,hnn,H.out.gL,fun k hk=>?_⟩
 rcases List.mem_append.1 hk with hk | hk
 ·
  exact H.out.gS k hk
 exact HG.out k hk
end Go.Proofs.YtcddpmappmjilaaGreatDoor
namespace Go.Proofs.YtcddpmappmjilaaGreatDoor
open Go.RowKit Go.Maps
theorem take_all {c:Lkr} {st asked:List KindD} (h:asked.length<=st.length) (ha:((st.drop (st.length - asked.length)).zip asked).all (fun p=>c.fits p.1 p.2)=true):takeD c st asked=some (st.drop (st.length - asked.length),st.take (st.length - asked.length)):=by
 unfold takeD
 rw [if_pos h,if_pos ha]
theorem take_short {c:Lkr} {st asked:List KindD} (h:¬asked.length<=st.length):takeD c st asked=none:=by
 unfold takeD
 rw [if_neg h]
theorem take_no {c:Lkr} {st asked:List KindD} (ha:((st.drop (st.length - asked.length)).zip asked).all (fun p=>c.fits p.1 p.2)=false):takeD c st asked=none:=by
 unfold takeD
 split
 ·
  rw [if_neg (by rw [ha];decide)]
 rfl
def TakeOut (c:Lkr) (F P Q:Nat) (x:Cd.Op4) (vL:Value) (lo:List KindD) (res:Option LS) (r:Ending) (w w':World):Prop:=
 Below F w w'/\((∃t rest v' vS',res=some (t,rest)/\r=.returned v'/\SL 2 RK (· <w'.heap.size) w' v' t/\Sp c F P Q x w' vL vS' lo rest)\/(res=none/\∃e p,e≠0/\r=.panicked [wrongV e p]))
def Kq (Q:Nat) (w w':World):Prop:=∀b,b<w.heap.size->b≠Q->w'.heap[b]? =w.heap[b]?
set_option maxRecDepth 100000 in
set_option maxHeartbeats 4000000 in
theorem takeK_any {c:Lkr} {B F P Q:Nat} {x:Cd.Op4} {v:LkV} (hc:Cls c.d c.L) (w:World) {vL vS:Value} {lo st:List KindD} (hl:LkW c B P v w) (hBF:B<=F) (h:Sp c F P Q x w vL vS lo st) (hst:st.length<=1000) (M:Nat->Prop) (vA:Value) (asked:List KindD) (hA:SL 2 RK M w vA asked):
 Calls Tryz.prog 310 #[.pointer (some ⟨Q,0,none⟩),vA] w fun r w'=>TakeOut c F P Q x vL lo (takeD c st asked) r w w'/\∀v,r=.returned v->Kq Q w w':=by
 have H:=mkHid h
 have HL:=mkHid hl
 have HA:=mkHid hA
 have c6:=cell_of h.blk 6 (x:=vS) rfl
 have hQ:=lt_of h.blk
 have hsm:∀k∈st,k.cls.size<=maxLen:=fun k hk=>gd_small hc hl.kd (h.gS k hk)
 have HS:=mkHid hsm
 have HLA:Hid (asked.length<=maxLen):=by obtain ⟨_,_,_,_,h,_⟩:=hA;exact h
 have hla:=HLA.out
 unfold maxLen at hla
 obtain ⟨aA,cA,rfl,-⟩:=hA
 have hFS:=h.ff
 have HPQ:Hid (P<Q):=(by have:=hl.pB;have:=h.FQ;omega:P<Q)
 by_cases hle:asked.length<=st.length
 ·
  obtain ⟨n0,hn0⟩:∃n0,st.length=n0+asked.length:=⟨st.length - asked.length,by omega⟩
  have hd0:st.length - asked.length=n0:=by omega
  have hw1:IntKind.i64.wrap ((st.length:Int) - (asked.length:Int))=(n0:Int):=by
   rw [show (st.length:Int) - (asked.length:Int)=(n0:Int) by omega]
   exact wrap_i64_small _ (by omega) (by omega)
  obtain ⟨aS,cS,e,hlc,hcm,hSD⟩:=own_dropK h.oS hsm n0 (by omega)
  subst e
  obtain ⟨aD,cD,hslc⟩:∃aD cD,sliced aS n0 st.length cS 2=.slice aD asked.length cD:=⟨_,_,by unfold sliced;rw [show st.length - n0=asked.length by omega]⟩
  rw [hslc]at hSD
  have r3:∀V,(Instr.slice 78 (.slice aS st.length cS) (some (.int .i64 (n0:Int))) none none).run Tryz.prog V=.ok (.slice aD asked.length cD) V:=fun V=>by
   rw [run_slice_l V 78 _ _ _ Tryz.underlying78 .i64 (n0:Int) (by omega) (by omega)]
   show Result.ok (sliced aS ((n0:Int)).toNat st.length cS 2) V=_
   rw [Int.toNat_natCast,hslc]
  have r9:∀V,(Instr.slice 78 (.slice aS st.length cS) none (some (.int .i64 (n0:Int))) none).run Tryz.prog V=.ok (.slice aS n0 cS) V:=fun V=>by
   rw [run_slice_h V 78 _ _ _ Tryz.underlying78 .i64 (n0:Int) (by omega) (by omega)]
   show Result.ok (sliced aS 0 ((n0:Int)).toNat cS 2) V=_
   rw [Int.toNat_natCast,(own_takeK h.oS n0 (by omega)).1]
  have HTK:=mkHid (own_takeK h.oS n0 (by omega)).2
  have htl:(st.drop n0).length=asked.length:=by rw [List.length_drop];omega
  have HTL:=mkHid htl
  have HSD:=mkHid hSD
  have HLL:Hid ((st.drop n0).length<=100000):=(by rw [htl];omega:(st.drop n0).length<=100000)
  have HD0:=mkHid hd0
  have HN0:=mkHid hn0
  have HLE:=mkHid hle
  have h00:(0:Int)<=n0:=by omega
  have hal:asked.length<=1000:=by omega
  clear h hl hsm hSD htl hd0 hn0 hslc hle
  go_enter Tryz.func310,Tryz.ntmps310
  go_wp2_with fail
  refine (sdemand_any _ H.out _ _).mono ?_
  rintro r w1 ⟨hw,⟨hb,rfl⟩ | ⟨hb,rfl⟩⟩
  ·
   exact absurd hb (by simp)
  rw [hw]
  clear hb hw
  go_wp2_with fail
  refine (cloneKK_any _ _ _ _ HSD.out HLL.out).mono ?_
  rintro r w2 ⟨hb2,v2,rfl,ho2⟩
  have HB2:=mkHid hb2
  have HO2:=mkHid ho2
  have HO2S:=mkHid (own_SLK ho2 (fun k hk=>HS.out k (List.mem_of_mem_drop hk)))
  obtain ⟨a2,c2,e2⟩:=own_shape ho2
  rw [HTL.out]at e2
  subst e2
  clear hb2 ho2
  go_wp2_with fail
  go_loopw [30] (fun i wr=>∃k:Nat,k<=asked.length/\i=.int .i64 k/\Hid (Below w2.heap.size w2 wr/\(((st.drop n0).zip asked).take k).all (fun p=>c.fits p.1 p.2)=true)) (fun i _=>asked.length - (intOf i).toNat)
  case atStart=>exact ⟨0,Nat.zero_le _,rfl,Below.refl _ _,rfl⟩
  case round=>
   rename World=>wr
   obtain ⟨k,hk,rfl,HST⟩:=hrel
   have HBW:=mkHid (HB2.out.trans (HST.out.1.mono HB2.out.size))
   have HSP:=mkHid (H.out.up HBW.out)
   have HLW:=mkHid (HL.out.below (HBW.out.mono (Nat.le_trans hBF hFS)))
   by_cases hlt:k<asked.length
   ·
    have hk1:k<(st.drop n0).length:=by rw [HTL.out];exact hlt
    obtain ⟨b2,o2,e9,hb2,t0,t1,tsz⟩:=(HO2S.out.keptK (w':=wr) ⟨HST.out.1.size,fun b _ hb=>HST.out.1.block b hb⟩).atK k hk1
    subst e9
    obtain ⟨bA,oA,e9,hbA,s0,s1,-⟩:=(HA.out.keptK (w':=wr) ⟨HBW.out.size,fun b _ hb=>HBW.out.block b hb⟩).atK k hlt
    subst e9
    have HGA:Hid (GdK (Kn c) (st.drop n0)[k]):=H.out.gS _ (List.mem_of_mem_drop (List.getElem_mem hk1))
    have hzl:k<((st.drop n0).zip asked).length:=by rw [List.length_zip,HTL.out];omega
    have HTA:Hid ((((st.drop n0).zip asked).take (k+1)).all (fun p=>c.fits p.1 p.2)=c.fits (st.drop n0)[k] asked[k]):=by
     show _=_
     rw [List.take_succ_eq_append_getElem hzl,List.all_append,HST.out.2,List.getElem_zip]
     simp
    have HNO:Hid (c.fits (st.drop n0)[k] asked[k]=false->takeD c st asked=none):=fun e=>take_no (by
     rw [HD0.out,List.all_eq_false]
     exact ⟨_,List.getElem_mem hzl,by rw [List.getElem_zip];show ¬c.fits _ _=true;rw [e];decide⟩)
    have HMT:=mkHid (And.intro hlt (Nat.succ_le_of_lt hlt))
    generalize (st.drop n0)[k]=ka at*
    generalize asked[k]=kb at*
    obtain ⟨W1,hW1,hBW1,hs1,kx⟩:=boxes1 wr #[.int .i64 ka.kind,.string ka.cls] 80
    have HB1:=mkHid hBW1
    have HF:Hid (∀W,Below W1.heap.size W1 W->Calls Tryz.prog 332 #[kdV v.kC v.kS v.kF v.kN v.kT v.Bm,kv ka,kv kb] W fun r w'=>r=.returned (.bool (c.fits ka kb))/\Below W1.heap.size W1 w'):=fun W hW=>by
     have hb:=hBW1.trans (hW.mono hBW1.size)
     have hl:=HLW.out.below (hb.mono HLW.out.bw)
     exact (kFits_any W B _ _ _ _ _ _ c.d hl.kd hl.bw hl.gl hc ka kb HGA.out tsz).mono fun r w' ⟨e,h⟩=>⟨e,hW.trans (h.mono hW.size)⟩
    have HDM:Hid (∀W b,Below W1.heap.size W1 W->Calls Tryz.prog 246 #[.pointer (some ⟨Q,0,none⟩),.bool b,.int .i64 7] W fun r w'=>w'=W/\DemOut b 7 x.loc r):=fun W b hW=>sdemand_any _ ((HSP.out.up hBW1).up hW) b 7
    have hl1:=HLW.out.below (hBW1.mono HLW.out.bw)
    have hq1:=(HSP.out.up hBW1).blk
    have q0:=cell_of hq1 0 (x:=.pointer (some ⟨P,0,none⟩)) rfl
    have p0:=cell_of hl1.blk 0 (x:=v.kC) rfl
    have p1:=cell_of hl1.blk 1 (x:=v.kS) rfl
    have p2:=cell_of hl1.blk 2 (x:=v.kF) rfl
    have p3:=cell_of hl1.blk 3 (x:=v.kN) rfl
    have p4:=cell_of hl1.blk 4 (x:=v.kT) rfl
    have p5:=cell_of hl1.blk 5 (x:=.map (some v.Bm)) rfl
    have x0:=cell_of kx 0 (x:=.int .i64 ka.kind) rfl
    have x1:=cell_of kx 1 (x:=.string ka.cls) rfl
    have y0:=(hBW1.cell (p:=⟨bA,oA+k*2,none⟩) hbA).trans s0
    have y1:=(hBW1.cell (p:=⟨bA,oA+k*2+1,none⟩) hbA).trans s1
    have lQ:Q<W1.heap.size:=lt_of hq1
    have lP:P<W1.heap.size:=lt_of hl1.blk
    have lA:bA<W1.heap.size:=by omega
    have lX:wr.heap.size<W1.heap.size:=by omega
    have h00:(0:Int)<=k:=by omega
    have h01:(k:Int)<asked.length:=by omega
    clear hl1 hq1 kx hBW1 s0 s1 HSP HLW c6 hk1 hzl
    go_wp2_with fail
    rw [<-hW1]
    clear hW1 hs1
    refine wp_region_held_drew (S:=fun W'=>∀p:Addr,p.block<W1.heap.size->W'.cell? p=W1.cell? p) (by kernel_rfl) (fun p hp=>rfl) fun hH=>?_
    refine ta 0 (.pointer (some ⟨Q,0,none⟩)) rfl hH ?_
    refine ta 1 (.pointer (some ⟨Q,0,none⟩)) rfl hH ?_
    refine ta 2 (.pointer (some ⟨Q,0,none⟩)) rfl hH ?_
    refine ta 3 (.pointer (some ⟨Q,0,none⟩)) rfl hH ?_
    refine ta 4 (.pointer (some ⟨P,0,none⟩)) rfl hH ?_
    refine ta 5 (.pointer (some ⟨P,0,none⟩)) rfl hH ?_
    refine ta 6 (.pointer (some ⟨P,0,none⟩)) rfl hH ?_
    refine ta 7 (.agg #[v.kC,v.kS,v.kF,v.kN,v.kT,.map (some v.Bm)]) rfl hH ?_
    refine ta 8 (.agg #[.int .i64 ka.kind,.string ka.cls]) rfl hH ?_
    refine ta 9 (.slice (some ⟨bA,oA,none⟩) asked.length cA) rfl hH ?_
    refine ta 10 (.int .i64 k) rfl hH ?_
    refine ta 11 (.pointer (some ⟨bA,oA+k*2,none⟩)) rfl hH ?_
    refine ta 12 (.agg #[.int .i64 kb.kind,.string kb.cls]) rfl hH ?_
    refine wpAnyH_ready (rs:=[13]) (by kernel_rfl) (by simp) ?_
    refine AllReadyH.cons rfl (fun K13 hK13=>?_) AllReadyH.nil
    go_simp
    refine (HF.out _ ((Below.refl _ _).drew)).mono ?_
    rintro r w4 ⟨rfl,hb4⟩
    have HB4:=mkHid hb4
    refine hK13.out _ _ (fun p hp=>hb4.cell hp) fun hH=>?_
    clear hb4
    refine wpAnyH_ready (rs:=[14]) (by kernel_rfl) (by simp) ?_
    refine AllReadyH.cons rfl (fun K14 hK14=>?_) AllReadyH.nil
    go_simp
    refine (HDM.out _ _ HB4.out).mono ?_
    rintro r w5 ⟨hw5,⟨hb,rfl⟩ | ⟨hb,rfl⟩⟩
    ·
     exact ⟨rfl,⟨by rw [hw5];exact (HBW.out.trans ((HB1.out.trans (HB4.out.mono HB1.out.size)).mono HBW.out.size)).mono hFS,Or.inr ⟨HNO.out hb,7,_,by decide,rfl⟩⟩,fun _ e=>by cases e⟩
    rw [hw5]
    refine hK14.out _ _ hH fun hH=>?_
    clear hw5
    refine wpAnyH_done (by kernel_rfl) ?_ _
    clear hH
    try simp only [Act.put,List.setIfInBounds_toArray,List.set_cons_zero,List.set_cons_succ,List.getElem_toArray,List.getElem_cons_zero,List.getElem_cons_succ]
    go_wp2_with fail
    go_roundw
    case rel=>exact ⟨k+1,HMT.out.2,by go_num,HST.out.1.trans ((HB1.out.trans (HB4.out.mono HB1.out.size)).mono HST.out.1.size),HTA.out.trans hb⟩
    case measure=>have hmt9:=HMT.out.1;simp [intOf];omega
   have HALL:Hid (((st.drop n0).zip asked).all (fun p=>c.fits p.1 p.2)=true):=by
    have:=HST.out.2
    rwa [List.take_of_length_le (by rw [List.length_zip,HTL.out];omega)]at this
   have HTD:Hid (takeD c st asked=some (st.drop n0,st.take n0)):=by
    have:=take_all HLE.out (by rw [HD0.out];exact HALL.out)
    rw [HD0.out]at this
    exact this
   have q:=HSP.out.blk
   have d6:=cell_of q 6 (x:=.slice aS st.length cS) rfl
   have df:=frz_of q 6
   have h01:¬(k:Int)<asked.length:=by omega
   have HQB:=mkHid q
   clear q
   go_wp2_with fail
   go_ret
   have hbF:Below F w wr:=HBW.out.mono hFS
   refine ⟨⟨hbF.setCell H.out.FQ _,Or.inl ⟨st.drop n0,st.take n0,.slice a2 asked.length c2,.slice aS n0 cS,HTD.out,rfl,?_,?_⟩⟩,fun _ _ b hb hQ=>(Below.heap_setCell _ _ _ _ hQ).trans (HBW.out.block b hb)⟩
   ·
    have hs:=HO2S.out.keptK (w':=wr.setCell ⟨Q,6,none⟩ (.slice aS n0 cS)) ⟨by simp [World.setCell];exact HST.out.1.size,fun b hb hbl=>(Below.heap_setCell _ _ _ _ (by
     have:=(HO2.out.lt b hb).1
     show b≠Q
     omega)).trans (HST.out.1.block b hbl)⟩
    exact hs.monoK fun b hb=>(by have:=(HO2.out.lt b hb).2;have:=HST.out.1.size;simp [World.setCell];omega)
   have hob:(Value.slice aS n0 cS).ownBlock=(Value.slice aS st.length cS).ownBlock:=by cases aS<;>rfl
   exact ⟨heap_set HQB.out _,H.out.FQ,own_setK (own_up H.out.oL HBW.out) H.out.nL,own_setK (own_up HTK.out HBW.out) (hob ▸ H.out.nS),H.out.nL,hob ▸ H.out.nS,fun b hb=>hob ▸ H.out.ne b hb,H.out.gL,fun k hk=>H.out.gS k (List.mem_of_mem_take hk)⟩
 have HN:=mkHid (take_short (c:=c) hle)
 obtain ⟨aS,cS,rfl⟩:=own_shape h.oS
 have hw1:IntKind.i64.wrap ((st.length:Int) - (asked.length:Int))=(st.length:Int) - (asked.length:Int):=by rw [IntKind.wrap_i64];omega
 have h01:¬(0:Int)<=(st.length:Int) - (asked.length:Int):=by omega
 clear h hl hsm
 go_enter Tryz.func310,Tryz.ntmps310
 go_wp2_with fail
 refine (sdemand_any _ H.out _ _).mono ?_
 rintro r w1 ⟨rfl,⟨hb,rfl⟩ | ⟨hb,rfl⟩⟩
 ·
  exact ⟨rfl,⟨Below.refl _ _,Or.inr ⟨HN.out,5,_,by decide,rfl⟩⟩,fun _ e=>by cases e⟩
 exact absurd hb (by simp)
theorem take_any {c:Lkr} {B F P Q:Nat} {x:Cd.Op4} {v:LkV} (hc:Cls c.d c.L) (w:World) {vL vS:Value} {lo st:List KindD} (hl:LkW c B P v w) (hBF:B<=F) (h:Sp c F P Q x w vL vS lo st) (hst:st.length<=1000) (M:Nat->Prop) (vA:Value) (asked:List KindD) (hA:SL 2 RK M w vA asked):
 Calls Tryz.prog 310 #[.pointer (some ⟨Q,0,none⟩),vA] w fun r w'=>TakeOut c F P Q x vL lo (takeD c st asked) r w w':=
 (takeK_any hc w hl hBF h hst M vA asked hA).mono fun _ _ h=>h.1
end Go.Proofs.YtcddpmappmjilaaGreatDoor
namespace Go.Proofs.YtcddpmappmjilaaGreatDoor
open Go.RowKit Go.Maps
theorem new_SLK {W:World} {X t:Nat} {cs:Array Value} {l:List KindD} (h:W.heap[X]? =some (.cells cs t (0,0))) (hcs:cs.toList=kcs l) (hs:∀k∈l,k.cls.size<=maxLen) (hl:l.length<=maxLen):SL 2 RK (· <W.heap.size) W (.slice (some ⟨X,0,none⟩) l.length l.length) l:=by
 refine ⟨_,_,rfl,Nat.le_refl _,hl,fun k hk=>⟨X,0,[.int .i64 l[k].kind,.string l[k].cls],rfl,lt_of h,lt_of h,rfl,fun j hj=>?_,rfl,hs _ (List.getElem_mem hk)⟩⟩
 have e:=kcs_get l k j hk hj
 rw [<-e,<-hcs]
 have hj2:k*2+j<cs.size:=by rw [<-Array.length_toList,hcs,kcs_len];omega
 rw [show 0+k*2+j=k*2+j by omega,cell_of h (k*2+j) (x:=cs[k*2+j]) (by simp [hj2])]
 simp [hj2]
theorem TakeOut.from {c:Lkr} {F P Q:Nat} {x:Cd.Op4} {vL:Value} {lo:List KindD} {res:Option LS} {r:Ending} {w0 w w':World} (h:TakeOut c F P Q x vL lo res r w w') (hb:Below F w0 w):TakeOut c F P Q x vL lo res r w0 w':=⟨hb.trans h.1,h.2⟩
theorem takeN_any {c:Lkr} {B F P Q:Nat} {x:Cd.Op4} {v:LkV} (hc:Cls c.d c.L) (w:World) {vL vS:Value} {lo st:List KindD} (hl:LkW c B P v w) (hBF:B<=F) (h:Sp c F P Q x w vL vS lo st) (hst:st.length<=1000) (asked:List KindD) (cs:Array Value) (hcs:cs.toList=kcs asked) (hs:∀k∈asked,k.cls.size<=maxLen) (hla:asked.length<=1000):
 Calls Tryz.prog 310 #[.pointer (some ⟨Q,0,none⟩),.slice (some ⟨w.heap.size,0,none⟩) asked.length asked.length] (w.alloc (.cells cs 80)) fun r w'=>TakeOut c F P Q x vL lo (takeD c st asked) r w w':=by
 have hb:Below w.heap.size w (w.alloc (.cells cs 80)):=(Below.refl _ _).alloc (Nat.le_refl _) _
 exact (take_any hc _ (hl.below (hb.mono hl.bw)) hBF (h.up hb) hst _ _ asked (new_SLK (heap_alloc_new w _) hcs hs (by unfold maxLen;omega))).mono fun r w' h'=>h'.from (hb.mono h.ff)
theorem putN_any {c:Lkr} {F P Q:Nat} {x:Cd.Op4} (w:World) {vL vS:Value} {lo st:List KindD} (h:Sp c F P Q x w vL vS lo st) (made:List KindD) (cs:Array Value) (hcs:cs.toList=kcs made) (hs:∀k∈made,k.cls.size<=maxLen) (gM:∀k∈made,GdK (Kn c) k) (hb:st.length+made.length<=1000):
 Calls Tryz.prog 311 #[.pointer (some ⟨Q,0,none⟩),.slice (some ⟨w.heap.size,0,none⟩) made.length made.length] (w.alloc (.cells cs 80)) fun r w'=>r=.returned (.tuple #[])/\Below F w w'/\∃vS',Sp c F P Q x w' vL vS' lo (st++made):=by
 have hb':Below w.heap.size w (w.alloc (.cells cs 80)):=(Below.refl _ _).alloc (Nat.le_refl _) _
 exact (put_any _ (h.up hb') _ _ made (new_SLK (heap_alloc_new w _) hcs hs (by unfold maxLen;omega)) gM hb).mono fun r w' ⟨e,b,h'⟩=>⟨e,(hb'.mono h.ff).trans b,h'⟩
theorem tp_none {c:Lkr} {lo st asked:List KindD} {puts:List KindD->Option (List KindD)} (h:takeD c st asked=none):tpD c lo st asked puts=none:=by unfold tpD;rw [h];rfl
theorem tp_some {c:Lkr} {lo st asked t rest p:List KindD} {puts:List KindD->Option (List KindD)} (h:takeD c st asked=some (t,rest)) (hp:puts t=some p):tpD c lo st asked puts=some (lo,rest++p):=by unfold tpD;rw [h];simp [hp]
theorem take_len {c:Lkr} {st asked t rest:List KindD} (h:takeD c st asked=some (t,rest)):t.length=asked.length/\rest.length<=st.length/\(∀k∈t,k∈st)/\∀k∈rest,k∈st:=by
 unfold takeD at h
 split at h
 ·
  split at h
  ·
   cases h
   exact ⟨by rw [List.length_drop];omega,by rw [List.length_take];omega,fun k hk=>List.mem_of_mem_drop hk,fun k hk=>List.mem_of_mem_take hk⟩
  cases h
 cases h
theorem SpOut.fail {c:Lkr} {F P Q:Nat} {x:Cd.Op4} {w w':World} {e p:Int} (hb:Below F w w') (he:e≠0):SpOut c F P Q x none (.panicked [wrongV e p]) w w':=⟨hb,Or.inr ⟨rfl,e,p,he,rfl⟩⟩
theorem SpOut.fail' {c:Lkr} {F P Q:Nat} {x:Cd.Op4} {w w':World} {res:Option LS} (hr:res=none) {r:Ending} (hb:Below F w w') (h:∃e p,e≠0/\r=.panicked [wrongV e p]):SpOut c F P Q x res r w w':=⟨hb,Or.inr ⟨hr,h⟩⟩
theorem SpOut.ok {c:Lkr} {F P Q:Nat} {x:Cd.Op4} {w w':World} {res:Option LS} {vL vS:Value} {lo st:List KindD} (hr:res=some (lo,st)) (hb:Below F w w') (h:Sp c F P Q x w' vL vS lo st):SpOut c F P Q x res (.returned (.tuple #[])) w w':=⟨hb,Or.inl ⟨_,_,_,hr,rfl,h⟩⟩
theorem numK_gd (c:Lkr):GdK (Kn c) numK:=Or.inr (Or.inl rfl)
theorem rowK_gd (c:Lkr):GdK (Kn c) rowK:=Or.inr (Or.inr (Or.inl rfl))
theorem nulK_gd (c:Lkr):GdK (Kn c) nulK:=Or.inr (Or.inr (Or.inr (Or.inl rfl)))
theorem anyK_gd (c:Lkr):GdK (Kn c) anyK:=Or.inr (Or.inr (Or.inr (Or.inr rfl)))
set_option maxHeartbeats 1000000 in
theorem goesOn_any {c:Lkr} {F P Q:Nat} {x:Cd.Op4} (w:World) {vL vS:Value} {lo st:List KindD} (h:Sp c F P Q x w vL vS lo st):
 Calls Tryz.prog 247 #[.pointer (some ⟨Q,0,none⟩)] w fun r w'=>r=.returned (.bool (goesD x.op))/\w'=w:=by
 have c2:=cell_of h.blk 2 (x:=.int .i64 x.op) rfl
 clear h
 by_cases h1:x.op=13
 ·
  have HR:Hid (goesD x.op=false):=by show _=_;simp [goesD,h1]
  rw [h1]at c2
  clear h1
  go_enter Tryz.func247,Tryz.ntmps247
  go_wp2_with fail
  go_ret
  exact ⟨by rw [HR.out];rfl,rfl⟩
 by_cases h2:x.op=27
 ·
  have HR:Hid (goesD x.op=false):=by show _=_;simp [goesD,h2]
  rw [h2]at c2
  clear h2 h1
  go_enter Tryz.func247,Tryz.ntmps247
  go_wp2_with fail
  go_ret
  exact ⟨by rw [HR.out];rfl,rfl⟩
 by_cases h3:x.op=28
 ·
  have HR:Hid (goesD x.op=false):=by show _=_;simp [goesD,h3]
  rw [h3]at c2
  clear h3 h2 h1
  go_enter Tryz.func247,Tryz.ntmps247
  go_wp2_with fail
  go_ret
  exact ⟨by rw [HR.out];rfl,rfl⟩
 have HR:Hid (goesD x.op=(x.op != 13&&x.op != 27&&x.op != 28)):=by show _=_;simp [goesD,h1,h2,h3]
 go_enter Tryz.func247,Tryz.ntmps247
 go_wp2_with fail
 go_ret
 exact ⟨by rw [HR.out];rfl,rfl⟩
set_option maxHeartbeats 1000000 in
theorem branches_any {c:Lkr} {F P Q:Nat} {x:Cd.Op4} (w:World) {vL vS:Value} {lo st:List KindD} (h:Sp c F P Q x w vL vS lo st):
 Calls Tryz.prog 249 #[.pointer (some ⟨Q,0,none⟩)] w fun r w'=>r=.returned (.bool (brD x.op))/\w'=w:=by
 have c2:=cell_of h.blk 2 (x:=.int .i64 x.op) rfl
 have HR:Hid (brD x.op=((x.op==13)||(x.op==14)||(x.op==15)||(x.op==16)||(x.op==17))):=by
  show _=_
  unfold brD
  rw [show decide (x.op=13)=(x.op==13) by rw [Bool.eq_iff_iff];simp,show decide (x.op=14)=(x.op==14) by rw [Bool.eq_iff_iff];simp,show decide (x.op=15)=(x.op==15) by rw [Bool.eq_iff_iff];simp,show decide (x.op=16)=(x.op==16) by rw [Bool.eq_iff_iff];simp,show decide (x.op=17)=(x.op==17) by rw [Bool.eq_iff_iff];simp]
 clear h
 generalize x.op=o at*
 cases h1:(o==13)
 ·
  cases h2:(o==14)
  ·
   cases h3:(o==15)
   ·
    cases h4:(o==16)<;>cases h5:(o==17)
    all_goals
     rw [h1,h2,h3,h4,h5]at HR
     go_enter Tryz.func249,Tryz.ntmps249
     go_wp2_with fail
     go_ret
     exact ⟨by rw [HR.out];rfl,rfl⟩
   rw [h1,h2,h3]at HR
   go_enter Tryz.func249,Tryz.ntmps249
   go_wp2_with fail
   go_ret
   exact ⟨by rw [HR.out];rfl,rfl⟩
  rw [h1,h2]at HR
  go_enter Tryz.func249,Tryz.ntmps249
  go_wp2_with fail
  go_ret
  exact ⟨by rw [HR.out];rfl,rfl⟩
 rw [h1]at HR
 go_enter Tryz.func249,Tryz.ntmps249
 go_wp2_with fail
 go_ret
 exact ⟨by rw [HR.out];rfl,rfl⟩
theorem something_any (w:World) (k:KindD) (hs:k.cls.size<=maxLen):
 Calls Tryz.prog 339 #[kv k] w fun r w'=>Below w.heap.size w w'/\∃v,r=.returned v/\SL 2 RK (· <w'.heap.size) w' v (someD k):=by
 by_cases h0:k.kind=0
 ·
  have HR:Hid (someD k= []):=if_pos h0
  have b0:(k.kind==0)=true:=by rw [h0];rfl
  have HB:=mkHid ((Below.refl w.heap.size w).alloc (Nat.le_refl _) (.cells #[.int .i64 k.kind,.string k.cls] 80))
  clear h0
  go_enter Tryz.func339,Tryz.ntmps339
  go_wp2_with fail
  go_ret
  exact ⟨HB.out,_,rfl,by rw [HR.out];exact ⟨none,0,rfl,Nat.le_refl _,Nat.zero_le _,fun k hk=>by cases hk⟩⟩
 have HR:Hid (someD k= [k]):=if_neg h0
 have b0:(k.kind==0)=false:=by rw [beq_eq_false_iff_ne];exact h0
 have hB:=((Below.refl w.heap.size w).alloc (Nat.le_refl _) (.cells #[.int .i64 k.kind,.string k.cls] 80)).alloc (by simp) (.cells #[.int .i64 k.kind,.string k.cls] 80)
 have HB:=mkHid hB
 have HN:=mkHid (new_SLK (l:=[k]) (heap_alloc_new (w.alloc (.cells #[.int .i64 k.kind,.string k.cls] 80)) (.cells #[.int .i64 k.kind,.string k.cls] 80)) rfl (fun x hx=>by simp at hx;rw [hx];exact hs) (by unfold maxLen;simp))
 clear h0 hB
 go_enter Tryz.func339,Tryz.ntmps339
 go_wp2_with fail
 go_ret
 exact ⟨HB.out,_,rfl,by rw [HR.out];have:=HN.out;simpa using this⟩
end Go.Proofs.YtcddpmappmjilaaGreatDoor
namespace Go.Proofs.YtcddpmappmjilaaGreatDoor
open Go.RowKit Go.Maps
theorem sm_num:numK.cls.size<=maxLen:=Nat.zero_le _
theorem sm_any:anyK.cls.size<=maxLen:=Nat.zero_le _
theorem sm1 {a:KindD} (ha:a.cls.size<=maxLen):∀k∈ [a],k.cls.size<=maxLen:=fun k hk=>by simp at hk;rw [hk];exact ha
theorem gd1 {c:Lkr} {a:KindD} (ha:GdK (Kn c) a):∀k∈ [a],GdK (Kn c) k:=fun k hk=>by simp at hk;rw [hk];exact ha
end Go.Proofs.YtcddpmappmjilaaGreatDoor
namespace Go.Proofs.YtcddpmappmjilaaGreatDoor
open Go.RowKit Go.Maps
theorem Cd_nat {a:Int} (h:0<=a) {N:Nat} (hN:a<N):∃n:Nat,a=n/\n<N/\a.toNat=n:=⟨a.toNat,by omega,by omega,rfl⟩
theorem ofC_gd {c:Lkr} (hw:Wf c) {x:Cd.Op4} (h0:0<=x.a) (h1:x.a<c.d.classes.length):GdK (Kn c) (c.ofC x):=by
 obtain ⟨n,hn,hl,hN⟩:=Cd_nat h0 h1
 refine Or.inl ⟨Or.inl rfl,?_⟩
 show 0<=num c.d.classes (clsAt c.d.classes x.a.toNat).name
 rw [hN,clsAt_eq hl,hw.cls.nn n hl]
 omega
theorem told_is {c:Lkr} {x:Cd.Op4} {n k:Nat} (hn:n<c.d.classes.length) (hk:k<c.d.classes[n].meths.length) (hN:x.a.toNat=n) (hK:x.b.toNat=k):c.told x=c.d.classes[n].meths[k]:=by
 unfold Lkr.told Lkr.cls
 rw [hN,hK,clsAt_eq hn,List.getElem?_eq_getElem hk]
 rfl
end Go.Proofs.YtcddpmappmjilaaGreatDoor
