import Derived.Test.YtcddpmappmjilaaGreatDoorJLWvLLv
import Derived.Test.YtcddpmappmjilaaGreatDoorLCk
import Derived.Test.YtcddpmappmjilaaGreatDoorJLTieLBas
namespace Go.Proofs.YtcddpmappmjilaaGreatDoor
open Go.RowKit
def fewI (l:List ClassD) (i:Nat):Bool:=decide ((allF l i).length<=12)&&decide ((tabF l i).1.length<=16)
def linkErr (l:List ClassD):Int:=if checkLk l≠0 then checkLk l else if allI l (fewI l)=true then 0 else 2
def refD (l:List ClassD):LinkD:=⟨l,(List.range l.length).map fun i=>firstAt l (clsAt l i).super,(List.range l.length).map (allF l),(List.range l.length).map fun i=>(tabF l i).1,(List.range l.length).map fun i=>(tabF l i).2⟩
theorem lk_chk {l:List ClassD} (h:checkLk l=0):checkL l=0:=by
 by_cases hc:checkL l=0
 ·
  exact hc
 have:checkLk l=checkL l:=by simp [checkLk,hc]
 rw [<-this];exact h
theorem set5e (W:World) (R t:Nat) (a0 a1 a2 a3 a4 x0 x1 x2 x3 x4:Value) (h:W.heap[R]? =some (.cells #[a0,a1,a2,a3,a4] t (0,0))):
 ∃W9,(((((W.setCell ⟨R,0,none⟩ x0).setCell ⟨R,1,none⟩ x1).setCell ⟨R,2,none⟩ x2).setCell ⟨R,3,none⟩ x3).setCell ⟨R,4,none⟩ x4)=W9/\W9.heap[R]? =some (.cells #[x0,x1,x2,x3,x4] t (0,0))/\W.grownBy W9 (some R):=⟨_,rfl,set5 W R t a0 a1 a2 a3 a4 x0 x1 x2 x3 x4 h⟩
set_option maxRecDepth 100000 in
set_option maxHeartbeats 16000000 in
theorem LinkOf_any (w:World) (B:Nat) (l:List ClassD) (v:Value) (hv:SL 4 RC (· <B) w v l) (hB:B<=w.heap.size):
 Calls Tryz.prog 8 #[v] w fun r w'=>Below w.heap.size w w'/\
  ((linkErr l=0/\∃kC kS kF kN kT,r=.returned (.tuple #[.agg #[kC,kS,kF,kN,kT],.int .i64 0])/\RLk (fun k=>(k<B\/w.heap.size<=k)/\k<w'.heap.size) w' kC kS kF kN kT (refD l))\/(linkErr l≠0/\r=.returned (.tuple #[nilLk,.int .i64 (linkErr l)]))):=by
 obtain ⟨iI,hiI,hziI0,hziI1,hziI2⟩:=info_parts Tryz.infoInt
 obtain ⟨iF,hiF,hziF0,hziF1,hziF2⟩:=info_parts Tryz.infoFs
 obtain ⟨iN,hiN,hziN0,hziN1,hziN2⟩:=info_parts Tryz.infoNs
 obtain ⟨iT,hiT,hziT0,hziT1,hziT2⟩:=info_parts Tryz.infoTs
 have HV:=mkHid hv
 obtain ⟨ao,cl,rfl,-⟩:=hv
 have HB0:=mkHid (fun o=>(Below.refl w.heap.size w).alloc (Nat.le_refl _) o)
 go_enter Tryz.func8,Tryz.ntmps8
 go_wp2_with fail
 refine (CheckLink_any _ B l _ (HV.out.keptC (Kp.below ((HB0.out _).mono hB))) (Nat.le_trans hB (HB0.out _).size)).mono ?_
 rintro r w1 ⟨rfl,hb1⟩
 have hR1:w1.heap[w.heap.size]? =some (.cells #[.slice none 0 0,.slice none 0 0,.slice none 0 0,.slice none 0 0,.slice none 0 0] 28 (0,0)):=(hb1.block w.heap.size (by simp)).trans (heap_alloc_new w _)
 have hB1:Below w.heap.size w w1:=(HB0.out _).trans (hb1.mono (HB0.out _).size)
 have HB1:=mkHid hB1
 have HR1:=mkHid hR1
 have hXY:w.heap.size<w1.heap.size:=lt_of hR1
 have HFAIL:Hid (∀W,Below w1.heap.size w1 W->W.heap[w.heap.size]? =some (.cells #[.slice none 0 0,.slice none 0 0,.slice none 0 0,.slice none 0 0,.slice none 0 0] 28 (0,0))/\Below w.heap.size w W):=fun W hW=>⟨(hW.block _ (lt_of HR1.out)).trans HR1.out,HB1.out.trans (hW.mono HB1.out.size)⟩
 clear hb1 hB1 hR1
 by_cases hck:checkLk l=0
 rotate_left
 ·
  have hne:(checkLk l==0)=false:=beq_eq_false_iff_ne.2 hck
  have HT:Hid (linkErr l=checkLk l):=by show linkErr l=_;rw [linkErr,if_pos hck]
  have HN:=mkHid hck
  obtain ⟨hR,hBE⟩:=HFAIL.out w1 (Below.refl _ _)
  obtain ⟨W9,hW9,hR5,hG5⟩:=set5e _ w.heap.size _ _ _ _ _ _ (.slice none 0 0) (.slice none 0 0) (.slice none 0 0) (.slice none 0 0) (.slice none 0 0) hR
  have r0:=cell_of hR 0 (x:=.slice none 0 0) rfl
  have r1:=cell_of hR 1 (x:=.slice none 0 0) rfl
  have r2:=cell_of hR 2 (x:=.slice none 0 0) rfl
  have r3:=cell_of hR 3 (x:=.slice none 0 0) rfl
  have r4:=cell_of hR 4 (x:=.slice none 0 0) rfl
  have f0:∀j,w1.frozen? ⟨w.heap.size,j,none⟩=false:=fun j=>frz_of hR j
  have HR5:=mkHid hR5
  have HW9:=mkHid hW9
  have HG5:=mkHid hG5
  clear hck hR hR5 hG5 hW9
  generalize checkLk l=te at*
  go_wp2_with fail
  rw [HW9.out]
  have s0:=cell_of HR5.out 0 (x:=.slice none 0 0) rfl
  have s1:=cell_of HR5.out 1 (x:=.slice none 0 0) rfl
  have s2:=cell_of HR5.out 2 (x:=.slice none 0 0) rfl
  have s3:=cell_of HR5.out 3 (x:=.slice none 0 0) rfl
  have s4:=cell_of HR5.out 4 (x:=.slice none 0 0) rfl
  exact bodyPost_ret (v:=.tuple #[nilLk,.int .i64 te]) (by simp [results,Tryz.results8,go_sem,s0,s1,s2,s3,s4,nilLk]) rfl ⟨below_of_grown hBE HG5.out (Nat.le_refl _),Or.inr ⟨by rw [HT.out];exact HN.out,by rw [HT.out]⟩⟩
 obtain ⟨hN,hfine⟩:=list_fine (lk_chk hck)
 have HFI:=mkHid hfine
 have HT0:Hid (linkErr l=if allI l (fewI l)=true then 0 else 2):=by show linkErr l=_;rw [linkErr,if_neg (by simpa using hck)]
 rw [hck]
 clear hck hfine
 have HW0:Hid (Lv w1 (w1.alloc (.cells #[.slice ao l.length cl,.slice none 0 0,.slice none 0 0,.slice none 0 0,.slice none 0 0] 28)) (.slice ao l.length cl) (.slice none 0 0) (.slice none 0 0) (.slice none 0 0) (.slice none 0 0) [] [] [] []):=
  ⟨(Below.refl _ _).alloc (Nat.le_refl _) _,heap_alloc_new w1 _,World.ownsRow_nil _ _ _ _,(fun z hz=>by cases hz),World.ownsRow_nil _ _ _ _,(fun z hz=>by cases hz),World.ownsRow_nil _ _ _ _,(fun z hz=>by cases hz),World.ownsRow_nil _ _ _ _,(fun z hz=>by cases hz)⟩
 go_wp2_with fail
 generalize hYY:w1.heap.size=Y at*
 go_loopw [6] (fun i wr=>∃(k:Nat) (vS vF vN vT:Value) (zS:List (List Value×Int)) (zF:List (List Value×List FieldD)) (zN:List (List Value×List ByteArray)) (zT:List (List Value×List TargD)),k<=l.length/\i=.int .i64 k/\Hid (Lv w1 wr (.slice ao l.length cl) vS vF vN vT zS zF zN zT)/\
  Hid ((zS.map (·.2)=(List.range k).map fun i=>firstAt l (clsAt l i).super)/\zF.map (·.2)=(List.range k).map (allF l)/\(zN.map (·.2)=(List.range k).map fun i=>(tabF l i).1)/\(zT.map (·.2)=(List.range k).map fun i=>(tabF l i).2)/\∀j,j<k->fewI l j=true)) (fun i _=>l.length - (intOf i).toNat)
 case atStart=>exact ⟨0,_,_,_,_,[],[],[],[],Nat.zero_le _,rfl,HW0.out,rfl,rfl,rfl,rfl,fun j h=>by omega⟩
 case round=>as_aux_lemma=>
  clear HW0
  obtain ⟨k,vS,vF,vN,vT,zS,zF,zN,zT,hk,rfl,HW,HZ⟩:=hrel
  have hYr:Y<wr.heap.size:=by have:=HW.out.lt;omega
  have hlZ:zS.length=k/\zF.length=k/\zN.length=k/\zT.length=k:=by
   obtain ⟨h1,h2,h3,h4,-⟩:=HZ.out
   have g1:=congrArg List.length h1
   have g2:=congrArg List.length h2
   have g3:=congrArg List.length h3
   have g4:=congrArg List.length h4
   simp at g1 g2 g3 g4
   exact ⟨g1,g2,g3,g4⟩
  have HLZ:=mkHid hlZ
  clear hlZ
  have HVr:Hid (SL 4 RC (· <B) wr (.slice ao l.length cl) l):=HV.out.keptC (Kp.below ((HB1.out.trans (HW.out.below.mono HB1.out.size)).mono hB))
  have hBr:B<=wr.heap.size:=Nat.le_trans hB (HB1.out.trans (HW.out.below.mono HB1.out.size)).size
  by_cases hlt:k<l.length
  ·
   have h00:(0:Int)<=k:=by omega
   have h01:(k:Int)<l.length:=by omega
   have HAF:=mkHid (AllFields_any wr B _ l k hlt HVr.out hBr hN (fun c hc=>(HFI.out c hc).2.2.1))
   have HTO:Hid (∀W,Below wr.heap.size wr W->Calls Tryz.prog 18 #[.slice ao l.length cl,.int .i64 k] W fun r w'=>Below W.heap.size W w'/\∃v u,r=.returned (.tuple #[v,u])/\SL 1 RS (MT W.heap.size [9] w') w' v (tabF l k).1/\SL 2 RT (MT W.heap.size [67] w') w' u (tabF l k).2):=fun W hW=>TableOf_any W B _ l k hlt (HVr.out.keptC (Kp.below (hW.mono hBr))) (Nat.le_trans hBr hW.size) hN (fun c hc=>(HFI.out c hc).2.2.2.2.1)
   have HFW:Hid (fewI l k=(decide ((allF l k).length<=12)&&decide ((tabF l k).1.length<=16))):=rfl
   go_upto_region 10 with (first
    | (go_at_call 17;refine HAF.out.mono ?_;rintro r w2 ⟨hb2,u7,rfl,su7⟩;have HB2:=mkHid hb2;have HS7:=mkHid su7;obtain ⟨a7,c7,rfl,-⟩:=su7;clear hb2)
    | (go_at_call 18;refine (HTO.out _ HB2.out).mono ?_;rintro r w3 ⟨hb3,u8,u9,rfl,su8,su9⟩;have HB3:=mkHid hb3;have HS8:=mkHid su8;have HS9:=mkHid su9;obtain ⟨a8,c8,rfl,-⟩:=su8;obtain ⟨a9,c9,rfl,-⟩:=su9;clear hb3))
   have hw3:Hid (Below wr.heap.size wr w3):=HB2.out.trans (HB3.out.mono HB2.out.size)
   have HW3:=mkHid (HW.out.grow hw3.out)
   by_cases hfw:fewI l k=false
   ·
    have HTE:Hid (linkErr l=2):=HT0.out.trans (by rw [allI_bad hlt hfw];rfl)
    obtain ⟨hR,hBE⟩:=HFAIL.out w3 (hYY ▸ HW3.out.below)
    obtain ⟨W9,hW9,hR5,hG5⟩:=set5e _ w.heap.size _ _ _ _ _ _ (.slice none 0 0) (.slice none 0 0) (.slice none 0 0) (.slice none 0 0) (.slice none 0 0) hR
    have r0:=cell_of hR 0 (x:=.slice none 0 0) rfl
    have r1:=cell_of hR 1 (x:=.slice none 0 0) rfl
    have r2:=cell_of hR 2 (x:=.slice none 0 0) rfl
    have r3:=cell_of hR 3 (x:=.slice none 0 0) rfl
    have r4:=cell_of hR 4 (x:=.slice none 0 0) rfl
    have f0:∀j,w3.frozen? ⟨w.heap.size,j,none⟩=false:=fun j=>frz_of hR j
    have hX3:=lt_of hR
    have HR5:=mkHid hR5
    have HW9:=mkHid hW9
    have HG5:=mkHid hG5
    have HBE:=mkHid hBE
    rw [HFW.out]at hfw
    clear hR hR5 hG5 hBE HS7 HS8 HS9 hW9
    by_cases h12:(allF l k).length<=12
    ·
     have h16:¬(tabF l k).1.length<=16:=by simpa [h12]using hfw
     have j12:¬((12:Int)<(allF l k).length):=by omega
     have j16:((16:Int)<(tabF l k).1.length):=by omega
     clear hfw h12 h16
     go_wp2_with fail
     rw [HW9.out]
     have s0:=cell_of HR5.out 0 (x:=.slice none 0 0) rfl
     have s1:=cell_of HR5.out 1 (x:=.slice none 0 0) rfl
     have s2:=cell_of HR5.out 2 (x:=.slice none 0 0) rfl
     have s3:=cell_of HR5.out 3 (x:=.slice none 0 0) rfl
     have s4:=cell_of HR5.out 4 (x:=.slice none 0 0) rfl
     exact bodyPost_ret (v:=.tuple #[nilLk,.int .i64 2]) (by simp [results,Tryz.results8,go_sem,s0,s1,s2,s3,s4,nilLk]) rfl ⟨below_of_grown HBE.out HG5.out (Nat.le_refl _),Or.inr ⟨by rw [HTE.out];decide,by rw [HTE.out]⟩⟩
    have j12:((12:Int)<(allF l k).length):=by omega
    clear hfw h12
    go_wp2_with fail
    rw [HW9.out]
    have s0:=cell_of HR5.out 0 (x:=.slice none 0 0) rfl
    have s1:=cell_of HR5.out 1 (x:=.slice none 0 0) rfl
    have s2:=cell_of HR5.out 2 (x:=.slice none 0 0) rfl
    have s3:=cell_of HR5.out 3 (x:=.slice none 0 0) rfl
    have s4:=cell_of HR5.out 4 (x:=.slice none 0 0) rfl
    exact bodyPost_ret (v:=.tuple #[nilLk,.int .i64 2]) (by simp [results,Tryz.results8,go_sem,s0,s1,s2,s3,s4,nilLk]) rfl ⟨below_of_grown HBE.out HG5.out (Nat.le_refl _),Or.inr ⟨by rw [HTE.out];decide,by rw [HTE.out]⟩⟩
   have hfw':fewI l k=true:=by simpa using hfw
   have HFOK:=mkHid hfw'
   have hb12:(allF l k).length<=12/\(tabF l k).1.length<=16:=by simpa [fewI]using hfw'
   have j12:¬((12:Int)<(allF l k).length):=by omega
   have j16:¬((16:Int)<(tabF l k).1.length):=by omega
   clear hfw hfw' hb12
   have HV3:Hid (SL 4 RC (· <B) w3 (.slice ao l.length cl) l):=HVr.out.keptC (Kp.below (hw3.out.mono hBr))
   obtain ⟨b,off,vf,vm,rfl,hb,-,e1,-,-,-,-,-,es2⟩:=HV3.out.atC k hlt
   have HCA:=mkHid (ClassAt_any w3.drew (· <B) _ l l[k].super HV3.out)
   have HSU:Hid (firstAt l l[k].super=firstAt l (clsAt l k).super):=by show _=_;rw [clsAt_eq hlt]
   have HE3:Hid (w3.heap[Y]? =some (.cells #[.slice (some ⟨b,off,none⟩) l.length cl,vS,vF,vN,vT] 28 (0,0))):=hYY ▸ HW3.out.blk
   have m3:=cell_of HE3.out 1 (x:=vS) rfl
   have hY3:=lt_of HE3.out
   have HO3:Hid (w3.ownsRow (Y+1) 3 1 vS zS.length (zS.flatMap (·.1))):=hYY ▸ HW3.out.oS
   have HOD:Hid (∀c,((w3.alloc c).drew).ownsRow (Y+1) 3 1 vS zS.length (zS.flatMap (·.1))):=fun c=>HO3.out.alloc c
   have HNW:Hid (∀c,((w3.alloc c).drew).heap[w3.heap.size]? =some c):=fun c=>heap_alloc_new w3 c
   have HBS:Hid (zS.length+1<=maxLen/\(zS.length+1)*8<=140737488355328/\Y+1<=((w3.alloc (.cells #[.int .i64 (firstAt l l[k].super)] 3)).drew).heap.size):=(by have hz:=HLZ.out.1;exact ⟨by unfold maxLen;omega,by omega,by show Y+1<=(w3.alloc _).heap.size;simp;omega⟩)
   have HS7':Hid (SL 3 RF (MT Y [85] w3) w3 (Value.slice a7 (allF l k).length c7) (allF l k)):=(HS7.out.keptF (Stp.below HB3.out).kp).monoF fun _ hk=>(hk.step (Stp.below HB3.out)).more (by omega) (fun _ ht=>ht)
   have HS8':Hid (SL 1 RS (MT Y [9] w3) w3 (Value.slice a8 (tabF l k).1.length c8) (tabF l k).1):=HS8.out.monoS fun _ hk=>hk.more (by have:=HB2.out.size;omega) (fun _ ht=>ht)
   have HS9':Hid (SL 2 RT (MT Y [67] w3) w3 (Value.slice a9 (tabF l k).2.length c9) (tabF l k).2):=HS9.out.monoT fun _ hk=>hk.more (by have:=HB2.out.size;omega) (fun _ ht=>ht)
   have HES:=mkHid es2
   clear es2 HS7 HS8 HS9 HB2 HB3 hw3 HAF HTO
   go_upto_region 12 with fail
   go_cut [] (fun W=>∃vS' zS',Lv w1 W (.slice (some ⟨b,off,none⟩) l.length cl) vS' vF vN vT zS' zF zN zT/\(zS'.map (·.2)=(List.range (k+1)).map fun i=>firstAt l (clsAt l i).super)/\SL 3 RF (MT Y [85] W) W (Value.slice a7 (allF l k).length c7) (allF l k)/\SL 1 RS (MT Y [9] W) W (Value.slice a8 (tabF l k).1.length c8) (tabF l k).1/\SL 2 RT (MT Y [67] W) W (Value.slice a9 (tabF l k).2.length c9) (tabF l k).2)
   case first=>
    go_region_law (first
     | (refine step_append_lies _ (by rfl) (.tmp 43) (.tmp 51) 23 (by rfl) (Y+1) 3 iI (.int .i64 0) 1 8 Tryz.underlying23 hiI hziI0 hziI1 hziI2 rfl (by decide) vS zS.length (zS.flatMap (·.1)) (by rfl) (HOD.out _) ⟨w3.heap.size,0,none⟩ 1 1 [.int .i64 (firstAt l l[k].super)] (by rfl) rfl (World.news_of_block (HNW.out _)) (by intro u hu;simp at hu;subst hu;rfl) (by decide) HBS.out.1 HBS.out.2.1 HBS.out.2.2 _ rfl ?_;intro gA cA w9 hown9 hgr9 _ hlt9;have hrb9:∀q,vS.ownBlock=some q->Y+1<=q:=fun q e=>(HO3.out.lt q e).1;have eB9:=(hgr9.block Y (by show Y<(w3.alloc _).heap.size;simp;omega) (fun e=>by have:=hrb9 _ e.symm;omega)).trans ((Below.heap_alloc w3 _ _ hY3).trans HE3.out);have m9:=cell_of eB9 1 (x:=vS) rfl;have z9:=frz_of eB9 1;have ml9:=lt_of eB9;have HFA:Hid (_/\World.grownBy (w3.alloc (.cells #[.int .i64 (firstAt l l[k].super)] 3)) w9 vS.ownBlock):=(And.intro hown9 ⟨hgr9.os,hgr9.tape,hgr9.output,hgr9.size,hgr9.block⟩);clear hown9 hgr9 eB9 hrb9)
     | (go_simp;go_wp2_with (go_at_call 19;refine HCA.out.mono ?_;rintro r w7 ⟨rfl,rfl⟩)))
    all_goals
     have HFIN:=mkHid (HW3.out.addS (x:=firstAt l l[k].super) rfl (hYY.symm ▸ HFA.out.1) HFA.out.2)
     have hst:=HW3.out.stpS (hYY.symm ▸ HFA.out.1) HFA.out.2
     rw [hYY]at HFIN hst
     have HK7:=mkHid ((HS7'.out.keptF (hst 85 (by decide)).kp).monoF fun _ hk=>hk.step (hst 85 (by decide)))
     have HK8:=mkHid ((HS8'.out.keptS (hst 9 (by decide)).kp).monoS fun _ hk=>hk.step (hst 9 (by decide)))
     have HK9:=mkHid ((HS9'.out.keptT (hst 67 (by decide)).kp).monoT fun _ hk=>hk.step (hst 67 (by decide)))
     clear hst
     go_wp2_with fail
     go_meet
     exact ⟨_,_,HFIN.out,by rw [List.map_append,HZ.out.1,range_snoc,<-HSU.out];rfl,HK7.out,HK8.out,HK9.out⟩
   case rest=>as_aux_lemma=>
    clear m3 HW HE3 HOD HO3 HNW HBS HS7' HS8' HS9' HCA HV3 hY3 hYr e1 hb HW3 HES
    rename World=>W
    obtain ⟨vS',zS',hW,hZS,k7,k8,k9⟩:=hcut
    have HWF:=mkHid hW
    have HZS:=mkHid hZS
    have HK7:=mkHid k7
    have HK8:=mkHid k8
    have HK9:=mkHid k9
    clear hW hZS k7 k8 k9
    have HEF:Hid (W.heap[Y]? =some (.cells #[.slice (some ⟨b,off,none⟩) l.length cl,vS',vF,vN,vT] 28 (0,0))):=hYY ▸ HWF.out.blk
    have mF:=cell_of HEF.out 2 (x:=vF) rfl
    have mlF:=lt_of HEF.out
    have HOF:Hid (W.ownsRow (Y+1) 54 1 vF zF.length (zF.flatMap (·.1))):=hYY ▸ HWF.out.oF
    have HBF:Hid (zF.length+1<=maxLen/\(zF.length+1)*24<=140737488355328/\Y+1<=(W.alloc (.cells #[Value.slice a7 (allF l k).length c7] 54)).heap.size):=(by have hz:=HLZ.out.2.1;exact ⟨by unfold maxLen;omega,by omega,by simp;omega⟩)
    go_upto_region 14 with (at_builtin;refine wpList_append_lies _ rfl _ _ 24 rfl (Y+1) 54 iF (.slice none 0 0) 1 24 Tryz.underlying24 hiF hziF0 hziF1 hziF2 rfl (by decide) vF zF.length (zF.flatMap (·.1)) rfl (HOF.out.alloc _) ⟨W.heap.size,0,none⟩ 1 1 [Value.slice a7 (allF l k).length c7] rfl rfl (World.news_of_block (heap_alloc_new W _)) (by intro u hu;simp at hu;subst hu;rfl) (by decide) HBF.out.1 HBF.out.2.1 HBF.out.2.2 _ rfl ?_;intro gA cA w9 hown9 hgr9 _ hlt9;have hrb9:∀q,vF.ownBlock=some q->Y+1<=q:=fun q e=>(HOF.out.lt q e).1;have eB9:=(hgr9.block Y (by simp;omega) (fun e=>by have:=hrb9 _ e.symm;omega)).trans ((Below.heap_alloc _ _ _ mlF).trans HEF.out);have m9:=cell_of eB9 2 (x:=vF) rfl;have z9:=frz_of eB9 2;have ml9:=lt_of eB9;have HWN:=mkHid (HWF.out.addF (hYY.symm ▸ HK7.out) (hYY.symm ▸ hown9) hgr9);have hst:=HWF.out.stpF (hYY.symm ▸ hown9) hgr9;rw [hYY]at HWN hst;have HL8:=mkHid ((HK8.out.keptS (hst 9 (by decide)).kp).monoS fun _ hk=>hk.step (hst 9 (by decide)));have HL9:=mkHid ((HK9.out.keptT (hst 67 (by decide)).kp).monoT fun _ hk=>hk.step (hst 67 (by decide)));clear hst;clear hown9 hgr9 eB9 hrb9)
    obtain ⟨wn,hwn⟩:∃wn,w9.setCell ⟨Y,2,none⟩ (.slice (some ⟨gA,0,none⟩) (zF.length+1) cA)=wn:=⟨_,rfl⟩
    rw [hwn]at HWN HL8 HL9 ⊢
    have HEN:Hid (wn.heap[Y]? =some (.cells #[.slice (some ⟨b,off,none⟩) l.length cl,vS',.slice (some ⟨gA,0,none⟩) (zF.length+1) cA,vN,vT] 28 (0,0))):=hYY ▸ HWN.out.blk
    have mN:=cell_of HEN.out 3 (x:=vN) rfl
    have mlN:=lt_of HEN.out
    have HON:Hid (wn.ownsRow (Y+1) 56 1 vN zN.length (zN.flatMap (·.1))):=hYY ▸ HWN.out.oN
    have HBN:Hid (zN.length+1<=maxLen/\(zN.length+1)*24<=140737488355328/\Y+1<=(wn.alloc (.cells #[Value.slice a8 (tabF l k).1.length c8] 56)).heap.size):=(by have hz:=HLZ.out.2.2.1;exact ⟨by unfold maxLen;omega,by omega,by simp;omega⟩)
    clear hwn m9 z9 ml9 hlt9 mF mlF HWF HEF HOF HBF HK7 HK8 HK9
    go_upto_region 15 with (at_builtin;refine wpList_append_lies _ rfl _ _ 25 rfl (Y+1) 56 iN (.slice none 0 0) 1 24 Tryz.underlying25 hiN hziN0 hziN1 hziN2 rfl (by decide) vN zN.length (zN.flatMap (·.1)) rfl (HON.out.alloc _) ⟨wn.heap.size,0,none⟩ 1 1 [Value.slice a8 (tabF l k).1.length c8] rfl rfl (World.news_of_block (heap_alloc_new wn _)) (by intro u hu;simp at hu;subst hu;rfl) (by decide) HBN.out.1 HBN.out.2.1 HBN.out.2.2 _ rfl ?_;intro gB cB w8 hown9 hgr9 _ hlt9;have hrb9:∀q,vN.ownBlock=some q->Y+1<=q:=fun q e=>(HON.out.lt q e).1;have eB9:=(hgr9.block Y (by simp;omega) (fun e=>by have:=hrb9 _ e.symm;omega)).trans ((Below.heap_alloc _ _ _ mlN).trans HEN.out);have m9:=cell_of eB9 3 (x:=vN) rfl;have z9:=frz_of eB9 3;have ml9:=lt_of eB9;have HWT:=mkHid (HWN.out.addN (hYY.symm ▸ HL8.out) (hYY.symm ▸ hown9) hgr9);have hst:=HWN.out.stpN (hYY.symm ▸ hown9) hgr9;rw [hYY]at HWT hst;have HM9:=mkHid ((HL9.out.keptT (hst 67 (by decide)).kp).monoT fun _ hk=>hk.step (hst 67 (by decide)));clear hst;clear hown9 hgr9 eB9 hrb9)
    obtain ⟨wt,hwt⟩:∃wt,w8.setCell ⟨Y,3,none⟩ (.slice (some ⟨gB,0,none⟩) (zN.length+1) cB)=wt:=⟨_,rfl⟩
    rw [hwt]at HWT HM9 ⊢
    have HET:Hid (wt.heap[Y]? =some (.cells #[.slice (some ⟨b,off,none⟩) l.length cl,vS',.slice (some ⟨gA,0,none⟩) (zF.length+1) cA,.slice (some ⟨gB,0,none⟩) (zN.length+1) cB,vT] 28 (0,0))):=hYY ▸ HWT.out.blk
    have mT:=cell_of HET.out 4 (x:=vT) rfl
    have mlT:=lt_of HET.out
    have HOT:Hid (wt.ownsRow (Y+1) 57 1 vT zT.length (zT.flatMap (·.1))):=hYY ▸ HWT.out.oT
    have HBT:Hid (zT.length+1<=maxLen/\(zT.length+1)*24<=140737488355328/\Y+1<=(wt.alloc (.cells #[Value.slice a9 (tabF l k).2.length c9] 57)).heap.size):=(by have hz:=HLZ.out.2.2.2;exact ⟨by unfold maxLen;omega,by omega,by simp;omega⟩)
    clear hwt m9 z9 ml9 hlt9 mN mlN HWN HEN HON HBN HL8 HL9
    go_upto_region 7 with (at_builtin;refine wpList_append_lies _ rfl _ _ 26 rfl (Y+1) 57 iT (.slice none 0 0) 1 24 Tryz.underlying26 hiT hziT0 hziT1 hziT2 rfl (by decide) vT zT.length (zT.flatMap (·.1)) rfl (HOT.out.alloc _) ⟨wt.heap.size,0,none⟩ 1 1 [Value.slice a9 (tabF l k).2.length c9] rfl rfl (World.news_of_block (heap_alloc_new wt _)) (by intro u hu;simp at hu;subst hu;rfl) (by decide) HBT.out.1 HBT.out.2.1 HBT.out.2.2 _ rfl ?_;intro gC cC w7 hown9 hgr9 _ hlt9;have hrb9:∀q,vT.ownBlock=some q->Y+1<=q:=fun q e=>(HOT.out.lt q e).1;have eB9:=(hgr9.block Y (by simp;omega) (fun e=>by have:=hrb9 _ e.symm;omega)).trans ((Below.heap_alloc _ _ _ mlT).trans HET.out);have m9:=cell_of eB9 4 (x:=vT) rfl;have z9:=frz_of eB9 4;have ml9:=lt_of eB9;have HWX:=mkHid (HWT.out.addT (hYY.symm ▸ HM9.out) (hYY.symm ▸ hown9) hgr9);rw [hYY]at HWX;clear hown9 hgr9 eB9 hrb9)
    have HZX:Hid ((zS'.map (·.2)=(List.range (k+1)).map fun i=>firstAt l (clsAt l i).super)/\((zF++ [([Value.slice a7 (allF l k).length c7],allF l k)]).map (·.2)=(List.range (k+1)).map (allF l))/\((zN++ [([Value.slice a8 (tabF l k).1.length c8],(tabF l k).1)]).map (·.2)=(List.range (k+1)).map fun i=>(tabF l i).1)/\((zT++ [([Value.slice a9 (tabF l k).2.length c9],(tabF l k).2)]).map (·.2)=(List.range (k+1)).map fun i=>(tabF l i).2)/\∀j,j<k+1->fewI l j=true):=by
     obtain ⟨-,h2,h3,h4,h5⟩:=HZ.out
     refine ⟨HZS.out,?_,?_,?_,upto_succ h5 HFOK.out⟩
     ·
      rw [List.map_append,h2,range_snoc];rfl
     ·
      rw [List.map_append,h3,range_snoc];rfl
     rw [List.map_append,h4,range_snoc];rfl
    clear HWT HET HOT HBT HM9 mT mlT HZ HZS
    go_wp2_with fail
    go_roundw
    case rel=>exact ⟨k+1,_,_,_,_,_,_,_,_,by omega,by go_num,HWX.out,HZX.out⟩
    case measure=>simp [intOf];omega
  have hkl:k=l.length:=by omega
  have HTE:Hid (linkErr l=0):=HT0.out.trans (if_pos (allI_end hlt HZ.out.2.2.2.2))
  have HRL:Hid (RLk (fun q=>(q<B\/w1.heap.size<=q)/\q<wr.heap.size) wr (.slice ao l.length cl) vS vF vN vT (refD l)):=by
   obtain ⟨h1,h2,h3,h4,-⟩:=HZ.out
   obtain ⟨g1,g2,g3,g4⟩:=HLZ.out
   have:=HW.out.rlk (B:=B) (Nat.le_trans hB HB1.out.size) HVr.out (by omega) (by omega) (by omega) (by omega)
   rw [h1,h2,h3,h4,hkl]at this
   exact this
  obtain ⟨hR,hBE⟩:=HFAIL.out wr (hYY ▸ HW.out.below)
  obtain ⟨aS,cS,e1⟩:∃aS cS,vS=.slice aS l.length cS:=(by obtain ⟨a,c,e,-⟩:=HRL.out.S;exact ⟨a,c,by simpa [refD]using e⟩)
  obtain ⟨aF,cF,e2⟩:∃aF cF,vF=.slice aF l.length cF:=(by obtain ⟨a,c,e,-⟩:=HRL.out.F;exact ⟨a,c,by simpa [refD]using e⟩)
  obtain ⟨aN,cN,e3⟩:∃aN cN,vN=.slice aN l.length cN:=(by obtain ⟨a,c,e,-⟩:=HRL.out.N;exact ⟨a,c,by simpa [refD]using e⟩)
  obtain ⟨aT,cT,e4⟩:∃aT cT,vT=.slice aT l.length cT:=(by obtain ⟨a,c,e,-⟩:=HRL.out.T;exact ⟨a,c,by simpa [refD]using e⟩)
  subst e1 e2 e3 e4
  have hblk:wr.heap[Y]? =some (.cells #[.slice ao l.length cl,.slice aS l.length cS,.slice aF l.length cF,.slice aN l.length cN,.slice aT l.length cT] 28 (0,0)):=hYY ▸ HW.out.blk
  have d0:=cell_of hblk 0 (x:=.slice ao l.length cl) rfl
  have d1:=cell_of hblk 1 (x:=.slice aS l.length cS) rfl
  have d2:=cell_of hblk 2 (x:=.slice aF l.length cF) rfl
  have d3:=cell_of hblk 3 (x:=.slice aN l.length cN) rfl
  have d4:=cell_of hblk 4 (x:=.slice aT l.length cT) rfl
  have r0:=cell_of hR 0 (x:=.slice none 0 0) rfl
  have r1:=cell_of hR 1 (x:=.slice none 0 0) rfl
  have r2:=cell_of hR 2 (x:=.slice none 0 0) rfl
  have r3:=cell_of hR 3 (x:=.slice none 0 0) rfl
  have r4:=cell_of hR 4 (x:=.slice none 0 0) rfl
  have f0:∀j,wr.frozen? ⟨w.heap.size,j,none⟩=false:=fun j=>frz_of hR j
  have hX3:=lt_of hR
  obtain ⟨W9,hW9,hR5,hG5⟩:=set5e _ w.heap.size _ _ _ _ _ _ (.slice ao l.length cl) (.slice aS l.length cS) (.slice aF l.length cF) (.slice aN l.length cN) (.slice aT l.length cT) hR
  have HR5:=mkHid hR5
  have HG5:=mkHid hG5
  have HW9:=mkHid hW9
  have HBE:=mkHid hBE
  clear hR hR5 hG5 hW9 hBE hblk HW HZ HVr HLZ
  go_wp2_with fail
  rw [HW9.out]
  have s0:=cell_of HR5.out 0 (x:=.slice ao l.length cl) rfl
  have s1:=cell_of HR5.out 1 (x:=.slice aS l.length cS) rfl
  have s2:=cell_of HR5.out 2 (x:=.slice aF l.length cF) rfl
  have s3:=cell_of HR5.out 3 (x:=.slice aN l.length cN) rfl
  have s4:=cell_of HR5.out 4 (x:=.slice aT l.length cT) rfl
  refine bodyPost_ret (v:=.tuple #[.agg #[.slice ao l.length cl,.slice aS l.length cS,.slice aF l.length cF,.slice aN l.length cN,.slice aT l.length cT],.int .i64 0]) (by simp [results,Tryz.results8,go_sem,s0,s1,s2,s3,s4]) rfl ⟨below_of_grown HBE.out HG5.out (Nat.le_refl _),Or.inl ⟨HTE.out,_,_,_,_,_,rfl,?_⟩⟩
  exact (HRL.out.kept (w':=W9) ⟨HG5.out.size,fun q hq hl=>HG5.out.block q hl (by intro e;injection e with e;rcases hq.1 with h | h<;>omega)⟩).mono fun q hq=>⟨hq.1.imp id (fun h=>by omega),Nat.lt_of_lt_of_le hq.2 HG5.out.size⟩
end Go.Proofs.YtcddpmappmjilaaGreatDoor
