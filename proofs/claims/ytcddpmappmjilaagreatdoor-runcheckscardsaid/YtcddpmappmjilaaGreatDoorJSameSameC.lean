import Derived.Test.YtcddpmappmjilaaGreatDoorJChkLeafChkClass
import Derived.Test.YtcddpmappmjilaaGreatDoorGrown
import Derived.Test.YtcddpmappmjilaaGreatDoorGrow
import Derived.Test.YtcddpmappmjilaaGreatDoorJCatchLMem
import Derived.Deep.RegionWith
import Derived.Deep.DeepCutAuto
namespace Go.Proofs.YtcddpmappmjilaaGreatDoor
open Go.RowKit
set_option maxHeartbeats 1000000 in
theorem sameKinds_any (w:World) (u v:Value) (l:List KindD) (hu:SL 2 RK (· <w.heap.size) w u l) (hv:SL 2 RK (· <w.heap.size) w v l):
 Calls Tryz.prog 38 #[u,v] w fun r w'=>r=.returned (.bool true)/\∃n,w'=w.drewN n:=by
 have HU:=mkHid hu
 have HV:=mkHid hv
 obtain ⟨au,cu,rfl,_,hl,-⟩:=hu
 obtain ⟨av,cv,rfl,-⟩:=hv
 unfold maxLen at hl
 go_enter Tryz.func38,Tryz.ntmps38
 go_wp2
 go_loopw [5] (fun i wr=>∃k:Nat,k<=l.length/\i=.int .i64 k/\∃n,wr=w.drewN n) (fun i _=>l.length - (intOf i).toNat)
 case atStart=>exact ⟨0,Nat.zero_le _,rfl,0,rfl⟩
 case round=>
  obtain ⟨k,hk,rfl,n,rfl⟩:=hrel
  by_cases hlt:k<l.length
  ·
   obtain ⟨b,off,rfl,_,c0,c1,_⟩:=HU.out.atK k hlt
   obtain ⟨b',off',rfl,_,d0,d1,_⟩:=HV.out.atK k hlt
   go_wp2
   go_quiet (fail)
   go_wp2
   go_roundw
   case rel=>exact ⟨k+1,by omega,by go_num,_,rfl⟩
   case measure=>simp [intOf];omega
  go_wp2
  go_ret
  exact ⟨rfl,n,rfl⟩
set_option maxHeartbeats 1000000 in
theorem sameFields_any (w:World) (u v:Value) (l:List FieldD) (hu:SL 3 RF (· <w.heap.size) w u l) (hv:SL 3 RF (· <w.heap.size) w v l):
 Calls Tryz.prog 21 #[u,v] w fun r w'=>r=.returned (.bool true)/\∃n,w'=w.drewN n:=by
 have HU:=mkHid hu
 have HV:=mkHid hv
 obtain ⟨au,cu,rfl,_,hl,-⟩:=hu
 obtain ⟨av,cv,rfl,-⟩:=hv
 unfold maxLen at hl
 go_enter Tryz.func21,Tryz.ntmps21
 go_wp2
 go_loopw [5] (fun i wr=>∃k:Nat,k<=l.length/\i=.int .i64 k/\∃n,wr=w.drewN n) (fun i _=>l.length - (intOf i).toNat)
 case atStart=>exact ⟨0,Nat.zero_le _,rfl,0,rfl⟩
 case round=>
  obtain ⟨k,hk,rfl,n,rfl⟩:=hrel
  by_cases hlt:k<l.length
  ·
   obtain ⟨b,off,rfl,_,c0,c1,c2,_⟩:=HU.out.atF k hlt
   obtain ⟨b',off',rfl,_,d0,d1,d2,_⟩:=HV.out.atF k hlt
   go_wp2
   go_quiet (fail)
   go_wp2
   go_roundw
   case rel=>exact ⟨k+1,by omega,by go_num,_,rfl⟩
   case measure=>simp [intOf];omega
  go_wp2
  go_ret
  exact ⟨rfl,n,rfl⟩
end Go.Proofs.YtcddpmappmjilaaGreatDoor
namespace Go.Proofs.YtcddpmappmjilaaGreatDoor
open Go.RowKit
theorem below_drewN {B:Nat} {w w':World} (h:Below B w w') (n:Nat):Below B w (w'.drewN n):=⟨h.os,h.tape,h.output,h.size,h.block⟩
structure Pair (wr W:World) (px py:Value) (t:Nat) (cx cy:Array Value):Prop where
 at_:∃X Y,px=.pointer (some ⟨X,0,none⟩)/\py=.pointer (some ⟨Y,0,none⟩)/\wr.heap.size<=X/\wr.heap.size<=Y/\W.heap[X]? =some (.cells cx t (0,0))/\W.heap[Y]? =some (.cells cy t (0,0))
 below:Below wr.heap.size wr W
theorem Pair.one (wr:World) (t:Nat) (cx cy:Array Value):Pair wr ((wr.alloc (.cells cx t)).alloc (.cells cy t)).drew (.pointer (some ⟨wr.heap.size,0,none⟩)) (.pointer (some ⟨wr.heap.size+1,0,none⟩)) t cx cy:=by
 refine ⟨⟨_,_,rfl,rfl,Nat.le_refl _,by omega,?_,?_⟩,(((Below.refl _ _).alloc (Nat.le_refl _) _).alloc (by simp) _).drew⟩
 ·
  show ((wr.heap.push _).push _)[wr.heap.size]? =_
  rw [Array.getElem?_push,if_neg (by simp)]
  exact Array.getElem?_push_size
 show ((wr.heap.push _).push _)[wr.heap.size+1]? =_
 rw [Array.getElem?_push,if_pos (by simp)]
theorem Pair.two (wr:World) (t:Nat) (cx cy:Array Value):Pair wr ((wr.alloc (.cells cy t)).alloc (.cells cx t)).drew (.pointer (some ⟨wr.heap.size+1,0,none⟩)) (.pointer (some ⟨wr.heap.size,0,none⟩)) t cx cy:=by
 obtain ⟨⟨X,Y,h1,h2,h3,h4,h5,h6⟩,h7⟩:=Pair.one wr t cy cx
 exact ⟨⟨Y,X,h2,h1,h4,h3,h6,h5⟩,h7⟩
theorem blk_lt {W:World} {X:Nat} {o:Obj} (h:W.heap[X]? =some o):X<W.heap.size:=(Array.getElem?_eq_some_iff.1 h).1
theorem SL.upF {B:Nat} {w w':World} {v:Value} {l:List FieldD} (h:SL 3 RF (· <B) w v l) (hb:Below B w w') (hB:B<=w.heap.size):SL 3 RF (· <w'.heap.size) w' v l:=(h.keptF (Kp.below hb)).monoF fun _ hk=>Nat.lt_of_lt_of_le hk (Nat.le_trans hB hb.size)
theorem SL.upK {B:Nat} {w w':World} {v:Value} {l:List KindD} (h:SL 2 RK (· <B) w v l) (hb:Below B w w') (hB:B<=w.heap.size):SL 2 RK (· <w'.heap.size) w' v l:=(h.keptK (Kp.below hb)).monoK fun _ hk=>Nat.lt_of_lt_of_le hk (Nat.le_trans hB hb.size)
set_option maxRecDepth 100000 in
set_option maxHeartbeats 20000000 in
theorem sameClasses_any (w:World) (u v:Value) (l:List ClassD) (hu:SL 4 RC (· <w.heap.size) w u l) (hv:SL 4 RC (· <w.heap.size) w v l):
 Calls Tryz.prog 20 #[u,v] w fun r w'=>r=.returned (.bool true)/\Below w.heap.size w w':=by
 have HU:=mkHid hu
 have HV:=mkHid hv
 obtain ⟨au,cu,rfl,_,hl,-⟩:=hu
 obtain ⟨av,cv,rfl,-⟩:=hv
 unfold maxLen at hl
 go_enter Tryz.func20,Tryz.ntmps20
 go_wp2
 go_loopw [5] (fun i wr=>∃k:Nat,k<=l.length/\i=.int .i64 k/\Below w.heap.size w wr) (fun i _=>l.length - (intOf i).toNat)
 case atStart=>exact ⟨0,Nat.zero_le _,rfl,Below.refl _ _⟩
 case round=>
  obtain ⟨k,hk,rfl,hBr⟩:=hrel
  have hszr:=hBr.size
  by_cases hlt:k<l.length
  rotate_left
  ·
   go_wp2_with fail
   go_ret
   exact ⟨rfl,hBr⟩
  obtain ⟨b,off,vf,vm,rfl,hbl,e0,e1,e2,e3,ef,em,-⟩:=(HU.out.keptC (Kp.below hBr)).atC k hlt
  obtain ⟨b',off',vf',vm',rfl,hbl',d0,d1,d2,d3,ef',em',-⟩:=(HV.out.keptC (Kp.below hBr)).atC k hlt
  have EF:=mkHid ef
  have EM:=mkHid em
  have EF':=mkHid ef'
  have EM':=mkHid em'
  obtain ⟨fo,cf,rfl,-⟩:=ef
  obtain ⟨mo,cm,rfl,_,hlm,-⟩:=em
  obtain ⟨fo',cf',rfl,-⟩:=ef'
  obtain ⟨mo',cm',rfl,-⟩:=em'
  unfold maxLen at hlm
  generalize l[k]=c at*
  obtain ⟨name,super,fields,meths⟩:=c
  dsimp only at*
  have HB0:Hid (Below wr.heap.size wr wr):=Below.refl _ _
  go_wp2_with fail
  go_cut [6,7] (fun px py W=>Pair wr W px py 63 #[.string name,.string super,.slice fo fields.length cf,.slice mo meths.length cm] #[.string name,.string super,.slice fo' fields.length cf',.slice mo' meths.length cm'])
  case first=>
   go_region
   all_goals
    go_wp2_with fail
    go_meet
    first | exact Pair.one _ _ _ _ | exact Pair.two _ _ _ _
  case rest=>
   obtain ⟨⟨X,Y,rfl,rfl,hX,hY,hx,hy⟩,hBp⟩:=hcut
   have HXX:=mkHid hx
   have HYY:=mkHid hy
   have xl:=blk_lt hx
   have yl:=blk_lt hy
   have x0:=cell_of hx 0 (x:=.string name) rfl
   have x1:=cell_of hx 1 (x:=.string super) rfl
   have x2:=cell_of hx 2 (x:=.slice fo fields.length cf) rfl
   have x3:=cell_of hx 3 (x:=.slice mo meths.length cm) rfl
   have y0:=cell_of hy 0 (x:=.string name) rfl
   have y1:=cell_of hy 1 (x:=.string super) rfl
   have y2:=cell_of hy 2 (x:=.slice fo' fields.length cf') rfl
   have y3:=cell_of hy 3 (x:=.slice mo' meths.length cm') rfl
   clear hx hy e0 e1 e2 e3 d0 d1 d2 d3
   go_wp2_with fail
   refine (sameFields_any _ _ _ fields (EF.out.upF (hBp.mono hszr) hszr) (EF'.out.upF (hBp.mono hszr) hszr)).mono ?_
   rintro r w2 ⟨rfl,n2,rfl⟩
   go_wp2_with fail
   go_loopw [8] (fun i wi=>∃j:Nat,j<=meths.length/\i=.int .i64 j/\Below wr.heap.size wr wi/\Hid (wi.heap[X]? =some (.cells #[.string name,.string super,.slice fo fields.length cf,.slice mo meths.length cm] 63 (0,0)))/\Hid (wi.heap[Y]? =some (.cells #[.string name,.string super,.slice fo' fields.length cf',.slice mo' meths.length cm'] 63 (0,0)))) (fun i _=>meths.length - (intOf i).toNat)
   case atStart=>exact ⟨0,Nat.zero_le _,rfl,below_drewN hBp _,HXX.out,HYY.out⟩
   case round=>
    rename World=>wi
    obtain ⟨j,hj,rfl,hBi,HX2,HY2⟩:=hrel
    have hszi:=hBi.size
    clear x0 x1 x2 x3 y0 y1 y2 y3 xl yl hBp HXX HYY
    have xl:=blk_lt HX2.out
    have yl:=blk_lt HY2.out
    have x3:=cell_of HX2.out 3 (x:=.slice mo meths.length cm) rfl
    have y3:=cell_of HY2.out 3 (x:=.slice mo' meths.length cm') rfl
    by_cases hltj:j<meths.length
    rotate_left
    ·
     go_wp2_with fail
     go_roundw
     case rel=>exact ⟨k+1,by omega,by go_num,hBr.trans (hBi.mono hszr)⟩
     case measure=>simp [intOf];omega
    obtain ⟨b2,off2,va,vh,rfl,hbl2,q0,q1,q2,q3,q4,q5,q6,q7,q8,ea,eh,-⟩:=(EM.out.keptM (Kp.below (hBi.mono hszr))).atM j hltj
    obtain ⟨b3,off3,va',vh',rfl,hbl3,s0,s1,s2,s3,s4,s5,s6,s7,s8,ea',eh',-⟩:=(EM'.out.keptM (Kp.below (hBi.mono hszr))).atM j hltj
    have EA:=mkHid ea
    have EH:=mkHid eh
    have EA':=mkHid ea'
    have EH':=mkHid eh'
    obtain ⟨ao,ca,rfl,-⟩:=ea
    obtain ⟨ho,ch,rfl,_,hlh,-⟩:=eh
    obtain ⟨ao',ca',rfl,-⟩:=ea'
    obtain ⟨ho',ch',rfl,-⟩:=eh'
    unfold maxLen at hlh
    generalize meths[j]=m at*
    obtain ⟨mname,static,args,⟨rk,rc⟩,stack,locals,code,hands⟩:=m
    dsimp only at*
    go_wp2_with fail
    go_cut [9,10] (fun px py W=>Pair wi W px py 83 #[.string mname,.bool static,.slice ao args.length ca,.int .i64 rk,.string rc,.int .i64 stack,.int .i64 locals,.string code,.slice ho hands.length ch] #[.string mname,.bool static,.slice ao' args.length ca',.int .i64 rk,.string rc,.int .i64 stack,.int .i64 locals,.string code,.slice ho' hands.length ch'])
    case first=>
     go_region
     all_goals
      go_wp2_with fail
      go_meet
      first | exact Pair.one _ _ _ _ | exact Pair.two _ _ _ _
    case rest=>
     obtain ⟨⟨X2,Y2,rfl,rfl,hX2,hY2,hx,hy⟩,hBp⟩:=hcut
     have HXX:=mkHid hx
     have HYY:=mkHid hy
     have xl2:=blk_lt hx
     have yl2:=blk_lt hy
     have m0:=cell_of hx 0 (x:=.string mname) rfl
     have m1:=cell_of hx 1 (x:=.bool static) rfl
     have m2:=cell_of hx 2 (x:=.slice ao args.length ca) rfl
     have m3:=cell_of hx 3 (x:=.int .i64 rk) rfl
     have m4:=cell_of hx 4 (x:=.string rc) rfl
     have m5:=cell_of hx 5 (x:=.int .i64 stack) rfl
     have m6:=cell_of hx 6 (x:=.int .i64 locals) rfl
     have m7:=cell_of hx 7 (x:=.string code) rfl
     have m8:=cell_of hx 8 (x:=.slice ho hands.length ch) rfl
     have n0:=cell_of hy 0 (x:=.string mname) rfl
     have n1:=cell_of hy 1 (x:=.bool static) rfl
     have n2:=cell_of hy 2 (x:=.slice ao' args.length ca') rfl
     have n3:=cell_of hy 3 (x:=.int .i64 rk) rfl
     have n4:=cell_of hy 4 (x:=.string rc) rfl
     have n5:=cell_of hy 5 (x:=.int .i64 stack) rfl
     have n6:=cell_of hy 6 (x:=.int .i64 locals) rfl
     have n7:=cell_of hy 7 (x:=.string code) rfl
     have n8:=cell_of hy 8 (x:=.slice ho' hands.length ch') rfl
     have hszw:w.heap.size<=wi.heap.size:=Nat.le_trans hszr hszi
     clear hx hy q0 q1 q2 q3 q4 q5 q6 q7 q8 s0 s1 s2 s3 s4 s5 s6 s7 s8 x3 y3
     go_wp2_with fail
     refine (sameKinds_any _ _ _ args (EA.out.upK (hBp.mono hszw) hszw) (EA'.out.upK (hBp.mono hszw) hszw)).mono ?_
     rintro r w3 ⟨rfl,n9,rfl⟩
     go_wp2_with fail
     go_loopw [11] (fun i wj=>∃(h n:Nat),h<=hands.length/\i=.int .i64 h/\wj=wc.drewN n) (fun i _=>hands.length - (intOf i).toNat)
     case atStart=>exact ⟨0,n9,Nat.zero_le _,rfl,rfl⟩
     case round=>
      obtain ⟨h,nn,hh,rfl,rfl⟩:=hrel
      by_cases hlth:h<hands.length
      ·
       obtain ⟨b5,off5,rfl,_,g0,g1,g2,g3,-⟩:=(EH.out.keptH (Kp.below (hBp.mono hszw))).atH h hlth
       obtain ⟨b6,off6,rfl,_,j0,j1,j2,j3,-⟩:=(EH'.out.keptH (Kp.below (hBp.mono hszw))).atH h hlth
       go_wp2_with fail
       go_quiet (fail)
       go_wp2_with fail
       go_roundw
       case rel=>exact ⟨h+1,_,by omega,by go_num,rfl⟩
       case measure=>simp [intOf];omega
      go_wp2_with fail
      go_roundw
      case rel=>exact ⟨j+1,by omega,by go_num,hBi.trans ((below_drewN hBp _).mono hszi),(hBp.block X xl).trans HX2.out,(hBp.block Y yl).trans HY2.out⟩
      case measure=>simp [intOf];omega
end Go.Proofs.YtcddpmappmjilaaGreatDoor
