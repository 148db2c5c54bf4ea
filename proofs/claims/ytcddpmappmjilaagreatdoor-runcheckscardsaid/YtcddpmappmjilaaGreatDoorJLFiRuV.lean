import Derived.Test.YtcddpmappmjilaaGreatDoorJLTieLBas
import Derived.Deep.RegionHeld3
import Derived.Test.YtcddpmappmjilaaGreatDoorTka
import Derived.Test.YtcddpmappmjilaaGreatDoorJRuGRuR
import Derived.Laws.CopyRow
namespace Go.Proofs.YtcddpmappmjilaaGreatDoor
open Go.RowKit Go.Maps
theorem find_any (w:World) (b:Nat) (l:List ClassD) (s:ByteArray) (hN:Nums w b l) (hs:s.size<=maxLen):
 Calls Tryz.prog 70 #[.pointer (some ⟨b,0,none⟩),.string s] w fun r w'=>w'=w/\((0<=num l s/\r=.returned (.int .i64 (num l s)))\/(num l s<0/\r=.panicked [wrongV 5 0])):=by
 have HN:=mkHid (numberN w b l s hN hs)
 clear hN hs
 go_enter Tryz.func70,Tryz.ntmps70
 go_wp2_with (go_at_call 85;refine HN.out.mono ?_;rintro r w1 ⟨rfl,rfl⟩)
 refine (demand_any _ _ _).mono ?_
 rintro r w3 ⟨rfl,⟨hb,rfl⟩ | ⟨hb,rfl⟩⟩
 ·
  exact ⟨rfl,rfl,Or.inr ⟨by have h:=of_decide_eq_false hb;omega,rfl⟩⟩
 have hb':0<=num l s:=of_decide_eq_true hb
 have HB:=mkHid hb'
 clear hb'
 clear hb
 go_wp2_with fail
 go_ret
 exact ⟨rfl,Or.inl ⟨HB.out,rfl⟩⟩
def findErr (d:LinkD) (s:ByteArray):Int:=if chkRes d []=0 then (if 0<=num d.classes s then 0 else 5) else chkRes d []
theorem nilSL (M:Nat->Prop) (w:World):SL 1 RI M w (.slice none 0 0) []:=⟨none,0,rfl,Nat.le_refl _,by unfold maxLen;simp,fun k hk=>by cases hk⟩
set_option maxRecDepth 100000 in
set_option maxHeartbeats 2000000 in
theorem find1_any (w:World) (B P Q:Nat) (kC kS kF kN kT:Value) (d:LinkD) (s:ByteArray) (hk:RLk (· <B) w kC kS kF kN kT d) (hB:B<=w.heap.size) (hs:s.size<=maxLen)
 (hP:w.heap[P]? =some (.cells #[kC,kS,kF,kN,kT] 28 (0,0))) (hQ:w.cell? ⟨Q,0,none⟩=some (.string s)):
 Calls Tryz.prog 69 #[.pointer (some ⟨P,0,none⟩),.pointer (some ⟨Q,0,none⟩)] w fun r w'=>Below w.heap.size w w'/\
  ((∃v,r=.returned v/\(∃n,v=.int .i64 n)/\(findErr d s=0/\v=.int .i64 (num d.classes s)))\/∃e p,r=.panicked [wrongV e p]/\(findErr d s=e/\e≠0)):=by
 have hPl:=lt_of hP
 have hQl:=World.block_lt_of_cell? w _ hQ
 have c0:=cell_of hP 0 (x:=kC) rfl
 have c1:=cell_of hP 1 (x:=kS) rfl
 have c2:=cell_of hP 2 (x:=kF) rfl
 have c3:=cell_of hP 3 (x:=kN) rfl
 have c4:=cell_of hP 4 (x:=kT) rfl
 have HCK:Hid (∀W,Below w.heap.size w W->Calls Tryz.prog 54 #[.agg #[kC,kS,kF,kN,kT],.slice none 0 0] W fun r w'=>Below w.heap.size w w'/\
  ((chkRes d []=0/\∃b,r=.returned (.pointer (some ⟨b,0,none⟩))/\Nums w' b d.classes)\/(chkRes d []≠0/\r=.panicked [wrongV (chkRes d []) 0]))):=fun W hW=>
  (checked_any W B kC kS kF kN kT d (hk.kept (Kp.below (hW.mono hB))) (Nat.le_trans hB hW.size) (fun _=>True) _ [] (nilSL _ _)).mono fun r w' ⟨hb,h⟩=>⟨hW.trans (hb.mono hW.size),h.imp (fun ⟨h1,_,b,_,_,_,_,_,_,h3,h4⟩=>⟨h1,b,h3,h4.nums⟩) id⟩
 obtain ⟨aC,cC,aS,cS,aF,cF,aN,cN,aT,cT,rfl,rfl,rfl,rfl,rfl⟩:=hk.agg
 have HS:=mkHid hs
 clear hk hP hs
 by_cases hc:chkRes d []=0
 ·
  have HFE:Hid (findErr d s=if 0<=num d.classes s then 0 else 5):=by show findErr d s=_;rw [findErr,if_pos hc]
  have HCK2:Hid (∀W,Below w.heap.size w W->Calls Tryz.prog 54 #[.agg #[.slice aC d.classes.length cC,.slice aS d.supers.length cS,.slice aF d.fields.length cF,.slice aN d.names.length cN,.slice aT d.targets.length cT],.slice none 0 0] W fun r w'=>∃b,r=.returned (.pointer (some ⟨b,0,none⟩))/\Below w.heap.size w w'/\Nums w' b d.classes):=fun W hW=>(HCK.out W hW).mono fun r w' ⟨hb,h⟩=>by
   rcases h with ⟨_,b,h1,h2⟩ | ⟨h,_⟩
   ·
    exact ⟨b,h1,hb,h2⟩
   exact absurd hc h
  clear HCK
  go_enter Tryz.func69,Tryz.ntmps69
  go_wp2_with fail
  by_cases hn:0<=num d.classes s
  ·
   have HR:Hid (findErr d s=0):=HFE.out.trans (if_pos hn)
   have HF:Hid (∀w' b,Nums w' b d.classes->Calls Tryz.prog 70 #[.pointer (some ⟨b,0,none⟩),.string s] w' fun r w''=>w''=w'/\r=.returned (.int .i64 (num d.classes s))):=fun w' b h=>(find_any w' b _ s h HS.out).mono fun r w'' ⟨e,h⟩=>⟨e,by
    rcases h with ⟨_,h⟩ | ⟨h,_⟩
    ·
     exact h
    omega⟩
   go_region_held3 (fun W'=>∀p:Addr,p.block<w.heap.size->W'.cell? p=w.cell? p) (exact fun p hp=>Below.cell (B:=w.heap.size) (w:=w) (by repeat (first | assumption | exact Below.refl _ _ | refine Below.drew ?_ | refine Below.alloc ?_ (by simp<;>omega) _)) hp) (first
    | (go_at_call 54;refine (HCK2.out _ (by first | exact Below.refl _ _ | exact (Below.refl _ _).drew)).mono ?_;rintro r w2 ⟨b2,rfl,hb2,hn2⟩;have HN2:=mkHid hn2;clear hn2)
    | (go_at_call 70;refine (HF.out _ _ HN2.out).mono ?_;rintro r w4 ⟨rfl,rfl⟩))
   all_goals
    rename_i hS1
    clear hS1
    go_wp2_with fail
    go_ret
    exact ⟨hb2,Or.inl ⟨_,rfl,⟨_,rfl⟩,HR.out,rfl⟩⟩
  have HR:Hid (findErr d s=5):=HFE.out.trans (if_neg hn)
  have HF:Hid (∀w' b,Nums w' b d.classes->Calls Tryz.prog 70 #[.pointer (some ⟨b,0,none⟩),.string s] w' fun r w''=>w''=w'/\r=.panicked [wrongV 5 0]):=fun w' b h=>(find_any w' b _ s h HS.out).mono fun r w'' ⟨e,h⟩=>⟨e,by
   rcases h with ⟨h,_⟩ | ⟨_,h⟩
   ·
    omega
   exact h⟩
  refine wp_region_held_drew (S:=fun W'=>∀p:Addr,p.block<w.heap.size->W'.cell? p=w.cell? p) (by kernel_rfl) (fun p hp=>rfl) fun hH=>?_
  refine wpAnyH_take (i:=0) (v:=.agg #[.slice aC d.classes.length cC,.slice aS d.supers.length cS,.slice aF d.fields.length cF,.slice aN d.names.length cN,.slice aT d.targets.length cT]) rfl (by kernel_rfl) (by kernel_rfl) (by kernel_rfl) (fun _ _ _ h=>h) (Or.inl ⟨by rfl,?_⟩) hH ?_
  ·
   intro w hSw;go_simp
  refine wpAnyH_take (i:=2) (v:=.string s) rfl (by kernel_rfl) (by kernel_rfl) (by kernel_rfl) (fun _ _ _ h=>h) (Or.inl ⟨by rfl,?_⟩) hH ?_
  ·
   intro w hSw;go_simp
  refine wpAnyH_ready (rs:=[1]) (by kernel_rfl) (by simp) ?_
  refine AllReadyH.cons rfl (fun K hK=>?_) AllReadyH.nil
  go_simp
  refine (HCK2.out _ ((Below.refl _ _).drew)).mono ?_
  rintro r w2 ⟨b2,rfl,hb2,hn2⟩
  refine hK.out _ _ (fun p hp=>hb2.cell hp) fun _=>?_
  refine wpAnyH_ready (rs:=[3]) (by kernel_rfl) (by simp) ?_
  refine AllReadyH.cons rfl (fun K' hK'=>?_) AllReadyH.nil
  go_simp
  refine (HF.out _ _ hn2).mono ?_
  rintro r w4 ⟨rfl,rfl⟩
  exact ⟨rfl,hb2,Or.inr ⟨_,_,rfl,HR.out,by decide⟩⟩
 have HR:Hid (findErr d s=chkRes d []):=by show findErr d s=_;rw [findErr,if_neg hc]
 have HCK2:Hid (∀W,Below w.heap.size w W->Calls Tryz.prog 54 #[.agg #[.slice aC d.classes.length cC,.slice aS d.supers.length cS,.slice aF d.fields.length cF,.slice aN d.names.length cN,.slice aT d.targets.length cT],.slice none 0 0] W fun r w'=>r=.panicked [wrongV (chkRes d []) 0]/\Below w.heap.size w w'):=fun W hW=>(HCK.out W hW).mono fun r w' ⟨hb,h⟩=>by
  rcases h with ⟨h,_⟩ | ⟨_,h⟩
  ·
   exact absurd h hc
  exact ⟨h,hb⟩
 have HNZ:=mkHid hc
 clear HCK hc
 go_enter Tryz.func69,Tryz.ntmps69
 go_wp2_with fail
 refine wp_region_held_drew (S:=fun W'=>∀p:Addr,p.block<w.heap.size->W'.cell? p=w.cell? p) (by kernel_rfl) (fun p hp=>rfl) fun hH=>?_
 refine wpAnyH_take (i:=0) (v:=.agg #[.slice aC d.classes.length cC,.slice aS d.supers.length cS,.slice aF d.fields.length cF,.slice aN d.names.length cN,.slice aT d.targets.length cT]) rfl (by kernel_rfl) (by kernel_rfl) (by kernel_rfl) (fun _ _ _ h=>h) (Or.inl ⟨by rfl,?_⟩) hH ?_
 ·
  intro w hSw;go_simp
 refine wpAnyH_take (i:=2) (v:=.string s) rfl (by kernel_rfl) (by kernel_rfl) (by kernel_rfl) (fun _ _ _ h=>h) (Or.inl ⟨by rfl,?_⟩) hH ?_
 ·
  intro w hSw;go_simp
 refine wpAnyH_ready (rs:=[1]) (by kernel_rfl) (by simp) ?_
 refine AllReadyH.cons rfl (fun K hK=>?_) AllReadyH.nil
 go_simp
 refine (HCK2.out _ ((Below.refl _ _).drew)).mono ?_
 rintro r w2 ⟨rfl,hb2⟩
 exact ⟨rfl,hb2,Or.inr ⟨_,_,rfl,HR.out,HNZ.out⟩⟩
theorem callFind1 (args:Array Value) (w:World):(callFunc 69 args).run Tryz.prog w=.ok (.enter 69 args) w:=by kernel_rfl
def findVal (d:LinkD) (s:ByteArray):Int:=if findErr d s=0 then num d.classes s else 0
set_option maxHeartbeats 2000000 in
theorem Find_any (w:World) (B:Nat) (kC kS kF kN kT:Value) (d:LinkD) (s:ByteArray) (hk:RLk (· <B) w kC kS kF kN kT d) (hB:B<=w.heap.size) (hs:s.size<=maxLen):
 Calls Tryz.prog 44 #[.agg #[kC,kS,kF,kN,kT],.string s] w fun r w'=>r=.returned (.tuple #[.int .i64 (findVal d s),.int .i64 (findErr d s)])/\Below w.heap.size w w':=by
 have hmf:∀(fn:Fn) (first cap:Array Value) (w:World),(Instr.makeFunc fn first cap).run Tryz.prog w=.ok (.func fn first cap) w:=fun _ _ _ _=>rfl
 have HK:=mkHid hk
 obtain ⟨aC,cC,aS,cS,aF,cF,aN,cN,aT,cT,rfl,rfl,rfl,rfl,rfl⟩:=hk.agg
 have HS:=mkHid hs
 clear hk hs
 go_enter Tryz.func44,Tryz.ntmps44
 go_wp2_with fail
 generalize hW:(w.alloc (.cells #[.slice aC d.classes.length cC,.slice aS d.supers.length cS,.slice aF d.fields.length cF,.slice aN d.names.length cN,.slice aT d.targets.length cT] 28)).alloc (.cells #[.string s] 9)=W0
 have hB0:Below w.heap.size w W0:=hW ▸ (((Below.refl _ _).alloc (Nat.le_refl _) _).alloc (by simp) _)
 have hP:W0.heap[w.heap.size]? =some (.cells #[.slice aC d.classes.length cC,.slice aS d.supers.length cS,.slice aF d.fields.length cF,.slice aN d.names.length cN,.slice aT d.targets.length cT] 28 (0,0)):=by rw [<-hW];exact (Below.heap_alloc _ _ _ (by simp)).trans (heap_alloc_new w _)
 have hQ:W0.cell? ⟨w.heap.size+1,0,none⟩=some (.string s):=by rw [<-hW];simp [go_sem]
 have HB0:=mkHid hB0
 refine (madeI_any W0 69 _ (fun v _=>findErr d s=0/\v=.int .i64 (num d.classes s)) (fun e _=>findErr d s=e/\e≠0) callFind1 ?hc ?hst).mono ?_
 case hc=>
  intro W hWb _
  have hb:=HB0.out.trans (hWb.mono HB0.out.size)
  exact find1_any W B w.heap.size (w.heap.size+1) _ _ _ _ _ d s (HK.out.kept (Kp.below (hb.mono hB))) (Nat.le_trans hB hb.size) HS.out ((hWb.block _ (lt_of hP)).trans hP) ((hWb.cell (p:=⟨w.heap.size+1,0,none⟩) (World.block_lt_of_cell? _ _ hQ)).trans hQ)
 case hst=>exact fun _ _ _ _ _ h=>h
 rintro r w2 ⟨hb2,hz2,⟨v,rfl,-,h0,rfl⟩ | ⟨e,p,rfl,h1,h2⟩⟩
 ·
  have HBF:=mkHid (fun o=>(HB0.out.trans (hb2.mono HB0.out.size)).alloc (Nat.le_trans HB0.out.size hb2.size) o)
  have HR:Hid (findVal d s=num d.classes s/\findErr d s=0):=⟨if_pos h0,h0⟩
  clear hb2 h0 hP hQ hW hB0 HK HB0
  go_wp2_with fail
  go_quiet (fail)
  go_wp2_with fail
  exact bodyPost_ret (v:=.tuple #[.int .i64 (num d.classes s),.int .i64 0]) (by simp [results,Tryz.results44,go_sem]) rfl ⟨by rw [HR.out.1,HR.out.2],below_dn (HBF.out _) _⟩
 have HBF:=mkHid (fun o=>(HB0.out.trans (hb2.mono HB0.out.size)).alloc (Nat.le_trans HB0.out.size hb2.size) o)
 have HR:Hid (findVal d s=0/\findErr d s=e):=⟨if_neg (by rw [h1];exact h2),h1⟩
 clear hb2 h1 h2 hP hQ hW hB0 HK HB0
 go_wp2_with fail
 go_quiet (fail)
 go_wp2_with fail
 exact bodyPost_ret (v:=.tuple #[.int .i64 0,.int .i64 e]) (by simp [results,Tryz.results44,go_sem]) rfl ⟨by rw [HR.out.1,HR.out.2],below_dn (HBF.out _) _⟩
end Go.Proofs.YtcddpmappmjilaaGreatDoor
namespace Go.Proofs.YtcddpmappmjilaaGreatDoor
open Go.RowKit Go.Maps
theorem stp_copy3 {ops:Array Oper} {o:Oper} {a:Act} {w:World} {K:Act->World->Prop} {Q:Exit->Act->World->Prop} {E:Prop} (hgd:o.guard=none) (dd s:Operand)
 (ho:o.op=.call { callee:=.builtin .copy,args:=#[dd,s],argTypes:=#[23,23] }) (g off dLen dCap:Nat) (cur:Array Value) (hg:w.heap[g]? =some (.cells cur 3 (0,0)))
 (hd:a.eval dd=.slice (some ⟨g,off,none⟩) dLen dCap) (sb:Nat) (hs:a.eval s=.slice (some ⟨sb,0,none⟩) 3 3) (x y z:Int) (hsrc:w.heap[sb]? =some (.cells #[.int .i64 x,.int .i64 y,.int .i64 z] 3 (0,0))) (hfit:off+3<=cur.size) (hdl:3<=dLen)
 (h:∀w' cur',w.grownBy w' (some g)->w'.heap[g]? =some (.cells cur' 3 (0,0))->cur'.size=cur.size->cur'[off]? =some (.int .i64 x)->cur'[off+1]? =some (.int .i64 y)->cur'[off+2]? =some (.int .i64 z)->K (a.put o.dst (goInt 3)) w'):
 if Region.wanted o (yielded ops a.tmps)=true then Oper.wp Tryz.prog o a w K Q else E:=by
 have hw:Region.wanted o (yielded ops a.tmps)=true:=by simp [Region.wanted,hgd]
 rw [if_pos hw]
 have hrun:=run_copy_row (P:=Tryz.prog) w 23 23 o.type 3 g off dLen dCap ⟨sb,0,none⟩ 3 3 cur 3 [.int .i64 x,.int .i64 y,.int .i64 z] Tryz.underlying23 (by kernel_rfl) hg (by show 3=Nat.min 3 dLen;exact (Nat.min_eq_left hdl).symm) (World.news_of_block hsrc) (by show off+3<=_;omega) (by
  intro v hv
  simp at hv
  rcases hv with rfl | rfl | rfl<;>rfl)
 have hlt:(cur.toList.take off).length=off:=by rw [List.length_take,Array.length_toList];omega
 have key:∀j:Nat,∀v,[Value.int .i64 x,.int .i64 y,.int .i64 z][j]? =some v->(cur.toList.take off++ [Value.int .i64 x,.int .i64 y,.int .i64 z]++cur.toList.drop (off+3)).toArray[off+j]? =some v:=fun j v hv=>by
  have hj:j<3:=(List.getElem?_eq_some_iff.1 hv).1
  rw [List.getElem?_toArray,List.append_assoc,List.getElem?_append_right (by omega),hlt,Nat.add_sub_cancel_left,List.getElem?_append_left (by simpa using hj)]
  exact hv
 unfold Oper.wp
 simp only [execOp,ho,resolve,invoke,builtin]
 simp [hd,hs,hrun,Result.andThen]
 refine h _ (cur.toList.take off++ [Value.int .i64 x,.int .i64 y,.int .i64 z]++cur.toList.drop (off+3)).toArray ⟨rfl,rfl,rfl,by simp [World.setRow],fun k _ hk=>setRow_other w g k _ (fun e=>hk (by rw [e]))⟩ ?_ ?_ (key 0 _ rfl) (key 1 _ rfl) (key 2 _ rfl)
 ·
  have:=setRow_heap w g cur (cur.toList.take off++ [Value.int .i64 x,.int .i64 y,.int .i64 z]++cur.toList.drop (off+3)).toArray 3 _ hg
  simpa using this
 simp
 omega
set_option maxRecDepth 100000 in
set_option maxHeartbeats 4000000 in
theorem make_21 (w:World) (M g:Nat) (cs cur:Array Value) (hM:w.heap[M]? =some (.cells cs 130 (0,0))) (c0:cs[0]? =some (.slice (some ⟨g,0,none⟩) 41 41)) (c4:cs[4]? =some (.int .i64 21)) (c6:cs[6]? =some (.int .i64 1)) (hg:w.heap[g]? =some (.cells cur 3 (0,0))) (hc:cur.size=41):
 Calls Tryz.prog 48 #[.pointer (some ⟨M,0,none⟩),.int .i64 4,.int .i64 1,.bool true] w fun r w'=>r=.returned (.int .i64 21)/\w'.heap[M]? =some (.cells ((cs.setIfInBounds 6 (.int .i64 2)).setIfInBounds 4 (.int .i64 25)) 130 (0,0))/\(∃cur',w'.heap[g]? =some (.cells cur' 3 (0,0))/\cur'.size=41/\cur'[21]? =some (.int .i64 4)/\cur'[22]? =some (.int .i64 1)/\cur'[23]? =some (.int .i64 1))
  /\Ky (fun b=>b=M\/b=g) w w':=by
 have HP:=mkHid (part_old w M g (cell_of hM 0 c0))
 have HM:=mkHid hM
 have HG:=mkHid hg
 have HC:Hid (cur.size=41):=hc
 have HCS:Hid (cs[0]? =some (.slice (some ⟨g,0,none⟩) 41 41)/\cs[4]? =some (.int .i64 21)/\cs[6]? =some (.int .i64 1)):=⟨c0,c4,c6⟩
 have lM:=lt_of hM
 have lg:=lt_of hg
 have hne:M≠g:=ty_ne hM hg (by decide)
 clear hM hg c0 c4 c6 hc
 go_enter Tryz.func48,Tryz.ntmps48
 go_wp2_with fail
 refine HP.out.mono ?_
 rintro r w1 ⟨rfl,hb1⟩
 have HB1:=mkHid hb1
 have hM1:=(hb1.block M lM).trans HM.out
 have m4:=cell_of hM1 4 HCS.out.2.1
 have m6:=cell_of hM1 6 HCS.out.2.2
 have l1:=hb1.size
 have lM1:M<w1.heap.size:=by omega
 clear hb1 hM1
 go_wp2_with fail
 go_region
 all_goals
  obtain ⟨W2,hW2⟩:∃W2,(w1.alloc (.cells #[.int .i64 21,.int .i64 4,.int .i64 1,.int .i64 1] 164)).drew=W2:=⟨_,rfl⟩
  rw [hW2]
  have hA2:Below w1.heap.size w1 W2:=hW2 ▸ ((Below.refl _ _).alloc (Nat.le_refl _) _).drew
  have hT2:W2.heap[w1.heap.size]? =some (.cells #[.int .i64 21,.int .i64 4,.int .i64 1,.int .i64 1] 164 (0,0)):=by rw [<-hW2];exact heap_alloc_new w1 _
  have HB2:Hid (Below w.heap.size w W2):=HB1.out.trans (hA2.mono l1)
  have HT2:=mkHid hT2
  have lT2:=lt_of hT2
  have hM2:=(HB2.out.block M lM).trans HM.out
  have hG2:=(HB2.out.block g lg).trans HG.out
  have HM2:=mkHid hM2
  have n0:=cell_of hM2 0 HCS.out.1
  have n6:=cell_of hM2 6 HCS.out.2.2
  have t0:=cell_of hT2 0 (x:=.int .i64 21) rfl
  have t1:=cell_of hT2 1 (x:=.int .i64 4) rfl
  have t2:=cell_of hT2 2 (x:=.int .i64 1) rfl
  have t3:=cell_of hT2 3 (x:=.int .i64 1) rfl
  have gT:w1.heap.size≠g:=by omega
  have lM2:=lt_of hM2
  have lg2:=lt_of hG2
  have HOW:Hid ((W2.drew.alloc (.cells #[.int .i64 4,.int .i64 1,.int .i64 1] 3)).heap[g]? =some (.cells cur 3 (0,0))):=(heap_alloc_old (w:=W2.drew) _ lg2).trans hG2
  have HSR:Hid ((W2.drew.alloc (.cells #[.int .i64 4,.int .i64 1,.int .i64 1] 3)).heap[W2.heap.size]? =some (.cells #[.int .i64 4,.int .i64 1,.int .i64 1] 3 (0,0))):=heap_alloc_new W2.drew _
  clear m4 m6 hA2 hT2 hM2 hG2 hW2
  go_wp2_with fail
  refine wp_region_held_drew (S:=fun W'=>∀p:Addr,p.block<W2.heap.size->p.block≠g->W'.cell? p=W2.cell? p) (by kernel_rfl) (fun p hp _=>rfl) fun hH=>?_
  refine ta 0 (.pointer (some ⟨M,0,none⟩)) rfl hH ?_
  refine ta 1 (.pointer (some ⟨M,0,none⟩)) rfl hH ?_
  refine ta 2 (.pointer (some ⟨M,0,none⟩)) rfl hH ?_
  refine ta 3 (.pointer (some ⟨M,0,none⟩)) rfl hH ?_
  refine ta 4 (.slice (some ⟨g,0,none⟩) 41 41) rfl hH ?_
  refine ta 5 (.pointer (some ⟨w1.heap.size,0,none⟩)) rfl hH ?_
  refine ta 6 (.int .i64 21) rfl hH ?_
  refine ta 7 (.slice (some ⟨g,21,none⟩) 20 20) rfl hH ?_
  refine ta 8 (.pointer (some ⟨w1.heap.size,1,none⟩)) rfl hH ?_
  refine ta 9 (.int .i64 4) rfl hH ?_
  refine ta 10 (.pointer (some ⟨w1.heap.size,2,none⟩)) rfl hH ?_
  refine ta 11 (.int .i64 1) rfl hH ?_
  refine ta 12 (.pointer (some ⟨w1.heap.size,3,none⟩)) rfl hH ?_
  refine ta 13 (.int .i64 1) rfl hH ?_
  refine wpAnyH_ready (rs:=[14]) (by kernel_rfl) (by simp) ?_
  refine AllReadyH.cons rfl (fun K14 hK14=>?_) AllReadyH.nil
  go_simp
  refine hK14.out _ _ (fun p hp _=>Below.cell (B:=W2.heap.size) (w:=W2) ((Below.refl _ _).drew.alloc (Nat.le_refl _) _) hp) fun hH=>?_
  refine wpAnyH_ready (rs:=[15]) (by kernel_rfl) (by simp) ?_
  refine AllReadyH.cons rfl (fun K15 hK15=>?_) AllReadyH.nil
  refine stp_copy3 rfl (.tmp 36) (.tmp 43) rfl g 21 20 20 cur HOW.out rfl W2.heap.size rfl 4 1 1 HSR.out (by rw [HC.out];decide) (by decide) ?_
  intro w4 cur4 hg4 hc4 hz4 hx4 hy4 hq4
  refine hK15.out _ _ (fun p hp hne=>(World.cell?_of_block (a:=p) (hg4.block p.block (Nat.lt_of_lt_of_le hp (by show W2.heap.size<=(W2.alloc _).heap.size;simp)) (fun e=>hne (Option.some.inj e)))).trans (Below.cell (B:=W2.heap.size) (w:=W2) ((Below.refl _ _).drew.alloc (Nat.le_refl _) _) hp)) fun hH=>?_
  refine wpAnyH_done (by kernel_rfl) ?_ _
  clear hH
  try simp only [Act.put,List.setIfInBounds_toArray,List.set_cons_zero,List.set_cons_succ,List.getElem_toArray,List.getElem_cons_zero,List.getElem_cons_succ]
  have hg4:(W2.drew.alloc (.cells #[.int .i64 4,.int .i64 1,.int .i64 1] 3)).grownBy w4 (some g):=hg4
  have hA3:Below W2.heap.size W2 (W2.drew.alloc (.cells #[.int .i64 4,.int .i64 1,.int .i64 1] 3)):=(Below.refl _ _).drew.alloc (Nat.le_refl _) _
  have hk4:∀k,k<W2.heap.size->k≠g->w4.heap[k]? =W2.heap[k]? :=fun k hk hne=>(hg4.block k (Nat.lt_of_lt_of_le hk hA3.size) (fun e=>hne (Option.some.inj e))).trans (hA3.block k hk)
  have hs4:W2.heap.size<=w4.heap.size:=Nat.le_trans hA3.size hg4.size
  have kM:=(hk4 M lM2 hne).trans HM2.out
  have kT:=(hk4 w1.heap.size lT2 gT).trans HT2.out
  have HK4:=mkHid hk4
  have HY4:Hid (Ky (fun b=>b=M\/b=g) w w4):=(Ky.of HB2.out).trans ((Ky.of hA3).trans ⟨hg4.os,hg4.tape,hg4.output,hg4.size,fun k hk h=>hg4.block k hk (fun e=>h (Or.inr (Option.some.inj e)))⟩)
  have HC4:Hid (w4.heap[g]? =some (.cells cur4 3 (0,0))/\cur4.size=41/\cur4[21]? =some (.int .i64 4)/\cur4[22]? =some (.int .i64 1)/\cur4[23]? =some (.int .i64 1)):=⟨hc4,hz4.trans HC.out,hx4,hy4,hq4⟩
  have HKM:=mkHid kM
  have p6:=cell_of kM 6 HCS.out.2.2
  have pf:=frz_of kM
  have q0:=cell_of kT 0 (x:=.int .i64 21) rfl
  have q1:=cell_of kT 1 (x:=.int .i64 4) rfl
  have q2:=cell_of kT 2 (x:=.int .i64 1) rfl
  have q3:=cell_of kT 3 (x:=.int .i64 1) rfl
  have lM4:=lt_of kM
  have hTM:w1.heap.size≠M:=by omega
  obtain ⟨w5,hw5⟩:∃w5,w5=w4.setCell ⟨M,6,none⟩ (.int .i64 2):=⟨_,rfl⟩
  have HW5:=mkHid hw5
  have hE:=end_21 w5 (.int .i64 4) (.int .i64 1)
  have HE:=mkHid hE
  have HM5:Hid (w5.heap[M]? =some (.cells (cs.setIfInBounds 6 (.int .i64 2)) 130 (0,0))):=by rw [hw5];exact heap_setR HKM.out _
  have HK5:Hid (∀k,k<W2.heap.size->k≠g->k≠M->w5.heap[k]? =W2.heap[k]?):=fun k h1 h2 h3=>by rw [hw5];exact (Below.heap_setCell _ _ _ _ h3).trans (HK4.out k h1 h2)
  have HC5:Hid (w5.heap[g]? =some (.cells cur4 3 (0,0))):=by rw [hw5];exact (Below.heap_setCell _ _ _ _ (Ne.symm hne)).trans HC4.out.1
  have HY5:Hid (Ky (fun b=>b=M\/b=g) w w5):=by rw [hw5];exact HY4.out.set (Or.inl rfl) _ _
  have HS5:Hid (W2.heap.size<=w5.heap.size):=by show W2.heap.size<=w5.heap.size;rw [hw5];simpa [World.setCell]using hs4
  have HT5:Hid (w5.heap[w1.heap.size]? =some (.cells #[.int .i64 21,.int .i64 4,.int .i64 1,.int .i64 1] 164 (0,0))):=(HK5.out _ lT2 gT hTM).trans HT2.out
  have H4:Hid ((cs.setIfInBounds 6 (.int .i64 2))[4]? =some (.int .i64 21)):=by
   rw [Array.getElem?_setIfInBounds_ne (by decide)]
   exact HCS.out.2.1
  clear n0 n6 t0 t1 t2 t3 hg4 hA3 hk4 kM kT hc4 hz4 hx4 hy4 hq4 hw5 hE
  go_wp2_with fail
  rw [<-HW5.out]
  refine HE.out.mono ?_
  rintro r w6 ⟨rfl,hb6⟩
  have hM6:=(hb6.block M (lt_of HM5.out)).trans HM5.out
  have HM6:=mkHid hM6
  have HB6:=mkHid hb6
  have s4:=cell_of hM6 4 H4.out
  have sf:=frz_of hM6
  have z0:=cell_of ((hb6.block _ (lt_of HT5.out)).trans HT5.out) 0 (x:=.int .i64 21) rfl
  clear hM6 hb6 p6 pf q0 q1 q2 q3
  go_wp2_with fail
  have gM:g≠M:=Ne.symm hne
  exact bodyPost_ret (results_tmp rfl _ _ _) rfl ⟨rfl,heap_setR HM6.out _,⟨cur4,(Below.heap_setCell _ _ _ _ gM).trans ((HB6.out.block _ (lt_of HC5.out)).trans HC5.out),HC4.out.2⟩,(HY5.out.trans (Ky.of HB6.out)).set (Or.inl rfl) _ _⟩
end Go.Proofs.YtcddpmappmjilaaGreatDoor
namespace Go.Proofs.YtcddpmappmjilaaGreatDoor
open Go.RowKit Go.Maps
set_option maxRecDepth 100000 in
set_option maxHeartbeats 4000000 in
theorem isRef_21 (w:World) (M f fo nF cF e eo ce:Nat) (b c:Value) (h9:w.cell? ⟨M,9,none⟩=some (.slice (some ⟨f,fo,none⟩) nF cF)) (hn:1<nF) (hf:w.cell? ⟨f,fo+1,none⟩=some (.slice (some ⟨e,eo,none⟩) 1 ce)) (he:w.cell? ⟨e,eo+1,none⟩=some (.int .i64 1)):
 Calls Tryz.prog 111 #[.pointer (some ⟨M,0,none⟩),.agg #[.int .i64 21,.int .i64 4,b,c],.int .i64 0] w fun r w'=>r=.returned (.bool false)/\Below w.heap.size w w':=by
 have HB:=mkHid fun o=>(Below.refl w.heap.size w).alloc (Nat.le_refl _) o
 have lM:M<w.heap.size:=World.block_lt_of_cell? w _ h9
 have lf:f<w.heap.size:=World.block_lt_of_cell? w _ hf
 have le:e<w.heap.size:=World.block_lt_of_cell? w _ he
 have hn':(1:Int)<nF:=by omega
 go_enter Tryz.func111,Tryz.ntmps111
 go_wp2_with fail
 go_region
 all_goals
  go_wp2_with fail
  exact bodyPost_ret (results_tmp rfl _ _ _) rfl ⟨rfl,(HB.out _).drew⟩
set_option maxRecDepth 100000 in
set_option maxHeartbeats 4000000 in
theorem set_21 (w:World) (M g f fo nF cF e eo ce:Nat) (cur:Array Value) (x0:Value) (b c:Value) (h0:w.cell? ⟨M,0,none⟩=some (.slice (some ⟨g,0,none⟩) 41 41)) (hg:w.heap[g]? =some (.cells cur 3 (0,0))) (hx:cur[24]? =some x0) (hMg:M≠g) (hfg:f≠g) (heg:e≠g)
 (h9:w.cell? ⟨M,9,none⟩=some (.slice (some ⟨f,fo,none⟩) nF cF)) (hn:1<nF) (hf:w.cell? ⟨f,fo+1,none⟩=some (.slice (some ⟨e,eo,none⟩) 1 ce)) (he:w.cell? ⟨e,eo+1,none⟩=some (.int .i64 1)):
 Calls Tryz.prog 74 #[.pointer (some ⟨M,0,none⟩),.agg #[.int .i64 21,.int .i64 4,b,c],.int .i64 0,.int .i64 6] w fun r w'=>r=.returned (.tuple #[])/\w'.heap[g]? =some (.cells (cur.setIfInBounds 24 (.int .i64 6)) 3 (0,0))/\Ky (· =g) w w':=by
 obtain ⟨W0,hW0,hB0,hs0,k0⟩:=boxes1 w #[.int .i64 21,.int .i64 4,b,c] 164
 have HW0:=mkHid hW0
 have HB0:=mkHid hB0
 have lM:M<w.heap.size:=World.block_lt_of_cell? w _ h0
 have lf:f<w.heap.size:=World.block_lt_of_cell? w _ hf
 have le:e<w.heap.size:=World.block_lt_of_cell? w _ he
 have lg:=lt_of hg
 have HG0:=mkHid ((hB0.block _ lg).trans hg)
 have HXR:Hid (cur[24]? =some x0):=hx
 have HIR:Hid (∀V:World,(∀p:Addr,p.block<W0.heap.size->p.block≠g->V.cell? p=W0.cell? p)->Calls Tryz.prog 111 #[.pointer (some ⟨M,0,none⟩),.agg #[.int .i64 21,.int .i64 4,b,c],.int .i64 0] V fun r w'=>r=.returned (.bool false)/\Below V.heap.size V w'):=fun V hV=>
  have l0:=hB0.size
  isRef_21 V M f fo nF cF e eo ce b c ((hV _ (by show M<_;omega) hMg).trans ((hB0.cell lM).trans h9)) hn ((hV _ (by show f<_;omega) hfg).trans ((hB0.cell lf).trans hf)) ((hV _ (by show e<_;omega) heg).trans ((hB0.cell le).trans he))
 have HWD:Hid (∀V,Calls Tryz.prog 110 #[.agg #[.int .i64 21,.int .i64 4,b,c],.int .i64 0] V fun r w'=>r=.returned (.int .i64 24)/\Below V.heap.size V w'):=fun V=>word_21 V _ _ _ 0 (by omega)
 have a0:=(hB0.cell (p:=⟨M,0,none⟩) lM).trans h0
 have b0:=cell_of k0 0 (x:=.int .i64 21) rfl
 have b1:=cell_of k0 1 (x:=.int .i64 4) rfl
 have b2:=cell_of k0 2 (x:=b) rfl
 have b3:=cell_of k0 3 (x:=c) rfl
 have l0:w.heap.size<W0.heap.size:=lt_of k0
 have lM0:M<W0.heap.size:=by omega
 have wg:w.heap.size≠g:=by omega
 clear hW0 hB0 hs0 k0 h0 hg hx h9 hn hf he
 go_enter Tryz.func74,Tryz.ntmps74
 go_wp2_with fail
 rw [<-HW0.out]
 refine wp_region_held_drew (S:=fun W'=>∀p:Addr,p.block<W0.heap.size->p.block≠g->W'.cell? p=W0.cell? p) (by kernel_rfl) (fun p hp _=>rfl) fun hH=>?_
 refine ta 0 (.pointer (some ⟨M,0,none⟩)) rfl hH ?_
 refine ta 1 (.pointer (some ⟨M,0,none⟩)) rfl hH ?_
 refine ta 2 (.pointer (some ⟨M,0,none⟩)) rfl hH ?_
 refine ta 3 (.pointer (some ⟨M,0,none⟩)) rfl hH ?_
 refine ta 4 (.slice (some ⟨g,0,none⟩) 41 41) rfl hH ?_
 refine ta 5 (.agg #[.int .i64 21,.int .i64 4,b,c]) rfl hH ?_
 refine ta 6 (.int .i64 0) rfl hH ?_
 refine ta 8 (.int .i64 6) rfl hH ?_
 refine wpAnyH_ready (rs:=[7]) (by kernel_rfl) (by simp) ?_
 refine AllReadyH.cons rfl (fun K7 hK7=>?_) AllReadyH.nil
 go_simp
 refine (HWD.out _).mono ?_
 rintro r u1 ⟨rfl,hb1⟩
 have HU1:Hid (Below W0.heap.size W0 u1):=(Below.refl _ _).drew.trans hb1
 refine hK7.out _ _ (fun p hp _=>HU1.out.cell hp) fun hH=>?_
 have y24:=cell_of ((HU1.out.block g (by omega)).trans HG0.out) 24 HXR.out
 have yf:=frz_of ((HU1.out.block g (by omega)).trans HG0.out)
 clear hb1
 refine ta 9 (.pointer (some ⟨g,24,none⟩)) rfl hH ?_
 refine wpAnyH_ready (rs:=[10]) (by kernel_rfl) (by simp) ?_
 refine AllReadyH.cons rfl (fun K10 hK10=>?_) AllReadyH.nil
 go_simp
 refine hK10.out _ _ (fun p hp hne=>(World.cell?_of_block (a:=p) (Below.heap_setCell _ _ _ _ hne)).trans (HU1.out.cell hp)) fun hH=>?_
 refine wpAnyH_done (by kernel_rfl) ?_ _
 clear hH
 try simp only [Act.put,List.setIfInBounds_toArray,List.set_cons_zero,List.set_cons_succ,List.getElem_toArray,List.getElem_cons_zero,List.getElem_cons_succ]
 go_wp2_with fail
 refine (HIR.out _ (fun p hp hne=>(World.cell?_of_block (a:=p) (Below.heap_setCell _ _ _ _ hne)).trans (HU1.out.cell hp))).mono ?_
 rintro r u2 ⟨rfl,hb2⟩
 have HB2:=mkHid hb2
 clear hb2 y24 yf
 go_wp2_with fail
 have s1:=HU1.out.size
 have hz:(u1.setCell ⟨g,24,none⟩ (.int .i64 6)).heap.size=u1.heap.size:=by simp [World.setCell]
 have s2:=HB2.out.size
 exact bodyPost_end (results_none rfl _ _ _) rfl ⟨rfl,(HB2.out.block g (by omega)).trans (heap_setR ((HU1.out.block g (by omega)).trans HG0.out) _),(((Ky.of (M:=(· =g)) HB0.out).trans (Ky.of HU1.out)).set rfl _ _).trans (Ky.of HB2.out)⟩
end Go.Proofs.YtcddpmappmjilaaGreatDoor
namespace Go.Proofs.YtcddpmappmjilaaGreatDoor
open Go.RowKit Go.Maps
set_option maxRecDepth 100000 in
set_option maxHeartbeats 4000000 in
theorem setCode_21 (w:World) (M g f fo nF cF e eo ce:Nat) (cur:Array Value) (x0:Value) (h0:w.cell? ⟨M,0,none⟩=some (.slice (some ⟨g,0,none⟩) 41 41)) (hg:w.heap[g]? =some (.cells cur 3 (0,0))) (x1:cur[21]? =some (.int .i64 4)) (x2:cur[22]? =some (.int .i64 1)) (x3:cur[23]? =some (.int .i64 1)) (hx:cur[24]? =some x0) (hMg:M≠g) (hfg:f≠g) (heg:e≠g)
 (h9:w.cell? ⟨M,9,none⟩=some (.slice (some ⟨f,fo,none⟩) nF cF)) (hn:1<nF) (hf:w.cell? ⟨f,fo+1,none⟩=some (.slice (some ⟨e,eo,none⟩) 1 ce)) (he:w.cell? ⟨e,eo+1,none⟩=some (.int .i64 1)):
 Calls Tryz.prog 49 #[.pointer (some ⟨M,0,none⟩),.int .i64 21,.int .i64 6] w fun r w'=>r=.returned (.tuple #[])/\Ky (· =g) w w':=by
 have lM:M<w.heap.size:=World.block_lt_of_cell? w _ h0
 have lf:f<w.heap.size:=World.block_lt_of_cell? w _ hf
 have le:e<w.heap.size:=World.block_lt_of_cell? w _ he
 have lg:=lt_of hg
 have HTH:Hid (∀V,Below w.heap.size w V->Calls Tryz.prog 75 #[.pointer (some ⟨M,0,none⟩),.int .i64 21] V fun r w'=>r=.returned (.agg #[.int .i64 21,.int .i64 4,.int .i64 1,.int .i64 1])/\Below V.heap.size V w'):=fun V hV=>
  thing_21 V M g 4 1 1 ((hV.cell lM).trans h0) ((hV.cell (p:=⟨g,21,none⟩) lg).trans (cell_of hg 21 x1)) ((hV.cell (p:=⟨g,22,none⟩) lg).trans (cell_of hg 22 x2)) ((hV.cell (p:=⟨g,23,none⟩) lg).trans (cell_of hg 23 x3))
 have HSE:Hid (∀V,Below w.heap.size w V->Calls Tryz.prog 74 #[.pointer (some ⟨M,0,none⟩),.agg #[.int .i64 21,.int .i64 4,.int .i64 1,.int .i64 1],.int .i64 0,.int .i64 6] V fun r w'=>r=.returned (.tuple #[])/\w'.heap[g]? =some (.cells (cur.setIfInBounds 24 (.int .i64 6)) 3 (0,0))/\Ky (· =g) V w'):=fun V hV=>
  set_21 V M g f fo nF cF e eo ce cur x0 _ _ ((hV.cell lM).trans h0) ((hV.block _ lg).trans hg) hx hMg hfg heg ((hV.cell lM).trans h9) hn ((hV.cell lf).trans hf) ((hV.cell le).trans he)
 clear h0 hg x1 x2 x3 hx h9 hn hf he
 go_enter Tryz.func49,Tryz.ntmps49
 refine wp_region_held_drew (S:=fun W'=>∀p:Addr,p.block<w.heap.size->p.block≠g->W'.cell? p=w.cell? p) (by kernel_rfl) (fun p hp _=>rfl) fun hH=>?_
 refine ta 0 (.pointer (some ⟨M,0,none⟩)) rfl hH ?_
 refine ta 1 (.pointer (some ⟨M,0,none⟩)) rfl hH ?_
 refine ta 2 (.pointer (some ⟨M,0,none⟩)) rfl hH ?_
 refine ta 3 (.pointer (some ⟨M,0,none⟩)) rfl hH ?_
 refine ta 4 (.pointer (some ⟨M,0,none⟩)) rfl hH ?_
 refine ta 5 (.pointer (some ⟨M,0,none⟩)) rfl hH ?_
 refine ta 6 (.pointer (some ⟨M,0,none⟩)) rfl hH ?_
 refine ta 7 (.pointer (some ⟨M,0,none⟩)) rfl hH ?_
 refine ta 8 (.int .i64 21) rfl hH ?_
 refine ta 10 (.int .i64 6) rfl hH ?_
 refine wpAnyH_ready (rs:=[9]) (by kernel_rfl) (by simp) ?_
 refine AllReadyH.cons rfl (fun K9 hK9=>?_) AllReadyH.nil
 go_simp
 refine (HTH.out _ (Below.refl _ _).drew).mono ?_
 rintro r u1 ⟨rfl,hb1⟩
 have HU1:Hid (Below w.heap.size w u1):=(Below.refl _ _).drew.trans hb1
 refine hK9.out _ _ (fun p hp _=>HU1.out.cell hp) fun hH=>?_
 clear hb1
 refine wpAnyH_ready (rs:=[11]) (by kernel_rfl) (by simp) ?_
 refine AllReadyH.cons rfl (fun K11 hK11=>?_) AllReadyH.nil
 go_simp
 refine (HSE.out _ HU1.out).mono ?_
 rintro r u2 ⟨rfl,-,hk2⟩
 have HR:Hid (Ky (· =g) w u2):=(Ky.of HU1.out).trans hk2
 refine hK11.out _ _ (fun p hp hne=>World.cell?_of_block (a:=p) (HR.out.block p.block hp hne)) fun hH=>?_
 clear hk2
 refine wpAnyH_done (by kernel_rfl) ?_ _
 clear hH
 try simp only [Act.put,List.setIfInBounds_toArray,List.set_cons_zero,List.set_cons_succ,List.getElem_toArray,List.getElem_cons_zero,List.getElem_cons_succ]
 go_wp2_with fail
 exact bodyPost_end (results_none rfl _ _ _) rfl ⟨rfl,HR.out⟩
end Go.Proofs.YtcddpmappmjilaaGreatDoor
namespace Go.Proofs.YtcddpmappmjilaaGreatDoor
open Go.RowKit Go.Maps
set_option maxRecDepth 100000 in
set_option maxHeartbeats 4000000 in
theorem start_any (w:World) (X gI cI:Nat) (kC kS kF kN kT:Value) (aM:Option Addr) (nM cM:Nat) (d:LinkD) (fs0:List FieldD) (fd:FieldD) (hdF:d.fields= [fs0,[fd]]) (hfk:fd.kind.kind=1) (hd0:findVal d ⟨#[79,98,106,101,99,116]⟩=0) (hd1:findVal d ⟨#[69,114,114,111,114]⟩=1) (hk:RLk (· <w.heap.size) w kC kS kF kN kT d)
 (x9:w.cell? ⟨X,9,none⟩=some (.slice (some ⟨gI,0,none⟩) opsB.length cI)) (x3:w.cell? ⟨X,3,none⟩=some (.int .i64 0)) (x6:w.cell? ⟨X,6,none⟩=some (.int .i64 0)) (hh:Cd.Has w gI 0 opsB) (hgI:gI<w.heap.size):
 Calls Tryz.prog 28 #[.agg #[kC,kS,kF,kN,kT],.slice aM nM cM,.agg #[.slice none 0 0,.slice none 0 0,.slice none 0 0,.slice none 0 0,.int .i64 20,.int .i64 20,.int .i64 10],.pointer (some ⟨X,0,none⟩)] w fun r w'=>∃v:RnV,r=.returned (.pointer (some ⟨v.M,0,none⟩))/\Stg w.heap.size v w' 0 0/\Below w.heap.size w w':=by
 have HFD:Hid (∀(V:World) (s:ByteArray),Below w.heap.size w V->s.size<=maxLen->Calls Tryz.prog 44 #[.agg #[kC,kS,kF,kN,kT],.string s] V fun r w'=>r=.returned (.tuple #[.int .i64 (findVal d s),.int .i64 (findErr d s)])/\Below V.heap.size V w'):=fun V s hV hs=>Find_any V w.heap.size kC kS kF kN kT _ s (hk.kept (Kp.below hV)) hV.size hs
 obtain ⟨aC,cC,aS,cS,aF,cF,aN,cN,aT,cT,rfl,rfl,rfl,rfl,rfl⟩:=hk.agg
 have hF:=hk.F
 rw [hdF]at hF
 obtain ⟨f,fo,aE,cE,rfl,-,hcf,hsE⟩:=hF.atSl 1 (by simp)
 obtain ⟨e,eo,csE,eE,-,-,-,hcE,rfl,-,-⟩:=hsE.at 0 (by simp)
 subst eE
 have lf:f<w.heap.size:=World.block_lt_of_cell? w _ hcf
 have he0:w.cell? ⟨e,eo+1,none⟩=some (.int .i64 1):=by
  have:=hcE 1 (by decide)
  simpa [hfk]using this
 have le:e<w.heap.size:=World.block_lt_of_cell? w _ he0
 have lX:X<w.heap.size:=World.block_lt_of_cell? w _ x3
 have HCF:Hid (w.cell? ⟨f,fo+1,none⟩=some (.slice (some ⟨e,eo,none⟩) 1 cE)):=hcf
 have HCE:=mkHid he0
 have HX9:=mkHid x9
 have HX3:=mkHid x3
 have HX6:=mkHid x6
 have HHH:=mkHid hh
 have hl2:d.fields.length=2:=by rw [hdF];rfl
 rw [hl2]at HFD ⊢
 clear hF hcf hsE hcE he0 x9 x3 x6 hh hk
 obtain ⟨WA,hWA,hBA,hsA,kA⟩:=boxes1 w #[.slice aC d.classes.length cC,.slice aS d.supers.length cS,.slice (some ⟨f,fo,none⟩) 2 cF,.slice aN d.names.length cN,.slice aT d.targets.length cT] 28
 obtain ⟨WB,hWB,hBB,hsB,kB⟩:=boxes1 WA #[.slice none 0 0,.slice none 0 0,.slice none 0 0,.slice none 0 0,.int .i64 20,.int .i64 20,.int .i64 10] 30
 rw [hsA]at kB
 have HWB:=mkHid hWB
 have HWA:=mkHid hWA
 have HN:=mkHid (new20 WB)
 clear hWA hWB
 go_enter Tryz.func28,Tryz.ntmps28
 go_wp2_with fail
 rw [<-HWA.out,<-HWB.out]
 refine HN.out.mono ?_
 rintro r w1 ⟨⟨g,rfl,hg1,hg2⟩,hb1⟩
 have HB1:Hid (Below w.heap.size w w1):=(hBA.trans (hBB.mono hBA.size)).trans (hb1.mono (Nat.le_trans hBA.size hBB.size))
 have lA:=lt_of kA
 have kA1:=((hb1.block _ (Nat.lt_of_lt_of_le lA hBB.size)).trans (hBB.block _ lA)).trans kA
 have kB1:=(hb1.block _ (lt_of kB)).trans kB
 have HG:=mkHid hg2
 have lg:=lt_of hg2
 have hgw:w.heap.size<g:=by omega
 have s0:=cell_of kB1 0 (x:=.slice none 0 0) rfl
 have s1:=cell_of kB1 1 (x:=.slice none 0 0) rfl
 have s2:=cell_of kB1 2 (x:=.slice none 0 0) rfl
 have s3:=cell_of kB1 3 (x:=.slice none 0 0) rfl
 have s4:=cell_of kB1 4 (x:=.int .i64 20) rfl
 have s5:=cell_of kB1 5 (x:=.int .i64 20) rfl
 have s6:=cell_of kB1 6 (x:=.int .i64 10) rfl
 have l0:=cell_of kA1 0 (x:=.slice aC d.classes.length cC) rfl
 have l1:=cell_of kA1 1 (x:=.slice aS d.supers.length cS) rfl
 have l2:=cell_of kA1 2 (x:=.slice (some ⟨f,fo,none⟩) 2 cF) rfl
 have l3:=cell_of kA1 3 (x:=.slice aN d.names.length cN) rfl
 have l4:=cell_of kA1 4 (x:=.slice aT d.targets.length cT) rfl
 have lA1:=lt_of kA1
 have lB1:=lt_of kB1
 clear hb1 kB1 hg2 hg1 hBA hBB kA kB
 obtain ⟨WC,hWC,hBC,hsC,kC⟩:=boxes1 w1 #[.slice (some ⟨g,0,none⟩) 41 41,.int .i64 20,.int .i64 20,.int .i64 1,.int .i64 21,.slice none 0 0,.int .i64 1] 120
 obtain ⟨WD,hWD,hBD,hsD,kD⟩:=boxes1 WC #[.slice (some ⟨g,0,none⟩) 41 41,.int .i64 20,.int .i64 20,.int .i64 1,.int .i64 21,.slice none 0 0,.int .i64 1,.slice aC d.classes.length cC,.slice aS d.supers.length cS,.slice (some ⟨f,fo,none⟩) 2 cF,.slice aN d.names.length cN,.slice aT d.targets.length cT,.slice none 0 0,.slice none 0 0,.slice none 0 0,.slice none 0 0,.slice none 0 0,.int .i64 20,.int .i64 20,.int .i64 10,.slice aM nM cM,.int .i64 0,.int .i64 0,.int .i64 0,.slice none 0 0,.slice none 0 0,.slice none 0 0,.slice none 0 0,.slice none 0 0,.int .i64 0,.int .i64 0,.bool false] 130
 rw [hsC]at kD
 have HWC:=mkHid hWC
 have HWD:=mkHid hWD
 have HBD:Hid (Below w1.heap.size w1 WD):=hBC.trans (hBD.mono hBC.size)
 have HMD:=mkHid kD
 have HL1:=mkHid kA1
 clear hWC hWD hBC hBD kC kD kA1
 go_wp2_with fail
 rw [<-HWC.out,<-HWD.out]
 refine (HFD.out WD _ (HB1.out.trans (HBD.out.mono HB1.out.size)) (by decide)).mono ?_
 rintro r w2 ⟨rfl,hb2⟩
 rw [hd0]
 have hM2:=(hb2.block _ (lt_of HMD.out)).trans HMD.out
 have HB2:Hid (Below w1.heap.size w1 w2):=HBD.out.trans (hb2.mono HBD.out.size)
 have HM2:=mkHid hM2
 have j21:=cell_of hM2 21 (x:=.int .i64 0) rfl
 have jf:=frz_of hM2
 have hL2:=(HB2.out.block _ lA1).trans HL1.out
 have i0:=cell_of hL2 0 (x:=.slice aC d.classes.length cC) rfl
 have i1:=cell_of hL2 1 (x:=.slice aS d.supers.length cS) rfl
 have i2:=cell_of hL2 2 (x:=.slice (some ⟨f,fo,none⟩) 2 cF) rfl
 have i3:=cell_of hL2 3 (x:=.slice aN d.names.length cN) rfl
 have i4:=cell_of hL2 4 (x:=.slice aT d.targets.length cT) rfl
 have nA:w.heap.size≠w1.heap.size+1:=by omega
 obtain ⟨w3,hw3⟩:∃w3,w3=w2.setCell ⟨w1.heap.size+1,21,none⟩ (.int .i64 0):=⟨_,rfl⟩
 have HW3:=mkHid hw3
 have HB3:Hid (Below w1.heap.size w1 w3):=by rw [hw3];exact HB2.out.setCell (Nat.le_succ _) _
 have q3:=heap_setR (j:=21) HM2.out (.int .i64 0)
 rw [<-hw3]at q3
 have HM3:=mkHid q3
 clear hb2 hM2 hL2 hw3 q3 s0 s1 s2 s3 s4 s5 s6 l0 l1 l2 l3 l4
 go_wp2_with fail
 rw [<-HW3.out]
 refine (HFD.out w3 _ (HB1.out.trans (HB3.out.mono HB1.out.size)) (by decide)).mono ?_
 rintro r w4 ⟨rfl,hb4⟩
 rw [hd1]
 have hM4:=(hb4.block _ (lt_of HM3.out)).trans HM3.out
 have HM4:=mkHid hM4
 have HB4:Hid (Below w1.heap.size w1 w4):=HB3.out.trans (hb4.mono HB3.out.size)
 have j22:=cell_of hM4 22 (x:=.int .i64 0) rfl
 have jf4:=frz_of hM4
 obtain ⟨w5,hw5⟩:∃w5,w5=w4.setCell ⟨w1.heap.size+1,22,none⟩ (.int .i64 1):=⟨_,rfl⟩
 have HW5:=mkHid hw5
 have HB5:Hid (Below w1.heap.size w1 w5):=by rw [hw5];exact HB4.out.setCell (Nat.le_succ _) _
 have q5:=heap_setR (j:=22) HM4.out (.int .i64 1)
 rw [<-hw5]at q5
 have hl5:=(HB5.out.block _ lA1).trans HL1.out
 have y0:=cell_of q5 22 (x:=.int .i64 1) rfl
 have y1:=cell_of hl5 2 (x:=.slice (some ⟨f,fo,none⟩) 2 cF) rfl
 have HBX:Hid (Below w.heap.size w w5):=HB1.out.trans (HB5.out.mono HB1.out.size)
 have y2:=(HBX.out.cell (p:=⟨f,fo+1,none⟩) lf).trans HCF.out
 have HM5:=mkHid q5
 have hg5:=(HB5.out.block _ lg).trans HG.out
 have s5:=HB5.out.size
 have lM5:=lt_of q5
 have HMK:Hid (∀V,Below w5.heap.size w5 V->Calls Tryz.prog 48 #[.pointer (some ⟨w1.heap.size+1,0,none⟩),.int .i64 4,.int .i64 1,.bool true] V fun r w'=>r=.returned (.int .i64 21)/\w'.heap[w1.heap.size+1]? =some (.cells #[.slice (some ⟨g,0,none⟩) 41 41,.int .i64 20,.int .i64 20,.int .i64 1,.int .i64 25,.slice none 0 0,.int .i64 2,.slice aC d.classes.length cC,.slice aS d.supers.length cS,.slice (some ⟨f,fo,none⟩) 2 cF,.slice aN d.names.length cN,.slice aT d.targets.length cT,.slice none 0 0,.slice none 0 0,.slice none 0 0,.slice none 0 0,.slice none 0 0,.int .i64 20,.int .i64 20,.int .i64 10,.slice aM nM cM,.int .i64 0,.int .i64 1,.int .i64 0,.slice none 0 0,.slice none 0 0,.slice none 0 0,.slice none 0 0,.slice none 0 0,.int .i64 0,.int .i64 0,.bool false] 130 (0,0))/\(∃cur',w'.heap[g]? =some (.cells cur' 3 (0,0))/\cur'.size=41/\cur'[21]? =some (.int .i64 4)/\cur'[22]? =some (.int .i64 1)/\cur'[23]? =some (.int .i64 1))
  /\Ky (fun b=>b=w1.heap.size+1\/b=g) w5 w'):=fun V hV=>by
  refine (make_21 V (w1.heap.size+1) g _ _ ((hV.block _ lM5).trans HM5.out) rfl rfl rfl ((hV.block _ (by omega)).trans hg5) (by simp [madeCells])).mono ?_
  rintro r w' ⟨h1,h2,h3,h4⟩
  exact ⟨h1,h2,h3,(Ky.of hV).trans h4⟩
 have wr4:IntKind.i64.wrap 4=4:=rfl
 clear hb4 hM4 hw5 q5 hl5 i0 i1 i2 i3 i4 j21 jf hg5 HM2 HM3 HM4
 go_wp2_with fail
 rw [<-HW5.out]
 refine wp_region_held_drew (S:=fun W'=>W'.cell? ⟨w1.heap.size+1,22,none⟩=some (.int .i64 1)/\W'.cell? ⟨w.heap.size,2,none⟩=some (.slice (some ⟨f,fo,none⟩) 2 cF)/\W'.cell? ⟨f,fo+1,none⟩=some (.slice (some ⟨e,eo,none⟩) 1 cE)) (by kernel_rfl) ⟨y0,y1,y2⟩ fun hH=>?_
 refine ta 0 (.pointer (some ⟨w1.heap.size+1,0,none⟩)) rfl hH ?_
 refine ta 1 (.pointer (some ⟨w1.heap.size+1,0,none⟩)) rfl hH ?_
 refine ta 2 (.pointer (some ⟨w1.heap.size+1,0,none⟩)) rfl hH ?_
 refine ta 3 (.pointer (some ⟨w1.heap.size+1,0,none⟩)) rfl hH ?_
 refine ta 4 (.pointer (some ⟨w1.heap.size+1,0,none⟩)) rfl hH ?_
 refine ta 5 (.pointer (some ⟨w1.heap.size+1,0,none⟩)) rfl hH ?_
 refine ta 6 (.pointer (some ⟨w1.heap.size+1,0,none⟩)) rfl hH ?_
 refine ta 7 (.pointer (some ⟨w1.heap.size+1,22,none⟩)) rfl hH ?_
 refine ta 8 (.int .i64 1) rfl hH ?_
 refine ta 9 (.int .i64 4) rfl hH ?_
 refine ta 10 (.pointer (some ⟨w.heap.size,2,none⟩)) rfl hH ?_
 refine ta 11 (.slice (some ⟨f,fo,none⟩) 2 cF) rfl hH ?_
 refine ta 12 (.pointer (some ⟨w1.heap.size+1,0,none⟩)) rfl hH ?_
 refine ta 13 (.pointer (some ⟨w1.heap.size+1,0,none⟩)) rfl hH ?_
 refine ta 14 (.pointer (some ⟨w1.heap.size+1,22,none⟩)) rfl hH ?_
 refine ta 15 (.int .i64 1) rfl hH ?_
 refine ta 16 (.pointer (some ⟨f,fo+1,none⟩)) rfl hH ?_
 refine ta 17 (.slice (some ⟨e,eo,none⟩) 1 cE) rfl hH ?_
 refine ta 18 (.int .i64 1) rfl hH ?_
 refine wpAnyH_ready (rs:=[19]) (by kernel_rfl) (by simp) ?_
 refine AllReadyH.cons rfl (fun K19 hK19=>?_) AllReadyH.nil
 go_simp
 refine (HMK.out _ (Below.refl _ _).drew).mono ?_
 rintro r u1 ⟨rfl,m1,⟨cur,g1,g2,g3,g4,g5⟩,hy1⟩
 have hs1:=hy1.size
 have hk1:∀b,b<w5.heap.size->b≠w1.heap.size+1->b≠g->u1.heap[b]? =w5.heap[b]? :=fun b h1 h2 h3=>hy1.block b h1 (fun h=>h.elim h2 h3)
 have z1:=(World.cell?_of_block (a:=⟨w.heap.size,2,none⟩) (hk1 w.heap.size (by omega) nA (by omega))).trans y1
 have z2:=(World.cell?_of_block (a:=⟨f,fo+1,none⟩) (hk1 f (by omega) (by omega) (by omega))).trans y2
 have z0:=cell_of m1 22 (x:=.int .i64 1) rfl
 have z3:=cell_of m1 23 (x:=.int .i64 0) rfl
 have zf:=frz_of m1
 refine hK19.out _ _ ⟨z0,z1,z2⟩ fun hH=>?_
 refine ta 20 (.pointer (some ⟨w1.heap.size+1,0,none⟩)) rfl hH ?_
 refine ta 21 (.pointer (some ⟨w1.heap.size+1,23,none⟩)) rfl hH ?_
 refine wpAnyH_ready (rs:=[22]) (by kernel_rfl) (by simp) ?_
 refine AllReadyH.cons rfl (fun K22 hK22=>?_) AllReadyH.nil
 go_simp
 refine hK22.out _ _ ⟨by simp [go_sem,z0],(World.cell?_of_block (a:=⟨w.heap.size,2,none⟩) (Below.heap_setCell _ _ _ _ nA)).trans z1,(World.cell?_of_block (a:=⟨f,fo+1,none⟩) (Below.heap_setCell _ _ _ _ (by show f≠w1.heap.size+1;omega))).trans z2⟩ fun hH=>?_
 refine wpAnyH_done (by kernel_rfl) ?_ _
 clear hH
 try simp only [Act.put,List.setIfInBounds_toArray,List.set_cons_zero,List.set_cons_succ,List.getElem_toArray,List.getElem_cons_zero,List.getElem_cons_succ]
 obtain ⟨u2,hu2⟩:∃u2,u2=u1.setCell ⟨w1.heap.size+1,23,none⟩ (.int .i64 21):=⟨_,rfl⟩
 rw [<-hu2]
 have HU2:=mkHid hu2
 have m2:=heap_setR (j:=23) m1 (.int .i64 21)
 rw [<-hu2]at m2
 have z23:=cell_of m2 23 (x:=.int .i64 21) rfl
 have hk2:∀b,b<w5.heap.size->b≠w1.heap.size+1->b≠g->u2.heap[b]? =w5.heap[b]? :=fun b h1 h2 h3=>by
  rw [hu2]
  exact (Below.heap_setCell _ _ _ _ h2).trans (hk1 b h1 h2 h3)
 have HY2:Hid (Ky (fun b=>b=w1.heap.size+1\/b=g) w5 u2):=by rw [hu2];exact hy1.set (Or.inl rfl) _ _
 have hs2:w5.heap.size<=u2.heap.size:=by rw [hu2];simpa [World.setCell]using hs1
 have hg2:u2.heap[g]? =some (.cells cur 3 (0,0)):=by
  rw [hu2]
  exact (Below.heap_setCell _ _ _ _ (by show g≠w1.heap.size+1;omega)).trans g1
 have kp:∀ {b:Nat},b<w.heap.size->u2.heap[b]? =w.heap[b]? :=fun {b} hb=>(hk2 b (by omega) (by omega) (by omega)).trans (HBX.out.block b hb)
 obtain ⟨x0,hx0⟩:∃x0,cur[24]? =some x0:=⟨_,Array.getElem?_eq_getElem (by omega)⟩
 have HSC:=mkHid (setCode_21 u2 (w1.heap.size+1) g f fo 2 cF e eo cE cur x0 (cell_of m2 0 rfl) hg2 g3 g4 g5 hx0 (by omega) (by omega) (by omega) (cell_of m2 9 rfl) (by decide) ((World.cell?_of_block (a:=⟨f,fo+1,none⟩) (kp lf)).trans HCF.out) ((World.cell?_of_block (a:=⟨e,eo+1,none⟩) (kp le)).trans HCE.out))
 have HM2':=mkHid m2
 have HKP:Hid (∀b,b<w.heap.size->u2.heap[b]? =w.heap[b]?):=fun b hb=>kp hb
 have lu:w1.heap.size+1<u2.heap.size:=lt_of m2
 clear hu2 hy1 m1 m2 hk2 hk1 z0 z1 z2 z3 zf hg2 g1 g2 g3 g4 g5 hx0 kp y0 y1 y2
 go_wp2_with fail
 refine HSC.out.mono ?_
 rintro r u3 ⟨rfl,hy3⟩
 have hs3:=hy3.size
 have hk3:=hy3.block
 have HY3:Hid (Ky (fun b=>b=w1.heap.size+1\/b=g) w5 u3):=HY2.out.trans (hy3.mono fun b h=>Or.inr h)
 have HM3:=mkHid ((hk3 _ lu (by omega)).trans HM2'.out)
 have HKP3:Hid (∀b,b<w.heap.size->u3.heap[b]? =w.heap[b]?):=fun b hb=>(hk3 b (by omega) (by omega)).trans (HKP.out b hb)
 have HNF:=mkHid (newFrame_any (w:=u3) (X:=X) ((World.cell?_of_block (a:=⟨X,6,none⟩) (HKP3.out X lX)).trans HX6.out))
 clear hk3 z23 hy3
 go_wp2_with fail
 refine HNF.out.mono ?_
 rintro r u4 ⟨⟨F,vL,rfl,hF4,hF4'⟩,hb4⟩
 have HM4:=mkHid ((hb4.block _ (lt_of HM3.out)).trans HM3.out)
 have HSP:=mkHid (spawn_any (F:=F) HM4.out rfl)
 have HF4:=mkHid hF4'
 have HB44:=mkHid hb4
 clear hb4
 go_wp2_with fail
 refine HSP.out.mono ?_
 rintro r u5 ⟨rfl,bT,T,bF,cT',cu,n1,n2,n3,n4,n5,n6,n7,n8,n9,hy5⟩
 have n11:=hy5.block
 have lF4:=lt_of HF4.out
 have hF5:=(n11 F lF4 (by have:=lt_of HM3.out;omega)).trans HF4.out
 have s4:=HB44.out.size
 have lM3:=lt_of HM3.out
 have HKP5:∀b,b<w.heap.size->u5.heap[b]? =w.heap[b]? :=fun b hb=>(n11 b (by omega) (by omega)).trans ((HB44.out.block b (by omega)).trans (HKP3.out b hb))
 have hB5:Below w.heap.size w5 u5:=((HY3.out.trans (Ky.of HB44.out)).trans (hy5.mono fun b h=>Or.inl h)).below (fun b h=>by omega) (by omega)
 have hB:Below w.heap.size w u5:=HBX.out.trans hB5
 have HB:=mkHid hB
 clear n11 HKP5
 go_wp2_with fail
 refine bodyPost_ret (results_tmp rfl _ _ _) rfl ⟨⟨w1.heap.size+1,bT,T,bF,F,X,gI,cT',1,cI,cu,.slice (some ⟨g,0,none⟩) 41 41,.slice aC d.classes.length cC,.slice aS d.supers.length cS,.slice (some ⟨f,fo,none⟩) 2 cF,.slice aN d.names.length cN,.slice aT d.targets.length cT,.slice aM nM cM,vL,25,2,21⟩,rfl,⟨⟨n1,n3,n4,n6,(hB.cell lX).trans HX9.out,(hB.cell lX).trans HX3.out,HHH.out.below hB hgI,lX,hgI,by show w.heap.size<=w1.heap.size+1;omega,by show w.heap.size<=T;omega,by show w.heap.size<=F;omega,n2,Nat.le_refl _,hB.size⟩,n5,_,hF5,⟨by simp [intV],Or.inl ⟨rfl,rfl⟩⟩⟩,hB⟩
end Go.Proofs.YtcddpmappmjilaaGreatDoor
