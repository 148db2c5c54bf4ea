/- All operations' runs; Method of linked classes. -/
import Derived.Test.YtfibgdcpbkaaoaaGreatDoorJVmRVnB
import Derived.Test.YtfibgdcpbkaaoaaGreatDoorVoE
import Derived.Test.YtfibgdcpbkaaoaaGreatDoorVoF
import Derived.Test.YtfibgdcpbkaaoaaGreatDoorVoL
import Derived.Test.YtfibgdcpbkaaoaaGreatDoorVoM
import Derived.Test.YtfibgdcpbkaaoaaGreatDoorJVoDVoO
import Derived.Test.YtfibgdcpbkaaoaaGreatDoorJVmFVkA
import Derived.Test.YtfibgdcpbkaaoaaGreatDoorCdGoes
namespace Go.Proofs.YtfibgdcpbkaaoaaGreatDoor
open Go.RowKit Go.Maps
theorem run_all {c : Lkr} {B P : Nat} {v : LkV} (hw : Wf c) {x : Cd.Op4} (hx : x ∈ c.ins) (hrs : c.m.ret.cls.size ≤ maxLen) : RunOk c B P v x := by
  obtain ⟨o, ho, e⟩ := hw.op x hx
  have ha := hw.aa x hx
  have hb := hw.bb x hx
  obtain rfl | rfl | rfl | rfl | rfl | rfl | rfl | rfl | rfl | rfl | rfl | rfl | rfl | rfl | rfl | rfl | rfl | rfl | rfl | rfl | rfl | rfl | rfl | rfl | rfl | rfl | rfl | rfl | rfl | rfl | rfl | rfl | rfl | rfl | rfl | rfl | rfl := Cd.cases37 o ho
  · exact run_stack hw (n := 0) (by decide) e ha
  · exact run_1 hw e ha
  · exact run_stack hw (n := 2) (by decide) e ha
  · exact run_stack hw (n := 3) (by decide) e ha
  · exact run_stack hw (n := 4) (by decide) e ha
  · exact run_stack hw (n := 5) (by decide) e ha
  · exact run_stack hw (n := 6) (by decide) e ha
  · exact run_stack hw (n := 7) (by decide) e ha
  · exact run_count hw (n := 8) (by decide) e ha
  · exact run_count hw (n := 9) (by decide) e ha
  · exact run_count hw (n := 10) (by decide) e ha
  · exact run_count hw (n := 11) (by decide) e ha
  · exact run_count hw (n := 12) (by decide) e ha
  · exact run_stack hw (n := 13) (by decide) e ha
  · exact run_branch hw (n := 14) (by decide) e ha
  · exact run_branch hw (n := 15) (by decide) e ha
  · exact run_branch hw (n := 16) (by decide) e ha
  · exact run_branch hw (n := 17) (by decide) e ha
  · exact run_thing2 hw (n := 18) (by decide) e ha hb
  · exact run_thing2 hw (n := 19) (by decide) e ha hb
  · exact run_thing2 hw (n := 20) (by decide) e ha hb
  · exact run_row hw (n := 21) (by decide) e ha
  · exact run_row hw (n := 22) (by decide) e ha
  · exact run_row hw (n := 23) (by decide) e ha
  · exact run_row hw (n := 24) (by decide) e ha
  · exact run_row hw (n := 25) (by decide) e ha
  · exact run_call hw (n := 26) (by decide) e ha hb
  · exact run_27 hw e ha hrs
  · exact run_call hw (n := 28) (by decide) e ha hb
  · exact run_thing hw (n := 29) (by decide) e ha
  · exact run_thing2 hw (n := 30) (by decide) e ha hb
  · exact run_31 hw e ha
  · exact run_call hw (n := 32) (by decide) e ha hb
  · exact run_thing hw (n := 33) (by decide) e ha
  · exact run_34 hw e ha hb
  · exact run_thing hw (n := 35) (by decide) e ha
  · exact run_thing hw (n := 36) (by decide) e ha
theorem methodL_any {l : List ClassD} (h : tieRes l = 0) (w : World) (B : Nat) (aC aS aF aN aT : Option Addr) (cC cS cF cN cT : Nat) (hk : RLk (· < B) w (.slice aC (linkD l).classes.length cC) (.slice aS (linkD l).supers.length cS) (.slice aF (linkD l).fields.length cF) (.slice aN (linkD l).names.length cN) (.slice aT (linkD l).targets.length cT) (linkD l)) (hB : B ≤ w.heap.size) (hg : GlK w) (hT : Cd.Tabs w) (ci mi : Nat) (hci : ci < l.length) (hmi : mi < l[ci].meths.length) :
    Calls Tryz.prog 9 #[.agg #[.slice aC (linkD l).classes.length cC, .slice aS (linkD l).supers.length cS, .slice aF (linkD l).fields.length cF, .slice aN (linkD l).names.length cN, .slice aT (linkD l).targets.length cT], .int .i64 (ci : Int), .int .i64 (mi : Int)] w fun r w' => MthOut (statesD (linkD l) (lnN l) l[ci].meths[mi] ci) r w w' := by
  have hc : l[ci] ∈ l := List.getElem_mem hci
  have hm : l[ci].meths[mi] ∈ l[ci].meths := List.getElem_mem hmi
  have mo := meth_ok h hc hm
  have hrs : l[ci].meths[mi].ret.cls.size ≤ maxLen := by
    obtain ⟨bC, oC, vf, vm, e9, -, -, -, -, -, -, hM, -, -⟩ := hk.C.atC ci hci
    have hM0 := hM
    obtain ⟨aM, cM, rfl, -⟩ := hM0
    obtain ⟨bM, oM, va, vh, -, -, -, -, -, -, -, -, -, -, -, -, -, -, hsz, -⟩ := hM.atM mi hmi
    exact hsz
  have hwf : ∀ l', Cd.full l[ci].meths[mi].code = .ok l' → Wf ⟨linkD l, lnN l, l[ci].meths[mi], l'⟩ := fun l' hl => wf_link h hc hm hl
  exact Method_any w B aC aS aF aN aT cC cS cF cN cT (linkD l) hk hB hg hT (chk_link h) (by
    have := tie_chk h
    unfold checkL at this
    exact of_decide_eq_true (dem_zero this (by decide)).1) (lnN l) ci mi hci hmi _ rfl (cls_link h) mo.lc.2 mo.na mo.ga hwf (fun l' B P v n hl hn => run_all (hwf l' hl) (Cd.get4_mem l' n hn) hrs) (fun l' hl h hh => hand_any (hwf l' hl) hh)
end Go.Proofs.YtfibgdcpbkaaoaaGreatDoor
