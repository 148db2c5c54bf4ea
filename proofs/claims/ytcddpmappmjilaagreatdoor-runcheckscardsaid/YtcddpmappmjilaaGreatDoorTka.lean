import Derived.Deep.RegionHeld
import Derived.Test.YtcddpmappmjilaaGreatDoorChecked
namespace Go.Proofs.YtcddpmappmjilaaGreatDoor
section
variable {P:Program} {md:Region.Mode} {ops:Array Oper} {Q:Exit->Act->World->Prop} {S:World->Prop} {fuel:Nat} {a:Act} {w:World}
def tqB (md:Region.Mode) (ops:Array Oper) (listed:Array Bool) (i:Nat):Bool:=Region.noSelect ops&&Region.free md ops listed i&&(Region.ready md ops listed).contains i
theorem tqB_spec {listed:Array Bool} {i:Nat} (h:tqB md ops listed i=true):Region.noSelect ops=true/\Region.free md ops listed i=true/\(Region.ready md ops listed).contains i=true:=by
 simp only [tqB,Bool.and_eq_true]at h
 exact ⟨h.1.1,h.1.2,h.2⟩
theorem tq (i:Nat) (v:Value) {oi:Oper} {listed:Array Bool} (hi:ops[i]? =some oi) (hb:tqB md ops listed i=true) (hw:Region.wanted oi (yielded ops a.tmps)=true) (hQ:∀c a w,Q (.panic c) (a.put oi.dst v) w->Q (.panic c) a w)
 (hy:∀w,S w->(execOp a.eval oi).run P w=.ok (.value v) w) (hS:S w) (h:wpAnyH P md ops Q S fuel (listed.setIfInBounds i true) (a.put oi.dst v) w):wpAnyH P md ops Q S (fuel+1) listed a w:=
 wpAnyH_take hi (tqB_spec hb).1 (tqB_spec hb).2.1 (tqB_spec hb).2.2 hQ (Or.inl ⟨hw,hy⟩) hS h
theorem tn (i:Nat) {oi:Oper} {listed:Array Bool} (hi:ops[i]? =some oi) (hb:tqB md ops listed i=true) (hw:Region.wanted oi (yielded ops a.tmps)=false) (hQ:∀c a w,Q (.panic c) (a.put oi.dst undef) w->Q (.panic c) a w)
 (hS:S w) (h:wpAnyH P md ops Q S fuel (listed.setIfInBounds i true) (a.put oi.dst undef) w):wpAnyH P md ops Q S (fuel+1) listed a w:=
 wpAnyH_take hi (tqB_spec hb).1 (tqB_spec hb).2.1 (tqB_spec hb).2.2 hQ (Or.inr ⟨hw,rfl⟩) hS h
theorem ta (i:Nat) (v:Value) {oi:Oper} {listed:Array Bool} (hi:ops[i]? =some oi) (hS:S w) (h:wpAnyH P md ops Q S fuel (listed.setIfInBounds i true) (a.put oi.dst v) w) (hb:tqB md ops listed i=true:=by kernel_rfl) (hw:Region.wanted oi (yielded ops a.tmps)=true:=by kernel_rfl)
 (hQ:∀c a w,Q (.panic c) (a.put oi.dst v) w->Q (.panic c) a w:=by exact fun _ _ _ h=>h) (hy:∀w,S w->(execOp a.eval oi).run P w=.ok (.value v) w:=by intro w hSw;go_simp):wpAnyH P md ops Q S (fuel+1) listed a w:=tq i v hi hb hw hQ hy hS h
theorem tan (i:Nat) {oi:Oper} {listed:Array Bool} (hi:ops[i]? =some oi) (hS:S w) (h:wpAnyH P md ops Q S fuel (listed.setIfInBounds i true) (a.put oi.dst undef) w) (hb:tqB md ops listed i=true:=by kernel_rfl) (hw:Region.wanted oi (yielded ops a.tmps)=false:=by kernel_rfl)
 (hQ:∀c a w,Q (.panic c) (a.put oi.dst undef) w->Q (.panic c) a w:=by exact fun _ _ _ h=>h):wpAnyH P md ops Q S (fuel+1) listed a w:=tn i hi hb hw hQ hS h
end
end Go.Proofs.YtcddpmappmjilaaGreatDoor
