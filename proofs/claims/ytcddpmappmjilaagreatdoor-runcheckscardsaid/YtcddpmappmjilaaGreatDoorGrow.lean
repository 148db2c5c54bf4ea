import Derived.Deep.Quiet
import Derived.Deep.QuietTactic
import Derived.BigQuiet
import Derived.Below
namespace Go.Proofs.YtcddpmappmjilaaGreatDoor
open Go Go.RowKit
structure Gr (B:Nat) (W:World) where
 w:World
 ok:Below B W w
theorem wp_region_grow_lit {P:Program} {id:Nat} {Q:Exit->Act->World->Prop} {a:Act} {w:World} {l:List Oper} (B:Nat) (W:World) (hm:P.follows .mixedOrders=true) (hB:Region.lexB .any l.toArray=true) (hw:Below B W w)
 (h:wpQuiet P l.toArray (fun w'=>∃g:Gr B W,w'=g.w) (fun a'=>∀w',(∃g:Gr B W,w'=g.w)->Q .normal a' w') l a):(Code.region id l.toArray true).wp P Q a w:=
 wp_region_quiet (C:=fun w'=>∃g:Gr B W,w'=g.w) hm hB ⟨⟨_,hw.drew⟩,rfl⟩ (by simpa using h)
theorem Gr.calls {P:Program} {f:FuncId} {args:Array Value} {B:Nat} {W:World} {v:Value} (g:Gr B W) (hB:B<=W.heap.size)
 (h:Calls P f args g.w fun e w'=>e=.returned v/\Below g.w.heap.size g.w w'):Calls P f args g.w fun e w''=>e=.returned v/\∃g':Gr B W,w''=g'.w:=
 h.mono fun _ w'' ⟨he,hb⟩=>⟨he,⟨w'',g.ok.trans (hb.mono (Nat.le_trans hB g.ok.size))⟩,rfl⟩
end Go.Proofs.YtcddpmappmjilaaGreatDoor
