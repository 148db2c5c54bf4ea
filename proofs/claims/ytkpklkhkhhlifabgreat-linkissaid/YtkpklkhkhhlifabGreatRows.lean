/-
  No cell of these rows narrows 'for every input' (looked for: loops, veiled, ifaces, maps, wideKeys, modest, calm, conditions, laid).
  DERIVED. THE GIVEN ROWS OF THIS SEAT. 5 by the template 'for every input the law returns true; each argument reads behind the call as it read before'; 0 by the template 'total and deterministic' (their statements: YtkpklkhkhhlifabGreatTotals.lean).
  GIVEN WITH THE SEED: the statements are not yours to turn. If you find one false, say at which input.
  Laid BY PROGRAM, IN A SANDBOX (cutbox-rows.mjs): the forced cells as the released guide's own fill.sh prints them over the translation db7004d3df11a57e… (all of the seat's roots in one cut). By AI agents, Wed Nov 11 2026. No macro, syntax, notation, axiom, sorry.
-/
import Derived.Test.YtkpklkhkhhlifabGreatChecked
import GoSem.Claim
import GoSem.ClaimJoined
import GoSem.ClaimMapViews
import Derived.JoinedTies
import Derived.KernelRfl
namespace Go.Proofs.YtkpklkhkhhlifabGreat
/- THE CELL 'sum', in the pinned program and in every row, IS THE sha256 OF THE DUMP (.gsa) THAT YtkpklkhkhhlifabGreatProg.lean LOADS. Nothing in Lean hashes anything: it is a label: what it is worth is what the hold of that sum in a sandbox is worth. -/
noncomputable def Tryz.pinned : Pinned := { name := "ytkpklkhkhhlifabgreat", sum := "db7004d3df11a57e328bc4371663fae8448913d3ad9eee5c4ff9c5f9d0696534", checked := Tryz.checked }
namespace Rows
def none {H : Type} : Left H := { results := [], args := [] }

/-- 'cinderlaw.LinkLinks': WHATEVER THE INPUT: true; the input reads as it did. -/
def linkLinksSpec : ChangeSpec := { name := "linkLinks", fn := fun _ => fun
  | [d] => { results := [.lit (.bool true)], args := [d] }
  | _ => none }
def linkLinksRow : OpenClaim := { program := "ytkpklkhkhhlifabgreat", sum := "db7004d3df11a57e328bc4371663fae8448913d3ad9eee5c4ff9c5f9d0696534", func := "cinder/cinderlaw.LinkLinks", spec := "linkLinks", unfollowed := true, recurses := true, apart := false }
def LinkLinksSaid : Prop := linkLinksRow.holds Tryz.pinned (OpenSpec.ofChange linkLinksSpec)

/-- ITS FALSE NEIGHBOUR: 'it returns false'. Refute it at one input. -/
def linkLinksWrong : ChangeSpec := { name := "linkLinks", fn := fun _ => fun
  | [d] => { results := [.lit (.bool false)], args := [d] }
  | _ => none }
def LinkLinksWrongFalsely : Prop := linkLinksRow.holds Tryz.pinned (OpenSpec.ofChange linkLinksWrong)

/-- 'cinderlaw.LinkChecks': WHATEVER THE INPUT: true; the input reads as it did. -/
def linkChecksSpec : ChangeSpec := { name := "linkChecks", fn := fun _ => fun
  | [d] => { results := [.lit (.bool true)], args := [d] }
  | _ => none }
def linkChecksRow : OpenClaim := { program := "ytkpklkhkhhlifabgreat", sum := "db7004d3df11a57e328bc4371663fae8448913d3ad9eee5c4ff9c5f9d0696534", func := "cinder/cinderlaw.LinkChecks", spec := "linkChecks", unfollowed := true, recurses := true, apart := false }
def LinkChecksSaid : Prop := linkChecksRow.holds Tryz.pinned (OpenSpec.ofChange linkChecksSpec)

/-- ITS FALSE NEIGHBOUR: 'it returns false'. Refute it at one input. -/
def linkChecksWrong : ChangeSpec := { name := "linkChecks", fn := fun _ => fun
  | [d] => { results := [.lit (.bool false)], args := [d] }
  | _ => none }
def LinkChecksWrongFalsely : Prop := linkChecksRow.holds Tryz.pinned (OpenSpec.ofChange linkChecksWrong)

/-- 'cinderlaw.LinkFinds': WHATEVER THE INPUT: true; the input reads as it did. -/
def linkFindsSpec : ChangeSpec := { name := "linkFinds", fn := fun _ => fun
  | [d1, d2, d3] => { results := [.lit (.bool true)], args := [d1, d2, d3] }
  | _ => none }
def linkFindsRow : OpenClaim := { program := "ytkpklkhkhhlifabgreat", sum := "db7004d3df11a57e328bc4371663fae8448913d3ad9eee5c4ff9c5f9d0696534", func := "cinder/cinderlaw.LinkFinds", spec := "linkFinds", unfollowed := true, recurses := true, apart := false }
def LinkFindsSaid : Prop := linkFindsRow.holds Tryz.pinned (OpenSpec.ofChange linkFindsSpec)

/-- ITS FALSE NEIGHBOUR: 'it returns false'. Refute it at one input. -/
def linkFindsWrong : ChangeSpec := { name := "linkFinds", fn := fun _ => fun
  | [d1, d2, d3] => { results := [.lit (.bool false)], args := [d1, d2, d3] }
  | _ => none }
def LinkFindsWrongFalsely : Prop := linkFindsRow.holds Tryz.pinned (OpenSpec.ofChange linkFindsWrong)

/-- 'cinderlaw.LinkIs': WHATEVER THE INPUT: true; the input reads as it did. -/
def linkIsSpec : ChangeSpec := { name := "linkIs", fn := fun _ => fun
  | [d1, d2, d3] => { results := [.lit (.bool true)], args := [d1, d2, d3] }
  | _ => none }
def linkIsRow : OpenClaim := { program := "ytkpklkhkhhlifabgreat", sum := "db7004d3df11a57e328bc4371663fae8448913d3ad9eee5c4ff9c5f9d0696534", func := "cinder/cinderlaw.LinkIs", spec := "linkIs", unfollowed := true, recurses := true, apart := false }
def LinkIsSaid : Prop := linkIsRow.holds Tryz.pinned (OpenSpec.ofChange linkIsSpec)

/-- ITS FALSE NEIGHBOUR: 'it returns false'. Refute it at one input. -/
def linkIsWrong : ChangeSpec := { name := "linkIs", fn := fun _ => fun
  | [d1, d2, d3] => { results := [.lit (.bool false)], args := [d1, d2, d3] }
  | _ => none }
def LinkIsWrongFalsely : Prop := linkIsRow.holds Tryz.pinned (OpenSpec.ofChange linkIsWrong)

/-- 'cinderlaw.LinkUnder': WHATEVER THE INPUT: true; the input reads as it did. -/
def linkUnderSpec : ChangeSpec := { name := "linkUnder", fn := fun _ => fun
  | [d1, d2, d3] => { results := [.lit (.bool true)], args := [d1, d2, d3] }
  | _ => none }
def linkUnderRow : OpenClaim := { program := "ytkpklkhkhhlifabgreat", sum := "db7004d3df11a57e328bc4371663fae8448913d3ad9eee5c4ff9c5f9d0696534", func := "cinder/cinderlaw.LinkUnder", spec := "linkUnder", unfollowed := true, recurses := true, apart := false }
def LinkUnderSaid : Prop := linkUnderRow.holds Tryz.pinned (OpenSpec.ofChange linkUnderSpec)

/-- ITS FALSE NEIGHBOUR: 'it returns false'. Refute it at one input. -/
def linkUnderWrong : ChangeSpec := { name := "linkUnder", fn := fun _ => fun
  | [d1, d2, d3] => { results := [.lit (.bool false)], args := [d1, d2, d3] }
  | _ => none }
def LinkUnderWrongFalsely : Prop := linkUnderRow.holds Tryz.pinned (OpenSpec.ofChange linkUnderWrong)

/- THE SECOND FORM. 'bulk': how many values and letters a reading holds, each counted each time it is reached (what is shared counts as often as it is met; a slice's spare places count too). A statement '..UptoSaid' is the law's where the arguments, and the package variables that the reading takes, are together of bulk at most 1048576: NARROWER than '..Said'. Prove '..Said' where nothing that the law and all that it calls make is longer than what came in: it says more and counts as full. Else prove '..UptoSaid'. A law counts once. -/
mutual
def uptoBulk {H : Type} : DataW H → Nat
  | .lit (.string bytes) => bytes.length + 1
  | .lit _ => 1
  | .nil => 1
  | .ptr d => uptoBulk d + 1
  | .slice elems spare => uptoBulkAll elems + uptoBulkAll spare + 1
  | .agg parts => uptoBulkAll parts + 1
  | .iface _ d => uptoBulk d + 1
  | .map entries => uptoBulkEntries entries + 1
  | .held _ => 1
def uptoBulkAll {H : Type} : List (DataW H) → Nat
  | [] => 0
  | d :: r => uptoBulk d + uptoBulkAll r
def uptoBulkEntries {H : Type} : List (Lit × DataW H) → Nat
  | [] => 0
  | x :: r => uptoBulkEntry x + uptoBulkEntries r
def uptoBulkEntry {H : Type} : Lit × DataW H → Nat
  | (.string bytes, d) => bytes.length + uptoBulk d + 1
  | (_, d) => uptoBulk d + 1
 end
def uptoSmall : (H : Type) → List (DataW H) → Bool := fun _ ds => decide (uptoBulkAll ds ≤ 1048576)
def OpenSpec.upto (s : _root_.Go.ChangeSpec) : _root_.Go.OpenSpec := { _root_.Go.OpenSpec.ofChange s with cond := some uptoSmall }

/-- 'cinderlaw.LinkLinks', WHERE WHAT IT READS IS OF BULK AT MOST 1048576: true; the input reads as it did. -/
def linkLinksUptoRow : OpenClaim := { program := "ytkpklkhkhhlifabgreat", sum := "db7004d3df11a57e328bc4371663fae8448913d3ad9eee5c4ff9c5f9d0696534", func := "cinder/cinderlaw.LinkLinks", spec := "linkLinks", unfollowed := true, recurses := true, apart := false, narrowed := true }
def LinkLinksUptoSaid : Prop := linkLinksUptoRow.holds Tryz.pinned (OpenSpec.upto linkLinksSpec)

/-- 'cinderlaw.LinkChecks', WHERE WHAT IT READS IS OF BULK AT MOST 1048576: true; the input reads as it did. -/
def linkChecksUptoRow : OpenClaim := { program := "ytkpklkhkhhlifabgreat", sum := "db7004d3df11a57e328bc4371663fae8448913d3ad9eee5c4ff9c5f9d0696534", func := "cinder/cinderlaw.LinkChecks", spec := "linkChecks", unfollowed := true, recurses := true, apart := false, narrowed := true }
def LinkChecksUptoSaid : Prop := linkChecksUptoRow.holds Tryz.pinned (OpenSpec.upto linkChecksSpec)

/-- 'cinderlaw.LinkFinds', WHERE WHAT IT READS IS OF BULK AT MOST 1048576: true; the input reads as it did. -/
def linkFindsUptoRow : OpenClaim := { program := "ytkpklkhkhhlifabgreat", sum := "db7004d3df11a57e328bc4371663fae8448913d3ad9eee5c4ff9c5f9d0696534", func := "cinder/cinderlaw.LinkFinds", spec := "linkFinds", unfollowed := true, recurses := true, apart := false, narrowed := true }
def LinkFindsUptoSaid : Prop := linkFindsUptoRow.holds Tryz.pinned (OpenSpec.upto linkFindsSpec)

/-- 'cinderlaw.LinkIs', WHERE WHAT IT READS IS OF BULK AT MOST 1048576: true; the input reads as it did. -/
def linkIsUptoRow : OpenClaim := { program := "ytkpklkhkhhlifabgreat", sum := "db7004d3df11a57e328bc4371663fae8448913d3ad9eee5c4ff9c5f9d0696534", func := "cinder/cinderlaw.LinkIs", spec := "linkIs", unfollowed := true, recurses := true, apart := false, narrowed := true }
def LinkIsUptoSaid : Prop := linkIsUptoRow.holds Tryz.pinned (OpenSpec.upto linkIsSpec)

/-- 'cinderlaw.LinkUnder', WHERE WHAT IT READS IS OF BULK AT MOST 1048576: true; the input reads as it did. -/
def linkUnderUptoRow : OpenClaim := { program := "ytkpklkhkhhlifabgreat", sum := "db7004d3df11a57e328bc4371663fae8448913d3ad9eee5c4ff9c5f9d0696534", func := "cinder/cinderlaw.LinkUnder", spec := "linkUnder", unfollowed := true, recurses := true, apart := false, narrowed := true }
def LinkUnderUptoSaid : Prop := linkUnderUptoRow.holds Tryz.pinned (OpenSpec.upto linkUnderSpec)

end Rows
end Go.Proofs.YtkpklkhkhhlifabGreat
