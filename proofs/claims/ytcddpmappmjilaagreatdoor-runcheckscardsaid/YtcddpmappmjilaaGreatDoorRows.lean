/-
  NARROWER THAN 'FOR EVERY INPUT', by the rows' own cells (each row's printed sentence says how): RunChecks: laid.
  DERIVED. THE GIVEN ROWS OF THIS SEAT. 1 by the template 'for every input the law returns true; each argument reads behind the call as it read before'; 0 by the template 'total and deterministic' (their statements: YtcddpmappmjilaaGreatDoorTotals.lean).
  GIVEN WITH THE SEED: the statements are not yours to turn. If you find one false, say at which input.
  Laid BY PROGRAM, IN A SANDBOX (cutbox-rows.mjs): the forced cells as the released guide's own fill.sh prints them over the translation 9abcbdd7ebd43df9… (all of the seat's roots in one cut). By AI agents, Wed Nov 11 2026. No macro, syntax, notation, axiom, sorry.
-/
import Derived.Test.YtcddpmappmjilaaGreatDoorChecked
import GoSem.Claim
import GoSem.ClaimJoined
import GoSem.ClaimMapViews
import Derived.JoinedTies
import Derived.KernelRfl
namespace Go.Proofs.YtcddpmappmjilaaGreatDoor
/- THE CELL 'sum', in the pinned program and in every row, IS THE sha256 OF THE DUMP (.gsa) THAT YtcddpmappmjilaaGreatDoorProg.lean LOADS. Nothing in Lean hashes anything: it is a label: what it is worth is what the hold of that sum in a sandbox is worth. -/
noncomputable def Tryz.pinned : Pinned := { name := "ytcddpmappmjilaagreatdoor", sum := "9abcbdd7ebd43df98e2f1f5a3850a6246752652b4ace877afdfee9e995cd575a", checked := Tryz.checked }
namespace Rows
def none {H : Type} : Left H := { results := [], args := [] }

/- WHAT THE LISTED PACKAGE-LEVEL VARIABLES READ AS WHEN THE CALL BEGINS. Each datum BY PROGRAM (the guide's laid-datum.mjs) off the statement by which the dump's own 'gosem.cut.vars' lays the variable. In a bare row this is a premise. The card (YtcddpmappmjilaaGreatDoorCards.lean) ties it to the program's text. -/
def laid_cinder_code_rooms {H : Type} : DataW H := .agg [.agg [.lit (.int .i64 0), .lit (.int .i64 0), .lit (.int .i64 0), .lit (.int .i64 0)], .agg [.lit (.int .i64 2), .lit (.int .i64 (-32768)), .lit (.int .i64 32767), .lit (.int .i64 0)], .agg [.lit (.int .i64 2), .lit (.int .i64 0), .lit (.int .i64 65535), .lit (.int .i64 0)], .agg [.lit (.int .i64 1), .lit (.int .i64 0), .lit (.int .i64 255), .lit (.int .i64 0)], .agg [.lit (.int .i64 2), .lit (.int .i64 0), .lit (.int .i64 255), .lit (.int .i64 255)]]
def laid_cinder_code_behind {H : Type} : DataW H := .agg [.lit (.int .i64 0), .lit (.int .i64 1), .lit (.int .i64 0), .lit (.int .i64 3), .lit (.int .i64 3), .lit (.int .i64 0), .lit (.int .i64 0), .lit (.int .i64 0), .lit (.int .i64 0), .lit (.int .i64 0), .lit (.int .i64 0), .lit (.int .i64 0), .lit (.int .i64 0), .lit (.int .i64 2), .lit (.int .i64 2), .lit (.int .i64 2), .lit (.int .i64 2), .lit (.int .i64 2), .lit (.int .i64 3), .lit (.int .i64 4), .lit (.int .i64 4), .lit (.int .i64 0), .lit (.int .i64 3), .lit (.int .i64 0), .lit (.int .i64 0), .lit (.int .i64 0), .lit (.int .i64 4), .lit (.int .i64 0), .lit (.int .i64 0), .lit (.int .i64 3), .lit (.int .i64 3), .lit (.int .i64 0), .lit (.int .i64 0), .lit (.int .i64 0), .lit (.int .i64 4), .lit (.int .i64 0), .lit (.int .i64 0)]
def laid_cinder_verify_number {H : Type} : DataW H := .agg [.lit (.int .i64 1), .lit (.string [])]
def laid_cinder_verify_row {H : Type} : DataW H := .agg [.lit (.int .i64 2), .lit (.string [])]
def laid_cinder_verify_null {H : Type} : DataW H := .agg [.lit (.int .i64 5), .lit (.string [])]
def laid_cinder_verify_anything {H : Type} : DataW H := .agg [.lit (.int .i64 6), .lit (.string [])]
def laid_cinder_verify_thing {H : Type} : DataW H := .agg [.lit (.int .i64 3), .lit (.string [79, 98, 106, 101, 99, 116])]

/-- 'cinderlaw.RunChecks': WHATEVER THE INPUT: true; the input reads as it did. -/
def runChecksSpec : ChangeSpec := { name := "runChecks", fn := fun _ => fun
  | [d1, d2] => { results := [.lit (.bool true)], args := [d1, d2] }
  | _ => none }
def runChecksRow : OpenClaim := { program := "ytcddpmappmjilaagreatdoor", sum := "9abcbdd7ebd43df98e2f1f5a3850a6246752652b4ace877afdfee9e995cd575a", func := "cinder/cinderlaw.RunChecks", spec := "runChecks", inPlace := ["slices.overlaps[int]"], unfollowed := true, recurses := true, named := ["cinder/verify.number", "cinder/verify.row", "cinder/verify.null", "cinder/verify.anything", "cinder/code.behind", "cinder/code.rooms", "cinder/verify.thing"], apart := false, laid := [("cinder/code.rooms", laid_cinder_code_rooms), ("cinder/code.behind", laid_cinder_code_behind), ("cinder/verify.number", laid_cinder_verify_number), ("cinder/verify.row", laid_cinder_verify_row), ("cinder/verify.null", laid_cinder_verify_null), ("cinder/verify.anything", laid_cinder_verify_anything), ("cinder/verify.thing", laid_cinder_verify_thing)] }
def RunChecksSaid : Prop := runChecksRow.holds Tryz.pinned (OpenSpec.ofChange runChecksSpec)

/-- ITS FALSE NEIGHBOUR: 'it returns false'. Refute it at one input. -/
def runChecksWrong : ChangeSpec := { name := "runChecks", fn := fun _ => fun
  | [d1, d2] => { results := [.lit (.bool false)], args := [d1, d2] }
  | _ => none }
def RunChecksWrongFalsely : Prop := runChecksRow.holds Tryz.pinned (OpenSpec.ofChange runChecksWrong)

/- THE SECOND FORM. 'bulk': how many values and letters a reading holds, each counted each time it is reached (what is shared counts as often as it is met; a slice's spare places count too). A statement '..UptoSaid' is the law's where the arguments, and the package variables that the reading takes, are together of bulk at most 1048576: NARROWER than '..Said'. Prove '..Said' where nothing that the law and all that it calls make is longer than what came in: it says more and counts as full. Else prove '..UptoSaid'. A law counts once. -/
mutual
def uptoBulk {H : Type} : DataW H → Nat
  | .lit (.string bytes) => bytes.length + 1
  | .lit _ => 1
  | .nil => 1
  | .ptr d => uptoBulk d + 1
  | .slice elems spare => uptoBulkAll elems + uptoBulkAll spare + 1
  | .agg parts => uptoBulkAll parts + 1
  | .iface _ d => uptoBulk d + 1
  | .map entries => uptoBulkEntries entries + 1
  | .held _ => 1
def uptoBulkAll {H : Type} : List (DataW H) → Nat
  | [] => 0
  | d :: r => uptoBulk d + uptoBulkAll r
def uptoBulkEntries {H : Type} : List (Lit × DataW H) → Nat
  | [] => 0
  | x :: r => uptoBulkEntry x + uptoBulkEntries r
def uptoBulkEntry {H : Type} : Lit × DataW H → Nat
  | (.string bytes, d) => bytes.length + uptoBulk d + 1
  | (_, d) => uptoBulk d + 1
 end
def uptoSmall : (H : Type) → List (DataW H) → Bool := fun _ ds => decide (uptoBulkAll ds ≤ 1048576)
def OpenSpec.upto (s : _root_.Go.ChangeSpec) : _root_.Go.OpenSpec := { _root_.Go.OpenSpec.ofChange s with cond := some uptoSmall }

/-- 'cinderlaw.RunChecks', WHERE WHAT IT READS IS OF BULK AT MOST 1048576: true; the input reads as it did. -/
def runChecksUptoRow : OpenClaim := { program := "ytcddpmappmjilaagreatdoor", sum := "9abcbdd7ebd43df98e2f1f5a3850a6246752652b4ace877afdfee9e995cd575a", func := "cinder/cinderlaw.RunChecks", spec := "runChecks", inPlace := ["slices.overlaps[int]"], unfollowed := true, recurses := true, named := ["cinder/verify.number", "cinder/verify.row", "cinder/verify.null", "cinder/verify.anything", "cinder/code.behind", "cinder/code.rooms", "cinder/verify.thing"], apart := false, laid := [("cinder/code.rooms", laid_cinder_code_rooms), ("cinder/code.behind", laid_cinder_code_behind), ("cinder/verify.number", laid_cinder_verify_number), ("cinder/verify.row", laid_cinder_verify_row), ("cinder/verify.null", laid_cinder_verify_null), ("cinder/verify.anything", laid_cinder_verify_anything), ("cinder/verify.thing", laid_cinder_verify_thing)], narrowed := true }
def RunChecksUptoSaid : Prop := runChecksUptoRow.holds Tryz.pinned (OpenSpec.upto runChecksSpec)

end Rows
end Go.Proofs.YtcddpmappmjilaaGreatDoor
