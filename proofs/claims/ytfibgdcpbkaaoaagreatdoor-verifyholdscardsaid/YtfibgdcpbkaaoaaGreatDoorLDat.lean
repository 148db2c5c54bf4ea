/- Plain data: linked classes, and what is asked after them. -/
import Derived.Test.YtfibgdcpbkaaoaaGreatDoorJPlainMem
namespace Go.Proofs.YtfibgdcpbkaaoaaGreatDoor
open Go.RowKit
structure TargD where
  cls : Int
  meth : Int
def cls0 : ClassD := ⟨⟨#[]⟩, ⟨#[]⟩, [], []⟩
def clsAt (l : List ClassD) (n : Nat) : ClassD := l[n]?.getD cls0
theorem clsAt_eq {l : List ClassD} {n : Nat} (h : n < l.length) : clsAt l n = l[n] := by simp [clsAt, h]
def num (l : List ClassD) (name : ByteArray) : Int := l.zipIdx.foldl (fun acc p => if p.1.name = name then (p.2 : Int) else acc) (-1)
theorem num_nil (name : ByteArray) : num [] name = -1 := rfl
theorem num_snoc (l : List ClassD) (c : ClassD) (name : ByteArray) : num (l ++ [c]) name = if c.name = name then (l.length : Int) else num l name := by
  unfold num
  rw [List.zipIdx_append, List.foldl_append]
  simp
theorem snoc_ind {α : Type} {P : List α → Prop} (h0 : P []) (h1 : ∀ l x, P l → P (l ++ [x])) (l : List α) : P l := by
  have h : ∀ r : List α, P r.reverse := fun r => by
    induction r with
    | nil => exact h0
    | cons x r ih => rw [List.reverse_cons]; exact h1 _ _ ih
  have := h l.reverse
  rwa [List.reverse_reverse] at this
theorem num_le (l : List ClassD) (name : ByteArray) : -1 ≤ num l name ∧ num l name < l.length := by
  induction l using snoc_ind with
  | h0 => rw [num_nil]; simp
  | h1 l c ih =>
    rw [num_snoc, List.length_append]
    split <;> simp <;> omega
def supAt (l : List ClassD) (n : Nat) : Int := num l (clsAt l n).super
def climb (l : List ClassD) : Nat → Int → List Nat
  | 0, _ => []
  | f + 1, n => if 0 ≤ n then n.toNat :: climb l f (supAt l n.toNat) else []
def lineOf (l : List ClassD) (n : Nat) : List Nat := (climb l (l.length + 1) n).reverse
def fieldsOf (l : List ClassD) (n : Nat) : List FieldD := (lineOf l n).flatMap fun k => (clsAt l k).fields
def idxS (l : List ByteArray) (s : ByteArray) : Int := match l.findIdx? (fun x => decide (x = s)) with | some i => i | none => -1
def tabStep (acc : List ByteArray × List TargD) (x : ByteArray × TargD) : List ByteArray × List TargD :=
  if 0 ≤ idxS acc.1 x.1 then (acc.1, acc.2.set (idxS acc.1 x.1).toNat x.2) else (acc.1 ++ [x.1], acc.2 ++ [x.2])
def ownT (l : List ClassD) (n : Nat) : List (ByteArray × TargD) := (clsAt l n).meths.zipIdx.map fun p => (p.1.name, ⟨n, p.2⟩)
def tableOf (l : List ClassD) (n : Nat) : List ByteArray × List TargD := ((lineOf l n).flatMap (ownT l)).foldl tabStep ([], [])
def namesOf (l : List ClassD) (n : Nat) : List ByteArray := (tableOf l n).1
def targetsOf (l : List ClassD) (n : Nat) : List TargD := (tableOf l n).2
def topName : ByteArray := ⟨#[79, 98, 106, 101, 99, 116]⟩
def errName : ByteArray := ⟨#[69, 114, 114, 111, 114]⟩
def hasC (l : List ClassD) (s : ByteArray) : Bool := decide (0 ≤ num l s)
def knowsK (l : List ClassD) (k : KindD) : Bool := decide (k.cls = (⟨#[]⟩ : ByteArray)) || hasC l k.cls
def knowsM (l : List ClassD) (m : MethD) : Bool := m.args.all (knowsK l) && knowsK l m.ret && m.hands.all (fun h => hasC l h.cls)
def sameK (a b : KindD) : Bool := decide (a.kind = b.kind) && decide (a.cls = b.cls)
def differF (p : Bool × List ByteArray) (x : ByteArray) : Bool × List ByteArray := (p.1 && p.2.all (fun y => !decide (x = y)), p.2 ++ [x])
def differB (l : List ByteArray) : Bool := (l.foldl differF (true, [])).1
theorem differ_snd (l : List ByteArray) : (l.foldl differF (true, [])).2 = l := by
  induction l using snoc_ind with
  | h0 => rfl
  | h1 l x ih => rw [List.foldl_append]; show (l.foldl differF (true, [])).2 ++ [x] = _; rw [ih]
theorem differB_snoc (l : List ByteArray) (x : ByteArray) : differB (l ++ [x]) = (differB l && l.all (fun y => !decide (x = y))) := by
  unfold differB
  rw [List.foldl_append]
  show ((l.foldl differF (true, [])).1 && (l.foldl differF (true, [])).2.all _) = _
  rw [differ_snd]
theorem bytes_eq {s t : ByteArray} (h : s.data.toList = t.data.toList) : s = t := by
  cases s
  cases t
  congr
  exact Array.toList_inj.1 h
theorem hasC_mem (l : List ClassD) (s : ByteArray) : decide (0 ≤ num l s) = l.any (fun c => decide (s = c.name)) := by
  induction l using snoc_ind with
  | h0 => rfl
  | h1 l c ih =>
    rw [num_snoc, List.any_append, ← ih]
    by_cases h : c.name = s
    · simp [h]
    · rw [if_neg h]
      simp [Ne.symm h]
theorem differ_names_snoc (l : List ClassD) (c : ClassD) : differB ((l ++ [c]).map (·.name)) = (differB (l.map (·.name)) && !decide (0 ≤ num l c.name)) := by
  rw [List.map_append, List.map_cons, List.map_nil, differB_snoc, hasC_mem, List.all_map, List.not_any_eq_all_not]
  rfl
def askNames (l : List ClassD) : Bool := differB (l.map (·.name))
def askTop (l : List ClassD) : Bool := hasC l topName && hasC l errName
def askUpper (l : List ClassD) : Bool := l.all fun c => (decide (c.name = topName)) == (decide (c.super = (⟨#[]⟩ : ByteArray)))
def askSupers (l : List ClassD) : Bool := l.all fun c => decide (c.super = (⟨#[]⟩ : ByteArray)) || hasC l c.super
def askNone (l : List ClassD) : Bool := (List.range l.length).all fun i => decide ((lineOf l i).length ≤ l.length)
def askError (l : List ClassD) : Bool :=
  decide (supAt l (num l errName).toNat = num l topName) && (match fieldsOf l (num l errName).toNat with | [] => false | f :: _ => sameK f.kind ⟨1, ⟨#[]⟩⟩)
def askTold (l : List ClassD) : Bool := l.all fun c => (c.fields.all fun f => knowsK l f.kind) && c.meths.all (knowsM l)
def askParts (l : List ClassD) : Bool := ((List.range l.length).all fun i => differB ((fieldsOf l i).map (·.name))) && l.all fun c => differB (c.meths.map (·.name))
def askFew (l : List ClassD) : Bool := ((List.range l.length).all fun i => decide ((fieldsOf l i).length ≤ 12)) && ((List.range l.length).all fun i => decide ((namesOf l i).length ≤ 16))
end Go.Proofs.YtfibgdcpbkaaoaaGreatDoor
