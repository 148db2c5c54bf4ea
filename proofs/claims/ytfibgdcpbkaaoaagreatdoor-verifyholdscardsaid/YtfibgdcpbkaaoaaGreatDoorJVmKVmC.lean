/- Rows of kinds: a row of one's own, cut and lengthened. -/
import Derived.Test.YtfibgdcpbkaaoaaGreatDoorJVkNVkF
import Derived.Test.YtfibgdcpbkaaoaaGreatDoorJLDifSpo
import Derived.Deep.AppendLies
import Derived.Test.YtfibgdcpbkaaoaaGreatDoorVmD
import Derived.Test.YtfibgdcpbkaaoaaGreatDoorCdPlace
import Derived.Test.YtfibgdcpbkaaoaaGreatDoorLNam
import Derived.Test.YtfibgdcpbkaaoaaGreatDoorTka
import Derived.Deep.RegionHeld3
namespace Go.Proofs.YtfibgdcpbkaaoaaGreatDoor
open Go.RowKit Go.Maps
def kcs (l : List KindD) : List Value := l.flatMap fun k => [.int .i64 k.kind, .string k.cls]
theorem kcs_len (l : List KindD) : (kcs l).length = l.length * 2 := by
  induction l with
  | nil => rfl
  | cons x l ih => simp only [kcs, List.flatMap_cons, List.length_append, List.length_cons, List.length_nil] at *; omega
theorem kcs_app (l m : List KindD) : kcs (l ++ m) = kcs l ++ kcs m := by simp [kcs]
theorem kcs_get (l : List KindD) (k j : Nat) (hk : k < l.length) (hj : j < 2) : (kcs l)[k * 2 + j]? = ([Value.int .i64 l[k].kind, .string l[k].cls] : List Value)[j]? := flat_get (fun x : KindD => [Value.int .i64 x.kind, .string x.cls]) l k j (fun _ _ => rfl) hk hj
theorem kcs_take (l : List KindD) (k : Nat) : (kcs l).take (k * 2) = kcs (l.take k) := by
  induction l generalizing k with
  | nil => simp [kcs]
  | cons x l ih =>
    cases k with
    | zero => simp [kcs]
    | succ k =>
      have := ih k
      simp only [kcs, List.flatMap_cons, List.take_succ_cons] at *
      rw [show (k + 1) * 2 = k * 2 + 1 + 1 by omega]
      simp [this]
theorem one_kcs (l : List KindD) : ∀ u ∈ kcs l, u.oneCell' = true := fun u hu => by
  obtain ⟨x, -, h⟩ := List.mem_flatMap.1 hu
  simp at h
  rcases h with rfl | rfl <;> rfl
theorem zs_kcs {M : Nat → Prop} {w : World} : ∀ {zs : List (List Value × KindD)}, (∀ z ∈ zs, z.1.length = 2 ∧ RK M w z.1 z.2) → zs.flatMap (·.1) = kcs (zs.map (·.2))
  | [], _ => rfl
  | z :: zs, h => by
    rw [List.flatMap_cons, List.map_cons, zs_kcs fun y hy => h y (List.mem_cons_of_mem _ hy), (h z (List.mem_cons_self)).2.1]
    rfl
theorem SL.kcs {M : Nat → Prop} {w : World} {b off len cap : Nat} {l : List KindD} (h : SL 2 RK M w (.slice (some ⟨b, off, none⟩) len cap) l) : ∀ j u, (kcs l)[j]? = some u → w.cell? ((⟨b, off, none⟩ : Addr).add j) = some u := by
  intro j u hu
  have hj : j < l.length * 2 := by rw [← kcs_len l]; exact (List.getElem?_eq_some_iff.1 hu).1
  have hk : j / 2 < l.length := by omega
  have e : j / 2 * 2 + j % 2 = j := by omega
  obtain ⟨b', off', cs, e9, -, -, -, hc, hR, -⟩ := h.at (j / 2) hk
  cases e9
  have := hc (j % 2) (by omega)
  rw [← e, kcs_get l _ _ hk (by omega), ← hR] at hu
  rw [addr_add, ← e, ← Nat.add_assoc, this, hu]
theorem SL.small {M : Nat → Prop} {w : World} {v : Value} {l : List KindD} (h : SL 2 RK M w v l) : ∀ k ∈ l, k.cls.size ≤ maxLen := fun x hx => by
  obtain ⟨k, hk, rfl⟩ := List.mem_iff_getElem.1 hx
  obtain ⟨ao, cap, rfl, -, -, h⟩ := h
  obtain ⟨_, _, _, -, -, -, -, -, -, h⟩ := h k hk
  exact h
abbrev OwnK (w : World) (B : Nat) (v : Value) (l : List KindD) : Prop := w.ownsRow B 40 2 v l.length (kcs l)
theorem own_dropK {w : World} {B : Nat} {v : Value} {l : List KindD} (h : OwnK w B v l) (hs : ∀ k ∈ l, k.cls.size ≤ maxLen) (k : Nat) (hk : k ≤ l.length) : ∃ ao cap, v = .slice ao l.length cap ∧ l.length ≤ cap ∧ cap ≤ maxLen ∧ SL 2 RK (fun b => v.ownBlock = some b) w (sliced ao k l.length cap 2) (l.drop k) := by
  rcases h.2 with ⟨rfl, hn⟩ | ⟨g, cap, cur, rfl, hB, hg, hc, hm, -⟩
  · have : l = [] := List.eq_nil_of_length_eq_zero hn
    subst this
    refine ⟨none, 0, rfl, Nat.le_refl _, Nat.zero_le _, ?_⟩
    have : k = 0 := by simpa using hk
    subst this
    exact ⟨none, 0, rfl, Nat.le_refl _, Nat.zero_le _, fun k hk => by cases hk⟩
  · refine ⟨some ⟨g, 0, none⟩, cap, rfl, hc, hm, ?_⟩
    unfold sliced
    refine ⟨_, _, by rw [List.length_drop], by rw [List.length_drop]; omega, by rw [List.length_drop]; omega, fun j hj => ?_⟩
    rw [List.length_drop] at hj
    have hjl : k + j < l.length := by omega
    refine ⟨g, k * 2, [.int .i64 l[k + j].kind, .string l[k + j].cls], ?_, rfl, lt_of hg, rfl, fun i hi => ?_, ?_, ?_⟩
    · rw [if_neg (by omega), Option.map_some, addr_add, Nat.zero_add]
    · rw [← kcs_get l (k + j) i hjl hi, show k * 2 + j * 2 + i = (k + j) * 2 + i by omega]
      have := h.cells (g := g) rfl ((k + j) * 2 + i)
      rw [kcs_get l (k + j) i hjl hi] at *
      match i, hi with
      | 0, _ => exact (by have := this _ rfl; rw [addr_add, Nat.zero_add] at this; exact this)
      | 1, _ => exact (by have := this _ rfl; rw [addr_add, Nat.zero_add] at this; exact this)
    · simp
    · rw [List.getElem_drop]
      exact hs _ (List.getElem_mem hjl)
theorem own_SLK {w : World} {B : Nat} {v : Value} {l : List KindD} (h : OwnK w B v l) (hs : ∀ k ∈ l, k.cls.size ≤ maxLen) : SL 2 RK (fun b => v.ownBlock = some b) w v l := by
  obtain ⟨ao, cap, rfl, hc, -, h2⟩ := own_dropK h hs 0 (Nat.zero_le _)
  rcases h.2 with ⟨e, hn⟩ | ⟨g, cap', cur, e, -⟩
  · have hl : l = [] := List.eq_nil_of_length_eq_zero hn
    subst hl
    cases e
    simpa [sliced] using h2
  · cases e
    have e2 : sliced (some ⟨g, 0, none⟩) 0 l.length cap 2 = .slice (some ⟨g, 0, none⟩) l.length cap := by
      unfold sliced
      split
      · simp
      · simp [addr_add]
    rw [e2] at h2
    simpa using h2
theorem own_takeK {w : World} {B : Nat} {ao : Option Addr} {cap : Nat} {l : List KindD} (h : OwnK w B (.slice ao l.length cap) l) (k : Nat) (hk : k ≤ l.length) : sliced ao 0 k cap 2 = .slice ao k cap ∧ OwnK w B (.slice ao k cap) (l.take k) := by
  have hlen : (l.take k).length = k := by simp; omega
  rcases h.2 with ⟨e, hn⟩ | ⟨g, cap', cur, e, hB, hg, hc, hm, hs, ht⟩
  · have : l = [] := List.eq_nil_of_length_eq_zero hn
    subst this
    cases e
    have : k = 0 := by simpa using hk
    subst this
    exact ⟨rfl, World.ownsRow_nil _ _ _ _⟩
  · cases e
    refine ⟨?_, ?_, Or.inr ⟨g, cap, cur, by rw [hlen], hB, hg, by rw [hlen]; omega, hm, hs, ?_⟩⟩
    · unfold sliced
      split
      · simp
      · simp [addr_add]
    · rw [kcs_len]
    · rw [hlen, ← kcs_take, ← ht, List.take_take, Nat.min_eq_left (Nat.mul_le_mul_right _ hk)]
theorem own_clone {w w' : World} {M : Nat → Prop} {v : Value} {l : List KindD} {zs : List (List Value × KindD)} (e : zs.map (·.2) = l) (h : ∀ z ∈ zs, z.1.length = 2 ∧ RK M w z.1 z.2) (ho : w'.ownsRow w.heap.size 40 2 v zs.length (zs.flatMap (·.1))) : OwnK w' w.heap.size v l := by
  rw [zs_kcs h, e, show zs.length = l.length by rw [← e, List.length_map]] at ho
  exact ho
theorem cloneKK_any (w : World) (M : Nat → Prop) (v : Value) (l : List KindD) (hv : SL 2 RK M w v l) (hl : l.length ≤ 100000) :
    Calls Tryz.prog 82 #[v] w fun r w' => Below w.heap.size w w' ∧ ∃ v', r = .returned v' ∧ OwnK w' w.heap.size v' l :=
  (cloneK_any w M v l hv hl).mono fun _ _ ⟨hb, v', _, e, h1, h2, h3⟩ => ⟨hb, v', e, own_clone h1 h2 h3⟩
theorem wpList_append_kinds {ops : Array Oper} {rest : List Oper} {o : Oper} {a : Act} {Q : Exit → Act → World → Prop} (w : World) (hgd : o.guard = none) (s x : Operand)
    (ho : o.op = .call { callee := .builtin .append, args := #[s, x], argTypes := #[38, 38] }) (base : Nat) (v : Value) (xs : List KindD) (hs : a.eval s = v) (hown : OwnK w base v xs)
    (M : Nat → Prop) (u : Value) (l : List KindD) (hx : a.eval x = u) (hu : SL 2 RK M w u l) (hb : xs.length + l.length ≤ 1000000) (hbase : base ≤ w.heap.size)
    (h : ∀ v' w', OwnK w' base v' (xs ++ l) → w.grownBy w' v.ownBlock → (∀ g, v'.ownBlock = some g → v.ownBlock = some g ∨ g = w.heap.size) → wpList Tryz.prog ops Q rest (a.put o.dst v') w') : wpList Tryz.prog ops Q (o :: rest) a w := by
  obtain ⟨iI, hiI, hzI0, hzI1, hzI2⟩ := info_parts Tryz.infoClK
  have HU := hu
  obtain ⟨ao, cl, rfl, -, -, hel⟩ := hu
  cases l with
  | nil =>
    obtain ⟨av, cv, rfl⟩ := own_shape hown
    have hoa := own_app hown
    refine wpList_append_none w hgd s x 38 ho 40 iI Tryz.underlying38 hiI av xs.length cv hs hoa.1 hoa.2 ao cl hx ?_
    exact h _ _ (by simpa [OwnK] using hown) (World.grownBy.refl _ _) fun g hg => Or.inl hg
  | cons y l =>
    obtain ⟨b, off, cs, e, -⟩ := hel 0 (by simp)
    subst e
    refine wpList_append_lies w hgd s x 38 ho base 40 iI (.agg #[.int .i64 0, .string ⟨#[]⟩]) 2 24 Tryz.underlying38 hiI hzI0 hzI1 hzI2 rfl (by decide) v xs.length (Go.Proofs.YtfibgdcpbkaaoaaGreatDoor.kcs xs) hs hown ⟨b, off, none⟩ (y :: l).length cl (Go.Proofs.YtfibgdcpbkaaoaaGreatDoor.kcs (y :: l)) hx (kcs_len _) HU.kcs (one_kcs _) (by simp) (by unfold maxLen; omega) (by omega) hbase w.heap.size rfl ?_
    intro g cap w' h1 h2 h3 _
    refine h _ _ ?_ h2 fun g' e => (by cases e; exact h3)
    unfold OwnK
    rw [kcs_app, List.length_append]
    exact h1
end Go.Proofs.YtfibgdcpbkaaoaaGreatDoor
/- A looker, and a step, in memory. -/
namespace Go.Proofs.YtfibgdcpbkaaoaaGreatDoor
open Go.RowKit Go.Maps
abbrev Kn (c : Lkr) (s : ByteArray) : Prop := 0 ≤ num c.d.classes s
structure LkV where
  kC : Value
  kS : Value
  kF : Value
  kN : Value
  kT : Value
  Bm : Nat
  vA : Value
  vH : Value
  gI : Nat
  cI : Nat
  bS : Nat
  bA : Nat
structure Wf (c : Lkr) : Prop where
  cls : Cls c.d c.L
  fl : c.d.fields.length = c.d.classes.length
  fk : ∀ fs ∈ c.d.fields, ∀ f ∈ fs, GdK (Kn c) f.kind
  mr : ∀ k ∈ c.d.classes, ∀ m ∈ k.meths, m.ret.kind = 0 ∨ GdK (Kn c) m.ret
  ma : ∀ k ∈ c.d.classes, ∀ m ∈ k.meths, m.args.length ≤ 4
  hk : ∀ h ∈ c.m.hands, Kn c h.cls
  er : c.m.ret.kind = 0 ∨ GdK (Kn c) c.m.ret
  st : 0 ≤ c.m.stack ∧ c.m.stack ≤ 10
  lc : 0 ≤ c.m.locals ∧ c.m.locals ≤ 10
  few : c.d.classes.length ≤ 10
  le : c.ins.length ≤ 200
  op : ∀ x ∈ c.ins, ∃ o : Nat, o < 37 ∧ x.op = o
  aa : ∀ x ∈ c.ins, x.op ≠ 1 → 0 ≤ x.a
  bb : ∀ x ∈ c.ins, 0 ≤ x.b
structure LkW (c : Lkr) (B P : Nat) (v : LkV) (w : World) : Prop where
  blk : w.heap[P]? = some (.cells #[v.kC, v.kS, v.kF, v.kN, v.kT, .map (some v.Bm), .string c.m.name, .bool c.m.static, v.vA, .int .i64 c.m.ret.kind, .string c.m.ret.cls, .int .i64 c.m.stack, .int .i64 c.m.locals, .string c.m.code, v.vH, .slice (some ⟨v.gI, 0, none⟩) c.ins.length v.cI, .slice (some ⟨v.bS, 0, none⟩) c.ins.length c.ins.length, .slice (some ⟨v.bA, 0, none⟩) c.ins.length c.ins.length] 108 (0, 0))
  pB : P < B
  kd : Kd B w v.kC v.kS v.kF v.kN v.kT v.Bm c.d
  ag : SL 2 RK (· < B) w v.vA c.m.args
  hd : SL 4 RH (· < B) w v.vH c.m.hands
  hi : Cd.Has w v.gI 0 c.ins
  gB : v.gI < B
  le : c.ins.length ≤ v.cI
  gl : GlK w
  bg : 6 < B
  bw : B ≤ w.heap.size
theorem GlK.at {w w' : World} {B : Nat} (h : GlK w) (hb : Below B w w') (hB : 6 < B) : GlK w' := by
  have hz := h.big
  have hc : ∀ g j, g ≤ 6 → w'.cell? ⟨g, j, none⟩ = w.cell? ⟨g, j, none⟩ := fun g j hg => hb.cell (p := ⟨g, j, none⟩) (by simp; omega)
  exact ⟨(hc _ _ (by decide)).trans h.t0, (hc _ _ (by decide)).trans h.t1, (hc _ _ (by decide)).trans h.a0, (hc _ _ (by decide)).trans h.a1, (hc _ _ (by decide)).trans h.u0, (hc _ _ (by decide)).trans h.u1, (hc _ _ (by decide)).trans h.n0, (hc _ _ (by decide)).trans h.n1, (hc _ _ (by decide)).trans h.r0, (hc _ _ (by decide)).trans h.r1, Nat.lt_of_lt_of_le hz hb.size⟩
theorem LkW.below {c : Lkr} {B P : Nat} {v : LkV} {w w' : World} (h : LkW c B P v w) (hb : Below B w w') : LkW c B P v w' :=
  ⟨(hb.block P h.pB).trans h.blk, h.pB, h.kd.below hb, h.ag.keptK (Kp.below hb), h.hd.keptH (Kp.below hb), h.hi.below hb h.gB, h.gB, h.le, h.gl.at hb h.bg, h.bg, Nat.le_trans h.bw hb.size⟩
theorem gd_small {c : Lkr} (hc : Cls c.d c.L) {B : Nat} {w : World} {kC kS kF kN kT : Value} {Bm : Nat} (hk : Kd B w kC kS kF kN kT Bm c.d) {x : KindD} (h : GdK (Kn c) x) : x.cls.size ≤ maxLen := by
  rcases h with ⟨-, h⟩ | rfl | rfl | rfl | rfl
  · obtain ⟨n, hn, -, e⟩ := hc.nm _ h
    obtain ⟨aC, cC, e9, -, -, h9⟩ := hk.lk.C
    have hC := hk.lk.C
    rw [e9] at hC
    obtain ⟨_, _, _, _, _, _, _, _, _, _, _, _, h, _⟩ := hC.atC n hn
    rw [← e]
    exact h
  all_goals exact Nat.zero_le _
structure Sp (c : Lkr) (F P Q : Nat) (x : Cd.Op4) (w : World) (vL vS : Value) (lo st : List KindD) : Prop where
  blk : w.heap[Q]? = some (.cells #[.pointer (some ⟨P, 0, none⟩), .int .i64 x.loc, .int .i64 x.op, .int .i64 x.a, .int .i64 x.b, vL, vS] 149 (0, 0))
  FQ : F ≤ Q
  oL : OwnK w F vL lo
  oS : OwnK w F vS st
  nL : vL.ownBlock ≠ some Q
  nS : vS.ownBlock ≠ some Q
  ne : ∀ b, vL.ownBlock = some b → vS.ownBlock ≠ some b
  gL : ∀ k ∈ lo, GdK (Kn c) k
  gS : ∀ k ∈ st, GdK (Kn c) k
theorem own_up {w w' : World} {B : Nat} {v : Value} {l : List KindD} (h : OwnK w B v l) (hb : Below w.heap.size w w') : OwnK w' B v l :=
  h.kept (row := none) ⟨hb.os, hb.tape, hb.output, hb.size, fun k hk _ => hb.block k hk⟩ (by cases v.ownBlock <;> simp)
theorem Sp.up {c : Lkr} {F P Q : Nat} {x : Cd.Op4} {w w' : World} {vL vS : Value} {lo st : List KindD} (h : Sp c F P Q x w vL vS lo st) (hb : Below w.heap.size w w') : Sp c F P Q x w' vL vS lo st :=
  ⟨(hb.block Q (lt_of h.blk)).trans h.blk, h.FQ, own_up h.oL hb, own_up h.oS hb, h.nL, h.nS, h.ne, h.gL, h.gS⟩
def SpOut (c : Lkr) (F P Q : Nat) (x : Cd.Op4) (res : Option LS) (r : Ending) (w w' : World) : Prop :=
  Below F w w' ∧ ((∃ s vL vS, res = some s ∧ r = .returned (.tuple #[]) ∧ Sp c F P Q x w' vL vS s.1 s.2) ∨ (res = none ∧ ∃ e p, e ≠ 0 ∧ r = .panicked [wrongV e p]))
theorem sdemand_any {c : Lkr} {F P Q : Nat} {x : Cd.Op4} (w : World) {vL vS : Value} {lo st : List KindD} (h : Sp c F P Q x w vL vS lo st) (b : Bool) (e : Int) :
    Calls Tryz.prog 93 #[.pointer (some ⟨Q, 0, none⟩), .bool b, .int .i64 e] w fun r w' => w' = w ∧ DemOut b e x.loc r := by
  have c1 := cell_of h.blk 1 (x := .int .i64 x.loc) rfl
  clear h
  go_enter Tryz.func93, Tryz.ntmps93
  go_wp2_with fail
  refine (demandAt_any _ _ _ _).mono ?_
  rintro r w2 ⟨rfl, ⟨rfl, rfl⟩ | ⟨rfl, rfl⟩⟩
  · exact ⟨rfl, rfl, Or.inl ⟨rfl, rfl⟩⟩
  · go_wp2_with fail
    go_end0
    exact ⟨rfl, Or.inr ⟨rfl, rfl⟩⟩
end Go.Proofs.YtfibgdcpbkaaoaaGreatDoor
/- A step puts. -/
namespace Go.Proofs.YtfibgdcpbkaaoaaGreatDoor
open Go.RowKit Go.Maps
theorem own_setK {w : World} {F Q j : Nat} {v u : Value} {l : List KindD} (h : OwnK w F v l) (hne : v.ownBlock ≠ some Q) : OwnK (w.setCell ⟨Q, j, none⟩ u) F v l :=
  h.kept (row := some Q) (grown_set (World.grownBy.refl _ _) _ _ (Or.inl rfl)) (Or.inr hne)
theorem Sp.ff {c : Lkr} {F P Q : Nat} {x : Cd.Op4} {w : World} {vL vS : Value} {lo st : List KindD} (h : Sp c F P Q x w vL vS lo st) : F ≤ w.heap.size := by
  have := h.FQ
  have := lt_of h.blk
  omega
theorem Sp.stack {c : Lkr} {F P Q : Nat} {x : Cd.Op4} {w : World} {vL vS vS' : Value} {lo st st' : List KindD} (h : Sp c F P Q x w vL vS lo st) (ho : OwnK w F vS' st') (hq : vS'.ownBlock ≠ some Q) (hn : ∀ b, vL.ownBlock = some b → vS'.ownBlock ≠ some b) (hg : ∀ k ∈ st', GdK (Kn c) k) :
    Sp c F P Q x (w.setCell ⟨Q, 6, none⟩ vS') vL vS' lo st' :=
  ⟨heap_set h.blk vS', h.FQ, own_setK h.oL h.nL, own_setK ho hq, h.nL, hq, hn, h.gL, hg⟩
set_option maxHeartbeats 1000000 in
theorem put_any {c : Lkr} {F P Q : Nat} {x : Cd.Op4} (w : World) {vL vS : Value} {lo st : List KindD} (h : Sp c F P Q x w vL vS lo st) (M : Nat → Prop) (vM : Value) (made : List KindD) (hM : SL 2 RK M w vM made) (gM : ∀ k ∈ made, GdK (Kn c) k) (hb : st.length + made.length ≤ 1000) :
    Calls Tryz.prog 142 #[.pointer (some ⟨Q, 0, none⟩), vM] w fun r w' => r = .returned (.tuple #[]) ∧ Below F w w' ∧ ∃ vS', Sp c F P Q x w' vL vS' lo (st ++ made) := by
  have H := mkHid h
  have HM := mkHid hM
  have HG := mkHid gM
  have c6 := cell_of h.blk 6 (x := vS) rfl
  have hQ := lt_of h.blk
  obtain ⟨aS, cS, rfl⟩ := own_shape h.oS
  obtain ⟨aM, cM, rfl, -⟩ := hM
  have HF := mkHid h.ff
  have HL : Hid (st.length + made.length ≤ 1000000) := (by omega : st.length + made.length ≤ 1000000)
  obtain ⟨n9, hn9⟩ : ∃ n9, n9 = (st ++ made).length := ⟨_, rfl⟩
  have HN9 := mkHid hn9
  clear h gM hb hn9
  go_enter Tryz.func142, Tryz.ntmps142
  go_wp2_with (at_builtin; refine wpList_append_kinds _ rfl _ _ rfl F (.slice aS st.length cS) st rfl H.out.oS M (.slice aM made.length cM) made rfl HM.out HL.out HF.out ?_; intro v' w' ho hg hv; have q := (hg.block Q hQ (fun e => H.out.nS e.symm)).trans H.out.blk; have d6 := cell_of q 6 (x := .slice aS st.length cS) rfl; have df := frz_of q 6; obtain ⟨a9, c9, e9⟩ := own_shape ho; rw [← HN9.out] at e9; subst e9; have HO := mkHid ho; have HGR := mkHid hg; have HV := mkHid hv; have HQ := mkHid q; clear ho hg hv q)
  go_end0
  have hB : Below F w w' := (Below.refl F w).grown HGR.out HF.out (fun k e => (H.out.oS.lt k e).1)
  have hkL : OwnK w' F vL lo := H.out.oL.kept HGR.out (by
    cases e : vL.ownBlock with
    | none => exact Or.inl rfl
    | some b => exact Or.inr fun e' => H.out.ne b e e'.symm)
  have hqn : (Value.slice a9 n9 c9).ownBlock ≠ some Q := fun e => by
    rcases HV.out Q e with e | e
    · exact H.out.nS e
    · omega
  have hnn : ∀ b, vL.ownBlock = some b → (Value.slice a9 n9 c9).ownBlock ≠ some b := fun b e e' => by
    rcases HV.out b e' with e2 | e2
    · exact H.out.ne b e e2
    · have := (H.out.oL.lt b e).2
      omega
  refine ⟨rfl, hB.setCell H.out.FQ _, _, heap_set HQ.out _, H.out.FQ, own_setK hkL H.out.nL, own_setK HO.out hqn, H.out.nL, hqn, hnn, H.out.gL, fun k hk => ?_⟩
  rcases List.mem_append.1 hk with hk | hk
  · exact H.out.gS k hk
  · exact HG.out k hk
end Go.Proofs.YtfibgdcpbkaaoaaGreatDoor
/- A step takes. -/
namespace Go.Proofs.YtfibgdcpbkaaoaaGreatDoor
open Go.RowKit Go.Maps
theorem take_all {c : Lkr} {st asked : List KindD} (h : asked.length ≤ st.length) (ha : ((st.drop (st.length - asked.length)).zip asked).all (fun p => c.fits p.1 p.2) = true) : takeD c st asked = some (st.drop (st.length - asked.length), st.take (st.length - asked.length)) := by
  unfold takeD
  rw [if_pos h, if_pos ha]
theorem take_short {c : Lkr} {st asked : List KindD} (h : ¬ asked.length ≤ st.length) : takeD c st asked = none := by
  unfold takeD
  rw [if_neg h]
theorem take_no {c : Lkr} {st asked : List KindD} (ha : ((st.drop (st.length - asked.length)).zip asked).all (fun p => c.fits p.1 p.2) = false) : takeD c st asked = none := by
  unfold takeD
  split
  · rw [if_neg (by rw [ha]; decide)]
  · rfl
def TakeOut (c : Lkr) (F P Q : Nat) (x : Cd.Op4) (vL : Value) (lo : List KindD) (res : Option LS) (r : Ending) (w w' : World) : Prop :=
  Below F w w' ∧ ((∃ t rest v' vS', res = some (t, rest) ∧ r = .returned v' ∧ SL 2 RK (· < w'.heap.size) w' v' t ∧ Sp c F P Q x w' vL vS' lo rest) ∨ (res = none ∧ ∃ e p, e ≠ 0 ∧ r = .panicked [wrongV e p]))
def Kq (Q : Nat) (w w' : World) : Prop := ∀ b, b < w.heap.size → b ≠ Q → w'.heap[b]? = w.heap[b]?
set_option maxRecDepth 100000 in
set_option maxHeartbeats 4000000 in
theorem takeK_any {c : Lkr} {B F P Q : Nat} {x : Cd.Op4} {v : LkV} (hc : Cls c.d c.L) (w : World) {vL vS : Value} {lo st : List KindD} (hl : LkW c B P v w) (hBF : B ≤ F) (h : Sp c F P Q x w vL vS lo st) (hst : st.length ≤ 1000) (M : Nat → Prop) (vA : Value) (asked : List KindD) (hA : SL 2 RK M w vA asked) :
    Calls Tryz.prog 141 #[.pointer (some ⟨Q, 0, none⟩), vA] w fun r w' => TakeOut c F P Q x vL lo (takeD c st asked) r w w' ∧ ∀ v, r = .returned v → Kq Q w w' := by
  have H := mkHid h
  have HL := mkHid hl
  have HA := mkHid hA
  have c6 := cell_of h.blk 6 (x := vS) rfl
  have hQ := lt_of h.blk
  have hsm : ∀ k ∈ st, k.cls.size ≤ maxLen := fun k hk => gd_small hc hl.kd (h.gS k hk)
  have HS := mkHid hsm
  have HLA : Hid (asked.length ≤ maxLen) := by obtain ⟨_, _, _, _, h, _⟩ := hA; exact h
  have hla := HLA.out
  unfold maxLen at hla
  obtain ⟨aA, cA, rfl, -⟩ := hA
  have hFS := h.ff
  have HPQ : Hid (P < Q) := (by have := hl.pB; have := h.FQ; omega : P < Q)
  by_cases hle : asked.length ≤ st.length
  · obtain ⟨n0, hn0⟩ : ∃ n0, st.length = n0 + asked.length := ⟨st.length - asked.length, by omega⟩
    have hd0 : st.length - asked.length = n0 := by omega
    have hw1 : IntKind.i64.wrap ((st.length : Int) - (asked.length : Int)) = (n0 : Int) := by
      rw [show (st.length : Int) - (asked.length : Int) = (n0 : Int) by omega]
      exact wrap_i64_small _ (by omega) (by omega)
    obtain ⟨aS, cS, e, hlc, hcm, hSD⟩ := own_dropK h.oS hsm n0 (by omega)
    subst e
    obtain ⟨aD, cD, hslc⟩ : ∃ aD cD, sliced aS n0 st.length cS 2 = .slice aD asked.length cD := ⟨_, _, by unfold sliced; rw [show st.length - n0 = asked.length by omega]⟩
    rw [hslc] at hSD
    have r3 : ∀ V, (Instr.slice 38 (.slice aS st.length cS) (some (.int .i64 (n0 : Int))) none none).run Tryz.prog V = .ok (.slice aD asked.length cD) V := fun V => by
      rw [run_slice_l V 38 _ _ _ Tryz.underlying38 .i64 (n0 : Int) (by omega) (by omega)]
      show Result.ok (sliced aS ((n0 : Int)).toNat st.length cS 2) V = _
      rw [Int.toNat_natCast, hslc]
    have r9 : ∀ V, (Instr.slice 38 (.slice aS st.length cS) none (some (.int .i64 (n0 : Int))) none).run Tryz.prog V = .ok (.slice aS n0 cS) V := fun V => by
      rw [run_slice_h V 38 _ _ _ Tryz.underlying38 .i64 (n0 : Int) (by omega) (by omega)]
      show Result.ok (sliced aS 0 ((n0 : Int)).toNat cS 2) V = _
      rw [Int.toNat_natCast, (own_takeK h.oS n0 (by omega)).1]
    have HTK := mkHid (own_takeK h.oS n0 (by omega)).2
    have htl : (st.drop n0).length = asked.length := by rw [List.length_drop]; omega
    have HTL := mkHid htl
    have HSD := mkHid hSD
    have HLL : Hid ((st.drop n0).length ≤ 100000) := (by rw [htl]; omega : (st.drop n0).length ≤ 100000)
    have HD0 := mkHid hd0
    have HN0 := mkHid hn0
    have HLE := mkHid hle
    have h00 : (0 : Int) ≤ n0 := by omega
    have hal : asked.length ≤ 1000 := by omega
    clear h hl hsm hSD htl hd0 hn0 hslc hle
    go_enter Tryz.func141, Tryz.ntmps141
    go_wp2_with fail
    refine (sdemand_any _ H.out _ _).mono ?_
    rintro r w1 ⟨hw, ⟨hb, rfl⟩ | ⟨hb, rfl⟩⟩
    · exact absurd hb (by simp)
    rw [hw]
    clear hb hw
    go_wp2_with fail
    refine (cloneKK_any _ _ _ _ HSD.out HLL.out).mono ?_
    rintro r w2 ⟨hb2, v2, rfl, ho2⟩
    have HB2 := mkHid hb2
    have HO2 := mkHid ho2
    have HO2S := mkHid (own_SLK ho2 (fun k hk => HS.out k (List.mem_of_mem_drop hk)))
    obtain ⟨a2, c2, e2⟩ := own_shape ho2
    rw [HTL.out] at e2
    subst e2
    clear hb2 ho2
    go_wp2_with fail
    go_loopw [30] (fun i wr => ∃ k : Nat, k ≤ asked.length ∧ i = .int .i64 k ∧ Hid (Below w2.heap.size w2 wr ∧ (((st.drop n0).zip asked).take k).all (fun p => c.fits p.1 p.2) = true)) (fun i _ => asked.length - (intOf i).toNat)
    case atStart => exact ⟨0, Nat.zero_le _, rfl, Below.refl _ _, rfl⟩
    case round =>
      rename World => wr
      obtain ⟨k, hk, rfl, HST⟩ := hrel
      have HBW := mkHid (HB2.out.trans (HST.out.1.mono HB2.out.size))
      have HSP := mkHid (H.out.up HBW.out)
      have HLW := mkHid (HL.out.below (HBW.out.mono (Nat.le_trans hBF hFS)))
      by_cases hlt : k < asked.length
      · have hk1 : k < (st.drop n0).length := by rw [HTL.out]; exact hlt
        obtain ⟨b2, o2, e9, hb2, t0, t1, tsz⟩ := (HO2S.out.keptK (w' := wr) ⟨HST.out.1.size, fun b _ hb => HST.out.1.block b hb⟩).atK k hk1
        subst e9
        obtain ⟨bA, oA, e9, hbA, s0, s1, -⟩ := (HA.out.keptK (w' := wr) ⟨HBW.out.size, fun b _ hb => HBW.out.block b hb⟩).atK k hlt
        subst e9
        have HGA : Hid (GdK (Kn c) (st.drop n0)[k]) := H.out.gS _ (List.mem_of_mem_drop (List.getElem_mem hk1))
        have hzl : k < ((st.drop n0).zip asked).length := by rw [List.length_zip, HTL.out]; omega
        have HTA : Hid ((((st.drop n0).zip asked).take (k + 1)).all (fun p => c.fits p.1 p.2) = c.fits (st.drop n0)[k] asked[k]) := by
          show _ = _
          rw [List.take_succ_eq_append_getElem hzl, List.all_append, HST.out.2, List.getElem_zip]
          simp
        have HNO : Hid (c.fits (st.drop n0)[k] asked[k] = false → takeD c st asked = none) := fun e => take_no (by
          rw [HD0.out, List.all_eq_false]
          exact ⟨_, List.getElem_mem hzl, by rw [List.getElem_zip]; show ¬ c.fits _ _ = true; rw [e]; decide⟩)
        have HMT := mkHid (And.intro hlt (Nat.succ_le_of_lt hlt))
        generalize (st.drop n0)[k] = ka at *
        generalize asked[k] = kb at *
        obtain ⟨W1, hW1, hBW1, hs1, kx⟩ := boxes1 wr #[.int .i64 ka.kind, .string ka.cls] 40
        have HB1 := mkHid hBW1
        have HF : Hid (∀ W, Below W1.heap.size W1 W → Calls Tryz.prog 173 #[kdV v.kC v.kS v.kF v.kN v.kT v.Bm, kv ka, kv kb] W fun r w' => r = .returned (.bool (c.fits ka kb)) ∧ Below W1.heap.size W1 w') := fun W hW => by
          have hb := hBW1.trans (hW.mono hBW1.size)
          have hl := HLW.out.below (hb.mono HLW.out.bw)
          exact (kFits_any W B _ _ _ _ _ _ c.d hl.kd hl.bw hl.gl hc ka kb HGA.out tsz).mono fun r w' ⟨e, h⟩ => ⟨e, hW.trans (h.mono hW.size)⟩
        have HDM : Hid (∀ W b, Below W1.heap.size W1 W → Calls Tryz.prog 93 #[.pointer (some ⟨Q, 0, none⟩), .bool b, .int .i64 7] W fun r w' => w' = W ∧ DemOut b 7 x.loc r) := fun W b hW => sdemand_any _ ((HSP.out.up hBW1).up hW) b 7
        have hl1 := HLW.out.below (hBW1.mono HLW.out.bw)
        have hq1 := (HSP.out.up hBW1).blk
        have q0 := cell_of hq1 0 (x := .pointer (some ⟨P, 0, none⟩)) rfl
        have p0 := cell_of hl1.blk 0 (x := v.kC) rfl
        have p1 := cell_of hl1.blk 1 (x := v.kS) rfl
        have p2 := cell_of hl1.blk 2 (x := v.kF) rfl
        have p3 := cell_of hl1.blk 3 (x := v.kN) rfl
        have p4 := cell_of hl1.blk 4 (x := v.kT) rfl
        have p5 := cell_of hl1.blk 5 (x := .map (some v.Bm)) rfl
        have x0 := cell_of kx 0 (x := .int .i64 ka.kind) rfl
        have x1 := cell_of kx 1 (x := .string ka.cls) rfl
        have y0 := (hBW1.cell (p := ⟨bA, oA + k * 2, none⟩) hbA).trans s0
        have y1 := (hBW1.cell (p := ⟨bA, oA + k * 2 + 1, none⟩) hbA).trans s1
        have lQ : Q < W1.heap.size := lt_of hq1
        have lP : P < W1.heap.size := lt_of hl1.blk
        have lA : bA < W1.heap.size := by omega
        have lX : wr.heap.size < W1.heap.size := by omega
        have h00 : (0 : Int) ≤ k := by omega
        have h01 : (k : Int) < asked.length := by omega
        clear hl1 hq1 kx hBW1 s0 s1 HSP HLW c6 hk1 hzl
        go_wp2_with fail
        rw [← hW1]
        clear hW1 hs1
        refine wp_region_held_drew (S := fun W' => ∀ p : Addr, p.block < W1.heap.size → W'.cell? p = W1.cell? p) (by kernel_rfl) (fun p hp => rfl) fun hH => ?_
        refine ta 0 (.pointer (some ⟨Q, 0, none⟩)) rfl hH ?_
        refine ta 1 (.pointer (some ⟨Q, 0, none⟩)) rfl hH ?_
        refine ta 2 (.pointer (some ⟨Q, 0, none⟩)) rfl hH ?_
        refine ta 3 (.pointer (some ⟨Q, 0, none⟩)) rfl hH ?_
        refine ta 4 (.pointer (some ⟨P, 0, none⟩)) rfl hH ?_
        refine ta 5 (.pointer (some ⟨P, 0, none⟩)) rfl hH ?_
        refine ta 6 (.pointer (some ⟨P, 0, none⟩)) rfl hH ?_
        refine ta 7 (.agg #[v.kC, v.kS, v.kF, v.kN, v.kT, .map (some v.Bm)]) rfl hH ?_
        refine ta 8 (.agg #[.int .i64 ka.kind, .string ka.cls]) rfl hH ?_
        refine ta 9 (.slice (some ⟨bA, oA, none⟩) asked.length cA) rfl hH ?_
        refine ta 10 (.int .i64 k) rfl hH ?_
        refine ta 11 (.pointer (some ⟨bA, oA + k * 2, none⟩)) rfl hH ?_
        refine ta 12 (.agg #[.int .i64 kb.kind, .string kb.cls]) rfl hH ?_
        refine wpAnyH_ready (rs := [13]) (by kernel_rfl) (by simp) ?_
        refine AllReadyH.cons rfl (fun K13 hK13 => ?_) AllReadyH.nil
        go_simp
        refine (HF.out _ ((Below.refl _ _).drew)).mono ?_
        rintro r w4 ⟨rfl, hb4⟩
        have HB4 := mkHid hb4
        refine hK13.out _ _ (fun p hp => hb4.cell hp) fun hH => ?_
        clear hb4
        refine wpAnyH_ready (rs := [14]) (by kernel_rfl) (by simp) ?_
        refine AllReadyH.cons rfl (fun K14 hK14 => ?_) AllReadyH.nil
        go_simp
        refine (HDM.out _ _ HB4.out).mono ?_
        rintro r w5 ⟨hw5, ⟨hb, rfl⟩ | ⟨hb, rfl⟩⟩
        · exact ⟨rfl, ⟨by rw [hw5]; exact (HBW.out.trans ((HB1.out.trans (HB4.out.mono HB1.out.size)).mono HBW.out.size)).mono hFS, Or.inr ⟨HNO.out hb, 7, _, by decide, rfl⟩⟩, fun _ e => by cases e⟩
        rw [hw5]
        refine hK14.out _ _ hH fun hH => ?_
        clear hw5
        refine wpAnyH_done (by kernel_rfl) ?_ _
        clear hH
        try simp only [Act.put, List.setIfInBounds_toArray, List.set_cons_zero, List.set_cons_succ, List.getElem_toArray, List.getElem_cons_zero, List.getElem_cons_succ]
        go_wp2_with fail
        go_roundw
        case rel => exact ⟨k + 1, HMT.out.2, by go_num, HST.out.1.trans ((HB1.out.trans (HB4.out.mono HB1.out.size)).mono HST.out.1.size), HTA.out.trans hb⟩
        case measure => have hmt9 := HMT.out.1; simp [intOf]; omega
      · have HALL : Hid (((st.drop n0).zip asked).all (fun p => c.fits p.1 p.2) = true) := by
          have := HST.out.2
          rwa [List.take_of_length_le (by rw [List.length_zip, HTL.out]; omega)] at this
        have HTD : Hid (takeD c st asked = some (st.drop n0, st.take n0)) := by
          have := take_all HLE.out (by rw [HD0.out]; exact HALL.out)
          rw [HD0.out] at this
          exact this
        have q := HSP.out.blk
        have d6 := cell_of q 6 (x := .slice aS st.length cS) rfl
        have df := frz_of q 6
        have h01 : ¬ (k : Int) < asked.length := by omega
        have HQB := mkHid q
        clear q
        go_wp2_with fail
        go_ret
        have hbF : Below F w wr := HBW.out.mono hFS
        refine ⟨⟨hbF.setCell H.out.FQ _, Or.inl ⟨st.drop n0, st.take n0, .slice a2 asked.length c2, .slice aS n0 cS, HTD.out, rfl, ?_, ?_⟩⟩, fun _ _ b hb hQ => (Below.heap_setCell _ _ _ _ hQ).trans (HBW.out.block b hb)⟩
        · have hs := HO2S.out.keptK (w' := wr.setCell ⟨Q, 6, none⟩ (.slice aS n0 cS)) ⟨by simp [World.setCell]; exact HST.out.1.size, fun b hb hbl => (Below.heap_setCell _ _ _ _ (by
            have := (HO2.out.lt b hb).1
            show b ≠ Q
            omega)).trans (HST.out.1.block b hbl)⟩
          exact hs.monoK fun b hb => (by have := (HO2.out.lt b hb).2; have := HST.out.1.size; simp [World.setCell]; omega)
        · have hob : (Value.slice aS n0 cS).ownBlock = (Value.slice aS st.length cS).ownBlock := by cases aS <;> rfl
          exact ⟨heap_set HQB.out _, H.out.FQ, own_setK (own_up H.out.oL HBW.out) H.out.nL, own_setK (own_up HTK.out HBW.out) (hob ▸ H.out.nS), H.out.nL, hob ▸ H.out.nS, fun b hb => hob ▸ H.out.ne b hb, H.out.gL, fun k hk => H.out.gS k (List.mem_of_mem_take hk)⟩
  · have HN := mkHid (take_short (c := c) hle)
    obtain ⟨aS, cS, rfl⟩ := own_shape h.oS
    have hw1 : IntKind.i64.wrap ((st.length : Int) - (asked.length : Int)) = (st.length : Int) - (asked.length : Int) := by rw [IntKind.wrap_i64]; omega
    have h01 : ¬ (0 : Int) ≤ (st.length : Int) - (asked.length : Int) := by omega
    clear h hl hsm
    go_enter Tryz.func141, Tryz.ntmps141
    go_wp2_with fail
    refine (sdemand_any _ H.out _ _).mono ?_
    rintro r w1 ⟨rfl, ⟨hb, rfl⟩ | ⟨hb, rfl⟩⟩
    · exact ⟨rfl, ⟨Below.refl _ _, Or.inr ⟨HN.out, 5, _, by decide, rfl⟩⟩, fun _ e => by cases e⟩
    · exact absurd hb (by simp)
theorem take_any {c : Lkr} {B F P Q : Nat} {x : Cd.Op4} {v : LkV} (hc : Cls c.d c.L) (w : World) {vL vS : Value} {lo st : List KindD} (hl : LkW c B P v w) (hBF : B ≤ F) (h : Sp c F P Q x w vL vS lo st) (hst : st.length ≤ 1000) (M : Nat → Prop) (vA : Value) (asked : List KindD) (hA : SL 2 RK M w vA asked) :
    Calls Tryz.prog 141 #[.pointer (some ⟨Q, 0, none⟩), vA] w fun r w' => TakeOut c F P Q x vL lo (takeD c st asked) r w w' :=
  (takeK_any hc w hl hBF h hst M vA asked hA).mono fun _ _ h => h.1
end Go.Proofs.YtfibgdcpbkaaoaaGreatDoor
/- A step: what it takes and puts by a new row; its small functions. -/
namespace Go.Proofs.YtfibgdcpbkaaoaaGreatDoor
open Go.RowKit Go.Maps
theorem new_SLK {W : World} {X t : Nat} {cs : Array Value} {l : List KindD} (h : W.heap[X]? = some (.cells cs t (0, 0))) (hcs : cs.toList = kcs l) (hs : ∀ k ∈ l, k.cls.size ≤ maxLen) (hl : l.length ≤ maxLen) : SL 2 RK (· < W.heap.size) W (.slice (some ⟨X, 0, none⟩) l.length l.length) l := by
  refine ⟨_, _, rfl, Nat.le_refl _, hl, fun k hk => ⟨X, 0, [.int .i64 l[k].kind, .string l[k].cls], rfl, lt_of h, lt_of h, rfl, fun j hj => ?_, rfl, hs _ (List.getElem_mem hk)⟩⟩
  have e := kcs_get l k j hk hj
  rw [← e, ← hcs]
  have hj2 : k * 2 + j < cs.size := by rw [← Array.length_toList, hcs, kcs_len]; omega
  rw [show 0 + k * 2 + j = k * 2 + j by omega, cell_of h (k * 2 + j) (x := cs[k * 2 + j]) (by simp [hj2])]
  simp [hj2]
theorem TakeOut.from {c : Lkr} {F P Q : Nat} {x : Cd.Op4} {vL : Value} {lo : List KindD} {res : Option LS} {r : Ending} {w0 w w' : World} (h : TakeOut c F P Q x vL lo res r w w') (hb : Below F w0 w) : TakeOut c F P Q x vL lo res r w0 w' := ⟨hb.trans h.1, h.2⟩
theorem takeN_any {c : Lkr} {B F P Q : Nat} {x : Cd.Op4} {v : LkV} (hc : Cls c.d c.L) (w : World) {vL vS : Value} {lo st : List KindD} (hl : LkW c B P v w) (hBF : B ≤ F) (h : Sp c F P Q x w vL vS lo st) (hst : st.length ≤ 1000) (asked : List KindD) (cs : Array Value) (hcs : cs.toList = kcs asked) (hs : ∀ k ∈ asked, k.cls.size ≤ maxLen) (hla : asked.length ≤ 1000) :
    Calls Tryz.prog 141 #[.pointer (some ⟨Q, 0, none⟩), .slice (some ⟨w.heap.size, 0, none⟩) asked.length asked.length] (w.alloc (.cells cs 40)) fun r w' => TakeOut c F P Q x vL lo (takeD c st asked) r w w' := by
  have hb : Below w.heap.size w (w.alloc (.cells cs 40)) := (Below.refl _ _).alloc (Nat.le_refl _) _
  exact (take_any hc _ (hl.below (hb.mono hl.bw)) hBF (h.up hb) hst _ _ asked (new_SLK (heap_alloc_new w _) hcs hs (by unfold maxLen; omega))).mono fun r w' h' => h'.from (hb.mono h.ff)
theorem putN_any {c : Lkr} {F P Q : Nat} {x : Cd.Op4} (w : World) {vL vS : Value} {lo st : List KindD} (h : Sp c F P Q x w vL vS lo st) (made : List KindD) (cs : Array Value) (hcs : cs.toList = kcs made) (hs : ∀ k ∈ made, k.cls.size ≤ maxLen) (gM : ∀ k ∈ made, GdK (Kn c) k) (hb : st.length + made.length ≤ 1000) :
    Calls Tryz.prog 142 #[.pointer (some ⟨Q, 0, none⟩), .slice (some ⟨w.heap.size, 0, none⟩) made.length made.length] (w.alloc (.cells cs 40)) fun r w' => r = .returned (.tuple #[]) ∧ Below F w w' ∧ ∃ vS', Sp c F P Q x w' vL vS' lo (st ++ made) := by
  have hb' : Below w.heap.size w (w.alloc (.cells cs 40)) := (Below.refl _ _).alloc (Nat.le_refl _) _
  exact (put_any _ (h.up hb') _ _ made (new_SLK (heap_alloc_new w _) hcs hs (by unfold maxLen; omega)) gM hb).mono fun r w' ⟨e, b, h'⟩ => ⟨e, (hb'.mono h.ff).trans b, h'⟩
theorem tp_none {c : Lkr} {lo st asked : List KindD} {puts : List KindD → Option (List KindD)} (h : takeD c st asked = none) : tpD c lo st asked puts = none := by unfold tpD; rw [h]; rfl
theorem tp_some {c : Lkr} {lo st asked t rest p : List KindD} {puts : List KindD → Option (List KindD)} (h : takeD c st asked = some (t, rest)) (hp : puts t = some p) : tpD c lo st asked puts = some (lo, rest ++ p) := by unfold tpD; rw [h]; simp [hp]
theorem tp_no {c : Lkr} {lo st asked t rest : List KindD} {puts : List KindD → Option (List KindD)} (h : takeD c st asked = some (t, rest)) (hp : puts t = none) : tpD c lo st asked puts = none := by unfold tpD; rw [h]; simp [hp]
theorem take_len {c : Lkr} {st asked t rest : List KindD} (h : takeD c st asked = some (t, rest)) : t.length = asked.length ∧ rest.length ≤ st.length ∧ (∀ k ∈ t, k ∈ st) ∧ ∀ k ∈ rest, k ∈ st := by
  unfold takeD at h
  split at h
  · split at h
    · cases h
      exact ⟨by rw [List.length_drop]; omega, by rw [List.length_take]; omega, fun k hk => List.mem_of_mem_drop hk, fun k hk => List.mem_of_mem_take hk⟩
    · cases h
  · cases h
theorem SpOut.fail {c : Lkr} {F P Q : Nat} {x : Cd.Op4} {w w' : World} {e p : Int} (hb : Below F w w') (he : e ≠ 0) : SpOut c F P Q x none (.panicked [wrongV e p]) w w' := ⟨hb, Or.inr ⟨rfl, e, p, he, rfl⟩⟩
theorem SpOut.fail' {c : Lkr} {F P Q : Nat} {x : Cd.Op4} {w w' : World} {res : Option LS} (hr : res = none) {r : Ending} (hb : Below F w w') (h : ∃ e p, e ≠ 0 ∧ r = .panicked [wrongV e p]) : SpOut c F P Q x res r w w' := ⟨hb, Or.inr ⟨hr, h⟩⟩
theorem SpOut.ok {c : Lkr} {F P Q : Nat} {x : Cd.Op4} {w w' : World} {res : Option LS} {vL vS : Value} {lo st : List KindD} (hr : res = some (lo, st)) (hb : Below F w w') (h : Sp c F P Q x w' vL vS lo st) : SpOut c F P Q x res (.returned (.tuple #[])) w w' := ⟨hb, Or.inl ⟨_, _, _, hr, rfl, h⟩⟩
theorem numK_gd (c : Lkr) : GdK (Kn c) numK := Or.inr (Or.inl rfl)
theorem rowK_gd (c : Lkr) : GdK (Kn c) rowK := Or.inr (Or.inr (Or.inl rfl))
theorem nulK_gd (c : Lkr) : GdK (Kn c) nulK := Or.inr (Or.inr (Or.inr (Or.inl rfl)))
theorem anyK_gd (c : Lkr) : GdK (Kn c) anyK := Or.inr (Or.inr (Or.inr (Or.inr rfl)))
set_option maxHeartbeats 1000000 in
theorem goesOn_any {c : Lkr} {F P Q : Nat} {x : Cd.Op4} (w : World) {vL vS : Value} {lo st : List KindD} (h : Sp c F P Q x w vL vS lo st) :
    Calls Tryz.prog 94 #[.pointer (some ⟨Q, 0, none⟩)] w fun r w' => r = .returned (.bool (goesD x.op)) ∧ w' = w := by
  have c2 := cell_of h.blk 2 (x := .int .i64 x.op) rfl
  clear h
  by_cases h1 : x.op = 13
  · have HR : Hid (goesD x.op = false) := by show _ = _; simp [goesD, h1]
    rw [h1] at c2
    clear h1
    go_enter Tryz.func94, Tryz.ntmps94
    go_wp2_with fail
    go_ret
    exact ⟨by rw [HR.out]; rfl, rfl⟩
  by_cases h2 : x.op = 27
  · have HR : Hid (goesD x.op = false) := by show _ = _; simp [goesD, h2]
    rw [h2] at c2
    clear h2 h1
    go_enter Tryz.func94, Tryz.ntmps94
    go_wp2_with fail
    go_ret
    exact ⟨by rw [HR.out]; rfl, rfl⟩
  by_cases h3 : x.op = 28
  · have HR : Hid (goesD x.op = false) := by show _ = _; simp [goesD, h3]
    rw [h3] at c2
    clear h3 h2 h1
    go_enter Tryz.func94, Tryz.ntmps94
    go_wp2_with fail
    go_ret
    exact ⟨by rw [HR.out]; rfl, rfl⟩
  have HR : Hid (goesD x.op = (x.op != 13 && x.op != 27 && x.op != 28)) := by show _ = _; simp [goesD, h1, h2, h3]
  go_enter Tryz.func94, Tryz.ntmps94
  go_wp2_with fail
  go_ret
  exact ⟨by rw [HR.out]; rfl, rfl⟩
set_option maxHeartbeats 1000000 in
theorem branches_any {c : Lkr} {F P Q : Nat} {x : Cd.Op4} (w : World) {vL vS : Value} {lo st : List KindD} (h : Sp c F P Q x w vL vS lo st) :
    Calls Tryz.prog 96 #[.pointer (some ⟨Q, 0, none⟩)] w fun r w' => r = .returned (.bool (brD x.op)) ∧ w' = w := by
  have c2 := cell_of h.blk 2 (x := .int .i64 x.op) rfl
  have HR : Hid (brD x.op = ((x.op == 13) || (x.op == 14) || (x.op == 15) || (x.op == 16) || (x.op == 17))) := by
    show _ = _
    unfold brD
    rw [show decide (x.op = 13) = (x.op == 13) by rw [Bool.eq_iff_iff]; simp, show decide (x.op = 14) = (x.op == 14) by rw [Bool.eq_iff_iff]; simp, show decide (x.op = 15) = (x.op == 15) by rw [Bool.eq_iff_iff]; simp, show decide (x.op = 16) = (x.op == 16) by rw [Bool.eq_iff_iff]; simp, show decide (x.op = 17) = (x.op == 17) by rw [Bool.eq_iff_iff]; simp]
  clear h
  generalize x.op = o at *
  cases h1 : (o == 13)
  · cases h2 : (o == 14)
    · cases h3 : (o == 15)
      · cases h4 : (o == 16) <;> cases h5 : (o == 17)
        all_goals
          rw [h1, h2, h3, h4, h5] at HR
          go_enter Tryz.func96, Tryz.ntmps96
          go_wp2_with fail
          go_ret
          exact ⟨by rw [HR.out]; rfl, rfl⟩
      · rw [h1, h2, h3] at HR
        go_enter Tryz.func96, Tryz.ntmps96
        go_wp2_with fail
        go_ret
        exact ⟨by rw [HR.out]; rfl, rfl⟩
    · rw [h1, h2] at HR
      go_enter Tryz.func96, Tryz.ntmps96
      go_wp2_with fail
      go_ret
      exact ⟨by rw [HR.out]; rfl, rfl⟩
  · rw [h1] at HR
    go_enter Tryz.func96, Tryz.ntmps96
    go_wp2_with fail
    go_ret
    exact ⟨by rw [HR.out]; rfl, rfl⟩
theorem something_any (w : World) (k : KindD) (hs : k.cls.size ≤ maxLen) :
    Calls Tryz.prog 180 #[kv k] w fun r w' => Below w.heap.size w w' ∧ ∃ v, r = .returned v ∧ SL 2 RK (· < w'.heap.size) w' v (someD k) := by
  by_cases h0 : k.kind = 0
  · have HR : Hid (someD k = []) := if_pos h0
    have b0 : (k.kind == 0) = true := by rw [h0]; rfl
    have HB := mkHid ((Below.refl w.heap.size w).alloc (Nat.le_refl _) (.cells #[.int .i64 k.kind, .string k.cls] 40))
    clear h0
    go_enter Tryz.func180, Tryz.ntmps180
    go_wp2_with fail
    go_ret
    exact ⟨HB.out, _, rfl, by rw [HR.out]; exact ⟨none, 0, rfl, Nat.le_refl _, Nat.zero_le _, fun k hk => by cases hk⟩⟩
  · have HR : Hid (someD k = [k]) := if_neg h0
    have b0 : (k.kind == 0) = false := by rw [beq_eq_false_iff_ne]; exact h0
    have hB := ((Below.refl w.heap.size w).alloc (Nat.le_refl _) (.cells #[.int .i64 k.kind, .string k.cls] 40)).alloc (by simp) (.cells #[.int .i64 k.kind, .string k.cls] 40)
    have HB := mkHid hB
    have HN := mkHid (new_SLK (l := [k]) (heap_alloc_new (w.alloc (.cells #[.int .i64 k.kind, .string k.cls] 40)) (.cells #[.int .i64 k.kind, .string k.cls] 40)) rfl (fun x hx => by simp at hx; rw [hx]; exact hs) (by unfold maxLen; simp))
    clear h0 hB
    go_enter Tryz.func180, Tryz.ntmps180
    go_wp2_with fail
    go_ret
    exact ⟨HB.out, _, rfl, by rw [HR.out]; have := HN.out; simpa using this⟩
end Go.Proofs.YtfibgdcpbkaaoaaGreatDoor
/- A step's branches. -/
namespace Go.Proofs.YtfibgdcpbkaaoaaGreatDoor
open Go.RowKit Go.Maps
theorem sm_num : numK.cls.size ≤ maxLen := Nat.zero_le _
theorem sm_any : anyK.cls.size ≤ maxLen := Nat.zero_le _
theorem sm_nul : nulK.cls.size ≤ maxLen := Nat.zero_le _
theorem sm_row : rowK.cls.size ≤ maxLen := Nat.zero_le _
theorem sm_th : thK.cls.size ≤ maxLen := by decide
theorem sm1 {a : KindD} (ha : a.cls.size ≤ maxLen) : ∀ k ∈ [a], k.cls.size ≤ maxLen := fun k hk => by simp at hk; rw [hk]; exact ha
theorem sm2 {a b : KindD} (ha : a.cls.size ≤ maxLen) (hb : b.cls.size ≤ maxLen) : ∀ k ∈ [a, b], k.cls.size ≤ maxLen := fun k hk => by
  simp at hk
  rcases hk with rfl | rfl
  · exact ha
  · exact hb
theorem sm3 {a b c : KindD} (ha : a.cls.size ≤ maxLen) (hb : b.cls.size ≤ maxLen) (hc : c.cls.size ≤ maxLen) : ∀ k ∈ [a, b, c], k.cls.size ≤ maxLen := fun k hk => by
  simp at hk
  rcases hk with rfl | rfl | rfl
  · exact ha
  · exact hb
  · exact hc
theorem gd1 {c : Lkr} {a : KindD} (ha : GdK (Kn c) a) : ∀ k ∈ [a], GdK (Kn c) k := fun k hk => by simp at hk; rw [hk]; exact ha
theorem gd2 {c : Lkr} {a b : KindD} (ha : GdK (Kn c) a) (hb : GdK (Kn c) b) : ∀ k ∈ [a, b], GdK (Kn c) k := fun k hk => by
  simp at hk
  rcases hk with rfl | rfl
  · exact ha
  · exact hb
set_option maxRecDepth 100000 in
set_option maxHeartbeats 2000000 in
theorem branchD_14 {c : Lkr} {B F P Q : Nat} {x : Cd.Op4} {v : LkV} (hw : Wf c) (w : World) {vL vS : Value} {lo st : List KindD} (hl : LkW c B P v w) (hBF : B ≤ F) (h : Sp c F P Q x w vL vS lo st) (hst : st.length ≤ 10) (hop : x.op = 14) :
    Calls Tryz.prog 143 #[.pointer (some ⟨Q, 0, none⟩)] w fun r w' => SpOut c F P Q x (branchD c x lo st) r w w' := by
  have H := mkHid h
  have HL := mkHid hl
  have HD : Hid (branchD c x lo st = tpD c lo st [numK] fun _ => some []) := by show _ = _; unfold branchD; rw [hop]; rfl
  have c2 : w.cell? ⟨Q, 2, none⟩ = some (.int .i64 14) := by rw [← hop]; exact cell_of h.blk 2 rfl
  clear h hl hop
  go_enter Tryz.func143, Tryz.ntmps143
  obtain ⟨-, -, -, -, -, -, n0_2, n1_2, -, -, -⟩ := (HL.out).gl
  go_wp2_with fail
  refine (takeN_any hw.cls _ (HL.out) hBF H.out (by omega) [numK] _ rfl (sm1 sm_num) (by decide)).mono ?_
  rintro r w1 ⟨hb1, ⟨t1, rest1, v1, vS1, ht1, rfl, hs1, hp1⟩ | ⟨hn1, e1, p1, he1, rfl⟩⟩
  rotate_left
  · exact ⟨rfl, SpOut.fail' (by rw [HD.out]; exact tp_none hn1) hb1 ⟨_, _, he1, rfl⟩⟩
  have HT1 := mkHid ht1
  have HS1 := mkHid hs1
  have H1 := mkHid hp1
  have HB1 := mkHid hb1
  have hst1 : rest1.length ≤ 10 := Nat.le_trans (take_len ht1).2.1 (by omega)
  clear ht1 hs1 hp1 hb1
  go_wp2_with fail
  go_end0
  exact SpOut.ok (HD.out.trans (by have := tp_some (lo := lo) (puts := fun _ => some []) HT1.out rfl; rwa [List.append_nil] at this)) HB1.out H1.out
set_option maxRecDepth 100000 in
set_option maxHeartbeats 2000000 in
theorem branchD_15 {c : Lkr} {B F P Q : Nat} {x : Cd.Op4} {v : LkV} (hw : Wf c) (w : World) {vL vS : Value} {lo st : List KindD} (hl : LkW c B P v w) (hBF : B ≤ F) (h : Sp c F P Q x w vL vS lo st) (hst : st.length ≤ 10) (hop : x.op = 15) :
    Calls Tryz.prog 143 #[.pointer (some ⟨Q, 0, none⟩)] w fun r w' => SpOut c F P Q x (branchD c x lo st) r w w' := by
  have H := mkHid h
  have HL := mkHid hl
  have HD : Hid (branchD c x lo st = tpD c lo st [numK, numK] fun _ => some []) := by show _ = _; unfold branchD; rw [hop]; rfl
  have c2 : w.cell? ⟨Q, 2, none⟩ = some (.int .i64 15) := by rw [← hop]; exact cell_of h.blk 2 rfl
  clear h hl hop
  go_enter Tryz.func143, Tryz.ntmps143
  obtain ⟨-, -, -, -, -, -, n0_2, n1_2, -, -, -⟩ := (HL.out).gl
  go_wp2_with fail
  refine (takeN_any hw.cls _ (HL.out) hBF H.out (by omega) [numK, numK] _ rfl (sm2 sm_num sm_num) (by decide)).mono ?_
  rintro r w1 ⟨hb1, ⟨t1, rest1, v1, vS1, ht1, rfl, hs1, hp1⟩ | ⟨hn1, e1, p1, he1, rfl⟩⟩
  rotate_left
  · exact ⟨rfl, SpOut.fail' (by rw [HD.out]; exact tp_none hn1) hb1 ⟨_, _, he1, rfl⟩⟩
  have HT1 := mkHid ht1
  have HS1 := mkHid hs1
  have H1 := mkHid hp1
  have HB1 := mkHid hb1
  have hst1 : rest1.length ≤ 10 := Nat.le_trans (take_len ht1).2.1 (by omega)
  clear ht1 hs1 hp1 hb1
  go_wp2_with fail
  go_end0
  exact SpOut.ok (HD.out.trans (by have := tp_some (lo := lo) (puts := fun _ => some []) HT1.out rfl; rwa [List.append_nil] at this)) HB1.out H1.out
set_option maxRecDepth 100000 in
set_option maxHeartbeats 2000000 in
theorem branchD_16 {c : Lkr} {B F P Q : Nat} {x : Cd.Op4} {v : LkV} (hw : Wf c) (w : World) {vL vS : Value} {lo st : List KindD} (hl : LkW c B P v w) (hBF : B ≤ F) (h : Sp c F P Q x w vL vS lo st) (hst : st.length ≤ 10) (hop : x.op = 16) :
    Calls Tryz.prog 143 #[.pointer (some ⟨Q, 0, none⟩)] w fun r w' => SpOut c F P Q x (branchD c x lo st) r w w' := by
  have H := mkHid h
  have HL := mkHid hl
  have HD : Hid (branchD c x lo st = tpD c lo st [thK, thK] fun _ => some []) := by show _ = _; unfold branchD; rw [hop]; rfl
  have c2 : w.cell? ⟨Q, 2, none⟩ = some (.int .i64 16) := by rw [← hop]; exact cell_of h.blk 2 rfl
  clear h hl hop
  go_enter Tryz.func143, Tryz.ntmps143
  obtain ⟨t0_2, t1_2, -, -, -, -, -, -, -, -, -⟩ := (HL.out).gl
  go_wp2_with fail
  refine (takeN_any hw.cls _ (HL.out) hBF H.out (by omega) [thK, thK] _ rfl (sm2 sm_th sm_th) (by decide)).mono ?_
  rintro r w1 ⟨hb1, ⟨t1, rest1, v1, vS1, ht1, rfl, hs1, hp1⟩ | ⟨hn1, e1, p1, he1, rfl⟩⟩
  rotate_left
  · exact ⟨rfl, SpOut.fail' (by rw [HD.out]; exact tp_none hn1) hb1 ⟨_, _, he1, rfl⟩⟩
  have HT1 := mkHid ht1
  have HS1 := mkHid hs1
  have H1 := mkHid hp1
  have HB1 := mkHid hb1
  have hst1 : rest1.length ≤ 10 := Nat.le_trans (take_len ht1).2.1 (by omega)
  clear ht1 hs1 hp1 hb1
  go_wp2_with fail
  go_end0
  exact SpOut.ok (HD.out.trans (by have := tp_some (lo := lo) (puts := fun _ => some []) HT1.out rfl; rwa [List.append_nil] at this)) HB1.out H1.out
set_option maxRecDepth 100000 in
set_option maxHeartbeats 2000000 in
theorem branchD_17 {c : Lkr} {B F P Q : Nat} {x : Cd.Op4} {v : LkV} (hw : Wf c) (w : World) {vL vS : Value} {lo st : List KindD} (hl : LkW c B P v w) (hBF : B ≤ F) (h : Sp c F P Q x w vL vS lo st) (hst : st.length ≤ 10) (hop : x.op = 17) :
    Calls Tryz.prog 143 #[.pointer (some ⟨Q, 0, none⟩)] w fun r w' => SpOut c F P Q x (branchD c x lo st) r w w' := by
  have H := mkHid h
  have HL := mkHid hl
  have HD : Hid (branchD c x lo st = tpD c lo st [thK] fun _ => some []) := by show _ = _; unfold branchD; rw [hop]; rfl
  have c2 : w.cell? ⟨Q, 2, none⟩ = some (.int .i64 17) := by rw [← hop]; exact cell_of h.blk 2 rfl
  clear h hl hop
  go_enter Tryz.func143, Tryz.ntmps143
  obtain ⟨t0_2, t1_2, -, -, -, -, -, -, -, -, -⟩ := (HL.out).gl
  go_wp2_with fail
  refine (takeN_any hw.cls _ (HL.out) hBF H.out (by omega) [thK] _ rfl (sm1 sm_th) (by decide)).mono ?_
  rintro r w1 ⟨hb1, ⟨t1, rest1, v1, vS1, ht1, rfl, hs1, hp1⟩ | ⟨hn1, e1, p1, he1, rfl⟩⟩
  rotate_left
  · exact ⟨rfl, SpOut.fail' (by rw [HD.out]; exact tp_none hn1) hb1 ⟨_, _, he1, rfl⟩⟩
  have HT1 := mkHid ht1
  have HS1 := mkHid hs1
  have H1 := mkHid hp1
  have HB1 := mkHid hb1
  have hst1 : rest1.length ≤ 10 := Nat.le_trans (take_len ht1).2.1 (by omega)
  clear ht1 hs1 hp1 hb1
  go_wp2_with fail
  go_end0
  exact SpOut.ok (HD.out.trans (by have := tp_some (lo := lo) (puts := fun _ => some []) HT1.out rfl; rwa [List.append_nil] at this)) HB1.out H1.out
end Go.Proofs.YtfibgdcpbkaaoaaGreatDoor
/- A step: the class and the method that it tells of. -/
namespace Go.Proofs.YtfibgdcpbkaaoaaGreatDoor
open Go.RowKit Go.Maps
theorem Cd_nat {a : Int} (h : 0 ≤ a) {N : Nat} (hN : a < N) : ∃ n : Nat, a = n ∧ n < N ∧ a.toNat = n := ⟨a.toNat, by omega, by omega, rfl⟩
theorem ofC_gd {c : Lkr} (hw : Wf c) {x : Cd.Op4} (h0 : 0 ≤ x.a) (h1 : x.a < c.d.classes.length) : GdK (Kn c) (c.ofC x) := by
  obtain ⟨n, hn, hl, hN⟩ := Cd_nat h0 h1
  refine Or.inl ⟨Or.inl rfl, ?_⟩
  show 0 ≤ num c.d.classes (clsAt c.d.classes x.a.toNat).name
  rw [hN, clsAt_eq hl, hw.cls.nn n hl]
  omega
set_option maxRecDepth 100000 in
set_option maxHeartbeats 4000000 in
theorem ofClass_any {c : Lkr} {B F P Q : Nat} {x : Cd.Op4} {v : LkV} (w : World) {vL vS : Value} {lo st : List KindD} (hl : LkW c B P v w) (h : Sp c F P Q x w vL vS lo st) (h0 : 0 ≤ x.a) (h1 : x.a < c.d.classes.length) :
    Calls Tryz.prog 179 #[.pointer (some ⟨Q, 0, none⟩)] w fun r w' => r = .returned (kv (c.ofC x)) ∧ Below w.heap.size w w' := by
  obtain ⟨n, hn, hnl, hN⟩ := Cd_nat h0 h1
  have HR : Hid (c.ofC x = ⟨3, c.d.classes[n].name⟩) := by
    show _ = _
    unfold Lkr.ofC Lkr.cls
    rw [hN, clsAt_eq hnl]
  obtain ⟨W1, hW1, hB1, hs1, hr1⟩ := boxes1 w #[.int .i64 0, .string ⟨#[]⟩] 40
  have hl1 := hl.below (hB1.mono hl.bw)
  have h1' := h.up hB1
  have hC := hl1.kd.lk.C
  obtain ⟨aC, cC, eC, -⟩ := hl1.kd.lk.C
  rw [eC] at hC
  obtain ⟨bC, oC, vf, vm, e9, hbC, k0, -⟩ := hC.atC n hnl
  subst e9
  have q0 := cell_of h1'.blk 0 (x := .pointer (some ⟨P, 0, none⟩)) rfl
  have q3 : W1.cell? ⟨Q, 3, none⟩ = some (.int .i64 (n : Int)) := by rw [← hn]; exact cell_of h1'.blk 3 rfl
  have p0 : W1.cell? ⟨P, 0, none⟩ = some (.slice (some ⟨bC, oC, none⟩) c.d.classes.length cC) := by rw [← eC]; exact cell_of hl1.blk 0 rfl
  have lQ : Q < w.heap.size := lt_of h.blk
  have lP : P < w.heap.size := lt_of hl.blk
  have lC : bC < w.heap.size := by
    have hC0 := hl.kd.lk.C
    rw [eC] at hC0
    obtain ⟨_, _, _, _, e, hb, _⟩ := hC0.atC n hnl
    cases e
    exact hb
  have r0 := cell_of hr1 0 (x := .int .i64 0) rfl
  have r1 := cell_of hr1 1 (x := .string ⟨#[]⟩) rfl
  have HB1 := mkHid hB1
  have HR1 := mkHid hr1
  have HCN : Hid ((n : Int) < c.d.classes.length) := (by omega : (n : Int) < c.d.classes.length)
  have hcn := HCN.out
  have hn0 : (0 : Int) ≤ n := by omega
  have HOB : Hid (∀ W, Below W1.heap.size W1 W → Calls Tryz.prog 87 #[.string c.d.classes[n].name] W fun r w2 => r = .returned (kv ⟨3, c.d.classes[n].name⟩) ∧ Below w.heap.size W1 w2 ∧ w2.cell? ⟨w.heap.size, 0, none⟩ = some (.int .i64 0) ∧ w2.cell? ⟨w.heap.size, 1, none⟩ = some (.string ⟨#[]⟩) ∧ ∀ j, w2.frozen? ⟨w.heap.size, j, none⟩ = false) := fun W hW => (object_any W _).mono fun r w2 ⟨e, hb⟩ => by
    have hb2 : Below W1.heap.size W1 w2 := hW.trans (hb.mono hW.size)
    have hr2 := (hb2.block _ (lt_of hr1)).trans hr1
    exact ⟨e, hb2.mono hB1.size, cell_of hr2 0 rfl, cell_of hr2 1 rfl, frz_of hr2⟩
  generalize c.d.classes[n].name = nm at *
  clear hl h hl1 h1' hC eC hbC hr1 hB1 HCN h0 h1 hn
  go_enter Tryz.func179, Tryz.ntmps179
  go_wp2_with fail
  rw [← hW1]
  clear hW1 hs1
  go_region_held3 (fun W' => ∀ p : Addr, p.block < w.heap.size → W'.cell? p = W1.cell? p) (exact fun p hp => Below.cell (B := w.heap.size) (w := W1) (by repeat (first | assumption | exact Below.refl _ _ | refine Below.drew ?_ | refine Below.setCell ?_ (by simp) _ | refine Below.alloc ?_ (by first | omega | (simp <;> omega)) _)) hp) (first
    | (go_at_call 87; refine (HOB.out _ ((Below.refl _ _).drew)).mono ?_; rintro r w4 ⟨rfl, hb4, v0, v1, vf⟩))
  all_goals
    go_wp2_with fail
    exact bodyPost_ret (v := kv ⟨3, nm⟩) (by simp [results, Tryz.results179, go_sem, v0, v1]) rfl ⟨by rw [HR.out], ((HB1.out.trans hb4).setCell (Nat.le_refl _) _).setCell (Nat.le_refl _) _⟩
abbrev mv9 (m : MethD) (va vh : Value) : Value := .agg #[.string m.name, .bool m.static, va, .int .i64 m.ret.kind, .string m.ret.cls, .int .i64 m.stack, .int .i64 m.locals, .string m.code, vh]
theorem nine (wz : World) (P : Nat) (v0 v1 v2 v3 v4 v5 v6 v7 v8 : Value) {B : Nat} {a : World} (h : Below B a wz) (hP : B ≤ P) : Below B a (((((((((wz.setCell ⟨P, 0, none⟩ v0).setCell ⟨P, 1, none⟩ v1).setCell ⟨P, 2, none⟩ v2).setCell ⟨P, 3, none⟩ v3).setCell ⟨P, 4, none⟩ v4).setCell ⟨P, 5, none⟩ v5).setCell ⟨P, 6, none⟩ v6).setCell ⟨P, 7, none⟩ v7).setCell ⟨P, 8, none⟩ v8) :=
  ((((((((h.setCell hP _).setCell hP _).setCell hP _).setCell hP _).setCell hP _).setCell hP _).setCell hP _).setCell hP _).setCell hP _
theorem told_is {c : Lkr} {x : Cd.Op4} {n k : Nat} (hn : n < c.d.classes.length) (hk : k < c.d.classes[n].meths.length) (hN : x.a.toNat = n) (hK : x.b.toNat = k) : c.told x = c.d.classes[n].meths[k] := by
  unfold Lkr.told Lkr.cls
  rw [hN, hK, clsAt_eq hn, List.getElem?_eq_getElem hk]
  rfl
set_option maxRecDepth 100000 in
set_option maxHeartbeats 4000000 in
theorem told_any {c : Lkr} {B F P Q : Nat} {x : Cd.Op4} {v : LkV} (w : World) {vL vS : Value} {lo st : List KindD} (hl : LkW c B P v w) (h : Sp c F P Q x w vL vS lo st) (h0 : 0 ≤ x.a) (h1 : x.a < c.d.classes.length) (h2 : 0 ≤ x.b) (h3 : x.b < (c.cls x).meths.length) :
    Calls Tryz.prog 140 #[.pointer (some ⟨Q, 0, none⟩)] w fun r w' => Below w.heap.size w w' ∧ ∃ va vh, r = .returned (mv9 (c.told x) va vh) ∧ SL 2 RK (· < B) w' va (c.told x).args ∧ (c.told x).ret.cls.size ≤ maxLen ∧ ∃ z : Option Addr × Nat × Nat, vh = .slice z.1 z.2.1 z.2.2 := by
  obtain ⟨n, hn, hnl, hN⟩ := Cd_nat h0 h1
  have hcl : c.cls x = c.d.classes[n] := by unfold Lkr.cls; rw [hN, clsAt_eq hnl]
  rw [hcl] at h3
  obtain ⟨k, hk, hkl, hK⟩ := Cd_nat h2 h3
  have hT := told_is hnl hkl hN hK
  rw [hT]
  obtain ⟨W1, hW1, hB1, hs1, hr1⟩ := boxes1 w #[.string ⟨#[]⟩, .bool false, .slice none 0 0, .int .i64 0, .string ⟨#[]⟩, .int .i64 0, .int .i64 0, .string ⟨#[]⟩, .slice none 0 0] 43
  have hl1 := hl.below (hB1.mono hl.bw)
  have h1' := h.up hB1
  have hC := hl.kd.lk.C
  obtain ⟨aC, cC, eC, -⟩ := hl.kd.lk.C
  rw [eC] at hC
  obtain ⟨bC, oC, vf, vm, e9, hbC, -, -, -, k3, -, hM, -, -⟩ := hC.atC n hnl
  subst e9
  have hM0 := hM
  obtain ⟨aM, cM, rfl, -, hlM, -⟩ := hM0
  obtain ⟨bM, oM, va, vh, e9, hbM, m0, m1, m2, m3, m4, m5, m6, m7, m8, hva, hvh, -, hsz, -⟩ := hM.atM k hkl
  subst e9
  have hva' := hva
  have hvh' := hvh
  obtain ⟨aa, ca, rfl, -⟩ := hva'
  obtain ⟨ah, ch, rfl, -⟩ := hvh'
  have up : ∀ b o, b < w.heap.size → W1.cell? ⟨b, o, none⟩ = w.cell? ⟨b, o, none⟩ := fun b o hb => hB1.cell (p := ⟨b, o, none⟩) hb
  replace k3 := (up _ _ hbC).trans k3
  replace m0 := (up _ _ hbM).trans m0
  replace m1 := (up _ _ hbM).trans m1
  replace m2 := (up _ _ hbM).trans m2
  replace m3 := (up _ _ hbM).trans m3
  replace m4 := (up _ _ hbM).trans m4
  replace m5 := (up _ _ hbM).trans m5
  replace m6 := (up _ _ hbM).trans m6
  replace m7 := (up _ _ hbM).trans m7
  replace m8 := (up _ _ hbM).trans m8
  have q0 := cell_of h1'.blk 0 (x := .pointer (some ⟨P, 0, none⟩)) rfl
  have q3 : W1.cell? ⟨Q, 3, none⟩ = some (.int .i64 (n : Int)) := by rw [← hn]; exact cell_of h1'.blk 3 rfl
  have q4 : W1.cell? ⟨Q, 4, none⟩ = some (.int .i64 (k : Int)) := by rw [← hk]; exact cell_of h1'.blk 4 rfl
  have p0 : W1.cell? ⟨P, 0, none⟩ = some (.slice (some ⟨bC, oC, none⟩) c.d.classes.length cC) := by rw [← eC]; exact cell_of hl1.blk 0 rfl
  have lQ : Q < w.heap.size := lt_of h.blk
  have lP : P < w.heap.size := lt_of hl.blk
  have r0 := cell_of hr1 0 (x := .string ⟨#[]⟩) rfl
  have r1 := cell_of hr1 1 (x := .bool false) rfl
  have r2 := cell_of hr1 2 (x := .slice none 0 0) rfl
  have r3 := cell_of hr1 3 (x := .int .i64 0) rfl
  have r4 := cell_of hr1 4 (x := .string ⟨#[]⟩) rfl
  have r5 := cell_of hr1 5 (x := .int .i64 0) rfl
  have r6 := cell_of hr1 6 (x := .int .i64 0) rfl
  have r7 := cell_of hr1 7 (x := .string ⟨#[]⟩) rfl
  have r8 := cell_of hr1 8 (x := .slice none 0 0) rfl
  have rf := frz_of hr1
  have HB1 := mkHid hB1
  have HVA : Hid (∀ w', Below w.heap.size w w' → SL 2 RK (· < B) w' (.slice aa c.d.classes[n].meths[k].args.length ca) c.d.classes[n].meths[k].args) := fun w' hb => hva.keptK (Kp.below (hb.mono hl.bw))
  have HSZ := mkHid hsz
  have hcn : (n : Int) < c.d.classes.length := by omega
  have hn0 : (0 : Int) ≤ n := by omega
  have hck : (k : Int) < c.d.classes[n].meths.length := by omega
  have hk0 : (0 : Int) ≤ k := by omega
  unfold maxLen at hlM
  generalize c.d.classes[n].meths[k] = mm at *
  generalize c.d.classes[n].meths.length = lm at *
  clear hl h hl1 h1' hC eC hr1 hB1 h0 h1 hn hcl h2 h3 hk hM hva hvh hT up hsz
  go_enter Tryz.func140, Tryz.ntmps140
  go_wp2_with fail
  rw [← hW1]
  clear hW1 hs1
  refine wp_region_held_drew (S := fun W' => ∀ p : Addr, p.block < w.heap.size → W'.cell? p = W1.cell? p) (by kernel_rfl) (fun p hp => rfl) fun hH => ?_
  refine ta 0 (.pointer (some ⟨Q, 0, none⟩)) rfl hH ?_
  refine ta 1 (.pointer (some ⟨Q, 0, none⟩)) rfl hH ?_
  refine ta 2 (.pointer (some ⟨Q, 0, none⟩)) rfl hH ?_
  refine ta 3 (.pointer (some ⟨P, 0, none⟩)) rfl hH ?_
  refine ta 4 (.pointer (some ⟨P, 0, none⟩)) rfl hH ?_
  refine ta 5 (.pointer (some ⟨P, 0, none⟩)) rfl hH ?_
  refine ta 6 (.pointer (some ⟨P, 0, none⟩)) rfl hH ?_
  refine ta 7 (.pointer (some ⟨P, 0, none⟩)) rfl hH ?_
  refine ta 8 (.slice (some ⟨bC, oC, none⟩) c.d.classes.length cC) rfl hH ?_
  refine ta 9 (.pointer (some ⟨Q, 0, none⟩)) rfl hH ?_
  refine ta 10 (.pointer (some ⟨Q, 0, none⟩)) rfl hH ?_
  refine ta 11 (.pointer (some ⟨Q, 1, none⟩)) rfl hH ?_
  refine ta 12 (.pointer (some ⟨Q, 3, none⟩)) rfl hH ?_
  refine ta 13 (.int .i64 (n : Int)) rfl hH ?_
  refine ta 14 (.pointer (some ⟨bC, oC + n * 4, none⟩)) rfl hH ?_
  refine ta 15 (.pointer (some ⟨bC, oC + n * 4 + 3, none⟩)) rfl hH ?_
  refine ta 16 (.slice (some ⟨bM, oM, none⟩) lm cM) rfl hH ?_
  refine ta 17 (.pointer (some ⟨Q, 0, none⟩)) rfl hH ?_
  refine ta 18 (.pointer (some ⟨Q, 0, none⟩)) rfl hH ?_
  refine ta 19 (.pointer (some ⟨Q, 1, none⟩)) rfl hH ?_
  refine ta 20 (.pointer (some ⟨Q, 4, none⟩)) rfl hH ?_
  refine ta 21 (.int .i64 (k : Int)) rfl hH ?_
  refine ta 22 (.pointer (some ⟨bM, oM + k * 9, none⟩)) rfl hH ?_
  refine ta 23 (.agg #[.string mm.name, .bool mm.static, .slice aa mm.args.length ca, .int .i64 mm.ret.kind, .string mm.ret.cls, .int .i64 mm.stack, .int .i64 mm.locals, .string mm.code, .slice ah mm.hands.length ch]) rfl hH ?_
  refine wpAnyH_ready (rs := [24]) (by kernel_rfl) (by simp) ?_
  refine AllReadyH.cons rfl (fun K24 hK24 => ?_) AllReadyH.nil
  go_simp
  refine hK24.out _ _ (fun p hp => Below.cell (B := w.heap.size) (w := W1) ((nine W1 w.heap.size (.string mm.name) (.bool mm.static) (.slice aa mm.args.length ca) (.int .i64 mm.ret.kind) (.string mm.ret.cls) (.int .i64 mm.stack) (.int .i64 mm.locals) (.string mm.code) (.slice ah mm.hands.length ch) (Below.refl w.heap.size W1) (Nat.le_refl _)).drew) hp) fun hH => ?_
  refine wpAnyH_done (by kernel_rfl) ?_ _
  clear hH
  try simp only [Act.put, List.setIfInBounds_toArray, List.set_cons_zero, List.set_cons_succ, List.getElem_toArray, List.getElem_cons_zero, List.getElem_cons_succ]
  go_wp2_with fail
  have hb9 := (nine W1 w.heap.size (.string mm.name) (.bool mm.static) (.slice aa mm.args.length ca) (.int .i64 mm.ret.kind) (.string mm.ret.cls) (.int .i64 mm.stack) (.int .i64 mm.locals) (.string mm.code) (.slice ah mm.hands.length ch) HB1.out (Nat.le_refl _)).drew
  exact bodyPost_ret (v := mv9 mm (.slice aa mm.args.length ca) (.slice ah mm.hands.length ch)) (by simp [results, Tryz.results140, go_sem, r0, r1, r2, r3, r4, r5, r6, r7, r8]) rfl ⟨hb9, _, _, rfl, HVA.out _ hb9, HSZ.out, ⟨_, _, _⟩, rfl⟩
end Go.Proofs.YtfibgdcpbkaaoaaGreatDoor
