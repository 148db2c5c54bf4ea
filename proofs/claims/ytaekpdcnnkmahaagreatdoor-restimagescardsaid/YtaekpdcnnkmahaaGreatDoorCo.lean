/- The contract of the document's own reading of an image. -/
import Derived.Test.YtaekpdcnnkmahaaGreatDoorJScSc3
import Derived.Test.YtaekpdcnnkmahaaGreatDoorJRdClassRead
import Derived.Test.YtaekpdcnnkmahaaGreatDoorRefClass
import Derived.Deep.RegionLaw
import Derived.Deep.AppendLies
namespace Go.Proofs.YtaekpdcnnkmahaaGreatDoor
set_option maxRecDepth 100000
open Go.RowKit

theorem keepBlk {w w' : World} {X C : Nat} {o : Obj} (h : w.heap[C]? = some o) (hg : w.grownBy w' (some X)) (hne : C ≠ X) : w'.heap[C]? = some o := (hg.block C (blk_ltR h) (by simp; omega)).trans h
theorem frz {W : World} {X t : Nat} {c : Array Value} (h : W.heap[X]? = some (.cells c t (0, 0))) (j : Nat) : W.frozen? ⟨X, j, none⟩ = false := by simp [World.frozen?, h]
theorem newBlk (w : World) (o : Obj) : (w.alloc o).heap[w.heap.size]? = some o := by
  show (w.heap.push o)[w.heap.size]? = _
  exact Array.getElem?_push_size
theorem setBlk {W : World} {X k j : Nat} {o : Obj} (h : W.heap[X]? = some o) (hne : X ≠ k) (v : Value) : (W.setCell ⟨k, j, none⟩ v).heap[X]? = some o := (Below.heap_setCell _ _ _ _ hne).trans h
theorem Sc.drew {w : World} {X : Nat} {s : ByteArray} {p : Nat} {b : Bool} (h : Sc w X s p b) : Sc w.drew X s p b := ⟨h.text, h.at_, h.bad, h.fz1, h.fz2⟩
theorem step_append_own {P : Program} {ops : Array Oper} {o : Oper} {a : Act} {w : World} {K : Act → World → Prop} {Q : Exit → Act → World → Prop} {E : Prop} (hg : o.guard = none) (s x : Operand) (t : TypeId)
    (ho : o.op = .call { callee := .builtin .append, args := #[s, x], argTypes := #[t, t] })
    (base : Nat) (e : TypeId) (i : TypeInfo) (z : Value) (size bytes : Nat) (ht : P.underlying t = some (.slice e)) (hi : P.info? e = some i) (hz : i.zero = some z)
    (hsize : i.size = size) (hby : i.bytes = bytes) (hzs : z.cells.size = size) (hsz : 0 < size)
    (v : Value) (n : Nat) (xs : List Value) (hs : a.eval s = v) (hown : w.ownsRow base e size v n xs)
    (ad : Addr) (m c : Nat) (news : List Value) (hx : a.eval x = .slice (some ad) m c) (hl : news.length = m * size) (hnews : ∀ j u, news[j]? = some u → w.cell? (ad.add j) = some u) (h1 : ∀ u ∈ news, u.oneCell' = true)
    (h63 : n + m ≤ maxLen) (hbytes : (n + m) * bytes ≤ 140737488355328) (hbase : base ≤ w.heap.size)
    (h : ∀ v' w', w'.ownsRow base e size v' (n + m) (xs ++ news) → w.grownBy w' v.ownBlock → (v' = .slice none 0 0 ↔ v = .slice none 0 0 ∧ m = 0) → K (a.put o.dst v') w') : if Region.wanted o (yielded ops a.tmps) = true then Oper.wp P o a w K Q else E := by
  rw [if_pos (by simp [Region.wanted, hg])]
  exact wp_append_own w s x t ho base e i z size bytes ht hi hz hsize hby hzs hsz v n xs hs hown ad m c news hx hl hnews h1 h63 hbytes hbase h
theorem many_more {α : Type} {f : Nat → Option (α × Nat)} {n p : Nat} : pMany f (n + 1) p = (f p).bind fun x => (pMany f n x.2).bind fun y => some (x.1 :: y.1, y.2) := rfl
theorem many_end {α : Type} {f : Nat → Option (α × Nat)} {p : Nat} {l : List α} : ((pMany f 0 p).bind fun y => some (l ++ y.1, y.2)) = some (l, p) := by simp [pMany]

set_option maxRecDepth 100000 in
set_option maxHeartbeats 40000000 in
theorem classesOf_go (w : World) (s : ByteArray) (hs : s.size ≤ 20000) :
    Calls Tryz.prog 7 #[.string s] w fun r w' => Below w.heap.size w w' ∧ ∃ v, r = .returned (.tuple #[v, .int .i64 (readRes s).2]) ∧ SL 4 RC (· < w'.heap.size) w' v (readRes s).1 := by
  obtain ⟨iF, hiF, hzF0, hzF1, hzF2⟩ := info_parts Tryz.infoField
  obtain ⟨iK, hiK, hzK0, hzK1, hzK2⟩ := info_parts Tryz.infoKind
  obtain ⟨iC, hiC, hzC0, hzC1, hzC2⟩ := info_parts Tryz.infoClass
  obtain ⟨iH, hiH, hzH0, hzH1, hzH2⟩ := info_parts Tryz.infoHandler
  obtain ⟨iM, hiM, hzM0, hzM1, hzM2⟩ := info_parts Tryz.infoMethod
  have hs' : ¬ (20000 : Int) < s.size := by omega
  have hns : ¬ 20000 < s.size := by omega
  go_enter Tryz.func7, Tryz.ntmps7
  go_wp2_with fail
  have hB0 := (Below.refl w.heap.size w).alloc (Nat.le_refl _) (.cells #[.string s, .int .i64 0, .bool false] 69)
  have hsc0 : Sc (w.alloc (.cells #[.string s, .int .i64 0, .bool false] 69)) w.heap.size s 0 false := ⟨by simp [go_sem], by simp [go_sem], by simp [go_sem], by simp [go_sem], by simp [go_sem]⟩
  refine (count_s _ w.heap.size s 0 false hsc0 (Nat.zero_le _) hs).mono ?_
  rintro r w0 ⟨N, p0, b0, rfl, hN, ho0⟩
  have hBw : Below w.heap.size w w0 := below_of_grown hB0 ho0.grown (Nat.le_refl _)
  have hst := res_step (P := pCounted s (pClass s) 0) (Q := pCount s 0) (K := fun x => pMany (pClass s) x.1 x.2) (b := false) (b' := b0) (x := (N, p0)) (fun _ => rfl) (fun h => by cases h) ho0.good ho0.wrong
  have HG0 := mkHid hst.1
  have HW0 := mkHid hst.2
  have hsc := ho0.sc
  have hp0 := ho0.le
  clear hst ho0 hsc0 hB0
  generalize hXX : w.heap.size = X at *
  have hXlt := hsc.lt
  go_wp2_with fail
  go_loopw [5, 7] (fun v i wr => ∃ (k : Nat) (zs : List (List Value × ClassD)) (p : Nat) (b : Bool), k ≤ N ∧ i = .int .i64 k ∧ zs.length = k ∧ wr.ownsRow (X + 1) 61 4 v zs.length (zs.flatMap (·.1)) ∧ Hid (∀ z ∈ zs, z.1.length = 4 ∧ RC (MT (X + 1) [51, 79, 76, 53] wr) wr z.1 z.2) ∧ Sc wr X s p b ∧ p ≤ s.size ∧
    Hid (b = false → pCounted s (pClass s) 0 = (pMany (pClass s) (N - k) p).bind fun y => some (zs.map (·.2) ++ y.1, y.2)) ∧ Hid (b = true → pCounted s (pClass s) 0 = none) ∧ Below X w wr) (fun _ i _ => N - (intOf i).toNat)
  case atStart => exact ⟨0, [], p0, b0, Nat.zero_le _, rfl, rfl, World.ownsRow_nil _ _ _ _, (fun z hz => by cases hz), hsc, hp0, (fun h => by rw [HG0.out h]; exact pMany_start _ _ _), HW0.out, hBw⟩
  case round =>
    obtain ⟨k, zs, p, b, hk, rfl, hzl, hown, HZ, hscr, hp, HG, HW, hBr⟩ := hrel
    clear hsc hp0 HG0 HW0
    have hbad := hscr.bad
    have hatc := hscr.at_
    have hXr := hscr.lt
    go_upto_region 7 with fail
    go_cut [36] (fun c W => c = .bool (decide (k < N) && !b) ∧ W = wr)
    case first =>
      by_cases hlt : k < N
      · cases b
        · go_wp2_with fail
          go_meet
          exact ⟨by simp [hlt], rfl⟩
        · go_wp2_with fail
          go_meet
          exact ⟨by simp, rfl⟩
      · go_wp2_with fail
        go_meet
        exact ⟨by simp [hlt], rfl⟩
    case rest =>
      obtain ⟨rfl, rfl⟩ := hcut
      by_cases hgo : (decide (k < N) && !b) = true
      rotate_left
      · have hgo' : (decide (k < N) && !b) = false := by simpa using hgo
        have HOW := mkHid hown
        have HSL := mkHid (own_SL (R := RC) (T := [51, 79, 76, 53, 61]) hown (fun z hz => ⟨(HZ.out z hz).1, (HZ.out z hz).2.mono fun _ hk => hk.more (Nat.le_refl _) (by decide)⟩) (by decide) (by unfold maxLen; omega))
        have ho2 := hown.2
        have HZL := mkHid hzl
        clear hown hgo hzl
        rw [hgo']
        cases hb : b
        rotate_left
        · subst hb
          have HR := mkHid (readRes_none hns (show pImage s = none by rw [pImage, HW.out rfl]; rfl))
          clear HW HG hgo' ho2
          go_wp2_with fail
          go_ret2
          exact ⟨by rw [hXX]; exact hBr, _, by rw [HR.out]; rfl, by rw [HR.out]; exact SL_nil⟩
        subst hb
        have hkN : k = N := by simp at hgo'; omega
        have HPC := mkHid (show pCounted s (pClass s) 0 = some (zs.map (·.2), p) by rw [HG.out rfl, hkN, Nat.sub_self]; exact many_end)
        clear hgo' HG HW
        by_cases hps : p = s.size
        rotate_left
        · have hps' : ((p : Int) != (s.size : Int)) = true := by rw [bne_iff_ne]; omega
          have HR := mkHid (readRes_none hns (show pImage s = none by rw [pImage, HPC.out]; simp only [Option.bind_some]; rw [if_neg hps]))
          clear ho2 hps
          go_wp2_with fail
          go_ret2
          exact ⟨by rw [hXX]; exact hBr, _, by rw [HR.out]; rfl, by rw [HR.out]; exact SL_nil⟩
        have hps' : ((p : Int) != (s.size : Int)) = false := by rw [hps]; simp
        have HPI := mkHid (show pImage s = some (zs.map (·.2)) by rw [pImage, HPC.out]; simp only [Option.bind_some]; rw [if_pos hps])
        have hll : (zs.map (·.2)).length = zs.length := by simp
        have SLA := mkHid (SL.all HSL.out (fun _ hk => hk.lt))
        clear hps
        rcases ho2 with ⟨rfl, hn0⟩ | ⟨g, cap, cur, rfl, hrest⟩
        all_goals
          try clear hrest
          try clear hn0
          go_wp2_with fail
          refine (checkClassesOf_any _ wc.heap.size (zs.map (·.2)) _ SLA.out (Nat.le_refl _)).mono ?_
          rintro r w2 ⟨rfl, hb2⟩
          have hBB := hBr.trans (hb2.mono (by have := hBr.size; omega))
          by_cases hc : checkL (zs.map (·.2)) = 0
          · have hc' : (checkL (zs.map (·.2)) != 0) = false := by rw [hc]; rfl
            have HR := mkHid (readRes_ok hns HPI.out hc)
            have SL2 := mkHid ((SLA.out.keptC (Kp.below hb2)).monoC (M' := (· < w2.heap.size)) fun _ hk => Nat.lt_of_lt_of_le hk hb2.size)
            clear hc
            go_wp2_with fail
            go_ret2
            exact ⟨by rw [hXX]; exact hBB, _, by rw [HR.out]; rfl, by rw [HR.out]; exact SL2.out⟩
          · have hc' : (checkL (zs.map (·.2)) != 0) = true := by rw [bne_iff_ne]; exact hc
            have HR := mkHid (readRes_bad hns HPI.out hc)
            clear hc
            go_wp2_with fail
            go_ret2
            exact ⟨by rw [hXX]; exact hBB, _, by rw [HR.out]; rfl, by rw [HR.out]; exact SL_nil⟩
      have hlt : k < N := by simp at hgo; exact hgo.1
      have hbf : b = false := by simp at hgo; exact hgo.2
      subst hbf
      rw [hgo]
      clear hgo
      go_wp2_with fail
      refine (text_s _ X s p false hscr hp hs).mono ?_
      rintro r w1 ⟨t1, p1, b1, rfl, ht1, ho1⟩
      have hst := res_step (P := pClass s p) (Q := pText s p) (K := fun a => (pText s a.2).bind fun b => (pCounted s (pField s) b.2).bind fun c => (pCounted s (pMeth s) c.2).bind fun d => some ((⟨a.1, b.1, c.1, d.1⟩ : ClassD), d.2)) (b := false) (fun _ => rfl) (fun h => by cases h) ho1.good ho1.wrong
      have G1 := mkHid hst.1
      have V1 := mkHid hst.2
      clear hst
      have hg1 := ho1.grown
      have hX1 := ho1.sc.lt
      go_wp2_with fail
      refine (text_s _ X s p1 b1 (ho1.sc.alloc _) ho1.le hs).mono ?_
      rintro r w2 ⟨t2, p2, b2, rfl, ht2, ho2⟩
      have hst := res_step (P := pClass s p) (Q := pText s p1) (K := fun b => (pCounted s (pField s) b.2).bind fun c => (pCounted s (pMeth s) c.2).bind fun d => some ((⟨t1, b.1, c.1, d.1⟩ : ClassD), d.2)) G1.out V1.out ho2.good ho2.wrong
      have G2 := mkHid hst.1
      have V2 := mkHid hst.2
      have eC2 := keepBlk (newBlk w1 (.cells #[.string t1, .string ⟨#[]⟩, .slice none 0 0, .slice none 0 0] 61)) ho2.grown (by omega)
      have cl2 := blk_ltR eC2
      have c1 := cell_ofR eC2 1 (x := .string ⟨#[]⟩) rfl
      have f1 := frz eC2 1
      have eC3 := heap_set_own (j := 1) eC2 (.string t2)
      have hg2 : wc.grownBy (w2.setCell ⟨w1.heap.size, 1, none⟩ (.string t2)) (some X) := grown_set (grown_trans hg1 (grown_trans (grown_alloc (World.grownBy.refl _ _) _) ho2.grown)) _ _ (Or.inr hg1.size)
      have hsc2 : Sc (w2.setCell ⟨w1.heap.size, 1, none⟩ (.string t2)) X s p2 b2 := ho2.sc.setOther _ _ (by simp; omega)
      have hp2 := ho2.le
      have HH := mkHid (And.intro eC3 (And.intro hg2 hsc2))
      clear hst G1 V1 ho1 ho2 eC2 eC3 hg2 hsc2
      go_wp2_with fail
      obtain ⟨eC, hgc, hsc2⟩ := HH.out
      generalize w2.setCell ⟨w1.heap.size, 1, none⟩ (.string t2) = W2 at *
      have hCr : wc.heap.size ≤ w1.heap.size := hg1.size
      have hCX : w1.heap.size ≠ X := by omega
      clear c1 f1 cl2 hg1
      generalize w1.heap.size = C at *
      clear HH
      refine (count_s _ X s p2 b2 hsc2 hp2 hs).mono ?_
      rintro r w3 ⟨m, p3, b3, rfl, hm, ho3⟩
      have hst := res_step (P := pClass s p) (Q := pCount s p2) (K := fun x => (pMany (pField s) x.1 x.2).bind fun c => (pCounted s (pMeth s) c.2).bind fun d => some ((⟨t1, t2, c.1, d.1⟩ : ClassD), d.2)) (b := b2) (fun h => by rw [G2.out h, pCounted, Option.bind_assoc]) V2.out ho3.good ho3.wrong
      have G3 := mkHid hst.1
      have V3 := mkHid hst.2
      have HE3 := mkHid (keepBlk eC ho3.grown hCX)
      have HG3 := mkHid (grown_trans hgc ho3.grown)
      have HS3 := mkHid ho3.sc
      have hp3 := ho3.le
      clear hst G2 V2 ho3 eC hgc hsc2
      go_wp2_with fail
      go_loopw [10] (fun i wi => ∃ (j : Nat) (fs : List (List Value × FieldD)) (q : Nat) (bb : Bool) (vF : Value), j ≤ m ∧ i = .int .i64 j ∧ fs.length = j ∧ Hid (wi.heap[C]? = some (.cells #[.string t1, .string t2, vF, .slice none 0 0] 61 (0, 0))) ∧ wi.ownsRow (C + 1) 53 3 vF fs.length (fs.flatMap (·.1)) ∧
        Hid (∀ z ∈ fs, z.1.length = 3 ∧ RF (fun _ => True) w z.1 z.2) ∧ Sc wi X s q bb ∧ q ≤ s.size ∧ Hid (bb = false → pClass s p = ((pMany (pField s) (m - j) q).bind fun y => some (fs.map (·.2) ++ y.1, y.2)).bind fun c => (pCounted s (pMeth s) c.2).bind fun d => some ((⟨t1, t2, c.1, d.1⟩ : ClassD), d.2)) ∧ Hid (bb = true → pClass s p = none) ∧ wc.grownBy wi (some X)) (fun i _ => m - (intOf i).toNat)
      case atStart => exact ⟨0, [], p3, b3, .slice none 0 0, Nat.zero_le _, rfl, rfl, HE3.out, World.ownsRow_nil _ _ _ _, (fun z hz => by cases hz), HS3.out, hp3, (fun h => by rw [G3.out h]; exact congrArg (fun r => Option.bind r _) (pMany_start _ _ _)), V3.out, HG3.out⟩
      case round =>
        rename World => wi
        obtain ⟨j, fs, q, bb, vF, hj, rfl, hfl, HE, hownF, HF, hsci, hq, HGF, HVF, hgi⟩ := hrel
        clear HE3 HG3 HS3 G3 V3 hp3
        have hbadi := hsci.bad
        have hXi := hsci.lt
        go_upto_region 13 with fail
        go_cut [56] (fun c W => c = .bool (decide (j < m) && !bb) ∧ W = wi)
        case first =>
          by_cases hlt2 : j < m
          · cases bb
            · go_wp2_with fail
              go_meet
              exact ⟨by simp [hlt2], rfl⟩
            · go_wp2_with fail
              go_meet
              exact ⟨by simp, rfl⟩
          · go_wp2_with fail
            go_meet
            exact ⟨by simp [hlt2], rfl⟩
        case rest =>
          rename World => wi
          obtain ⟨rfl, rfl⟩ := hcut
          have hCi : C < wi.heap.size := blk_ltR HE.out
          by_cases hgo2 : (decide (j < m) && !bb) = true
          rotate_left
          · have hgo3 : (decide (j < m) && !bb) = false := by simpa using hgo2
            have G6 : Hid (bb = false → pClass s p = (pCounted s (pMeth s) q).bind fun d => some ((⟨t1, t2, fs.map (·.2), d.1⟩ : ClassD), d.2)) := fun h => by
              have hjm : j = m := by simp [h] at hgo3; omega
              rw [HGF.out h, hjm, Nat.sub_self, many_end]
              rfl
            have SF0 : Hid (SL 3 RF (MT (X + 1) [53] wi) wi vF (fs.map (·.2))) := (own_SL (R := RF) (T := [53]) hownF (fun z hz => ⟨(HF.out z hz).1, (HF.out z hz).2⟩) (by decide) (by unfold maxLen; omega)).monoF fun _ hk => hk.more (by omega) (fun _ ht => ht)
            generalize fs.map (·.2) = fl at *
            have sf := SF0.out
            obtain ⟨aF, cF, rfl, -⟩ := sf
            clear hownF HF HGF hgo2 hfl
            rw [hgo3]
            clear hgo3
            go_wp2_with fail
            refine (count_s _ X s q bb hsci hq hs).mono ?_
            rintro r u1 ⟨m2, q1, b6, rfl, hm2, o6⟩
            have hst := res_step (P := pClass s p) (Q := pCount s q) (K := fun x => (pMany (pMeth s) x.1 x.2).bind (fun d => some ((⟨t1, t2, fl, d.1⟩ : ClassD), d.2))) (b := bb) (fun h => by rw [G6.out h, pCounted, Option.bind_assoc]) HVF.out o6.good o6.wrong
            have G7 := mkHid hst.1
            have V7 := mkHid hst.2
            have HE7 := mkHid (keepBlk HE.out o6.grown hCX)
            have HG7 := mkHid (grown_trans hgi o6.grown)
            have SF7 := mkHid (SF0.out.stpF (Stp.grown o6.grown (by omega)))
            have HS7 := mkHid o6.sc
            have hq7 := o6.le
            clear hst G6 SF0 HVF o6 hsci hbadi HE hgi hq
            go_wp2_with fail
            go_loopw [12] (fun i wm => ∃ (j : Nat) (ms : List (List Value × MethD)) (q : Nat) (bb : Bool) (vM : Value), j ≤ m2 ∧ i = .int .i64 j ∧ ms.length = j ∧ Hid (wm.heap[C]? = some (.cells #[.string t1, .string t2, .slice aF fl.length cF, vM] 61 (0, 0))) ∧ wm.ownsRow (C + 1) 76 9 vM ms.length (ms.flatMap (·.1)) ∧
              Hid (∀ z ∈ ms, z.1.length = 9 ∧ RM (MT (X + 1) [51, 79] wm) wm z.1 z.2) ∧ Hid (SL 3 RF (MT (X + 1) [53] wm) wm (.slice aF fl.length cF) fl) ∧ Sc wm X s q bb ∧ q ≤ s.size ∧ Hid (bb = false → pClass s p = ((pMany (pMeth s) (m2 - j) q).bind fun y => some (ms.map (·.2) ++ y.1, y.2)).bind (fun d => some ((⟨t1, t2, fl, d.1⟩ : ClassD), d.2))) ∧ Hid (bb = true → pClass s p = none) ∧ wc.grownBy wm (some X)) (fun i _ => m2 - (intOf i).toNat)
            case atStart => exact ⟨0, [], q1, b6, .slice none 0 0, Nat.zero_le _, rfl, rfl, HE7.out, World.ownsRow_nil _ _ _ _, (fun z hz => by cases hz), SF7.out, HS7.out, hq7, (fun h => by rw [G7.out h]; exact congrArg (fun r => Option.bind r _) (pMany_start _ _ _)), V7.out, HG7.out⟩
            case round =>
              rename World => wm
              obtain ⟨jm, ms, q, bm, vM, hjm, rfl, hml, HEm, hownM, HMS, SFm, hscm, hqm, HGM, HVM, hgm⟩ := hrel
              clear HE7 HG7 HS7 G7 V7 hq7 SF7
              have hbadm := hscm.bad
              have hXm := hscm.lt
              go_upto_region 20 with fail
              go_cut [82] (fun c W => c = .bool (decide (jm < m2) && !bm) ∧ W = wm)
              case first =>
                by_cases hlt3 : jm < m2
                · cases bm
                  · go_wp2_with fail
                    go_meet
                    exact ⟨by simp [hlt3], rfl⟩
                  · go_wp2_with fail
                    go_meet
                    exact ⟨by simp, rfl⟩
                · go_wp2_with fail
                  go_meet
                  exact ⟨by simp [hlt3], rfl⟩
              case rest =>
                rename World => wm
                obtain ⟨rfl, rfl⟩ := hcut
                have hCm : C < wm.heap.size := blk_ltR HEm.out
                by_cases hgo4 : (decide (jm < m2) && !bm) = true
                · have hlt3 : jm < m2 := by simp at hgo4; exact hgo4.1
                  have hbf3 : bm = false := by simp at hgo4; exact hgo4.2
                  subst hbf3
                  rw [hgo4]
                  clear hgo4
                  obtain ⟨j', hj'⟩ : ∃ j', m2 - jm = j' + 1 := ⟨m2 - jm - 1, by omega⟩
                  obtain ⟨KT, hKT⟩ : ∃ KT : MethD × Nat → Option (ClassD × Nat), KT = fun x => (((pMany (pMeth s) j' x.2).bind fun y => some (x.1 :: y.1, y.2)).bind fun y => some (ms.map (·.2) ++ y.1, y.2)).bind (fun d => some ((⟨t1, t2, fl, d.1⟩ : ClassD), d.2)) := ⟨_, rfl⟩
                  have GA : Hid (pClass s p = (pMeth s q).bind KT) := by
                    show pClass s p = _
                    rw [HGM.out (by trivial), hj', many_more, hKT]
                    simp only [Option.bind_assoc]
                  have HKT := mkHid hKT
                  have HJ := mkHid hj'
                  clear hKT hj' HGM
                  go_wp2_with fail
                  refine (text_s _ X s q false hscm hqm hs).mono ?_
                  rintro r v1 ⟨tn, q1, b1, rfl, htn, o1⟩
                  have hst := res_step (P := pClass s p) (Q := pText s q) (K := fun a => (pFlag s a.2).bind fun b => (pCounted s (pKind s) b.2).bind fun c => (pKind s c.2).bind fun d => (pCount s d.2).bind fun e => (pCount s e.2).bind fun f => (pNumber s f.2).bind fun g => (pBytes s g.1 g.2).bind fun h => (pCounted s (pHand s) h.2).bind fun i => KT ((⟨a.1, b.1, c.1, d.1, e.1, f.1, h.1, i.1⟩ : MethD), i.2)) (b := false) (fun _ => by rw [GA.out, pMeth]; simp only [Option.bind_assoc, Option.bind_some]) (fun h => by cases h) o1.good o1.wrong
                  have GB := mkHid hst.1
                  have VB := mkHid hst.2
                  clear hst GA
                  have hMw := o1.grown.size
                  have hv1 := o1.sc.lt
                  go_wp2_with fail
                  refine (count_s _ X s q1 b1 (o1.sc.alloc _) o1.le hs).mono ?_
                  rintro r v2 ⟨n2, q2, b2, rfl, hn2, o2⟩
                  have eM2 := keepBlk (newBlk v1 (.cells #[.string tn, .bool false, .slice none 0 0, .int .i64 0, .string ⟨#[]⟩, .int .i64 0, .int .i64 0, .string ⟨#[]⟩, .slice none 0 0] 76)) o2.grown (by omega)
                  have hg2 : wm.grownBy v2 (some X) := grown_trans o1.grown (grown_trans (grown_alloc (World.grownBy.refl _ _) _) o2.grown)
                  have hfg : (b2 || decide ((1 : Int) < n2)) = false → b1 = false ∧ pFlag s q1 = some (decide (n2 = 1), q2) := fun h => by
                    simp only [Bool.or_eq_false_iff, decide_eq_false_iff_not] at h
                    obtain ⟨h1, h2⟩ := o2.good h.1
                    exact ⟨h1, by rw [pFlag, h2]; simp only [Option.bind_some]; rw [if_pos (by omega)]⟩
                  have hfw : (b2 || decide ((1 : Int) < n2)) = true → b1 = true ∨ pFlag s q1 = none := fun h => by
                    cases hb2 : b2
                    · obtain ⟨_, h2⟩ := o2.good hb2
                      rw [hb2] at h
                      simp only [Bool.false_or, decide_eq_true_eq] at h
                      exact Or.inr (by rw [pFlag, h2]; simp only [Option.bind_some]; rw [if_neg (by omega)])
                    · rcases o2.wrong hb2 with h2 | h2
                      · exact Or.inl h2
                      · exact Or.inr (by rw [pFlag, h2]; rfl)
                  have hst := res_step (P := pClass s p) (Q := pFlag s q1) (K := fun b => (pCounted s (pKind s) b.2).bind fun c => (pKind s c.2).bind fun d => (pCount s d.2).bind fun e => (pCount s e.2).bind fun f => (pNumber s f.2).bind fun g => (pBytes s g.1 g.2).bind fun h => (pCounted s (pHand s) h.2).bind fun i => KT ((⟨tn, b.1, c.1, d.1, e.1, f.1, h.1, i.1⟩ : MethD), i.2)) GB.out VB.out hfg hfw
                  have GC := mkHid hst.1
                  have VC := mkHid hst.2
                  have x0 := o2.sc.bad
                  have xz := o2.sc.fz2
                  have hXv := o2.sc.lt
                  have HS2 := mkHid o2.sc
                  have hq2 := o2.le
                  have HM2 := mkHid (And.intro eM2 hg2)
                  clear hst GB VB hfg hfw o1 o2 eM2 hg2
                  go_upto_region 24 with fail
                  go_cut [] (fun W => W = v2.setCell ⟨X, 2, none⟩ (.bool (b2 || decide ((1 : Int) < n2))))
                  case first =>
                    cases b2
                    · go_wp2_with fail
                      go_meet
                      rfl
                    · go_wp2_with fail
                      go_meet
                      rfl
                  case rest =>
                    have hfl : ((n2 : Int) == 1) = decide (n2 = 1) := by rw [Bool.eq_iff_iff]; simp; omega
                    obtain ⟨eM2, hg2⟩ := HM2.out
                    have eM3 := setBlk eM2 (k := X) (by omega) (j := 2) (.bool (b2 || decide ((1 : Int) < n2)))
                    have hsc3 := HS2.out.setBad (b2 || decide ((1 : Int) < n2))
                    have hg3 : wm.grownBy (v2.setCell ⟨X, 2, none⟩ (.bool (b2 || decide ((1 : Int) < n2)))) (some X) := grown_set hg2 _ _ (Or.inl rfl)
                    rw [← hcut] at eM3 hsc3 hg3
                    clear hcut eM2 hg2 HM2 HS2 x0 xz hXv
                    generalize (b2 || decide ((1 : Int) < n2)) = b3 at *
                    rename World => W3
                    have hMX : v1.heap.size ≠ X := by omega
                    generalize v1.heap.size = M at *
                    have m1 := cell_ofR eM3 1 (x := .bool false) rfl
                    have z1 := frz eM3 1
                    have ml3 := blk_ltR eM3
                    have eM4 := heap_set_own (j := 1) eM3 (.bool (decide (n2 = 1)))
                    have HX4 := mkHid (And.intro eM4 (And.intro (hsc3.setOther ⟨M, 1, none⟩ (.bool (decide (n2 = 1))) (by simp; omega)) (grown_set hg3 ⟨M, 1, none⟩ (.bool (decide (n2 = 1))) (Or.inr hMw))))
                    clear eM3 eM4 hsc3 hg3
                    go_wp2_with fail
                    obtain ⟨eM4, hsc4, hg4⟩ := HX4.out
                    generalize W3.setCell ⟨M, 1, none⟩ (.bool (decide (n2 = 1))) = W4 at *
                    clear HX4 m1 z1 ml3 hfl
                    refine (count_s _ X s q2 b3 hsc4 hq2 hs).mono ?_
                    rintro r W5 ⟨na, q3, b4, rfl, hna, o4⟩
                    have hst := res_step (P := pClass s p) (Q := pCount s q2) (K := fun x => (pMany (pKind s) x.1 x.2).bind (fun c => (pKind s c.2).bind fun d => (pCount s d.2).bind fun e => (pCount s e.2).bind fun f => (pNumber s f.2).bind fun g => (pBytes s g.1 g.2).bind fun h => (pCounted s (pHand s) h.2).bind fun i => KT ((⟨tn, decide (n2 = 1), c.1, d.1, e.1, f.1, h.1, i.1⟩ : MethD), i.2))) (b := b3) (fun h => (GC.out h).trans (show (pCounted s (pKind s) q2).bind (fun c => (pKind s c.2).bind fun d => (pCount s d.2).bind fun e => (pCount s e.2).bind fun f => (pNumber s f.2).bind fun g => (pBytes s g.1 g.2).bind fun h => (pCounted s (pHand s) h.2).bind fun i => KT ((⟨tn, decide (n2 = 1), c.1, d.1, e.1, f.1, h.1, i.1⟩ : MethD), i.2)) = _ from by rw [pCounted, Option.bind_assoc])) VC.out o4.good o4.wrong
                    have GD := mkHid hst.1
                    have VD := mkHid hst.2
                    have HE5 := mkHid (keepBlk eM4 o4.grown hMX)
                    have HG5 := mkHid (grown_trans hg4 o4.grown)
                    have HS5 := mkHid o4.sc
                    have hq5 := o4.le
                    clear hst GC VC o4 eM4 hsc4 hg4
                    go_wp2_with fail
                    go_loopw [16] (fun i wa => ∃ (ja : Nat) (ars : List (List Value × KindD)) (qa : Nat) (ba : Bool) (vA : Value), ja ≤ na ∧ i = .int .i64 ja ∧ ars.length = ja ∧ Hid (wa.heap[M]? = some (.cells #[.string tn, .bool (decide (n2 = 1)), vA, .int .i64 0, .string ⟨#[]⟩, .int .i64 0, .int .i64 0, .string ⟨#[]⟩, .slice none 0 0] 76 (0, 0))) ∧ wa.ownsRow (M + 1) 51 2 vA ars.length (ars.flatMap (·.1)) ∧
                      Hid (∀ z ∈ ars, z.1.length = 2 ∧ RK (fun _ => True) w z.1 z.2) ∧ Sc wa X s qa ba ∧ qa ≤ s.size ∧ Hid (ba = false → pClass s p = ((pMany (pKind s) (na - ja) qa).bind fun y => some (ars.map (·.2) ++ y.1, y.2)).bind (fun c => (pKind s c.2).bind fun d => (pCount s d.2).bind fun e => (pCount s e.2).bind fun f => (pNumber s f.2).bind fun g => (pBytes s g.1 g.2).bind fun h => (pCounted s (pHand s) h.2).bind fun i => KT ((⟨tn, decide (n2 = 1), c.1, d.1, e.1, f.1, h.1, i.1⟩ : MethD), i.2))) ∧ Hid (ba = true → pClass s p = none) ∧ wm.grownBy wa (some X)) (fun i _ => na - (intOf i).toNat)
                    case atStart => exact ⟨0, [], q3, b4, .slice none 0 0, Nat.zero_le _, rfl, rfl, HE5.out, World.ownsRow_nil _ _ _ _, (fun z hz => by cases hz), HS5.out, hq5, (fun h => by rw [GD.out h]; exact congrArg (fun r => Option.bind r _) (pMany_start _ _ _)), VD.out, HG5.out⟩
                    case round =>
                      rename World => wa
                      obtain ⟨ja, ars, qa, ba, vA, hja, rfl, hal, HEa, hownA, HAS, hsca, hqa, HGA, HVA, hga⟩ := hrel
                      clear HE5 HG5 HS5 GD VD hq5
                      have hbada := hsca.bad
                      have hXa := hsca.lt
                      go_upto_region 28 with fail
                      go_cut [115] (fun c W => c = .bool (decide (ja < na) && !ba) ∧ W = wa)
                      case first =>
                        by_cases hlt4 : ja < na
                        · cases ba
                          · go_wp2_with fail
                            go_meet
                            exact ⟨by simp [hlt4], rfl⟩
                          · go_wp2_with fail
                            go_meet
                            exact ⟨by simp, rfl⟩
                        · go_wp2_with fail
                          go_meet
                          exact ⟨by simp [hlt4], rfl⟩
                      case rest =>
                        rename World => wa
                        obtain ⟨rfl, rfl⟩ := hcut
                        have hMa : M < wa.heap.size := blk_ltR HEa.out
                        by_cases hgo6 : (decide (ja < na) && !ba) = true
                        · have hlt4 : ja < na := by simp at hgo6; exact hgo6.1
                          have hbf4 : ba = false := by simp at hgo6; exact hgo6.2
                          subst hbf4
                          rw [hgo6]
                          clear hgo6
                          obtain ⟨j4, hj4⟩ : ∃ j4, na - ja = j4 + 1 := ⟨na - ja - 1, by omega⟩
                          have HJ4 := mkHid hj4
                          clear hj4
                          have mA := cell_ofR HEa.out 2 (x := vA) rfl
                          have HSA := mkHid hsca
                          have HOA := mkHid hownA
                          have HAL := mkHid hal
                          have HGW := mkHid hga
                          clear hsca hal hownA hga hbada
                          go_upto_region 30 with fail
                          go_region_law (first
                            | (refine step_append_lies _ (by rfl) (.tmp 119) (.tmp 122) 73 (by rfl) (M + 1) 51 iK (.agg #[.int .i64 0, .string ⟨#[]⟩]) 2 24 Tryz.underlying73 hiK hzK0 hzK1 hzK2 rfl (by decide) vA ars.length (ars.flatMap (·.1)) (by rfl) (HO7.out.alloc _) ⟨w7.heap.size, 0, none⟩ 1 1 [.int .i64 kd.kind, .string kd.cls] (by rfl) rfl (World.news_of_block (newBlk w7 _)) (by intro u hu; simp at hu; rcases hu with rfl | rfl <;> rfl) (by decide) HB7.out.1 HB7.out.2.1 HB7.out.2.2 _ rfl ?_; intro gA cA w9 hown9 hgr9 _ hlt9; have eM9 := (hgr9.block M (by have := blk_ltR HE7.out; simp; omega) (fun e => by have := (HOA.out.lt M e.symm).1; omega)).trans ((Below.heap_alloc _ _ _ (blk_ltR HE7.out)).trans HE7.out); have m9 := cell_ofR eM9 2 (x := vA) rfl; have z9 := frz eM9 2; have ml9 := blk_ltR eM9; have HFA := mkHid (And.intro hown9 (And.intro hgr9 eM9)); clear hown9 hgr9 eM9)
                            | (go_simp; go_wp2_with (go_at_call 28; refine (kind_s _ X s qa false (Sc.drew HSA.out) hqa hs).mono ?_; rintro r w7 ⟨kd, q7, b7, rfl, hkd, o7⟩; have hst := res_step (P := pClass s p) (Q := pKind s qa) (K := fun b => (((pMany (pKind s) j4 b.2).bind fun y => some (b.1 :: y.1, y.2)).bind fun y => some (ars.map (·.2) ++ y.1, y.2)).bind (fun c => (pKind s c.2).bind fun d => (pCount s d.2).bind fun e => (pCount s e.2).bind fun f => (pNumber s f.2).bind fun g => (pBytes s g.1 g.2).bind fun h => (pCounted s (pHand s) h.2).bind fun i => KT ((⟨tn, decide (n2 = 1), c.1, d.1, e.1, f.1, h.1, i.1⟩ : MethD), i.2))) (b := false) (fun _ => by rw [HGA.out (by trivial), HJ4.out, many_more]; simp only [Option.bind_assoc]) (fun h => by cases h) o7.good o7.wrong; have G7 := mkHid hst.1; have V7 := mkHid hst.2; have HG7 := mkHid (grown_undrew o7.grown); have HO7 := mkHid (HOA.out.kept HG7.out (own_ne HOA.out (by omega))); have HE7 := mkHid (keepBlk HEa.out HG7.out hMX); have m7 := cell_ofR HE7.out 2 (x := vA) rfl; have ml7 := blk_ltR HE7.out; have hq7 := o7.le; have HS7 := mkHid o7.sc; have HB7 : Hid (ars.length + 1 ≤ maxLen ∧ (ars.length + 1) * 24 ≤ 140737488355328 ∧ M + 1 ≤ (w7.alloc (.cells #[.int .i64 kd.kind, .string kd.cls] 51)).heap.size) := (by have h1 := HAL.out; have h2 := blk_ltR HE7.out; exact ⟨by unfold maxLen; omega, by omega, by simp; omega⟩); clear hst o7)))
                          all_goals
                            obtain ⟨hown9, hgr9, eM9⟩ := HFA.out
                            have hrb9 : ∀ g, vA.ownBlock = some g → M + 1 ≤ g := fun g e => (HOA.out.lt g e).1
                            have hsc9 : Sc w9 X s q7 b7 := HS7.out.kept (by rw [hgr9.block X (by have := HS7.out.lt; simp; omega) (fun e => by have := hrb9 X e.symm; omega), Below.heap_alloc _ _ _ HS7.out.lt])
                            have hg9 : wm.grownBy w9 (some X) := grown_own (grown_alloc (grown_trans HGW.out HG7.out) _) hgr9 (fun g e => by have := hrb9 g e; omega)
                            have hown10 := ownsRow_setCell_below hown9 (a := ⟨M, 2, none⟩) (by simp) (.slice (some ⟨gA, 0, none⟩) (ars.length + 1) cA)
                            have eM10 := heap_set_own (j := 2) eM9 (.slice (some ⟨gA, 0, none⟩) (ars.length + 1) cA)
                            have hsc10 : Sc (w9.setCell ⟨M, 2, none⟩ (.slice (some ⟨gA, 0, none⟩) (ars.length + 1) cA)) X s q7 b7 := hsc9.setOther _ _ (by simp; omega)
                            have hg10 := grown_set hg9 ⟨M, 2, none⟩ (.slice (some ⟨gA, 0, none⟩) (ars.length + 1) cA) (Or.inr hMw)
                            have HFIN := mkHid (And.intro hown10 (And.intro eM10 (And.intro hsc10 hg10)))
                            clear hown9 hgr9 eM9 hrb9 hsc9 hg9 hown10 eM10 hsc10 hg10 HFA HO7 HB7 HG7 HE7 m7 ml7
                            go_wp2_with fail
                            go_roundw
                            case rel =>
                              obtain ⟨hown10, eM10, hsc10, hg10⟩ := HFIN.out
                              refine ⟨ja + 1, ars ++ [([.int .i64 kd.kind, .string kd.cls], kd)], q7, b7, .slice (some ⟨gA, 0, none⟩) (ars.length + 1) cA, by omega, by go_num, by have := HAL.out; simp; omega, eM10, ?_, ?_, hsc10, hq7, ?_, V7.out, hg10⟩
                              · rw [List.length_append, snoc_flat]
                                exact hown10
                              · show ∀ z ∈ _, _
                                intro z hz
                                rcases List.mem_append.1 hz with hz | hz
                                · exact HAS.out z hz
                                · rw [List.mem_singleton] at hz
                                  subst hz
                                  exact ⟨rfl, rfl, hkd⟩
                              · show _ → _
                                intro h
                                have e := HJ4.out
                                rw [G7.out h, show na - (ja + 1) = j4 by omega, List.map_append]
                                simp only [Option.bind_assoc, Option.bind_some, List.append_assoc, List.map_cons, List.map_nil, List.cons_append, List.nil_append]
                            case measure => simp [intOf]; omega
                        have hgo7 : (decide (ja < na) && !ba) = false := by simpa using hgo6
                        have G3 : Hid (ba = false → pClass s p = (pKind s qa).bind fun d => (pCount s d.2).bind fun e => (pCount s e.2).bind fun f => (pNumber s f.2).bind fun g => (pBytes s g.1 g.2).bind fun h => (pCounted s (pHand s) h.2).bind fun i => KT ((⟨tn, decide (n2 = 1), (ars.map (·.2)), d.1, e.1, f.1, h.1, i.1⟩ : MethD), i.2)) := fun h => by
                          have hjn : ja = na := by simp [h] at hgo7; omega
                          rw [HGA.out h, hjn, Nat.sub_self, many_end]
                          rfl
                        have SA0 : Hid (SL 2 RK (MT (X + 1) [51] wa) wa vA (ars.map (·.2))) := (own_SL (R := RK) (T := [51]) hownA (fun z hz => ⟨(HAS.out z hz).1, (HAS.out z hz).2⟩) (by decide) (by unfold maxLen; omega)).monoK fun _ hk => hk.more (by omega) (fun _ ht => ht)
                        generalize ars.map (·.2) = al at *
                        have sa := SA0.out
                        obtain ⟨aA, cA, rfl, -⟩ := sa
                        clear hownA HAS HGA hgo6 hal hbada
                        rw [hgo7]
                        clear hgo7
                        go_wp2_with fail
                        refine (kind_s _ X s qa ba hsca hqa hs).mono ?_
                        rintro r u1 ⟨kr, q4, bx4, rfl, hkr, o5⟩
                        have hst := res_step (P := pClass s p) (Q := pKind s qa) (K := fun d => (pCount s d.2).bind fun e => (pCount s e.2).bind fun f => (pNumber s f.2).bind fun g => (pBytes s g.1 g.2).bind fun h => (pCounted s (pHand s) h.2).bind fun i => KT ((⟨tn, decide (n2 = 1), al, d.1, e.1, f.1, h.1, i.1⟩ : MethD), i.2)) G3.out HVA.out o5.good o5.wrong
                        have G4 := mkHid hst.1
                        have V4 := mkHid hst.2
                        have SA1 := SA0.out.stpK (Stp.grown o5.grown (by omega))
                        have eM5 := keepBlk HEa.out o5.grown hMX
                        have m3 := cell_ofR eM5 3 (x := .int .i64 0) rfl
                        have m4 := cell_ofR eM5 4 (x := .string ⟨#[]⟩) rfl
                        have z3 := frz eM5 3
                        have z4 := frz eM5 4
                        have ml5 := blk_ltR eM5
                        have e1 := heap_set_own (j := 3) eM5 (.int .i64 kr.kind)
                        have e2 : ((u1.setCell ⟨M, 3, none⟩ (.int .i64 kr.kind)).setCell ⟨M, 4, none⟩ (.string kr.cls)).heap[M]? = some (.cells #[.string tn, .bool (decide (n2 = 1)), .slice aA al.length cA, .int .i64 kr.kind, .string kr.cls, .int .i64 0, .int .i64 0, .string ⟨#[]⟩, .slice none 0 0] 76 (0, 0)) := heap_set_own (j := 4) e1 (.string kr.cls)
                        have hsc5 := (o5.sc.setOther ⟨M, 3, none⟩ (.int .i64 kr.kind) (by simp; omega)).setOther ⟨M, 4, none⟩ (.string kr.cls) (by simp; omega)
                        have hg5 := grown_set (grown_set (grown_trans hga o5.grown) ⟨M, 3, none⟩ (.int .i64 kr.kind) (Or.inr hMw)) ⟨M, 4, none⟩ (.string kr.cls) (Or.inr hMw)
                        have SA2 := SA1.stpK ((Stp.set eM5 (by decide) 3 (.int .i64 kr.kind)).trans (Stp.set e1 (by decide) 4 (.string kr.cls)))
                        have HX5 := mkHid (And.intro e2 (And.intro hsc5 (And.intro hg5 SA2)))
                        have hq4 := o5.le
                        clear hst G3 SA0 SA1 HVA o5 eM5 e1 e2 hsc5 hg5 SA2 hsca HEa hga
                        go_wp2_with fail
                        obtain ⟨eM6, hsc6, hg6, SA6⟩ := HX5.out
                        generalize (u1.setCell ⟨M, 3, none⟩ (.int .i64 kr.kind)).setCell ⟨M, 4, none⟩ (.string kr.cls) = W6 at *
                        clear HX5 m3 m4 z3 z4 ml5
                        refine (count_s _ X s q4 bx4 hsc6 hq4 hs).mono ?_
                        rintro r u2 ⟨n5, q5, bx5, rfl, hn5, o6⟩
                        have hst := res_step (P := pClass s p) (Q := pCount s q4) (K := fun e => (pCount s e.2).bind fun f => (pNumber s f.2).bind fun g => (pBytes s g.1 g.2).bind fun h => (pCounted s (pHand s) h.2).bind fun i => KT ((⟨tn, decide (n2 = 1), al, kr, e.1, f.1, h.1, i.1⟩ : MethD), i.2)) G4.out V4.out o6.good o6.wrong
                        have G5 := mkHid hst.1
                        have V5 := mkHid hst.2
                        have eN := keepBlk eM6 o6.grown hMX
                        have mc := cell_ofR eN 5 (x := .int .i64 0) rfl
                        have zc := frz eN 5
                        have mlc := blk_ltR eN
                        have eN2 : (u2.setCell ⟨M, 5, none⟩ (.int .i64 n5)).heap[M]? = some (.cells #[.string tn, .bool (decide (n2 = 1)), .slice aA al.length cA, .int .i64 kr.kind, .string kr.cls, .int .i64 n5, .int .i64 0, .string ⟨#[]⟩, .slice none 0 0] 76 (0, 0)) := heap_set_own (j := 5) eN (.int .i64 n5)
                        have HXN := mkHid (And.intro eN2 (And.intro (o6.sc.setOther ⟨M, 5, none⟩ (.int .i64 n5) (by simp; omega)) (And.intro (grown_set (grown_trans hg6 o6.grown) ⟨M, 5, none⟩ (.int .i64 n5) (Or.inr hMw)) ((SA6.stpK (Stp.grown o6.grown (by omega))).stpK (Stp.set eN (by decide) 5 (.int .i64 n5))))))
                        have hq5 := o6.le
                        clear hst G4 V4 o6 eN eN2 eM6 hsc6 hg6 SA6
                        go_wp2_with fail
                        obtain ⟨eM7, hsc7, hg7, SA7⟩ := HXN.out
                        generalize u2.setCell ⟨M, 5, none⟩ (.int .i64 n5) = W7 at *
                        clear HXN mc zc mlc
                        refine (count_s _ X s q5 bx5 hsc7 hq5 hs).mono ?_
                        rintro r u3 ⟨n6, q6, bx6, rfl, hn6, o7⟩
                        have hst := res_step (P := pClass s p) (Q := pCount s q5) (K := fun f => (pNumber s f.2).bind fun g => (pBytes s g.1 g.2).bind fun h => (pCounted s (pHand s) h.2).bind fun i => KT ((⟨tn, decide (n2 = 1), al, kr, n5, f.1, h.1, i.1⟩ : MethD), i.2)) G5.out V5.out o7.good o7.wrong
                        have G6 := mkHid hst.1
                        have V6 := mkHid hst.2
                        have eN := keepBlk eM7 o7.grown hMX
                        have mc := cell_ofR eN 6 (x := .int .i64 0) rfl
                        have zc := frz eN 6
                        have mlc := blk_ltR eN
                        have eN2 : (u3.setCell ⟨M, 6, none⟩ (.int .i64 n6)).heap[M]? = some (.cells #[.string tn, .bool (decide (n2 = 1)), .slice aA al.length cA, .int .i64 kr.kind, .string kr.cls, .int .i64 n5, .int .i64 n6, .string ⟨#[]⟩, .slice none 0 0] 76 (0, 0)) := heap_set_own (j := 6) eN (.int .i64 n6)
                        have HXN := mkHid (And.intro eN2 (And.intro (o7.sc.setOther ⟨M, 6, none⟩ (.int .i64 n6) (by simp; omega)) (And.intro (grown_set (grown_trans hg7 o7.grown) ⟨M, 6, none⟩ (.int .i64 n6) (Or.inr hMw)) ((SA7.stpK (Stp.grown o7.grown (by omega))).stpK (Stp.set eN (by decide) 6 (.int .i64 n6))))))
                        have hq6 := o7.le
                        clear hst G5 V5 o7 eN eN2 eM7 hsc7 hg7 SA7
                        go_wp2_with fail
                        obtain ⟨eM8, hsc8, hg8, SA8⟩ := HXN.out
                        generalize u3.setCell ⟨M, 6, none⟩ (.int .i64 n6) = W8 at *
                        clear HXN mc zc mlc
                        refine (two_s _ X s q6 bx6 hsc8 hq6 hs).mono ?_
                        rintro r u4 ⟨n7, q7, bx7, rfl, hn7, o8⟩
                        have hst := res_step (P := pClass s p) (Q := pNumber s q6) (K := fun g => (pBytes s g.1 g.2).bind fun h => (pCounted s (pHand s) h.2).bind fun i => KT ((⟨tn, decide (n2 = 1), al, kr, n5, n6, h.1, i.1⟩ : MethD), i.2)) G6.out V6.out o8.good o8.wrong
                        have G7 := mkHid hst.1
                        have V7 := mkHid hst.2
                        have HE4 := mkHid (keepBlk eM8 o8.grown hMX)
                        have HG4 := mkHid (grown_trans hg8 o8.grown)
                        have HSA4 := mkHid (SA8.stpK (Stp.grown o8.grown (by omega)))
                        have HS4 := mkHid o8.sc
                        have hq7 := o8.le
                        clear hst G6 V6 o8 eM8 hg8 SA8 hsc8
                        go_wp2_with fail
                        refine (bytes_s _ X s q7 n7 bx7 HS4.out hq7 hs (by omega)).mono ?_
                        have eM9 := HE4.out
                        have hg9 := HG4.out
                        have SA9 := HSA4.out
                        have hsc9 := HS4.out
                        rintro r u5x ⟨tc, q8, bx8, rfl, htc, o9⟩
                        have hst := res_step (P := pClass s p) (Q := pBytes s n7 q7) (K := fun h => (pCounted s (pHand s) h.2).bind fun i => KT ((⟨tn, decide (n2 = 1), al, kr, n5, n6, h.1, i.1⟩ : MethD), i.2)) G7.out V7.out o9.good o9.wrong
                        have G8 := mkHid hst.1
                        have V8 := mkHid hst.2
                        have eN := keepBlk eM9 o9.grown hMX
                        have mc := cell_ofR eN 7 (x := .string ⟨#[]⟩) rfl
                        have zc := frz eN 7
                        have mlc := blk_ltR eN
                        have eN2 : (u5x.setCell ⟨M, 7, none⟩ (.string tc)).heap[M]? = some (.cells #[.string tn, .bool (decide (n2 = 1)), .slice aA al.length cA, .int .i64 kr.kind, .string kr.cls, .int .i64 n5, .int .i64 n6, .string tc, .slice none 0 0] 76 (0, 0)) := heap_set_own (j := 7) eN (.string tc)
                        have HXN := mkHid (And.intro eN2 (And.intro (o9.sc.setOther ⟨M, 7, none⟩ (.string tc) (by simp; omega)) (And.intro (grown_set (grown_trans hg9 o9.grown) ⟨M, 7, none⟩ (.string tc) (Or.inr hMw)) ((SA9.stpK (Stp.grown o9.grown (by omega))).stpK (Stp.set eN (by decide) 7 (.string tc))))))
                        have hq8 := o9.le
                        clear HE4 HG4 HSA4 HS4 hst G7 V7 o9 eN eN2 eM9 hsc9 hg9 SA9
                        go_wp2_with fail
                        obtain ⟨eM10, hsc10, hg10, SA10⟩ := HXN.out
                        generalize u5x.setCell ⟨M, 7, none⟩ (.string tc) = W10 at *
                        clear HXN mc zc mlc
                        refine (count_s _ X s q8 bx8 hsc10 hq8 hs).mono ?_
                        rintro r W11 ⟨nh, q9, bx9, rfl, hnh, o10⟩
                        have hst := res_step (P := pClass s p) (Q := pCount s q8) (K := fun x => (pMany (pHand s) x.1 x.2).bind (fun i => KT ((⟨tn, decide (n2 = 1), al, kr, n5, n6, tc, i.1⟩ : MethD), i.2))) (b := bx8) (fun h => (G8.out h).trans (show (pCounted s (pHand s) q8).bind (fun i => KT ((⟨tn, decide (n2 = 1), al, kr, n5, n6, tc, i.1⟩ : MethD), i.2)) = _ from by rw [pCounted, Option.bind_assoc])) V8.out o10.good o10.wrong
                        have G9 := mkHid hst.1
                        have V9 := mkHid hst.2
                        have HE11 := mkHid (keepBlk eM10 o10.grown hMX)
                        have HG11 := mkHid (grown_trans hg10 o10.grown)
                        have HA11 := mkHid (SA10.stpK (Stp.grown o10.grown (by omega)))
                        have HS11 := mkHid o10.sc
                        have hq9 := o10.le
                        clear hst G8 V8 o10 eM10 hsc10 hg10 SA10
                        go_wp2_with fail
                        go_loopw [17] (fun i wh => ∃ (jh : Nat) (hds : List (List Value × HandD)) (qh : Nat) (bh : Bool) (vH : Value), jh ≤ nh ∧ i = .int .i64 jh ∧ hds.length = jh ∧ Hid (wh.heap[M]? = some (.cells #[.string tn, .bool (decide (n2 = 1)), .slice aA al.length cA, .int .i64 kr.kind, .string kr.cls, .int .i64 n5, .int .i64 n6, .string tc, vH] 76 (0, 0))) ∧ wh.ownsRow (M + 1) 79 4 vH hds.length (hds.flatMap (·.1)) ∧
                          Hid (∀ z ∈ hds, z.1.length = 4 ∧ RH (fun _ => True) w z.1 z.2) ∧ Hid (SL 2 RK (MT (X + 1) [51] wh) wh (.slice aA al.length cA) al) ∧ Sc wh X s qh bh ∧ qh ≤ s.size ∧ Hid (bh = false → pClass s p = ((pMany (pHand s) (nh - jh) qh).bind fun y => some (hds.map (·.2) ++ y.1, y.2)).bind (fun i => KT ((⟨tn, decide (n2 = 1), al, kr, n5, n6, tc, i.1⟩ : MethD), i.2))) ∧ Hid (bh = true → pClass s p = none) ∧ wm.grownBy wh (some X)) (fun i _ => nh - (intOf i).toNat)
                        case atStart => exact ⟨0, [], q9, bx9, .slice none 0 0, Nat.zero_le _, rfl, rfl, HE11.out, World.ownsRow_nil _ _ _ _, (fun z hz => by cases hz), HA11.out, HS11.out, hq9, (fun h => by rw [G9.out h]; exact congrArg (fun r => Option.bind r _) (pMany_start _ _ _)), V9.out, HG11.out⟩
                        case round =>
                          rename World => wh
                          obtain ⟨jh, hds, qh, bh, vH, hjh, rfl, hhl, HEh, hownH, HHS, SAh, hsch, hqh, HGH, HVH, hgh⟩ := hrel
                          clear HE11 HG11 HA11 HS11 G9 V9 hq9
                          have hbadh := hsch.bad
                          have hXh := hsch.lt
                          go_upto_region 37 with fail
                          go_cut [150] (fun c W => c = .bool (decide (jh < nh) && !bh) ∧ W = wh)
                          case first =>
                            by_cases hlt5 : jh < nh
                            · cases bh
                              · go_wp2_with fail
                                go_meet
                                exact ⟨by simp [hlt5], rfl⟩
                              · go_wp2_with fail
                                go_meet
                                exact ⟨by simp, rfl⟩
                            · go_wp2_with fail
                              go_meet
                              exact ⟨by simp [hlt5], rfl⟩
                          case rest =>
                            rename World => wh
                            obtain ⟨rfl, rfl⟩ := hcut
                            have hMh : M < wh.heap.size := blk_ltR HEh.out
                            by_cases hgo8 : (decide (jh < nh) && !bh) = true
                            · have hlt5 : jh < nh := by simp at hgo8; exact hgo8.1
                              have hbf5 : bh = false := by simp at hgo8; exact hgo8.2
                              subst hbf5
                              rw [hgo8]
                              clear hgo8
                              obtain ⟨j5, hj5⟩ : ∃ j5, nh - jh = j5 + 1 := ⟨nh - jh - 1, by omega⟩
                              obtain ⟨KH, hKH⟩ : ∃ KH : HandD × Nat → Option (ClassD × Nat), KH = fun x => (((pMany (pHand s) j5 x.2).bind fun y => some (x.1 :: y.1, y.2)).bind fun y => some (hds.map (·.2) ++ y.1, y.2)).bind (fun i => KT ((⟨tn, decide (n2 = 1), al, kr, n5, n6, tc, i.1⟩ : MethD), i.2)) := ⟨_, rfl⟩
                              have GA : Hid (pClass s p = (pHand s qh).bind KH) := by
                                show pClass s p = _
                                rw [HGH.out (by trivial), hj5, many_more, hKH]
                                simp only [Option.bind_assoc]
                              have HKH := mkHid hKH
                              have HJ5 := mkHid hj5
                              have HHL := mkHid hhl
                              have HOH := mkHid hownH
                              clear hKH hj5 HGH hhl hownH
                              go_wp2_with fail
                              refine (two_s _ X s qh false hsch hqh hs).mono ?_
                              rintro r v1 ⟨hfr, qa1, ba1, rfl, hhfr, o1⟩
                              have hst := res_step (P := pClass s p) (Q := pNumber s qh) (K := fun a => (pNumber s a.2).bind fun b => (pNumber s b.2).bind fun c => (pText s c.2).bind fun d => KH ((⟨a.1, b.1, c.1, d.1⟩ : HandD), d.2)) (b := false) (fun _ => by rw [GA.out, pHand]; simp only [Option.bind_assoc, Option.bind_some]) (fun h => by cases h) o1.good o1.wrong
                              have GB := mkHid hst.1
                              have VB := mkHid hst.2
                              have hHw := o1.grown.size
                              have hv1 := o1.sc.lt
                              clear hst GA
                              go_wp2_with fail
                              refine (two_s _ X s qa1 ba1 (o1.sc.alloc _) o1.le hs).mono ?_
                              rintro r v2 ⟨hto, qa2, ba2, rfl, hhto, o2⟩
                              have hst := res_step (P := pClass s p) (Q := pNumber s qa1) (K := fun b => (pNumber s b.2).bind fun c => (pText s c.2).bind fun d => KH ((⟨hfr, b.1, c.1, d.1⟩ : HandD), d.2)) GB.out VB.out o2.good o2.wrong
                              have GC := mkHid hst.1
                              have VC := mkHid hst.2
                              have eN := keepBlk (newBlk v1 (.cells #[.int .i64 hfr, .int .i64 0, .int .i64 0, .string ⟨#[]⟩] 79)) o2.grown (by omega)
                              have mc := cell_ofR eN 1 (x := .int .i64 0) rfl
                              have zc := frz eN 1
                              have mlc := blk_ltR eN
                              have eN2 : (v2.setCell ⟨v1.heap.size, 1, none⟩ (.int .i64 hto)).heap[v1.heap.size]? = some (.cells #[.int .i64 hfr, .int .i64 hto, .int .i64 0, .string ⟨#[]⟩] 79 (0, 0)) := heap_set_own (j := 1) eN (.int .i64 hto)
                              have HXN := mkHid (And.intro eN2 (And.intro (o2.sc.setOther ⟨v1.heap.size, 1, none⟩ (.int .i64 hto) (by simp; omega)) (grown_set (grown_trans o1.grown (grown_trans (grown_alloc (World.grownBy.refl _ _) _) o2.grown)) ⟨v1.heap.size, 1, none⟩ (.int .i64 hto) (Or.inr hHw))))
                              have hqa2 := o2.le
                              clear hst GB VB o1 o2 eN eN2
                              go_wp2_with fail
                              obtain ⟨eH3, hsc3, hg3⟩ := HXN.out
                              generalize v2.setCell ⟨v1.heap.size, 1, none⟩ (.int .i64 hto) = U3 at *
                              have hHX : v1.heap.size ≠ X := by omega
                              have hHM : v1.heap.size ≠ M := by omega
                              generalize v1.heap.size = Hb at *
                              clear HXN mc zc mlc
                              refine (two_s _ X s qa2 ba2 hsc3 hqa2 hs).mono ?_
                              rintro r v3 ⟨hat, qa3, ba3, rfl, hhat, o3⟩
                              have hst := res_step (P := pClass s p) (Q := pNumber s qa2) (K := fun c => (pText s c.2).bind fun d => KH ((⟨hfr, hto, c.1, d.1⟩ : HandD), d.2)) GC.out VC.out o3.good o3.wrong
                              have GD := mkHid hst.1
                              have VD := mkHid hst.2
                              have eN := keepBlk eH3 o3.grown hHX
                              have mc := cell_ofR eN 2 (x := .int .i64 0) rfl
                              have zc := frz eN 2
                              have mlc := blk_ltR eN
                              have eN2 : (v3.setCell ⟨Hb, 2, none⟩ (.int .i64 hat)).heap[Hb]? = some (.cells #[.int .i64 hfr, .int .i64 hto, .int .i64 hat, .string ⟨#[]⟩] 79 (0, 0)) := heap_set_own (j := 2) eN (.int .i64 hat)
                              have HXN := mkHid (And.intro eN2 (And.intro (o3.sc.setOther ⟨Hb, 2, none⟩ (.int .i64 hat) (by simp; omega)) (grown_set (grown_trans hg3 o3.grown) ⟨Hb, 2, none⟩ (.int .i64 hat) (Or.inr hHw))))
                              have hqa3 := o3.le
                              clear hst GC VC o3 eN eN2 eH3 hsc3 hg3
                              go_wp2_with fail
                              obtain ⟨eH4, hsc4, hg4⟩ := HXN.out
                              generalize v3.setCell ⟨Hb, 2, none⟩ (.int .i64 hat) = U4 at *
                              clear HXN mc zc mlc
                              refine (text_s _ X s qa3 ba3 hsc4 hqa3 hs).mono ?_
                              rintro r v4 ⟨hcl, qa4, ba4, rfl, hhcl, o4⟩
                              have hst := res_step (P := pClass s p) (Q := pText s qa3) (K := fun d => KH ((⟨hfr, hto, hat, d.1⟩ : HandD), d.2)) GD.out VD.out o4.good o4.wrong
                              have GE := mkHid hst.1
                              have VE := mkHid hst.2
                              have eN := keepBlk eH4 o4.grown hHX
                              have mc := cell_ofR eN 3 (x := .string ⟨#[]⟩) rfl
                              have zc := frz eN 3
                              have mlc := blk_ltR eN
                              have eN2 : (v4.setCell ⟨Hb, 3, none⟩ (.string hcl)).heap[Hb]? = some (.cells #[.int .i64 hfr, .int .i64 hto, .int .i64 hat, .string hcl] 79 (0, 0)) := heap_set_own (j := 3) eN (.string hcl)
                              have hgU := grown_set (grown_trans hg4 o4.grown) ⟨Hb, 3, none⟩ (.string hcl) (Or.inr hHw)
                              have hscU := o4.sc.setOther ⟨Hb, 3, none⟩ (.string hcl) (by simp; omega)
                              have hqa4 := o4.le
                              clear hst GD VD o4 eN eH4 hsc4 hg4
                              have HU := mkHid (And.intro eN2 (And.intro hscU hgU))
                              clear eN2 hscU hgU
                              go_upto_region 43 with fail
                              obtain ⟨eH5, hscU, hgU⟩ := HU.out
                              generalize v4.setCell ⟨Hb, 3, none⟩ (.string hcl) = U at *
                              clear HU mc zc mlc
                              have y0 := cell_ofR eH5 0 (x := .int .i64 hfr) rfl
                              have y1 := cell_ofR eH5 1 (x := .int .i64 hto) rfl
                              have y2 := cell_ofR eH5 2 (x := .int .i64 hat) rfl
                              have y3 := cell_ofR eH5 3 (x := .string hcl) rfl
                              have eMU := keepBlk HEh.out hgU hMX
                              have x8 := cell_ofR eMU 8 (x := vH) rfl
                              have mU := blk_ltR eMU
                              have hU := blk_ltR eH5
                              have hgw := grown_trans hgh hgU
                              have hownU := HOH.out.kept hgU (own_ne HOH.out (by omega))
                              have SAU := SAh.out.stpK (Stp.grown hgU (by omega))
                              have HUU := mkHid (And.intro eMU (And.intro hscU (And.intro hgw (And.intro hownU SAU))))
                              have HBU : Hid (hds.length + 1 ≤ maxLen ∧ (hds.length + 1) * 40 ≤ 140737488355328) := by have h1 := HHL.out; exact ⟨by unfold maxLen; omega, by omega⟩
                              clear eMU hscU hgw hgU SAU eH5
                              go_wp2_with (at_builtin; refine wpList_append_lies _ rfl _ _ 74 rfl (M + 1) 79 iH (.agg #[.int .i64 0, .int .i64 0, .int .i64 0, .string ⟨#[]⟩]) 4 40 Tryz.underlying74 hiH hzH0 hzH1 hzH2 rfl (by decide) vH hds.length (hds.flatMap (·.1)) rfl (hownU.alloc _) ⟨U.heap.size, 0, none⟩ 1 1 [.int .i64 hfr, .int .i64 hto, .int .i64 hat, .string hcl] rfl rfl (World.news_of_block (newBlk U _)) (by intro u hu; simp at hu; rcases hu with rfl | rfl | rfl | rfl <;> rfl) (by omega) HBU.out.1 HBU.out.2 (by simp; omega) _ rfl ?_)
                              intro gH cH w5 hown5 hgr5 _ hlt5'
                              obtain ⟨eMU, hscU, hgw, hownU', SAU⟩ := HUU.out
                              have hrb : ∀ g, vH.ownBlock = some g → M + 1 ≤ g := fun g e => (HOH.out.lt g e).1
                              have eM5 := (hgr5.block M (by simp; omega) (fun e => by have := hrb M e.symm; omega)).trans ((Below.heap_alloc _ _ _ mU).trans eMU)
                              have hsc5 : Sc w5 X s qa4 ba4 := hscU.kept (by rw [hgr5.block X (by have := hscU.lt; simp; omega) (fun e => by have := hrb X e.symm; omega), Below.heap_alloc _ _ _ hscU.lt])
                              have hg5 : wm.grownBy w5 (some X) := grown_own (grown_alloc hgw _) hgr5 (fun g e => by have := hrb g e; omega)
                              have ml5 := blk_ltR eM5
                              have x85 := cell_ofR eM5 8 (x := vH) rfl
                              have z85 := frz eM5 8
                              have SA5 := (SAU.stpK ((Stp.refl _ _ _).alloc _)).stpK ((Stp.row hgr5 (hownU'.alloc _) (by decide)).trans (Stp.set eM5 (by decide) 8 (.slice (some ⟨gH, 0, none⟩) (hds.length + 1) cH)))
                              have eM6 : (w5.setCell ⟨M, 8, none⟩ (.slice (some ⟨gH, 0, none⟩) (hds.length + 1) cH)).heap[M]? = some (.cells #[.string tn, .bool (decide (n2 = 1)), .slice aA al.length cA, .int .i64 kr.kind, .string kr.cls, .int .i64 n5, .int .i64 n6, .string tc, .slice (some ⟨gH, 0, none⟩) (hds.length + 1) cH] 76 (0, 0)) := heap_set_own (j := 8) eM5 (.slice (some ⟨gH, 0, none⟩) (hds.length + 1) cH)
                              have HFIN := mkHid (And.intro (ownsRow_setCell_below hown5 (a := ⟨M, 8, none⟩) (by simp) (.slice (some ⟨gH, 0, none⟩) (hds.length + 1) cH)) (And.intro eM6 (And.intro (hsc5.setOther ⟨M, 8, none⟩ (.slice (some ⟨gH, 0, none⟩) (hds.length + 1) cH) (by simp; omega)) (And.intro (grown_set hg5 ⟨M, 8, none⟩ (.slice (some ⟨gH, 0, none⟩) (hds.length + 1) cH) (Or.inr hMw)) SA5))))
                              clear hown5 hgr5 eM5 eM6 hsc5 hg5 eMU hscU hgw hownU' hownU SAU SA5 hrb HUU y0 y1 y2 y3 x8
                              go_wp2_with fail
                              go_roundw
                              case rel =>
                                obtain ⟨hown6, eM6, hsc6, hg6, SA6⟩ := HFIN.out
                                refine ⟨jh + 1, hds ++ [([.int .i64 hfr, .int .i64 hto, .int .i64 hat, .string hcl], ⟨hfr, hto, hat, hcl⟩)], qa4, ba4, .slice (some ⟨gH, 0, none⟩) (hds.length + 1) cH, by omega, by go_num, by have := HHL.out; simp; omega, eM6, ?_, ?_, SA6, hsc6, hqa4, ?_, VE.out, hg6⟩
                                · rw [List.length_append, snoc_flat]
                                  exact hown6
                                · show ∀ z ∈ _, _
                                  intro z hz
                                  rcases List.mem_append.1 hz with hz | hz
                                  · exact HHS.out z hz
                                  · rw [List.mem_singleton] at hz
                                    subst hz
                                    exact ⟨rfl, rfl, hhcl⟩
                                · show _ → _
                                  intro h
                                  have e := HJ5.out
                                  rw [GE.out h, HKH.out, show nh - (jh + 1) = j5 by omega, List.map_append]
                                  simp only [Option.bind_assoc, Option.bind_some, List.append_assoc, List.map_cons, List.map_nil, List.cons_append, List.nil_append]
                              case measure => simp [intOf]; omega
                            have hgo9 : (decide (jh < nh) && !bh) = false := by simpa using hgo8
                            have GF : Hid (bh = false → pClass s p = KT ((⟨tn, decide (n2 = 1), al, kr, n5, n6, tc, hds.map (·.2)⟩ : MethD), qh)) := fun h => by
                              have hjn : jh = nh := by simp [h] at hgo9; omega
                              rw [HGH.out h, hjn, Nat.sub_self, many_end]
                              rfl
                            have SH0 : Hid (SL 4 RH (MT (X + 1) [51, 79] wh) wh vH (hds.map (·.2))) := (own_SL (R := RH) (T := [51, 79]) hownH (fun z hz => ⟨(HHS.out z hz).1, (HHS.out z hz).2⟩) (by decide) (by unfold maxLen; omega)).monoH fun _ hk => hk.more (by omega) (fun _ ht => ht)
                            have SA12 : Hid (SL 2 RK (MT (X + 1) [51, 79] wh) wh (.slice aA al.length cA) al) := SAh.out.monoK fun _ hk => hk.more (Nat.le_refl _) (by decide)
                            generalize hds.map (·.2) = hl at *
                            have sh := SH0.out
                            obtain ⟨aH, cH, rfl, -⟩ := sh
                            have hownN := hownM.kept hgh (own_ne hownM (by omega))
                            have HMN : Hid (∀ z ∈ ms, z.1.length = 9 ∧ RM (MT (X + 1) [51, 79] wh) wh z.1 z.2) := fun z hz => ⟨(HMS.out z hz).1, (HMS.out z hz).2.stp (Stp.grown hgh (by omega))⟩
                            have SFN : Hid (SL 3 RF (MT (X + 1) [53] wh) wh (.slice aF fl.length cF) fl) := SFm.out.stpF (Stp.grown hgh (by omega))
                            have eCN := keepBlk HEm.out hgh hCX
                            have hCN := blk_ltR eCN
                            have mm0 := cell_ofR HEh.out 0 (x := .string tn) rfl
                            have mm1 := cell_ofR HEh.out 1 (x := .bool (decide (n2 = 1))) rfl
                            have mm2 := cell_ofR HEh.out 2 (x := .slice aA al.length cA) rfl
                            have mm3 := cell_ofR HEh.out 3 (x := .int .i64 kr.kind) rfl
                            have mm4 := cell_ofR HEh.out 4 (x := .string kr.cls) rfl
                            have mm5 := cell_ofR HEh.out 5 (x := .int .i64 n5) rfl
                            have mm6 := cell_ofR HEh.out 6 (x := .int .i64 n6) rfl
                            have mm7 := cell_ofR HEh.out 7 (x := .string tc) rfl
                            have mm8 := cell_ofR HEh.out 8 (x := .slice aH hl.length cH) rfl
                            have cc3 := cell_ofR eCN 3 (x := vM) rfl
                            have HML := mkHid hml
                            have HON := mkHid hownN
                            have HOM := mkHid hownM
                            have HEC := mkHid eCN
                            have HGN := mkHid (grown_trans hgm hgh)
                            have HBN : Hid (ms.length + 1 ≤ maxLen ∧ (ms.length + 1) * 128 ≤ 140737488355328) := ⟨by unfold maxLen; omega, by omega⟩
                            have HSN := mkHid hsch
                            clear hownH HHS HGH hgo8 hhl hbadh hml hownM eCN hgh hsch SAh HEh
                            rw [hgo9]
                            clear hgo9
                            go_wp2_with (at_builtin; refine wpList_append_lies _ rfl _ _ 59 rfl (C + 1) 76 iM (.agg #[.string ⟨#[]⟩, .bool false, .slice none 0 0, .int .i64 0, .string ⟨#[]⟩, .int .i64 0, .int .i64 0, .string ⟨#[]⟩, .slice none 0 0]) 9 128 Tryz.underlying59 hiM hzM0 hzM1 hzM2 rfl (by decide) vM ms.length (ms.flatMap (·.1)) rfl (hownN.alloc _) ⟨wh.heap.size, 0, none⟩ 1 1 [.string tn, .bool (decide (n2 = 1)), .slice aA al.length cA, .int .i64 kr.kind, .string kr.cls, .int .i64 n5, .int .i64 n6, .string tc, .slice aH hl.length cH] rfl rfl (World.news_of_block (newBlk wh _)) (by intro u hu; simp at hu; rcases hu with rfl | rfl | rfl | rfl | rfl | rfl | rfl | rfl | rfl <;> rfl) (by omega) HBN.out.1 HBN.out.2 (by simp; omega) _ rfl ?_)
                            intro gM cM w9 hown9 hgr9 _ hlt9
                            have hrb : ∀ g, vM.ownBlock = some g → C + 1 ≤ g := fun g e => (HOM.out.lt g e).1
                            have eC9 := (hgr9.block C (by simp; omega) (fun e => by have := hrb C e.symm; omega)).trans ((Below.heap_alloc _ _ _ hCN).trans HEC.out)
                            have hsc9 : Sc w9 X s qh bh := HSN.out.kept (by rw [hgr9.block X (by have := HSN.out.lt; simp; omega) (fun e => by have := hrb X e.symm; omega), Below.heap_alloc _ _ _ HSN.out.lt])
                            have hg9 : wc.grownBy w9 (some X) := grown_own (grown_alloc HGN.out _) hgr9 (fun g e => by have := hrb g e; omega)
                            have ml9 := blk_ltR eC9
                            have x39 := cell_ofR eC9 3 (x := vM) rfl
                            have z39 := frz eC9 3
                            have hst2 : Stp (X + 1) [51, 79] wh (w9.setCell ⟨C, 3, none⟩ (.slice (some ⟨gM, 0, none⟩) (ms.length + 1) cM)) := (((Stp.refl _ _ _).alloc _).trans (Stp.row hgr9 (HON.out.alloc _) (by decide))).trans (Stp.set eC9 (by decide) 3 _)
                            have hst3 : Stp (X + 1) [53] wh (w9.setCell ⟨C, 3, none⟩ (.slice (some ⟨gM, 0, none⟩) (ms.length + 1) cM)) := (((Stp.refl _ _ _).alloc _).trans (Stp.row hgr9 (HON.out.alloc _) (by decide))).trans (Stp.set eC9 (by decide) 3 _)
                            have eC10 : (w9.setCell ⟨C, 3, none⟩ (.slice (some ⟨gM, 0, none⟩) (ms.length + 1) cM)).heap[C]? = some (.cells #[.string t1, .string t2, .slice aF fl.length cF, .slice (some ⟨gM, 0, none⟩) (ms.length + 1) cM] 61 (0, 0)) := heap_set_own (j := 3) eC9 (.slice (some ⟨gM, 0, none⟩) (ms.length + 1) cM)
                            have HFIN := mkHid (And.intro (ownsRow_setCell_below hown9 (a := ⟨C, 3, none⟩) (by simp) (.slice (some ⟨gM, 0, none⟩) (ms.length + 1) cM)) (And.intro eC10 (And.intro (hsc9.setOther ⟨C, 3, none⟩ (.slice (some ⟨gM, 0, none⟩) (ms.length + 1) cM) (by simp; omega)) (And.intro (grown_set hg9 ⟨C, 3, none⟩ (.slice (some ⟨gM, 0, none⟩) (ms.length + 1) cM) (Or.inr hCr)) (And.intro hst2 hst3)))))
                            clear hown9 hgr9 eC9 eC10 hsc9 hg9 hrb hst2 hst3 hownN mm0 mm1 mm2 mm3 mm4 mm5 mm6 mm7 mm8 cc3
                            go_wp2_with fail
                            go_roundw
                            case rel =>
                              obtain ⟨hown10, eC10, hsc10, hg10, hst2, hst3⟩ := HFIN.out
                              refine ⟨jm + 1, ms ++ [([.string tn, .bool (decide (n2 = 1)), .slice aA al.length cA, .int .i64 kr.kind, .string kr.cls, .int .i64 n5, .int .i64 n6, .string tc, .slice aH hl.length cH], ⟨tn, decide (n2 = 1), al, kr, n5, n6, tc, hl⟩)], qh, bh, .slice (some ⟨gM, 0, none⟩) (ms.length + 1) cM, by omega, by go_num, by have := HML.out; simp; omega, eC10, ?_, ?_, SFN.out.stpF hst3, hsc10, hqh, ?_, HVH.out, hg10⟩
                              · rw [List.length_append, snoc_flat]
                                exact hown10
                              · show ∀ z ∈ _, _
                                intro z hz
                                rcases List.mem_append.1 hz with hz | hz
                                · exact ⟨(HMN.out z hz).1, (HMN.out z hz).2.stp hst2⟩
                                · rw [List.mem_singleton] at hz
                                  subst hz
                                  exact ⟨rfl, _, _, rfl, SA12.out.stpK hst2, SH0.out.stpH hst2, htn, hkr, htc⟩
                              · show _ → _
                                intro h
                                have e := HJ.out
                                rw [GF.out h, HKT.out, show m2 - (jm + 1) = j' by omega, List.map_append]
                                simp only [Option.bind_assoc, Option.bind_some, List.append_assoc, List.map_cons, List.map_nil, List.cons_append, List.nil_append]
                            case measure => simp [intOf]; omega
                have hgo5 : (decide (jm < m2) && !bm) = false := by simpa using hgo4
                have G8 : Hid (bm = false → pClass s p = some (⟨t1, t2, fl, ms.map (·.2)⟩, q)) := fun h => by
                  have hjm2 : jm = m2 := by simp [h] at hgo5; omega
                  rw [HGM.out h, hjm2, Nat.sub_self, many_end]
                  rfl
                have SM0 : Hid (SL 9 RM (MT (X + 1) [51, 79, 76, 53] wm) wm vM (ms.map (·.2))) := own_SL (R := RM) (T := [51, 79, 76, 53]) (own_lower hownM (by omega)) (fun z hz => ⟨(HMS.out z hz).1, (HMS.out z hz).2.mono fun _ hk => hk.more (Nat.le_refl _) (by decide)⟩) (by decide) (by unfold maxLen; omega)
                have SF8 : Hid (SL 3 RF (MT (X + 1) [51, 79, 76, 53] wm) wm (.slice aF fl.length cF) fl) := SFm.out.monoF fun _ hk => hk.more (Nat.le_refl _) (by decide)
                generalize ms.map (·.2) = ml at *
                have sm := SM0.out
                obtain ⟨aM, cM, rfl, -⟩ := sm
                have hownO := hown.kept hgm (own_ne hown (by omega))
                have HZ8 : Hid (∀ z ∈ zs, z.1.length = 4 ∧ RC (MT (X + 1) [51, 79, 76, 53] wm) wm z.1 z.2) := fun z hz => ⟨(HZ.out z hz).1, (HZ.out z hz).2.stp (Stp.grown hgm (by omega))⟩
                have cm0 := cell_ofR HEm.out 0 (x := .string t1) rfl
                have cm1 := cell_ofR HEm.out 1 (x := .string t2) rfl
                have cm2 := cell_ofR HEm.out 2 (x := .slice aF fl.length cF) rfl
                have cm3 := cell_ofR HEm.out 3 (x := .slice aM ml.length cM) rfl
                have HZL := mkHid hzl
                have HOO := mkHid hownO
                have HBm : Hid (Below X w wm) := hBr.grown hgm (by have := hBr.size; omega) (fun g e => by cases e; omega)
                clear hownM HMS HGM hgo4 hml hzl SFm
                rw [hgo5]
                clear hgo5
                go_wp2_with (at_builtin; refine wpList_append_own _ rfl _ _ 22 rfl (X + 1) 61 iC (.agg #[.string ⟨#[]⟩, .string ⟨#[]⟩, .slice none 0 0, .slice none 0 0]) 4 80 Tryz.underlying22 hiC hzC0 hzC1 hzC2 rfl (by decide) _ _ _ rfl (hownO.alloc _) ⟨wm.heap.size, 0, none⟩ 1 1 [.string t1, .string t2, .slice aF fl.length cF, .slice aM ml.length cM] rfl rfl (by intro j u hj; match j, hj with | 0, hj => simp at hj; subst hj; simp [Addr.add] | 1, hj => simp at hj; subst hj; simp [Addr.add] | 2, hj => simp at hj; subst hj; simp [Addr.add] | 3, hj => simp at hj; subst hj; simp [Addr.add] | j + 4, hj => simp at hj) (by intro u hu; simp at hu; rcases hu with rfl | rfl | rfl | rfl <;> rfl) (by have := HZL.out; unfold maxLen; omega) (by have := HZL.out; omega) (by simp; omega) ?_)
                intro v9 w9 hown9 hgr9 _
                have hrb : ∀ g, (Value.ownBlock _ = some g → X + 1 ≤ g) := fun g e => (HOO.out.lt g e).1
                have hst9 : Stp (X + 1) [51, 79, 76, 53] wm w9 := ((Stp.refl _ _ _).alloc _).trans (Stp.row hgr9 (HOO.out.alloc _) (by decide))
                have hsc9 : Sc w9 X s q bm := hscm.kept (by rw [hgr9.block X (by simp; omega) (fun e => by have := hrb X e.symm; omega), Below.heap_alloc _ _ _ hXm])
                have hB9 : Below X w w9 := (HBm.out.alloc (by have := HBm.out.size; omega) _).grown hgr9 (by have := HBm.out.size; simp; omega) (fun g e => by have := hrb g e; omega)
                have HFIN := mkHid (And.intro hown9 (And.intro hst9 (And.intro hsc9 hB9)))
                clear hown9 hgr9 hst9 hsc9 hB9 hrb hownO
                go_wp2_with fail
                go_roundw
                case rel =>
                  obtain ⟨hown9, hst9, hsc9, hB9⟩ := HFIN.out
                  obtain ⟨k', hk'⟩ : ∃ k', N - k = k' + 1 := ⟨N - k - 1, by omega⟩
                  refine ⟨k + 1, zs ++ [([.string t1, .string t2, .slice aF fl.length cF, .slice aM ml.length cM], ⟨t1, t2, fl, ml⟩)], q, bm, by omega, by go_num, by have := HZL.out; simp; omega, ?_, ?_, hsc9, hqm, ?_, ?_, hB9⟩
                  · rw [List.length_append, snoc_flat]
                    exact hown9
                  · show ∀ z ∈ _, _
                    intro z hz
                    rcases List.mem_append.1 hz with hz | hz
                    · exact ⟨(HZ8.out z hz).1, (HZ8.out z hz).2.stp hst9⟩
                    · rw [List.mem_singleton] at hz
                      subst hz
                      exact ⟨rfl, _, _, rfl, SF8.out.stpF hst9, SM0.out.stpM hst9, ht1, ht2⟩
                  · show _ → _
                    intro h
                    have e1 := G8.out h
                    rw [HG.out (by trivial), hk', many_more, e1, show N - (k + 1) = k' by omega, List.map_append]
                    simp only [Option.bind_assoc, Option.bind_some, List.append_assoc, List.map_cons, List.map_nil, List.cons_append, List.nil_append]
                  · show _ → _
                    intro h
                    rw [HG.out (by trivial), hk', many_more, HVM.out h]
                    rfl
                case measure => simp [intOf]; omega
          have hlt2 : j < m := by simp at hgo2; exact hgo2.1
          have hbf2 : bb = false := by simp at hgo2; exact hgo2.2
          subst hbf2
          rw [hgo2]
          clear hgo2
          obtain ⟨j', hj'⟩ : ∃ j', m - j = j' + 1 := ⟨m - j - 1, by omega⟩
          have HJ := mkHid hj'
          clear hj'
          go_wp2_with fail
          refine (text_s _ X s q false hsci hq hs).mono ?_
          rintro r v1 ⟨tf, q1, b4, rfl, htf, o1⟩
          have hst := res_step (P := pClass s p) (Q := pText s q) (K := fun a => ((pKind s a.2).bind fun b => some ((⟨a.1, b.1⟩ : FieldD), b.2)).bind fun x => (((pMany (pField s) j' x.2).bind fun y => some (x.1 :: y.1, y.2)).bind fun y => some (fs.map (·.2) ++ y.1, y.2)).bind (fun c => (pCounted s (pMeth s) c.2).bind fun d => some ((⟨t1, t2, c.1, d.1⟩ : ClassD), d.2))) (b := false) (fun _ => by rw [HGF.out (by trivial), HJ.out, many_more, pField]; simp only [Option.bind_assoc]) (fun h => by cases h) o1.good o1.wrong
          have G4 := mkHid hst.1
          have V4 := mkHid hst.2
          clear hst
          have hg4 := o1.grown
          have hv1 := o1.sc.lt
          have hsz4 := hg4.size
          go_wp2_with fail
          refine (kind_s _ X s q1 b4 (o1.sc.alloc _) o1.le hs).mono ?_
          rintro r v2 ⟨kd, q2, b5, rfl, hkd, o2⟩
          have hst := res_step (P := pClass s p) (Q := pKind s q1) (K := fun b => (((pMany (pField s) j' b.2).bind fun y => some ((⟨tf, b.1⟩ : FieldD) :: y.1, y.2)).bind fun y => some (fs.map (·.2) ++ y.1, y.2)).bind (fun c => (pCounted s (pMeth s) c.2).bind fun d => some ((⟨t1, t2, c.1, d.1⟩ : ClassD), d.2))) (fun h => by rw [G4.out h]; simp only [Option.bind_assoc, Option.bind_some]) V4.out o2.good o2.wrong
          have G5 := mkHid hst.1
          have V5 := mkHid hst.2
          clear hst G4 V4
          have hg5 : v1.grownBy v2 (some X) := grown_trans (grown_alloc (World.grownBy.refl _ _) _) o2.grown
          have hgv := grown_trans hg4 hg5
          have hgw := grown_trans hgi hgv
          have eF := keepBlk (newBlk v1 (.cells #[.string tf, .int .i64 0, .string ⟨#[]⟩] 53)) o2.grown (by omega)
          have eC4 := keepBlk HE.out hgv hCX
          have fl := blk_ltR eF
          have cl := blk_ltR eC4
          have y0 := cell_ofR eF 0 (x := .string tf) rfl
          have y1 := cell_ofR eF 1 (x := .int .i64 0) rfl
          have y2 := cell_ofR eF 2 (x := .string ⟨#[]⟩) rfl
          have z1 := frz eF 1
          have z2 := frz eF 2
          have x2 := cell_ofR eC4 2 (x := vF) rfl
          have hFC : v1.heap.size ≠ C := by omega
          have hCF : C ≠ v1.heap.size := by omega
          have hFX : v1.heap.size ≠ X := by omega
          have hownV := hownF.kept hgv (own_ne hownF (by omega))
          have hgs : v2.grownBy ((v2.setCell ⟨v1.heap.size, 1, none⟩ (.int .i64 kd.kind)).setCell ⟨v1.heap.size, 2, none⟩ (.string kd.cls)) (some v1.heap.size) := by
            refine grown_set ?_ _ _ (Or.inl rfl)
            refine grown_set ?_ _ _ (Or.inl rfl)
            exact World.grownBy.refl _ _
          have hownW := hownV.kept hgs (by
            right
            intro e
            have := (hownF.lt _ e).2
            omega)
          have eCW := setBlk (setBlk eC4 hCF (j := 1) (.int .i64 kd.kind)) hCF (j := 2) (.string kd.cls)
          have hscW : Sc ((v2.setCell ⟨v1.heap.size, 1, none⟩ (.int .i64 kd.kind)).setCell ⟨v1.heap.size, 2, none⟩ (.string kd.cls)) X s q2 b5 := (o2.sc.setOther _ _ (by simp; omega)).setOther _ _ (by simp; omega)
          have hgW : wc.grownBy ((v2.setCell ⟨v1.heap.size, 1, none⟩ (.int .i64 kd.kind)).setCell ⟨v1.heap.size, 2, none⟩ (.string kd.cls)) (some X) := by
            refine grown_set ?_ _ _ (Or.inr (Nat.le_trans hgi.size hsz4))
            refine grown_set ?_ _ _ (Or.inr (Nat.le_trans hgi.size hsz4))
            exact hgw
          have hq2 := o2.le
          have hszW : v2.heap.size = ((v2.setCell ⟨v1.heap.size, 1, none⟩ (.int .i64 kd.kind)).setCell ⟨v1.heap.size, 2, none⟩ (.string kd.cls)).heap.size := by simp [World.setCell]
          have HEN := mkHid (fun o => (show ((((v2.setCell ⟨v1.heap.size, 1, none⟩ (.int .i64 kd.kind)).setCell ⟨v1.heap.size, 2, none⟩ (.string kd.cls)).alloc o).heap[v2.heap.size]? = some o) by have := newBlk ((v2.setCell ⟨v1.heap.size, 1, none⟩ (.int .i64 kd.kind)).setCell ⟨v1.heap.size, 2, none⟩ (.string kd.cls)) o; rw [← hszW] at this; exact this))
          have HWW := mkHid (And.intro eCW (And.intro hscW (And.intro hgW hszW)))
          have HOW := mkHid hownW
          have HOF := mkHid hownF
          have HFL := mkHid hfl
          clear hownV hgs eCW hscW hgW hszW o1 o2 eF eC4 hownF hfl hg4 hg5 hgv hgw
          go_wp2_with (at_builtin; refine wpList_append_own _ rfl _ _ 49 rfl (C + 1) 53 iF (.agg #[.string ⟨#[]⟩, .int .i64 0, .string ⟨#[]⟩]) 3 40 Tryz.underlying49 hiF hzF0 hzF1 hzF2 rfl (by decide) _ _ _ rfl (hownW.alloc _) ⟨v2.heap.size, 0, none⟩ 1 1 [.string tf, .int .i64 kd.kind, .string kd.cls] rfl rfl (by intro j u hj; match j, hj with | 0, hj => simp at hj; subst hj; simp [Addr.add]; exact cell_ofR (HEN.out _) 0 rfl | 1, hj => simp at hj; subst hj; simp [Addr.add]; exact cell_ofR (HEN.out _) 1 rfl | 2, hj => simp at hj; subst hj; simp [Addr.add]; exact cell_ofR (HEN.out _) 2 rfl | j + 3, hj => simp at hj) (by intro u hu; simp at hu; rcases hu with rfl | rfl | rfl <;> rfl) (by have := HFL.out; unfold maxLen; omega) (by have := HFL.out; omega) (by simp; omega) ?_)
          intro vF' w5 hown5 hgr5 _
          obtain ⟨eCW, hscW, hgW, hszW⟩ := HWW.out
          have hrb : ∀ g, vF.ownBlock = some g → C + 1 ≤ g := fun g e => (HOF.out.lt g e).1
          have hal : ∀ o, wc.grownBy (((v2.setCell ⟨v1.heap.size, 1, none⟩ (.int .i64 kd.kind)).setCell ⟨v1.heap.size, 2, none⟩ (.string kd.cls)).alloc o) (some X) := fun o => grown_alloc hgW o
          have eC5 : w5.heap[C]? = some (.cells #[.string t1, .string t2, vF, .slice none 0 0] 61 (0, 0)) := by
            rw [hgr5.block C (by simp [World.setCell]; omega) (fun e => by have := hrb C e.symm; omega), Below.heap_alloc _ _ _ (blk_ltR eCW)]
            exact eCW
          have hsc5 : Sc w5 X s q2 b5 := by
            refine hscW.kept ?_
            rw [hgr5.block X (by have := hscW.lt; simp [World.setCell] at this ⊢; omega) (fun e => by have := hrb X e.symm; omega), Below.heap_alloc _ _ _ hscW.lt]
          have hg5w : wc.grownBy w5 (some X) := grown_own (hal _) hgr5 (fun g e => by have := hrb g e; omega)
          have hown6 := ownsRow_setCell_below hown5 (a := ⟨C, 2, none⟩) (by simp) vF'
          have eC6 := heap_set_own (j := 2) eC5 vF'
          have hsc6 : Sc (w5.setCell ⟨C, 2, none⟩ vF') X s q2 b5 := hsc5.setOther _ _ (by simp; omega)
          have hg6 : wc.grownBy (w5.setCell ⟨C, 2, none⟩ vF') (some X) := grown_set hg5w _ _ (Or.inr hCr)
          have cl5 := blk_ltR eC5
          have x25 := cell_ofR eC5 2 (x := vF) rfl
          have z25 := frz eC5 2
          have HFIN := mkHid (And.intro hown6 (And.intro eC6 (And.intro hsc6 hg6)))
          have ho7 := hown5.2
          clear hown5 hgr5 hal eC5 hsc5 hg5w hown6 eC6 hsc6 hg6 eCW hscW hgW hszW hrb HWW HOW HEN
          rcases ho7 with ⟨_, hbad7⟩ | ⟨g7, cap7, cur7, rfl, hrest7⟩
          · omega
          clear hrest7
          go_wp2_with fail
          go_roundw
          case rel =>
            obtain ⟨hown6, eC6, hsc6, hg6⟩ := HFIN.out
            refine ⟨j + 1, fs ++ [([.string tf, .int .i64 kd.kind, .string kd.cls], ⟨tf, kd⟩)], q2, b5, _, by omega, by go_num, by have := HFL.out; simp; omega, eC6, ?_, ?_, hsc6, hq2, ?_, V5.out, hg6⟩
            · rw [List.length_append, snoc_flat]
              exact hown6
            · show ∀ z ∈ _, _
              intro z hz
              rcases List.mem_append.1 hz with hz | hz
              · exact HF.out z hz
              · rw [List.mem_singleton] at hz
                subst hz
                exact ⟨rfl, rfl, htf, hkd⟩
            · show _ → _
              intro h
              have e := HJ.out
              rw [G5.out h, show m - (j + 1) = j' by omega, List.map_append]
              simp only [Option.bind_assoc, Option.bind_some, List.append_assoc, List.map_cons, List.map_nil, List.cons_append, List.nil_append]
          case measure => simp [intOf]; omega
end Go.Proofs.YtaekpdcnnkmahaaGreatDoor
