/- SpanInside: the whole. -/
import Derived.Test.YtjleflfncijnpaaDoorRows
import Derived.Test.YtjleflfncijnpaaDoorBase
import Derived.Test.YtjleflfncijnpaaDoorFacts
import Derived.Test.YtjleflfncijnpaaDoorTwo
import Derived.Deep.RegionHeld3
import Derived.Deep.RegionWith
import Derived.Deep.QuietTactic
import Derived.BigQuiet
import Derived.Test.YtjleflfncijnpaaDoorW
import Derived.Test.YtjleflfncijnpaaDoorAsks
import Derived.Test.YtjleflfncijnpaaDoorOut
import Derived.Test.YtjleflfncijnpaaDoorSeq
import Derived.Test.YtjleflfncijnpaaDoorTwo
import Derived.Test.YtjleflfncijnpaaDoorQuo
import Derived.Test.YtjleflfncijnpaaDoorHoldsM
import Derived.Test.YtjleflfncijnpaaDoorLawHolds
import Derived.Test.YtjleflfncijnpaaDoorInsideM
import Derived.Test.YtjleflfncijnpaaDoorInsideA
import Derived.Test.YtjleflfncijnpaaDoorLawInside
import Derived.Test.YtjleflfncijnpaaDoorDivR
import Derived.Test.YtjleflfncijnpaaDoorMulR
import Derived.Test.YtjleflfncijnpaaDoorRootT
import Derived.Test.YtjleflfncijnpaaDoorPicks
import Derived.Test.YtjleflfncijnpaaDoorSets
import Derived.Test.YtjleflfncijnpaaDoorSums
import Derived.Test.YtjleflfncijnpaaDoorSums2
import Derived.Test.YtjleflfncijnpaaDoorTurnT
import Derived.Test.YtjleflfncijnpaaDoorAlive
set_option linter.unusedVariables false
set_option linter.unusedSimpArgs false
set_option maxHeartbeats 4000000
set_option maxRecDepth 100000
namespace Go.Proofs.YtjleflfncijnpaaDoor
open Go Go.RowKit
theorem inside_bad (al ah bl bh n0 n1 n2 n3 : Int) (w : World) (h : (-9223372036854775808 ≤ al ∧ al ≤ 9223372036854775807) ∧ (-9223372036854775808 ≤ ah ∧ ah ≤ 9223372036854775807) ∧ (-9223372036854775808 ≤ bl ∧ bl ≤ 9223372036854775807) ∧ (-9223372036854775808 ≤ bh ∧ bh ≤ 9223372036854775807)) (hc : ¬ (chk al ah = 0 ∧ chk bl bh = 0)) :
    Calls Tryd.prog 7 #[.agg #[.int .i64 al, .int .i64 ah], .agg #[.int .i64 bl, .int .i64 bh], .agg #[.int .u64 n0, .int .u64 n1, .int .u64 n2, .int .u64 n3]] w fun e w' => e = .returned (.bool true) ∧ Below w.heap.size w w' := by
  obtain ⟨⟨a1, a2⟩, ⟨b1, b2⟩, ⟨c1, c2⟩, d1, d2⟩ := h
  have hq := hid hc
  clear hc
  by_cases e : chk al ah = 0
  · have e2 : (chk bl bh != 0) = true := by have := hq.out; simp [e] at this; simpa using this
    go_enter Tryd.func7, Tryd.ntmps7
    go_wp2_with fail
    refine useK w (alive_any _) (by go_grown) ?_; rintro e w1 rfl hB1 hk1 hs1
    replace p00 : w1.cell? ⟨w.heap.size, 0, none⟩ = some (.int .i64 al) := hk1 _ _ _ (by simp [go_sem])
    replace p01 : w1.cell? ⟨w.heap.size, 1, none⟩ = some (.int .i64 ah) := hk1 _ _ _ (by simp [go_sem])
    replace p10 : w1.cell? ⟨w.heap.size + 1, 0, none⟩ = some (.int .i64 bl) := hk1 _ _ _ (by simp [go_sem])
    replace p11 : w1.cell? ⟨w.heap.size + 1, 1, none⟩ = some (.int .i64 bh) := hk1 _ _ _ (by simp [go_sem])
    replace p20 : w1.cell? ⟨w.heap.size + 1 + 1, 0, none⟩ = some (.int .u64 n0) := hk1 _ _ _ (by simp [go_sem])
    replace p21 : w1.cell? ⟨w.heap.size + 1 + 1, 1, none⟩ = some (.int .u64 n1) := hk1 _ _ _ (by simp [go_sem])
    replace p22 : w1.cell? ⟨w.heap.size + 1 + 1, 2, none⟩ = some (.int .u64 n2) := hk1 _ _ _ (by simp [go_sem])
    replace p23 : w1.cell? ⟨w.heap.size + 1 + 1, 3, none⟩ = some (.int .u64 n3) := hk1 _ _ _ (by simp [go_sem])
    have bp00 : w.heap.size < w1.heap.size := World.block_lt_of_cell? w1 ⟨w.heap.size, 0, none⟩ p00
    have bp10 : w.heap.size + 1 < w1.heap.size := World.block_lt_of_cell? w1 ⟨w.heap.size + 1, 0, none⟩ p10
    have bp20 : w.heap.size + 1 + 1 < w1.heap.size := World.block_lt_of_cell? w1 ⟨w.heap.size + 1 + 1, 0, none⟩ p20
    clear hk1
    go_wp2_with fail
    refine useK w (check_any _ _ _ (by omega)) (by go_grown) ?_; rintro e w2 rfl hB2 hk2 hs2
    replace p00 : w2.cell? ⟨w.heap.size, 0, none⟩ = some (.int .i64 al) := hk2 _ _ _ (p00)
    replace p01 : w2.cell? ⟨w.heap.size, 1, none⟩ = some (.int .i64 ah) := hk2 _ _ _ (p01)
    replace p10 : w2.cell? ⟨w.heap.size + 1, 0, none⟩ = some (.int .i64 bl) := hk2 _ _ _ (p10)
    replace p11 : w2.cell? ⟨w.heap.size + 1, 1, none⟩ = some (.int .i64 bh) := hk2 _ _ _ (p11)
    replace p20 : w2.cell? ⟨w.heap.size + 1 + 1, 0, none⟩ = some (.int .u64 n0) := hk2 _ _ _ (p20)
    replace p21 : w2.cell? ⟨w.heap.size + 1 + 1, 1, none⟩ = some (.int .u64 n1) := hk2 _ _ _ (p21)
    replace p22 : w2.cell? ⟨w.heap.size + 1 + 1, 2, none⟩ = some (.int .u64 n2) := hk2 _ _ _ (p22)
    replace p23 : w2.cell? ⟨w.heap.size + 1 + 1, 3, none⟩ = some (.int .u64 n3) := hk2 _ _ _ (p23)
    have bp00 : w.heap.size < w2.heap.size := World.block_lt_of_cell? w2 ⟨w.heap.size, 0, none⟩ p00
    have bp10 : w.heap.size + 1 < w2.heap.size := World.block_lt_of_cell? w2 ⟨w.heap.size + 1, 0, none⟩ p10
    have bp20 : w.heap.size + 1 + 1 < w2.heap.size := World.block_lt_of_cell? w2 ⟨w.heap.size + 1 + 1, 0, none⟩ p20
    clear hk2
    go_wp2_with fail
    refine useK w (check_any _ _ _ (by omega)) (by go_grown) ?_; rintro e w3 rfl hB3 hk3 hs3
    replace p00 : w3.cell? ⟨w.heap.size, 0, none⟩ = some (.int .i64 al) := hk3 _ _ _ (p00)
    replace p01 : w3.cell? ⟨w.heap.size, 1, none⟩ = some (.int .i64 ah) := hk3 _ _ _ (p01)
    replace p10 : w3.cell? ⟨w.heap.size + 1, 0, none⟩ = some (.int .i64 bl) := hk3 _ _ _ (p10)
    replace p11 : w3.cell? ⟨w.heap.size + 1, 1, none⟩ = some (.int .i64 bh) := hk3 _ _ _ (p11)
    replace p20 : w3.cell? ⟨w.heap.size + 1 + 1, 0, none⟩ = some (.int .u64 n0) := hk3 _ _ _ (p20)
    replace p21 : w3.cell? ⟨w.heap.size + 1 + 1, 1, none⟩ = some (.int .u64 n1) := hk3 _ _ _ (p21)
    replace p22 : w3.cell? ⟨w.heap.size + 1 + 1, 2, none⟩ = some (.int .u64 n2) := hk3 _ _ _ (p22)
    replace p23 : w3.cell? ⟨w.heap.size + 1 + 1, 3, none⟩ = some (.int .u64 n3) := hk3 _ _ _ (p23)
    have bp00 : w.heap.size < w3.heap.size := World.block_lt_of_cell? w3 ⟨w.heap.size, 0, none⟩ p00
    have bp10 : w.heap.size + 1 < w3.heap.size := World.block_lt_of_cell? w3 ⟨w.heap.size + 1, 0, none⟩ p10
    have bp20 : w.heap.size + 1 + 1 < w3.heap.size := World.block_lt_of_cell? w3 ⟨w.heap.size + 1 + 1, 0, none⟩ p20
    clear hk3
    go_wp2_with fail
    go_ret
    exact ⟨rfl, by go_grown⟩
  · have e2 : (chk al ah != 0) = true := by simpa using e
    go_enter Tryd.func7, Tryd.ntmps7
    go_wp2_with fail
    refine useK w (alive_any _) (by go_grown) ?_; rintro e w1 rfl hB1 hk1 hs1
    replace p00 : w1.cell? ⟨w.heap.size, 0, none⟩ = some (.int .i64 al) := hk1 _ _ _ (by simp [go_sem])
    replace p01 : w1.cell? ⟨w.heap.size, 1, none⟩ = some (.int .i64 ah) := hk1 _ _ _ (by simp [go_sem])
    replace p10 : w1.cell? ⟨w.heap.size + 1, 0, none⟩ = some (.int .i64 bl) := hk1 _ _ _ (by simp [go_sem])
    replace p11 : w1.cell? ⟨w.heap.size + 1, 1, none⟩ = some (.int .i64 bh) := hk1 _ _ _ (by simp [go_sem])
    replace p20 : w1.cell? ⟨w.heap.size + 1 + 1, 0, none⟩ = some (.int .u64 n0) := hk1 _ _ _ (by simp [go_sem])
    replace p21 : w1.cell? ⟨w.heap.size + 1 + 1, 1, none⟩ = some (.int .u64 n1) := hk1 _ _ _ (by simp [go_sem])
    replace p22 : w1.cell? ⟨w.heap.size + 1 + 1, 2, none⟩ = some (.int .u64 n2) := hk1 _ _ _ (by simp [go_sem])
    replace p23 : w1.cell? ⟨w.heap.size + 1 + 1, 3, none⟩ = some (.int .u64 n3) := hk1 _ _ _ (by simp [go_sem])
    have bp00 : w.heap.size < w1.heap.size := World.block_lt_of_cell? w1 ⟨w.heap.size, 0, none⟩ p00
    have bp10 : w.heap.size + 1 < w1.heap.size := World.block_lt_of_cell? w1 ⟨w.heap.size + 1, 0, none⟩ p10
    have bp20 : w.heap.size + 1 + 1 < w1.heap.size := World.block_lt_of_cell? w1 ⟨w.heap.size + 1 + 1, 0, none⟩ p20
    clear hk1
    go_wp2_with fail
    refine useK w (check_any _ _ _ (by omega)) (by go_grown) ?_; rintro e w2 rfl hB2 hk2 hs2
    replace p00 : w2.cell? ⟨w.heap.size, 0, none⟩ = some (.int .i64 al) := hk2 _ _ _ (p00)
    replace p01 : w2.cell? ⟨w.heap.size, 1, none⟩ = some (.int .i64 ah) := hk2 _ _ _ (p01)
    replace p10 : w2.cell? ⟨w.heap.size + 1, 0, none⟩ = some (.int .i64 bl) := hk2 _ _ _ (p10)
    replace p11 : w2.cell? ⟨w.heap.size + 1, 1, none⟩ = some (.int .i64 bh) := hk2 _ _ _ (p11)
    replace p20 : w2.cell? ⟨w.heap.size + 1 + 1, 0, none⟩ = some (.int .u64 n0) := hk2 _ _ _ (p20)
    replace p21 : w2.cell? ⟨w.heap.size + 1 + 1, 1, none⟩ = some (.int .u64 n1) := hk2 _ _ _ (p21)
    replace p22 : w2.cell? ⟨w.heap.size + 1 + 1, 2, none⟩ = some (.int .u64 n2) := hk2 _ _ _ (p22)
    replace p23 : w2.cell? ⟨w.heap.size + 1 + 1, 3, none⟩ = some (.int .u64 n3) := hk2 _ _ _ (p23)
    have bp00 : w.heap.size < w2.heap.size := World.block_lt_of_cell? w2 ⟨w.heap.size, 0, none⟩ p00
    have bp10 : w.heap.size + 1 < w2.heap.size := World.block_lt_of_cell? w2 ⟨w.heap.size + 1, 0, none⟩ p10
    have bp20 : w.heap.size + 1 + 1 < w2.heap.size := World.block_lt_of_cell? w2 ⟨w.heap.size + 1 + 1, 0, none⟩ p20
    clear hk2
    go_wp2_with fail
    go_ret
    exact ⟨rfl, by go_grown⟩
theorem bd_of {p : Int × Int × Int} {lo hi e : Int} (h : p = (lo, hi, e)) (v : (-9223372036854775807 ≤ lo ∧ lo ≤ 9223372036854775807) ∧ (-9223372036854775807 ≤ hi ∧ hi ≤ 9223372036854775807)) : (-9223372036854775808 ≤ p.1 ∧ p.1 ≤ 9223372036854775807) ∧ (-9223372036854775808 ≤ p.2.1 ∧ p.2.1 ≤ 9223372036854775807) := by
  subst h; dsimp only; omega
section
variable {al ah bl bh : Int}
theorem add_bd (h : bothS al ah bl bh = 0) : (-9223372036854775808 ≤ (addS al ah bl bh).1 ∧ (addS al ah bl bh).1 ≤ 9223372036854775807) ∧ (-9223372036854775808 ≤ (addS al ah bl bh).2.1 ∧ (addS al ah bl bh).2.1 ≤ 9223372036854775807) := by obtain ⟨_, _, _, q, v, _⟩ := add_cases al ah bl bh h; exact bd_of q v
theorem sub_bd (h : bothS al ah bl bh = 0) : (-9223372036854775808 ≤ (subS al ah bl bh).1 ∧ (subS al ah bl bh).1 ≤ 9223372036854775807) ∧ (-9223372036854775808 ≤ (subS al ah bl bh).2.1 ∧ (subS al ah bl bh).2.1 ≤ 9223372036854775807) := by obtain ⟨_, _, _, q, v, _⟩ := sub_cases al ah bl bh h; exact bd_of q v
theorem mulS_bd (h : bothS al ah bl bh = 0) : (-9223372036854775808 ≤ (mulS al ah bl bh).1 ∧ (mulS al ah bl bh).1 ≤ 9223372036854775807) ∧ (-9223372036854775808 ≤ (mulS al ah bl bh).2.1 ∧ (mulS al ah bl bh).2.1 ≤ 9223372036854775807) := by obtain ⟨_, _, _, q, v, _⟩ := mul_cases al ah bl bh h; exact bd_of q v
theorem div_bd (h : bothS al ah bl bh = 0) (k : al ≤ ah ∧ bl ≤ bh) : (-9223372036854775808 ≤ (divS al ah bl bh).1 ∧ (divS al ah bl bh).1 ≤ 9223372036854775807) ∧ (-9223372036854775808 ≤ (divS al ah bl bh).2.1 ∧ (divS al ah bl bh).2.1 ≤ 9223372036854775807) := by obtain ⟨_, _, _, q, v, _⟩ := div_cases al ah bl bh h k; exact bd_of q v
theorem most_bd (h : bothS al ah bl bh = 0) (k : (-9223372036854775808 ≤ al ∧ al ≤ 9223372036854775807) ∧ (-9223372036854775808 ≤ ah ∧ ah ≤ 9223372036854775807) ∧ (-9223372036854775808 ≤ bl ∧ bl ≤ 9223372036854775807) ∧ (-9223372036854775808 ≤ bh ∧ bh ≤ 9223372036854775807)) : (-9223372036854775808 ≤ (mostS al ah bl bh).1 ∧ (mostS al ah bl bh).1 ≤ 9223372036854775807) ∧ (-9223372036854775808 ≤ (mostS al ah bl bh).2.1 ∧ (mostS al ah bl bh).2.1 ≤ 9223372036854775807) := by unfold mostS; rw [if_pos h]; dsimp only; omega
theorem least_bd (h : bothS al ah bl bh = 0) (k : (-9223372036854775808 ≤ al ∧ al ≤ 9223372036854775807) ∧ (-9223372036854775808 ≤ ah ∧ ah ≤ 9223372036854775807) ∧ (-9223372036854775808 ≤ bl ∧ bl ≤ 9223372036854775807) ∧ (-9223372036854775808 ≤ bh ∧ bh ≤ 9223372036854775807)) : (-9223372036854775808 ≤ (leastS al ah bl bh).1 ∧ (leastS al ah bl bh).1 ≤ 9223372036854775807) ∧ (-9223372036854775808 ≤ (leastS al ah bl bh).2.1 ∧ (leastS al ah bl bh).2.1 ≤ 9223372036854775807) := by unfold leastS; rw [if_pos h]; dsimp only; omega
theorem hull_bd (h : bothS al ah bl bh = 0) (k : (-9223372036854775808 ≤ al ∧ al ≤ 9223372036854775807) ∧ (-9223372036854775808 ≤ ah ∧ ah ≤ 9223372036854775807) ∧ (-9223372036854775808 ≤ bl ∧ bl ≤ 9223372036854775807) ∧ (-9223372036854775808 ≤ bh ∧ bh ≤ 9223372036854775807)) : (-9223372036854775808 ≤ (hullS al ah bl bh).1 ∧ (hullS al ah bl bh).1 ≤ 9223372036854775807) ∧ (-9223372036854775808 ≤ (hullS al ah bl bh).2.1 ∧ (hullS al ah bl bh).2.1 ≤ 9223372036854775807) := by unfold hullS; rw [if_pos h]; dsimp only; omega
theorem neg_bd (h : chk al ah = 0) (k : (-9223372036854775807 ≤ al ∧ al ≤ 9223372036854775807) ∧ (-9223372036854775807 ≤ ah ∧ ah ≤ 9223372036854775807)) : (-9223372036854775808 ≤ (negS al ah).1 ∧ (negS al ah).1 ≤ 9223372036854775807) ∧ (-9223372036854775808 ≤ (negS al ah).2.1 ∧ (negS al ah).2.1 ≤ 9223372036854775807) := by unfold negS; rw [if_pos h]; dsimp only; omega
theorem square_bd (h : chk al ah = 0) (k : -9223372036854775807 ≤ al ∧ al ≤ ah) : (-9223372036854775808 ≤ (squareS al ah).1 ∧ (squareS al ah).1 ≤ 9223372036854775807) ∧ (-9223372036854775808 ≤ (squareS al ah).2.1 ∧ (squareS al ah).2.1 ≤ 9223372036854775807) := by obtain ⟨_, _, _, q, v, _⟩ := square_cases al ah h k; exact bd_of q v
theorem turn_bd (h : al ≤ ah) (ha : (-9223372036854775808 ≤ al ∧ al ≤ 9223372036854775807) ∧ (-9223372036854775808 ≤ ah ∧ ah ≤ 9223372036854775807)) : (-9223372036854775808 ≤ (turnS al ah).1 ∧ (turnS al ah).1 ≤ 9223372036854775807) ∧ (-9223372036854775808 ≤ (turnS al ah).2.1 ∧ (turnS al ah).2.1 ≤ 9223372036854775807) ∧ (-9223372036854775808 ≤ (turnS al ah).2.2.1 ∧ (turnS al ah).2.2.1 ≤ 9223372036854775807) ∧ (-9223372036854775808 ≤ (turnS al ah).2.2.2.1 ∧ (turnS al ah).2.2.2.1 ≤ 9223372036854775807) := by
  unfold turnS
  by_cases c : chk al ah = 0
  · rw [if_pos c]
    by_cases d : -4294967296 ≤ al ∧ ah ≤ 4294967296
    · rw [if_pos d]
      obtain ⟨a0, a1, a2, a3⟩ := abs_bd c ⟨d.1, h, d.2⟩
      obtain ⟨m1, m2, m3, _⟩ := cos_bd (t := (absS al ah).1) (by omega)
      obtain ⟨n1, n2, n3, _⟩ := cos_bd (t := (absS al ah).2.1) (by omega)
      obtain ⟨r1, r2, r3, _⟩ := sin_bd (t := al) (by omega)
      obtain ⟨s1, s2, s3, _⟩ := sin_bd (t := ah) (by omega)
      dsimp only
      omega
    · rw [if_neg d]; dsimp only; omega
  · rw [if_neg c]; dsimp only; omega
end
theorem lawInside_any (al ah bl bh n0 n1 n2 n3 : Int) (w : World) (h : (-9223372036854775808 ≤ al ∧ al ≤ 9223372036854775807) ∧ (-9223372036854775808 ≤ ah ∧ ah ≤ 9223372036854775807) ∧ (-9223372036854775808 ≤ bl ∧ bl ≤ 9223372036854775807) ∧ (-9223372036854775808 ≤ bh ∧ bh ≤ 9223372036854775807)) (hn : (0 ≤ n0 ∧ n0 ≤ 18446744073709551615) ∧ (0 ≤ n1 ∧ n1 ≤ 18446744073709551615) ∧ (0 ≤ n2 ∧ n2 ≤ 18446744073709551615) ∧ (0 ≤ n3 ∧ n3 ≤ 18446744073709551615)) :
    Calls Tryd.prog 7 #[.agg #[.int .i64 al, .int .i64 ah], .agg #[.int .i64 bl, .int .i64 bh], .agg #[.int .u64 n0, .int .u64 n1, .int .u64 n2, .int .u64 n3]] w fun e w' => e = .returned (.bool true) ∧ Below w.heap.size w w' := by
  rcases chk_cases al ah with ⟨e, k1, k2⟩ | ⟨e, k1⟩
  · rcases chk_cases bl bh with ⟨e2, k3, k4⟩ | ⟨e2, k3⟩
    · have px := pick_bd (by_ := n0) k2
      have px' := pick_bd (by_ := n1) k2
      have py := pick_bd (by_ := n2) k4
      have py' := pick_bd (by_ := n3) k4
      have i1 := fun W => inner_go al ah n0 n1 _ _ W (fun w => pick_any al ah n0 w (by omega) ⟨k1, k2⟩ hn.1) (fun w => pick_any al ah n1 w (by omega) ⟨k1, k2⟩ hn.2.1)
      have i2 := fun W => inner_go bl bh n2 n3 _ _ W (fun w => pick_any bl bh n2 w (by omega) ⟨k3, k4⟩ hn.2.2.1) (fun w => pick_any bl bh n3 w (by omega) ⟨k3, k4⟩ hn.2.2.2)
      have P : Parts al ah bl bh (min (pickN al ah n0) (pickN al ah n1)) (max (pickN al ah n0) (pickN al ah n1)) (min (pickN bl bh n2) (pickN bl bh n3)) (max (pickN bl bh n2) (pickN bl bh n3)) := ⟨by omega, by omega, by omega, by omega⟩
      generalize min (pickN al ah n0) (pickN al ah n1) = xl at *
      generalize max (pickN al ah n0) (pickN al ah n1) = xh at *
      generalize min (pickN bl bh n2) (pickN bl bh n3) = yl at *
      generalize max (pickN bl bh n2) (pickN bl bh n3) = yh at *
      clear px px' py py'
      obtain ⟨b1, b2⟩ := P.both
      obtain ⟨c1, c2, c3, c4⟩ := P.chks
      obtain ⟨pa, pb, hx, hy⟩ := P
      have P : Parts al ah bl bh xl xh yl yh := ⟨pa, pb, hx, hy⟩
      have hxy : (-9223372036854775808 ≤ xl ∧ xl ≤ 9223372036854775807) ∧ (-9223372036854775808 ≤ xh ∧ xh ≤ 9223372036854775807) ∧ (-9223372036854775808 ≤ yl ∧ yl ≤ 9223372036854775807) ∧ (-9223372036854775808 ≤ yh ∧ yh ≤ 9223372036854775807) := by omega
      refine inside_go al ah bl bh xl xh yl yh n0 n1 n2 n3 _ _ _ _ _ _ _ _ _ _ w
        (fun w => by have := check_any al ah w (by omega); rw [e] at this; exact this) (fun w => by have := check_any bl bh w (by omega); rw [e2] at this; exact this) i1 i2
        ⟨_, _, _, _, _, _, fun w => add_any xl xh yl yh w hxy, fun w => add_any al ah bl bh w h, fun w => lwithin_any _ _ _ _ _ _ w ⟨(add_bd b2).1, (add_bd b2).2, (add_bd b1).1, (add_bd b1).2⟩ (add_in P)⟩
        ⟨_, _, _, _, _, _, fun w => sub_any xl xh yl yh w hxy, fun w => sub_any al ah bl bh w h, fun w => lwithin_any _ _ _ _ _ _ w ⟨(sub_bd b2).1, (sub_bd b2).2, (sub_bd b1).1, (sub_bd b1).2⟩ (sub_in P)⟩
        ⟨_, _, _, _, _, _, fun w => mul_any xl xh yl yh w hxy, fun w => mul_any al ah bl bh w h, fun w => lwithin_any _ _ _ _ _ _ w ⟨(mulS_bd b2).1, (mulS_bd b2).2, (mulS_bd b1).1, (mulS_bd b1).2⟩ (mul_in P)⟩
        ⟨_, _, _, _, _, _, fun w => div_any xl xh yl yh w hxy, fun w => div_any al ah bl bh w h, fun w => lwithin_any _ _ _ _ _ _ w ⟨(div_bd b2 ⟨by omega, by omega⟩).1, (div_bd b2 ⟨by omega, by omega⟩).2, (div_bd b1 ⟨k2, k4⟩).1, (div_bd b1 ⟨k2, k4⟩).2⟩ (div_in P)⟩
        ⟨_, _, _, _, _, _, fun w => most_any xl xh yl yh w hxy, fun w => most_any al ah bl bh w h, fun w => lwithin_any _ _ _ _ _ _ w ⟨(most_bd b2 hxy).1, (most_bd b2 hxy).2, (most_bd b1 h).1, (most_bd b1 h).2⟩ (most_in P)⟩
        ⟨_, _, _, _, _, _, fun w => least_any xl xh yl yh w hxy, fun w => least_any al ah bl bh w h, fun w => lwithin_any _ _ _ _ _ _ w ⟨(least_bd b2 hxy).1, (least_bd b2 hxy).2, (least_bd b1 h).1, (least_bd b1 h).2⟩ (least_in P)⟩
        ⟨_, _, _, _, _, _, fun w => hull_any xl xh yl yh w hxy, fun w => hull_any al ah bl bh w h, fun w => lwithin_any _ _ _ _ _ _ w ⟨(hull_bd b2 hxy).1, (hull_bd b2 hxy).2, (hull_bd b1 h).1, (hull_bd b1 h).2⟩ (hull_in P)⟩
        ⟨_, _, _, _, _, _, fun w => neg_any xl xh w ⟨hxy.1, hxy.2.1⟩, fun w => neg_any al ah w ⟨h.1, h.2.1⟩, fun w => lwithin_any _ _ _ _ _ _ w ⟨(neg_bd c3 (by omega)).1, (neg_bd c3 (by omega)).2, (neg_bd c1 (by omega)).1, (neg_bd c1 (by omega)).2⟩ (neg_in P)⟩
        ⟨_, _, _, _, _, _, fun w => square_any xl xh w ⟨hxy.1, hxy.2.1⟩, fun w => square_any al ah w ⟨h.1, h.2.1⟩, fun w => lwithin_any _ _ _ _ _ _ w ⟨(square_bd c3 (by omega)).1, (square_bd c3 (by omega)).2, (square_bd c1 (by omega)).1, (square_bd c1 (by omega)).2⟩ (square_in P)⟩
        ⟨_, _, _, _, _, _, fun w => abs_any xl xh w ⟨hxy.1, hxy.2.1⟩, fun w => abs_any al ah w ⟨h.1, h.2.1⟩, fun w => lwithin_any _ _ _ _ _ _ w (by have := abs_in' P; omega) (abs_in P)⟩
        (fun w => turn_any xl xh w ⟨hxy.1, hxy.2.1⟩) (fun w => turn_any al ah w ⟨h.1, h.2.1⟩)
        (fun w => lwithin_any _ _ _ _ _ _ w ⟨(turn_bd hx.2.1 ⟨hxy.1, hxy.2.1⟩).1, (turn_bd hx.2.1 ⟨hxy.1, hxy.2.1⟩).2.1, (turn_bd k2 ⟨h.1, h.2.1⟩).1, (turn_bd k2 ⟨h.1, h.2.1⟩).2.1⟩ (turn_in P).1)
        (fun w => lwithin_any _ _ _ _ _ _ w ⟨(turn_bd hx.2.1 ⟨hxy.1, hxy.2.1⟩).2.2.1, (turn_bd hx.2.1 ⟨hxy.1, hxy.2.1⟩).2.2.2, (turn_bd k2 ⟨h.1, h.2.1⟩).2.2.1, (turn_bd k2 ⟨h.1, h.2.1⟩).2.2.2⟩ (turn_in P).2)
    · exact inside_bad al ah bl bh n0 n1 n2 n3 w h (by omega)
  · exact inside_bad al ah bl bh n0 n1 n2 n3 w h (by omega)
end Go.Proofs.YtjleflfncijnpaaDoor
