/- Both directions of a point are on the circle: plain arithmetic. -/
import Derived.Test.YtjleflfncijnpaaDoorRows
import Derived.Test.YtjleflfncijnpaaDoorBase
import Derived.Test.YtjleflfncijnpaaDoorFacts
import Derived.Test.YtjleflfncijnpaaDoorTwo
import Derived.Deep.RegionHeld3
import Derived.Deep.RegionWith
import Derived.Deep.QuietTactic
import Derived.BigQuiet
import Derived.Test.YtjleflfncijnpaaDoorQuo
import Derived.Test.YtjleflfncijnpaaDoorRound
import Derived.Test.YtjleflfncijnpaaDoorScaleM
import Derived.Test.YtjleflfncijnpaaDoorMulR
import Derived.Test.YtjleflfncijnpaaDoorRootM
import Derived.Test.YtjleflfncijnpaaDoorRootT
import Derived.Test.YtjleflfncijnpaaDoorPicks
import Derived.Test.YtjleflfncijnpaaDoorSums
import Derived.Test.YtjleflfncijnpaaDoorSums2
import Derived.Test.YtjleflfncijnpaaDoorHoldsM
import Derived.Test.YtjleflfncijnpaaDoorTurnM
import Derived.Test.YtjleflfncijnpaaDoorShare
import Derived.Test.YtjleflfncijnpaaDoorTurn
import Derived.Test.YtjleflfncijnpaaDoorTurnT
set_option linter.unusedVariables false
set_option linter.unusedSimpArgs false
set_option maxHeartbeats 4000000
set_option maxRecDepth 100000
namespace Go.Proofs.YtjleflfncijnpaaDoor
open Go Go.RowKit
theorem m4 (a b c d : Int) : a * b * (c * d) = a * c * (b * d) := by
  rw [Int.mul_assoc, ← Int.mul_assoc b c d, Int.mul_comm b c, Int.mul_assoc c b d, ← Int.mul_assoc]
theorem circle_id (t : Int) : cosQ t * cosQ t + sinQ t * sinQ t = 18446744073709551616 * (oneQ t * oneQ t) := by
  unfold cosQ sinQ oneQ
  rw [m4, m4 t]
  generalize t * t = S
  simp only [Int.sub_mul, Int.mul_sub, Int.add_mul, Int.mul_add]
  omega
theorem abs_pt {t : Int} (hc : chk t t = 0) : (absS t t).1 = ab t ∧ (absS t t).2.1 = ab t := by
  unfold absS ab
  rw [if_pos hc]
  split
  · rw [if_neg (by omega)]; exact ⟨rfl, rfl⟩
  · rw [if_pos (by omega), if_pos (by omega)]; exact ⟨rfl, rfl⟩
theorem cos_ab (t : Int) : cosQ (ab t) = cosQ t ∧ oneQ (ab t) = oneQ t := by
  unfold cosQ oneQ; rw [ab_sq]; exact ⟨rfl, rfl⟩
theorem turn_pt {t : Int} (h : -4294967296 ≤ t ∧ t ≤ 4294967296) : turnS t t = (cosQ t / oneQ t, cdQ (cosQ t) (oneQ t), sinQ t / oneQ t, cdQ (sinQ t) (oneQ t), 0) := by
  have hc : chk t t = 0 := if_neg (by omega)
  have hp : turnS t t = _ := (if_pos hc).trans (if_pos h)
  rw [hp, (abs_pt hc).1, (abs_pt hc).2, (cos_ab t).1, (cos_ab t).2]
theorem turn_ng {t : Int} (h : -4294967296 ≤ t ∧ t ≤ 4294967296) : turnS (-t) (-t) = (cosQ t / oneQ t, cdQ (cosQ t) (oneQ t), -cdQ (sinQ t) (oneQ t), -(sinQ t / oneQ t), 0) := by
  rw [turn_pt (by omega), (cos_even t).1, (cos_even t).2.1, (cos_even t).2.2, (cd_neg _ _).1, (cd_neg _ _).2]
theorem sq_pos {B : Int} (h : 0 < B) : 0 < B * B := Int.mul_pos h h
/-- The squares, and their sum. -/
theorem circle_sum (t : Int) (h : -4294967296 ≤ t ∧ t ≤ 4294967296) (c1 c2 s1 s2 : Int) (e1 : c1 = cosQ t / oneQ t) (e2 : c2 = cdQ (cosQ t) (oneQ t)) (e3 : s1 = sinQ t / oneQ t) (e4 : s2 = cdQ (sinQ t) (oneQ t)) :
    ∃ x1 x2 y1 y2 z1 z2, squareS c1 c2 = (x1, x2, 0) ∧ squareS s1 s2 = (y1, y2, 0) ∧ addS x1 x2 y1 y2 = (z1, z2, 0) ∧ inS z1 z2 4294967296 = true ∧ ((-9223372036854775807 ≤ x1 ∧ x1 ≤ 9223372036854775807) ∧ (-9223372036854775807 ≤ x2 ∧ x2 ≤ 9223372036854775807) ∧ (-9223372036854775807 ≤ y1 ∧ y1 ≤ 9223372036854775807) ∧ (-9223372036854775807 ≤ y2 ∧ y2 ≤ 9223372036854775807) ∧ (-9223372036854775807 ≤ z1 ∧ z1 ≤ 9223372036854775807) ∧ (-9223372036854775807 ≤ z2 ∧ z2 ≤ 9223372036854775807)) := by
  obtain ⟨a1, a2, a3, hB, _, a4, _⟩ := cos_bd h
  obtain ⟨b1, b2, b3, _, _⟩ := sin_bd h
  rw [← e1, ← e2] at a2
  rw [← e1] at a1
  rw [← e2] at a3
  rw [← e3] at b1
  rw [← e3, ← e4] at b2
  rw [← e4] at b3
  have l1 : c1 * oneQ t ≤ cosQ t := by rw [e1]; exact Int.ediv_mul_le _ (by omega)
  have l2 : cosQ t ≤ c2 * oneQ t := by
    have := Int.ediv_mul_le (-cosQ t) (show oneQ t ≠ 0 by omega)
    rw [e2]; unfold cdQ; rw [Int.neg_mul]; omega
  have l3 : s1 * oneQ t ≤ sinQ t := by rw [e3]; exact Int.ediv_mul_le _ (by omega)
  have l4 : sinQ t ≤ s2 * oneQ t := by
    have := Int.ediv_mul_le (-sinQ t) (show oneQ t ≠ 0 by omega)
    rw [e4]; unfold cdQ; rw [Int.neg_mul]; omega
  have id := circle_id t
  clear e1 e2 e3 e4
  generalize cosQ t = A at *
  generalize sinQ t = X at *
  generalize oneQ t = B at *
  have hc : chk s1 s2 = 0 := if_neg (by omega)
  have hcc : chk c1 c2 = 0 := if_neg (by omega)
  -- sizes of the sine's bounds
  obtain ⟨l, m, hl, h0, h1, h2, h3, h4⟩ : ∃ l m, absS s1 s2 = (l, m, 0) ∧ 0 ≤ l ∧ l ≤ m ∧ m ≤ 4294967296 ∧ l * B * (l * B) ≤ X * X ∧ X * X ≤ m * B * (m * B) := by
    unfold absS
    rw [if_pos hc]
    by_cases p : 0 ≤ s1
    · rw [if_pos p]
      have q := Int.mul_nonneg p (show 0 ≤ B by omega)
      exact ⟨s1, s2, rfl, p, b2, b3, sq_le q l3, sq_le (by omega) l4⟩
    · rw [if_neg p]
      by_cases p2 : s2 ≤ 0
      · rw [if_pos p2]
        have q := Int.mul_nonneg (show 0 ≤ -s2 by omega) (show 0 ≤ B by omega)
        have r1 : -s2 * B ≤ -X := by rw [Int.neg_mul]; omega
        have r2 : -X ≤ -s1 * B := by rw [Int.neg_mul]; omega
        have k1 := sq_le q r1
        have k2 := sq_le (show 0 ≤ -X by omega) r2
        rw [Int.neg_mul_neg] at k1 k2
        exact ⟨-s2, -s1, rfl, by omega, by omega, by omega, k1, k2⟩
      · rw [if_neg p2]
        have m1 : s2 * B ≤ max (-s1) s2 * B := Int.mul_le_mul_of_nonneg_right (by omega) (by omega)
        have m2 : -s1 * B ≤ max (-s1) s2 * B := Int.mul_le_mul_of_nonneg_right (by omega) (by omega)
        rw [Int.neg_mul] at m2
        refine ⟨0, max (-s1) s2, rfl, by omega, by omega, by omega, ?_, ?_⟩
        · rw [Int.zero_mul, Int.zero_mul]
          rcases Int.le_total 0 X with g | g
          · exact Int.mul_nonneg g g
          · exact Int.mul_nonneg_of_nonpos_of_nonpos g g
        · rcases Int.le_total 0 X with g | g
          · exact sq_le g (by omega)
          · have k := sq_le (show 0 ≤ -X by omega) (show -X ≤ max (-s1) s2 * B by omega)
            rw [Int.neg_mul_neg] at k
            exact k
  have g1 := sq_le (Int.mul_nonneg a1 (show 0 ≤ B by omega)) l1
  have g2 := sq_le a4 l2
  have hBB := sq_pos hB
  have low : c1 * c1 + l * l ≤ 18446744073709551616 := by
    refine Int.le_of_mul_le_mul_right (?_ : _ * (B * B) ≤ _ * (B * B)) hBB
    rw [Int.add_mul, ← m4, ← m4 l]
    omega
  have high : 18446744073709551616 ≤ c2 * c2 + m * m := by
    refine Int.le_of_mul_le_mul_right (?_ : _ * (B * B) ≤ _ * (B * B)) hBB
    rw [Int.add_mul, ← m4, ← m4 m]
    omega
  have n1 := mul_bd (x := c1) (y := c1) (a := 4294967296) (b := 4294967296) (by omega) (by omega)
  have n2 := mul_bd (x := c2) (y := c2) (a := 4294967296) (b := 4294967296) (by omega) (by omega)
  have n3 := mul_bd (x := l) (y := l) (a := 4294967296) (b := 4294967296) (by omega) (by omega)
  have n4 := mul_bd (x := m) (y := m) (a := 4294967296) (b := 4294967296) (by omega) (by omega)
  simp only [Int.reduceMul] at n1 n2 n3 n4
  have hq1 : squareS c1 c2 = (c1 * c1 / 4294967296, -(-(c2 * c2) / 4294967296), 0) := by
    have : absS c1 c2 = (c1, c2, 0) := (if_pos hcc).trans (if_pos a1)
    unfold squareS
    rw [if_pos hcc, this]
    exact fitS_good (by dsimp only; omega)
  have hq2 : squareS s1 s2 = (l * l / 4294967296, -(-(m * m) / 4294967296), 0) := by
    unfold squareS
    rw [if_pos hc, hl]
    exact fitS_good (by dsimp only; omega)
  have v1 := sq_le a1 a2
  have v2 := sq_le h0 h1
  generalize c1 * c1 = C1 at *
  generalize c2 * c2 = C2 at *
  generalize l * l = L1 at *
  generalize m * m = M1 at *
  have hb : bothS (C1 / 4294967296) (-(-C2 / 4294967296)) (L1 / 4294967296) (-(-M1 / 4294967296)) = 0 := by
    have u : C1 / 4294967296 ≤ -(-C2 / 4294967296) ∧ L1 / 4294967296 ≤ -(-M1 / 4294967296) := by omega
    unfold bothS
    rw [if_pos (show chk (C1 / 4294967296) (-(-C2 / 4294967296)) = 0 from if_neg (by omega))]
    exact if_neg (by omega)
  refine ⟨_, _, _, _, _, _, hq1, hq2, (if_pos hb).trans (fitS_good ?_), ?_, ?_⟩
  · omega
  · refine decide_eq_true ⟨if_neg (by omega), by omega, by omega⟩
  · omega
end Go.Proofs.YtjleflfncijnpaaDoor
