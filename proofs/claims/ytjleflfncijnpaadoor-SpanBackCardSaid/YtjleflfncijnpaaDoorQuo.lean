/- Quotients, rounded down and up, by the sizes and the signs. Nothing of the program is named here. -/
import Derived.Test.YtjleflfncijnpaaDoorBase
set_option linter.unusedVariables false
set_option linter.unusedSimpArgs false
namespace Go.Proofs.YtjleflfncijnpaaDoor
open Go Go.RowKit

theorem ab_mul' (a b : Int) : a * b = if (a < 0) = (b < 0) then ab a * ab b else -(ab a * ab b) := by
  unfold ab
  by_cases ha : a < 0 <;> by_cases hb : b < 0 <;> simp [ha, hb, Int.neg_mul, Int.mul_neg]
/-! A quotient, rounded down and up; whether both are numbers. -/
def dnQ (p d : Int) : Int := if d < 0 then -p / -d else p / d
def upQ (p d : Int) : Int := -dnQ (-p) d
def ftQ (p d : Int) : Bool := decide (-9223372036854775807 ≤ dnQ p d ∧ upQ p d ≤ 9223372036854775807)
theorem neg_ediv (n k : Int) (hk : 0 < k) : -n / k = if n % k = 0 then -(n / k) else -(n / k) - 1 := by
  have h1 := Int.mul_ediv_add_emod n k
  have h2 := Int.emod_lt_of_pos n hk
  have h3 := Int.emod_nonneg n (show k ≠ 0 by omega)
  by_cases c : n % k = 0
  · rw [if_pos c]
    refine ((Int.ediv_emod_unique (a := -n) (b := k) (r := 0) (q := -(n / k)) hk).2 ⟨?_, by omega, hk⟩).1
    rw [Int.mul_neg]; omega
  · rw [if_neg c]
    refine ((Int.ediv_emod_unique (a := -n) (b := k) (r := k - n % k) (q := -(n / k) - 1) hk).2 ⟨?_, by omega, by omega⟩).1
    rw [Int.mul_sub, Int.mul_neg, Int.mul_one]; omega
/-- Whether x y / d is below 0 (or 0), by the signs. -/
def sgQ (x y d : Int) : Bool := (decide (x < 0) != decide (y < 0)) != decide (d < 0)
def quQ (x y d : Int) : Int := ab x * ab y / ab d
def reQ (x y d : Int) : Int := ab x * ab y % ab d
theorem sg_val (x y d : Int) (hd : d ≠ 0) : dnQ (x * y) d = (if sgQ x y d then -(ab x * ab y) else ab x * ab y) / ab d ∧ upQ (x * y) d = -((if sgQ x y d then ab x * ab y else -(ab x * ab y)) / ab d) := by
  unfold upQ dnQ sgQ
  rw [ab_mul' x y]
  have e : ab d = if d < 0 then -d else d := rfl
  rw [e]
  by_cases hx : x < 0 <;> by_cases hy : y < 0 <;> by_cases hz : d < 0 <;> simp [hx, hy, hz]
theorem qu_val (x y d : Int) (hd : d ≠ 0) : dnQ (x * y) d = (if sgQ x y d then (if reQ x y d = 0 then -quQ x y d else -quQ x y d - 1) else quQ x y d) ∧ upQ (x * y) d = (if sgQ x y d then -quQ x y d else (if reQ x y d = 0 then quQ x y d else quQ x y d + 1)) := by
  have hk : 0 < ab d := by unfold ab; split <;> omega
  obtain ⟨h1, h2⟩ := sg_val x y d hd
  unfold reQ quQ
  rw [h1, h2]
  have e := neg_ediv (ab x * ab y) (ab d) hk
  cases sgQ x y d <;> simp [e] <;> split <;> omega
theorem ab_pos {d : Int} (h : d ≠ 0) : 0 < ab d := by unfold ab; split <;> omega
theorem quQ_bd (x y d : Int) (hd : d ≠ 0) : 0 ≤ quQ x y d ∧ 0 ≤ reQ x y d ∧ reQ x y d < ab d := by
  have k := ab_pos hd
  have n0 : 0 ≤ ab x * ab y := Int.mul_nonneg (by unfold ab; split <;> omega) (by unfold ab; split <;> omega)
  exact ⟨Int.ediv_nonneg n0 (by omega), Int.emod_nonneg _ (by omega), Int.emod_lt_of_pos _ k⟩
/-- More than 64 bits: no number. -/
theorem qu_big (x y d : Int) (hd : d ≠ 0) (h : ab d ≤ ab x * ab y / 18446744073709551616) : 18446744073709551616 ≤ quQ x y d := by
  have k := ab_pos hd
  unfold quQ
  refine Int.le_ediv_of_mul_le k ?_
  rw [Int.mul_comm]; omega
def rdQ (p d : Int) : Int := if ftQ p d then dnQ p d else 0
def ruQ (p d : Int) : Int := if ftQ p d then upQ p d else 0
theorem ft_val (x y d : Int) (hd : d ≠ 0) : ftQ (x * y) d = decide (quQ x y d ≤ 9223372036854775807 ∧ (quQ x y d = 9223372036854775807 → reQ x y d = 0)) := by
  obtain ⟨h1, h2⟩ := qu_val x y d hd
  obtain ⟨q0, r0, _⟩ := quQ_bd x y d hd
  unfold ftQ
  rw [h1, h2, decide_eq_decide]
  generalize quQ x y d = q at *
  generalize reQ x y d = r at *
  cases sgQ x y d <;> by_cases c : r = 0 <;> simp [c] <;> omega
end Go.Proofs.YtjleflfncijnpaaDoor
