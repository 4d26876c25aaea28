/- The directions of a half angle, by its tangent: plain arithmetic. -/
import Derived.Test.YtjleflfncijnpaaBase
import Derived.Test.YtjleflfncijnpaaQuo
import Derived.Test.YtjleflfncijnpaaScaleM
set_option linter.unusedVariables false
set_option linter.unusedSimpArgs false
namespace Go.Proofs.Ytjleflfncijnpaa
open Go Go.RowKit
/-- Is the product not above? -/
def mlB (A B n : Int) : Bool := decide (B * n ≤ A)
theorem mlB_iff {A B n : Int} (hB : 0 < B) : mlB A B n = true ↔ n ≤ A / B := by
  unfold mlB; rw [decide_eq_true_eq, Int.le_ediv_iff_mul_le hB, Int.mul_comm]
/-- A quotient rounded up. -/
def cdQ (a b : Int) : Int := -(-a / b)
theorem cdQ_eq (a b : Int) (hb : 0 < b) : cdQ a b = if b * (a / b) = a then a / b else a / b + 1 := by
  have h1 := Int.mul_ediv_add_emod a b
  unfold cdQ
  rw [neg_ediv a b hb]
  by_cases c : a % b = 0
  · rw [if_pos c, if_pos (by omega)]; omega
  · rw [if_neg c, if_neg (by omega)]; omega
/-- 1 + t t, and the numerators of the cosine and of the sine, times 2^96. -/
def oneQ (t : Int) : Int := 18446744073709551616 + t * t
def cosQ (t : Int) : Int := (18446744073709551616 - t * t) * 4294967296
def sinQ (t : Int) : Int := t * 36893488147419103232
theorem sq_bd {t : Int} (h : -4294967296 ≤ t ∧ t ≤ 4294967296) : 0 ≤ t * t ∧ t * t ≤ 18446744073709551616 := by
  have a : 0 ≤ ab t ∧ ab t ≤ 4294967296 := by unfold ab; split <;> omega
  have m := mul_bd a a
  have v := ab_mul' t t
  rw [if_pos rfl] at v
  rw [v]
  simpa only [Int.reduceMul] using m
theorem cos_even (t : Int) : oneQ (-t) = oneQ t ∧ cosQ (-t) = cosQ t ∧ sinQ (-t) = -sinQ t := by
  unfold oneQ cosQ sinQ; rw [Int.neg_mul_neg, Int.neg_mul]; exact ⟨rfl, rfl, rfl⟩
theorem ediv_le' {a b c : Int} (hb : 0 < b) (h : a ≤ c * b) : a / b ≤ c := by
  have := Int.ediv_le_ediv hb h
  rwa [Int.mul_ediv_cancel _ (by omega)] at this
theorem le_ediv' {a b c : Int} (hb : 0 < b) (h : c * b ≤ a) : c ≤ a / b := (Int.le_ediv_iff_mul_le hb).2 h
theorem cos_bd {t : Int} (h : -4294967296 ≤ t ∧ t ≤ 4294967296) : 0 ≤ cosQ t / oneQ t ∧ cosQ t / oneQ t ≤ cdQ (cosQ t) (oneQ t) ∧ cdQ (cosQ t) (oneQ t) ≤ 4294967296 ∧ 0 < oneQ t ∧ oneQ t ≤ 36893488147419103232 ∧ 0 ≤ cosQ t ∧ cosQ t ≤ oneQ t * 4294967296 := by
  have s := sq_bd h
  unfold cosQ oneQ
  generalize t * t = S at *
  have hb : 0 < 18446744073709551616 + S := by omega
  have h1 := le_ediv' (c := 0) hb (a := (18446744073709551616 - S) * 4294967296) (by omega)
  have h2 := ediv_le' (c := 4294967296) hb (a := (18446744073709551616 - S) * 4294967296) (by omega)
  have h3 := cdQ_eq ((18446744073709551616 - S) * 4294967296) _ hb
  have h4 := le_ediv' (c := -4294967296) hb (a := -((18446744073709551616 - S) * 4294967296)) (by omega)
  have h5 : cdQ ((18446744073709551616 - S) * 4294967296) (18446744073709551616 + S) = -(-((18446744073709551616 - S) * 4294967296) / (18446744073709551616 + S)) := rfl
  refine ⟨h1, ?_, by omega, hb, by omega, by omega, by omega⟩
  rw [h3]; split <;> omega
theorem sin_bd {t : Int} (h : -4294967296 ≤ t ∧ t ≤ 4294967296) : -4294967296 ≤ sinQ t / oneQ t ∧ sinQ t / oneQ t ≤ cdQ (sinQ t) (oneQ t) ∧ cdQ (sinQ t) (oneQ t) ≤ 4294967296 ∧ -(oneQ t * 4294967296) ≤ sinQ t ∧ sinQ t ≤ oneQ t * 4294967296 := by
  have s := sq_bd h
  have q1 : 0 ≤ (4294967296 - t) * (4294967296 - t) := by rcases Int.le_total 0 (4294967296 - t) with g | g; exact Int.mul_nonneg g g; exact Int.mul_nonneg_of_nonpos_of_nonpos g g
  have q2 : 0 ≤ (4294967296 + t) * (4294967296 + t) := Int.mul_nonneg (by omega) (by omega)
  simp only [Int.sub_mul, Int.mul_sub, Int.add_mul, Int.mul_add] at q1 q2
  unfold sinQ oneQ
  generalize t * t = S at *
  have hb : 0 < 18446744073709551616 + S := by omega
  have h1 := le_ediv' (c := -4294967296) hb (a := t * 36893488147419103232) (by omega)
  have h3 := cdQ_eq (t * 36893488147419103232) _ hb
  have h4 := le_ediv' (c := -4294967296) hb (a := -(t * 36893488147419103232)) (by omega)
  have h5 : cdQ (t * 36893488147419103232) (18446744073709551616 + S) = -(-(t * 36893488147419103232) / (18446744073709551616 + S)) := rfl
  refine ⟨h1, ?_, by omega, by omega, by omega⟩
  rw [h3]; split <;> omega
theorem cd_neg (a b : Int) : cdQ (-a) b = -(a / b) ∧ -a / b = -cdQ a b := by
  unfold cdQ; rw [Int.neg_neg, Int.neg_neg]; exact ⟨rfl, rfl⟩
end Go.Proofs.Ytjleflfncijnpaa
