/- The greatest integer whose square is not above another one: plain arithmetic. -/
import Derived.Test.YtjleflfncijnpaaDoorBase
import Derived.Test.YtjleflfncijnpaaDoorQuo
set_option linter.unusedVariables false
set_option linter.unusedSimpArgs false
namespace Go.Proofs.YtjleflfncijnpaaDoor
open Go Go.RowKit
theorem rt_ex (n : Nat) : ∃ r : Nat, r * r ≤ n ∧ n < (r + 1) * (r + 1) := by
  induction n with
  | zero => exact ⟨0, by omega, by omega⟩
  | succ n ih =>
    obtain ⟨r, h1, h2⟩ := ih
    by_cases c : n + 1 < (r + 1) * (r + 1)
    · exact ⟨r, by omega, c⟩
    · have e1 : (r + 1) * (r + 1) = r * r + 2 * r + 1 := by rw [Nat.add_mul, Nat.mul_add, Nat.one_mul, Nat.mul_one]; omega
      have e2 : (r + 1 + 1) * (r + 1 + 1) = r * r + 4 * r + 4 := by simp only [Nat.add_mul, Nat.mul_add, Nat.one_mul, Nat.mul_one]; omega
      exact ⟨r + 1, by omega, by omega⟩
/-- The root, rounded down, of an integer that is not negative. -/
noncomputable def rtI (n : Int) : Int := ((Classical.choose (rt_ex n.toNat) : Nat) : Int)
theorem rt_spec {n : Int} (h : 0 ≤ n) : 0 ≤ rtI n ∧ rtI n * rtI n ≤ n ∧ n < (rtI n + 1) * (rtI n + 1) := by
  obtain ⟨m, rfl⟩ := Int.eq_ofNat_of_zero_le h
  obtain ⟨h1, h2⟩ := Classical.choose_spec (rt_ex (m : Int).toNat)
  unfold rtI
  generalize Classical.choose (rt_ex (m : Int).toNat) = r at *
  rw [Int.toNat_natCast] at h1 h2
  refine ⟨by omega, by exact_mod_cast h1, by exact_mod_cast h2⟩
theorem sq_le {a b : Int} (h0 : 0 ≤ a) (h : a ≤ b) : a * a ≤ b * b := Int.mul_le_mul h h h0 (by omega)
theorem rt_le {n k : Int} (h : 0 ≤ n) (hk : 0 ≤ k) (h1 : k * k ≤ n) : k ≤ rtI n := by
  obtain ⟨r0, r1, r2⟩ := rt_spec h
  by_cases c : k ≤ rtI n
  · exact c
  · have := sq_le (a := rtI n + 1) (b := k) (by omega) (by omega)
    omega
theorem rt_lt {n k : Int} (h : 0 ≤ n) (hk : 0 ≤ k) (h1 : n < k * k) : rtI n < k := by
  obtain ⟨r0, r1, r2⟩ := rt_spec h
  by_cases c : rtI n < k
  · exact c
  · have := sq_le (a := k) (b := rtI n) hk (by omega)
    omega
theorem rt_uniq {n k : Int} (h : 0 ≤ n) (hk : 0 ≤ k) (h1 : k * k ≤ n) (h2 : n < (k + 1) * (k + 1)) : rtI n = k := by
  have := rt_le h hk h1
  have := rt_lt h (by omega : 0 ≤ k + 1) h2
  omega
/-- The root rounded up. -/
noncomputable def ruI (n : Int) : Int := if rtI n * rtI n = n then rtI n else rtI n + 1
/-- Is the square not above? -/
noncomputable def sqB (S n : Int) : Bool := decide (n * n ≤ S)
theorem sqB_iff {S n : Int} (hS : 0 ≤ S) (hn : 0 ≤ n) : sqB S n = true ↔ n ≤ rtI S := by
  unfold sqB
  rw [decide_eq_true_eq]
  constructor
  · exact rt_le hS hn
  · intro h; have := sq_le hn h; have := (rt_spec hS).2.1; omega
end Go.Proofs.YtjleflfncijnpaaDoor
