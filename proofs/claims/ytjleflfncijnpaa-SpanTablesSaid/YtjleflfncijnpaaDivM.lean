/- A division, bit by bit: the plain arithmetic. -/
import Derived.Test.YtjleflfncijnpaaBase
set_option linter.unusedVariables false
set_option linter.unusedSimpArgs false
namespace Go.Proofs.Ytjleflfncijnpaa
open Go Go.RowKit
theorem dstep (n m j : Nat) (hm : 0 < m) :
    (2 * (n / 2 ^ (j + 1) % m) + n / 2 ^ j % 2 < m → n / 2 ^ j % m = 2 * (n / 2 ^ (j + 1) % m) + n / 2 ^ j % 2 ∧ n / 2 ^ j / m = 2 * (n / 2 ^ (j + 1) / m)) ∧
    (m ≤ 2 * (n / 2 ^ (j + 1) % m) + n / 2 ^ j % 2 → n / 2 ^ j % m = 2 * (n / 2 ^ (j + 1) % m) + n / 2 ^ j % 2 - m ∧ n / 2 ^ j / m = 2 * (n / 2 ^ (j + 1) / m) + 1) := by
  have e : n / 2 ^ (j + 1) = n / 2 ^ j / 2 := by rw [Nat.pow_succ, Nat.div_div_eq_div_mul]
  rw [e]
  generalize n / 2 ^ j = B
  have h1 := Nat.div_add_mod (B / 2) m
  have h2 := Nat.mod_lt (B / 2) hm
  generalize B / 2 / m = q at *
  generalize B / 2 % m = r at *
  have h3 : m * (2 * q) = 2 * (m * q) := Nat.mul_left_comm m 2 q
  have h4 : m * (2 * q + 1) = 2 * (m * q) + m := by rw [Nat.mul_add, h3, Nat.mul_one]
  constructor
  · intro h
    have := (Nat.div_mod_unique hm (a := B) (c := 2 * r + B % 2) (d := 2 * q)).2 ⟨by rw [h3]; omega, h⟩
    exact ⟨this.2, this.1⟩
  · intro h
    have := (Nat.div_mod_unique hm (a := B) (c := 2 * r + B % 2 - m) (d := 2 * q + 1)).2 ⟨by rw [h4]; omega, by omega⟩
    exact ⟨this.2, this.1⟩
/-- The rest and the quotient of the upper part. -/
def rJ (n m j : Nat) : Int := ((n / 2 ^ j % m : Nat) : Int)
def qJ (n m j : Nat) : Int := ((n / 2 ^ j / m : Nat) : Int)
def bitB (n j : Nat) : Bool := decide (n / 2 ^ j % 2 = 1)
theorem rJ_bd (n m j : Nat) (hm : 0 < m) : 0 ≤ rJ n m j ∧ rJ n m j < m := by
  have := Nat.mod_lt (n / 2 ^ j) hm
  unfold rJ; omega
theorem rq_top {n m t : Nat} (h : n < 2 ^ t) : rJ n m t = 0 ∧ qJ n m t = 0 := by
  unfold rJ qJ; rw [Nat.div_eq_of_lt h]; simp
theorem rq_0 (n m : Nat) : rJ n m 0 = (n : Int) % m ∧ qJ n m 0 = (n : Int) / m := by
  unfold rJ qJ; simp
theorem step_b {n m j : Nat} (hm : 0 < m) (hb : bitB n j = true) : (rJ n m (j + 1) + rJ n m (j + 1) + 1 < m → rJ n m j = rJ n m (j + 1) + rJ n m (j + 1) + 1 ∧ qJ n m j = qJ n m (j + 1) + qJ n m (j + 1)) ∧
    (¬ rJ n m (j + 1) + rJ n m (j + 1) + 1 < m → rJ n m j = rJ n m (j + 1) + rJ n m (j + 1) + 1 + -(m : Int) ∧ qJ n m j = qJ n m (j + 1) + qJ n m (j + 1) + 1) := by
  have hb := of_decide_eq_true hb
  obtain ⟨h1, h2⟩ := dstep n m j hm
  unfold rJ qJ
  rw [hb] at h1 h2
  constructor
  · intro h; have := h1 (by omega); omega
  · intro h; have := h2 (by omega); omega
theorem step_n {n m j : Nat} (hm : 0 < m) (hb : bitB n j = false) : (rJ n m (j + 1) + rJ n m (j + 1) < m → rJ n m j = rJ n m (j + 1) + rJ n m (j + 1) ∧ qJ n m j = qJ n m (j + 1) + qJ n m (j + 1)) ∧
    (¬ rJ n m (j + 1) + rJ n m (j + 1) < m → rJ n m j = rJ n m (j + 1) + rJ n m (j + 1) + -(m : Int) ∧ qJ n m j = qJ n m (j + 1) + qJ n m (j + 1) + 1) := by
  have hb := of_decide_eq_false hb
  obtain ⟨h1, h2⟩ := dstep n m j hm
  have h0 : n / 2 ^ j % 2 = 0 := by omega
  unfold rJ qJ
  rw [h0] at h1 h2
  constructor
  · intro h; have := h1 (by omega); omega
  · intro h; have := h2 (by omega); omega
theorem bit_none {n k : Nat} (h : n < 2 ^ (k + 1)) (hb : bitB n k = false) : n < 2 ^ k := by
  have hb := of_decide_eq_false hb
  have e : 2 ^ (k + 1) = 2 ^ k * 2 := Nat.pow_succ 2 k
  rw [e] at h
  have h1 : n / 2 ^ k < 2 := Nat.div_lt_of_lt_mul h
  have h2 : n / 2 ^ k = 0 := by
    generalize n / 2 ^ k = x at *
    omega
  rcases Nat.div_eq_zero_iff.1 h2 with h3 | h3
  · have : 0 < 2 ^ k := Nat.two_pow_pos k
    omega
  · exact h3
end Go.Proofs.Ytjleflfncijnpaa
