/- The plain arithmetic of a quotient of 128 bits by 64, digit by digit. Nothing of the program is named here. -/
import Derived.Test.YtjleflfncijnpaaDoorBase
import Derived.Shelf.Bits.Mul64
import Derived.Shelf.Small.Bits
import Derived.Lib.ItoaNum
set_option linter.unusedVariables false
set_option linter.unusedSimpArgs false
namespace Go.Proofs.YtjleflfncijnpaaDoor
open Go Go.RowKit

/-- A number of 64 bits above 0, moved to the left until its highest bit is set. -/
theorem lz_shift (y : Int) (h1 : 0 < y) (h2 : y ≤ 18446744073709551615) : ∃ s : Nat, s < 64 ∧ (64 - (Lib.bitLen y.toNat : Int)) = s ∧ 9223372036854775808 ≤ y * 2 ^ s ∧ y * 2 ^ s ≤ 18446744073709551615 := by
  obtain ⟨n, rfl⟩ := Int.eq_ofNat_of_zero_le (Int.le_of_lt h1)
  simp only [Int.toNat_natCast]
  have ⟨k0, k1, k2⟩ := Lib.bitLenAux_bounds 64 n (by omega) (by omega)
  have k3 := Lib.bitLenAux_le 64 n 64 (by omega)
  change 1 ≤ Lib.bitLen n at k0
  change 2 ^ (Lib.bitLen n - 1) ≤ n at k1
  change n < 2 ^ Lib.bitLen n at k2
  change Lib.bitLen n ≤ 64 at k3
  generalize Lib.bitLen n = L at *
  obtain ⟨s, rfl, hs⟩ : ∃ s, L = 64 - s ∧ s < 64 := ⟨64 - L, by omega, by omega⟩
  have e1 := Nat.mul_le_mul_right (2 ^ s) k1
  have e2 := Nat.mul_lt_mul_of_pos_right k2 (Nat.two_pow_pos s)
  rw [← Nat.pow_add, show 64 - s - 1 + s = 63 from by omega] at e1
  rw [← Nat.pow_add, show 64 - s + s = 64 from by omega] at e2
  refine ⟨s, hs, by omega, ?_, ?_⟩
  · have : ((n * 2 ^ s : Nat) : Int) = (n : Int) * 2 ^ s := by simp
    omega
  · have : ((n * 2 ^ s : Nat) : Int) = (n : Int) * 2 ^ s := by simp
    omega
/-- What is divided after both have been moved. -/
theorem div_fin (n y p q R : Int) (hp : 0 < p) (hy : 0 < y) (h : n * p = q * (y * p) + R) (h0 : 0 ≤ R) (h1 : R < y * p) : q = n / y ∧ R / p = n % y := by
  have e : R = (n - q * y) * p := by rw [Int.sub_mul, Int.mul_assoc]; omega
  subst e
  have g0 : 0 ≤ n - q * y := by
    by_cases c : 0 ≤ n - q * y
    · exact c
    · have := Int.mul_neg_of_neg_of_pos (show n - q * y < 0 by omega) hp; omega
  have g1 : n - q * y < y := Int.lt_of_mul_lt_mul_right h1 (Int.le_of_lt hp)
  rw [Int.mul_ediv_cancel _ (by omega)]
  have := (Int.ediv_emod_unique (a := n) (b := y) (r := n - q * y) (q := q) hy).2 ⟨by rw [Int.mul_comm y q]; omega, g0, g1⟩
  exact ⟨this.1.symm, this.2.symm⟩
theorem dig_start (Y u un1 : Int) (hY : 9223372036854775808 ≤ Y) (hY2 : Y ≤ 18446744073709551615) (hu : 0 ≤ u) (huY : u < Y) (h1 : 0 ≤ un1) (h2 : un1 < 4294967296) :
    0 ≤ u / (Y / 4294967296) ∧ u / (Y / 4294967296) ≤ 4294967297 ∧ 0 ≤ u - u / (Y / 4294967296) * (Y / 4294967296) ∧ u - u / (Y / 4294967296) * (Y / 4294967296) < Y / 4294967296 ∧
    0 ≤ u / (Y / 4294967296) * (Y / 4294967296) ∧ u / (Y / 4294967296) * (Y / 4294967296) ≤ u ∧
    u * 4294967296 + un1 < (u / (Y / 4294967296) + 1) * Y := by
  have y1 : 2147483648 ≤ Y / 4294967296 := by omega
  have y2 : Y / 4294967296 < 4294967296 := by omega
  have eY : Y = Y / 4294967296 * 4294967296 + Y % 4294967296 := by omega
  have m1 := Int.mul_ediv_add_emod u (Y / 4294967296)
  have m2 := Int.emod_lt_of_pos u (show 0 < Y / 4294967296 by omega)
  have m3 := Int.emod_nonneg u (show Y / 4294967296 ≠ 0 by omega)
  have m4 := Int.ediv_nonneg hu (show 0 ≤ Y / 4294967296 by omega)
  have n0 : 0 ≤ Y % 4294967296 := by omega
  have n1 : Y % 4294967296 < 4294967296 := by omega
  generalize Y / 4294967296 = a at *
  generalize Y % 4294967296 = c at *
  generalize u / a = q at *
  generalize u % a = r at *
  rw [Int.mul_comm] at m1
  subst eY
  have e1 : (q + 1) * (a * 4294967296 + c) = q * a * 4294967296 + a * 4294967296 + (q * c + c) := by
    rw [Int.mul_add, Int.add_mul, Int.add_mul, Int.one_mul, Int.one_mul, ← Int.mul_assoc] <;> omega
  have p1 : 0 ≤ q * a := Int.mul_nonneg m4 (by omega)
  have p2 : 0 ≤ q * c := Int.mul_nonneg m4 n0
  have p3 : q ≤ 4294967297 := by
    by_cases hq : q ≤ 4294967297
    · exact hq
    · have := Int.mul_le_mul_of_nonneg_right (show (4294967298 : Int) ≤ q by omega) (show 0 ≤ a by omega)
      omega
  exact ⟨m4, p3, by omega, by omega, p1, by omega, by omega⟩
theorem dig_more (Y u un1 q : Int) (hY : 9223372036854775808 ≤ Y) (hY2 : Y ≤ 18446744073709551615) (hu : 0 ≤ u) (huY : u < Y) (h1 : 0 ≤ un1) (h2 : un1 < 4294967296) (hq : 0 ≤ q) (r : Int) (hr : r + q * (Y / 4294967296) = u)
    (hc : 4294967296 ≤ q ∨ 4294967296 * r + un1 < q * (Y % 4294967296)) : u * 4294967296 + un1 < (q - 1 + 1) * Y ∧ 1 ≤ q := by
  have eY : Y = Y / 4294967296 * 4294967296 + Y % 4294967296 := by omega
  have n0 : 0 ≤ Y % 4294967296 := by omega
  generalize Y / 4294967296 = a at *
  generalize Y % 4294967296 = c at *
  subst eY
  rw [show q - 1 + 1 = q by omega]
  have e1 : q * (a * 4294967296 + c) = q * a * 4294967296 + q * c := by rw [Int.mul_add, ← Int.mul_assoc]
  rcases hc with hc | hc
  · have := Int.mul_le_mul_of_nonneg_right hc (show 0 ≤ a * 4294967296 + c by omega)
    exact ⟨by omega, by omega⟩
  · refine ⟨by omega, ?_⟩
    by_cases h : 1 ≤ q
    · exact h
    · obtain rfl : q = 0 := by omega
      simp at hc; omega
theorem dig_end (Y u un1 q : Int) (hY : 9223372036854775808 ≤ Y) (hY2 : Y ≤ 18446744073709551615) (hu : 0 ≤ u) (huY : u < Y) (h1 : 0 ≤ un1) (h2 : un1 < 4294967296) (hq : 0 ≤ q) (r : Int) (hr : r + q * (Y / 4294967296) = u)
    (hc : (q < 4294967296 ∧ q * (Y % 4294967296) ≤ 4294967296 * r + un1) ∨ (q ≤ 4294967296 ∧ 4294967296 ≤ r)) : q * Y ≤ u * 4294967296 + un1 ∧ q < 4294967296 ∧ 0 ≤ q * Y := by
  have eY : Y = Y / 4294967296 * 4294967296 + Y % 4294967296 := by omega
  have n0 : 0 ≤ Y % 4294967296 := by omega
  have n1 : Y % 4294967296 ≤ 4294967295 := by omega
  have y1 : 0 ≤ Y / 4294967296 := by omega
  generalize Y / 4294967296 = a at *
  generalize Y % 4294967296 = c at *
  subst eY
  have e1 : q * (a * 4294967296 + c) = q * a * 4294967296 + q * c := by rw [Int.mul_add, ← Int.mul_assoc]
  have p1 : 0 ≤ q * a := Int.mul_nonneg hq y1
  have p2 : 0 ≤ q * c := Int.mul_nonneg hq n0
  rcases hc with ⟨hc, hd⟩ | ⟨hc, hd⟩
  · exact ⟨by omega, hc, by omega⟩
  · have k := Int.mul_le_mul hc n1 n0 (by omega)
    have g : q * (a * 4294967296 + c) ≤ u * 4294967296 + un1 := by omega
    refine ⟨g, ?_, by omega⟩
    by_cases h : q < 4294967296
    · exact h
    · obtain rfl : q = 4294967296 := by omega
      omega
theorem mask_low (x : Int) (h0 : 0 ≤ x) (h1 : x ≤ 18446744073709551615) : bits .and .u64 x 4294967295 = x % 4294967296 := by
  obtain ⟨n, rfl⟩ := Int.eq_ofNat_of_zero_le h0
  rw [Go.Proofs.Mul64.maskN n (by omega)]; omega
theorem un_wrap (u un1 Z : Int) (h0 : 0 ≤ u * 4294967296 + un1 - Z) (h1 : u * 4294967296 + un1 - Z < 18446744073709551616) :
    IntKind.u64.wrap (IntKind.u64.wrap (IntKind.u64.wrap (u * 4294967296) + un1) - IntKind.u64.wrap Z) = u * 4294967296 + un1 - Z := by
  simp only [IntKind.wrap_u64]; omega
/-- Two words moved to the left by s: the upper one. -/
theorem up_word (hi lo : Int) (s : Nat) (hs : s < 64) (h0 : 0 ≤ hi) (h1 : hi * 2 ^ s ≤ 18446744073709551615) (l0 : 0 ≤ lo) (l1 : lo ≤ 18446744073709551615) :
    bits .or .u64 (hi * 2 ^ s) (lo / 2 ^ (64 - s)) = hi * 2 ^ s + lo / 2 ^ (64 - s) ∧ 0 ≤ lo / 2 ^ (64 - s) ∧ lo / 2 ^ (64 - s) < 2 ^ s ∧ (0 : Int) < 2 ^ s ∧
    (hi * 18446744073709551616 + lo) * 2 ^ s = (hi * 2 ^ s + lo / 2 ^ (64 - s)) * 18446744073709551616 + (lo * 2 ^ s) % 18446744073709551616 := by
  obtain ⟨a, rfl⟩ := Int.eq_ofNat_of_zero_le h0
  obtain ⟨b, rfl⟩ := Int.eq_ofNat_of_zero_le l0
  have e : 2 ^ s * 2 ^ (64 - s) = 18446744073709551616 := by rw [← Nat.pow_add, show s + (64 - s) = 64 from by omega]
  have hp := Nat.two_pow_pos s
  have hr := Nat.two_pow_pos (64 - s)
  have c1 : b / 2 ^ (64 - s) < 2 ^ s := by
    rw [Nat.div_lt_iff_lt_mul hr, e]; omega
  have q1 : ((a : Int) * 2 ^ s) = ((a * 2 ^ s : Nat) : Int) := by simp
  have q2 : ((b : Int) / 2 ^ (64 - s)) = ((b / 2 ^ (64 - s) : Nat) : Int) := by simp
  have q3 : ((2 : Int) ^ s) = ((2 ^ s : Nat) : Int) := by simp
  have q4 : ((b : Int) * 2 ^ s) = ((b * 2 ^ s : Nat) : Int) := by simp
  rw [q1] at h1
  have d1 : a * 2 ^ s < 18446744073709551616 := by omega
  have d2 : b / 2 ^ (64 - s) < 18446744073709551616 := Nat.lt_of_le_of_lt (Nat.div_le_self _ _) (by omega)
  have o : bits .or .u64 ((a * 2 ^ s : Nat) : Int) ((b / 2 ^ (64 - s) : Nat) : Int) = ((a * 2 ^ s + b / 2 ^ (64 - s) : Nat) : Int) := by
    have k := Nat.two_pow_add_eq_or_of_lt c1 a
    rw [Nat.mul_comm a]
    show IntKind.u64.wrap ((BitVec.ofInt 64 _ ||| BitVec.ofInt 64 _).toNat : Nat) = _
    rw [BitVec.toNat_or, BitVec.toNat_ofInt, BitVec.toNat_ofInt]
    rw [show (((2 ^ s * a : Nat) : Int) % ((2 ^ 64 : Nat) : Int)).toNat = 2 ^ s * a by rw [Nat.mul_comm]; omega, show (((b / 2 ^ (64 - s) : Nat) : Int) % ((2 ^ 64 : Nat) : Int)).toNat = b / 2 ^ (64 - s) by (clear k; generalize b / 2 ^ (64 - s) = q at *; omega), ← k, IntKind.wrap_u64]
    have := Nat.div_add_mod b (2 ^ (64 - s))
    have t : 2 ^ s * a + b / 2 ^ (64 - s) < 18446744073709551616 := by
      rw [k]
      exact Nat.or_lt_two_pow (n := 64) (by rw [Nat.mul_comm]; omega) (by omega)
    omega
  refine ⟨by rw [q1, q2, o]; exact Int.natCast_add _ _, by rw [q2]; exact Int.natCast_nonneg _, by rw [q2, q3]; exact Int.ofNat_lt.2 c1, by rw [q3]; exact Int.ofNat_lt.2 hp, ?_⟩
  rw [q1, q2, q4, q3]
  have m := Nat.div_add_mod b (2 ^ (64 - s))
  have m2 := Nat.mod_lt b hr
  have e3 : b * 2 ^ s = b / 2 ^ (64 - s) * 18446744073709551616 + b % 2 ^ (64 - s) * 2 ^ s := by
    conv => lhs; rw [← m]
    rw [Nat.add_mul, Nat.mul_comm (2 ^ (64 - s)), Nat.mul_assoc, Nat.mul_comm (2 ^ (64 - s)), e]
  have e4 : b % 2 ^ (64 - s) * 2 ^ s < 18446744073709551616 := by
    have := Nat.mul_lt_mul_of_pos_right m2 hp
    rw [Nat.mul_comm (2 ^ (64 - s)), e] at this
    exact this
  have e5 : ((a : Int) * 18446744073709551616 + b) * ((2 ^ s : Nat) : Int) = ((a * 2 ^ s : Nat) : Int) * 18446744073709551616 + ((b * 2 ^ s : Nat) : Int) := by
    rw [Int.add_mul, Int.mul_assoc, Int.mul_comm 18446744073709551616, ← Int.mul_assoc]
    simp
  rw [e5]
  omega
/-- Both digits. -/
theorem div_two (n y u L q q0 Y : Int) (s : Nat) (hs : (0 : Int) < 2 ^ s) (hy : 0 < y) (hY : y * 2 ^ s = Y) (hn : n * 2 ^ s = u * 18446744073709551616 + L)
    (hl : (u * 4294967296 + L / 4294967296 - q * Y) * 4294967296 + L % 4294967296 < (q0 + 1) * Y) (hg : q0 * Y ≤ (u * 4294967296 + L / 4294967296 - q * Y) * 4294967296 + L % 4294967296) :
    q * 4294967296 + q0 = n / y ∧ ((u * 4294967296 + L / 4294967296 - q * Y) * 4294967296 + L % 4294967296 - q0 * Y) / 2 ^ s = n % y := by
  subst hY
  refine div_fin n y (2 ^ s) (q * 4294967296 + q0) _ hs hy ?_ (by omega) ?_
  · rw [Int.add_mul, Int.mul_assoc, Int.mul_comm 4294967296, ← Int.mul_assoc]
    generalize q * (y * 2 ^ s) = A at *
    generalize q0 * (y * 2 ^ s) = B at *
    omega
  · rw [Int.add_mul, Int.one_mul] at hl
    omega
end Go.Proofs.YtjleflfncijnpaaDoor
