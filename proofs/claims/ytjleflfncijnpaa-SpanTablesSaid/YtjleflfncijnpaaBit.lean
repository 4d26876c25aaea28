/- A bit of an integer that is not negative. -/
import Derived.Test.YtjleflfncijnpaaRows
import Derived.Test.YtjleflfncijnpaaBase
import Derived.Test.YtjleflfncijnpaaFacts
import Derived.Test.YtjleflfncijnpaaTwo
import Derived.Deep.RegionHeld3
import Derived.Deep.RegionWith
import Derived.Deep.QuietTactic
import Derived.BigQuiet
import Derived.Test.YtjleflfncijnpaaW
set_option linter.unusedVariables false
set_option linter.unusedSimpArgs false
set_option maxHeartbeats 4000000
set_option maxRecDepth 100000
namespace Go.Proofs.Ytjleflfncijnpaa
open Go Go.RowKit
theorem and1_i64 (n : Int) : bits .and .i64 n 1 = n % 2 := by
  have h1 : (BitVec.ofInt 64 1).toNat = 2 ^ 1 - 1 := by decide
  have key : (BitVec.ofInt 64 n &&& BitVec.ofInt 64 1).toNat = (n % ((2 ^ 64 : Nat) : Int)).toNat % 2 ^ 1 := by
    rw [BitVec.toNat_and, BitVec.toNat_ofInt, h1, Nat.and_two_pow_sub_one_eq_mod]
  show IntKind.i64.wrap ((BitVec.ofInt 64 n &&& BitVec.ofInt 64 1).toNat : Nat) = n % 2
  rw [key, IntKind.wrap_i64]; omega
theorem and1_u64 (n : Int) : bits .and .u64 n 1 = n % 2 := by
  have h1 : (BitVec.ofInt 64 1).toNat = 2 ^ 1 - 1 := by decide
  have key : (BitVec.ofInt 64 n &&& BitVec.ofInt 64 1).toNat = (n % ((2 ^ 64 : Nat) : Int)).toNat % 2 ^ 1 := by
    rw [BitVec.toNat_and, BitVec.toNat_ofInt, h1, Nat.and_two_pow_sub_one_eq_mod]
  show IntKind.u64.wrap ((BitVec.ofInt 64 n &&& BitVec.ofInt 64 1).toNat : Nat) = n % 2
  rw [key, IntKind.wrap_u64]; omega
theorem bit_hi (a k : Nat) (hk : 64 ≤ k) : ((a / 18446744073709551616 : Nat) : Int) / 2 ^ (k - 64) = ((a / 2 ^ k : Nat) : Int) := by
  have e : 18446744073709551616 * 2 ^ (k - 64) = 2 ^ k := by
    rw [show (18446744073709551616 : Nat) = 2 ^ 64 from rfl, ← Nat.pow_add, show 64 + (k - 64) = k by omega]
  rw [← e, ← Nat.div_div_eq_div_mul]; simp
theorem bit_lo (a k : Nat) (hk : k < 64) : (((a % 18446744073709551616 : Nat) : Int) / 2 ^ k) % 2 = ((a / 2 ^ k % 2 : Nat) : Int) := by
  have h := Nat.testBit_mod_two_pow a 64 k
  rw [Nat.testBit_eq_decide_div_mod_eq, Nat.testBit_eq_decide_div_mod_eq] at h
  simp [hk] at h
  have e : (((a % 18446744073709551616 : Nat) : Int) / 2 ^ k) % 2 = ((a % 18446744073709551616 / 2 ^ k % 2 : Nat) : Int) := by simp
  rw [e]
  generalize a % 18446744073709551616 / 2 ^ k = x at *
  generalize a / 2 ^ k = y at *
  omega
theorem bit_any (a : Int) (k : Nat) (w : World) (h : 0 ≤ a ∧ a < 170141183460469231731687303715884105728) (hk : k ≤ 127) :
    Calls Try.prog 140 #[.agg #[.int .i64 (hiW a), .int .u64 (loW a)], .int .i64 k] w fun e w' => e = .returned (.bool (decide (a.toNat / 2 ^ k % 2 = 1))) ∧ Below w.heap.size w w' := by
  obtain ⟨a1, a2⟩ := h
  obtain ⟨n, rfl⟩ := Int.eq_ofNat_of_zero_le a1
  rw [Int.toNat_natCast]
  have k1 := loW_bd (n : Int); have k3 := hiW_bd (n : Int)
  have eh : hiW (n : Int) = ((n / 18446744073709551616 : Nat) : Int) := by unfold hiW; omega
  have el : loW (n : Int) = ((n % 18446744073709551616 : Nat) : Int) := by unfold loW; omega
  have kk : (k : Int) ≤ 127 := by omega
  by_cases c : 64 ≤ k
  · have c1 : (64 : Int) ≤ k := by omega
    have hm : min (k - 64) 64 = k - 64 := by omega
    have E := hid (bit_hi n k c)
    have E := hid E.out
    clear eh el c
    have eh := hiW_bd (n : Int)
    have q := hid (show hiW (n : Int) = ((n / 18446744073709551616 : Nat) : Int) by unfold hiW; omega)
    go_enter Try.func140, Try.ntmps140
    go_wp2
    go_ret
    refine ⟨ret_bool ?_, by go_grown⟩
    have e := E.out
    rw [← q.out] at e
    try simp only [Array.getD_eq_getD_getElem?, List.getElem?_toArray, List.getElem?_cons_succ, List.getElem?_cons_zero, Option.getD_some]
    rw [e, and1_i64, Bool.eq_iff_iff]
    simp only [beq_iff_eq, decide_eq_true_eq]
    omega
  · have c2 : min k 64 = k := by omega
    have c1 : ¬ 64 ≤ (k : Int) := by omega
    have kk' := hid kk
    clear kk
    have E := hid (bit_lo n k (by omega))
    have q := hid el
    clear eh el c
    go_enter Try.func140, Try.ntmps140
    go_wp2
    go_ret
    refine ⟨ret_bool ?_, by go_grown⟩
    have e := E.out
    rw [← q.out] at e
    try simp only [Array.getD_eq_getD_getElem?, List.getElem?_toArray, List.getElem?_cons_succ, List.getElem?_cons_zero, Option.getD_some]
    rw [and1_u64, e, Bool.eq_iff_iff]
    simp only [beq_iff_eq, decide_eq_true_eq]
    omega
end Go.Proofs.Ytjleflfncijnpaa
