/- A bit of an integer that is not negative. -/
import Derived.Test.YtjleflfncijnpaaDoorRows
import Derived.Test.YtjleflfncijnpaaDoorBase
import Derived.Test.YtjleflfncijnpaaDoorFacts
import Derived.Test.YtjleflfncijnpaaDoorTwo
import Derived.Deep.RegionHeld3
import Derived.Deep.RegionWith
import Derived.Deep.QuietTactic
import Derived.BigQuiet
import Derived.Test.YtjleflfncijnpaaDoorW
set_option linter.unusedVariables false
set_option linter.unusedSimpArgs false
set_option maxHeartbeats 4000000
set_option maxRecDepth 100000
namespace Go.Proofs.YtjleflfncijnpaaDoor
open Go Go.RowKit
theorem and1_i64 (n : Int) : bits .and .i64 n 1 = n % 2 := by
  have h1 : (BitVec.ofInt 64 1).toNat = 2 ^ 1 - 1 := by decide
  have key : (BitVec.ofInt 64 n &&& BitVec.ofInt 64 1).toNat = (n % ((2 ^ 64 : Nat) : Int)).toNat % 2 ^ 1 := by
    rw [BitVec.toNat_and, BitVec.toNat_ofInt, h1, Nat.and_two_pow_sub_one_eq_mod]
  show IntKind.i64.wrap ((BitVec.ofInt 64 n &&& BitVec.ofInt 64 1).toNat : Nat) = n % 2
  rw [key, IntKind.wrap_i64]; omega
theorem and1_u64 (n : Int) : bits .and .u64 n 1 = n % 2 := by
  have h1 : (BitVec.ofInt 64 1).toNat = 2 ^ 1 - 1 := by decide
  have key : (BitVec.ofInt 64 n &&& BitVec.ofInt 64 1).toNat = (n % ((2 ^ 64 : Nat) : Int)).toNat % 2 ^ 1 := by
    rw [BitVec.toNat_and, BitVec.toNat_ofInt, h1, Nat.and_two_pow_sub_one_eq_mod]
  show IntKind.u64.wrap ((BitVec.ofInt 64 n &&& BitVec.ofInt 64 1).toNat : Nat) = n % 2
  rw [key, IntKind.wrap_u64]; omega
theorem bit_hi (a k : Nat) (hk : 64 ≤ k) : ((a / 18446744073709551616 : Nat) : Int) / 2 ^ (k - 64) = ((a / 2 ^ k : Nat) : Int) := by
  have e : 18446744073709551616 * 2 ^ (k - 64) = 2 ^ k := by
    rw [show (18446744073709551616 : Nat) = 2 ^ 64 from rfl, ← Nat.pow_add, show 64 + (k - 64) = k by omega]
  rw [← e, ← Nat.div_div_eq_div_mul]; simp
theorem bit_lo (a k : Nat) (hk : k < 64) : (((a % 18446744073709551616 : Nat) : Int) / 2 ^ k) % 2 = ((a / 2 ^ k % 2 : Nat) : Int) := by
  have h := Nat.testBit_mod_two_pow a 64 k
  rw [Nat.testBit_eq_decide_div_mod_eq, Nat.testBit_eq_decide_div_mod_eq] at h
  simp [hk] at h
  have e : (((a % 18446744073709551616 : Nat) : Int) / 2 ^ k) % 2 = ((a % 18446744073709551616 / 2 ^ k % 2 : Nat) : Int) := by simp
  rw [e]
  generalize a % 18446744073709551616 / 2 ^ k = x at *
  generalize a / 2 ^ k = y at *
  omega
end Go.Proofs.YtjleflfncijnpaaDoor
