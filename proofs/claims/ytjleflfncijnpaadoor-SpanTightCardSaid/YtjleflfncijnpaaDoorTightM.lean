/- Which of the products of bounds are near the result's ends: plain arithmetic. -/
import Derived.Test.YtjleflfncijnpaaDoorRows
import Derived.Test.YtjleflfncijnpaaDoorBase
import Derived.Test.YtjleflfncijnpaaDoorFacts
import Derived.Test.YtjleflfncijnpaaDoorTwo
import Derived.Deep.RegionHeld3
import Derived.Deep.RegionWith
import Derived.Deep.QuietTactic
import Derived.BigQuiet
import Derived.Test.YtjleflfncijnpaaDoorQuo
import Derived.Test.YtjleflfncijnpaaDoorRound
import Derived.Test.YtjleflfncijnpaaDoorScaleM
import Derived.Test.YtjleflfncijnpaaDoorMul
import Derived.Test.YtjleflfncijnpaaDoorMulR
import Derived.Test.YtjleflfncijnpaaDoorHoldsM
set_option linter.unusedVariables false
set_option linter.unusedSimpArgs false
set_option maxHeartbeats 4000000
set_option maxRecDepth 100000
namespace Go.Proofs.YtjleflfncijnpaaDoor
open Go Go.RowKit
/-- Does one of the first ones hold? -/
def orK (f : Nat → Bool) : Nat → Bool
  | 0 => false
  | k + 1 => orK f k || f k
def xT (al ah : Int) (k : Nat) : Int := if k = 0 then al else ah
theorem pK_xy (al ah bl bh : Int) {k j : Nat} (hk : k < 2) (hj : j < 2) : pK al ah bl bh (2 * k + j) = xT al ah k * xT bl bh j := by
  rcases (by omega : k = 0 ∨ k = 1) with rfl | rfl <;> rcases (by omega : j = 0 ∨ j = 1) with rfl | rfl <;> rfl
theorem xT_bd {al ah : Int} (h : (-9223372036854775808 ≤ al ∧ al ≤ 9223372036854775807) ∧ (-9223372036854775808 ≤ ah ∧ ah ≤ 9223372036854775807)) (k : Nat) : (-9223372036854775808 ≤ xT al ah k ∧ xT al ah k ≤ 9223372036854775807) := by unfold xT; split <;> omega
def lowK (al ah bl bh T : Int) (n : Nat) : Bool := decide (pK al ah bl bh n < T)
def highK (al ah bl bh T : Int) (n : Nat) : Bool := decide (T < pK al ah bl bh n)
theorem low_any {al ah bl bh T : Int} (h : mnK (pK al ah bl bh) 4 < T) : orK (lowK al ah bl bh T) 4 = true := by
  rw [mn4_val] at h
  have h' : pK al ah bl bh 0 < T ∨ pK al ah bl bh 1 < T ∨ pK al ah bl bh 2 < T ∨ pK al ah bl bh 3 < T := by omega
  simp only [orK, lowK, Bool.or_eq_true, decide_eq_true_eq]
  rcases h' with h | h | h | h <;> simp [h]
theorem high_any {al ah bl bh T : Int} (h : T < mxK (pK al ah bl bh) 4) : orK (highK al ah bl bh T) 4 = true := by
  rw [mx4_val] at h
  have h' : T < pK al ah bl bh 0 ∨ T < pK al ah bl bh 1 ∨ T < pK al ah bl bh 2 ∨ T < pK al ah bl bh 3 := by omega
  simp only [orK, highK, Bool.or_eq_true, decide_eq_true_eq]
  rcases h' with h | h | h | h <;> simp [h]
theorem prod_bd {x y : Int} (h : (-9223372036854775808 ≤ x ∧ x ≤ 9223372036854775807) ∧ (-9223372036854775808 ≤ y ∧ y ≤ 9223372036854775807)) : -85070591730234615865843651857942052864 ≤ x * y ∧ x * y ≤ 85070591730234615865843651857942052864 := by
  have m := mul_bd (ab_bd h.1) (ab_bd h.2)
  have v := ab_mul' x y
  simp only [Int.reduceMul] at m
  rw [v]; split <;> omega
theorem list_at {al ah : Int} {B k : Nat} {w : World} (hk : k < 2) (h0 : w.cell? ⟨B, 0, none⟩ = some (.int .i64 al)) (h1 : w.cell? ⟨B, 1, none⟩ = some (.int .i64 ah)) : w.cell? ⟨B, k, none⟩ = some (.int .i64 (xT al ah k)) := by
  rcases (by omega : k = 0 ∨ k = 1) with rfl | rfl
  · exact h0
  · exact h1
end Go.Proofs.YtjleflfncijnpaaDoor
