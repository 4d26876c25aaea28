/- The middle and both halves, of package span; a division of small integers. -/
import Derived.Test.YtjleflfncijnpaaRows
import Derived.Test.YtjleflfncijnpaaBase
import Derived.Test.YtjleflfncijnpaaFacts
import Derived.Test.YtjleflfncijnpaaTwo
import Derived.Deep.RegionHeld3
import Derived.Deep.RegionWith
import Derived.Deep.QuietTactic
import Derived.BigQuiet
import Derived.Test.YtjleflfncijnpaaW
import Derived.Test.YtjleflfncijnpaaAsks
import Derived.Test.YtjleflfncijnpaaOut
import Derived.Test.YtjleflfncijnpaaSums
import Derived.Test.YtjleflfncijnpaaSeq
import Derived.Test.YtjleflfncijnpaaTwo
import Derived.Test.YtjleflfncijnpaaSets
import Derived.Test.YtjleflfncijnpaaBit
set_option linter.unusedVariables false
set_option linter.unusedSimpArgs false
set_option maxHeartbeats 4000000
set_option maxRecDepth 100000
namespace Go.Proofs.Ytjleflfncijnpaa
open Go Go.RowKit
theorem and2_nat (a b : Nat) : (a &&& b) % 2 = if a % 2 = 1 ∧ b % 2 = 1 then 1 else 0 := by
  rw [← Nat.and_one_is_mod, Nat.and_assoc, Nat.and_one_is_mod]
  rcases Nat.mod_two_eq_zero_or_one b with e | e
  · rw [e, Nat.and_zero, if_neg (by omega)]
  · rw [e, Nat.and_one_is_mod]; split <;> omega
theorem odd_nat (x : Int) : (BitVec.ofInt 64 x).toNat % 2 = 1 ↔ x % 2 = 1 := by
  have e : (BitVec.ofInt 64 x).toNat = (x % ((2 ^ 64 : Nat) : Int)).toNat := BitVec.toNat_ofInt _
  rw [e]; omega
theorem and2_i64 (x y : Int) : bits .and .i64 x y % 2 = if x % 2 = 1 ∧ y % 2 = 1 then 1 else 0 := by
  have h := and2_nat (BitVec.ofInt 64 x).toNat (BitVec.ofInt 64 y).toNat
  rw [← BitVec.toNat_and] at h
  simp only [odd_nat] at h
  show IntKind.i64.wrap ((BitVec.ofInt 64 x &&& BitVec.ofInt 64 y).toNat : Nat) % 2 = _
  generalize (BitVec.ofInt 64 x &&& BitVec.ofInt 64 y).toNat = n at *
  rw [IntKind.wrap_i64]
  by_cases c : x % 2 = 1 ∧ y % 2 = 1
  · rw [if_pos c] at h ⊢; omega
  · rw [if_neg c] at h ⊢; omega
theorem mid_val (lo hi : Int) (h : (-9223372036854775807 ≤ lo ∧ lo ≤ 9223372036854775807) ∧ (-9223372036854775807 ≤ hi ∧ hi ≤ 9223372036854775807)) : wrap64 (lo / 2 + hi / 2 + bits .and .i64 (bits .and .i64 lo hi) 1) = (lo + hi) / 2 := by
  have e2 := and2_i64 lo hi
  rw [and1_i64, e2]
  unfold wrap64
  split <;> omega
theorem mid_any (lo hi : Int) (w : World) (h : (-9223372036854775808 ≤ lo ∧ lo ≤ 9223372036854775807) ∧ (-9223372036854775808 ≤ hi ∧ hi ≤ 9223372036854775807)) :
    Calls Try.prog 49 #[.agg #[.int .i64 lo, .int .i64 hi]] w fun e w' => e = .returned (.tuple #[.int .i64 ((midN lo hi).1), .int .i64 ((midN lo hi).2)]) ∧ Below w.heap.size w w' := by
  obtain ⟨⟨a1, a2⟩, b1, b2⟩ := h
  rcases chk_cases lo hi with ⟨e, k1, k2⟩ | ⟨e, k1⟩
  · have hp := hid (show midN lo hi = ((lo + hi) / 2, 0) from if_pos e)
    have hv := hid (mid_val lo hi (by omega))
    go_enter Try.func49, Try.ntmps49
    go_wp2_with (go_at_call 18; refine use w (w.heap.size + 1) (check_any _ _ _ (by omega)) (by go_grown) (by go_size) ?_; rintro e w1 rfl hB1 hc1 hf1 hl1 hs1; have hl10 : w.heap.size < w1.heap.size := hl1 _ (by omega))
    all_goals (go_ret2; exact ⟨by rw [hp.out, ← hv.out]; rfl, by go_grown⟩)
  · have hp := hid (show midN lo hi = (0, 2) from if_neg (by omega))
    clear k1
    go_enter Try.func49, Try.ntmps49
    go_wp2_with (go_at_call 18; refine use w (w.heap.size + 1) (check_any _ _ _ (by omega)) (by go_grown) (by go_size) ?_; rintro e w1 rfl hB1 hc1 hf1 hl1 hs1; have hl10 : w.heap.size < w1.heap.size := hl1 _ (by omega))
    all_goals (go_ret2; exact ⟨by rw [hp.out]; rfl, by go_grown⟩)
end Go.Proofs.Ytjleflfncijnpaa
