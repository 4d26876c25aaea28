/- The questions: Check, In, Within, Sign, Order, of both packages. -/
import Derived.Test.YtjleflfncijnpaaDoorRows
import Derived.Test.YtjleflfncijnpaaDoorBase
import Derived.Test.YtjleflfncijnpaaDoorFacts
import Derived.Test.YtjleflfncijnpaaDoorTwo
import Derived.Deep.RegionHeld3
import Derived.Deep.RegionWith
import Derived.Deep.QuietTactic
import Derived.BigQuiet
set_option linter.unusedVariables false
set_option linter.unusedSimpArgs false
set_option maxHeartbeats 4000000
set_option maxRecDepth 100000
namespace Go.Proofs.YtjleflfncijnpaaDoor
open Go Go.RowKit

theorem check_any (lo hi : Int) (w : World) (h : (-9223372036854775808 ≤ lo ∧ lo ≤ 9223372036854775807) ∧ (-9223372036854775808 ≤ hi ∧ hi ≤ 9223372036854775807)) :
    Calls Tryd.prog 31 #[.agg #[.int .i64 lo, .int .i64 hi]] w fun e w' => e = .returned (.int .i64 (chk lo hi)) ∧ Below w.heap.size w w' := by
  obtain ⟨⟨a1, a2⟩, b1, b2⟩ := h
  go_enter Tryd.func31, Tryd.ntmps31
  go_wp2
  all_goals (go_ret; exact ⟨ret_int (by unfold chk; split <;> omega), by go_grown⟩)
theorem both_any (al ah bl bh : Int) (w : World) (h : (-9223372036854775808 ≤ al ∧ al ≤ 9223372036854775807) ∧ (-9223372036854775808 ≤ ah ∧ ah ≤ 9223372036854775807) ∧ (-9223372036854775808 ≤ bl ∧ bl ≤ 9223372036854775807) ∧ (-9223372036854775808 ≤ bh ∧ bh ≤ 9223372036854775807)) :
    Calls Tryd.prog 69 #[.agg #[.int .i64 al, .int .i64 ah], .agg #[.int .i64 bl, .int .i64 bh]] w fun e w' => e = .returned (.int .i64 (bothS al ah bl bh)) ∧ Below w.heap.size w w' := by
  obtain ⟨⟨a1, a2⟩, ⟨b1, b2⟩, ⟨c1, c2⟩, d1, d2⟩ := h
  go_enter Tryd.func69, Tryd.ntmps69
  go_wp2_with (go_at_call 31; refine use w (w.heap.size + 1 + 1) (check_any _ _ _ (by omega)) (by go_grown) (by go_size) ?_; rintro e w1 rfl hB1 hc1 hf1 hl1 hs1; have hl10 : w.heap.size < w1.heap.size := hl1 _ (by omega); have hl11 : w.heap.size + 1 < w1.heap.size := hl1 _ (by omega))
  all_goals (go_ret; exact ⟨ret_int (by unfold bothS; simp_all), by go_grown⟩)
theorem in_any (lo hi n : Int) (w : World) (h : (-9223372036854775808 ≤ lo ∧ lo ≤ 9223372036854775807) ∧ (-9223372036854775808 ≤ hi ∧ hi ≤ 9223372036854775807) ∧ (-9223372036854775808 ≤ n ∧ n ≤ 9223372036854775807)) :
    Calls Tryd.prog 52 #[.agg #[.int .i64 lo, .int .i64 hi], .int .i64 n] w fun e w' => e = .returned (.bool (inS lo hi n)) ∧ Below w.heap.size w w' := by
  obtain ⟨⟨a1, a2⟩, ⟨b1, b2⟩, c1, c2⟩ := h
  go_enter Tryd.func52, Tryd.ntmps52
  go_wp2_with (go_at_call 31; refine use w (w.heap.size + 1) (check_any _ _ _ (by omega)) (by go_grown) (by go_size) ?_; rintro e w1 rfl hB1 hc1 hf1 hl1 hs1; have hl10 : w.heap.size < w1.heap.size := hl1 _ (by omega))
  all_goals (go_ret; exact ⟨ret_bool (by (try simp only [Array.getD_eq_getD_getElem?, List.getElem?_toArray, List.getElem?_cons_succ, List.getElem?_cons_zero, Option.getD_some]) <;> (unfold inS; simp_all <;> omega)), by go_grown⟩)
theorem within_any (al ah bl bh : Int) (w : World) (h : (-9223372036854775808 ≤ al ∧ al ≤ 9223372036854775807) ∧ (-9223372036854775808 ≤ ah ∧ ah ≤ 9223372036854775807) ∧ (-9223372036854775808 ≤ bl ∧ bl ≤ 9223372036854775807) ∧ (-9223372036854775808 ≤ bh ∧ bh ≤ 9223372036854775807)) :
    Calls Tryd.prog 48 #[.agg #[.int .i64 al, .int .i64 ah], .agg #[.int .i64 bl, .int .i64 bh]] w fun e w' => e = .returned (.bool (withinS al ah bl bh)) ∧ Below w.heap.size w w' := by
  obtain ⟨⟨a1, a2⟩, ⟨b1, b2⟩, ⟨c1, c2⟩, d1, d2⟩ := h
  go_enter Tryd.func48, Tryd.ntmps48
  go_wp2_with (go_at_call 69; refine use w (w.heap.size + 1 + 1) (both_any _ _ _ _ _ (by omega)) (by go_grown) (by go_size) ?_; rintro e w1 rfl hB1 hc1 hf1 hl1 hs1; have hl10 : w.heap.size < w1.heap.size := hl1 _ (by omega); have hl11 : w.heap.size + 1 < w1.heap.size := hl1 _ (by omega))
  all_goals (go_ret; exact ⟨ret_bool (by (try simp only [Array.getD_eq_getD_getElem?, List.getElem?_toArray, List.getElem?_cons_succ, List.getElem?_cons_zero, Option.getD_some]) <;> (unfold withinS; simp_all <;> omega)), by go_grown⟩)
theorem order_any (al ah bl bh : Int) (w : World) (h : (-9223372036854775808 ≤ al ∧ al ≤ 9223372036854775807) ∧ (-9223372036854775808 ≤ ah ∧ ah ≤ 9223372036854775807) ∧ (-9223372036854775808 ≤ bl ∧ bl ≤ 9223372036854775807) ∧ (-9223372036854775808 ≤ bh ∧ bh ≤ 9223372036854775807)) :
    Calls Tryd.prog 50 #[.agg #[.int .i64 al, .int .i64 ah], .agg #[.int .i64 bl, .int .i64 bh]] w fun e w' => e = .returned (.int .i64 (orderS al ah bl bh)) ∧ Below w.heap.size w w' := by
  obtain ⟨⟨a1, a2⟩, ⟨b1, b2⟩, ⟨c1, c2⟩, d1, d2⟩ := h
  go_enter Tryd.func50, Tryd.ntmps50
  go_wp2_with (go_at_call 69; refine use w (w.heap.size + 1 + 1) (both_any _ _ _ _ _ (by omega)) (by go_grown) (by go_size) ?_; rintro e w1 rfl hB1 hc1 hf1 hl1 hs1; have hl10 : w.heap.size < w1.heap.size := hl1 _ (by omega); have hl11 : w.heap.size + 1 < w1.heap.size := hl1 _ (by omega))
  all_goals (go_ret; exact ⟨ret_int (by (try simp only [Array.getD_eq_getD_getElem?, List.getElem?_toArray, List.getElem?_cons_succ, List.getElem?_cons_zero, Option.getD_some]) <;> (unfold orderS; simp_all <;> (repeat' split) <;> omega)), by go_grown⟩)
end Go.Proofs.YtjleflfncijnpaaDoor
