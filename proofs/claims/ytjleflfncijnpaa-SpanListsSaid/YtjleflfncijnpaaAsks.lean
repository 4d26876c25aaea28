/- The questions: Check, In, Within, Sign, Order, of both packages. -/
import Derived.Test.YtjleflfncijnpaaRows
import Derived.Test.YtjleflfncijnpaaBase
import Derived.Test.YtjleflfncijnpaaFacts
import Derived.Test.YtjleflfncijnpaaTwo
import Derived.Deep.RegionHeld3
import Derived.Deep.RegionWith
import Derived.Deep.QuietTactic
import Derived.BigQuiet
set_option linter.unusedVariables false
set_option linter.unusedSimpArgs false
set_option maxHeartbeats 4000000
set_option maxRecDepth 100000
namespace Go.Proofs.Ytjleflfncijnpaa
open Go Go.RowKit

theorem check_any (lo hi : Int) (w : World) (h : (-9223372036854775808 ≤ lo ∧ lo ≤ 9223372036854775807) ∧ (-9223372036854775808 ≤ hi ∧ hi ≤ 9223372036854775807)) :
    Calls Try.prog 18 #[.agg #[.int .i64 lo, .int .i64 hi]] w fun e w' => e = .returned (.int .i64 (chk lo hi)) ∧ Below w.heap.size w w' := by
  obtain ⟨⟨a1, a2⟩, b1, b2⟩ := h
  go_enter Try.func18, Try.ntmps18
  go_wp2
  all_goals (go_ret; exact ⟨ret_int (by unfold chk; split <;> omega), by go_grown⟩)
theorem rcheck_any (lo hi : Int) (w : World) (h : (-9223372036854775808 ≤ lo ∧ lo ≤ 9223372036854775807) ∧ (-9223372036854775808 ≤ hi ∧ hi ≤ 9223372036854775807)) :
    Calls Try.prog 19 #[.agg #[.int .i64 lo, .int .i64 hi]] w fun e w' => e = .returned (.int .i64 (chk lo hi)) ∧ Below w.heap.size w w' := by
  obtain ⟨⟨a1, a2⟩, b1, b2⟩ := h
  go_enter Try.func19, Try.ntmps19
  go_wp2
  all_goals (go_ret; exact ⟨ret_int (by unfold chk; split <;> omega), by go_grown⟩)
theorem both_any (al ah bl bh : Int) (w : World) (h : (-9223372036854775808 ≤ al ∧ al ≤ 9223372036854775807) ∧ (-9223372036854775808 ≤ ah ∧ ah ≤ 9223372036854775807) ∧ (-9223372036854775808 ≤ bl ∧ bl ≤ 9223372036854775807) ∧ (-9223372036854775808 ≤ bh ∧ bh ≤ 9223372036854775807)) :
    Calls Try.prog 82 #[.agg #[.int .i64 al, .int .i64 ah], .agg #[.int .i64 bl, .int .i64 bh]] w fun e w' => e = .returned (.int .i64 (bothS al ah bl bh)) ∧ Below w.heap.size w w' := by
  obtain ⟨⟨a1, a2⟩, ⟨b1, b2⟩, ⟨c1, c2⟩, d1, d2⟩ := h
  go_enter Try.func82, Try.ntmps82
  go_wp2_with (go_at_call 18; refine use w (w.heap.size + 1 + 1) (check_any _ _ _ (by omega)) (by go_grown) (by go_size) ?_; rintro e w1 rfl hB1 hc1 hf1 hl1 hs1; have hl10 : w.heap.size < w1.heap.size := hl1 _ (by omega); have hl11 : w.heap.size + 1 < w1.heap.size := hl1 _ (by omega))
  all_goals (go_ret; exact ⟨ret_int (by unfold bothS; simp_all), by go_grown⟩)
theorem rboth_any (al ah bl bh : Int) (w : World) (h : (-9223372036854775808 ≤ al ∧ al ≤ 9223372036854775807) ∧ (-9223372036854775808 ≤ ah ∧ ah ≤ 9223372036854775807) ∧ (-9223372036854775808 ≤ bl ∧ bl ≤ 9223372036854775807) ∧ (-9223372036854775808 ≤ bh ∧ bh ≤ 9223372036854775807)) :
    Calls Try.prog 84 #[.agg #[.int .i64 al, .int .i64 ah], .agg #[.int .i64 bl, .int .i64 bh]] w fun e w' => e = .returned (.int .i64 (bothS al ah bl bh)) ∧ Below w.heap.size w w' := by
  obtain ⟨⟨a1, a2⟩, ⟨b1, b2⟩, ⟨c1, c2⟩, d1, d2⟩ := h
  go_enter Try.func84, Try.ntmps84
  go_wp2_with fail
  go_region_held3 (fun w' => w'.cell? ⟨w.heap.size, 0, none⟩ = some (.int .i64 al) ∧ w'.cell? ⟨w.heap.size, 1, none⟩ = some (.int .i64 ah) ∧ w'.cell? ⟨w.heap.size + 1, 0, none⟩ = some (.int .i64 bl) ∧ w'.cell? ⟨w.heap.size + 1, 1, none⟩ = some (.int .i64 bh)) (first | (go_keep; done) | (simp (maxDischargeDepth := 8) [*, go_sem, World.cell?_alloc_some, World.cell?_setCell_far]; done)) (first | (go_at_call 19; refine use w (w.heap.size + 1 + 1) (rcheck_any _ _ _ (by omega)) (by go_grown) (by go_size) ?_; rintro e w1 rfl hB1 hc1 hf1 hl1 hs1; have hl10 : w.heap.size < w1.heap.size := hl1 _ (by omega); have hl11 : w.heap.size + 1 < w1.heap.size := hl1 _ (by omega)))
  go_wp2
  all_goals (go_ret; exact ⟨ret_int (by (try simp only [Array.getD_eq_getD_getElem?, List.getElem?_toArray, List.getElem?_cons_succ, List.getElem?_cons_zero, Option.getD_some]) <;> (have := chk_cases al ah; have := chk_cases bl bh; unfold bothS; (repeat' split) <;> omega)), by go_grown⟩)
theorem in_any (lo hi n : Int) (w : World) (h : (-9223372036854775808 ≤ lo ∧ lo ≤ 9223372036854775807) ∧ (-9223372036854775808 ≤ hi ∧ hi ≤ 9223372036854775807) ∧ (-9223372036854775808 ≤ n ∧ n ≤ 9223372036854775807)) :
    Calls Try.prog 55 #[.agg #[.int .i64 lo, .int .i64 hi], .int .i64 n] w fun e w' => e = .returned (.bool (inS lo hi n)) ∧ Below w.heap.size w w' := by
  obtain ⟨⟨a1, a2⟩, ⟨b1, b2⟩, c1, c2⟩ := h
  go_enter Try.func55, Try.ntmps55
  go_wp2_with (go_at_call 18; refine use w (w.heap.size + 1) (check_any _ _ _ (by omega)) (by go_grown) (by go_size) ?_; rintro e w1 rfl hB1 hc1 hf1 hl1 hs1; have hl10 : w.heap.size < w1.heap.size := hl1 _ (by omega))
  all_goals (go_ret; exact ⟨ret_bool (by (try simp only [Array.getD_eq_getD_getElem?, List.getElem?_toArray, List.getElem?_cons_succ, List.getElem?_cons_zero, Option.getD_some]) <;> (unfold inS; simp_all <;> omega)), by go_grown⟩)
theorem rin_any (lo hi n : Int) (w : World) (h : (-9223372036854775808 ≤ lo ∧ lo ≤ 9223372036854775807) ∧ (-9223372036854775808 ≤ hi ∧ hi ≤ 9223372036854775807) ∧ (-9223372036854775808 ≤ n ∧ n ≤ 9223372036854775807)) :
    Calls Try.prog 56 #[.agg #[.int .i64 lo, .int .i64 hi], .int .i64 n] w fun e w' => e = .returned (.bool (inS lo hi n)) ∧ Below w.heap.size w w' := by
  obtain ⟨⟨a1, a2⟩, ⟨b1, b2⟩, c1, c2⟩ := h
  go_enter Try.func56, Try.ntmps56
  go_wp2_with (go_at_call 19; refine use w (w.heap.size + 1) (rcheck_any _ _ _ (by omega)) (by go_grown) (by go_size) ?_; rintro e w1 rfl hB1 hc1 hf1 hl1 hs1; have hl10 : w.heap.size < w1.heap.size := hl1 _ (by omega))
  all_goals (go_ret; exact ⟨ret_bool (by (try simp only [Array.getD_eq_getD_getElem?, List.getElem?_toArray, List.getElem?_cons_succ, List.getElem?_cons_zero, Option.getD_some]) <;> (unfold inS; simp_all <;> omega)), by go_grown⟩)
theorem within_any (al ah bl bh : Int) (w : World) (h : (-9223372036854775808 ≤ al ∧ al ≤ 9223372036854775807) ∧ (-9223372036854775808 ≤ ah ∧ ah ≤ 9223372036854775807) ∧ (-9223372036854775808 ≤ bl ∧ bl ≤ 9223372036854775807) ∧ (-9223372036854775808 ≤ bh ∧ bh ≤ 9223372036854775807)) :
    Calls Try.prog 57 #[.agg #[.int .i64 al, .int .i64 ah], .agg #[.int .i64 bl, .int .i64 bh]] w fun e w' => e = .returned (.bool (withinS al ah bl bh)) ∧ Below w.heap.size w w' := by
  obtain ⟨⟨a1, a2⟩, ⟨b1, b2⟩, ⟨c1, c2⟩, d1, d2⟩ := h
  go_enter Try.func57, Try.ntmps57
  go_wp2_with (go_at_call 82; refine use w (w.heap.size + 1 + 1) (both_any _ _ _ _ _ (by omega)) (by go_grown) (by go_size) ?_; rintro e w1 rfl hB1 hc1 hf1 hl1 hs1; have hl10 : w.heap.size < w1.heap.size := hl1 _ (by omega); have hl11 : w.heap.size + 1 < w1.heap.size := hl1 _ (by omega))
  all_goals (go_ret; exact ⟨ret_bool (by (try simp only [Array.getD_eq_getD_getElem?, List.getElem?_toArray, List.getElem?_cons_succ, List.getElem?_cons_zero, Option.getD_some]) <;> (unfold withinS; simp_all <;> omega)), by go_grown⟩)
theorem rwithin_any (al ah bl bh : Int) (w : World) (h : (-9223372036854775808 ≤ al ∧ al ≤ 9223372036854775807) ∧ (-9223372036854775808 ≤ ah ∧ ah ≤ 9223372036854775807) ∧ (-9223372036854775808 ≤ bl ∧ bl ≤ 9223372036854775807) ∧ (-9223372036854775808 ≤ bh ∧ bh ≤ 9223372036854775807)) :
    Calls Try.prog 58 #[.agg #[.int .i64 al, .int .i64 ah], .agg #[.int .i64 bl, .int .i64 bh]] w fun e w' => e = .returned (.bool (withinS al ah bl bh)) ∧ Below w.heap.size w w' := by
  obtain ⟨⟨a1, a2⟩, ⟨b1, b2⟩, ⟨c1, c2⟩, d1, d2⟩ := h
  go_enter Try.func58, Try.ntmps58
  go_wp2_with (go_at_call 84; refine use w (w.heap.size + 1 + 1) (rboth_any _ _ _ _ _ (by omega)) (by go_grown) (by go_size) ?_; rintro e w1 rfl hB1 hc1 hf1 hl1 hs1; have hl10 : w.heap.size < w1.heap.size := hl1 _ (by omega); have hl11 : w.heap.size + 1 < w1.heap.size := hl1 _ (by omega))
  all_goals (go_ret; exact ⟨ret_bool (by (try simp only [Array.getD_eq_getD_getElem?, List.getElem?_toArray, List.getElem?_cons_succ, List.getElem?_cons_zero, Option.getD_some]) <;> (unfold withinS; simp_all <;> omega)), by go_grown⟩)
theorem order_any (al ah bl bh : Int) (w : World) (h : (-9223372036854775808 ≤ al ∧ al ≤ 9223372036854775807) ∧ (-9223372036854775808 ≤ ah ∧ ah ≤ 9223372036854775807) ∧ (-9223372036854775808 ≤ bl ∧ bl ≤ 9223372036854775807) ∧ (-9223372036854775808 ≤ bh ∧ bh ≤ 9223372036854775807)) :
    Calls Try.prog 61 #[.agg #[.int .i64 al, .int .i64 ah], .agg #[.int .i64 bl, .int .i64 bh]] w fun e w' => e = .returned (.int .i64 (orderS al ah bl bh)) ∧ Below w.heap.size w w' := by
  obtain ⟨⟨a1, a2⟩, ⟨b1, b2⟩, ⟨c1, c2⟩, d1, d2⟩ := h
  go_enter Try.func61, Try.ntmps61
  go_wp2_with (go_at_call 82; refine use w (w.heap.size + 1 + 1) (both_any _ _ _ _ _ (by omega)) (by go_grown) (by go_size) ?_; rintro e w1 rfl hB1 hc1 hf1 hl1 hs1; have hl10 : w.heap.size < w1.heap.size := hl1 _ (by omega); have hl11 : w.heap.size + 1 < w1.heap.size := hl1 _ (by omega))
  all_goals (go_ret; exact ⟨ret_int (by (try simp only [Array.getD_eq_getD_getElem?, List.getElem?_toArray, List.getElem?_cons_succ, List.getElem?_cons_zero, Option.getD_some]) <;> (unfold orderS; simp_all <;> (repeat' split) <;> omega)), by go_grown⟩)
theorem rorder_any (al ah bl bh : Int) (w : World) (h : (-9223372036854775808 ≤ al ∧ al ≤ 9223372036854775807) ∧ (-9223372036854775808 ≤ ah ∧ ah ≤ 9223372036854775807) ∧ (-9223372036854775808 ≤ bl ∧ bl ≤ 9223372036854775807) ∧ (-9223372036854775808 ≤ bh ∧ bh ≤ 9223372036854775807)) :
    Calls Try.prog 62 #[.agg #[.int .i64 al, .int .i64 ah], .agg #[.int .i64 bl, .int .i64 bh]] w fun e w' => e = .returned (.int .i64 (orderS al ah bl bh)) ∧ Below w.heap.size w w' := by
  obtain ⟨⟨a1, a2⟩, ⟨b1, b2⟩, ⟨c1, c2⟩, d1, d2⟩ := h
  go_enter Try.func62, Try.ntmps62
  go_wp2_with (go_at_call 84; refine use w (w.heap.size + 1 + 1) (rboth_any _ _ _ _ _ (by omega)) (by go_grown) (by go_size) ?_; rintro e w1 rfl hB1 hc1 hf1 hl1 hs1; have hl10 : w.heap.size < w1.heap.size := hl1 _ (by omega); have hl11 : w.heap.size + 1 < w1.heap.size := hl1 _ (by omega))
  all_goals (go_ret; exact ⟨ret_int (by (try simp only [Array.getD_eq_getD_getElem?, List.getElem?_toArray, List.getElem?_cons_succ, List.getElem?_cons_zero, Option.getD_some]) <;> (unfold orderS; simp_all <;> (repeat' split) <;> omega)), by go_grown⟩)
theorem sign_any (lo hi : Int) (w : World) (h : (-9223372036854775808 ≤ lo ∧ lo ≤ 9223372036854775807) ∧ (-9223372036854775808 ≤ hi ∧ hi ≤ 9223372036854775807)) :
    Calls Try.prog 59 #[.agg #[.int .i64 lo, .int .i64 hi]] w fun e w' => e = .returned (.int .i64 (orderS lo hi 0 0)) ∧ Below w.heap.size w w' := by
  obtain ⟨⟨a1, a2⟩, b1, b2⟩ := h
  go_enter Try.func59, Try.ntmps59
  go_wp2_with (go_at_call 61; refine use w (w.heap.size + 1) (order_any _ _ _ _ _ (by omega)) (by go_grown) (by go_size) ?_; rintro e w1 rfl hB1 hc1 hf1 hl1 hs1; have hl10 : w.heap.size < w1.heap.size := hl1 _ (by omega))
  all_goals (go_ret; exact ⟨ret_int (by (try simp only [Array.getD_eq_getD_getElem?, List.getElem?_toArray, List.getElem?_cons_succ, List.getElem?_cons_zero, Option.getD_some]) <;> (rfl)), by go_grown⟩)
theorem rsign_any (lo hi : Int) (w : World) (h : (-9223372036854775808 ≤ lo ∧ lo ≤ 9223372036854775807) ∧ (-9223372036854775808 ≤ hi ∧ hi ≤ 9223372036854775807)) :
    Calls Try.prog 60 #[.agg #[.int .i64 lo, .int .i64 hi]] w fun e w' => e = .returned (.int .i64 (orderS lo hi 0 0)) ∧ Below w.heap.size w w' := by
  obtain ⟨⟨a1, a2⟩, b1, b2⟩ := h
  go_enter Try.func60, Try.ntmps60
  go_wp2_with (go_at_call 19; refine use w (w.heap.size + 1) (rcheck_any _ _ _ (by omega)) (by go_grown) (by go_size) ?_; rintro e w1 rfl hB1 hc1 hf1 hl1 hs1; have hl10 : w.heap.size < w1.heap.size := hl1 _ (by omega))
  all_goals (go_ret; exact ⟨ret_int (by (try simp only [Array.getD_eq_getD_getElem?, List.getElem?_toArray, List.getElem?_cons_succ, List.getElem?_cons_zero, Option.getD_some]) <;> (have := chk_cases lo hi; have := chk_zero; unfold orderS bothS; simp_all <;> (repeat' split) <;> omega)), by go_grown⟩)
end Go.Proofs.Ytjleflfncijnpaa
