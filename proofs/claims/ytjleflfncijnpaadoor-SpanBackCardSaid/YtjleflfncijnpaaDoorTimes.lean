/- Products of 128 bits. -/
import Derived.Test.YtjleflfncijnpaaDoorRows
import Derived.Test.YtjleflfncijnpaaDoorBase
import Derived.Test.YtjleflfncijnpaaDoorFacts
import Derived.Test.YtjleflfncijnpaaDoorTwo
import Derived.Deep.RegionHeld3
import Derived.Deep.RegionWith
import Derived.Deep.QuietTactic
import Derived.BigQuiet
import Derived.Test.YtjleflfncijnpaaDoorW
set_option linter.unusedVariables false
set_option linter.unusedSimpArgs false
set_option maxHeartbeats 4000000
set_option maxRecDepth 100000
namespace Go.Proofs.YtjleflfncijnpaaDoor
open Go Go.RowKit
theorem rsize_any (n : Int) (w : World) (h : (-9223372036854775808 ≤ n ∧ n ≤ 9223372036854775807)) :
    Calls Tryd.prog 85 #[.int .i64 n] w fun e w' => e = .returned (.int .u64 (ab n)) ∧ Below w.heap.size w w' := by
  obtain ⟨n1, n2⟩ := h
  go_enter Tryd.func85, Tryd.ntmps85
  go_wp2
  all_goals (go_ret; exact ⟨ret_int (by (try simp only [Array.getD_eq_getD_getElem?, List.getElem?_toArray, List.getElem?_cons_succ, List.getElem?_cons_zero, Option.getD_some]) <;> (unfold ab; (try simp only [IntKind.wrap_u64]); split <;> omega)), by go_grown⟩)
theorem ab_mul (a b : Int) : a * b = if (a < 0) = (b < 0) then ab a * ab b else -(ab a * ab b) := by
  unfold ab
  by_cases ha : a < 0 <;> by_cases hb : b < 0 <;> simp [ha, hb, Int.neg_mul, Int.mul_neg]
theorem ab_split (x y : Int) : x * y = x / 4294967296 * (y / 4294967296) * 18446744073709551616 + (x / 4294967296 * (y % 4294967296) + x % 4294967296 * (y / 4294967296)) * 4294967296 + x % 4294967296 * (y % 4294967296) := by
  have := split_mul (x / 4294967296) (x % 4294967296) (y / 4294967296) (y % 4294967296)
  rw [show x / 4294967296 * 4294967296 + x % 4294967296 = x from by omega, show y / 4294967296 * 4294967296 + y % 4294967296 = y from by omega] at this
  exact this
theorem times_any (a b : Int) (w : World) (h : (-9223372036854775808 ≤ a ∧ a ≤ 9223372036854775807) ∧ (-9223372036854775808 ≤ b ∧ b ≤ 9223372036854775807)) :
    Calls Tryd.prog 38 #[.int .i64 a, .int .i64 b] w fun e w' => e = .returned (.agg #[.int .i64 (hiW (a * b)), .int .u64 (loW (a * b))]) ∧ Below w.heap.size w w' := by
  obtain ⟨⟨a1, a2⟩, b1, b2⟩ := h
  have ⟨x1, x2⟩ := ab_bd ⟨a1, a2⟩
  have ⟨y1, y2⟩ := ab_bd ⟨b1, b2⟩
  have k00 := mul_bd (x := ab a % 4294967296) (y := ab b % 4294967296) (a := 4294967295) (b := 4294967295) (by omega) (by omega)
  have k10 := mul_bd (x := ab a / 4294967296) (y := ab b % 4294967296) (a := 2147483648) (b := 4294967295) (by omega) (by omega)
  have k01 := mul_bd (x := ab a % 4294967296) (y := ab b / 4294967296) (a := 4294967295) (b := 2147483648) (by omega) (by omega)
  have k11 := mul_bd (x := ab a / 4294967296) (y := ab b / 4294967296) (a := 2147483648) (b := 2147483648) (by omega) (by omega)
  simp only [Int.reduceMul] at k00 k01 k10 k11
  have hm := hid (ab_split (ab a) (ab b))
  have hs := hid (ab_mul a b)
  go_enter Tryd.func38, Tryd.ntmps38
  go_wp2_with (go_at_call 85; refine use w (w.heap.size + 1) (rsize_any _ _ (by omega)) (by go_grown) (by go_size) ?_; rintro e w1 rfl hB1 hc1 hf1 hl1 hs1; have hl10 : w.heap.size < w1.heap.size := hl1 _ (by omega))
  have hm2 := hm.out
  clear hm
  generalize ab a % 4294967296 * (ab b % 4294967296) = p00 at *
  generalize ab a / 4294967296 * (ab b % 4294967296) = p10 at *
  generalize ab a % 4294967296 * (ab b / 4294967296) = p01 at *
  have hm := hid hm2
  clear hm2
  have c := hiW_bd ((p10 + p01) * 4294967296 + p00)
  go_wp2_with (first | (go_at_call 36; refine use w (w.heap.size + 1) (plus_of ((p10 + p01) * 4294967296) p00 _ (by refine ⟨?_, ?_, ?_, ?_⟩ <;> ((try simp only [hiW, loW, wrap64, IntKind.wrap_u64, IntKind.wrap_i64] at *); omega))) (by go_grown) (by go_size) ?_; rintro e w1 rfl hB1 hc1 hf1 hl1 hs1; have hl10 : w.heap.size < w1.heap.size := hl1 _ (by omega)) | (go_at_call 62; refine use w (w.heap.size + 1) (minus_of (ab a * ab b) _ (by rw [hm.out]; refine ⟨?_, ?_⟩ <;> ((try simp only [hiW, loW, wrap64, IntKind.wrap_u64, IntKind.wrap_i64] at *); omega))) (by go_grown) (by go_size) ?_; rintro e w1 rfl hB1 hc1 hf1 hl1 hs1; have hl10 : w.heap.size < w1.heap.size := hl1 _ (by omega)))
  all_goals (refine' bodyPost_ret (res_st rfl isA_W isS_W rfl ?_ ?_) rfl ?_; rotate_left 2; (· ((try simp only [World.cell?_drew]); first | (with_reducible exact two_0 (by assumption)) | (with_reducible exact two_1 (by assumption)) | (with_reducible exact two_other (two_0 (by assumption)) (by simp)) | (with_reducible exact two_other (two_1 (by assumption)) (by simp)) | (with_reducible exact two_0 (two_other (by assumption) (by simp))) | (with_reducible exact two_1 (two_other (by assumption) (by simp))) | (simp (maxDischargeDepth := 8) [go_sem, hHeld]; rfl) | (simp (maxDischargeDepth := 8) [go_sem, *]; rfl) | (simp (maxDischargeDepth := 8) [go_sem, *]; done))); (· ((try simp only [World.cell?_drew]); first | (with_reducible exact two_0 (by assumption)) | (with_reducible exact two_1 (by assumption)) | (with_reducible exact two_other (two_0 (by assumption)) (by simp)) | (with_reducible exact two_other (two_1 (by assumption)) (by simp)) | (with_reducible exact two_0 (two_other (by assumption) (by simp))) | (with_reducible exact two_1 (two_other (by assumption) (by simp))) | (simp (maxDischargeDepth := 8) [go_sem, hHeld]; rfl) | (simp (maxDischargeDepth := 8) [go_sem, *]; rfl) | (simp (maxDischargeDepth := 8) [go_sem, *]; done))); refine ⟨ret_w ?_ ?_, by go_grown⟩ <;> (have hm := hm.out; have hs := hs.out; rw [hm] at hs; generalize ab a / 4294967296 * (ab b / 4294967296) = p11 at *; by_cases ha : a < 0 <;> by_cases hb : b < 0 <;> simp [ha, hb] at hs ⊢ <;> simp_all <;> ((try simp only [hiW, loW, wrap64, IntKind.wrap_u64, IntKind.wrap_i64] at *); omega)))
end Go.Proofs.YtjleflfncijnpaaDoor
