/- Multiples of a span, of both packages. -/
import Derived.Test.YtjleflfncijnpaaRows
import Derived.Test.YtjleflfncijnpaaBase
import Derived.Test.YtjleflfncijnpaaFacts
import Derived.Test.YtjleflfncijnpaaTwo
import Derived.Deep.RegionHeld3
import Derived.Deep.RegionWith
import Derived.Deep.QuietTactic
import Derived.BigQuiet
import Derived.Test.YtjleflfncijnpaaRound
import Derived.Test.YtjleflfncijnpaaAsks
import Derived.Test.YtjleflfncijnpaaOut
import Derived.Test.YtjleflfncijnpaaTimes
import Derived.Test.YtjleflfncijnpaaScaleM
import Derived.Test.YtjleflfncijnpaaCorners
set_option linter.unusedVariables false
set_option linter.unusedSimpArgs false
set_option maxHeartbeats 4000000
set_option maxRecDepth 100000
namespace Go.Proofs.Ytjleflfncijnpaa
open Go Go.RowKit
theorem scale_any (lo hi n : Int) (w : World) (h : (-9223372036854775808 ≤ lo ∧ lo ≤ 9223372036854775807) ∧ (-9223372036854775808 ≤ hi ∧ hi ≤ 9223372036854775807) ∧ (-9223372036854775808 ≤ n ∧ n ≤ 9223372036854775807)) :
    Calls Try.prog 27 #[.agg #[.int .i64 lo, .int .i64 hi], .int .i64 n] w fun e w' => e = .returned (.tuple #[.agg #[.int .i64 ((scaleS lo hi n).1), .int .i64 ((scaleS lo hi n).2.1)], .int .i64 ((scaleS lo hi n).2.2)]) ∧ Below w.heap.size w w' := by
  obtain ⟨⟨a1, a2⟩, ⟨b1, b2⟩, n1, n2⟩ := h
  have hc := hid (fun W => corners_Scale lo hi n n W ⟨⟨a1, a2⟩, ⟨b1, b2⟩, ⟨n1, n2⟩, n1, n2⟩)
  rcases chk_cases lo hi with ⟨e, k1, k2⟩ | ⟨e, k1⟩
  · have hp := hid (show scaleS lo hi n = _ from (if_pos e).trans (corn_scale lo hi n).symm)
    go_enter Try.func27, Try.ntmps27
    go_wp2_with (first | (go_at_call 18; refine use w (w.heap.size + 1 + 1) (check_any _ _ _ (by omega)) (by go_grown) (by go_size) ?_; rintro e w1 rfl hB1 hc1 hf1 hl1 hs1; have hl10 : w.heap.size < w1.heap.size := hl1 _ (by omega); have hl11 : w.heap.size + 1 < w1.heap.size := hl1 _ (by omega)) | (go_at_call 88; refine use w (w.heap.size + 1 + 1) (hc.out _) (by go_grown) (by go_size) ?_; rintro e w1 rfl hB1 hc1 hf1 hl1 hs1; have hl10 : w.heap.size < w1.heap.size := hl1 _ (by omega); have hl11 : w.heap.size + 1 < w1.heap.size := hl1 _ (by omega)))
    all_goals (refine' bodyPost_ret (res_st_t rfl isA_S isS_S rfl ?_ ?_) rfl ?_; rotate_left 2; (· ((try simp only [World.cell?_drew]); first | (with_reducible exact two_0 (by assumption)) | (with_reducible exact two_1 (by assumption)) | (with_reducible exact two_other (two_0 (by assumption)) (by simp)) | (with_reducible exact two_other (two_1 (by assumption)) (by simp)) | (with_reducible exact two_0 (two_other (by assumption) (by simp))) | (with_reducible exact two_1 (two_other (by assumption) (by simp))) | (simp (maxDischargeDepth := 8) [go_sem, hHeld]; rfl) | (simp (maxDischargeDepth := 8) [go_sem, *]; rfl) | (simp (maxDischargeDepth := 8) [go_sem, *]; done))); (· ((try simp only [World.cell?_drew]); first | (with_reducible exact two_0 (by assumption)) | (with_reducible exact two_1 (by assumption)) | (with_reducible exact two_other (two_0 (by assumption)) (by simp)) | (with_reducible exact two_other (two_1 (by assumption)) (by simp)) | (with_reducible exact two_0 (two_other (by assumption) (by simp))) | (with_reducible exact two_1 (two_other (by assumption) (by simp))) | (simp (maxDischargeDepth := 8) [go_sem, hHeld]; rfl) | (simp (maxDischargeDepth := 8) [go_sem, *]; rfl) | (simp (maxDischargeDepth := 8) [go_sem, *]; done))); refine ⟨ret_r ?_, by go_grown⟩; (rw [hp.out]))
  · have hp := hid (show scaleS lo hi n = (0, 0, 2) from if_neg (by omega))
    clear k1
    go_enter Try.func27, Try.ntmps27
    go_wp2_with (first | (go_at_call 18; refine use w (w.heap.size + 1 + 1) (check_any _ _ _ (by omega)) (by go_grown) (by go_size) ?_; rintro e w1 rfl hB1 hc1 hf1 hl1 hs1; have hl10 : w.heap.size < w1.heap.size := hl1 _ (by omega); have hl11 : w.heap.size + 1 < w1.heap.size := hl1 _ (by omega)) | (go_at_call 88; refine use w (w.heap.size + 1 + 1) (hc.out _) (by go_grown) (by go_size) ?_; rintro e w1 rfl hB1 hc1 hf1 hl1 hs1; have hl10 : w.heap.size < w1.heap.size := hl1 _ (by omega); have hl11 : w.heap.size + 1 < w1.heap.size := hl1 _ (by omega)))
    all_goals (refine' bodyPost_ret (res_st_t rfl isA_S isS_S rfl ?_ ?_) rfl ?_; rotate_left 2; (· ((try simp only [World.cell?_drew]); first | (with_reducible exact two_0 (by assumption)) | (with_reducible exact two_1 (by assumption)) | (with_reducible exact two_other (two_0 (by assumption)) (by simp)) | (with_reducible exact two_other (two_1 (by assumption)) (by simp)) | (with_reducible exact two_0 (two_other (by assumption) (by simp))) | (with_reducible exact two_1 (two_other (by assumption) (by simp))) | (simp (maxDischargeDepth := 8) [go_sem, hHeld]; rfl) | (simp (maxDischargeDepth := 8) [go_sem, *]; rfl) | (simp (maxDischargeDepth := 8) [go_sem, *]; done))); (· ((try simp only [World.cell?_drew]); first | (with_reducible exact two_0 (by assumption)) | (with_reducible exact two_1 (by assumption)) | (with_reducible exact two_other (two_0 (by assumption)) (by simp)) | (with_reducible exact two_other (two_1 (by assumption)) (by simp)) | (with_reducible exact two_0 (two_other (by assumption) (by simp))) | (with_reducible exact two_1 (two_other (by assumption) (by simp))) | (simp (maxDischargeDepth := 8) [go_sem, hHeld]; rfl) | (simp (maxDischargeDepth := 8) [go_sem, *]; rfl) | (simp (maxDischargeDepth := 8) [go_sem, *]; done))); refine ⟨ret_r ?_, by go_grown⟩; (rw [hp.out]))
theorem rscale_any (lo hi n : Int) (w : World) (h : (-9223372036854775808 ≤ lo ∧ lo ≤ 9223372036854775807) ∧ (-9223372036854775808 ≤ hi ∧ hi ≤ 9223372036854775807) ∧ (-9223372036854775808 ≤ n ∧ n ≤ 9223372036854775807)) :
    Calls Try.prog 28 #[.agg #[.int .i64 lo, .int .i64 hi], .int .i64 n] w fun e w' => e = .returned (.tuple #[.agg #[.int .i64 ((scaleS lo hi n).1), .int .i64 ((scaleS lo hi n).2.1)], .int .i64 ((scaleS lo hi n).2.2)]) ∧ Below w.heap.size w w' := by
  obtain ⟨⟨a1, a2⟩, ⟨b1, b2⟩, n1, n2⟩ := h
  have m1 := mul_bd (ab_bd ⟨a1, a2⟩) (ab_bd ⟨n1, n2⟩)
  have m2 := mul_bd (ab_bd ⟨b1, b2⟩) (ab_bd ⟨n1, n2⟩)
  have v1 := ab_mul lo n
  have v2 := ab_mul hi n
  simp only [Int.reduceMul] at m1 m2
  have g1 : (-170141183460469231731687303715884105728 ≤ lo * n ∧ lo * n < 170141183460469231731687303715884105728) := by rw [v1]; split <;> omega
  have g2 : (-170141183460469231731687303715884105728 ≤ hi * n ∧ hi * n < 170141183460469231731687303715884105728) := by rw [v2]; split <;> omega
  clear m1 m2 v1 v2
  rcases chk_cases lo hi with ⟨e, k1, k2⟩ | ⟨e, k1⟩
  · by_cases c : hi * n < lo * n
    · have hp := hid (show scaleS lo hi n = fitS (hi * n) (lo * n) by unfold scaleS; rw [if_pos e, show min (lo * n) (hi * n) = hi * n by omega, show max (lo * n) (hi * n) = lo * n by omega])
      have c1 : decide (hi * n < lo * n) = true := decide_eq_true c
      clear c
      go_enter Try.func28, Try.ntmps28
      go_wp2_with fail
      refine useF w (rcheck_any _ _ _ (by omega)) (by go_grown) ?_; rintro e w1 rfl hB1 hk1 hf1 hs1
      replace f10 : w1.frozen? ⟨w.heap.size + 1, 0, none⟩ = false := hf1 _ _ (.int .i64 0) (by simp [go_sem]) (by simp [go_sem])
      replace f11 : w1.frozen? ⟨w.heap.size + 1, 1, none⟩ = false := hf1 _ _ (.int .i64 0) (by simp [go_sem]) (by simp [go_sem])
      replace p00 : w1.cell? ⟨w.heap.size, 0, none⟩ = some (.int .i64 lo) := hk1 _ _ _ (by simp [go_sem])
      replace p01 : w1.cell? ⟨w.heap.size, 1, none⟩ = some (.int .i64 hi) := hk1 _ _ _ (by simp [go_sem])
      replace p10 : w1.cell? ⟨w.heap.size + 1, 0, none⟩ = some (.int .i64 0) := hk1 _ _ _ (by simp [go_sem])
      replace p11 : w1.cell? ⟨w.heap.size + 1, 1, none⟩ = some (.int .i64 0) := hk1 _ _ _ (by simp [go_sem])
      have bp00 : w.heap.size < w1.heap.size := World.block_lt_of_cell? w1 ⟨w.heap.size, 0, none⟩ p00
      have bp10 : w.heap.size + 1 < w1.heap.size := World.block_lt_of_cell? w1 ⟨w.heap.size + 1, 0, none⟩ p10
      clear hk1 hf1
      go_wp2_with fail
      refine useF w (times_any _ _ _ (by omega)) (by go_grown) ?_; rintro e w2 rfl hB2 hk2 hf2 hs2
      replace f10 : w2.frozen? ⟨w.heap.size + 1, 0, none⟩ = false := hf2 _ _ _ (p10) (f10)
      replace f11 : w2.frozen? ⟨w.heap.size + 1, 1, none⟩ = false := hf2 _ _ _ (p11) (f11)
      replace p00 : w2.cell? ⟨w.heap.size, 0, none⟩ = some (.int .i64 lo) := hk2 _ _ _ (p00)
      replace p01 : w2.cell? ⟨w.heap.size, 1, none⟩ = some (.int .i64 hi) := hk2 _ _ _ (p01)
      replace p10 : w2.cell? ⟨w.heap.size + 1, 0, none⟩ = some (.int .i64 0) := hk2 _ _ _ (p10)
      replace p11 : w2.cell? ⟨w.heap.size + 1, 1, none⟩ = some (.int .i64 0) := hk2 _ _ _ (p11)
      have bp00 : w.heap.size < w2.heap.size := World.block_lt_of_cell? w2 ⟨w.heap.size, 0, none⟩ p00
      have bp10 : w.heap.size + 1 < w2.heap.size := World.block_lt_of_cell? w2 ⟨w.heap.size + 1, 0, none⟩ p10
      clear hk2 hf2
      go_wp2_with fail
      refine useF w (times_any _ _ _ (by omega)) (by go_grown) ?_; rintro e w3 rfl hB3 hk3 hf3 hs3
      replace f10 : w3.frozen? ⟨w.heap.size + 1, 0, none⟩ = false := hf3 _ _ _ ((keepA _ p10)) ((keepAF _ (p10) f10))
      replace f11 : w3.frozen? ⟨w.heap.size + 1, 1, none⟩ = false := hf3 _ _ _ ((keepA _ p11)) ((keepAF _ (p11) f11))
      replace p00 : w3.cell? ⟨w.heap.size, 0, none⟩ = some (.int .i64 lo) := hk3 _ _ _ ((keepA _ p00))
      replace p01 : w3.cell? ⟨w.heap.size, 1, none⟩ = some (.int .i64 hi) := hk3 _ _ _ ((keepA _ p01))
      replace p10 : w3.cell? ⟨w.heap.size + 1, 0, none⟩ = some (.int .i64 0) := hk3 _ _ _ ((keepA _ p10))
      replace p11 : w3.cell? ⟨w.heap.size + 1, 1, none⟩ = some (.int .i64 0) := hk3 _ _ _ ((keepA _ p11))
      replace l200 : w3.cell? ⟨w2.heap.size, 0, none⟩ = some (.int .i64 (hiW (lo * n))) := hk3 _ _ _ (by simp [go_sem])
      replace l201 : w3.cell? ⟨w2.heap.size, 1, none⟩ = some (.int .u64 (loW (lo * n))) := hk3 _ _ _ (by simp [go_sem])
      have bp00 : w.heap.size < w3.heap.size := World.block_lt_of_cell? w3 ⟨w.heap.size, 0, none⟩ p00
      have bp10 : w.heap.size + 1 < w3.heap.size := World.block_lt_of_cell? w3 ⟨w.heap.size + 1, 0, none⟩ p10
      have bl200 : w2.heap.size < w3.heap.size := World.block_lt_of_cell? w3 ⟨w2.heap.size, 0, none⟩ l200
      clear hk3 hf3
      go_wp2_with fail
      refine useF w (less_any _ _ _ ⟨g2, g1⟩) (by go_grown) ?_; rintro e w4 rfl hB4 hk4 hf4 hs4
      replace f10 : w4.frozen? ⟨w.heap.size + 1, 0, none⟩ = false := hf4 _ _ _ ((keepA _ p10)) ((keepAF _ (p10) f10))
      replace f11 : w4.frozen? ⟨w.heap.size + 1, 1, none⟩ = false := hf4 _ _ _ ((keepA _ p11)) ((keepAF _ (p11) f11))
      replace p00 : w4.cell? ⟨w.heap.size, 0, none⟩ = some (.int .i64 lo) := hk4 _ _ _ ((keepA _ p00))
      replace p01 : w4.cell? ⟨w.heap.size, 1, none⟩ = some (.int .i64 hi) := hk4 _ _ _ ((keepA _ p01))
      replace p10 : w4.cell? ⟨w.heap.size + 1, 0, none⟩ = some (.int .i64 0) := hk4 _ _ _ ((keepA _ p10))
      replace p11 : w4.cell? ⟨w.heap.size + 1, 1, none⟩ = some (.int .i64 0) := hk4 _ _ _ ((keepA _ p11))
      replace l200 : w4.cell? ⟨w2.heap.size, 0, none⟩ = some (.int .i64 (hiW (lo * n))) := hk4 _ _ _ ((keepA _ l200))
      replace l201 : w4.cell? ⟨w2.heap.size, 1, none⟩ = some (.int .u64 (loW (lo * n))) := hk4 _ _ _ ((keepA _ l201))
      replace l300 : w4.cell? ⟨w3.heap.size, 0, none⟩ = some (.int .i64 (hiW (hi * n))) := hk4 _ _ _ (by simp [go_sem])
      replace l301 : w4.cell? ⟨w3.heap.size, 1, none⟩ = some (.int .u64 (loW (hi * n))) := hk4 _ _ _ (by simp [go_sem])
      have bp00 : w.heap.size < w4.heap.size := World.block_lt_of_cell? w4 ⟨w.heap.size, 0, none⟩ p00
      have bp10 : w.heap.size + 1 < w4.heap.size := World.block_lt_of_cell? w4 ⟨w.heap.size + 1, 0, none⟩ p10
      have bl200 : w2.heap.size < w4.heap.size := World.block_lt_of_cell? w4 ⟨w2.heap.size, 0, none⟩ l200
      have bl300 : w3.heap.size < w4.heap.size := World.block_lt_of_cell? w4 ⟨w3.heap.size, 0, none⟩ l300
      clear hk4 hf4
      go_wp2_with fail
      refine useF w (out_any _ _ _ ⟨g2, g1⟩) (by go_grown) ?_; rintro e w5 rfl hB5 hk5 hf5 hs5
      replace f10 : w5.frozen? ⟨w.heap.size + 1, 0, none⟩ = false := hf5 _ _ _ (p10) (f10)
      replace f11 : w5.frozen? ⟨w.heap.size + 1, 1, none⟩ = false := hf5 _ _ _ (p11) (f11)
      replace p00 : w5.cell? ⟨w.heap.size, 0, none⟩ = some (.int .i64 lo) := hk5 _ _ _ (p00)
      replace p01 : w5.cell? ⟨w.heap.size, 1, none⟩ = some (.int .i64 hi) := hk5 _ _ _ (p01)
      replace p10 : w5.cell? ⟨w.heap.size + 1, 0, none⟩ = some (.int .i64 0) := hk5 _ _ _ (p10)
      replace p11 : w5.cell? ⟨w.heap.size + 1, 1, none⟩ = some (.int .i64 0) := hk5 _ _ _ (p11)
      replace l200 : w5.cell? ⟨w2.heap.size, 0, none⟩ = some (.int .i64 (hiW (lo * n))) := hk5 _ _ _ (l200)
      replace l201 : w5.cell? ⟨w2.heap.size, 1, none⟩ = some (.int .u64 (loW (lo * n))) := hk5 _ _ _ (l201)
      replace l300 : w5.cell? ⟨w3.heap.size, 0, none⟩ = some (.int .i64 (hiW (hi * n))) := hk5 _ _ _ (l300)
      replace l301 : w5.cell? ⟨w3.heap.size, 1, none⟩ = some (.int .u64 (loW (hi * n))) := hk5 _ _ _ (l301)
      have bp00 : w.heap.size < w5.heap.size := World.block_lt_of_cell? w5 ⟨w.heap.size, 0, none⟩ p00
      have bp10 : w.heap.size + 1 < w5.heap.size := World.block_lt_of_cell? w5 ⟨w.heap.size + 1, 0, none⟩ p10
      have bl200 : w2.heap.size < w5.heap.size := World.block_lt_of_cell? w5 ⟨w2.heap.size, 0, none⟩ l200
      have bl300 : w3.heap.size < w5.heap.size := World.block_lt_of_cell? w5 ⟨w3.heap.size, 0, none⟩ l300
      clear hk5 hf5
      go_wp2_with fail
      all_goals (refine' bodyPost_ret (res_st_t rfl isA_S isS_S rfl ?_ ?_) rfl ?_; rotate_left 2; (· ((try simp only [World.cell?_drew]); first | (with_reducible exact two_0 (by assumption)) | (with_reducible exact two_1 (by assumption)) | (with_reducible exact two_other (two_0 (by assumption)) (by simp)) | (with_reducible exact two_other (two_1 (by assumption)) (by simp)) | (with_reducible exact two_0 (two_other (by assumption) (by simp))) | (with_reducible exact two_1 (two_other (by assumption) (by simp))) | (simp (maxDischargeDepth := 8) [go_sem, hHeld]; rfl) | (simp (maxDischargeDepth := 8) [go_sem, *]; rfl) | (simp (maxDischargeDepth := 8) [go_sem, *]; done))); (· ((try simp only [World.cell?_drew]); first | (with_reducible exact two_0 (by assumption)) | (with_reducible exact two_1 (by assumption)) | (with_reducible exact two_other (two_0 (by assumption)) (by simp)) | (with_reducible exact two_other (two_1 (by assumption)) (by simp)) | (with_reducible exact two_0 (two_other (by assumption) (by simp))) | (with_reducible exact two_1 (two_other (by assumption) (by simp))) | (simp (maxDischargeDepth := 8) [go_sem, hHeld]; rfl) | (simp (maxDischargeDepth := 8) [go_sem, *]; rfl) | (simp (maxDischargeDepth := 8) [go_sem, *]; done))); refine ⟨ret_r ?_, by go_grown⟩; (exact hp.out.symm))
    · have hp := hid (show scaleS lo hi n = fitS (lo * n) (hi * n) by unfold scaleS; rw [if_pos e, show min (lo * n) (hi * n) = lo * n by omega, show max (lo * n) (hi * n) = hi * n by omega])
      have c1 : decide (hi * n < lo * n) = false := decide_eq_false c
      clear c
      go_enter Try.func28, Try.ntmps28
      go_wp2_with fail
      refine useF w (rcheck_any _ _ _ (by omega)) (by go_grown) ?_; rintro e w1 rfl hB1 hk1 hf1 hs1
      replace f10 : w1.frozen? ⟨w.heap.size + 1, 0, none⟩ = false := hf1 _ _ (.int .i64 0) (by simp [go_sem]) (by simp [go_sem])
      replace f11 : w1.frozen? ⟨w.heap.size + 1, 1, none⟩ = false := hf1 _ _ (.int .i64 0) (by simp [go_sem]) (by simp [go_sem])
      replace p00 : w1.cell? ⟨w.heap.size, 0, none⟩ = some (.int .i64 lo) := hk1 _ _ _ (by simp [go_sem])
      replace p01 : w1.cell? ⟨w.heap.size, 1, none⟩ = some (.int .i64 hi) := hk1 _ _ _ (by simp [go_sem])
      replace p10 : w1.cell? ⟨w.heap.size + 1, 0, none⟩ = some (.int .i64 0) := hk1 _ _ _ (by simp [go_sem])
      replace p11 : w1.cell? ⟨w.heap.size + 1, 1, none⟩ = some (.int .i64 0) := hk1 _ _ _ (by simp [go_sem])
      have bp00 : w.heap.size < w1.heap.size := World.block_lt_of_cell? w1 ⟨w.heap.size, 0, none⟩ p00
      have bp10 : w.heap.size + 1 < w1.heap.size := World.block_lt_of_cell? w1 ⟨w.heap.size + 1, 0, none⟩ p10
      clear hk1 hf1
      go_wp2_with fail
      refine useF w (times_any _ _ _ (by omega)) (by go_grown) ?_; rintro e w2 rfl hB2 hk2 hf2 hs2
      replace f10 : w2.frozen? ⟨w.heap.size + 1, 0, none⟩ = false := hf2 _ _ _ (p10) (f10)
      replace f11 : w2.frozen? ⟨w.heap.size + 1, 1, none⟩ = false := hf2 _ _ _ (p11) (f11)
      replace p00 : w2.cell? ⟨w.heap.size, 0, none⟩ = some (.int .i64 lo) := hk2 _ _ _ (p00)
      replace p01 : w2.cell? ⟨w.heap.size, 1, none⟩ = some (.int .i64 hi) := hk2 _ _ _ (p01)
      replace p10 : w2.cell? ⟨w.heap.size + 1, 0, none⟩ = some (.int .i64 0) := hk2 _ _ _ (p10)
      replace p11 : w2.cell? ⟨w.heap.size + 1, 1, none⟩ = some (.int .i64 0) := hk2 _ _ _ (p11)
      have bp00 : w.heap.size < w2.heap.size := World.block_lt_of_cell? w2 ⟨w.heap.size, 0, none⟩ p00
      have bp10 : w.heap.size + 1 < w2.heap.size := World.block_lt_of_cell? w2 ⟨w.heap.size + 1, 0, none⟩ p10
      clear hk2 hf2
      go_wp2_with fail
      refine useF w (times_any _ _ _ (by omega)) (by go_grown) ?_; rintro e w3 rfl hB3 hk3 hf3 hs3
      replace f10 : w3.frozen? ⟨w.heap.size + 1, 0, none⟩ = false := hf3 _ _ _ ((keepA _ p10)) ((keepAF _ (p10) f10))
      replace f11 : w3.frozen? ⟨w.heap.size + 1, 1, none⟩ = false := hf3 _ _ _ ((keepA _ p11)) ((keepAF _ (p11) f11))
      replace p00 : w3.cell? ⟨w.heap.size, 0, none⟩ = some (.int .i64 lo) := hk3 _ _ _ ((keepA _ p00))
      replace p01 : w3.cell? ⟨w.heap.size, 1, none⟩ = some (.int .i64 hi) := hk3 _ _ _ ((keepA _ p01))
      replace p10 : w3.cell? ⟨w.heap.size + 1, 0, none⟩ = some (.int .i64 0) := hk3 _ _ _ ((keepA _ p10))
      replace p11 : w3.cell? ⟨w.heap.size + 1, 1, none⟩ = some (.int .i64 0) := hk3 _ _ _ ((keepA _ p11))
      replace l200 : w3.cell? ⟨w2.heap.size, 0, none⟩ = some (.int .i64 (hiW (lo * n))) := hk3 _ _ _ (by simp [go_sem])
      replace l201 : w3.cell? ⟨w2.heap.size, 1, none⟩ = some (.int .u64 (loW (lo * n))) := hk3 _ _ _ (by simp [go_sem])
      have bp00 : w.heap.size < w3.heap.size := World.block_lt_of_cell? w3 ⟨w.heap.size, 0, none⟩ p00
      have bp10 : w.heap.size + 1 < w3.heap.size := World.block_lt_of_cell? w3 ⟨w.heap.size + 1, 0, none⟩ p10
      have bl200 : w2.heap.size < w3.heap.size := World.block_lt_of_cell? w3 ⟨w2.heap.size, 0, none⟩ l200
      clear hk3 hf3
      go_wp2_with fail
      refine useF w (less_any _ _ _ ⟨g2, g1⟩) (by go_grown) ?_; rintro e w4 rfl hB4 hk4 hf4 hs4
      replace f10 : w4.frozen? ⟨w.heap.size + 1, 0, none⟩ = false := hf4 _ _ _ ((keepA _ p10)) ((keepAF _ (p10) f10))
      replace f11 : w4.frozen? ⟨w.heap.size + 1, 1, none⟩ = false := hf4 _ _ _ ((keepA _ p11)) ((keepAF _ (p11) f11))
      replace p00 : w4.cell? ⟨w.heap.size, 0, none⟩ = some (.int .i64 lo) := hk4 _ _ _ ((keepA _ p00))
      replace p01 : w4.cell? ⟨w.heap.size, 1, none⟩ = some (.int .i64 hi) := hk4 _ _ _ ((keepA _ p01))
      replace p10 : w4.cell? ⟨w.heap.size + 1, 0, none⟩ = some (.int .i64 0) := hk4 _ _ _ ((keepA _ p10))
      replace p11 : w4.cell? ⟨w.heap.size + 1, 1, none⟩ = some (.int .i64 0) := hk4 _ _ _ ((keepA _ p11))
      replace l200 : w4.cell? ⟨w2.heap.size, 0, none⟩ = some (.int .i64 (hiW (lo * n))) := hk4 _ _ _ ((keepA _ l200))
      replace l201 : w4.cell? ⟨w2.heap.size, 1, none⟩ = some (.int .u64 (loW (lo * n))) := hk4 _ _ _ ((keepA _ l201))
      replace l300 : w4.cell? ⟨w3.heap.size, 0, none⟩ = some (.int .i64 (hiW (hi * n))) := hk4 _ _ _ (by simp [go_sem])
      replace l301 : w4.cell? ⟨w3.heap.size, 1, none⟩ = some (.int .u64 (loW (hi * n))) := hk4 _ _ _ (by simp [go_sem])
      have bp00 : w.heap.size < w4.heap.size := World.block_lt_of_cell? w4 ⟨w.heap.size, 0, none⟩ p00
      have bp10 : w.heap.size + 1 < w4.heap.size := World.block_lt_of_cell? w4 ⟨w.heap.size + 1, 0, none⟩ p10
      have bl200 : w2.heap.size < w4.heap.size := World.block_lt_of_cell? w4 ⟨w2.heap.size, 0, none⟩ l200
      have bl300 : w3.heap.size < w4.heap.size := World.block_lt_of_cell? w4 ⟨w3.heap.size, 0, none⟩ l300
      clear hk4 hf4
      go_wp2_with fail
      refine useF w (out_any _ _ _ ⟨g1, g2⟩) (by go_grown) ?_; rintro e w5 rfl hB5 hk5 hf5 hs5
      replace f10 : w5.frozen? ⟨w.heap.size + 1, 0, none⟩ = false := hf5 _ _ _ (p10) (f10)
      replace f11 : w5.frozen? ⟨w.heap.size + 1, 1, none⟩ = false := hf5 _ _ _ (p11) (f11)
      replace p00 : w5.cell? ⟨w.heap.size, 0, none⟩ = some (.int .i64 lo) := hk5 _ _ _ (p00)
      replace p01 : w5.cell? ⟨w.heap.size, 1, none⟩ = some (.int .i64 hi) := hk5 _ _ _ (p01)
      replace p10 : w5.cell? ⟨w.heap.size + 1, 0, none⟩ = some (.int .i64 0) := hk5 _ _ _ (p10)
      replace p11 : w5.cell? ⟨w.heap.size + 1, 1, none⟩ = some (.int .i64 0) := hk5 _ _ _ (p11)
      replace l200 : w5.cell? ⟨w2.heap.size, 0, none⟩ = some (.int .i64 (hiW (lo * n))) := hk5 _ _ _ (l200)
      replace l201 : w5.cell? ⟨w2.heap.size, 1, none⟩ = some (.int .u64 (loW (lo * n))) := hk5 _ _ _ (l201)
      replace l300 : w5.cell? ⟨w3.heap.size, 0, none⟩ = some (.int .i64 (hiW (hi * n))) := hk5 _ _ _ (l300)
      replace l301 : w5.cell? ⟨w3.heap.size, 1, none⟩ = some (.int .u64 (loW (hi * n))) := hk5 _ _ _ (l301)
      have bp00 : w.heap.size < w5.heap.size := World.block_lt_of_cell? w5 ⟨w.heap.size, 0, none⟩ p00
      have bp10 : w.heap.size + 1 < w5.heap.size := World.block_lt_of_cell? w5 ⟨w.heap.size + 1, 0, none⟩ p10
      have bl200 : w2.heap.size < w5.heap.size := World.block_lt_of_cell? w5 ⟨w2.heap.size, 0, none⟩ l200
      have bl300 : w3.heap.size < w5.heap.size := World.block_lt_of_cell? w5 ⟨w3.heap.size, 0, none⟩ l300
      clear hk5 hf5
      go_wp2_with fail
      all_goals (refine' bodyPost_ret (res_st_t rfl isA_S isS_S rfl ?_ ?_) rfl ?_; rotate_left 2; (· ((try simp only [World.cell?_drew]); first | (with_reducible exact two_0 (by assumption)) | (with_reducible exact two_1 (by assumption)) | (with_reducible exact two_other (two_0 (by assumption)) (by simp)) | (with_reducible exact two_other (two_1 (by assumption)) (by simp)) | (with_reducible exact two_0 (two_other (by assumption) (by simp))) | (with_reducible exact two_1 (two_other (by assumption) (by simp))) | (simp (maxDischargeDepth := 8) [go_sem, hHeld]; rfl) | (simp (maxDischargeDepth := 8) [go_sem, *]; rfl) | (simp (maxDischargeDepth := 8) [go_sem, *]; done))); (· ((try simp only [World.cell?_drew]); first | (with_reducible exact two_0 (by assumption)) | (with_reducible exact two_1 (by assumption)) | (with_reducible exact two_other (two_0 (by assumption)) (by simp)) | (with_reducible exact two_other (two_1 (by assumption)) (by simp)) | (with_reducible exact two_0 (two_other (by assumption) (by simp))) | (with_reducible exact two_1 (two_other (by assumption) (by simp))) | (simp (maxDischargeDepth := 8) [go_sem, hHeld]; rfl) | (simp (maxDischargeDepth := 8) [go_sem, *]; rfl) | (simp (maxDischargeDepth := 8) [go_sem, *]; done))); refine ⟨ret_r ?_, by go_grown⟩; (exact hp.out.symm))
  · have hp := hid (show scaleS lo hi n = (0, 0, 2) from if_neg (by omega))
    clear k1
    go_enter Try.func28, Try.ntmps28
    go_wp2_with fail
    refine useF w (rcheck_any _ _ _ (by omega)) (by go_grown) ?_; rintro e w1 rfl hB1 hk1 hf1 hs1
    replace f10 : w1.frozen? ⟨w.heap.size + 1, 0, none⟩ = false := hf1 _ _ (.int .i64 0) (by simp [go_sem]) (by simp [go_sem])
    replace f11 : w1.frozen? ⟨w.heap.size + 1, 1, none⟩ = false := hf1 _ _ (.int .i64 0) (by simp [go_sem]) (by simp [go_sem])
    replace p00 : w1.cell? ⟨w.heap.size, 0, none⟩ = some (.int .i64 lo) := hk1 _ _ _ (by simp [go_sem])
    replace p01 : w1.cell? ⟨w.heap.size, 1, none⟩ = some (.int .i64 hi) := hk1 _ _ _ (by simp [go_sem])
    replace p10 : w1.cell? ⟨w.heap.size + 1, 0, none⟩ = some (.int .i64 0) := hk1 _ _ _ (by simp [go_sem])
    replace p11 : w1.cell? ⟨w.heap.size + 1, 1, none⟩ = some (.int .i64 0) := hk1 _ _ _ (by simp [go_sem])
    have bp00 : w.heap.size < w1.heap.size := World.block_lt_of_cell? w1 ⟨w.heap.size, 0, none⟩ p00
    have bp10 : w.heap.size + 1 < w1.heap.size := World.block_lt_of_cell? w1 ⟨w.heap.size + 1, 0, none⟩ p10
    clear hk1 hf1
    go_wp2_with fail
    all_goals (refine' bodyPost_ret (res_st_t rfl isA_S isS_S rfl ?_ ?_) rfl ?_; rotate_left 2; (· ((try simp only [World.cell?_drew]); first | (with_reducible exact two_0 (by assumption)) | (with_reducible exact two_1 (by assumption)) | (with_reducible exact two_other (two_0 (by assumption)) (by simp)) | (with_reducible exact two_other (two_1 (by assumption)) (by simp)) | (with_reducible exact two_0 (two_other (by assumption) (by simp))) | (with_reducible exact two_1 (two_other (by assumption) (by simp))) | (simp (maxDischargeDepth := 8) [go_sem, hHeld]; rfl) | (simp (maxDischargeDepth := 8) [go_sem, *]; rfl) | (simp (maxDischargeDepth := 8) [go_sem, *]; done))); (· ((try simp only [World.cell?_drew]); first | (with_reducible exact two_0 (by assumption)) | (with_reducible exact two_1 (by assumption)) | (with_reducible exact two_other (two_0 (by assumption)) (by simp)) | (with_reducible exact two_other (two_1 (by assumption)) (by simp)) | (with_reducible exact two_0 (two_other (by assumption) (by simp))) | (with_reducible exact two_1 (two_other (by assumption) (by simp))) | (simp (maxDischargeDepth := 8) [go_sem, hHeld]; rfl) | (simp (maxDischargeDepth := 8) [go_sem, *]; rfl) | (simp (maxDischargeDepth := 8) [go_sem, *]; done))); refine ⟨ret_r ?_, by go_grown⟩; (exact hp.out.symm))
end Go.Proofs.Ytjleflfncijnpaa
