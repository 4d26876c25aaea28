/- Points and integers: Point, Of, of both packages. -/
import Derived.Test.YtjleflfncijnpaaDoorRows
import Derived.Test.YtjleflfncijnpaaDoorBase
import Derived.Test.YtjleflfncijnpaaDoorFacts
import Derived.Test.YtjleflfncijnpaaDoorTwo
import Derived.Deep.RegionHeld3
import Derived.Deep.RegionWith
import Derived.Deep.QuietTactic
import Derived.BigQuiet
import Derived.Test.YtjleflfncijnpaaDoorW
import Derived.Test.YtjleflfncijnpaaDoorAsks
import Derived.Test.YtjleflfncijnpaaDoorOut
import Derived.Test.YtjleflfncijnpaaDoorQuo
import Derived.Test.YtjleflfncijnpaaDoorSeq
import Derived.Test.YtjleflfncijnpaaDoorRound
import Derived.Test.YtjleflfncijnpaaDoorScaleM
set_option linter.unusedVariables false
set_option linter.unusedSimpArgs false
set_option maxHeartbeats 4000000
set_option maxRecDepth 100000
namespace Go.Proofs.YtjleflfncijnpaaDoor
open Go Go.RowKit
def pointS (n : Int) : Int × Int × Int := if -9223372036854775807 ≤ n then (n, n, 0) else (0, 0, 2)
theorem number_any (n : Int) (w : World) (h : (-9223372036854775808 ≤ n ∧ n ≤ 9223372036854775807)) :
    Calls Tryd.prog 66 #[.int .i64 n] w fun e w' => e = .returned (.bool (decide (-9223372036854775807 ≤ n))) ∧ Below w.heap.size w w' := by
  obtain ⟨a1, a2⟩ := h
  go_enter Tryd.func66, Tryd.ntmps66
  go_wp2
  all_goals (go_ret; exact ⟨ret_bool (by first | rfl | simp), by go_grown⟩)
def intS (n : Int) : Int × Int × Int := fitS (n * 4294967296) (n * 4294967296)
def ratioS (a b : Int) : Int × Int × Int := if b = 0 then (0, 0, 10) else fitS (dnQ (a * 4294967296) b) (upQ (a * 4294967296) b)
theorem sof_any (n : Int) (w : World) (h : (-9223372036854775808 ≤ n ∧ n ≤ 9223372036854775807)) :
    Calls Tryd.prog 17 #[.int .i64 n] w fun e w' => e = .returned (.tuple #[.agg #[.int .i64 ((intS n).1), .int .i64 ((intS n).2.1)], .int .i64 ((intS n).2.2)]) ∧ Below w.heap.size w w' := by
  obtain ⟨d1, d2⟩ := dn_one (n * 4294967296)
  have hp := hid (show fitS (dnQ (n * 4294967296) 1) (upQ (n * 4294967296) 1) = intS n by rw [d1, d2]; rfl)
  have hq := hid (fun W => quotient_any n 4294967296 1 W ⟨h, by omega, by omega⟩ (by omega))
  clear d1 d2
  go_enter Tryd.func17, Tryd.ntmps17
  go_wp2_with (go_at_call 68; refine use w (w.heap.size + 1) (hq.out _) (by go_grown) (by go_size) ?_; rintro e w1 rfl hB1 hc1 hf1 hl1 hs1; have hl10 : w.heap.size < w1.heap.size := hl1 _ (by omega))
  all_goals (refine' bodyPost_ret (res_st_t rfl isA_S isS_S rfl ?_ ?_) rfl ?_; rotate_left 2; (· ((try simp only [World.cell?_drew]); first | (with_reducible exact two_0 (by assumption)) | (with_reducible exact two_1 (by assumption)) | (with_reducible exact two_other (two_0 (by assumption)) (by simp)) | (with_reducible exact two_other (two_1 (by assumption)) (by simp)) | (with_reducible exact two_0 (two_other (by assumption) (by simp))) | (with_reducible exact two_1 (two_other (by assumption) (by simp))) | (simp (maxDischargeDepth := 8) [go_sem, hHeld]; rfl) | (simp (maxDischargeDepth := 8) [go_sem, *]; rfl) | (simp (maxDischargeDepth := 8) [go_sem, *]; done))); (· ((try simp only [World.cell?_drew]); first | (with_reducible exact two_0 (by assumption)) | (with_reducible exact two_1 (by assumption)) | (with_reducible exact two_other (two_0 (by assumption)) (by simp)) | (with_reducible exact two_other (two_1 (by assumption)) (by simp)) | (with_reducible exact two_0 (two_other (by assumption) (by simp))) | (with_reducible exact two_1 (two_other (by assumption) (by simp))) | (simp (maxDischargeDepth := 8) [go_sem, hHeld]; rfl) | (simp (maxDischargeDepth := 8) [go_sem, *]; rfl) | (simp (maxDischargeDepth := 8) [go_sem, *]; done))); refine ⟨ret_r ?_, by go_grown⟩; (rw [← hp.out]))
theorem ratio_any (a b : Int) (w : World) (h : (-9223372036854775808 ≤ a ∧ a ≤ 9223372036854775807) ∧ (-9223372036854775808 ≤ b ∧ b ≤ 9223372036854775807)) :
    Calls Tryd.prog 25 #[.int .i64 a, .int .i64 b] w fun e w' => e = .returned (.tuple #[.agg #[.int .i64 ((ratioS a b).1), .int .i64 ((ratioS a b).2.1)], .int .i64 ((ratioS a b).2.2)]) ∧ Below w.heap.size w w' := by
  by_cases c : b = 0
  · have hp := hid (show ratioS a b = (0, 0, 10) from if_pos c)
    subst c
    go_enter Tryd.func25, Tryd.ntmps25
    go_wp2_with fail
    all_goals (refine' bodyPost_ret (res_st_t rfl isA_S isS_S rfl ?_ ?_) rfl ?_; rotate_left 2; (· ((try simp only [World.cell?_drew]); first | (with_reducible exact two_0 (by assumption)) | (with_reducible exact two_1 (by assumption)) | (with_reducible exact two_other (two_0 (by assumption)) (by simp)) | (with_reducible exact two_other (two_1 (by assumption)) (by simp)) | (with_reducible exact two_0 (two_other (by assumption) (by simp))) | (with_reducible exact two_1 (two_other (by assumption) (by simp))) | (simp (maxDischargeDepth := 8) [go_sem, hHeld]; rfl) | (simp (maxDischargeDepth := 8) [go_sem, *]; rfl) | (simp (maxDischargeDepth := 8) [go_sem, *]; done))); (· ((try simp only [World.cell?_drew]); first | (with_reducible exact two_0 (by assumption)) | (with_reducible exact two_1 (by assumption)) | (with_reducible exact two_other (two_0 (by assumption)) (by simp)) | (with_reducible exact two_other (two_1 (by assumption)) (by simp)) | (with_reducible exact two_0 (two_other (by assumption) (by simp))) | (with_reducible exact two_1 (two_other (by assumption) (by simp))) | (simp (maxDischargeDepth := 8) [go_sem, hHeld]; rfl) | (simp (maxDischargeDepth := 8) [go_sem, *]; rfl) | (simp (maxDischargeDepth := 8) [go_sem, *]; done))); refine ⟨ret_r ?_, by go_grown⟩; (exact hp.out.symm))
  · have hp := hid (show ratioS a b = _ from if_neg c)
    have hq := hid (fun W => quotient_any a 4294967296 b W ⟨h.1, by omega, h.2⟩ c)
    go_enter Tryd.func25, Tryd.ntmps25
    go_wp2_with (go_at_call 68; refine use w (w.heap.size + 1) (hq.out _) (by go_grown) (by go_size) ?_; rintro e w1 rfl hB1 hc1 hf1 hl1 hs1; have hl10 : w.heap.size < w1.heap.size := hl1 _ (by omega))
    all_goals (refine' bodyPost_ret (res_st_t rfl isA_S isS_S rfl ?_ ?_) rfl ?_; rotate_left 2; (· ((try simp only [World.cell?_drew]); first | (with_reducible exact two_0 (by assumption)) | (with_reducible exact two_1 (by assumption)) | (with_reducible exact two_other (two_0 (by assumption)) (by simp)) | (with_reducible exact two_other (two_1 (by assumption)) (by simp)) | (with_reducible exact two_0 (two_other (by assumption) (by simp))) | (with_reducible exact two_1 (two_other (by assumption) (by simp))) | (simp (maxDischargeDepth := 8) [go_sem, hHeld]; rfl) | (simp (maxDischargeDepth := 8) [go_sem, *]; rfl) | (simp (maxDischargeDepth := 8) [go_sem, *]; done))); (· ((try simp only [World.cell?_drew]); first | (with_reducible exact two_0 (by assumption)) | (with_reducible exact two_1 (by assumption)) | (with_reducible exact two_other (two_0 (by assumption)) (by simp)) | (with_reducible exact two_other (two_1 (by assumption)) (by simp)) | (with_reducible exact two_0 (two_other (by assumption) (by simp))) | (with_reducible exact two_1 (two_other (by assumption) (by simp))) | (simp (maxDischargeDepth := 8) [go_sem, hHeld]; rfl) | (simp (maxDischargeDepth := 8) [go_sem, *]; rfl) | (simp (maxDischargeDepth := 8) [go_sem, *]; done))); refine ⟨ret_r ?_, by go_grown⟩; (rw [hp.out]))
end Go.Proofs.YtjleflfncijnpaaDoor
