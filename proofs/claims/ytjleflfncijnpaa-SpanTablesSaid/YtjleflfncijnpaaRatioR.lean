/- Ratio, of the document's answer. -/
import Derived.Test.YtjleflfncijnpaaRows
import Derived.Test.YtjleflfncijnpaaBase
import Derived.Test.YtjleflfncijnpaaFacts
import Derived.Test.YtjleflfncijnpaaTwo
import Derived.Deep.RegionHeld3
import Derived.Deep.RegionWith
import Derived.Deep.QuietTactic
import Derived.BigQuiet
import Derived.Test.YtjleflfncijnpaaW
import Derived.Test.YtjleflfncijnpaaAsks
import Derived.Test.YtjleflfncijnpaaOut
import Derived.Test.YtjleflfncijnpaaSeq
import Derived.Test.YtjleflfncijnpaaTwo
import Derived.Test.YtjleflfncijnpaaQuo
import Derived.Test.YtjleflfncijnpaaQuoL
import Derived.Test.YtjleflfncijnpaaMakes
import Derived.Test.YtjleflfncijnpaaOver
set_option linter.unusedVariables false
set_option linter.unusedSimpArgs false
set_option maxHeartbeats 4000000
set_option maxRecDepth 100000
namespace Go.Proofs.Ytjleflfncijnpaa
open Go Go.RowKit
theorem ediv_ab (p k : Int) (hk : 0 < k) : -ab p ≤ p / k ∧ p / k ≤ ab p := by
  have h0 : 0 ≤ ab p := by unfold ab; split <;> omega
  have h1 : ab p ≤ ab p * k := by
    have := Int.mul_le_mul_of_nonneg_left (show (1 : Int) ≤ k by omega) h0
    rw [Int.mul_one] at this; exact this
  have h2 : p ≤ ab p ∧ -ab p ≤ p := by unfold ab; split <;> omega
  refine ⟨Int.le_ediv_of_mul_le hk (by rw [Int.neg_mul]; omega), Int.ediv_le_of_le_mul hk (by omega)⟩
theorem dn_ab (p d : Int) (hd : d ≠ 0) : (-ab p ≤ dnQ p d ∧ dnQ p d ≤ ab p) ∧ -ab p ≤ upQ p d ∧ upQ p d ≤ ab p := by
  have e : ab (-p) = ab p := by unfold ab; split <;> split <;> omega
  unfold upQ dnQ
  by_cases c : d < 0
  · simp only [if_pos c]
    have h1 := ediv_ab (-p) (-d) (by omega)
    have h2 := ediv_ab (- -p) (-d) (by omega)
    rw [Int.neg_neg] at *
    rw [e] at h1
    omega
  · simp only [if_neg c]
    have h1 := ediv_ab p d (by omega)
    have h2 := ediv_ab (-p) d (by omega)
    rw [e] at h2
    omega
theorem rratio_any (a b : Int) (w : World) (h : (-9223372036854775808 ≤ a ∧ a ≤ 9223372036854775807) ∧ (-9223372036854775808 ≤ b ∧ b ≤ 9223372036854775807)) :
    Calls Try.prog 17 #[.int .i64 a, .int .i64 b] w fun e w' => e = .returned (.tuple #[.agg #[.int .i64 ((ratioS a b).1), .int .i64 ((ratioS a b).2.1)], .int .i64 ((ratioS a b).2.2)]) ∧ Below w.heap.size w w' := by
  by_cases c : b = 0
  · have hp := hid (show ratioS a b = (0, 0, 10) from if_pos c)
    subst c
    go_enter Try.func17, Try.ntmps17
    go_wp2_with fail
    all_goals (refine' bodyPost_ret (res_st_t rfl isA_S isS_S rfl ?_ ?_) rfl ?_; rotate_left 2; (· ((try simp only [World.cell?_drew]); first | (with_reducible exact two_0 (by assumption)) | (with_reducible exact two_1 (by assumption)) | (with_reducible exact two_other (two_0 (by assumption)) (by simp)) | (with_reducible exact two_other (two_1 (by assumption)) (by simp)) | (with_reducible exact two_0 (two_other (by assumption) (by simp))) | (with_reducible exact two_1 (two_other (by assumption) (by simp))) | (simp (maxDischargeDepth := 8) [go_sem, hHeld]; rfl) | (simp (maxDischargeDepth := 8) [go_sem, *]; rfl) | (simp (maxDischargeDepth := 8) [go_sem, *]; done))); (· ((try simp only [World.cell?_drew]); first | (with_reducible exact two_0 (by assumption)) | (with_reducible exact two_1 (by assumption)) | (with_reducible exact two_other (two_0 (by assumption)) (by simp)) | (with_reducible exact two_other (two_1 (by assumption)) (by simp)) | (with_reducible exact two_0 (two_other (by assumption) (by simp))) | (with_reducible exact two_1 (two_other (by assumption) (by simp))) | (simp (maxDischargeDepth := 8) [go_sem, hHeld]; rfl) | (simp (maxDischargeDepth := 8) [go_sem, *]; rfl) | (simp (maxDischargeDepth := 8) [go_sem, *]; done))); refine ⟨ret_r ?_, by go_grown⟩; (exact hp.out.symm))
  · have hp := hid (show ratioS a b = _ from if_neg c)
    have hb := dn_ab (a * 4294967296) b c
    have ha := ab_bd (n := a) h.1
    have he : ab (a * 4294967296) = ab a * 4294967296 := by unfold ab; split <;> split <;> omega
    rw [he] at hb
    have ho := hid (fun W => out_any (dnQ (a * 4294967296) b) (upQ (a * 4294967296) b) W (by omega))
    have hq := hid (fun W => over_any a b W h c)
    obtain ⟨⟨a1, a2⟩, b1, b2⟩ := h
    clear hb ha he
    have c2 : (b == 0) = false := by simpa using c
    go_enter Try.func17, Try.ntmps17
    go_wp2_with fail
    refine useF w (of_any a _ (by omega)) (by go_grown) ?_; rintro e w1 rfl hB1 hk1 hf1 hs1
    replace f00 : w1.frozen? ⟨w.heap.size, 0, none⟩ = false := hf1 _ _ (.int .i64 0) (by simp [go_sem]) (by simp [go_sem])
    replace f01 : w1.frozen? ⟨w.heap.size, 1, none⟩ = false := hf1 _ _ (.int .i64 0) (by simp [go_sem]) (by simp [go_sem])
    replace p00 : w1.cell? ⟨w.heap.size, 0, none⟩ = some (.int .i64 0) := hk1 _ _ _ (by simp [go_sem])
    replace p01 : w1.cell? ⟨w.heap.size, 1, none⟩ = some (.int .i64 0) := hk1 _ _ _ (by simp [go_sem])
    have bp00 : w.heap.size < w1.heap.size := World.block_lt_of_cell? w1 ⟨w.heap.size, 0, none⟩ p00
    clear hk1 hf1
    go_wp2_with fail
    refine useF w (of_any b _ (by omega)) (by go_grown) ?_; rintro e w2 rfl hB2 hk2 hf2 hs2
    replace f00 : w2.frozen? ⟨w.heap.size, 0, none⟩ = false := hf2 _ _ _ (p00) (f00)
    replace f01 : w2.frozen? ⟨w.heap.size, 1, none⟩ = false := hf2 _ _ _ (p01) (f01)
    replace p00 : w2.cell? ⟨w.heap.size, 0, none⟩ = some (.int .i64 0) := hk2 _ _ _ (p00)
    replace p01 : w2.cell? ⟨w.heap.size, 1, none⟩ = some (.int .i64 0) := hk2 _ _ _ (p01)
    have bp00 : w.heap.size < w2.heap.size := World.block_lt_of_cell? w2 ⟨w.heap.size, 0, none⟩ p00
    clear hk2 hf2
    go_wp2_with fail
    refine useF w (hq.out _) (by go_grown) ?_; rintro e w3 rfl hB3 hk3 hf3 hs3
    replace f00 : w3.frozen? ⟨w.heap.size, 0, none⟩ = false := hf3 _ _ _ (p00) (f00)
    replace f01 : w3.frozen? ⟨w.heap.size, 1, none⟩ = false := hf3 _ _ _ (p01) (f01)
    replace p00 : w3.cell? ⟨w.heap.size, 0, none⟩ = some (.int .i64 0) := hk3 _ _ _ (p00)
    replace p01 : w3.cell? ⟨w.heap.size, 1, none⟩ = some (.int .i64 0) := hk3 _ _ _ (p01)
    have bp00 : w.heap.size < w3.heap.size := World.block_lt_of_cell? w3 ⟨w.heap.size, 0, none⟩ p00
    clear hk3 hf3
    go_wp2_with fail
    refine useF w (ho.out _) (by go_grown) ?_; rintro e w4 rfl hB4 hk4 hf4 hs4
    replace f00 : w4.frozen? ⟨w.heap.size, 0, none⟩ = false := hf4 _ _ _ ((keepA _ (keepA _ p00))) ((keepAF _ ((keepA _ p00)) (keepAF _ (p00) f00)))
    replace f01 : w4.frozen? ⟨w.heap.size, 1, none⟩ = false := hf4 _ _ _ ((keepA _ (keepA _ p01))) ((keepAF _ ((keepA _ p01)) (keepAF _ (p01) f01)))
    replace p00 : w4.cell? ⟨w.heap.size, 0, none⟩ = some (.int .i64 0) := hk4 _ _ _ ((keepA _ (keepA _ p00)))
    replace p01 : w4.cell? ⟨w.heap.size, 1, none⟩ = some (.int .i64 0) := hk4 _ _ _ ((keepA _ (keepA _ p01)))
    replace l300 : w4.cell? ⟨w3.heap.size, 0, none⟩ = some (.int .i64 (hiW (dnQ (a * 4294967296) b))) := hk4 _ _ _ (by simp [go_sem])
    replace l301 : w4.cell? ⟨w3.heap.size, 1, none⟩ = some (.int .u64 (loW (dnQ (a * 4294967296) b))) := hk4 _ _ _ (by simp [go_sem])
    replace l310 : w4.cell? ⟨w3.heap.size + 1, 0, none⟩ = some (.int .i64 (hiW (upQ (a * 4294967296) b))) := hk4 _ _ _ (by simp [go_sem])
    replace l311 : w4.cell? ⟨w3.heap.size + 1, 1, none⟩ = some (.int .u64 (loW (upQ (a * 4294967296) b))) := hk4 _ _ _ (by simp [go_sem])
    have bp00 : w.heap.size < w4.heap.size := World.block_lt_of_cell? w4 ⟨w.heap.size, 0, none⟩ p00
    have bl300 : w3.heap.size < w4.heap.size := World.block_lt_of_cell? w4 ⟨w3.heap.size, 0, none⟩ l300
    have bl310 : w3.heap.size + 1 < w4.heap.size := World.block_lt_of_cell? w4 ⟨w3.heap.size + 1, 0, none⟩ l310
    clear hk4 hf4
    go_wp2_with fail
    all_goals (refine' bodyPost_ret (res_st_t rfl isA_S isS_S rfl ?_ ?_) rfl ?_; rotate_left 2; (· ((try simp only [World.cell?_drew]); first | (with_reducible exact two_0 (by assumption)) | (with_reducible exact two_1 (by assumption)) | (with_reducible exact two_other (two_0 (by assumption)) (by simp)) | (with_reducible exact two_other (two_1 (by assumption)) (by simp)) | (with_reducible exact two_0 (two_other (by assumption) (by simp))) | (with_reducible exact two_1 (two_other (by assumption) (by simp))) | (simp (maxDischargeDepth := 8) [go_sem, hHeld]; rfl) | (simp (maxDischargeDepth := 8) [go_sem, *]; rfl) | (simp (maxDischargeDepth := 8) [go_sem, *]; done))); (· ((try simp only [World.cell?_drew]); first | (with_reducible exact two_0 (by assumption)) | (with_reducible exact two_1 (by assumption)) | (with_reducible exact two_other (two_0 (by assumption)) (by simp)) | (with_reducible exact two_other (two_1 (by assumption)) (by simp)) | (with_reducible exact two_0 (two_other (by assumption) (by simp))) | (with_reducible exact two_1 (two_other (by assumption) (by simp))) | (simp (maxDischargeDepth := 8) [go_sem, hHeld]; rfl) | (simp (maxDischargeDepth := 8) [go_sem, *]; rfl) | (simp (maxDischargeDepth := 8) [go_sem, *]; done))); refine ⟨ret_r ?_, by go_grown⟩; (rw [hp.out]))
end Go.Proofs.Ytjleflfncijnpaa
