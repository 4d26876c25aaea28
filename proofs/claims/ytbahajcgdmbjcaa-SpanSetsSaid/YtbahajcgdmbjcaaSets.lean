/- Grow, Wide, of both packages; Mid and Split of package span. -/
import Derived.Test.YtbahajcgdmbjcaaRows
import Derived.Test.YtbahajcgdmbjcaaBase
import Derived.Test.YtbahajcgdmbjcaaFacts
import Derived.Test.YtbahajcgdmbjcaaTwo
import Derived.Deep.RegionHeld3
import Derived.Deep.RegionWith
import Derived.Deep.QuietTactic
import Derived.BigQuiet
import Derived.Test.YtbahajcgdmbjcaaW
import Derived.Test.YtbahajcgdmbjcaaAsks
import Derived.Test.YtbahajcgdmbjcaaOut
import Derived.Test.YtbahajcgdmbjcaaSums
import Derived.Test.YtbahajcgdmbjcaaSeq
import Derived.Test.YtbahajcgdmbjcaaTwo
set_option linter.unusedVariables false
set_option linter.unusedSimpArgs false
set_option maxHeartbeats 4000000
set_option maxRecDepth 100000
namespace Go.Proofs.Ytbahajcgdmbjcaa
open Go Go.RowKit
def growS (lo hi n : Int) : Int × Int × Int := if chk lo hi = 0 ∧ 0 ≤ n then fitS (lo - n) (hi + n) else (0, 0, 2)
def wideN (lo hi : Int) : Int × Int := if chk lo hi = 0 then (if hi - lo ≤ 9223372036854775807 then (hi - lo, 0) else (0, 4)) else (0, 2)
def midN (lo hi : Int) : Int × Int := if chk lo hi = 0 then ((lo + hi) / 2, 0) else (0, 2)
def splitS (lo hi : Int) : Int × Int × Int × Int × Int := if chk lo hi = 0 then (lo, (lo + hi) / 2, (lo + hi) / 2, hi, 0) else (0, 0, 0, 0, 2)
theorem ret_rr {a b c d e : Int} {p : Int × Int × Int × Int × Int} (h : (a, b, c, d, e) = p) : Ending.returned (.tuple #[.agg #[.int .i64 a, .int .i64 b], .agg #[.int .i64 c, .int .i64 d], .int .i64 e]) = .returned (.tuple #[.agg #[.int .i64 p.1, .int .i64 p.2.1], .agg #[.int .i64 p.2.2.1, .int .i64 p.2.2.2.1], .int .i64 p.2.2.2.2]) := by subst h; rfl
theorem grow_any (lo hi n : Int) (w : World) (h : (-9223372036854775808 ≤ lo ∧ lo ≤ 9223372036854775807) ∧ (-9223372036854775808 ≤ hi ∧ hi ≤ 9223372036854775807) ∧ (-9223372036854775808 ≤ n ∧ n ≤ 9223372036854775807)) :
    Calls Try.prog 47 #[.agg #[.int .i64 lo, .int .i64 hi], .int .i64 n] w fun e w' => e = .returned (.tuple #[.agg #[.int .i64 ((growS lo hi n).1), .int .i64 ((growS lo hi n).2.1)], .int .i64 ((growS lo hi n).2.2)]) ∧ Below w.heap.size w w' := by
  obtain ⟨⟨a1, a2⟩, ⟨b1, b2⟩, n1, n2⟩ := h
  rcases chk_cases lo hi with ⟨e, k1, k2⟩ | ⟨e, k1⟩
  · by_cases c : 0 ≤ n
    · have hb : bothS lo hi (-n) n = 0 := by
        have := chk_cases (-n) n
        unfold bothS; rw [if_pos e]; omega
      have hp := hid (show growS lo hi n = addS lo hi (-n) n by unfold growS addS; rw [if_pos ⟨e, c⟩, if_pos hb, Int.sub_eq_add_neg])
      clear hb
      go_enter Try.func47, Try.ntmps47
      go_wp2_with (first | (go_at_call 18; refine use w (w.heap.size + 1 + 1) (check_any _ _ _ (by omega)) (by go_grown) (by go_size) ?_; rintro e w1 rfl hB1 hc1 hf1 hl1 hs1; have hl10 : w.heap.size < w1.heap.size := hl1 _ (by omega); have hl11 : w.heap.size + 1 < w1.heap.size := hl1 _ (by omega)) | (go_at_call 21; refine use w (w.heap.size + 1 + 1) (add_any _ _ _ _ _ (by omega)) (by go_grown) (by go_size) ?_; rintro e w1 rfl hB1 hc1 hf1 hl1 hs1; have hl10 : w.heap.size < w1.heap.size := hl1 _ (by omega); have hl11 : w.heap.size + 1 < w1.heap.size := hl1 _ (by omega)))
      all_goals (refine' bodyPost_ret (res_st_t rfl isA_S isS_S rfl ?_ ?_) rfl ?_; rotate_left 2; (· (first | (exact two_0 (by assumption)) | (exact two_1 (by assumption)) | (simp (maxDischargeDepth := 8) [go_sem, hHeld]; rfl) | (simp (maxDischargeDepth := 8) [go_sem, *]; rfl) | (simp (maxDischargeDepth := 8) [go_sem, *]; done))); (· (first | (exact two_0 (by assumption)) | (exact two_1 (by assumption)) | (simp (maxDischargeDepth := 8) [go_sem, hHeld]; rfl) | (simp (maxDischargeDepth := 8) [go_sem, *]; rfl) | (simp (maxDischargeDepth := 8) [go_sem, *]; done))); refine ⟨ret_r ?_, by go_grown⟩; (rw [hp.out]))
    · have hp := hid (show growS lo hi n = (0, 0, 2) from if_neg (by omega))
      go_enter Try.func47, Try.ntmps47
      go_wp2_with (first | (go_at_call 18; refine use w (w.heap.size + 1 + 1) (check_any _ _ _ (by omega)) (by go_grown) (by go_size) ?_; rintro e w1 rfl hB1 hc1 hf1 hl1 hs1; have hl10 : w.heap.size < w1.heap.size := hl1 _ (by omega); have hl11 : w.heap.size + 1 < w1.heap.size := hl1 _ (by omega)))
      all_goals (refine' bodyPost_ret (res_st_t rfl isA_S isS_S rfl ?_ ?_) rfl ?_; rotate_left 2; (· (first | (exact two_0 (by assumption)) | (exact two_1 (by assumption)) | (simp (maxDischargeDepth := 8) [go_sem, hHeld]; rfl) | (simp (maxDischargeDepth := 8) [go_sem, *]; rfl) | (simp (maxDischargeDepth := 8) [go_sem, *]; done))); (· (first | (exact two_0 (by assumption)) | (exact two_1 (by assumption)) | (simp (maxDischargeDepth := 8) [go_sem, hHeld]; rfl) | (simp (maxDischargeDepth := 8) [go_sem, *]; rfl) | (simp (maxDischargeDepth := 8) [go_sem, *]; done))); refine ⟨ret_r ?_, by go_grown⟩; (exact hp.out.symm))
  · have hp := hid (show growS lo hi n = (0, 0, 2) from if_neg (by omega))
    clear k1
    go_enter Try.func47, Try.ntmps47
    go_wp2_with (first | (go_at_call 18; refine use w (w.heap.size + 1 + 1) (check_any _ _ _ (by omega)) (by go_grown) (by go_size) ?_; rintro e w1 rfl hB1 hc1 hf1 hl1 hs1; have hl10 : w.heap.size < w1.heap.size := hl1 _ (by omega); have hl11 : w.heap.size + 1 < w1.heap.size := hl1 _ (by omega)))
    all_goals (refine' bodyPost_ret (res_st_t rfl isA_S isS_S rfl ?_ ?_) rfl ?_; rotate_left 2; (· (first | (exact two_0 (by assumption)) | (exact two_1 (by assumption)) | (simp (maxDischargeDepth := 8) [go_sem, hHeld]; rfl) | (simp (maxDischargeDepth := 8) [go_sem, *]; rfl) | (simp (maxDischargeDepth := 8) [go_sem, *]; done))); (· (first | (exact two_0 (by assumption)) | (exact two_1 (by assumption)) | (simp (maxDischargeDepth := 8) [go_sem, hHeld]; rfl) | (simp (maxDischargeDepth := 8) [go_sem, *]; rfl) | (simp (maxDischargeDepth := 8) [go_sem, *]; done))); refine ⟨ret_r ?_, by go_grown⟩; (exact hp.out.symm))
theorem rgrow_any (lo hi n : Int) (w : World) (h : (-9223372036854775808 ≤ lo ∧ lo ≤ 9223372036854775807) ∧ (-9223372036854775808 ≤ hi ∧ hi ≤ 9223372036854775807) ∧ (-9223372036854775808 ≤ n ∧ n ≤ 9223372036854775807)) :
    Calls Try.prog 48 #[.agg #[.int .i64 lo, .int .i64 hi], .int .i64 n] w fun e w' => e = .returned (.tuple #[.agg #[.int .i64 ((growS lo hi n).1), .int .i64 ((growS lo hi n).2.1)], .int .i64 ((growS lo hi n).2.2)]) ∧ Below w.heap.size w w' := by
  obtain ⟨⟨a1, a2⟩, ⟨b1, b2⟩, n1, n2⟩ := h
  rcases chk_cases lo hi with ⟨e, k1, k2⟩ | ⟨e, k1⟩
  · by_cases c : 0 ≤ n
    · have hp := hid (show growS lo hi n = fitS (lo + -n) (hi + n) by unfold growS; rw [if_pos ⟨e, c⟩, Int.sub_eq_add_neg])
      have wn : IntKind.i64.wrap (-n) = -n := by rw [IntKind.wrap_i64]; omega
      go_enter Try.func48, Try.ntmps48
      go_wp2_with (go_at_call 19; refine use w (w.heap.size + 1 + 1) (rcheck_any _ _ _ (by omega)) (by go_grown) (by go_size) ?_; rintro e w1 rfl hB1 hc1 hf1 hl1 hs1; have hl10 : w.heap.size < w1.heap.size := hl1 _ (by omega); have hl11 : w.heap.size + 1 < w1.heap.size := hl1 _ (by omega))
      refine wp_region_held_drew (S := (fun w' => w'.cell? ⟨w.heap.size, 0, none⟩ = some (.int .i64 lo) ∧ w'.cell? ⟨w.heap.size, 1, none⟩ = some (.int .i64 hi) ∧ w'.frozen? ⟨w.heap.size + 1, 0, none⟩ = false ∧ w'.frozen? ⟨w.heap.size + 1, 1, none⟩ = false ∧ (∃ u, w'.cell? ⟨w.heap.size + 1, 0, none⟩ = some u) ∧ (∃ u, w'.cell? ⟨w.heap.size + 1, 1, none⟩ = some u))) (by kernel_rfl) (by (try dsimp only); (first | (go_keep; done) | (simp (maxDischargeDepth := 8) [*, go_sem, World.cell?_alloc_some, World.cell?_setCell_far]; done))) (fun hHeld => ?_)
      (refine wpAnyH_take (i := 0) (oi := ⟨some 14, _, _, _, _, none⟩) (v := ?_) rfl (by kernel_rfl) (by kernel_rfl) (by kernel_rfl) (fun _ _ _ h => h) (Or.inl ⟨by rfl, ?_⟩) hHeld ?_; rotate_left; (· (intro w9 hSw; (try dsimp only at hSw); go_simp; (try with_reducible rfl))))
      (try simp only [Act.put, List.setIfInBounds_toArray, List.set_cons_zero, List.set_cons_succ])
      (refine wpAnyH_take (i := 1) (oi := ⟨some 15, _, _, _, _, none⟩) (v := ?_) rfl (by kernel_rfl) (by kernel_rfl) (by kernel_rfl) (fun _ _ _ h => h) (Or.inl ⟨by rfl, ?_⟩) hHeld ?_; rotate_left; (· (intro w9 hSw; (try dsimp only at hSw); go_simp; (try with_reducible rfl))))
      (try simp only [Act.put, List.setIfInBounds_toArray, List.set_cons_zero, List.set_cons_succ])
      (refine wpAnyH_take (i := 3) (oi := ⟨some 17, _, _, _, _, none⟩) (v := ?_) rfl (by kernel_rfl) (by kernel_rfl) (by kernel_rfl) (fun _ _ _ h => h) (Or.inl ⟨by rfl, ?_⟩) hHeld ?_; rotate_left; (· (intro w9 hSw; (try dsimp only at hSw); go_simp; (try with_reducible rfl))))
      (try simp only [Act.put, List.setIfInBounds_toArray, List.set_cons_zero, List.set_cons_succ])
      (refine wpAnyH_take (i := 4) (oi := ⟨some 18, _, _, _, _, none⟩) (v := ?_) rfl (by kernel_rfl) (by kernel_rfl) (by kernel_rfl) (fun _ _ _ h => h) (Or.inl ⟨by rfl, ?_⟩) hHeld ?_; rotate_left; (· (intro w9 hSw; (try dsimp only at hSw); go_simp; (try with_reducible rfl))))
      (try simp only [Act.put, List.setIfInBounds_toArray, List.set_cons_zero, List.set_cons_succ])
      (refine wpAnyH_take (i := 7) (oi := ⟨some 21, _, _, _, _, none⟩) (v := ?_) rfl (by kernel_rfl) (by kernel_rfl) (by kernel_rfl) (fun _ _ _ h => h) (Or.inl ⟨by rfl, ?_⟩) hHeld ?_; rotate_left; (· (intro w9 hSw; (try dsimp only at hSw); go_simp; (try with_reducible rfl))))
      (try simp only [Act.put, List.setIfInBounds_toArray, List.set_cons_zero, List.set_cons_succ])
      (refine wpAnyH_take (i := 8) (oi := ⟨some 22, _, _, _, _, none⟩) (v := ?_) rfl (by kernel_rfl) (by kernel_rfl) (by kernel_rfl) (fun _ _ _ h => h) (Or.inl ⟨by rfl, ?_⟩) hHeld ?_; rotate_left; (· (intro w9 hSw; (try dsimp only at hSw); go_simp; (try with_reducible rfl))))
      (try simp only [Act.put, List.setIfInBounds_toArray, List.set_cons_zero, List.set_cons_succ])
      (refine wpAnyH_take (i := 10) (oi := ⟨some 24, _, _, _, _, none⟩) (v := ?_) rfl (by kernel_rfl) (by kernel_rfl) (by kernel_rfl) (fun _ _ _ h => h) (Or.inl ⟨by rfl, ?_⟩) hHeld ?_; rotate_left; (· (intro w9 hSw; (try dsimp only at hSw); go_simp; (try with_reducible rfl))))
      (try simp only [Act.put, List.setIfInBounds_toArray, List.set_cons_zero, List.set_cons_succ])
      (refine wpAnyH_ready (rs := [2]) (by kernel_rfl) (by simp) ?_; refine AllReadyH.cons (o := ⟨some 16, _, _, _, _, none⟩) rfl (fun K hK => ?_) AllReadyH.nil; go_simp; (first | (go_at_call 86; refine use w (w.heap.size + 1 + 1) (wide_any _ _ (by omega)) (by go_grown) (by go_size) ?_; rintro e w1 rfl hB1 hc1 hf1 hl1 hs1; have hl10 : w.heap.size < w1.heap.size := hl1 _ (by omega); have hl11 : w.heap.size + 1 < w1.heap.size := hl1 _ (by omega)) | (go_at_call 85; refine use w (w.heap.size + 1 + 1) (plus_any _ _ _) (by go_grown) (by go_size) ?_; rintro e w1 rfl hB1 hc1 hf1 hl1 hs1; have hl10 : w.heap.size < w1.heap.size := hl1 _ (by omega); have hl11 : w.heap.size + 1 < w1.heap.size := hl1 _ (by omega)) | (go_at_call 80; refine use w (w.heap.size + 1 + 1) (out_any _ _ _ (by omega)) (by go_grown) (by go_size) ?_; rintro e w1 rfl hB1 hc1 hf1 hl1 hs1; have hl10 : w.heap.size < w1.heap.size := hl1 _ (by omega); have hl11 : w.heap.size + 1 < w1.heap.size := hl1 _ (by omega))); have hOld := hHeld; clear hHeld; refine hK.out _ _ ?_ (fun hHeld => ?_); (· ((try dsimp only); (first | (go_keep; done) | (simp (maxDischargeDepth := 8) [*, go_sem, World.cell?_alloc_some, World.cell?_setCell_far]; done)))); clear hK K hOld; (try clear hc1 hf1); (try clear hk1 hf1))
      (try simp only [Act.put, List.setIfInBounds_toArray, List.set_cons_zero, List.set_cons_succ])
      (refine wpAnyH_ready (rs := [5]) (by kernel_rfl) (by simp) ?_; refine AllReadyH.cons (o := ⟨some 19, _, _, _, _, none⟩) rfl (fun K hK => ?_) AllReadyH.nil; go_simp; (first | (go_at_call 86; refine use w (w.heap.size + 1 + 1) (wide_any _ _ (by omega)) (by go_grown) (by go_size) ?_; rintro e w1 rfl hB1 hc1 hf1 hl1 hs1; have hl10 : w.heap.size < w1.heap.size := hl1 _ (by omega); have hl11 : w.heap.size + 1 < w1.heap.size := hl1 _ (by omega)) | (go_at_call 85; refine use w (w.heap.size + 1 + 1) (plus_any _ _ _) (by go_grown) (by go_size) ?_; rintro e w1 rfl hB1 hc1 hf1 hl1 hs1; have hl10 : w.heap.size < w1.heap.size := hl1 _ (by omega); have hl11 : w.heap.size + 1 < w1.heap.size := hl1 _ (by omega)) | (go_at_call 80; refine use w (w.heap.size + 1 + 1) (out_any _ _ _ (by omega)) (by go_grown) (by go_size) ?_; rintro e w1 rfl hB1 hc1 hf1 hl1 hs1; have hl10 : w.heap.size < w1.heap.size := hl1 _ (by omega); have hl11 : w.heap.size + 1 < w1.heap.size := hl1 _ (by omega))); have hOld := hHeld; clear hHeld; refine hK.out _ _ ?_ (fun hHeld => ?_); (· ((try dsimp only); (first | (go_keep; done) | (simp (maxDischargeDepth := 8) [*, go_sem, World.cell?_alloc_some, World.cell?_setCell_far]; done)))); clear hK K hOld; (try clear hc1 hf1); (try clear hk1 hf1))
      (try simp only [Act.put, List.setIfInBounds_toArray, List.set_cons_zero, List.set_cons_succ])
      (refine wpAnyH_ready (rs := [6]) (by kernel_rfl) (by simp) ?_; refine AllReadyH.cons (o := ⟨some 20, _, _, _, _, none⟩) rfl (fun K hK => ?_) AllReadyH.nil; go_simp; (first | (go_at_call 86; refine use w (w.heap.size + 1 + 1) (wide_any _ _ (by omega)) (by go_grown) (by go_size) ?_; rintro e w1 rfl hB1 hc1 hf1 hl1 hs1; have hl10 : w.heap.size < w1.heap.size := hl1 _ (by omega); have hl11 : w.heap.size + 1 < w1.heap.size := hl1 _ (by omega)) | (go_at_call 85; refine use w (w.heap.size + 1 + 1) (plus_any _ _ _) (by go_grown) (by go_size) ?_; rintro e w1 rfl hB1 hc1 hf1 hl1 hs1; have hl10 : w.heap.size < w1.heap.size := hl1 _ (by omega); have hl11 : w.heap.size + 1 < w1.heap.size := hl1 _ (by omega)) | (go_at_call 80; refine use w (w.heap.size + 1 + 1) (out_any _ _ _ (by omega)) (by go_grown) (by go_size) ?_; rintro e w1 rfl hB1 hc1 hf1 hl1 hs1; have hl10 : w.heap.size < w1.heap.size := hl1 _ (by omega); have hl11 : w.heap.size + 1 < w1.heap.size := hl1 _ (by omega))); have hOld := hHeld; clear hHeld; refine hK.out _ _ ?_ (fun hHeld => ?_); (· ((try dsimp only); (first | (go_keep; done) | (simp (maxDischargeDepth := 8) [*, go_sem, World.cell?_alloc_some, World.cell?_setCell_far]; done)))); clear hK K hOld; (try clear hc1 hf1); (try clear hk1 hf1))
      (try simp only [Act.put, List.setIfInBounds_toArray, List.set_cons_zero, List.set_cons_succ])
      (refine wpAnyH_ready (rs := [9]) (by kernel_rfl) (by simp) ?_; refine AllReadyH.cons (o := ⟨some 23, _, _, _, _, none⟩) rfl (fun K hK => ?_) AllReadyH.nil; go_simp; (first | (go_at_call 86; refine use w (w.heap.size + 1 + 1) (wide_any _ _ (by omega)) (by go_grown) (by go_size) ?_; rintro e w1 rfl hB1 hc1 hf1 hl1 hs1; have hl10 : w.heap.size < w1.heap.size := hl1 _ (by omega); have hl11 : w.heap.size + 1 < w1.heap.size := hl1 _ (by omega)) | (go_at_call 85; refine use w (w.heap.size + 1 + 1) (plus_any _ _ _) (by go_grown) (by go_size) ?_; rintro e w1 rfl hB1 hc1 hf1 hl1 hs1; have hl10 : w.heap.size < w1.heap.size := hl1 _ (by omega); have hl11 : w.heap.size + 1 < w1.heap.size := hl1 _ (by omega)) | (go_at_call 80; refine use w (w.heap.size + 1 + 1) (out_any _ _ _ (by omega)) (by go_grown) (by go_size) ?_; rintro e w1 rfl hB1 hc1 hf1 hl1 hs1; have hl10 : w.heap.size < w1.heap.size := hl1 _ (by omega); have hl11 : w.heap.size + 1 < w1.heap.size := hl1 _ (by omega))); have hOld := hHeld; clear hHeld; refine hK.out _ _ ?_ (fun hHeld => ?_); (· ((try dsimp only); (first | (go_keep; done) | (simp (maxDischargeDepth := 8) [*, go_sem, World.cell?_alloc_some, World.cell?_setCell_far]; done)))); clear hK K hOld; (try clear hc1 hf1); (try clear hk1 hf1))
      (try simp only [Act.put, List.setIfInBounds_toArray, List.set_cons_zero, List.set_cons_succ])
      (refine wpAnyH_ready (rs := [11]) (by kernel_rfl) (by simp) ?_; refine AllReadyH.cons (o := ⟨some 25, _, _, _, _, none⟩) rfl (fun K hK => ?_) AllReadyH.nil; go_simp; (first | (go_at_call 86; refine use w (w.heap.size + 1 + 1) (wide_any _ _ (by omega)) (by go_grown) (by go_size) ?_; rintro e w1 rfl hB1 hc1 hf1 hl1 hs1; have hl10 : w.heap.size < w1.heap.size := hl1 _ (by omega); have hl11 : w.heap.size + 1 < w1.heap.size := hl1 _ (by omega)) | (go_at_call 85; refine use w (w.heap.size + 1 + 1) (plus_any _ _ _) (by go_grown) (by go_size) ?_; rintro e w1 rfl hB1 hc1 hf1 hl1 hs1; have hl10 : w.heap.size < w1.heap.size := hl1 _ (by omega); have hl11 : w.heap.size + 1 < w1.heap.size := hl1 _ (by omega)) | (go_at_call 80; refine use w (w.heap.size + 1 + 1) (out_any _ _ _ (by omega)) (by go_grown) (by go_size) ?_; rintro e w1 rfl hB1 hc1 hf1 hl1 hs1; have hl10 : w.heap.size < w1.heap.size := hl1 _ (by omega); have hl11 : w.heap.size + 1 < w1.heap.size := hl1 _ (by omega))); have hOld := hHeld; clear hHeld; refine hK.out _ _ ?_ (fun hHeld => ?_); (· ((try dsimp only); (first | (go_keep; done) | (simp (maxDischargeDepth := 8) [*, go_sem, World.cell?_alloc_some, World.cell?_setCell_far]; done)))); clear hK K hOld; (try clear hc1 hf1); (try clear hk1 hf1))
      (try simp only [Act.put, List.setIfInBounds_toArray, List.set_cons_zero, List.set_cons_succ])
      (refine wpAnyH_ready (rs := [12]) (by kernel_rfl) (by simp) ?_; refine AllReadyH.cons (o := ⟨some 26, _, _, _, _, none⟩) rfl (fun K hK => ?_) AllReadyH.nil; go_simp; (first | (go_at_call 86; refine use w (w.heap.size + 1 + 1) (wide_any _ _ (by omega)) (by go_grown) (by go_size) ?_; rintro e w1 rfl hB1 hc1 hf1 hl1 hs1; have hl10 : w.heap.size < w1.heap.size := hl1 _ (by omega); have hl11 : w.heap.size + 1 < w1.heap.size := hl1 _ (by omega)) | (go_at_call 85; refine use w (w.heap.size + 1 + 1) (plus_any _ _ _) (by go_grown) (by go_size) ?_; rintro e w1 rfl hB1 hc1 hf1 hl1 hs1; have hl10 : w.heap.size < w1.heap.size := hl1 _ (by omega); have hl11 : w.heap.size + 1 < w1.heap.size := hl1 _ (by omega)) | (go_at_call 80; refine use w (w.heap.size + 1 + 1) (out_any _ _ _ (by omega)) (by go_grown) (by go_size) ?_; rintro e w1 rfl hB1 hc1 hf1 hl1 hs1; have hl10 : w.heap.size < w1.heap.size := hl1 _ (by omega); have hl11 : w.heap.size + 1 < w1.heap.size := hl1 _ (by omega))); have hOld := hHeld; clear hHeld; refine hK.out _ _ ?_ (fun hHeld => ?_); (· ((try dsimp only); (first | (go_keep; done) | (simp (maxDischargeDepth := 8) [*, go_sem, World.cell?_alloc_some, World.cell?_setCell_far]; done)))); clear hK K hOld; (try clear hc1 hf1); (try clear hk1 hf1))
      (try simp only [Act.put, List.setIfInBounds_toArray, List.set_cons_zero, List.set_cons_succ])
      (refine wpAnyH_ready (rs := [13]) (by kernel_rfl) (by simp) ?_; refine AllReadyH.cons (o := ⟨some 27, _, _, _, _, none⟩) rfl (fun K hK => ?_) AllReadyH.nil; go_simp; (first | (go_at_call 86; refine use w (w.heap.size + 1 + 1) (wide_any _ _ (by omega)) (by go_grown) (by go_size) ?_; rintro e w1 rfl hB1 hc1 hf1 hl1 hs1; have hl10 : w.heap.size < w1.heap.size := hl1 _ (by omega); have hl11 : w.heap.size + 1 < w1.heap.size := hl1 _ (by omega)) | (go_at_call 85; refine use w (w.heap.size + 1 + 1) (plus_any _ _ _) (by go_grown) (by go_size) ?_; rintro e w1 rfl hB1 hc1 hf1 hl1 hs1; have hl10 : w.heap.size < w1.heap.size := hl1 _ (by omega); have hl11 : w.heap.size + 1 < w1.heap.size := hl1 _ (by omega)) | (go_at_call 80; refine use w (w.heap.size + 1 + 1) (out_any _ _ _ (by omega)) (by go_grown) (by go_size) ?_; rintro e w1 rfl hB1 hc1 hf1 hl1 hs1; have hl10 : w.heap.size < w1.heap.size := hl1 _ (by omega); have hl11 : w.heap.size + 1 < w1.heap.size := hl1 _ (by omega))); have hOld := hHeld; clear hHeld; refine hK.out _ _ ?_ (fun hHeld => ?_); (· ((try dsimp only); (first | (go_keep; done) | (simp (maxDischargeDepth := 8) [*, go_sem, World.cell?_alloc_some, World.cell?_setCell_far]; done)))); clear hK K hOld; (try clear hc1 hf1); (try clear hk1 hf1))
      (try simp only [Act.put, List.setIfInBounds_toArray, List.set_cons_zero, List.set_cons_succ])
      (refine wpAnyH_take (i := 14) (oi := ⟨some 28, _, _, _, _, none⟩) (v := ?_) rfl (by kernel_rfl) (by kernel_rfl) (by kernel_rfl) (fun _ _ _ h => h) (Or.inl ⟨by rfl, ?_⟩) hHeld ?_; rotate_left; (· (intro w9 hSw; (try dsimp only at hSw); go_simp; (try with_reducible rfl))))
      (try simp only [Act.put, List.setIfInBounds_toArray, List.set_cons_zero, List.set_cons_succ])
      (refine wpAnyH_take (i := 15) (oi := ⟨some 29, _, _, _, _, none⟩) (v := ?_) rfl (by kernel_rfl) (by kernel_rfl) (by kernel_rfl) (fun _ _ _ h => h) (Or.inl ⟨by rfl, ?_⟩) hHeld ?_; rotate_left; (· (intro w9 hSw; (try dsimp only at hSw); go_simp; (try with_reducible rfl))))
      (try simp only [Act.put, List.setIfInBounds_toArray, List.set_cons_zero, List.set_cons_succ])
      (refine wpAnyH_ready (rs := [16]) (by kernel_rfl) (by simp) ?_; refine AllReadyH.cons (o := ⟨none, _, _, _, _, none⟩) rfl (fun K hK => ?_) AllReadyH.nil; (try dsimp only at hHeld); have g0 := hHeld.1; have g1 := hHeld.2.1; have g2 := hHeld.2.2.1; have g3 := hHeld.2.2.2.1; refine ex_elim (hHeld.2.2.2.2.1) (fun u0 hu0 => ?_); refine ex_elim (hHeld.2.2.2.2.2) (fun u1 hu1 => ?_); clear hHeld; go_simp; refine hK.out _ _ ?_ (fun hHeld => ?_); (· ((try dsimp only); (first | (go_keep; done) | (simp (maxDischargeDepth := 8) [*, go_sem, World.cell?_alloc_some, World.cell?_setCell_far]; done)))); clear hK K)
      (try simp only [Act.put, List.setIfInBounds_toArray, List.set_cons_zero, List.set_cons_succ])
      (refine wpAnyH_take (i := 17) (oi := ⟨some 5, _, _, _, _, none⟩) (v := ?_) rfl (by kernel_rfl) (by kernel_rfl) (by kernel_rfl) (fun _ _ _ h => h) (Or.inl ⟨by rfl, ?_⟩) hHeld ?_; rotate_left; (· (intro w9 hSw; (try dsimp only at hSw); go_simp; (try with_reducible rfl))))
      (try simp only [Act.put, List.setIfInBounds_toArray, List.set_cons_zero, List.set_cons_succ])
      refine wpAnyH_done (by kernel_rfl) ?_ _
      go_wp2_with fail
      all_goals (refine' bodyPost_ret (res_st_t rfl isA_S isS_S rfl ?_ ?_) rfl ?_; rotate_left 2; (· (first | (exact two_0 (by assumption)) | (exact two_1 (by assumption)) | (simp (maxDischargeDepth := 8) [go_sem, hHeld]; rfl) | (simp (maxDischargeDepth := 8) [go_sem, *]; rfl) | (simp (maxDischargeDepth := 8) [go_sem, *]; done))); (· (first | (exact two_0 (by assumption)) | (exact two_1 (by assumption)) | (simp (maxDischargeDepth := 8) [go_sem, hHeld]; rfl) | (simp (maxDischargeDepth := 8) [go_sem, *]; rfl) | (simp (maxDischargeDepth := 8) [go_sem, *]; done))); refine ⟨ret_r ?_, by go_grown⟩; (exact hp.out.symm))
    · have hp := hid (show growS lo hi n = (0, 0, 2) from if_neg (by omega))
      go_enter Try.func48, Try.ntmps48
      go_wp2_with (go_at_call 19; refine use w (w.heap.size + 1 + 1) (rcheck_any _ _ _ (by omega)) (by go_grown) (by go_size) ?_; rintro e w1 rfl hB1 hc1 hf1 hl1 hs1; have hl10 : w.heap.size < w1.heap.size := hl1 _ (by omega); have hl11 : w.heap.size + 1 < w1.heap.size := hl1 _ (by omega))
      all_goals (refine' bodyPost_ret (res_st_t rfl isA_S isS_S rfl ?_ ?_) rfl ?_; rotate_left 2; (· (first | (exact two_0 (by assumption)) | (exact two_1 (by assumption)) | (simp (maxDischargeDepth := 8) [go_sem, hHeld]; rfl) | (simp (maxDischargeDepth := 8) [go_sem, *]; rfl) | (simp (maxDischargeDepth := 8) [go_sem, *]; done))); (· (first | (exact two_0 (by assumption)) | (exact two_1 (by assumption)) | (simp (maxDischargeDepth := 8) [go_sem, hHeld]; rfl) | (simp (maxDischargeDepth := 8) [go_sem, *]; rfl) | (simp (maxDischargeDepth := 8) [go_sem, *]; done))); refine ⟨ret_r ?_, by go_grown⟩; (exact hp.out.symm))
  · have hp := hid (show growS lo hi n = (0, 0, 2) from if_neg (by omega))
    clear k1
    go_enter Try.func48, Try.ntmps48
    go_wp2_with (go_at_call 19; refine use w (w.heap.size + 1 + 1) (rcheck_any _ _ _ (by omega)) (by go_grown) (by go_size) ?_; rintro e w1 rfl hB1 hc1 hf1 hl1 hs1; have hl10 : w.heap.size < w1.heap.size := hl1 _ (by omega); have hl11 : w.heap.size + 1 < w1.heap.size := hl1 _ (by omega))
    all_goals (refine' bodyPost_ret (res_st_t rfl isA_S isS_S rfl ?_ ?_) rfl ?_; rotate_left 2; (· (first | (exact two_0 (by assumption)) | (exact two_1 (by assumption)) | (simp (maxDischargeDepth := 8) [go_sem, hHeld]; rfl) | (simp (maxDischargeDepth := 8) [go_sem, *]; rfl) | (simp (maxDischargeDepth := 8) [go_sem, *]; done))); (· (first | (exact two_0 (by assumption)) | (exact two_1 (by assumption)) | (simp (maxDischargeDepth := 8) [go_sem, hHeld]; rfl) | (simp (maxDischargeDepth := 8) [go_sem, *]; rfl) | (simp (maxDischargeDepth := 8) [go_sem, *]; done))); refine ⟨ret_r ?_, by go_grown⟩; (exact hp.out.symm))
theorem wideof_any (lo hi : Int) (w : World) (h : (-9223372036854775808 ≤ lo ∧ lo ≤ 9223372036854775807) ∧ (-9223372036854775808 ≤ hi ∧ hi ≤ 9223372036854775807)) :
    Calls Try.prog 53 #[.agg #[.int .i64 lo, .int .i64 hi]] w fun e w' => e = .returned (.tuple #[.int .i64 ((wideN lo hi).1), .int .i64 ((wideN lo hi).2)]) ∧ Below w.heap.size w w' := by
  obtain ⟨⟨a1, a2⟩, b1, b2⟩ := h
  rcases chk_cases lo hi with ⟨e, k1, k2⟩ | ⟨e, k1⟩
  · by_cases c : hi - lo ≤ 9223372036854775807
    · have hp := hid (show wideN lo hi = (hi + -lo, 0) by unfold wideN; rw [if_pos e, if_pos c, Int.sub_eq_add_neg])
      obtain ⟨g1, g2⟩ := addF_true (x := hi) (y := -lo) (by omega)
      clear c
      go_enter Try.func53, Try.ntmps53
      go_wp2_with (first | (go_at_call 18; refine use w (w.heap.size + 1) (check_any _ _ _ (by omega)) (by go_grown) (by go_size) ?_; rintro e w1 rfl hB1 hc1 hf1 hl1 hs1; have hl10 : w.heap.size < w1.heap.size := hl1 _ (by omega)) | (go_at_call 83; refine use w (w.heap.size + 1) (addNumbers_any _ _ _ (by omega)) (by go_grown) (by go_size) ?_; rintro e w1 rfl hB1 hc1 hf1 hl1 hs1; have hl10 : w.heap.size < w1.heap.size := hl1 _ (by omega)))
      all_goals (go_ret2; exact ⟨by rw [hp.out]; rfl, by go_grown⟩)
    · have hp := hid (show wideN lo hi = (0, 4) by unfold wideN; rw [if_pos e, if_neg c])
      have g1 := addF_false (x := hi) (y := -lo) (by omega)
      clear c
      go_enter Try.func53, Try.ntmps53
      go_wp2_with (first | (go_at_call 18; refine use w (w.heap.size + 1) (check_any _ _ _ (by omega)) (by go_grown) (by go_size) ?_; rintro e w1 rfl hB1 hc1 hf1 hl1 hs1; have hl10 : w.heap.size < w1.heap.size := hl1 _ (by omega)) | (go_at_call 83; refine use w (w.heap.size + 1) (addNumbers_any _ _ _ (by omega)) (by go_grown) (by go_size) ?_; rintro e w1 rfl hB1 hc1 hf1 hl1 hs1; have hl10 : w.heap.size < w1.heap.size := hl1 _ (by omega)))
      all_goals (go_ret2; exact ⟨by rw [hp.out]; rfl, by go_grown⟩)
  · have hp := hid (show wideN lo hi = (0, 2) from if_neg (by omega))
    clear k1
    go_enter Try.func53, Try.ntmps53
    go_wp2_with (first | (go_at_call 18; refine use w (w.heap.size + 1) (check_any _ _ _ (by omega)) (by go_grown) (by go_size) ?_; rintro e w1 rfl hB1 hc1 hf1 hl1 hs1; have hl10 : w.heap.size < w1.heap.size := hl1 _ (by omega)) | (go_at_call 83; refine use w (w.heap.size + 1) (addNumbers_any _ _ _ (by omega)) (by go_grown) (by go_size) ?_; rintro e w1 rfl hB1 hc1 hf1 hl1 hs1; have hl10 : w.heap.size < w1.heap.size := hl1 _ (by omega)))
    all_goals (go_ret2; exact ⟨by rw [hp.out]; rfl, by go_grown⟩)
theorem rwideof_any (lo hi : Int) (w : World) (h : (-9223372036854775808 ≤ lo ∧ lo ≤ 9223372036854775807) ∧ (-9223372036854775808 ≤ hi ∧ hi ≤ 9223372036854775807)) :
    Calls Try.prog 54 #[.agg #[.int .i64 lo, .int .i64 hi]] w fun e w' => e = .returned (.tuple #[.int .i64 ((wideN lo hi).1), .int .i64 ((wideN lo hi).2)]) ∧ Below w.heap.size w w' := by
  obtain ⟨⟨a1, a2⟩, b1, b2⟩ := h
  rcases chk_cases lo hi with ⟨e, k1, k2⟩ | ⟨e, k1⟩
  · by_cases c : 9223372036854775807 < hi + -lo
    · have hp := hid (show wideN lo hi = (0, 4) by unfold wideN; rw [if_pos e, if_neg (by omega)])
      have e1 := decide_eq_true c
      clear c
      go_enter Try.func54, Try.ntmps54
      go_wp2_with (go_at_call 19; refine use w (w.heap.size + 1) (rcheck_any _ _ _ (by omega)) (by go_grown) (by go_size) ?_; rintro e w1 rfl hB1 hc1 hf1 hl1 hs1; have hl10 : w.heap.size < w1.heap.size := hl1 _ (by omega))
      refine wp_region_held_drew (S := (fun w' => w'.cell? ⟨w.heap.size, 0, none⟩ = some (.int .i64 lo) ∧ w'.cell? ⟨w.heap.size, 1, none⟩ = some (.int .i64 hi))) (by kernel_rfl) (by (try dsimp only); (first | (exact ⟨hk1 _ _ _ (hOld.1), hk1 _ _ _ (hOld.2)⟩) | (go_keep; done) | ((repeat' apply And.intro) <;> (first | assumption | (exact ⟨_, by assumption⟩) | (exact two_0 (by assumption)) | (exact two_1 (by assumption)) | (simp (maxDischargeDepth := 8) [*, go_sem, World.cell?_alloc_some, World.cell?_setCell_far]; done))) | (simp (maxDischargeDepth := 8) [*, go_sem, World.cell?_alloc_some, World.cell?_setCell_far]; done))) (fun hHeld => ?_)
      (refine wpAnyH_take (i := 0) (oi := ⟨some 8, _, _, _, _, none⟩) (v := ?_) rfl (by kernel_rfl) (by kernel_rfl) (by kernel_rfl) (fun _ _ _ h => h) (Or.inl ⟨by rfl, ?_⟩) hHeld ?_; rotate_left; (· (intro w9 hSw; (try dsimp only at hSw); go_simp; (try with_reducible rfl))))
      (try simp only [Act.put, List.setIfInBounds_toArray, List.set_cons_zero, List.set_cons_succ])
      (refine wpAnyH_take (i := 1) (oi := ⟨some 9, _, _, _, _, none⟩) (v := ?_) rfl (by kernel_rfl) (by kernel_rfl) (by kernel_rfl) (fun _ _ _ h => h) (Or.inl ⟨by rfl, ?_⟩) hHeld ?_; rotate_left; (· (intro w9 hSw; (try dsimp only at hSw); go_simp; (try with_reducible rfl))))
      (try simp only [Act.put, List.setIfInBounds_toArray, List.set_cons_zero, List.set_cons_succ])
      (refine wpAnyH_take (i := 3) (oi := ⟨some 11, _, _, _, _, none⟩) (v := ?_) rfl (by kernel_rfl) (by kernel_rfl) (by kernel_rfl) (fun _ _ _ h => h) (Or.inl ⟨by rfl, ?_⟩) hHeld ?_; rotate_left; (· (intro w9 hSw; (try dsimp only at hSw); go_simp; (try with_reducible rfl))))
      (try simp only [Act.put, List.setIfInBounds_toArray, List.set_cons_zero, List.set_cons_succ])
      (refine wpAnyH_take (i := 4) (oi := ⟨some 12, _, _, _, _, none⟩) (v := ?_) rfl (by kernel_rfl) (by kernel_rfl) (by kernel_rfl) (fun _ _ _ h => h) (Or.inl ⟨by rfl, ?_⟩) hHeld ?_; rotate_left; (· (intro w9 hSw; (try dsimp only at hSw); go_simp; (try with_reducible rfl))))
      (try simp only [Act.put, List.setIfInBounds_toArray, List.set_cons_zero, List.set_cons_succ])
      refine wpAnyH_ready (rs := [2, 8]) (by kernel_rfl) (by simp) ?_
      refine AllReadyH.cons (o := ⟨some 10, _, _, _, _, none⟩) rfl (fun K hK => ?_) (AllReadyH.cons (o := ⟨some 4, _, _, _, _, none⟩) rfl (fun K hK => ?_) (AllReadyH.nil))
      ·
        go_simp
        (first | (go_at_call 86; refine useF w (wide_any _ _ (by omega)) (by go_grown) ?_; rintro e w_r_1 rfl hB_1 hk_1 hf_1 hs_1; have hz_1 := hB_1.size) | (go_at_call 96; refine useF w (minus_any _ _) (by go_grown) ?_; rintro e w_r_1 rfl hB_1 hk_1 hf_1 hs_1; have hz_1 := hB_1.size) | (go_at_call 85; refine useF w (plus_any _ _ _) (by go_grown) ?_; rintro e w_r_1 rfl hB_1 hk_1 hf_1 hs_1; have hz_1 := hB_1.size))
        have hOld := hHeld; clear hHeld; refine hK.out _ _ ?_ (fun hHeld => ?_); (· ((try dsimp only); (first | (exact ⟨hk_1 _ _ _ (hOld.1), hk_1 _ _ _ (hOld.2)⟩) | (go_keep; done) | ((repeat' apply And.intro) <;> (first | assumption | (exact ⟨_, by assumption⟩) | (exact two_0 (by assumption)) | (exact two_1 (by assumption)) | (simp (maxDischargeDepth := 8) [*, go_sem, World.cell?_alloc_some, World.cell?_setCell_far]; done))) | (simp (maxDischargeDepth := 8) [*, go_sem, World.cell?_alloc_some, World.cell?_setCell_far]; done)))); clear hK K hOld
        clear hk_1 hf_1
        (try simp only [Act.put, List.setIfInBounds_toArray, List.set_cons_zero, List.set_cons_succ])
        refine wpAnyH_ready (rs := [5, 8]) (by kernel_rfl) (by simp) ?_
        refine AllReadyH.cons (o := ⟨some 13, _, _, _, _, none⟩) rfl (fun K hK => ?_) (AllReadyH.cons (o := ⟨some 4, _, _, _, _, none⟩) rfl (fun K hK => ?_) (AllReadyH.nil))
        ·
          go_simp
          (first | (go_at_call 86; refine useF w (wide_any _ _ (by omega)) (by go_grown) ?_; rintro e w_r_2 rfl hB_2 hk_2 hf_2 hs_2; have hz_2 := hB_2.size) | (go_at_call 96; refine useF w (minus_any _ _) (by go_grown) ?_; rintro e w_r_2 rfl hB_2 hk_2 hf_2 hs_2; have hz_2 := hB_2.size) | (go_at_call 85; refine useF w (plus_any _ _ _) (by go_grown) ?_; rintro e w_r_2 rfl hB_2 hk_2 hf_2 hs_2; have hz_2 := hB_2.size))
          have hOld := hHeld; clear hHeld; refine hK.out _ _ ?_ (fun hHeld => ?_); (· ((try dsimp only); (first | (exact ⟨hk_2 _ _ _ (hOld.1), hk_2 _ _ _ (hOld.2)⟩) | (go_keep; done) | ((repeat' apply And.intro) <;> (first | assumption | (exact ⟨_, by assumption⟩) | (exact two_0 (by assumption)) | (exact two_1 (by assumption)) | (simp (maxDischargeDepth := 8) [*, go_sem, World.cell?_alloc_some, World.cell?_setCell_far]; done))) | (simp (maxDischargeDepth := 8) [*, go_sem, World.cell?_alloc_some, World.cell?_setCell_far]; done)))); clear hK K hOld
          clear hk_2 hf_2
          (try simp only [Act.put, List.setIfInBounds_toArray, List.set_cons_zero, List.set_cons_succ])
          refine wpAnyH_ready (rs := [6, 8]) (by kernel_rfl) (by simp) ?_
          refine AllReadyH.cons (o := ⟨some 14, _, _, _, _, none⟩) rfl (fun K hK => ?_) (AllReadyH.cons (o := ⟨some 4, _, _, _, _, none⟩) rfl (fun K hK => ?_) (AllReadyH.nil))
          ·
            go_simp
            (first | (go_at_call 86; refine useF w (wide_any _ _ (by omega)) (by go_grown) ?_; rintro e w_r_3 rfl hB_3 hk_3 hf_3 hs_3; have hz_3 := hB_3.size) | (go_at_call 96; refine useF w (minus_any _ _) (by go_grown) ?_; rintro e w_r_3 rfl hB_3 hk_3 hf_3 hs_3; have hz_3 := hB_3.size) | (go_at_call 85; refine useF w (plus_any _ _ _) (by go_grown) ?_; rintro e w_r_3 rfl hB_3 hk_3 hf_3 hs_3; have hz_3 := hB_3.size))
            have hOld := hHeld; clear hHeld; refine hK.out _ _ ?_ (fun hHeld => ?_); (· ((try dsimp only); (first | (exact ⟨hk_3 _ _ _ (hOld.1), hk_3 _ _ _ (hOld.2)⟩) | (go_keep; done) | ((repeat' apply And.intro) <;> (first | assumption | (exact ⟨_, by assumption⟩) | (exact two_0 (by assumption)) | (exact two_1 (by assumption)) | (simp (maxDischargeDepth := 8) [*, go_sem, World.cell?_alloc_some, World.cell?_setCell_far]; done))) | (simp (maxDischargeDepth := 8) [*, go_sem, World.cell?_alloc_some, World.cell?_setCell_far]; done)))); clear hK K hOld
            clear hk_3 hf_3
            (try simp only [Act.put, List.setIfInBounds_toArray, List.set_cons_zero, List.set_cons_succ])
            refine wpAnyH_ready (rs := [7, 8]) (by kernel_rfl) (by simp) ?_
            refine AllReadyH.cons (o := ⟨some 15, _, _, _, _, none⟩) rfl (fun K hK => ?_) (AllReadyH.cons (o := ⟨some 4, _, _, _, _, none⟩) rfl (fun K hK => ?_) (AllReadyH.nil))
            ·
              go_simp
              (first | (go_at_call 86; refine useF w (wide_any _ _ (by omega)) (by go_grown) ?_; rintro e w_r_4 rfl hB_4 hk_4 hf_4 hs_4; have hz_4 := hB_4.size) | (go_at_call 96; refine useF w (minus_any _ _) (by go_grown) ?_; rintro e w_r_4 rfl hB_4 hk_4 hf_4 hs_4; have hz_4 := hB_4.size) | (go_at_call 85; refine useF w (plus_any _ _ _) (by go_grown) ?_; rintro e w_r_4 rfl hB_4 hk_4 hf_4 hs_4; have hz_4 := hB_4.size))
              have hOld := hHeld; clear hHeld; refine hK.out _ _ ?_ (fun hHeld => ?_); (· ((try dsimp only); (first | (exact ⟨hk_4 _ _ _ (hOld.1), hk_4 _ _ _ (hOld.2)⟩) | (go_keep; done) | ((repeat' apply And.intro) <;> (first | assumption | (exact ⟨_, by assumption⟩) | (exact two_0 (by assumption)) | (exact two_1 (by assumption)) | (simp (maxDischargeDepth := 8) [*, go_sem, World.cell?_alloc_some, World.cell?_setCell_far]; done))) | (simp (maxDischargeDepth := 8) [*, go_sem, World.cell?_alloc_some, World.cell?_setCell_far]; done)))); clear hK K hOld
              clear hk_4 hf_4
              (try simp only [Act.put, List.setIfInBounds_toArray, List.set_cons_zero, List.set_cons_succ])
              refine wpAnyH_ready (rs := [8]) (by kernel_rfl) (by simp) ?_
              refine AllReadyH.cons (o := ⟨some 4, _, _, _, _, none⟩) rfl (fun K hK => ?_) (AllReadyH.nil)
              (try dsimp only at hHeld); have g0 := hHeld.1; have g1 := hHeld.2
              have hlt : w.heap.size < w_r_4.heap.size := World.block_lt_of_cell? _ ⟨w.heap.size, 0, none⟩ hHeld.1
              have hne : w.heap.size ≠ w_r_4.heap.size := by omega
              have hne2 := hne.symm
              have q0 : ((w_r_4).alloc (Obj.cells #[.int .i64 0, .int .u64 0] 78)).cell? ⟨w_r_4.heap.size, 0, none⟩ = some (.int .i64 0) := by simp [go_sem]
              have qf0 : ((w_r_4).alloc (Obj.cells #[.int .i64 0, .int .u64 0] 78)).frozen? ⟨w_r_4.heap.size, 0, none⟩ = false := by simp [go_sem]
              have q1 : ((w_r_4).alloc (Obj.cells #[.int .i64 0, .int .u64 0] 78)).cell? ⟨w_r_4.heap.size, 1, none⟩ = some (.int .u64 0) := by simp [go_sem]
              have qf1 : ((w_r_4).alloc (Obj.cells #[.int .i64 0, .int .u64 0] 78)).frozen? ⟨w_r_4.heap.size, 1, none⟩ = false := by simp [go_sem]
              clear hHeld; go_simp; refine hK.out _ _ ?_ (fun hHeld => ?_); (· ((try dsimp only); (first | (exact ⟨hk1 _ _ _ (hOld.1), hk1 _ _ _ (hOld.2)⟩) | (go_keep; done) | ((repeat' apply And.intro) <;> (first | assumption | (exact ⟨_, by assumption⟩) | (exact two_0 (by assumption)) | (exact two_1 (by assumption)) | (simp (maxDischargeDepth := 8) [*, go_sem, World.cell?_alloc_some, World.cell?_setCell_far]; done))) | (simp (maxDischargeDepth := 8) [*, go_sem, World.cell?_alloc_some, World.cell?_setCell_far]; done)))); clear hK K
              (try simp only [Act.put, List.setIfInBounds_toArray, List.set_cons_zero, List.set_cons_succ])
              refine wpAnyH_ready (rs := [9]) (by kernel_rfl) (by simp) ?_
              refine AllReadyH.cons (o := ⟨none, _, _, _, _, none⟩) rfl (fun K hK => ?_) (AllReadyH.nil)
              (try dsimp only at hHeld); have g0 := hHeld.1; have g1 := hHeld.2; clear hHeld; go_simp; refine hK.out _ _ ?_ (fun hHeld => ?_); (· ((try dsimp only); (first | (exact ⟨hk1 _ _ _ (hOld.1), hk1 _ _ _ (hOld.2)⟩) | (go_keep; done) | ((repeat' apply And.intro) <;> (first | assumption | (exact ⟨_, by assumption⟩) | (exact two_0 (by assumption)) | (exact two_1 (by assumption)) | (simp (maxDischargeDepth := 8) [*, go_sem, World.cell?_alloc_some, World.cell?_setCell_far]; done))) | (simp (maxDischargeDepth := 8) [*, go_sem, World.cell?_alloc_some, World.cell?_setCell_far]; done)))); clear hK K
              (try simp only [Act.put, List.setIfInBounds_toArray, List.set_cons_zero, List.set_cons_succ])
              refine wpAnyH_done (by kernel_rfl) ?_ _
              go_wp2_with fail
              refine wp_region_held_drew (S := (fun w' => w'.cell? ⟨w_r_4.heap.size, 0, none⟩ = some (.int .i64 (hiW (hi + -lo))) ∧ w'.cell? ⟨w_r_4.heap.size, 1, none⟩ = some (.int .u64 (loW (hi + -lo))))) (by kernel_rfl) (by (try dsimp only); (first | (exact ⟨hk1 _ _ _ (hOld.1), hk1 _ _ _ (hOld.2)⟩) | (go_keep; done) | ((repeat' apply And.intro) <;> (first | assumption | (exact ⟨_, by assumption⟩) | (exact two_0 (by assumption)) | (exact two_1 (by assumption)) | (simp (maxDischargeDepth := 8) [*, go_sem, World.cell?_alloc_some, World.cell?_setCell_far]; done))) | (simp (maxDischargeDepth := 8) [*, go_sem, World.cell?_alloc_some, World.cell?_setCell_far]; done))) (fun hHeld => ?_)
              (refine wpAnyH_take (i := 1) (oi := ⟨some 17, _, _, _, _, none⟩) (v := ?_) rfl (by kernel_rfl) (by kernel_rfl) (by kernel_rfl) (fun _ _ _ h => h) (Or.inl ⟨by rfl, ?_⟩) hHeld ?_; rotate_left; (· (intro w9 hSw; (try dsimp only at hSw); go_simp; (try with_reducible rfl))))
              (try simp only [Act.put, List.setIfInBounds_toArray, List.set_cons_zero, List.set_cons_succ])
              (refine wpAnyH_ready (rs := [0]) (by kernel_rfl) (by simp) ?_; refine AllReadyH.cons (o := ⟨some 16, _, _, _, _, none⟩) rfl (fun K hK => ?_) AllReadyH.nil; go_simp; (first | (go_at_call 79; refine useF w (of_any 9223372036854775807 _ (by omega)) (by go_grown) ?_; rintro e w1 rfl hB1 hk1 hf1 hs1; have hz1 := hB1.size) | (go_at_call 92; refine useF w (less_any _ _ _ (by omega)) (by go_grown) ?_; rintro e w1 rfl hB1 hk1 hf1 hs1; have hz1 := hB1.size)); have hOld := hHeld; clear hHeld; refine hK.out _ _ ?_ (fun hHeld => ?_); (· ((try dsimp only); (first | (exact ⟨hk1 _ _ _ (hOld.1), hk1 _ _ _ (hOld.2)⟩) | (go_keep; done) | ((repeat' apply And.intro) <;> (first | assumption | (exact ⟨_, by assumption⟩) | (exact two_0 (by assumption)) | (exact two_1 (by assumption)) | (simp (maxDischargeDepth := 8) [*, go_sem, World.cell?_alloc_some, World.cell?_setCell_far]; done))) | (simp (maxDischargeDepth := 8) [*, go_sem, World.cell?_alloc_some, World.cell?_setCell_far]; done)))); clear hK K hOld; (try clear hc1 hf1); (try clear hk1 hf1))
              (try simp only [Act.put, List.setIfInBounds_toArray, List.set_cons_zero, List.set_cons_succ])
              (refine wpAnyH_ready (rs := [2]) (by kernel_rfl) (by simp) ?_; refine AllReadyH.cons (o := ⟨some 18, _, _, _, _, none⟩) rfl (fun K hK => ?_) AllReadyH.nil; go_simp; (first | (go_at_call 79; refine useF w (of_any 9223372036854775807 _ (by omega)) (by go_grown) ?_; rintro e w1 rfl hB1 hk1 hf1 hs1; have hz1 := hB1.size) | (go_at_call 92; refine useF w (less_any _ _ _ (by omega)) (by go_grown) ?_; rintro e w1 rfl hB1 hk1 hf1 hs1; have hz1 := hB1.size)); have hOld := hHeld; clear hHeld; refine hK.out _ _ ?_ (fun hHeld => ?_); (· ((try dsimp only); (first | (exact ⟨hk1 _ _ _ (hOld.1), hk1 _ _ _ (hOld.2)⟩) | (go_keep; done) | ((repeat' apply And.intro) <;> (first | assumption | (exact ⟨_, by assumption⟩) | (exact two_0 (by assumption)) | (exact two_1 (by assumption)) | (simp (maxDischargeDepth := 8) [*, go_sem, World.cell?_alloc_some, World.cell?_setCell_far]; done))) | (simp (maxDischargeDepth := 8) [*, go_sem, World.cell?_alloc_some, World.cell?_setCell_far]; done)))); clear hK K hOld; (try clear hc1 hf1); (try clear hk1 hf1))
              (try simp only [Act.put, List.setIfInBounds_toArray, List.set_cons_zero, List.set_cons_succ])
              refine wpAnyH_done (by kernel_rfl) ?_ _
              try rw [e1]
              go_wp2_with fail
              all_goals (go_ret2; exact ⟨by rw [hp.out]; rfl, by go_grown⟩)
            ·
              (try dsimp only at hHeld); have g0 := hHeld.1; have g1 := hHeld.2
              have hlt : w.heap.size < w_r_3.heap.size := World.block_lt_of_cell? _ ⟨w.heap.size, 0, none⟩ hHeld.1
              have hne : w.heap.size ≠ w_r_3.heap.size := by omega
              have hne2 := hne.symm
              have q0 : ((w_r_3).alloc (Obj.cells #[.int .i64 0, .int .u64 0] 78)).cell? ⟨w_r_3.heap.size, 0, none⟩ = some (.int .i64 0) := by simp [go_sem]
              have qf0 : ((w_r_3).alloc (Obj.cells #[.int .i64 0, .int .u64 0] 78)).frozen? ⟨w_r_3.heap.size, 0, none⟩ = false := by simp [go_sem]
              have q1 : ((w_r_3).alloc (Obj.cells #[.int .i64 0, .int .u64 0] 78)).cell? ⟨w_r_3.heap.size, 1, none⟩ = some (.int .u64 0) := by simp [go_sem]
              have qf1 : ((w_r_3).alloc (Obj.cells #[.int .i64 0, .int .u64 0] 78)).frozen? ⟨w_r_3.heap.size, 1, none⟩ = false := by simp [go_sem]
              clear hHeld; go_simp; refine hK.out _ _ ?_ (fun hHeld => ?_); (· ((try dsimp only); (first | (exact ⟨hk1 _ _ _ (hOld.1), hk1 _ _ _ (hOld.2)⟩) | (go_keep; done) | ((repeat' apply And.intro) <;> (first | assumption | (exact ⟨_, by assumption⟩) | (exact two_0 (by assumption)) | (exact two_1 (by assumption)) | (simp (maxDischargeDepth := 8) [*, go_sem, World.cell?_alloc_some, World.cell?_setCell_far]; done))) | (simp (maxDischargeDepth := 8) [*, go_sem, World.cell?_alloc_some, World.cell?_setCell_far]; done)))); clear hK K
              (try simp only [Act.put, List.setIfInBounds_toArray, List.set_cons_zero, List.set_cons_succ])
              refine wpAnyH_ready (rs := [7]) (by kernel_rfl) (by simp) ?_
              refine AllReadyH.cons (o := ⟨some 15, _, _, _, _, none⟩) rfl (fun K hK => ?_) (AllReadyH.nil)
              go_simp
              (first | (go_at_call 86; refine useF w (wide_any _ _ (by omega)) (by go_grown) ?_; rintro e w_r_4 rfl hB_4 hk_4 hf_4 hs_4; have hz_4 := hB_4.size) | (go_at_call 96; refine useF w (minus_any _ _) (by go_grown) ?_; rintro e w_r_4 rfl hB_4 hk_4 hf_4 hs_4; have hz_4 := hB_4.size) | (go_at_call 85; refine useF w (plus_any _ _ _) (by go_grown) ?_; rintro e w_r_4 rfl hB_4 hk_4 hf_4 hs_4; have hz_4 := hB_4.size))
              have hOld := hHeld; clear hHeld; refine hK.out _ _ ?_ (fun hHeld => ?_); (· ((try dsimp only); (first | (exact ⟨hk_4 _ _ _ (hOld.1), hk_4 _ _ _ (hOld.2)⟩) | (go_keep; done) | ((repeat' apply And.intro) <;> (first | assumption | (exact ⟨_, by assumption⟩) | (exact two_0 (by assumption)) | (exact two_1 (by assumption)) | (simp (maxDischargeDepth := 8) [*, go_sem, World.cell?_alloc_some, World.cell?_setCell_far]; done))) | (simp (maxDischargeDepth := 8) [*, go_sem, World.cell?_alloc_some, World.cell?_setCell_far]; done)))); clear hK K hOld
              have qf0 := hf_4 _ _ _ q0 qf0
              have qf1 := hf_4 _ _ _ q1 qf1
              have q0 := hk_4 _ _ _ q0
              have q1 := hk_4 _ _ _ q1
              clear hk_4 hf_4
              (try simp only [Act.put, List.setIfInBounds_toArray, List.set_cons_zero, List.set_cons_succ])
              refine wpAnyH_ready (rs := [9]) (by kernel_rfl) (by simp) ?_
              refine AllReadyH.cons (o := ⟨none, _, _, _, _, none⟩) rfl (fun K hK => ?_) (AllReadyH.nil)
              (try dsimp only at hHeld); have g0 := hHeld.1; have g1 := hHeld.2; clear hHeld; go_simp; refine hK.out _ _ ?_ (fun hHeld => ?_); (· ((try dsimp only); (first | (exact ⟨hk1 _ _ _ (hOld.1), hk1 _ _ _ (hOld.2)⟩) | (go_keep; done) | ((repeat' apply And.intro) <;> (first | assumption | (exact ⟨_, by assumption⟩) | (exact two_0 (by assumption)) | (exact two_1 (by assumption)) | (simp (maxDischargeDepth := 8) [*, go_sem, World.cell?_alloc_some, World.cell?_setCell_far]; done))) | (simp (maxDischargeDepth := 8) [*, go_sem, World.cell?_alloc_some, World.cell?_setCell_far]; done)))); clear hK K
              (try simp only [Act.put, List.setIfInBounds_toArray, List.set_cons_zero, List.set_cons_succ])
              refine wpAnyH_done (by kernel_rfl) ?_ _
              go_wp2_with fail
              refine wp_region_held_drew (S := (fun w' => w'.cell? ⟨w_r_3.heap.size, 0, none⟩ = some (.int .i64 (hiW (hi + -lo))) ∧ w'.cell? ⟨w_r_3.heap.size, 1, none⟩ = some (.int .u64 (loW (hi + -lo))))) (by kernel_rfl) (by (try dsimp only); (first | (exact ⟨hk1 _ _ _ (hOld.1), hk1 _ _ _ (hOld.2)⟩) | (go_keep; done) | ((repeat' apply And.intro) <;> (first | assumption | (exact ⟨_, by assumption⟩) | (exact two_0 (by assumption)) | (exact two_1 (by assumption)) | (simp (maxDischargeDepth := 8) [*, go_sem, World.cell?_alloc_some, World.cell?_setCell_far]; done))) | (simp (maxDischargeDepth := 8) [*, go_sem, World.cell?_alloc_some, World.cell?_setCell_far]; done))) (fun hHeld => ?_)
              (refine wpAnyH_take (i := 1) (oi := ⟨some 17, _, _, _, _, none⟩) (v := ?_) rfl (by kernel_rfl) (by kernel_rfl) (by kernel_rfl) (fun _ _ _ h => h) (Or.inl ⟨by rfl, ?_⟩) hHeld ?_; rotate_left; (· (intro w9 hSw; (try dsimp only at hSw); go_simp; (try with_reducible rfl))))
              (try simp only [Act.put, List.setIfInBounds_toArray, List.set_cons_zero, List.set_cons_succ])
              (refine wpAnyH_ready (rs := [0]) (by kernel_rfl) (by simp) ?_; refine AllReadyH.cons (o := ⟨some 16, _, _, _, _, none⟩) rfl (fun K hK => ?_) AllReadyH.nil; go_simp; (first | (go_at_call 79; refine useF w (of_any 9223372036854775807 _ (by omega)) (by go_grown) ?_; rintro e w1 rfl hB1 hk1 hf1 hs1; have hz1 := hB1.size) | (go_at_call 92; refine useF w (less_any _ _ _ (by omega)) (by go_grown) ?_; rintro e w1 rfl hB1 hk1 hf1 hs1; have hz1 := hB1.size)); have hOld := hHeld; clear hHeld; refine hK.out _ _ ?_ (fun hHeld => ?_); (· ((try dsimp only); (first | (exact ⟨hk1 _ _ _ (hOld.1), hk1 _ _ _ (hOld.2)⟩) | (go_keep; done) | ((repeat' apply And.intro) <;> (first | assumption | (exact ⟨_, by assumption⟩) | (exact two_0 (by assumption)) | (exact two_1 (by assumption)) | (simp (maxDischargeDepth := 8) [*, go_sem, World.cell?_alloc_some, World.cell?_setCell_far]; done))) | (simp (maxDischargeDepth := 8) [*, go_sem, World.cell?_alloc_some, World.cell?_setCell_far]; done)))); clear hK K hOld; (try clear hc1 hf1); (try clear hk1 hf1))
              (try simp only [Act.put, List.setIfInBounds_toArray, List.set_cons_zero, List.set_cons_succ])
              (refine wpAnyH_ready (rs := [2]) (by kernel_rfl) (by simp) ?_; refine AllReadyH.cons (o := ⟨some 18, _, _, _, _, none⟩) rfl (fun K hK => ?_) AllReadyH.nil; go_simp; (first | (go_at_call 79; refine useF w (of_any 9223372036854775807 _ (by omega)) (by go_grown) ?_; rintro e w1 rfl hB1 hk1 hf1 hs1; have hz1 := hB1.size) | (go_at_call 92; refine useF w (less_any _ _ _ (by omega)) (by go_grown) ?_; rintro e w1 rfl hB1 hk1 hf1 hs1; have hz1 := hB1.size)); have hOld := hHeld; clear hHeld; refine hK.out _ _ ?_ (fun hHeld => ?_); (· ((try dsimp only); (first | (exact ⟨hk1 _ _ _ (hOld.1), hk1 _ _ _ (hOld.2)⟩) | (go_keep; done) | ((repeat' apply And.intro) <;> (first | assumption | (exact ⟨_, by assumption⟩) | (exact two_0 (by assumption)) | (exact two_1 (by assumption)) | (simp (maxDischargeDepth := 8) [*, go_sem, World.cell?_alloc_some, World.cell?_setCell_far]; done))) | (simp (maxDischargeDepth := 8) [*, go_sem, World.cell?_alloc_some, World.cell?_setCell_far]; done)))); clear hK K hOld; (try clear hc1 hf1); (try clear hk1 hf1))
              (try simp only [Act.put, List.setIfInBounds_toArray, List.set_cons_zero, List.set_cons_succ])
              refine wpAnyH_done (by kernel_rfl) ?_ _
              try rw [e1]
              go_wp2_with fail
              all_goals (go_ret2; exact ⟨by rw [hp.out]; rfl, by go_grown⟩)
          ·
            (try dsimp only at hHeld); have g0 := hHeld.1; have g1 := hHeld.2
            have hlt : w.heap.size < w_r_2.heap.size := World.block_lt_of_cell? _ ⟨w.heap.size, 0, none⟩ hHeld.1
            have hne : w.heap.size ≠ w_r_2.heap.size := by omega
            have hne2 := hne.symm
            have q0 : ((w_r_2).alloc (Obj.cells #[.int .i64 0, .int .u64 0] 78)).cell? ⟨w_r_2.heap.size, 0, none⟩ = some (.int .i64 0) := by simp [go_sem]
            have qf0 : ((w_r_2).alloc (Obj.cells #[.int .i64 0, .int .u64 0] 78)).frozen? ⟨w_r_2.heap.size, 0, none⟩ = false := by simp [go_sem]
            have q1 : ((w_r_2).alloc (Obj.cells #[.int .i64 0, .int .u64 0] 78)).cell? ⟨w_r_2.heap.size, 1, none⟩ = some (.int .u64 0) := by simp [go_sem]
            have qf1 : ((w_r_2).alloc (Obj.cells #[.int .i64 0, .int .u64 0] 78)).frozen? ⟨w_r_2.heap.size, 1, none⟩ = false := by simp [go_sem]
            clear hHeld; go_simp; refine hK.out _ _ ?_ (fun hHeld => ?_); (· ((try dsimp only); (first | (exact ⟨hk1 _ _ _ (hOld.1), hk1 _ _ _ (hOld.2)⟩) | (go_keep; done) | ((repeat' apply And.intro) <;> (first | assumption | (exact ⟨_, by assumption⟩) | (exact two_0 (by assumption)) | (exact two_1 (by assumption)) | (simp (maxDischargeDepth := 8) [*, go_sem, World.cell?_alloc_some, World.cell?_setCell_far]; done))) | (simp (maxDischargeDepth := 8) [*, go_sem, World.cell?_alloc_some, World.cell?_setCell_far]; done)))); clear hK K
            (try simp only [Act.put, List.setIfInBounds_toArray, List.set_cons_zero, List.set_cons_succ])
            refine wpAnyH_ready (rs := [6]) (by kernel_rfl) (by simp) ?_
            refine AllReadyH.cons (o := ⟨some 14, _, _, _, _, none⟩) rfl (fun K hK => ?_) (AllReadyH.nil)
            go_simp
            (first | (go_at_call 86; refine useF w (wide_any _ _ (by omega)) (by go_grown) ?_; rintro e w_r_3 rfl hB_3 hk_3 hf_3 hs_3; have hz_3 := hB_3.size) | (go_at_call 96; refine useF w (minus_any _ _) (by go_grown) ?_; rintro e w_r_3 rfl hB_3 hk_3 hf_3 hs_3; have hz_3 := hB_3.size) | (go_at_call 85; refine useF w (plus_any _ _ _) (by go_grown) ?_; rintro e w_r_3 rfl hB_3 hk_3 hf_3 hs_3; have hz_3 := hB_3.size))
            have hOld := hHeld; clear hHeld; refine hK.out _ _ ?_ (fun hHeld => ?_); (· ((try dsimp only); (first | (exact ⟨hk_3 _ _ _ (hOld.1), hk_3 _ _ _ (hOld.2)⟩) | (go_keep; done) | ((repeat' apply And.intro) <;> (first | assumption | (exact ⟨_, by assumption⟩) | (exact two_0 (by assumption)) | (exact two_1 (by assumption)) | (simp (maxDischargeDepth := 8) [*, go_sem, World.cell?_alloc_some, World.cell?_setCell_far]; done))) | (simp (maxDischargeDepth := 8) [*, go_sem, World.cell?_alloc_some, World.cell?_setCell_far]; done)))); clear hK K hOld
            have qf0 := hf_3 _ _ _ q0 qf0
            have qf1 := hf_3 _ _ _ q1 qf1
            have q0 := hk_3 _ _ _ q0
            have q1 := hk_3 _ _ _ q1
            clear hk_3 hf_3
            (try simp only [Act.put, List.setIfInBounds_toArray, List.set_cons_zero, List.set_cons_succ])
            refine wpAnyH_ready (rs := [7]) (by kernel_rfl) (by simp) ?_
            refine AllReadyH.cons (o := ⟨some 15, _, _, _, _, none⟩) rfl (fun K hK => ?_) (AllReadyH.nil)
            go_simp
            (first | (go_at_call 86; refine useF w (wide_any _ _ (by omega)) (by go_grown) ?_; rintro e w_r_4 rfl hB_4 hk_4 hf_4 hs_4; have hz_4 := hB_4.size) | (go_at_call 96; refine useF w (minus_any _ _) (by go_grown) ?_; rintro e w_r_4 rfl hB_4 hk_4 hf_4 hs_4; have hz_4 := hB_4.size) | (go_at_call 85; refine useF w (plus_any _ _ _) (by go_grown) ?_; rintro e w_r_4 rfl hB_4 hk_4 hf_4 hs_4; have hz_4 := hB_4.size))
            have hOld := hHeld; clear hHeld; refine hK.out _ _ ?_ (fun hHeld => ?_); (· ((try dsimp only); (first | (exact ⟨hk_4 _ _ _ (hOld.1), hk_4 _ _ _ (hOld.2)⟩) | (go_keep; done) | ((repeat' apply And.intro) <;> (first | assumption | (exact ⟨_, by assumption⟩) | (exact two_0 (by assumption)) | (exact two_1 (by assumption)) | (simp (maxDischargeDepth := 8) [*, go_sem, World.cell?_alloc_some, World.cell?_setCell_far]; done))) | (simp (maxDischargeDepth := 8) [*, go_sem, World.cell?_alloc_some, World.cell?_setCell_far]; done)))); clear hK K hOld
            have qf0 := hf_4 _ _ _ q0 qf0
            have qf1 := hf_4 _ _ _ q1 qf1
            have q0 := hk_4 _ _ _ q0
            have q1 := hk_4 _ _ _ q1
            clear hk_4 hf_4
            (try simp only [Act.put, List.setIfInBounds_toArray, List.set_cons_zero, List.set_cons_succ])
            refine wpAnyH_ready (rs := [9]) (by kernel_rfl) (by simp) ?_
            refine AllReadyH.cons (o := ⟨none, _, _, _, _, none⟩) rfl (fun K hK => ?_) (AllReadyH.nil)
            (try dsimp only at hHeld); have g0 := hHeld.1; have g1 := hHeld.2; clear hHeld; go_simp; refine hK.out _ _ ?_ (fun hHeld => ?_); (· ((try dsimp only); (first | (exact ⟨hk1 _ _ _ (hOld.1), hk1 _ _ _ (hOld.2)⟩) | (go_keep; done) | ((repeat' apply And.intro) <;> (first | assumption | (exact ⟨_, by assumption⟩) | (exact two_0 (by assumption)) | (exact two_1 (by assumption)) | (simp (maxDischargeDepth := 8) [*, go_sem, World.cell?_alloc_some, World.cell?_setCell_far]; done))) | (simp (maxDischargeDepth := 8) [*, go_sem, World.cell?_alloc_some, World.cell?_setCell_far]; done)))); clear hK K
            (try simp only [Act.put, List.setIfInBounds_toArray, List.set_cons_zero, List.set_cons_succ])
            refine wpAnyH_done (by kernel_rfl) ?_ _
            go_wp2_with fail
            refine wp_region_held_drew (S := (fun w' => w'.cell? ⟨w_r_2.heap.size, 0, none⟩ = some (.int .i64 (hiW (hi + -lo))) ∧ w'.cell? ⟨w_r_2.heap.size, 1, none⟩ = some (.int .u64 (loW (hi + -lo))))) (by kernel_rfl) (by (try dsimp only); (first | (exact ⟨hk1 _ _ _ (hOld.1), hk1 _ _ _ (hOld.2)⟩) | (go_keep; done) | ((repeat' apply And.intro) <;> (first | assumption | (exact ⟨_, by assumption⟩) | (exact two_0 (by assumption)) | (exact two_1 (by assumption)) | (simp (maxDischargeDepth := 8) [*, go_sem, World.cell?_alloc_some, World.cell?_setCell_far]; done))) | (simp (maxDischargeDepth := 8) [*, go_sem, World.cell?_alloc_some, World.cell?_setCell_far]; done))) (fun hHeld => ?_)
            (refine wpAnyH_take (i := 1) (oi := ⟨some 17, _, _, _, _, none⟩) (v := ?_) rfl (by kernel_rfl) (by kernel_rfl) (by kernel_rfl) (fun _ _ _ h => h) (Or.inl ⟨by rfl, ?_⟩) hHeld ?_; rotate_left; (· (intro w9 hSw; (try dsimp only at hSw); go_simp; (try with_reducible rfl))))
            (try simp only [Act.put, List.setIfInBounds_toArray, List.set_cons_zero, List.set_cons_succ])
            (refine wpAnyH_ready (rs := [0]) (by kernel_rfl) (by simp) ?_; refine AllReadyH.cons (o := ⟨some 16, _, _, _, _, none⟩) rfl (fun K hK => ?_) AllReadyH.nil; go_simp; (first | (go_at_call 79; refine useF w (of_any 9223372036854775807 _ (by omega)) (by go_grown) ?_; rintro e w1 rfl hB1 hk1 hf1 hs1; have hz1 := hB1.size) | (go_at_call 92; refine useF w (less_any _ _ _ (by omega)) (by go_grown) ?_; rintro e w1 rfl hB1 hk1 hf1 hs1; have hz1 := hB1.size)); have hOld := hHeld; clear hHeld; refine hK.out _ _ ?_ (fun hHeld => ?_); (· ((try dsimp only); (first | (exact ⟨hk1 _ _ _ (hOld.1), hk1 _ _ _ (hOld.2)⟩) | (go_keep; done) | ((repeat' apply And.intro) <;> (first | assumption | (exact ⟨_, by assumption⟩) | (exact two_0 (by assumption)) | (exact two_1 (by assumption)) | (simp (maxDischargeDepth := 8) [*, go_sem, World.cell?_alloc_some, World.cell?_setCell_far]; done))) | (simp (maxDischargeDepth := 8) [*, go_sem, World.cell?_alloc_some, World.cell?_setCell_far]; done)))); clear hK K hOld; (try clear hc1 hf1); (try clear hk1 hf1))
            (try simp only [Act.put, List.setIfInBounds_toArray, List.set_cons_zero, List.set_cons_succ])
            (refine wpAnyH_ready (rs := [2]) (by kernel_rfl) (by simp) ?_; refine AllReadyH.cons (o := ⟨some 18, _, _, _, _, none⟩) rfl (fun K hK => ?_) AllReadyH.nil; go_simp; (first | (go_at_call 79; refine useF w (of_any 9223372036854775807 _ (by omega)) (by go_grown) ?_; rintro e w1 rfl hB1 hk1 hf1 hs1; have hz1 := hB1.size) | (go_at_call 92; refine useF w (less_any _ _ _ (by omega)) (by go_grown) ?_; rintro e w1 rfl hB1 hk1 hf1 hs1; have hz1 := hB1.size)); have hOld := hHeld; clear hHeld; refine hK.out _ _ ?_ (fun hHeld => ?_); (· ((try dsimp only); (first | (exact ⟨hk1 _ _ _ (hOld.1), hk1 _ _ _ (hOld.2)⟩) | (go_keep; done) | ((repeat' apply And.intro) <;> (first | assumption | (exact ⟨_, by assumption⟩) | (exact two_0 (by assumption)) | (exact two_1 (by assumption)) | (simp (maxDischargeDepth := 8) [*, go_sem, World.cell?_alloc_some, World.cell?_setCell_far]; done))) | (simp (maxDischargeDepth := 8) [*, go_sem, World.cell?_alloc_some, World.cell?_setCell_far]; done)))); clear hK K hOld; (try clear hc1 hf1); (try clear hk1 hf1))
            (try simp only [Act.put, List.setIfInBounds_toArray, List.set_cons_zero, List.set_cons_succ])
            refine wpAnyH_done (by kernel_rfl) ?_ _
            try rw [e1]
            go_wp2_with fail
            all_goals (go_ret2; exact ⟨by rw [hp.out]; rfl, by go_grown⟩)
        ·
          (try dsimp only at hHeld); have g0 := hHeld.1; have g1 := hHeld.2
          have hlt : w.heap.size < w_r_1.heap.size := World.block_lt_of_cell? _ ⟨w.heap.size, 0, none⟩ hHeld.1
          have hne : w.heap.size ≠ w_r_1.heap.size := by omega
          have hne2 := hne.symm
          have q0 : ((w_r_1).alloc (Obj.cells #[.int .i64 0, .int .u64 0] 78)).cell? ⟨w_r_1.heap.size, 0, none⟩ = some (.int .i64 0) := by simp [go_sem]
          have qf0 : ((w_r_1).alloc (Obj.cells #[.int .i64 0, .int .u64 0] 78)).frozen? ⟨w_r_1.heap.size, 0, none⟩ = false := by simp [go_sem]
          have q1 : ((w_r_1).alloc (Obj.cells #[.int .i64 0, .int .u64 0] 78)).cell? ⟨w_r_1.heap.size, 1, none⟩ = some (.int .u64 0) := by simp [go_sem]
          have qf1 : ((w_r_1).alloc (Obj.cells #[.int .i64 0, .int .u64 0] 78)).frozen? ⟨w_r_1.heap.size, 1, none⟩ = false := by simp [go_sem]
          clear hHeld; go_simp; refine hK.out _ _ ?_ (fun hHeld => ?_); (· ((try dsimp only); (first | (exact ⟨hk1 _ _ _ (hOld.1), hk1 _ _ _ (hOld.2)⟩) | (go_keep; done) | ((repeat' apply And.intro) <;> (first | assumption | (exact ⟨_, by assumption⟩) | (exact two_0 (by assumption)) | (exact two_1 (by assumption)) | (simp (maxDischargeDepth := 8) [*, go_sem, World.cell?_alloc_some, World.cell?_setCell_far]; done))) | (simp (maxDischargeDepth := 8) [*, go_sem, World.cell?_alloc_some, World.cell?_setCell_far]; done)))); clear hK K
          (try simp only [Act.put, List.setIfInBounds_toArray, List.set_cons_zero, List.set_cons_succ])
          refine wpAnyH_ready (rs := [5]) (by kernel_rfl) (by simp) ?_
          refine AllReadyH.cons (o := ⟨some 13, _, _, _, _, none⟩) rfl (fun K hK => ?_) (AllReadyH.nil)
          go_simp
          (first | (go_at_call 86; refine useF w (wide_any _ _ (by omega)) (by go_grown) ?_; rintro e w_r_2 rfl hB_2 hk_2 hf_2 hs_2; have hz_2 := hB_2.size) | (go_at_call 96; refine useF w (minus_any _ _) (by go_grown) ?_; rintro e w_r_2 rfl hB_2 hk_2 hf_2 hs_2; have hz_2 := hB_2.size) | (go_at_call 85; refine useF w (plus_any _ _ _) (by go_grown) ?_; rintro e w_r_2 rfl hB_2 hk_2 hf_2 hs_2; have hz_2 := hB_2.size))
          have hOld := hHeld; clear hHeld; refine hK.out _ _ ?_ (fun hHeld => ?_); (· ((try dsimp only); (first | (exact ⟨hk_2 _ _ _ (hOld.1), hk_2 _ _ _ (hOld.2)⟩) | (go_keep; done) | ((repeat' apply And.intro) <;> (first | assumption | (exact ⟨_, by assumption⟩) | (exact two_0 (by assumption)) | (exact two_1 (by assumption)) | (simp (maxDischargeDepth := 8) [*, go_sem, World.cell?_alloc_some, World.cell?_setCell_far]; done))) | (simp (maxDischargeDepth := 8) [*, go_sem, World.cell?_alloc_some, World.cell?_setCell_far]; done)))); clear hK K hOld
          have qf0 := hf_2 _ _ _ q0 qf0
          have qf1 := hf_2 _ _ _ q1 qf1
          have q0 := hk_2 _ _ _ q0
          have q1 := hk_2 _ _ _ q1
          clear hk_2 hf_2
          (try simp only [Act.put, List.setIfInBounds_toArray, List.set_cons_zero, List.set_cons_succ])
          refine wpAnyH_ready (rs := [6]) (by kernel_rfl) (by simp) ?_
          refine AllReadyH.cons (o := ⟨some 14, _, _, _, _, none⟩) rfl (fun K hK => ?_) (AllReadyH.nil)
          go_simp
          (first | (go_at_call 86; refine useF w (wide_any _ _ (by omega)) (by go_grown) ?_; rintro e w_r_3 rfl hB_3 hk_3 hf_3 hs_3; have hz_3 := hB_3.size) | (go_at_call 96; refine useF w (minus_any _ _) (by go_grown) ?_; rintro e w_r_3 rfl hB_3 hk_3 hf_3 hs_3; have hz_3 := hB_3.size) | (go_at_call 85; refine useF w (plus_any _ _ _) (by go_grown) ?_; rintro e w_r_3 rfl hB_3 hk_3 hf_3 hs_3; have hz_3 := hB_3.size))
          have hOld := hHeld; clear hHeld; refine hK.out _ _ ?_ (fun hHeld => ?_); (· ((try dsimp only); (first | (exact ⟨hk_3 _ _ _ (hOld.1), hk_3 _ _ _ (hOld.2)⟩) | (go_keep; done) | ((repeat' apply And.intro) <;> (first | assumption | (exact ⟨_, by assumption⟩) | (exact two_0 (by assumption)) | (exact two_1 (by assumption)) | (simp (maxDischargeDepth := 8) [*, go_sem, World.cell?_alloc_some, World.cell?_setCell_far]; done))) | (simp (maxDischargeDepth := 8) [*, go_sem, World.cell?_alloc_some, World.cell?_setCell_far]; done)))); clear hK K hOld
          have qf0 := hf_3 _ _ _ q0 qf0
          have qf1 := hf_3 _ _ _ q1 qf1
          have q0 := hk_3 _ _ _ q0
          have q1 := hk_3 _ _ _ q1
          clear hk_3 hf_3
          (try simp only [Act.put, List.setIfInBounds_toArray, List.set_cons_zero, List.set_cons_succ])
          refine wpAnyH_ready (rs := [7]) (by kernel_rfl) (by simp) ?_
          refine AllReadyH.cons (o := ⟨some 15, _, _, _, _, none⟩) rfl (fun K hK => ?_) (AllReadyH.nil)
          go_simp
          (first | (go_at_call 86; refine useF w (wide_any _ _ (by omega)) (by go_grown) ?_; rintro e w_r_4 rfl hB_4 hk_4 hf_4 hs_4; have hz_4 := hB_4.size) | (go_at_call 96; refine useF w (minus_any _ _) (by go_grown) ?_; rintro e w_r_4 rfl hB_4 hk_4 hf_4 hs_4; have hz_4 := hB_4.size) | (go_at_call 85; refine useF w (plus_any _ _ _) (by go_grown) ?_; rintro e w_r_4 rfl hB_4 hk_4 hf_4 hs_4; have hz_4 := hB_4.size))
          have hOld := hHeld; clear hHeld; refine hK.out _ _ ?_ (fun hHeld => ?_); (· ((try dsimp only); (first | (exact ⟨hk_4 _ _ _ (hOld.1), hk_4 _ _ _ (hOld.2)⟩) | (go_keep; done) | ((repeat' apply And.intro) <;> (first | assumption | (exact ⟨_, by assumption⟩) | (exact two_0 (by assumption)) | (exact two_1 (by assumption)) | (simp (maxDischargeDepth := 8) [*, go_sem, World.cell?_alloc_some, World.cell?_setCell_far]; done))) | (simp (maxDischargeDepth := 8) [*, go_sem, World.cell?_alloc_some, World.cell?_setCell_far]; done)))); clear hK K hOld
          have qf0 := hf_4 _ _ _ q0 qf0
          have qf1 := hf_4 _ _ _ q1 qf1
          have q0 := hk_4 _ _ _ q0
          have q1 := hk_4 _ _ _ q1
          clear hk_4 hf_4
          (try simp only [Act.put, List.setIfInBounds_toArray, List.set_cons_zero, List.set_cons_succ])
          refine wpAnyH_ready (rs := [9]) (by kernel_rfl) (by simp) ?_
          refine AllReadyH.cons (o := ⟨none, _, _, _, _, none⟩) rfl (fun K hK => ?_) (AllReadyH.nil)
          (try dsimp only at hHeld); have g0 := hHeld.1; have g1 := hHeld.2; clear hHeld; go_simp; refine hK.out _ _ ?_ (fun hHeld => ?_); (· ((try dsimp only); (first | (exact ⟨hk1 _ _ _ (hOld.1), hk1 _ _ _ (hOld.2)⟩) | (go_keep; done) | ((repeat' apply And.intro) <;> (first | assumption | (exact ⟨_, by assumption⟩) | (exact two_0 (by assumption)) | (exact two_1 (by assumption)) | (simp (maxDischargeDepth := 8) [*, go_sem, World.cell?_alloc_some, World.cell?_setCell_far]; done))) | (simp (maxDischargeDepth := 8) [*, go_sem, World.cell?_alloc_some, World.cell?_setCell_far]; done)))); clear hK K
          (try simp only [Act.put, List.setIfInBounds_toArray, List.set_cons_zero, List.set_cons_succ])
          refine wpAnyH_done (by kernel_rfl) ?_ _
          go_wp2_with fail
          refine wp_region_held_drew (S := (fun w' => w'.cell? ⟨w_r_1.heap.size, 0, none⟩ = some (.int .i64 (hiW (hi + -lo))) ∧ w'.cell? ⟨w_r_1.heap.size, 1, none⟩ = some (.int .u64 (loW (hi + -lo))))) (by kernel_rfl) (by (try dsimp only); (first | (exact ⟨hk1 _ _ _ (hOld.1), hk1 _ _ _ (hOld.2)⟩) | (go_keep; done) | ((repeat' apply And.intro) <;> (first | assumption | (exact ⟨_, by assumption⟩) | (exact two_0 (by assumption)) | (exact two_1 (by assumption)) | (simp (maxDischargeDepth := 8) [*, go_sem, World.cell?_alloc_some, World.cell?_setCell_far]; done))) | (simp (maxDischargeDepth := 8) [*, go_sem, World.cell?_alloc_some, World.cell?_setCell_far]; done))) (fun hHeld => ?_)
          (refine wpAnyH_take (i := 1) (oi := ⟨some 17, _, _, _, _, none⟩) (v := ?_) rfl (by kernel_rfl) (by kernel_rfl) (by kernel_rfl) (fun _ _ _ h => h) (Or.inl ⟨by rfl, ?_⟩) hHeld ?_; rotate_left; (· (intro w9 hSw; (try dsimp only at hSw); go_simp; (try with_reducible rfl))))
          (try simp only [Act.put, List.setIfInBounds_toArray, List.set_cons_zero, List.set_cons_succ])
          (refine wpAnyH_ready (rs := [0]) (by kernel_rfl) (by simp) ?_; refine AllReadyH.cons (o := ⟨some 16, _, _, _, _, none⟩) rfl (fun K hK => ?_) AllReadyH.nil; go_simp; (first | (go_at_call 79; refine useF w (of_any 9223372036854775807 _ (by omega)) (by go_grown) ?_; rintro e w1 rfl hB1 hk1 hf1 hs1; have hz1 := hB1.size) | (go_at_call 92; refine useF w (less_any _ _ _ (by omega)) (by go_grown) ?_; rintro e w1 rfl hB1 hk1 hf1 hs1; have hz1 := hB1.size)); have hOld := hHeld; clear hHeld; refine hK.out _ _ ?_ (fun hHeld => ?_); (· ((try dsimp only); (first | (exact ⟨hk1 _ _ _ (hOld.1), hk1 _ _ _ (hOld.2)⟩) | (go_keep; done) | ((repeat' apply And.intro) <;> (first | assumption | (exact ⟨_, by assumption⟩) | (exact two_0 (by assumption)) | (exact two_1 (by assumption)) | (simp (maxDischargeDepth := 8) [*, go_sem, World.cell?_alloc_some, World.cell?_setCell_far]; done))) | (simp (maxDischargeDepth := 8) [*, go_sem, World.cell?_alloc_some, World.cell?_setCell_far]; done)))); clear hK K hOld; (try clear hc1 hf1); (try clear hk1 hf1))
          (try simp only [Act.put, List.setIfInBounds_toArray, List.set_cons_zero, List.set_cons_succ])
          (refine wpAnyH_ready (rs := [2]) (by kernel_rfl) (by simp) ?_; refine AllReadyH.cons (o := ⟨some 18, _, _, _, _, none⟩) rfl (fun K hK => ?_) AllReadyH.nil; go_simp; (first | (go_at_call 79; refine useF w (of_any 9223372036854775807 _ (by omega)) (by go_grown) ?_; rintro e w1 rfl hB1 hk1 hf1 hs1; have hz1 := hB1.size) | (go_at_call 92; refine useF w (less_any _ _ _ (by omega)) (by go_grown) ?_; rintro e w1 rfl hB1 hk1 hf1 hs1; have hz1 := hB1.size)); have hOld := hHeld; clear hHeld; refine hK.out _ _ ?_ (fun hHeld => ?_); (· ((try dsimp only); (first | (exact ⟨hk1 _ _ _ (hOld.1), hk1 _ _ _ (hOld.2)⟩) | (go_keep; done) | ((repeat' apply And.intro) <;> (first | assumption | (exact ⟨_, by assumption⟩) | (exact two_0 (by assumption)) | (exact two_1 (by assumption)) | (simp (maxDischargeDepth := 8) [*, go_sem, World.cell?_alloc_some, World.cell?_setCell_far]; done))) | (simp (maxDischargeDepth := 8) [*, go_sem, World.cell?_alloc_some, World.cell?_setCell_far]; done)))); clear hK K hOld; (try clear hc1 hf1); (try clear hk1 hf1))
          (try simp only [Act.put, List.setIfInBounds_toArray, List.set_cons_zero, List.set_cons_succ])
          refine wpAnyH_done (by kernel_rfl) ?_ _
          try rw [e1]
          go_wp2_with fail
          all_goals (go_ret2; exact ⟨by rw [hp.out]; rfl, by go_grown⟩)
      ·
        (try dsimp only at hHeld); have g0 := hHeld.1; have g1 := hHeld.2
        have hlt : w.heap.size < w1.heap.size := World.block_lt_of_cell? _ ⟨w.heap.size, 0, none⟩ hHeld.1
        have hne : w.heap.size ≠ w1.heap.size := by omega
        have hne2 := hne.symm
        have q0 : ((w1.drew).alloc (Obj.cells #[.int .i64 0, .int .u64 0] 78)).cell? ⟨w1.heap.size, 0, none⟩ = some (.int .i64 0) := by simp [go_sem]
        have qf0 : ((w1.drew).alloc (Obj.cells #[.int .i64 0, .int .u64 0] 78)).frozen? ⟨w1.heap.size, 0, none⟩ = false := by simp [go_sem]
        have q1 : ((w1.drew).alloc (Obj.cells #[.int .i64 0, .int .u64 0] 78)).cell? ⟨w1.heap.size, 1, none⟩ = some (.int .u64 0) := by simp [go_sem]
        have qf1 : ((w1.drew).alloc (Obj.cells #[.int .i64 0, .int .u64 0] 78)).frozen? ⟨w1.heap.size, 1, none⟩ = false := by simp [go_sem]
        clear hHeld; go_simp; refine hK.out _ _ ?_ (fun hHeld => ?_); (· ((try dsimp only); (first | (exact ⟨hk1 _ _ _ (hOld.1), hk1 _ _ _ (hOld.2)⟩) | (go_keep; done) | ((repeat' apply And.intro) <;> (first | assumption | (exact ⟨_, by assumption⟩) | (exact two_0 (by assumption)) | (exact two_1 (by assumption)) | (simp (maxDischargeDepth := 8) [*, go_sem, World.cell?_alloc_some, World.cell?_setCell_far]; done))) | (simp (maxDischargeDepth := 8) [*, go_sem, World.cell?_alloc_some, World.cell?_setCell_far]; done)))); clear hK K
        (try simp only [Act.put, List.setIfInBounds_toArray, List.set_cons_zero, List.set_cons_succ])
        refine wpAnyH_ready (rs := [2]) (by kernel_rfl) (by simp) ?_
        refine AllReadyH.cons (o := ⟨some 10, _, _, _, _, none⟩) rfl (fun K hK => ?_) (AllReadyH.nil)
        go_simp
        (first | (go_at_call 86; refine useF w (wide_any _ _ (by omega)) (by go_grown) ?_; rintro e w_r_1 rfl hB_1 hk_1 hf_1 hs_1; have hz_1 := hB_1.size) | (go_at_call 96; refine useF w (minus_any _ _) (by go_grown) ?_; rintro e w_r_1 rfl hB_1 hk_1 hf_1 hs_1; have hz_1 := hB_1.size) | (go_at_call 85; refine useF w (plus_any _ _ _) (by go_grown) ?_; rintro e w_r_1 rfl hB_1 hk_1 hf_1 hs_1; have hz_1 := hB_1.size))
        have hOld := hHeld; clear hHeld; refine hK.out _ _ ?_ (fun hHeld => ?_); (· ((try dsimp only); (first | (exact ⟨hk_1 _ _ _ (hOld.1), hk_1 _ _ _ (hOld.2)⟩) | (go_keep; done) | ((repeat' apply And.intro) <;> (first | assumption | (exact ⟨_, by assumption⟩) | (exact two_0 (by assumption)) | (exact two_1 (by assumption)) | (simp (maxDischargeDepth := 8) [*, go_sem, World.cell?_alloc_some, World.cell?_setCell_far]; done))) | (simp (maxDischargeDepth := 8) [*, go_sem, World.cell?_alloc_some, World.cell?_setCell_far]; done)))); clear hK K hOld
        have qf0 := hf_1 _ _ _ q0 qf0
        have qf1 := hf_1 _ _ _ q1 qf1
        have q0 := hk_1 _ _ _ q0
        have q1 := hk_1 _ _ _ q1
        clear hk_1 hf_1
        (try simp only [Act.put, List.setIfInBounds_toArray, List.set_cons_zero, List.set_cons_succ])
        refine wpAnyH_ready (rs := [5]) (by kernel_rfl) (by simp) ?_
        refine AllReadyH.cons (o := ⟨some 13, _, _, _, _, none⟩) rfl (fun K hK => ?_) (AllReadyH.nil)
        go_simp
        (first | (go_at_call 86; refine useF w (wide_any _ _ (by omega)) (by go_grown) ?_; rintro e w_r_2 rfl hB_2 hk_2 hf_2 hs_2; have hz_2 := hB_2.size) | (go_at_call 96; refine useF w (minus_any _ _) (by go_grown) ?_; rintro e w_r_2 rfl hB_2 hk_2 hf_2 hs_2; have hz_2 := hB_2.size) | (go_at_call 85; refine useF w (plus_any _ _ _) (by go_grown) ?_; rintro e w_r_2 rfl hB_2 hk_2 hf_2 hs_2; have hz_2 := hB_2.size))
        have hOld := hHeld; clear hHeld; refine hK.out _ _ ?_ (fun hHeld => ?_); (· ((try dsimp only); (first | (exact ⟨hk_2 _ _ _ (hOld.1), hk_2 _ _ _ (hOld.2)⟩) | (go_keep; done) | ((repeat' apply And.intro) <;> (first | assumption | (exact ⟨_, by assumption⟩) | (exact two_0 (by assumption)) | (exact two_1 (by assumption)) | (simp (maxDischargeDepth := 8) [*, go_sem, World.cell?_alloc_some, World.cell?_setCell_far]; done))) | (simp (maxDischargeDepth := 8) [*, go_sem, World.cell?_alloc_some, World.cell?_setCell_far]; done)))); clear hK K hOld
        have qf0 := hf_2 _ _ _ q0 qf0
        have qf1 := hf_2 _ _ _ q1 qf1
        have q0 := hk_2 _ _ _ q0
        have q1 := hk_2 _ _ _ q1
        clear hk_2 hf_2
        (try simp only [Act.put, List.setIfInBounds_toArray, List.set_cons_zero, List.set_cons_succ])
        refine wpAnyH_ready (rs := [6]) (by kernel_rfl) (by simp) ?_
        refine AllReadyH.cons (o := ⟨some 14, _, _, _, _, none⟩) rfl (fun K hK => ?_) (AllReadyH.nil)
        go_simp
        (first | (go_at_call 86; refine useF w (wide_any _ _ (by omega)) (by go_grown) ?_; rintro e w_r_3 rfl hB_3 hk_3 hf_3 hs_3; have hz_3 := hB_3.size) | (go_at_call 96; refine useF w (minus_any _ _) (by go_grown) ?_; rintro e w_r_3 rfl hB_3 hk_3 hf_3 hs_3; have hz_3 := hB_3.size) | (go_at_call 85; refine useF w (plus_any _ _ _) (by go_grown) ?_; rintro e w_r_3 rfl hB_3 hk_3 hf_3 hs_3; have hz_3 := hB_3.size))
        have hOld := hHeld; clear hHeld; refine hK.out _ _ ?_ (fun hHeld => ?_); (· ((try dsimp only); (first | (exact ⟨hk_3 _ _ _ (hOld.1), hk_3 _ _ _ (hOld.2)⟩) | (go_keep; done) | ((repeat' apply And.intro) <;> (first | assumption | (exact ⟨_, by assumption⟩) | (exact two_0 (by assumption)) | (exact two_1 (by assumption)) | (simp (maxDischargeDepth := 8) [*, go_sem, World.cell?_alloc_some, World.cell?_setCell_far]; done))) | (simp (maxDischargeDepth := 8) [*, go_sem, World.cell?_alloc_some, World.cell?_setCell_far]; done)))); clear hK K hOld
        have qf0 := hf_3 _ _ _ q0 qf0
        have qf1 := hf_3 _ _ _ q1 qf1
        have q0 := hk_3 _ _ _ q0
        have q1 := hk_3 _ _ _ q1
        clear hk_3 hf_3
        (try simp only [Act.put, List.setIfInBounds_toArray, List.set_cons_zero, List.set_cons_succ])
        refine wpAnyH_ready (rs := [7]) (by kernel_rfl) (by simp) ?_
        refine AllReadyH.cons (o := ⟨some 15, _, _, _, _, none⟩) rfl (fun K hK => ?_) (AllReadyH.nil)
        go_simp
        (first | (go_at_call 86; refine useF w (wide_any _ _ (by omega)) (by go_grown) ?_; rintro e w_r_4 rfl hB_4 hk_4 hf_4 hs_4; have hz_4 := hB_4.size) | (go_at_call 96; refine useF w (minus_any _ _) (by go_grown) ?_; rintro e w_r_4 rfl hB_4 hk_4 hf_4 hs_4; have hz_4 := hB_4.size) | (go_at_call 85; refine useF w (plus_any _ _ _) (by go_grown) ?_; rintro e w_r_4 rfl hB_4 hk_4 hf_4 hs_4; have hz_4 := hB_4.size))
        have hOld := hHeld; clear hHeld; refine hK.out _ _ ?_ (fun hHeld => ?_); (· ((try dsimp only); (first | (exact ⟨hk_4 _ _ _ (hOld.1), hk_4 _ _ _ (hOld.2)⟩) | (go_keep; done) | ((repeat' apply And.intro) <;> (first | assumption | (exact ⟨_, by assumption⟩) | (exact two_0 (by assumption)) | (exact two_1 (by assumption)) | (simp (maxDischargeDepth := 8) [*, go_sem, World.cell?_alloc_some, World.cell?_setCell_far]; done))) | (simp (maxDischargeDepth := 8) [*, go_sem, World.cell?_alloc_some, World.cell?_setCell_far]; done)))); clear hK K hOld
        have qf0 := hf_4 _ _ _ q0 qf0
        have qf1 := hf_4 _ _ _ q1 qf1
        have q0 := hk_4 _ _ _ q0
        have q1 := hk_4 _ _ _ q1
        clear hk_4 hf_4
        (try simp only [Act.put, List.setIfInBounds_toArray, List.set_cons_zero, List.set_cons_succ])
        refine wpAnyH_ready (rs := [9]) (by kernel_rfl) (by simp) ?_
        refine AllReadyH.cons (o := ⟨none, _, _, _, _, none⟩) rfl (fun K hK => ?_) (AllReadyH.nil)
        (try dsimp only at hHeld); have g0 := hHeld.1; have g1 := hHeld.2; clear hHeld; go_simp; refine hK.out _ _ ?_ (fun hHeld => ?_); (· ((try dsimp only); (first | (exact ⟨hk1 _ _ _ (hOld.1), hk1 _ _ _ (hOld.2)⟩) | (go_keep; done) | ((repeat' apply And.intro) <;> (first | assumption | (exact ⟨_, by assumption⟩) | (exact two_0 (by assumption)) | (exact two_1 (by assumption)) | (simp (maxDischargeDepth := 8) [*, go_sem, World.cell?_alloc_some, World.cell?_setCell_far]; done))) | (simp (maxDischargeDepth := 8) [*, go_sem, World.cell?_alloc_some, World.cell?_setCell_far]; done)))); clear hK K
        (try simp only [Act.put, List.setIfInBounds_toArray, List.set_cons_zero, List.set_cons_succ])
        refine wpAnyH_done (by kernel_rfl) ?_ _
        go_wp2_with fail
        refine wp_region_held_drew (S := (fun w' => w'.cell? ⟨w1.heap.size, 0, none⟩ = some (.int .i64 (hiW (hi + -lo))) ∧ w'.cell? ⟨w1.heap.size, 1, none⟩ = some (.int .u64 (loW (hi + -lo))))) (by kernel_rfl) (by (try dsimp only); (first | (exact ⟨hk1 _ _ _ (hOld.1), hk1 _ _ _ (hOld.2)⟩) | (go_keep; done) | ((repeat' apply And.intro) <;> (first | assumption | (exact ⟨_, by assumption⟩) | (exact two_0 (by assumption)) | (exact two_1 (by assumption)) | (simp (maxDischargeDepth := 8) [*, go_sem, World.cell?_alloc_some, World.cell?_setCell_far]; done))) | (simp (maxDischargeDepth := 8) [*, go_sem, World.cell?_alloc_some, World.cell?_setCell_far]; done))) (fun hHeld => ?_)
        (refine wpAnyH_take (i := 1) (oi := ⟨some 17, _, _, _, _, none⟩) (v := ?_) rfl (by kernel_rfl) (by kernel_rfl) (by kernel_rfl) (fun _ _ _ h => h) (Or.inl ⟨by rfl, ?_⟩) hHeld ?_; rotate_left; (· (intro w9 hSw; (try dsimp only at hSw); go_simp; (try with_reducible rfl))))
        (try simp only [Act.put, List.setIfInBounds_toArray, List.set_cons_zero, List.set_cons_succ])
        (refine wpAnyH_ready (rs := [0]) (by kernel_rfl) (by simp) ?_; refine AllReadyH.cons (o := ⟨some 16, _, _, _, _, none⟩) rfl (fun K hK => ?_) AllReadyH.nil; go_simp; (first | (go_at_call 79; refine useF w (of_any 9223372036854775807 _ (by omega)) (by go_grown) ?_; rintro e w1 rfl hB1 hk1 hf1 hs1; have hz1 := hB1.size) | (go_at_call 92; refine useF w (less_any _ _ _ (by omega)) (by go_grown) ?_; rintro e w1 rfl hB1 hk1 hf1 hs1; have hz1 := hB1.size)); have hOld := hHeld; clear hHeld; refine hK.out _ _ ?_ (fun hHeld => ?_); (· ((try dsimp only); (first | (exact ⟨hk1 _ _ _ (hOld.1), hk1 _ _ _ (hOld.2)⟩) | (go_keep; done) | ((repeat' apply And.intro) <;> (first | assumption | (exact ⟨_, by assumption⟩) | (exact two_0 (by assumption)) | (exact two_1 (by assumption)) | (simp (maxDischargeDepth := 8) [*, go_sem, World.cell?_alloc_some, World.cell?_setCell_far]; done))) | (simp (maxDischargeDepth := 8) [*, go_sem, World.cell?_alloc_some, World.cell?_setCell_far]; done)))); clear hK K hOld; (try clear hc1 hf1); (try clear hk1 hf1))
        (try simp only [Act.put, List.setIfInBounds_toArray, List.set_cons_zero, List.set_cons_succ])
        (refine wpAnyH_ready (rs := [2]) (by kernel_rfl) (by simp) ?_; refine AllReadyH.cons (o := ⟨some 18, _, _, _, _, none⟩) rfl (fun K hK => ?_) AllReadyH.nil; go_simp; (first | (go_at_call 79; refine useF w (of_any 9223372036854775807 _ (by omega)) (by go_grown) ?_; rintro e w1 rfl hB1 hk1 hf1 hs1; have hz1 := hB1.size) | (go_at_call 92; refine useF w (less_any _ _ _ (by omega)) (by go_grown) ?_; rintro e w1 rfl hB1 hk1 hf1 hs1; have hz1 := hB1.size)); have hOld := hHeld; clear hHeld; refine hK.out _ _ ?_ (fun hHeld => ?_); (· ((try dsimp only); (first | (exact ⟨hk1 _ _ _ (hOld.1), hk1 _ _ _ (hOld.2)⟩) | (go_keep; done) | ((repeat' apply And.intro) <;> (first | assumption | (exact ⟨_, by assumption⟩) | (exact two_0 (by assumption)) | (exact two_1 (by assumption)) | (simp (maxDischargeDepth := 8) [*, go_sem, World.cell?_alloc_some, World.cell?_setCell_far]; done))) | (simp (maxDischargeDepth := 8) [*, go_sem, World.cell?_alloc_some, World.cell?_setCell_far]; done)))); clear hK K hOld; (try clear hc1 hf1); (try clear hk1 hf1))
        (try simp only [Act.put, List.setIfInBounds_toArray, List.set_cons_zero, List.set_cons_succ])
        refine wpAnyH_done (by kernel_rfl) ?_ _
        try rw [e1]
        go_wp2_with fail
        all_goals (go_ret2; exact ⟨by rw [hp.out]; rfl, by go_grown⟩)
    · have hp := hid (show wideN lo hi = (hi + -lo, 0) by unfold wideN; rw [if_pos e, if_pos (by omega), Int.sub_eq_add_neg])
      have e1 := decide_eq_false c
      have g2 : 0 ≤ hi + -lo := by omega
      have g3 : hi + -lo ≤ 9223372036854775807 := by omega
      have g4 := loW_bd (hi + -lo)
      have g5 : IntKind.i64.wrap (loW (hi + -lo)) = hi + -lo := by rw [IntKind.wrap_i64]; unfold loW; omega
      clear c
      go_enter Try.func54, Try.ntmps54
      go_wp2_with (go_at_call 19; refine use w (w.heap.size + 1) (rcheck_any _ _ _ (by omega)) (by go_grown) (by go_size) ?_; rintro e w1 rfl hB1 hc1 hf1 hl1 hs1; have hl10 : w.heap.size < w1.heap.size := hl1 _ (by omega))
      refine wp_region_held_drew (S := (fun w' => w'.cell? ⟨w.heap.size, 0, none⟩ = some (.int .i64 lo) ∧ w'.cell? ⟨w.heap.size, 1, none⟩ = some (.int .i64 hi))) (by kernel_rfl) (by (try dsimp only); (first | (exact ⟨hk1 _ _ _ (hOld.1), hk1 _ _ _ (hOld.2)⟩) | (go_keep; done) | ((repeat' apply And.intro) <;> (first | assumption | (exact ⟨_, by assumption⟩) | (exact two_0 (by assumption)) | (exact two_1 (by assumption)) | (simp (maxDischargeDepth := 8) [*, go_sem, World.cell?_alloc_some, World.cell?_setCell_far]; done))) | (simp (maxDischargeDepth := 8) [*, go_sem, World.cell?_alloc_some, World.cell?_setCell_far]; done))) (fun hHeld => ?_)
      (refine wpAnyH_take (i := 0) (oi := ⟨some 8, _, _, _, _, none⟩) (v := ?_) rfl (by kernel_rfl) (by kernel_rfl) (by kernel_rfl) (fun _ _ _ h => h) (Or.inl ⟨by rfl, ?_⟩) hHeld ?_; rotate_left; (· (intro w9 hSw; (try dsimp only at hSw); go_simp; (try with_reducible rfl))))
      (try simp only [Act.put, List.setIfInBounds_toArray, List.set_cons_zero, List.set_cons_succ])
      (refine wpAnyH_take (i := 1) (oi := ⟨some 9, _, _, _, _, none⟩) (v := ?_) rfl (by kernel_rfl) (by kernel_rfl) (by kernel_rfl) (fun _ _ _ h => h) (Or.inl ⟨by rfl, ?_⟩) hHeld ?_; rotate_left; (· (intro w9 hSw; (try dsimp only at hSw); go_simp; (try with_reducible rfl))))
      (try simp only [Act.put, List.setIfInBounds_toArray, List.set_cons_zero, List.set_cons_succ])
      (refine wpAnyH_take (i := 3) (oi := ⟨some 11, _, _, _, _, none⟩) (v := ?_) rfl (by kernel_rfl) (by kernel_rfl) (by kernel_rfl) (fun _ _ _ h => h) (Or.inl ⟨by rfl, ?_⟩) hHeld ?_; rotate_left; (· (intro w9 hSw; (try dsimp only at hSw); go_simp; (try with_reducible rfl))))
      (try simp only [Act.put, List.setIfInBounds_toArray, List.set_cons_zero, List.set_cons_succ])
      (refine wpAnyH_take (i := 4) (oi := ⟨some 12, _, _, _, _, none⟩) (v := ?_) rfl (by kernel_rfl) (by kernel_rfl) (by kernel_rfl) (fun _ _ _ h => h) (Or.inl ⟨by rfl, ?_⟩) hHeld ?_; rotate_left; (· (intro w9 hSw; (try dsimp only at hSw); go_simp; (try with_reducible rfl))))
      (try simp only [Act.put, List.setIfInBounds_toArray, List.set_cons_zero, List.set_cons_succ])
      refine wpAnyH_ready (rs := [2, 8]) (by kernel_rfl) (by simp) ?_
      refine AllReadyH.cons (o := ⟨some 10, _, _, _, _, none⟩) rfl (fun K hK => ?_) (AllReadyH.cons (o := ⟨some 4, _, _, _, _, none⟩) rfl (fun K hK => ?_) (AllReadyH.nil))
      ·
        go_simp
        (first | (go_at_call 86; refine useF w (wide_any _ _ (by omega)) (by go_grown) ?_; rintro e w_r_1 rfl hB_1 hk_1 hf_1 hs_1; have hz_1 := hB_1.size) | (go_at_call 96; refine useF w (minus_any _ _) (by go_grown) ?_; rintro e w_r_1 rfl hB_1 hk_1 hf_1 hs_1; have hz_1 := hB_1.size) | (go_at_call 85; refine useF w (plus_any _ _ _) (by go_grown) ?_; rintro e w_r_1 rfl hB_1 hk_1 hf_1 hs_1; have hz_1 := hB_1.size))
        have hOld := hHeld; clear hHeld; refine hK.out _ _ ?_ (fun hHeld => ?_); (· ((try dsimp only); (first | (exact ⟨hk_1 _ _ _ (hOld.1), hk_1 _ _ _ (hOld.2)⟩) | (go_keep; done) | ((repeat' apply And.intro) <;> (first | assumption | (exact ⟨_, by assumption⟩) | (exact two_0 (by assumption)) | (exact two_1 (by assumption)) | (simp (maxDischargeDepth := 8) [*, go_sem, World.cell?_alloc_some, World.cell?_setCell_far]; done))) | (simp (maxDischargeDepth := 8) [*, go_sem, World.cell?_alloc_some, World.cell?_setCell_far]; done)))); clear hK K hOld
        clear hk_1 hf_1
        (try simp only [Act.put, List.setIfInBounds_toArray, List.set_cons_zero, List.set_cons_succ])
        refine wpAnyH_ready (rs := [5, 8]) (by kernel_rfl) (by simp) ?_
        refine AllReadyH.cons (o := ⟨some 13, _, _, _, _, none⟩) rfl (fun K hK => ?_) (AllReadyH.cons (o := ⟨some 4, _, _, _, _, none⟩) rfl (fun K hK => ?_) (AllReadyH.nil))
        ·
          go_simp
          (first | (go_at_call 86; refine useF w (wide_any _ _ (by omega)) (by go_grown) ?_; rintro e w_r_2 rfl hB_2 hk_2 hf_2 hs_2; have hz_2 := hB_2.size) | (go_at_call 96; refine useF w (minus_any _ _) (by go_grown) ?_; rintro e w_r_2 rfl hB_2 hk_2 hf_2 hs_2; have hz_2 := hB_2.size) | (go_at_call 85; refine useF w (plus_any _ _ _) (by go_grown) ?_; rintro e w_r_2 rfl hB_2 hk_2 hf_2 hs_2; have hz_2 := hB_2.size))
          have hOld := hHeld; clear hHeld; refine hK.out _ _ ?_ (fun hHeld => ?_); (· ((try dsimp only); (first | (exact ⟨hk_2 _ _ _ (hOld.1), hk_2 _ _ _ (hOld.2)⟩) | (go_keep; done) | ((repeat' apply And.intro) <;> (first | assumption | (exact ⟨_, by assumption⟩) | (exact two_0 (by assumption)) | (exact two_1 (by assumption)) | (simp (maxDischargeDepth := 8) [*, go_sem, World.cell?_alloc_some, World.cell?_setCell_far]; done))) | (simp (maxDischargeDepth := 8) [*, go_sem, World.cell?_alloc_some, World.cell?_setCell_far]; done)))); clear hK K hOld
          clear hk_2 hf_2
          (try simp only [Act.put, List.setIfInBounds_toArray, List.set_cons_zero, List.set_cons_succ])
          refine wpAnyH_ready (rs := [6, 8]) (by kernel_rfl) (by simp) ?_
          refine AllReadyH.cons (o := ⟨some 14, _, _, _, _, none⟩) rfl (fun K hK => ?_) (AllReadyH.cons (o := ⟨some 4, _, _, _, _, none⟩) rfl (fun K hK => ?_) (AllReadyH.nil))
          ·
            go_simp
            (first | (go_at_call 86; refine useF w (wide_any _ _ (by omega)) (by go_grown) ?_; rintro e w_r_3 rfl hB_3 hk_3 hf_3 hs_3; have hz_3 := hB_3.size) | (go_at_call 96; refine useF w (minus_any _ _) (by go_grown) ?_; rintro e w_r_3 rfl hB_3 hk_3 hf_3 hs_3; have hz_3 := hB_3.size) | (go_at_call 85; refine useF w (plus_any _ _ _) (by go_grown) ?_; rintro e w_r_3 rfl hB_3 hk_3 hf_3 hs_3; have hz_3 := hB_3.size))
            have hOld := hHeld; clear hHeld; refine hK.out _ _ ?_ (fun hHeld => ?_); (· ((try dsimp only); (first | (exact ⟨hk_3 _ _ _ (hOld.1), hk_3 _ _ _ (hOld.2)⟩) | (go_keep; done) | ((repeat' apply And.intro) <;> (first | assumption | (exact ⟨_, by assumption⟩) | (exact two_0 (by assumption)) | (exact two_1 (by assumption)) | (simp (maxDischargeDepth := 8) [*, go_sem, World.cell?_alloc_some, World.cell?_setCell_far]; done))) | (simp (maxDischargeDepth := 8) [*, go_sem, World.cell?_alloc_some, World.cell?_setCell_far]; done)))); clear hK K hOld
            clear hk_3 hf_3
            (try simp only [Act.put, List.setIfInBounds_toArray, List.set_cons_zero, List.set_cons_succ])
            refine wpAnyH_ready (rs := [7, 8]) (by kernel_rfl) (by simp) ?_
            refine AllReadyH.cons (o := ⟨some 15, _, _, _, _, none⟩) rfl (fun K hK => ?_) (AllReadyH.cons (o := ⟨some 4, _, _, _, _, none⟩) rfl (fun K hK => ?_) (AllReadyH.nil))
            ·
              go_simp
              (first | (go_at_call 86; refine useF w (wide_any _ _ (by omega)) (by go_grown) ?_; rintro e w_r_4 rfl hB_4 hk_4 hf_4 hs_4; have hz_4 := hB_4.size) | (go_at_call 96; refine useF w (minus_any _ _) (by go_grown) ?_; rintro e w_r_4 rfl hB_4 hk_4 hf_4 hs_4; have hz_4 := hB_4.size) | (go_at_call 85; refine useF w (plus_any _ _ _) (by go_grown) ?_; rintro e w_r_4 rfl hB_4 hk_4 hf_4 hs_4; have hz_4 := hB_4.size))
              have hOld := hHeld; clear hHeld; refine hK.out _ _ ?_ (fun hHeld => ?_); (· ((try dsimp only); (first | (exact ⟨hk_4 _ _ _ (hOld.1), hk_4 _ _ _ (hOld.2)⟩) | (go_keep; done) | ((repeat' apply And.intro) <;> (first | assumption | (exact ⟨_, by assumption⟩) | (exact two_0 (by assumption)) | (exact two_1 (by assumption)) | (simp (maxDischargeDepth := 8) [*, go_sem, World.cell?_alloc_some, World.cell?_setCell_far]; done))) | (simp (maxDischargeDepth := 8) [*, go_sem, World.cell?_alloc_some, World.cell?_setCell_far]; done)))); clear hK K hOld
              clear hk_4 hf_4
              (try simp only [Act.put, List.setIfInBounds_toArray, List.set_cons_zero, List.set_cons_succ])
              refine wpAnyH_ready (rs := [8]) (by kernel_rfl) (by simp) ?_
              refine AllReadyH.cons (o := ⟨some 4, _, _, _, _, none⟩) rfl (fun K hK => ?_) (AllReadyH.nil)
              (try dsimp only at hHeld); have g0 := hHeld.1; have g1 := hHeld.2
              have hlt : w.heap.size < w_r_4.heap.size := World.block_lt_of_cell? _ ⟨w.heap.size, 0, none⟩ hHeld.1
              have hne : w.heap.size ≠ w_r_4.heap.size := by omega
              have hne2 := hne.symm
              have q0 : ((w_r_4).alloc (Obj.cells #[.int .i64 0, .int .u64 0] 78)).cell? ⟨w_r_4.heap.size, 0, none⟩ = some (.int .i64 0) := by simp [go_sem]
              have qf0 : ((w_r_4).alloc (Obj.cells #[.int .i64 0, .int .u64 0] 78)).frozen? ⟨w_r_4.heap.size, 0, none⟩ = false := by simp [go_sem]
              have q1 : ((w_r_4).alloc (Obj.cells #[.int .i64 0, .int .u64 0] 78)).cell? ⟨w_r_4.heap.size, 1, none⟩ = some (.int .u64 0) := by simp [go_sem]
              have qf1 : ((w_r_4).alloc (Obj.cells #[.int .i64 0, .int .u64 0] 78)).frozen? ⟨w_r_4.heap.size, 1, none⟩ = false := by simp [go_sem]
              clear hHeld; go_simp; refine hK.out _ _ ?_ (fun hHeld => ?_); (· ((try dsimp only); (first | (exact ⟨hk1 _ _ _ (hOld.1), hk1 _ _ _ (hOld.2)⟩) | (go_keep; done) | ((repeat' apply And.intro) <;> (first | assumption | (exact ⟨_, by assumption⟩) | (exact two_0 (by assumption)) | (exact two_1 (by assumption)) | (simp (maxDischargeDepth := 8) [*, go_sem, World.cell?_alloc_some, World.cell?_setCell_far]; done))) | (simp (maxDischargeDepth := 8) [*, go_sem, World.cell?_alloc_some, World.cell?_setCell_far]; done)))); clear hK K
              (try simp only [Act.put, List.setIfInBounds_toArray, List.set_cons_zero, List.set_cons_succ])
              refine wpAnyH_ready (rs := [9]) (by kernel_rfl) (by simp) ?_
              refine AllReadyH.cons (o := ⟨none, _, _, _, _, none⟩) rfl (fun K hK => ?_) (AllReadyH.nil)
              (try dsimp only at hHeld); have g0 := hHeld.1; have g1 := hHeld.2; clear hHeld; go_simp; refine hK.out _ _ ?_ (fun hHeld => ?_); (· ((try dsimp only); (first | (exact ⟨hk1 _ _ _ (hOld.1), hk1 _ _ _ (hOld.2)⟩) | (go_keep; done) | ((repeat' apply And.intro) <;> (first | assumption | (exact ⟨_, by assumption⟩) | (exact two_0 (by assumption)) | (exact two_1 (by assumption)) | (simp (maxDischargeDepth := 8) [*, go_sem, World.cell?_alloc_some, World.cell?_setCell_far]; done))) | (simp (maxDischargeDepth := 8) [*, go_sem, World.cell?_alloc_some, World.cell?_setCell_far]; done)))); clear hK K
              (try simp only [Act.put, List.setIfInBounds_toArray, List.set_cons_zero, List.set_cons_succ])
              refine wpAnyH_done (by kernel_rfl) ?_ _
              go_wp2_with fail
              refine wp_region_held_drew (S := (fun w' => w'.cell? ⟨w_r_4.heap.size, 0, none⟩ = some (.int .i64 (hiW (hi + -lo))) ∧ w'.cell? ⟨w_r_4.heap.size, 1, none⟩ = some (.int .u64 (loW (hi + -lo))))) (by kernel_rfl) (by (try dsimp only); (first | (exact ⟨hk1 _ _ _ (hOld.1), hk1 _ _ _ (hOld.2)⟩) | (go_keep; done) | ((repeat' apply And.intro) <;> (first | assumption | (exact ⟨_, by assumption⟩) | (exact two_0 (by assumption)) | (exact two_1 (by assumption)) | (simp (maxDischargeDepth := 8) [*, go_sem, World.cell?_alloc_some, World.cell?_setCell_far]; done))) | (simp (maxDischargeDepth := 8) [*, go_sem, World.cell?_alloc_some, World.cell?_setCell_far]; done))) (fun hHeld => ?_)
              (refine wpAnyH_take (i := 1) (oi := ⟨some 17, _, _, _, _, none⟩) (v := ?_) rfl (by kernel_rfl) (by kernel_rfl) (by kernel_rfl) (fun _ _ _ h => h) (Or.inl ⟨by rfl, ?_⟩) hHeld ?_; rotate_left; (· (intro w9 hSw; (try dsimp only at hSw); go_simp; (try with_reducible rfl))))
              (try simp only [Act.put, List.setIfInBounds_toArray, List.set_cons_zero, List.set_cons_succ])
              (refine wpAnyH_ready (rs := [0]) (by kernel_rfl) (by simp) ?_; refine AllReadyH.cons (o := ⟨some 16, _, _, _, _, none⟩) rfl (fun K hK => ?_) AllReadyH.nil; go_simp; (first | (go_at_call 79; refine useF w (of_any 9223372036854775807 _ (by omega)) (by go_grown) ?_; rintro e w1 rfl hB1 hk1 hf1 hs1; have hz1 := hB1.size) | (go_at_call 92; refine useF w (less_any _ _ _ (by omega)) (by go_grown) ?_; rintro e w1 rfl hB1 hk1 hf1 hs1; have hz1 := hB1.size)); have hOld := hHeld; clear hHeld; refine hK.out _ _ ?_ (fun hHeld => ?_); (· ((try dsimp only); (first | (exact ⟨hk1 _ _ _ (hOld.1), hk1 _ _ _ (hOld.2)⟩) | (go_keep; done) | ((repeat' apply And.intro) <;> (first | assumption | (exact ⟨_, by assumption⟩) | (exact two_0 (by assumption)) | (exact two_1 (by assumption)) | (simp (maxDischargeDepth := 8) [*, go_sem, World.cell?_alloc_some, World.cell?_setCell_far]; done))) | (simp (maxDischargeDepth := 8) [*, go_sem, World.cell?_alloc_some, World.cell?_setCell_far]; done)))); clear hK K hOld; (try clear hc1 hf1); (try clear hk1 hf1))
              (try simp only [Act.put, List.setIfInBounds_toArray, List.set_cons_zero, List.set_cons_succ])
              (refine wpAnyH_ready (rs := [2]) (by kernel_rfl) (by simp) ?_; refine AllReadyH.cons (o := ⟨some 18, _, _, _, _, none⟩) rfl (fun K hK => ?_) AllReadyH.nil; go_simp; (first | (go_at_call 79; refine useF w (of_any 9223372036854775807 _ (by omega)) (by go_grown) ?_; rintro e w1 rfl hB1 hk1 hf1 hs1; have hz1 := hB1.size) | (go_at_call 92; refine useF w (less_any _ _ _ (by omega)) (by go_grown) ?_; rintro e w1 rfl hB1 hk1 hf1 hs1; have hz1 := hB1.size)); have hOld := hHeld; clear hHeld; refine hK.out _ _ ?_ (fun hHeld => ?_); (· ((try dsimp only); (first | (exact ⟨hk1 _ _ _ (hOld.1), hk1 _ _ _ (hOld.2)⟩) | (go_keep; done) | ((repeat' apply And.intro) <;> (first | assumption | (exact ⟨_, by assumption⟩) | (exact two_0 (by assumption)) | (exact two_1 (by assumption)) | (simp (maxDischargeDepth := 8) [*, go_sem, World.cell?_alloc_some, World.cell?_setCell_far]; done))) | (simp (maxDischargeDepth := 8) [*, go_sem, World.cell?_alloc_some, World.cell?_setCell_far]; done)))); clear hK K hOld; (try clear hc1 hf1); (try clear hk1 hf1))
              (try simp only [Act.put, List.setIfInBounds_toArray, List.set_cons_zero, List.set_cons_succ])
              refine wpAnyH_done (by kernel_rfl) ?_ _
              try rw [e1]
              go_wp2_with fail
              all_goals (go_ret2; exact ⟨by rw [hp.out]; rfl, by go_grown⟩)
            ·
              (try dsimp only at hHeld); have g0 := hHeld.1; have g1 := hHeld.2
              have hlt : w.heap.size < w_r_3.heap.size := World.block_lt_of_cell? _ ⟨w.heap.size, 0, none⟩ hHeld.1
              have hne : w.heap.size ≠ w_r_3.heap.size := by omega
              have hne2 := hne.symm
              have q0 : ((w_r_3).alloc (Obj.cells #[.int .i64 0, .int .u64 0] 78)).cell? ⟨w_r_3.heap.size, 0, none⟩ = some (.int .i64 0) := by simp [go_sem]
              have qf0 : ((w_r_3).alloc (Obj.cells #[.int .i64 0, .int .u64 0] 78)).frozen? ⟨w_r_3.heap.size, 0, none⟩ = false := by simp [go_sem]
              have q1 : ((w_r_3).alloc (Obj.cells #[.int .i64 0, .int .u64 0] 78)).cell? ⟨w_r_3.heap.size, 1, none⟩ = some (.int .u64 0) := by simp [go_sem]
              have qf1 : ((w_r_3).alloc (Obj.cells #[.int .i64 0, .int .u64 0] 78)).frozen? ⟨w_r_3.heap.size, 1, none⟩ = false := by simp [go_sem]
              clear hHeld; go_simp; refine hK.out _ _ ?_ (fun hHeld => ?_); (· ((try dsimp only); (first | (exact ⟨hk1 _ _ _ (hOld.1), hk1 _ _ _ (hOld.2)⟩) | (go_keep; done) | ((repeat' apply And.intro) <;> (first | assumption | (exact ⟨_, by assumption⟩) | (exact two_0 (by assumption)) | (exact two_1 (by assumption)) | (simp (maxDischargeDepth := 8) [*, go_sem, World.cell?_alloc_some, World.cell?_setCell_far]; done))) | (simp (maxDischargeDepth := 8) [*, go_sem, World.cell?_alloc_some, World.cell?_setCell_far]; done)))); clear hK K
              (try simp only [Act.put, List.setIfInBounds_toArray, List.set_cons_zero, List.set_cons_succ])
              refine wpAnyH_ready (rs := [7]) (by kernel_rfl) (by simp) ?_
              refine AllReadyH.cons (o := ⟨some 15, _, _, _, _, none⟩) rfl (fun K hK => ?_) (AllReadyH.nil)
              go_simp
              (first | (go_at_call 86; refine useF w (wide_any _ _ (by omega)) (by go_grown) ?_; rintro e w_r_4 rfl hB_4 hk_4 hf_4 hs_4; have hz_4 := hB_4.size) | (go_at_call 96; refine useF w (minus_any _ _) (by go_grown) ?_; rintro e w_r_4 rfl hB_4 hk_4 hf_4 hs_4; have hz_4 := hB_4.size) | (go_at_call 85; refine useF w (plus_any _ _ _) (by go_grown) ?_; rintro e w_r_4 rfl hB_4 hk_4 hf_4 hs_4; have hz_4 := hB_4.size))
              have hOld := hHeld; clear hHeld; refine hK.out _ _ ?_ (fun hHeld => ?_); (· ((try dsimp only); (first | (exact ⟨hk_4 _ _ _ (hOld.1), hk_4 _ _ _ (hOld.2)⟩) | (go_keep; done) | ((repeat' apply And.intro) <;> (first | assumption | (exact ⟨_, by assumption⟩) | (exact two_0 (by assumption)) | (exact two_1 (by assumption)) | (simp (maxDischargeDepth := 8) [*, go_sem, World.cell?_alloc_some, World.cell?_setCell_far]; done))) | (simp (maxDischargeDepth := 8) [*, go_sem, World.cell?_alloc_some, World.cell?_setCell_far]; done)))); clear hK K hOld
              have qf0 := hf_4 _ _ _ q0 qf0
              have qf1 := hf_4 _ _ _ q1 qf1
              have q0 := hk_4 _ _ _ q0
              have q1 := hk_4 _ _ _ q1
              clear hk_4 hf_4
              (try simp only [Act.put, List.setIfInBounds_toArray, List.set_cons_zero, List.set_cons_succ])
              refine wpAnyH_ready (rs := [9]) (by kernel_rfl) (by simp) ?_
              refine AllReadyH.cons (o := ⟨none, _, _, _, _, none⟩) rfl (fun K hK => ?_) (AllReadyH.nil)
              (try dsimp only at hHeld); have g0 := hHeld.1; have g1 := hHeld.2; clear hHeld; go_simp; refine hK.out _ _ ?_ (fun hHeld => ?_); (· ((try dsimp only); (first | (exact ⟨hk1 _ _ _ (hOld.1), hk1 _ _ _ (hOld.2)⟩) | (go_keep; done) | ((repeat' apply And.intro) <;> (first | assumption | (exact ⟨_, by assumption⟩) | (exact two_0 (by assumption)) | (exact two_1 (by assumption)) | (simp (maxDischargeDepth := 8) [*, go_sem, World.cell?_alloc_some, World.cell?_setCell_far]; done))) | (simp (maxDischargeDepth := 8) [*, go_sem, World.cell?_alloc_some, World.cell?_setCell_far]; done)))); clear hK K
              (try simp only [Act.put, List.setIfInBounds_toArray, List.set_cons_zero, List.set_cons_succ])
              refine wpAnyH_done (by kernel_rfl) ?_ _
              go_wp2_with fail
              refine wp_region_held_drew (S := (fun w' => w'.cell? ⟨w_r_3.heap.size, 0, none⟩ = some (.int .i64 (hiW (hi + -lo))) ∧ w'.cell? ⟨w_r_3.heap.size, 1, none⟩ = some (.int .u64 (loW (hi + -lo))))) (by kernel_rfl) (by (try dsimp only); (first | (exact ⟨hk1 _ _ _ (hOld.1), hk1 _ _ _ (hOld.2)⟩) | (go_keep; done) | ((repeat' apply And.intro) <;> (first | assumption | (exact ⟨_, by assumption⟩) | (exact two_0 (by assumption)) | (exact two_1 (by assumption)) | (simp (maxDischargeDepth := 8) [*, go_sem, World.cell?_alloc_some, World.cell?_setCell_far]; done))) | (simp (maxDischargeDepth := 8) [*, go_sem, World.cell?_alloc_some, World.cell?_setCell_far]; done))) (fun hHeld => ?_)
              (refine wpAnyH_take (i := 1) (oi := ⟨some 17, _, _, _, _, none⟩) (v := ?_) rfl (by kernel_rfl) (by kernel_rfl) (by kernel_rfl) (fun _ _ _ h => h) (Or.inl ⟨by rfl, ?_⟩) hHeld ?_; rotate_left; (· (intro w9 hSw; (try dsimp only at hSw); go_simp; (try with_reducible rfl))))
              (try simp only [Act.put, List.setIfInBounds_toArray, List.set_cons_zero, List.set_cons_succ])
              (refine wpAnyH_ready (rs := [0]) (by kernel_rfl) (by simp) ?_; refine AllReadyH.cons (o := ⟨some 16, _, _, _, _, none⟩) rfl (fun K hK => ?_) AllReadyH.nil; go_simp; (first | (go_at_call 79; refine useF w (of_any 9223372036854775807 _ (by omega)) (by go_grown) ?_; rintro e w1 rfl hB1 hk1 hf1 hs1; have hz1 := hB1.size) | (go_at_call 92; refine useF w (less_any _ _ _ (by omega)) (by go_grown) ?_; rintro e w1 rfl hB1 hk1 hf1 hs1; have hz1 := hB1.size)); have hOld := hHeld; clear hHeld; refine hK.out _ _ ?_ (fun hHeld => ?_); (· ((try dsimp only); (first | (exact ⟨hk1 _ _ _ (hOld.1), hk1 _ _ _ (hOld.2)⟩) | (go_keep; done) | ((repeat' apply And.intro) <;> (first | assumption | (exact ⟨_, by assumption⟩) | (exact two_0 (by assumption)) | (exact two_1 (by assumption)) | (simp (maxDischargeDepth := 8) [*, go_sem, World.cell?_alloc_some, World.cell?_setCell_far]; done))) | (simp (maxDischargeDepth := 8) [*, go_sem, World.cell?_alloc_some, World.cell?_setCell_far]; done)))); clear hK K hOld; (try clear hc1 hf1); (try clear hk1 hf1))
              (try simp only [Act.put, List.setIfInBounds_toArray, List.set_cons_zero, List.set_cons_succ])
              (refine wpAnyH_ready (rs := [2]) (by kernel_rfl) (by simp) ?_; refine AllReadyH.cons (o := ⟨some 18, _, _, _, _, none⟩) rfl (fun K hK => ?_) AllReadyH.nil; go_simp; (first | (go_at_call 79; refine useF w (of_any 9223372036854775807 _ (by omega)) (by go_grown) ?_; rintro e w1 rfl hB1 hk1 hf1 hs1; have hz1 := hB1.size) | (go_at_call 92; refine useF w (less_any _ _ _ (by omega)) (by go_grown) ?_; rintro e w1 rfl hB1 hk1 hf1 hs1; have hz1 := hB1.size)); have hOld := hHeld; clear hHeld; refine hK.out _ _ ?_ (fun hHeld => ?_); (· ((try dsimp only); (first | (exact ⟨hk1 _ _ _ (hOld.1), hk1 _ _ _ (hOld.2)⟩) | (go_keep; done) | ((repeat' apply And.intro) <;> (first | assumption | (exact ⟨_, by assumption⟩) | (exact two_0 (by assumption)) | (exact two_1 (by assumption)) | (simp (maxDischargeDepth := 8) [*, go_sem, World.cell?_alloc_some, World.cell?_setCell_far]; done))) | (simp (maxDischargeDepth := 8) [*, go_sem, World.cell?_alloc_some, World.cell?_setCell_far]; done)))); clear hK K hOld; (try clear hc1 hf1); (try clear hk1 hf1))
              (try simp only [Act.put, List.setIfInBounds_toArray, List.set_cons_zero, List.set_cons_succ])
              refine wpAnyH_done (by kernel_rfl) ?_ _
              try rw [e1]
              go_wp2_with fail
              all_goals (go_ret2; exact ⟨by rw [hp.out]; rfl, by go_grown⟩)
          ·
            (try dsimp only at hHeld); have g0 := hHeld.1; have g1 := hHeld.2
            have hlt : w.heap.size < w_r_2.heap.size := World.block_lt_of_cell? _ ⟨w.heap.size, 0, none⟩ hHeld.1
            have hne : w.heap.size ≠ w_r_2.heap.size := by omega
            have hne2 := hne.symm
            have q0 : ((w_r_2).alloc (Obj.cells #[.int .i64 0, .int .u64 0] 78)).cell? ⟨w_r_2.heap.size, 0, none⟩ = some (.int .i64 0) := by simp [go_sem]
            have qf0 : ((w_r_2).alloc (Obj.cells #[.int .i64 0, .int .u64 0] 78)).frozen? ⟨w_r_2.heap.size, 0, none⟩ = false := by simp [go_sem]
            have q1 : ((w_r_2).alloc (Obj.cells #[.int .i64 0, .int .u64 0] 78)).cell? ⟨w_r_2.heap.size, 1, none⟩ = some (.int .u64 0) := by simp [go_sem]
            have qf1 : ((w_r_2).alloc (Obj.cells #[.int .i64 0, .int .u64 0] 78)).frozen? ⟨w_r_2.heap.size, 1, none⟩ = false := by simp [go_sem]
            clear hHeld; go_simp; refine hK.out _ _ ?_ (fun hHeld => ?_); (· ((try dsimp only); (first | (exact ⟨hk1 _ _ _ (hOld.1), hk1 _ _ _ (hOld.2)⟩) | (go_keep; done) | ((repeat' apply And.intro) <;> (first | assumption | (exact ⟨_, by assumption⟩) | (exact two_0 (by assumption)) | (exact two_1 (by assumption)) | (simp (maxDischargeDepth := 8) [*, go_sem, World.cell?_alloc_some, World.cell?_setCell_far]; done))) | (simp (maxDischargeDepth := 8) [*, go_sem, World.cell?_alloc_some, World.cell?_setCell_far]; done)))); clear hK K
            (try simp only [Act.put, List.setIfInBounds_toArray, List.set_cons_zero, List.set_cons_succ])
            refine wpAnyH_ready (rs := [6]) (by kernel_rfl) (by simp) ?_
            refine AllReadyH.cons (o := ⟨some 14, _, _, _, _, none⟩) rfl (fun K hK => ?_) (AllReadyH.nil)
            go_simp
            (first | (go_at_call 86; refine useF w (wide_any _ _ (by omega)) (by go_grown) ?_; rintro e w_r_3 rfl hB_3 hk_3 hf_3 hs_3; have hz_3 := hB_3.size) | (go_at_call 96; refine useF w (minus_any _ _) (by go_grown) ?_; rintro e w_r_3 rfl hB_3 hk_3 hf_3 hs_3; have hz_3 := hB_3.size) | (go_at_call 85; refine useF w (plus_any _ _ _) (by go_grown) ?_; rintro e w_r_3 rfl hB_3 hk_3 hf_3 hs_3; have hz_3 := hB_3.size))
            have hOld := hHeld; clear hHeld; refine hK.out _ _ ?_ (fun hHeld => ?_); (· ((try dsimp only); (first | (exact ⟨hk_3 _ _ _ (hOld.1), hk_3 _ _ _ (hOld.2)⟩) | (go_keep; done) | ((repeat' apply And.intro) <;> (first | assumption | (exact ⟨_, by assumption⟩) | (exact two_0 (by assumption)) | (exact two_1 (by assumption)) | (simp (maxDischargeDepth := 8) [*, go_sem, World.cell?_alloc_some, World.cell?_setCell_far]; done))) | (simp (maxDischargeDepth := 8) [*, go_sem, World.cell?_alloc_some, World.cell?_setCell_far]; done)))); clear hK K hOld
            have qf0 := hf_3 _ _ _ q0 qf0
            have qf1 := hf_3 _ _ _ q1 qf1
            have q0 := hk_3 _ _ _ q0
            have q1 := hk_3 _ _ _ q1
            clear hk_3 hf_3
            (try simp only [Act.put, List.setIfInBounds_toArray, List.set_cons_zero, List.set_cons_succ])
            refine wpAnyH_ready (rs := [7]) (by kernel_rfl) (by simp) ?_
            refine AllReadyH.cons (o := ⟨some 15, _, _, _, _, none⟩) rfl (fun K hK => ?_) (AllReadyH.nil)
            go_simp
            (first | (go_at_call 86; refine useF w (wide_any _ _ (by omega)) (by go_grown) ?_; rintro e w_r_4 rfl hB_4 hk_4 hf_4 hs_4; have hz_4 := hB_4.size) | (go_at_call 96; refine useF w (minus_any _ _) (by go_grown) ?_; rintro e w_r_4 rfl hB_4 hk_4 hf_4 hs_4; have hz_4 := hB_4.size) | (go_at_call 85; refine useF w (plus_any _ _ _) (by go_grown) ?_; rintro e w_r_4 rfl hB_4 hk_4 hf_4 hs_4; have hz_4 := hB_4.size))
            have hOld := hHeld; clear hHeld; refine hK.out _ _ ?_ (fun hHeld => ?_); (· ((try dsimp only); (first | (exact ⟨hk_4 _ _ _ (hOld.1), hk_4 _ _ _ (hOld.2)⟩) | (go_keep; done) | ((repeat' apply And.intro) <;> (first | assumption | (exact ⟨_, by assumption⟩) | (exact two_0 (by assumption)) | (exact two_1 (by assumption)) | (simp (maxDischargeDepth := 8) [*, go_sem, World.cell?_alloc_some, World.cell?_setCell_far]; done))) | (simp (maxDischargeDepth := 8) [*, go_sem, World.cell?_alloc_some, World.cell?_setCell_far]; done)))); clear hK K hOld
            have qf0 := hf_4 _ _ _ q0 qf0
            have qf1 := hf_4 _ _ _ q1 qf1
            have q0 := hk_4 _ _ _ q0
            have q1 := hk_4 _ _ _ q1
            clear hk_4 hf_4
            (try simp only [Act.put, List.setIfInBounds_toArray, List.set_cons_zero, List.set_cons_succ])
            refine wpAnyH_ready (rs := [9]) (by kernel_rfl) (by simp) ?_
            refine AllReadyH.cons (o := ⟨none, _, _, _, _, none⟩) rfl (fun K hK => ?_) (AllReadyH.nil)
            (try dsimp only at hHeld); have g0 := hHeld.1; have g1 := hHeld.2; clear hHeld; go_simp; refine hK.out _ _ ?_ (fun hHeld => ?_); (· ((try dsimp only); (first | (exact ⟨hk1 _ _ _ (hOld.1), hk1 _ _ _ (hOld.2)⟩) | (go_keep; done) | ((repeat' apply And.intro) <;> (first | assumption | (exact ⟨_, by assumption⟩) | (exact two_0 (by assumption)) | (exact two_1 (by assumption)) | (simp (maxDischargeDepth := 8) [*, go_sem, World.cell?_alloc_some, World.cell?_setCell_far]; done))) | (simp (maxDischargeDepth := 8) [*, go_sem, World.cell?_alloc_some, World.cell?_setCell_far]; done)))); clear hK K
            (try simp only [Act.put, List.setIfInBounds_toArray, List.set_cons_zero, List.set_cons_succ])
            refine wpAnyH_done (by kernel_rfl) ?_ _
            go_wp2_with fail
            refine wp_region_held_drew (S := (fun w' => w'.cell? ⟨w_r_2.heap.size, 0, none⟩ = some (.int .i64 (hiW (hi + -lo))) ∧ w'.cell? ⟨w_r_2.heap.size, 1, none⟩ = some (.int .u64 (loW (hi + -lo))))) (by kernel_rfl) (by (try dsimp only); (first | (exact ⟨hk1 _ _ _ (hOld.1), hk1 _ _ _ (hOld.2)⟩) | (go_keep; done) | ((repeat' apply And.intro) <;> (first | assumption | (exact ⟨_, by assumption⟩) | (exact two_0 (by assumption)) | (exact two_1 (by assumption)) | (simp (maxDischargeDepth := 8) [*, go_sem, World.cell?_alloc_some, World.cell?_setCell_far]; done))) | (simp (maxDischargeDepth := 8) [*, go_sem, World.cell?_alloc_some, World.cell?_setCell_far]; done))) (fun hHeld => ?_)
            (refine wpAnyH_take (i := 1) (oi := ⟨some 17, _, _, _, _, none⟩) (v := ?_) rfl (by kernel_rfl) (by kernel_rfl) (by kernel_rfl) (fun _ _ _ h => h) (Or.inl ⟨by rfl, ?_⟩) hHeld ?_; rotate_left; (· (intro w9 hSw; (try dsimp only at hSw); go_simp; (try with_reducible rfl))))
            (try simp only [Act.put, List.setIfInBounds_toArray, List.set_cons_zero, List.set_cons_succ])
            (refine wpAnyH_ready (rs := [0]) (by kernel_rfl) (by simp) ?_; refine AllReadyH.cons (o := ⟨some 16, _, _, _, _, none⟩) rfl (fun K hK => ?_) AllReadyH.nil; go_simp; (first | (go_at_call 79; refine useF w (of_any 9223372036854775807 _ (by omega)) (by go_grown) ?_; rintro e w1 rfl hB1 hk1 hf1 hs1; have hz1 := hB1.size) | (go_at_call 92; refine useF w (less_any _ _ _ (by omega)) (by go_grown) ?_; rintro e w1 rfl hB1 hk1 hf1 hs1; have hz1 := hB1.size)); have hOld := hHeld; clear hHeld; refine hK.out _ _ ?_ (fun hHeld => ?_); (· ((try dsimp only); (first | (exact ⟨hk1 _ _ _ (hOld.1), hk1 _ _ _ (hOld.2)⟩) | (go_keep; done) | ((repeat' apply And.intro) <;> (first | assumption | (exact ⟨_, by assumption⟩) | (exact two_0 (by assumption)) | (exact two_1 (by assumption)) | (simp (maxDischargeDepth := 8) [*, go_sem, World.cell?_alloc_some, World.cell?_setCell_far]; done))) | (simp (maxDischargeDepth := 8) [*, go_sem, World.cell?_alloc_some, World.cell?_setCell_far]; done)))); clear hK K hOld; (try clear hc1 hf1); (try clear hk1 hf1))
            (try simp only [Act.put, List.setIfInBounds_toArray, List.set_cons_zero, List.set_cons_succ])
            (refine wpAnyH_ready (rs := [2]) (by kernel_rfl) (by simp) ?_; refine AllReadyH.cons (o := ⟨some 18, _, _, _, _, none⟩) rfl (fun K hK => ?_) AllReadyH.nil; go_simp; (first | (go_at_call 79; refine useF w (of_any 9223372036854775807 _ (by omega)) (by go_grown) ?_; rintro e w1 rfl hB1 hk1 hf1 hs1; have hz1 := hB1.size) | (go_at_call 92; refine useF w (less_any _ _ _ (by omega)) (by go_grown) ?_; rintro e w1 rfl hB1 hk1 hf1 hs1; have hz1 := hB1.size)); have hOld := hHeld; clear hHeld; refine hK.out _ _ ?_ (fun hHeld => ?_); (· ((try dsimp only); (first | (exact ⟨hk1 _ _ _ (hOld.1), hk1 _ _ _ (hOld.2)⟩) | (go_keep; done) | ((repeat' apply And.intro) <;> (first | assumption | (exact ⟨_, by assumption⟩) | (exact two_0 (by assumption)) | (exact two_1 (by assumption)) | (simp (maxDischargeDepth := 8) [*, go_sem, World.cell?_alloc_some, World.cell?_setCell_far]; done))) | (simp (maxDischargeDepth := 8) [*, go_sem, World.cell?_alloc_some, World.cell?_setCell_far]; done)))); clear hK K hOld; (try clear hc1 hf1); (try clear hk1 hf1))
            (try simp only [Act.put, List.setIfInBounds_toArray, List.set_cons_zero, List.set_cons_succ])
            refine wpAnyH_done (by kernel_rfl) ?_ _
            try rw [e1]
            go_wp2_with fail
            all_goals (go_ret2; exact ⟨by rw [hp.out]; rfl, by go_grown⟩)
        ·
          (try dsimp only at hHeld); have g0 := hHeld.1; have g1 := hHeld.2
          have hlt : w.heap.size < w_r_1.heap.size := World.block_lt_of_cell? _ ⟨w.heap.size, 0, none⟩ hHeld.1
          have hne : w.heap.size ≠ w_r_1.heap.size := by omega
          have hne2 := hne.symm
          have q0 : ((w_r_1).alloc (Obj.cells #[.int .i64 0, .int .u64 0] 78)).cell? ⟨w_r_1.heap.size, 0, none⟩ = some (.int .i64 0) := by simp [go_sem]
          have qf0 : ((w_r_1).alloc (Obj.cells #[.int .i64 0, .int .u64 0] 78)).frozen? ⟨w_r_1.heap.size, 0, none⟩ = false := by simp [go_sem]
          have q1 : ((w_r_1).alloc (Obj.cells #[.int .i64 0, .int .u64 0] 78)).cell? ⟨w_r_1.heap.size, 1, none⟩ = some (.int .u64 0) := by simp [go_sem]
          have qf1 : ((w_r_1).alloc (Obj.cells #[.int .i64 0, .int .u64 0] 78)).frozen? ⟨w_r_1.heap.size, 1, none⟩ = false := by simp [go_sem]
          clear hHeld; go_simp; refine hK.out _ _ ?_ (fun hHeld => ?_); (· ((try dsimp only); (first | (exact ⟨hk1 _ _ _ (hOld.1), hk1 _ _ _ (hOld.2)⟩) | (go_keep; done) | ((repeat' apply And.intro) <;> (first | assumption | (exact ⟨_, by assumption⟩) | (exact two_0 (by assumption)) | (exact two_1 (by assumption)) | (simp (maxDischargeDepth := 8) [*, go_sem, World.cell?_alloc_some, World.cell?_setCell_far]; done))) | (simp (maxDischargeDepth := 8) [*, go_sem, World.cell?_alloc_some, World.cell?_setCell_far]; done)))); clear hK K
          (try simp only [Act.put, List.setIfInBounds_toArray, List.set_cons_zero, List.set_cons_succ])
          refine wpAnyH_ready (rs := [5]) (by kernel_rfl) (by simp) ?_
          refine AllReadyH.cons (o := ⟨some 13, _, _, _, _, none⟩) rfl (fun K hK => ?_) (AllReadyH.nil)
          go_simp
          (first | (go_at_call 86; refine useF w (wide_any _ _ (by omega)) (by go_grown) ?_; rintro e w_r_2 rfl hB_2 hk_2 hf_2 hs_2; have hz_2 := hB_2.size) | (go_at_call 96; refine useF w (minus_any _ _) (by go_grown) ?_; rintro e w_r_2 rfl hB_2 hk_2 hf_2 hs_2; have hz_2 := hB_2.size) | (go_at_call 85; refine useF w (plus_any _ _ _) (by go_grown) ?_; rintro e w_r_2 rfl hB_2 hk_2 hf_2 hs_2; have hz_2 := hB_2.size))
          have hOld := hHeld; clear hHeld; refine hK.out _ _ ?_ (fun hHeld => ?_); (· ((try dsimp only); (first | (exact ⟨hk_2 _ _ _ (hOld.1), hk_2 _ _ _ (hOld.2)⟩) | (go_keep; done) | ((repeat' apply And.intro) <;> (first | assumption | (exact ⟨_, by assumption⟩) | (exact two_0 (by assumption)) | (exact two_1 (by assumption)) | (simp (maxDischargeDepth := 8) [*, go_sem, World.cell?_alloc_some, World.cell?_setCell_far]; done))) | (simp (maxDischargeDepth := 8) [*, go_sem, World.cell?_alloc_some, World.cell?_setCell_far]; done)))); clear hK K hOld
          have qf0 := hf_2 _ _ _ q0 qf0
          have qf1 := hf_2 _ _ _ q1 qf1
          have q0 := hk_2 _ _ _ q0
          have q1 := hk_2 _ _ _ q1
          clear hk_2 hf_2
          (try simp only [Act.put, List.setIfInBounds_toArray, List.set_cons_zero, List.set_cons_succ])
          refine wpAnyH_ready (rs := [6]) (by kernel_rfl) (by simp) ?_
          refine AllReadyH.cons (o := ⟨some 14, _, _, _, _, none⟩) rfl (fun K hK => ?_) (AllReadyH.nil)
          go_simp
          (first | (go_at_call 86; refine useF w (wide_any _ _ (by omega)) (by go_grown) ?_; rintro e w_r_3 rfl hB_3 hk_3 hf_3 hs_3; have hz_3 := hB_3.size) | (go_at_call 96; refine useF w (minus_any _ _) (by go_grown) ?_; rintro e w_r_3 rfl hB_3 hk_3 hf_3 hs_3; have hz_3 := hB_3.size) | (go_at_call 85; refine useF w (plus_any _ _ _) (by go_grown) ?_; rintro e w_r_3 rfl hB_3 hk_3 hf_3 hs_3; have hz_3 := hB_3.size))
          have hOld := hHeld; clear hHeld; refine hK.out _ _ ?_ (fun hHeld => ?_); (· ((try dsimp only); (first | (exact ⟨hk_3 _ _ _ (hOld.1), hk_3 _ _ _ (hOld.2)⟩) | (go_keep; done) | ((repeat' apply And.intro) <;> (first | assumption | (exact ⟨_, by assumption⟩) | (exact two_0 (by assumption)) | (exact two_1 (by assumption)) | (simp (maxDischargeDepth := 8) [*, go_sem, World.cell?_alloc_some, World.cell?_setCell_far]; done))) | (simp (maxDischargeDepth := 8) [*, go_sem, World.cell?_alloc_some, World.cell?_setCell_far]; done)))); clear hK K hOld
          have qf0 := hf_3 _ _ _ q0 qf0
          have qf1 := hf_3 _ _ _ q1 qf1
          have q0 := hk_3 _ _ _ q0
          have q1 := hk_3 _ _ _ q1
          clear hk_3 hf_3
          (try simp only [Act.put, List.setIfInBounds_toArray, List.set_cons_zero, List.set_cons_succ])
          refine wpAnyH_ready (rs := [7]) (by kernel_rfl) (by simp) ?_
          refine AllReadyH.cons (o := ⟨some 15, _, _, _, _, none⟩) rfl (fun K hK => ?_) (AllReadyH.nil)
          go_simp
          (first | (go_at_call 86; refine useF w (wide_any _ _ (by omega)) (by go_grown) ?_; rintro e w_r_4 rfl hB_4 hk_4 hf_4 hs_4; have hz_4 := hB_4.size) | (go_at_call 96; refine useF w (minus_any _ _) (by go_grown) ?_; rintro e w_r_4 rfl hB_4 hk_4 hf_4 hs_4; have hz_4 := hB_4.size) | (go_at_call 85; refine useF w (plus_any _ _ _) (by go_grown) ?_; rintro e w_r_4 rfl hB_4 hk_4 hf_4 hs_4; have hz_4 := hB_4.size))
          have hOld := hHeld; clear hHeld; refine hK.out _ _ ?_ (fun hHeld => ?_); (· ((try dsimp only); (first | (exact ⟨hk_4 _ _ _ (hOld.1), hk_4 _ _ _ (hOld.2)⟩) | (go_keep; done) | ((repeat' apply And.intro) <;> (first | assumption | (exact ⟨_, by assumption⟩) | (exact two_0 (by assumption)) | (exact two_1 (by assumption)) | (simp (maxDischargeDepth := 8) [*, go_sem, World.cell?_alloc_some, World.cell?_setCell_far]; done))) | (simp (maxDischargeDepth := 8) [*, go_sem, World.cell?_alloc_some, World.cell?_setCell_far]; done)))); clear hK K hOld
          have qf0 := hf_4 _ _ _ q0 qf0
          have qf1 := hf_4 _ _ _ q1 qf1
          have q0 := hk_4 _ _ _ q0
          have q1 := hk_4 _ _ _ q1
          clear hk_4 hf_4
          (try simp only [Act.put, List.setIfInBounds_toArray, List.set_cons_zero, List.set_cons_succ])
          refine wpAnyH_ready (rs := [9]) (by kernel_rfl) (by simp) ?_
          refine AllReadyH.cons (o := ⟨none, _, _, _, _, none⟩) rfl (fun K hK => ?_) (AllReadyH.nil)
          (try dsimp only at hHeld); have g0 := hHeld.1; have g1 := hHeld.2; clear hHeld; go_simp; refine hK.out _ _ ?_ (fun hHeld => ?_); (· ((try dsimp only); (first | (exact ⟨hk1 _ _ _ (hOld.1), hk1 _ _ _ (hOld.2)⟩) | (go_keep; done) | ((repeat' apply And.intro) <;> (first | assumption | (exact ⟨_, by assumption⟩) | (exact two_0 (by assumption)) | (exact two_1 (by assumption)) | (simp (maxDischargeDepth := 8) [*, go_sem, World.cell?_alloc_some, World.cell?_setCell_far]; done))) | (simp (maxDischargeDepth := 8) [*, go_sem, World.cell?_alloc_some, World.cell?_setCell_far]; done)))); clear hK K
          (try simp only [Act.put, List.setIfInBounds_toArray, List.set_cons_zero, List.set_cons_succ])
          refine wpAnyH_done (by kernel_rfl) ?_ _
          go_wp2_with fail
          refine wp_region_held_drew (S := (fun w' => w'.cell? ⟨w_r_1.heap.size, 0, none⟩ = some (.int .i64 (hiW (hi + -lo))) ∧ w'.cell? ⟨w_r_1.heap.size, 1, none⟩ = some (.int .u64 (loW (hi + -lo))))) (by kernel_rfl) (by (try dsimp only); (first | (exact ⟨hk1 _ _ _ (hOld.1), hk1 _ _ _ (hOld.2)⟩) | (go_keep; done) | ((repeat' apply And.intro) <;> (first | assumption | (exact ⟨_, by assumption⟩) | (exact two_0 (by assumption)) | (exact two_1 (by assumption)) | (simp (maxDischargeDepth := 8) [*, go_sem, World.cell?_alloc_some, World.cell?_setCell_far]; done))) | (simp (maxDischargeDepth := 8) [*, go_sem, World.cell?_alloc_some, World.cell?_setCell_far]; done))) (fun hHeld => ?_)
          (refine wpAnyH_take (i := 1) (oi := ⟨some 17, _, _, _, _, none⟩) (v := ?_) rfl (by kernel_rfl) (by kernel_rfl) (by kernel_rfl) (fun _ _ _ h => h) (Or.inl ⟨by rfl, ?_⟩) hHeld ?_; rotate_left; (· (intro w9 hSw; (try dsimp only at hSw); go_simp; (try with_reducible rfl))))
          (try simp only [Act.put, List.setIfInBounds_toArray, List.set_cons_zero, List.set_cons_succ])
          (refine wpAnyH_ready (rs := [0]) (by kernel_rfl) (by simp) ?_; refine AllReadyH.cons (o := ⟨some 16, _, _, _, _, none⟩) rfl (fun K hK => ?_) AllReadyH.nil; go_simp; (first | (go_at_call 79; refine useF w (of_any 9223372036854775807 _ (by omega)) (by go_grown) ?_; rintro e w1 rfl hB1 hk1 hf1 hs1; have hz1 := hB1.size) | (go_at_call 92; refine useF w (less_any _ _ _ (by omega)) (by go_grown) ?_; rintro e w1 rfl hB1 hk1 hf1 hs1; have hz1 := hB1.size)); have hOld := hHeld; clear hHeld; refine hK.out _ _ ?_ (fun hHeld => ?_); (· ((try dsimp only); (first | (exact ⟨hk1 _ _ _ (hOld.1), hk1 _ _ _ (hOld.2)⟩) | (go_keep; done) | ((repeat' apply And.intro) <;> (first | assumption | (exact ⟨_, by assumption⟩) | (exact two_0 (by assumption)) | (exact two_1 (by assumption)) | (simp (maxDischargeDepth := 8) [*, go_sem, World.cell?_alloc_some, World.cell?_setCell_far]; done))) | (simp (maxDischargeDepth := 8) [*, go_sem, World.cell?_alloc_some, World.cell?_setCell_far]; done)))); clear hK K hOld; (try clear hc1 hf1); (try clear hk1 hf1))
          (try simp only [Act.put, List.setIfInBounds_toArray, List.set_cons_zero, List.set_cons_succ])
          (refine wpAnyH_ready (rs := [2]) (by kernel_rfl) (by simp) ?_; refine AllReadyH.cons (o := ⟨some 18, _, _, _, _, none⟩) rfl (fun K hK => ?_) AllReadyH.nil; go_simp; (first | (go_at_call 79; refine useF w (of_any 9223372036854775807 _ (by omega)) (by go_grown) ?_; rintro e w1 rfl hB1 hk1 hf1 hs1; have hz1 := hB1.size) | (go_at_call 92; refine useF w (less_any _ _ _ (by omega)) (by go_grown) ?_; rintro e w1 rfl hB1 hk1 hf1 hs1; have hz1 := hB1.size)); have hOld := hHeld; clear hHeld; refine hK.out _ _ ?_ (fun hHeld => ?_); (· ((try dsimp only); (first | (exact ⟨hk1 _ _ _ (hOld.1), hk1 _ _ _ (hOld.2)⟩) | (go_keep; done) | ((repeat' apply And.intro) <;> (first | assumption | (exact ⟨_, by assumption⟩) | (exact two_0 (by assumption)) | (exact two_1 (by assumption)) | (simp (maxDischargeDepth := 8) [*, go_sem, World.cell?_alloc_some, World.cell?_setCell_far]; done))) | (simp (maxDischargeDepth := 8) [*, go_sem, World.cell?_alloc_some, World.cell?_setCell_far]; done)))); clear hK K hOld; (try clear hc1 hf1); (try clear hk1 hf1))
          (try simp only [Act.put, List.setIfInBounds_toArray, List.set_cons_zero, List.set_cons_succ])
          refine wpAnyH_done (by kernel_rfl) ?_ _
          try rw [e1]
          go_wp2_with fail
          all_goals (go_ret2; exact ⟨by rw [hp.out]; rfl, by go_grown⟩)
      ·
        (try dsimp only at hHeld); have g0 := hHeld.1; have g1 := hHeld.2
        have hlt : w.heap.size < w1.heap.size := World.block_lt_of_cell? _ ⟨w.heap.size, 0, none⟩ hHeld.1
        have hne : w.heap.size ≠ w1.heap.size := by omega
        have hne2 := hne.symm
        have q0 : ((w1.drew).alloc (Obj.cells #[.int .i64 0, .int .u64 0] 78)).cell? ⟨w1.heap.size, 0, none⟩ = some (.int .i64 0) := by simp [go_sem]
        have qf0 : ((w1.drew).alloc (Obj.cells #[.int .i64 0, .int .u64 0] 78)).frozen? ⟨w1.heap.size, 0, none⟩ = false := by simp [go_sem]
        have q1 : ((w1.drew).alloc (Obj.cells #[.int .i64 0, .int .u64 0] 78)).cell? ⟨w1.heap.size, 1, none⟩ = some (.int .u64 0) := by simp [go_sem]
        have qf1 : ((w1.drew).alloc (Obj.cells #[.int .i64 0, .int .u64 0] 78)).frozen? ⟨w1.heap.size, 1, none⟩ = false := by simp [go_sem]
        clear hHeld; go_simp; refine hK.out _ _ ?_ (fun hHeld => ?_); (· ((try dsimp only); (first | (exact ⟨hk1 _ _ _ (hOld.1), hk1 _ _ _ (hOld.2)⟩) | (go_keep; done) | ((repeat' apply And.intro) <;> (first | assumption | (exact ⟨_, by assumption⟩) | (exact two_0 (by assumption)) | (exact two_1 (by assumption)) | (simp (maxDischargeDepth := 8) [*, go_sem, World.cell?_alloc_some, World.cell?_setCell_far]; done))) | (simp (maxDischargeDepth := 8) [*, go_sem, World.cell?_alloc_some, World.cell?_setCell_far]; done)))); clear hK K
        (try simp only [Act.put, List.setIfInBounds_toArray, List.set_cons_zero, List.set_cons_succ])
        refine wpAnyH_ready (rs := [2]) (by kernel_rfl) (by simp) ?_
        refine AllReadyH.cons (o := ⟨some 10, _, _, _, _, none⟩) rfl (fun K hK => ?_) (AllReadyH.nil)
        go_simp
        (first | (go_at_call 86; refine useF w (wide_any _ _ (by omega)) (by go_grown) ?_; rintro e w_r_1 rfl hB_1 hk_1 hf_1 hs_1; have hz_1 := hB_1.size) | (go_at_call 96; refine useF w (minus_any _ _) (by go_grown) ?_; rintro e w_r_1 rfl hB_1 hk_1 hf_1 hs_1; have hz_1 := hB_1.size) | (go_at_call 85; refine useF w (plus_any _ _ _) (by go_grown) ?_; rintro e w_r_1 rfl hB_1 hk_1 hf_1 hs_1; have hz_1 := hB_1.size))
        have hOld := hHeld; clear hHeld; refine hK.out _ _ ?_ (fun hHeld => ?_); (· ((try dsimp only); (first | (exact ⟨hk_1 _ _ _ (hOld.1), hk_1 _ _ _ (hOld.2)⟩) | (go_keep; done) | ((repeat' apply And.intro) <;> (first | assumption | (exact ⟨_, by assumption⟩) | (exact two_0 (by assumption)) | (exact two_1 (by assumption)) | (simp (maxDischargeDepth := 8) [*, go_sem, World.cell?_alloc_some, World.cell?_setCell_far]; done))) | (simp (maxDischargeDepth := 8) [*, go_sem, World.cell?_alloc_some, World.cell?_setCell_far]; done)))); clear hK K hOld
        have qf0 := hf_1 _ _ _ q0 qf0
        have qf1 := hf_1 _ _ _ q1 qf1
        have q0 := hk_1 _ _ _ q0
        have q1 := hk_1 _ _ _ q1
        clear hk_1 hf_1
        (try simp only [Act.put, List.setIfInBounds_toArray, List.set_cons_zero, List.set_cons_succ])
        refine wpAnyH_ready (rs := [5]) (by kernel_rfl) (by simp) ?_
        refine AllReadyH.cons (o := ⟨some 13, _, _, _, _, none⟩) rfl (fun K hK => ?_) (AllReadyH.nil)
        go_simp
        (first | (go_at_call 86; refine useF w (wide_any _ _ (by omega)) (by go_grown) ?_; rintro e w_r_2 rfl hB_2 hk_2 hf_2 hs_2; have hz_2 := hB_2.size) | (go_at_call 96; refine useF w (minus_any _ _) (by go_grown) ?_; rintro e w_r_2 rfl hB_2 hk_2 hf_2 hs_2; have hz_2 := hB_2.size) | (go_at_call 85; refine useF w (plus_any _ _ _) (by go_grown) ?_; rintro e w_r_2 rfl hB_2 hk_2 hf_2 hs_2; have hz_2 := hB_2.size))
        have hOld := hHeld; clear hHeld; refine hK.out _ _ ?_ (fun hHeld => ?_); (· ((try dsimp only); (first | (exact ⟨hk_2 _ _ _ (hOld.1), hk_2 _ _ _ (hOld.2)⟩) | (go_keep; done) | ((repeat' apply And.intro) <;> (first | assumption | (exact ⟨_, by assumption⟩) | (exact two_0 (by assumption)) | (exact two_1 (by assumption)) | (simp (maxDischargeDepth := 8) [*, go_sem, World.cell?_alloc_some, World.cell?_setCell_far]; done))) | (simp (maxDischargeDepth := 8) [*, go_sem, World.cell?_alloc_some, World.cell?_setCell_far]; done)))); clear hK K hOld
        have qf0 := hf_2 _ _ _ q0 qf0
        have qf1 := hf_2 _ _ _ q1 qf1
        have q0 := hk_2 _ _ _ q0
        have q1 := hk_2 _ _ _ q1
        clear hk_2 hf_2
        (try simp only [Act.put, List.setIfInBounds_toArray, List.set_cons_zero, List.set_cons_succ])
        refine wpAnyH_ready (rs := [6]) (by kernel_rfl) (by simp) ?_
        refine AllReadyH.cons (o := ⟨some 14, _, _, _, _, none⟩) rfl (fun K hK => ?_) (AllReadyH.nil)
        go_simp
        (first | (go_at_call 86; refine useF w (wide_any _ _ (by omega)) (by go_grown) ?_; rintro e w_r_3 rfl hB_3 hk_3 hf_3 hs_3; have hz_3 := hB_3.size) | (go_at_call 96; refine useF w (minus_any _ _) (by go_grown) ?_; rintro e w_r_3 rfl hB_3 hk_3 hf_3 hs_3; have hz_3 := hB_3.size) | (go_at_call 85; refine useF w (plus_any _ _ _) (by go_grown) ?_; rintro e w_r_3 rfl hB_3 hk_3 hf_3 hs_3; have hz_3 := hB_3.size))
        have hOld := hHeld; clear hHeld; refine hK.out _ _ ?_ (fun hHeld => ?_); (· ((try dsimp only); (first | (exact ⟨hk_3 _ _ _ (hOld.1), hk_3 _ _ _ (hOld.2)⟩) | (go_keep; done) | ((repeat' apply And.intro) <;> (first | assumption | (exact ⟨_, by assumption⟩) | (exact two_0 (by assumption)) | (exact two_1 (by assumption)) | (simp (maxDischargeDepth := 8) [*, go_sem, World.cell?_alloc_some, World.cell?_setCell_far]; done))) | (simp (maxDischargeDepth := 8) [*, go_sem, World.cell?_alloc_some, World.cell?_setCell_far]; done)))); clear hK K hOld
        have qf0 := hf_3 _ _ _ q0 qf0
        have qf1 := hf_3 _ _ _ q1 qf1
        have q0 := hk_3 _ _ _ q0
        have q1 := hk_3 _ _ _ q1
        clear hk_3 hf_3
        (try simp only [Act.put, List.setIfInBounds_toArray, List.set_cons_zero, List.set_cons_succ])
        refine wpAnyH_ready (rs := [7]) (by kernel_rfl) (by simp) ?_
        refine AllReadyH.cons (o := ⟨some 15, _, _, _, _, none⟩) rfl (fun K hK => ?_) (AllReadyH.nil)
        go_simp
        (first | (go_at_call 86; refine useF w (wide_any _ _ (by omega)) (by go_grown) ?_; rintro e w_r_4 rfl hB_4 hk_4 hf_4 hs_4; have hz_4 := hB_4.size) | (go_at_call 96; refine useF w (minus_any _ _) (by go_grown) ?_; rintro e w_r_4 rfl hB_4 hk_4 hf_4 hs_4; have hz_4 := hB_4.size) | (go_at_call 85; refine useF w (plus_any _ _ _) (by go_grown) ?_; rintro e w_r_4 rfl hB_4 hk_4 hf_4 hs_4; have hz_4 := hB_4.size))
        have hOld := hHeld; clear hHeld; refine hK.out _ _ ?_ (fun hHeld => ?_); (· ((try dsimp only); (first | (exact ⟨hk_4 _ _ _ (hOld.1), hk_4 _ _ _ (hOld.2)⟩) | (go_keep; done) | ((repeat' apply And.intro) <;> (first | assumption | (exact ⟨_, by assumption⟩) | (exact two_0 (by assumption)) | (exact two_1 (by assumption)) | (simp (maxDischargeDepth := 8) [*, go_sem, World.cell?_alloc_some, World.cell?_setCell_far]; done))) | (simp (maxDischargeDepth := 8) [*, go_sem, World.cell?_alloc_some, World.cell?_setCell_far]; done)))); clear hK K hOld
        have qf0 := hf_4 _ _ _ q0 qf0
        have qf1 := hf_4 _ _ _ q1 qf1
        have q0 := hk_4 _ _ _ q0
        have q1 := hk_4 _ _ _ q1
        clear hk_4 hf_4
        (try simp only [Act.put, List.setIfInBounds_toArray, List.set_cons_zero, List.set_cons_succ])
        refine wpAnyH_ready (rs := [9]) (by kernel_rfl) (by simp) ?_
        refine AllReadyH.cons (o := ⟨none, _, _, _, _, none⟩) rfl (fun K hK => ?_) (AllReadyH.nil)
        (try dsimp only at hHeld); have g0 := hHeld.1; have g1 := hHeld.2; clear hHeld; go_simp; refine hK.out _ _ ?_ (fun hHeld => ?_); (· ((try dsimp only); (first | (exact ⟨hk1 _ _ _ (hOld.1), hk1 _ _ _ (hOld.2)⟩) | (go_keep; done) | ((repeat' apply And.intro) <;> (first | assumption | (exact ⟨_, by assumption⟩) | (exact two_0 (by assumption)) | (exact two_1 (by assumption)) | (simp (maxDischargeDepth := 8) [*, go_sem, World.cell?_alloc_some, World.cell?_setCell_far]; done))) | (simp (maxDischargeDepth := 8) [*, go_sem, World.cell?_alloc_some, World.cell?_setCell_far]; done)))); clear hK K
        (try simp only [Act.put, List.setIfInBounds_toArray, List.set_cons_zero, List.set_cons_succ])
        refine wpAnyH_done (by kernel_rfl) ?_ _
        go_wp2_with fail
        refine wp_region_held_drew (S := (fun w' => w'.cell? ⟨w1.heap.size, 0, none⟩ = some (.int .i64 (hiW (hi + -lo))) ∧ w'.cell? ⟨w1.heap.size, 1, none⟩ = some (.int .u64 (loW (hi + -lo))))) (by kernel_rfl) (by (try dsimp only); (first | (exact ⟨hk1 _ _ _ (hOld.1), hk1 _ _ _ (hOld.2)⟩) | (go_keep; done) | ((repeat' apply And.intro) <;> (first | assumption | (exact ⟨_, by assumption⟩) | (exact two_0 (by assumption)) | (exact two_1 (by assumption)) | (simp (maxDischargeDepth := 8) [*, go_sem, World.cell?_alloc_some, World.cell?_setCell_far]; done))) | (simp (maxDischargeDepth := 8) [*, go_sem, World.cell?_alloc_some, World.cell?_setCell_far]; done))) (fun hHeld => ?_)
        (refine wpAnyH_take (i := 1) (oi := ⟨some 17, _, _, _, _, none⟩) (v := ?_) rfl (by kernel_rfl) (by kernel_rfl) (by kernel_rfl) (fun _ _ _ h => h) (Or.inl ⟨by rfl, ?_⟩) hHeld ?_; rotate_left; (· (intro w9 hSw; (try dsimp only at hSw); go_simp; (try with_reducible rfl))))
        (try simp only [Act.put, List.setIfInBounds_toArray, List.set_cons_zero, List.set_cons_succ])
        (refine wpAnyH_ready (rs := [0]) (by kernel_rfl) (by simp) ?_; refine AllReadyH.cons (o := ⟨some 16, _, _, _, _, none⟩) rfl (fun K hK => ?_) AllReadyH.nil; go_simp; (first | (go_at_call 79; refine useF w (of_any 9223372036854775807 _ (by omega)) (by go_grown) ?_; rintro e w1 rfl hB1 hk1 hf1 hs1; have hz1 := hB1.size) | (go_at_call 92; refine useF w (less_any _ _ _ (by omega)) (by go_grown) ?_; rintro e w1 rfl hB1 hk1 hf1 hs1; have hz1 := hB1.size)); have hOld := hHeld; clear hHeld; refine hK.out _ _ ?_ (fun hHeld => ?_); (· ((try dsimp only); (first | (exact ⟨hk1 _ _ _ (hOld.1), hk1 _ _ _ (hOld.2)⟩) | (go_keep; done) | ((repeat' apply And.intro) <;> (first | assumption | (exact ⟨_, by assumption⟩) | (exact two_0 (by assumption)) | (exact two_1 (by assumption)) | (simp (maxDischargeDepth := 8) [*, go_sem, World.cell?_alloc_some, World.cell?_setCell_far]; done))) | (simp (maxDischargeDepth := 8) [*, go_sem, World.cell?_alloc_some, World.cell?_setCell_far]; done)))); clear hK K hOld; (try clear hc1 hf1); (try clear hk1 hf1))
        (try simp only [Act.put, List.setIfInBounds_toArray, List.set_cons_zero, List.set_cons_succ])
        (refine wpAnyH_ready (rs := [2]) (by kernel_rfl) (by simp) ?_; refine AllReadyH.cons (o := ⟨some 18, _, _, _, _, none⟩) rfl (fun K hK => ?_) AllReadyH.nil; go_simp; (first | (go_at_call 79; refine useF w (of_any 9223372036854775807 _ (by omega)) (by go_grown) ?_; rintro e w1 rfl hB1 hk1 hf1 hs1; have hz1 := hB1.size) | (go_at_call 92; refine useF w (less_any _ _ _ (by omega)) (by go_grown) ?_; rintro e w1 rfl hB1 hk1 hf1 hs1; have hz1 := hB1.size)); have hOld := hHeld; clear hHeld; refine hK.out _ _ ?_ (fun hHeld => ?_); (· ((try dsimp only); (first | (exact ⟨hk1 _ _ _ (hOld.1), hk1 _ _ _ (hOld.2)⟩) | (go_keep; done) | ((repeat' apply And.intro) <;> (first | assumption | (exact ⟨_, by assumption⟩) | (exact two_0 (by assumption)) | (exact two_1 (by assumption)) | (simp (maxDischargeDepth := 8) [*, go_sem, World.cell?_alloc_some, World.cell?_setCell_far]; done))) | (simp (maxDischargeDepth := 8) [*, go_sem, World.cell?_alloc_some, World.cell?_setCell_far]; done)))); clear hK K hOld; (try clear hc1 hf1); (try clear hk1 hf1))
        (try simp only [Act.put, List.setIfInBounds_toArray, List.set_cons_zero, List.set_cons_succ])
        refine wpAnyH_done (by kernel_rfl) ?_ _
        try rw [e1]
        go_wp2_with fail
        all_goals (go_ret2; exact ⟨by rw [hp.out]; rfl, by go_grown⟩)
  · have hp := hid (show wideN lo hi = (0, 2) from if_neg (by omega))
    clear k1
    go_enter Try.func54, Try.ntmps54
    go_wp2_with fail
    refine useK w (rcheck_any _ _ _ (by omega)) (by go_grown) ?_; rintro e w1 rfl hB1 hk1 hs1
    have p00 : w1.cell? ⟨w.heap.size, 0, none⟩ = some (.int .i64 lo) := hk1 _ _ _ (by simp [go_sem])
    have p01 : w1.cell? ⟨w.heap.size, 1, none⟩ = some (.int .i64 hi) := hk1 _ _ _ (by simp [go_sem])
    have bp00 : w.heap.size < w1.heap.size := World.block_lt_of_cell? w1 ⟨w.heap.size, 0, none⟩ p00
    clear hk1
    go_wp2_with fail
    all_goals (go_ret2; exact ⟨by rw [hp.out]; rfl, by go_grown⟩)
end Go.Proofs.Ytbahajcgdmbjcaa
