/- Root and Square, of package span. -/
import Derived.Deep.DeepCutAuto
import Derived.Test.YtjleflfncijnpaaDoorRows
import Derived.Test.YtjleflfncijnpaaDoorBase
import Derived.Test.YtjleflfncijnpaaDoorFacts
import Derived.Test.YtjleflfncijnpaaDoorTwo
import Derived.Deep.RegionHeld3
import Derived.Deep.RegionWith
import Derived.Deep.QuietTactic
import Derived.BigQuiet
import Derived.Test.YtjleflfncijnpaaDoorW
import Derived.Test.YtjleflfncijnpaaDoorAsks
import Derived.Test.YtjleflfncijnpaaDoorOut
import Derived.Test.YtjleflfncijnpaaDoorSeq
import Derived.Test.YtjleflfncijnpaaDoorTwo
import Derived.Test.YtjleflfncijnpaaDoorQuo
import Derived.Test.YtjleflfncijnpaaDoorRound
import Derived.Test.YtjleflfncijnpaaDoorRootM
import Derived.Test.YtjleflfncijnpaaDoorRootS
import Derived.Test.YtjleflfncijnpaaDoorPicks
import Derived.Test.YtjleflfncijnpaaDoorScaleM
import Derived.Test.YtjleflfncijnpaaDoorMulR
set_option linter.unusedVariables false
set_option linter.unusedSimpArgs false
set_option maxHeartbeats 4000000
set_option maxRecDepth 100000
namespace Go.Proofs.YtjleflfncijnpaaDoor
open Go Go.RowKit
theorem sroot_any (n : Int) (w : World) (h : 0 ≤ n ∧ n ≤ 9223372036854775807) :
    Calls Tryd.prog 73 #[.int .i64 n] w fun e w' => e = .returned (.tuple #[.int .i64 (rtI (n * 4294967296)), .int .i64 (ruI (n * 4294967296))]) ∧ Below w.heap.size w w' := by
  have hs := rt_spec (n := n * 4294967296) (by omega)
  have hr : rtI (n * 4294967296) ≤ 281474976710656 := by
    have := rt_lt (n := n * 4294967296) (k := 281474976710656) (by omega) (by omega) (by omega)
    omega
  have hg := hid (fun b W g => greatest_any (n * 4294967296) b W g (by omega) hr)
  have hp := hid (fun W => product_any (rtI (n * 4294967296)) (rtI (n * 4294967296)) W (by omega))
  have hp0 := hid (fun W => product_any n 4294967296 W (by omega))
  have hru : ruI (n * 4294967296) = if rtI (n * 4294967296) * rtI (n * 4294967296) = n * 4294967296 then rtI (n * 4294967296) else rtI (n * 4294967296) + 1 := rfl
  obtain ⟨n1, n2⟩ := h
  obtain ⟨s0, _, _⟩ := hs
  have hsq := mul_bd (x := rtI (n * 4294967296)) (y := rtI (n * 4294967296)) (a := 281474976710656) (b := 281474976710656) ⟨s0, hr⟩ ⟨s0, hr⟩
  simp only [Int.reduceMul] at hsq
  have hsq := hid hsq
  by_cases c : rtI (n * 4294967296) * rtI (n * 4294967296) = n * 4294967296
  · rw [if_pos c] at hru
    have c := hid c
    have hru := hid hru
    go_enter Tryd.func73, Tryd.ntmps73
    go_wp2_with fail
    refine useF w (hp0.out _) (by go_grown) ?_; rintro e w1 rfl hB1 hk1 hf1 hs1
    go_wp2_with fail
    refine useF w (hg.out _ _ ⟨by simp [go_sem], by simp [go_sem]⟩) (by go_grown) ?_; rintro e w2 rfl hB2 hk2 hf2 hs2
    have c0 := hk2 w1.heap.size 0 (.int .u64 (n * 4294967296 / 18446744073709551616)) (by simp [go_sem])
    have c1 := hk2 w1.heap.size 1 (.int .u64 (n * 4294967296 % 18446744073709551616)) (by simp [go_sem])
    clear hk1 hf1 hk2 hf2 hs1
    go_wp2_with fail
    refine wp_region_held_drew (S := (fun w' => w'.cell? ⟨w1.heap.size, 0, none⟩ = some (.int .u64 (n * 4294967296 / 18446744073709551616)) ∧ w'.cell? ⟨w1.heap.size, 1, none⟩ = some (.int .u64 (n * 4294967296 % 18446744073709551616)))) (by kernel_rfl) (by (try dsimp only); (first | (exact ⟨hk1 _ _ _ (hOld.1), hk1 _ _ _ (hOld.2)⟩) | ((try simp only [World.cell?_drew, World.frozen?_drew]); (repeat' apply And.intro) <;> (first | (with_reducible assumption) | (with_reducible exact ⟨_, by assumption⟩) | (with_reducible exact ⟨_, two_other (by assumption) (by omega)⟩) | (with_reducible exact two_0 (by assumption)) | (with_reducible exact two_1 (by assumption)) | (with_reducible exact two_other (by assumption) (by omega)) | (with_reducible exact two_fz (by assumption)) | (with_reducible exact keepA _ (by assumption)) | (with_reducible exact keepA _ (keepA _ (keepA _ (by assumption)))) | (simp (maxDischargeDepth := 8) [*, go_sem, World.cell?_alloc_some, World.cell?_setCell_far]; done))) | (go_keep; done) | (simp (maxDischargeDepth := 8) [*, go_sem, World.cell?_alloc_some, World.cell?_setCell_far]; done))) (fun hHeld => ?_)
    (refine wpAnyH_take (i := 0) (oi := ⟨some 15, _, _, _, _, none⟩) (v := ?_) rfl (by kernel_rfl) (by kernel_rfl) (by kernel_rfl) (fun _ _ _ h => h) (Or.inl ⟨by rfl, ?_⟩) hHeld ?_; rotate_left; (· (intro w9 hSw; (try dsimp only at hSw); go_simp; (try with_reducible rfl))))
    (try simp only [Act.put, List.setIfInBounds_toArray, List.set_cons_zero, List.set_cons_succ])
    (refine wpAnyH_take (i := 1) (oi := ⟨some 16, _, _, _, _, none⟩) (v := ?_) rfl (by kernel_rfl) (by kernel_rfl) (by kernel_rfl) (fun _ _ _ h => h) (Or.inl ⟨by rfl, ?_⟩) hHeld ?_; rotate_left; (· (intro w9 hSw; (try dsimp only at hSw); go_simp; (try with_reducible rfl))))
    (try simp only [Act.put, List.setIfInBounds_toArray, List.set_cons_zero, List.set_cons_succ])
    (refine wpAnyH_take (i := 3) (oi := ⟨some 18, _, _, _, _, none⟩) (v := ?_) rfl (by kernel_rfl) (by kernel_rfl) (by kernel_rfl) (fun _ _ _ h => h) (Or.inl ⟨by rfl, ?_⟩) hHeld ?_; rotate_left; (· (intro w9 hSw; (try dsimp only at hSw); go_simp; (try with_reducible rfl))))
    (try simp only [Act.put, List.setIfInBounds_toArray, List.set_cons_zero, List.set_cons_succ])
    (refine wpAnyH_ready (rs := [2]) (by kernel_rfl) (by simp) ?_; refine AllReadyH.cons (o := ⟨some 17, _, _, _, _, none⟩) rfl (fun K hK => ?_) AllReadyH.nil; go_simp; (first | (go_at_call 95; refine useF w (hp.out _) (by go_grown) ?_; rintro e w1 rfl hB1 hk1 hf1 hs1; have hz1 := hB1.size)); have hOld := hHeld; clear hHeld; refine hK.out _ _ ?_ (fun hHeld => ?_); (· ((try dsimp only); (first | (exact ⟨hk1 _ _ _ (hOld.1), hk1 _ _ _ (hOld.2)⟩) | ((try simp only [World.cell?_drew, World.frozen?_drew]); (repeat' apply And.intro) <;> (first | (with_reducible assumption) | (with_reducible exact ⟨_, by assumption⟩) | (with_reducible exact ⟨_, two_other (by assumption) (by omega)⟩) | (with_reducible exact two_0 (by assumption)) | (with_reducible exact two_1 (by assumption)) | (with_reducible exact two_other (by assumption) (by omega)) | (with_reducible exact two_fz (by assumption)) | (with_reducible exact keepA _ (by assumption)) | (with_reducible exact keepA _ (keepA _ (keepA _ (by assumption)))) | (simp (maxDischargeDepth := 8) [*, go_sem, World.cell?_alloc_some, World.cell?_setCell_far]; done))) | (go_keep; done) | (simp (maxDischargeDepth := 8) [*, go_sem, World.cell?_alloc_some, World.cell?_setCell_far]; done)))); clear hK K hOld; (try clear hc1 hf1); (try clear hk1 hf1))
    (try simp only [Act.put, List.setIfInBounds_toArray, List.set_cons_zero, List.set_cons_succ])
    (refine wpAnyH_take (i := 4) (oi := ⟨some 19, _, _, _, _, none⟩) (v := ?_) rfl (by kernel_rfl) (by kernel_rfl) (by kernel_rfl) (fun _ _ _ h => h) (Or.inl ⟨by rfl, ?_⟩) hHeld ?_; rotate_left; (· (intro w9 hSw; (try dsimp only at hSw); go_simp; (try with_reducible rfl))))
    (try simp only [Act.put, List.setIfInBounds_toArray, List.set_cons_zero, List.set_cons_succ])
    refine wpAnyH_done (by kernel_rfl) ?_ _
    rw [c.out]
    go_wp2_with fail
    go_ret2
    exact ⟨by rw [hru.out]; rfl, by go_grown⟩
  · rw [if_neg c] at hru
    have hru := hid hru
    have hd : ¬ rtI (n * 4294967296) * rtI (n * 4294967296) / 18446744073709551616 = n * 4294967296 / 18446744073709551616 ∨ (rtI (n * 4294967296) * rtI (n * 4294967296) / 18446744073709551616 = n * 4294967296 / 18446744073709551616 ∧ ¬ rtI (n * 4294967296) * rtI (n * 4294967296) % 18446744073709551616 = n * 4294967296 % 18446744073709551616) := by omega
    clear c
    rcases hd with d1 | ⟨d1, d2⟩
    all_goals
      go_enter Tryd.func73, Tryd.ntmps73
      go_wp2_with fail
      refine useF w (hp0.out _) (by go_grown) ?_; rintro e w1 rfl hB1 hk1 hf1 hs1
      go_wp2_with fail
      refine useF w (hg.out _ _ ⟨by simp [go_sem], by simp [go_sem]⟩) (by go_grown) ?_; rintro e w2 rfl hB2 hk2 hf2 hs2
      have c0 := hk2 w1.heap.size 0 (.int .u64 (n * 4294967296 / 18446744073709551616)) (by simp [go_sem])
      have c1 := hk2 w1.heap.size 1 (.int .u64 (n * 4294967296 % 18446744073709551616)) (by simp [go_sem])
      clear hk1 hf1 hk2 hf2 hs1
      go_wp2_with fail
      refine wp_region_held_drew (S := (fun w' => w'.cell? ⟨w1.heap.size, 0, none⟩ = some (.int .u64 (n * 4294967296 / 18446744073709551616)) ∧ w'.cell? ⟨w1.heap.size, 1, none⟩ = some (.int .u64 (n * 4294967296 % 18446744073709551616)))) (by kernel_rfl) (by (try dsimp only); (first | (exact ⟨hk1 _ _ _ (hOld.1), hk1 _ _ _ (hOld.2)⟩) | ((try simp only [World.cell?_drew, World.frozen?_drew]); (repeat' apply And.intro) <;> (first | (with_reducible assumption) | (with_reducible exact ⟨_, by assumption⟩) | (with_reducible exact ⟨_, two_other (by assumption) (by omega)⟩) | (with_reducible exact two_0 (by assumption)) | (with_reducible exact two_1 (by assumption)) | (with_reducible exact two_other (by assumption) (by omega)) | (with_reducible exact two_fz (by assumption)) | (with_reducible exact keepA _ (by assumption)) | (with_reducible exact keepA _ (keepA _ (keepA _ (by assumption)))) | (simp (maxDischargeDepth := 8) [*, go_sem, World.cell?_alloc_some, World.cell?_setCell_far]; done))) | (go_keep; done) | (simp (maxDischargeDepth := 8) [*, go_sem, World.cell?_alloc_some, World.cell?_setCell_far]; done))) (fun hHeld => ?_)
      (refine wpAnyH_take (i := 0) (oi := ⟨some 15, _, _, _, _, none⟩) (v := ?_) rfl (by kernel_rfl) (by kernel_rfl) (by kernel_rfl) (fun _ _ _ h => h) (Or.inl ⟨by rfl, ?_⟩) hHeld ?_; rotate_left; (· (intro w9 hSw; (try dsimp only at hSw); go_simp; (try with_reducible rfl))))
      (try simp only [Act.put, List.setIfInBounds_toArray, List.set_cons_zero, List.set_cons_succ])
      (refine wpAnyH_take (i := 1) (oi := ⟨some 16, _, _, _, _, none⟩) (v := ?_) rfl (by kernel_rfl) (by kernel_rfl) (by kernel_rfl) (fun _ _ _ h => h) (Or.inl ⟨by rfl, ?_⟩) hHeld ?_; rotate_left; (· (intro w9 hSw; (try dsimp only at hSw); go_simp; (try with_reducible rfl))))
      (try simp only [Act.put, List.setIfInBounds_toArray, List.set_cons_zero, List.set_cons_succ])
      (refine wpAnyH_take (i := 3) (oi := ⟨some 18, _, _, _, _, none⟩) (v := ?_) rfl (by kernel_rfl) (by kernel_rfl) (by kernel_rfl) (fun _ _ _ h => h) (Or.inl ⟨by rfl, ?_⟩) hHeld ?_; rotate_left; (· (intro w9 hSw; (try dsimp only at hSw); go_simp; (try with_reducible rfl))))
      (try simp only [Act.put, List.setIfInBounds_toArray, List.set_cons_zero, List.set_cons_succ])
      (refine wpAnyH_ready (rs := [2]) (by kernel_rfl) (by simp) ?_; refine AllReadyH.cons (o := ⟨some 17, _, _, _, _, none⟩) rfl (fun K hK => ?_) AllReadyH.nil; go_simp; (first | (go_at_call 95; refine useF w (hp.out _) (by go_grown) ?_; rintro e w1 rfl hB1 hk1 hf1 hs1; have hz1 := hB1.size)); have hOld := hHeld; clear hHeld; refine hK.out _ _ ?_ (fun hHeld => ?_); (· ((try dsimp only); (first | (exact ⟨hk1 _ _ _ (hOld.1), hk1 _ _ _ (hOld.2)⟩) | ((try simp only [World.cell?_drew, World.frozen?_drew]); (repeat' apply And.intro) <;> (first | (with_reducible assumption) | (with_reducible exact ⟨_, by assumption⟩) | (with_reducible exact ⟨_, two_other (by assumption) (by omega)⟩) | (with_reducible exact two_0 (by assumption)) | (with_reducible exact two_1 (by assumption)) | (with_reducible exact two_other (by assumption) (by omega)) | (with_reducible exact two_fz (by assumption)) | (with_reducible exact keepA _ (by assumption)) | (with_reducible exact keepA _ (keepA _ (keepA _ (by assumption)))) | (simp (maxDischargeDepth := 8) [*, go_sem, World.cell?_alloc_some, World.cell?_setCell_far]; done))) | (go_keep; done) | (simp (maxDischargeDepth := 8) [*, go_sem, World.cell?_alloc_some, World.cell?_setCell_far]; done)))); clear hK K hOld; (try clear hc1 hf1); (try clear hk1 hf1))
      (try simp only [Act.put, List.setIfInBounds_toArray, List.set_cons_zero, List.set_cons_succ])
      (refine wpAnyH_take (i := 4) (oi := ⟨some 19, _, _, _, _, none⟩) (v := ?_) rfl (by kernel_rfl) (by kernel_rfl) (by kernel_rfl) (fun _ _ _ h => h) (Or.inl ⟨by rfl, ?_⟩) hHeld ?_; rotate_left; (· (intro w9 hSw; (try dsimp only at hSw); go_simp; (try with_reducible rfl))))
      (try simp only [Act.put, List.setIfInBounds_toArray, List.set_cons_zero, List.set_cons_succ])
      refine wpAnyH_done (by kernel_rfl) ?_ _
      go_wp2_with fail
      go_ret2
      exact ⟨by rw [hru.out]; rfl, by go_grown⟩
noncomputable def rootS (lo hi : Int) : Int × Int × Int := if chk lo hi = 0 then (if hi < 0 then (0, 0, 4) else (rtI (max lo 0 * 4294967296), ruI (hi * 4294967296), 0)) else (0, 0, 2)
theorem root_any (lo hi : Int) (w : World) (h : (-9223372036854775808 ≤ lo ∧ lo ≤ 9223372036854775807) ∧ (-9223372036854775808 ≤ hi ∧ hi ≤ 9223372036854775807)) :
    Calls Tryd.prog 21 #[.agg #[.int .i64 lo, .int .i64 hi]] w fun e w' => e = .returned (.tuple #[.agg #[.int .i64 ((rootS lo hi).1), .int .i64 ((rootS lo hi).2.1)], .int .i64 ((rootS lo hi).2.2)]) ∧ Below w.heap.size w w' := by
  obtain ⟨⟨a1, a2⟩, b1, b2⟩ := h
  rcases chk_cases lo hi with ⟨e, k1, k2⟩ | ⟨e, k1⟩
  · have hp := show rootS lo hi = _ from if_pos e
    by_cases c : hi < 0
    · rw [if_pos c] at hp
      have hp := hid hp
      go_enter Tryd.func21, Tryd.ntmps21
      go_wp2_with (go_at_call 31; refine use w (w.heap.size + 1 + 1) (check_any _ _ _ (by omega)) (by go_grown) (by go_size) ?_; rintro e w1 rfl hB1 hc1 hf1 hl1 hs1; have hl10 : w.heap.size < w1.heap.size := hl1 _ (by omega); have hl11 : w.heap.size + 1 < w1.heap.size := hl1 _ (by omega))
      all_goals (refine' bodyPost_ret (res_st_t rfl isA_S isS_S rfl ?_ ?_) rfl ?_; rotate_left 2; (· ((try simp only [World.cell?_drew]); first | (with_reducible exact two_0 (by assumption)) | (with_reducible exact two_1 (by assumption)) | (with_reducible exact two_other (two_0 (by assumption)) (by simp)) | (with_reducible exact two_other (two_1 (by assumption)) (by simp)) | (with_reducible exact two_0 (two_other (by assumption) (by simp))) | (with_reducible exact two_1 (two_other (by assumption) (by simp))) | (simp (maxDischargeDepth := 8) [go_sem, hHeld]; rfl) | (simp (maxDischargeDepth := 8) [go_sem, *]; rfl) | (simp (maxDischargeDepth := 8) [go_sem, *]; done))); (· ((try simp only [World.cell?_drew]); first | (with_reducible exact two_0 (by assumption)) | (with_reducible exact two_1 (by assumption)) | (with_reducible exact two_other (two_0 (by assumption)) (by simp)) | (with_reducible exact two_other (two_1 (by assumption)) (by simp)) | (with_reducible exact two_0 (two_other (by assumption) (by simp))) | (with_reducible exact two_1 (two_other (by assumption) (by simp))) | (simp (maxDischargeDepth := 8) [go_sem, hHeld]; rfl) | (simp (maxDischargeDepth := 8) [go_sem, *]; rfl) | (simp (maxDischargeDepth := 8) [go_sem, *]; done))); refine ⟨ret_r ?_, by go_grown⟩; (exact hp.out.symm))
    · rw [if_neg c] at hp
      have hp := hid hp
      go_enter Tryd.func21, Tryd.ntmps21
      go_wp2_with (first | (go_at_call 31; refine use w (w.heap.size + 1 + 1) (check_any _ _ _ (by omega)) (by go_grown) (by go_size) ?_; rintro e w1 rfl hB1 hc1 hf1 hl1 hs1; have hl10 : w.heap.size < w1.heap.size := hl1 _ (by omega); have hl11 : w.heap.size + 1 < w1.heap.size := hl1 _ (by omega)) | (go_at_call 73; refine use w (w.heap.size + 1 + 1) (sroot_any _ _ (by omega)) (by go_grown) (by go_size) ?_; rintro e w1 rfl hB1 hc1 hf1 hl1 hs1; have hl10 : w.heap.size < w1.heap.size := hl1 _ (by omega); have hl11 : w.heap.size + 1 < w1.heap.size := hl1 _ (by omega)))
      all_goals (refine' bodyPost_ret (res_st_t rfl isA_S isS_S rfl ?_ ?_) rfl ?_; rotate_left 2; (· ((try simp only [World.cell?_drew]); first | (with_reducible exact two_0 (by assumption)) | (with_reducible exact two_1 (by assumption)) | (with_reducible exact two_other (two_0 (by assumption)) (by simp)) | (with_reducible exact two_other (two_1 (by assumption)) (by simp)) | (with_reducible exact two_0 (two_other (by assumption) (by simp))) | (with_reducible exact two_1 (two_other (by assumption) (by simp))) | (simp (maxDischargeDepth := 8) [go_sem, hHeld]; rfl) | (simp (maxDischargeDepth := 8) [go_sem, *]; rfl) | (simp (maxDischargeDepth := 8) [go_sem, *]; done))); (· ((try simp only [World.cell?_drew]); first | (with_reducible exact two_0 (by assumption)) | (with_reducible exact two_1 (by assumption)) | (with_reducible exact two_other (two_0 (by assumption)) (by simp)) | (with_reducible exact two_other (two_1 (by assumption)) (by simp)) | (with_reducible exact two_0 (two_other (by assumption) (by simp))) | (with_reducible exact two_1 (two_other (by assumption) (by simp))) | (simp (maxDischargeDepth := 8) [go_sem, hHeld]; rfl) | (simp (maxDischargeDepth := 8) [go_sem, *]; rfl) | (simp (maxDischargeDepth := 8) [go_sem, *]; done))); refine ⟨ret_r ?_, by go_grown⟩; (rw [hp.out]))
  · have hp := hid (show rootS lo hi = (0, 0, 2) from if_neg (by omega))
    clear k1
    go_enter Tryd.func21, Tryd.ntmps21
    go_wp2_with (go_at_call 31; refine use w (w.heap.size + 1 + 1) (check_any _ _ _ (by omega)) (by go_grown) (by go_size) ?_; rintro e w1 rfl hB1 hc1 hf1 hl1 hs1; have hl10 : w.heap.size < w1.heap.size := hl1 _ (by omega); have hl11 : w.heap.size + 1 < w1.heap.size := hl1 _ (by omega))
    all_goals (refine' bodyPost_ret (res_st_t rfl isA_S isS_S rfl ?_ ?_) rfl ?_; rotate_left 2; (· ((try simp only [World.cell?_drew]); first | (with_reducible exact two_0 (by assumption)) | (with_reducible exact two_1 (by assumption)) | (with_reducible exact two_other (two_0 (by assumption)) (by simp)) | (with_reducible exact two_other (two_1 (by assumption)) (by simp)) | (with_reducible exact two_0 (two_other (by assumption) (by simp))) | (with_reducible exact two_1 (two_other (by assumption) (by simp))) | (simp (maxDischargeDepth := 8) [go_sem, hHeld]; rfl) | (simp (maxDischargeDepth := 8) [go_sem, *]; rfl) | (simp (maxDischargeDepth := 8) [go_sem, *]; done))); (· ((try simp only [World.cell?_drew]); first | (with_reducible exact two_0 (by assumption)) | (with_reducible exact two_1 (by assumption)) | (with_reducible exact two_other (two_0 (by assumption)) (by simp)) | (with_reducible exact two_other (two_1 (by assumption)) (by simp)) | (with_reducible exact two_0 (two_other (by assumption) (by simp))) | (with_reducible exact two_1 (two_other (by assumption) (by simp))) | (simp (maxDischargeDepth := 8) [go_sem, hHeld]; rfl) | (simp (maxDischargeDepth := 8) [go_sem, *]; rfl) | (simp (maxDischargeDepth := 8) [go_sem, *]; done))); refine ⟨ret_r ?_, by go_grown⟩; (exact hp.out.symm))
theorem abs_spec (lo hi : Int) (h : (-9223372036854775808 ≤ lo ∧ lo ≤ 9223372036854775807) ∧ (-9223372036854775808 ≤ hi ∧ hi ≤ 9223372036854775807)) : (chk lo hi = 0 ∧ (absS lo hi).2.2 = 0 ∧ 0 ≤ (absS lo hi).1 ∧ (absS lo hi).1 ≤ (absS lo hi).2.1 ∧ (absS lo hi).2.1 ≤ 9223372036854775807) ∨ (¬ chk lo hi = 0 ∧ absS lo hi = (0, 0, 2)) := by
  rcases chk_cases lo hi with ⟨e, k1, k2⟩ | ⟨e, k1⟩
  · left
    unfold absS
    rw [if_pos e]
    refine ⟨e, ?_⟩
    split
    · exact ⟨rfl, by dsimp only; omega, by dsimp only; omega, by dsimp only; omega⟩
    · split
      · exact ⟨rfl, by dsimp only; omega, by dsimp only; omega, by dsimp only; omega⟩
      · exact ⟨rfl, by dsimp only; omega, by dsimp only; omega, by dsimp only; omega⟩
  · right
    exact ⟨by omega, if_neg (by omega)⟩
def squareS (lo hi : Int) : Int × Int × Int := if chk lo hi = 0 then fitS ((absS lo hi).1 * (absS lo hi).1 / 4294967296) (-(-((absS lo hi).2.1 * (absS lo hi).2.1) / 4294967296)) else (0, 0, 2)
theorem sq_fit (l h : Int) (h0 : 0 ≤ l) (h1 : l ≤ h) : (ftQ (l * l) 4294967296 = true ∧ ftQ (h * h) 4294967296 = true ∧ fitS (l * l / 4294967296) (-(-(h * h) / 4294967296)) = (rdQ (l * l) 4294967296, ruQ (h * h) 4294967296, 0)) ∨
    ((ftQ (l * l) 4294967296 = true ∧ ftQ (h * h) 4294967296 = false ∨ ftQ (l * l) 4294967296 = false) ∧ fitS (l * l / 4294967296) (-(-(h * h) / 4294967296)) = (0, 0, 4)) := by
  have e0 : 0 ≤ l * l := Int.mul_nonneg h0 h0
  have e1 : l * l ≤ h * h := Int.mul_le_mul h1 h1 h0 (by omega)
  unfold rdQ ruQ ftQ
  rw [(up_32 (l * l)).1, (up_32 (l * l)).2, (up_32 (h * h)).1, (up_32 (h * h)).2]
  generalize l * l = A at *
  generalize h * h = B at *
  by_cases c : -(-B / 4294967296) ≤ 9223372036854775807
  · left
    have d1 : -9223372036854775807 ≤ A / 4294967296 ∧ -(-A / 4294967296) ≤ 9223372036854775807 := by omega
    have d2 : -9223372036854775807 ≤ B / 4294967296 ∧ -(-B / 4294967296) ≤ 9223372036854775807 := by omega
    rw [decide_eq_true d1, decide_eq_true d2]
    exact ⟨rfl, rfl, fitS_all (by omega)⟩
  · right
    have d2 : ¬ (-9223372036854775807 ≤ B / 4294967296 ∧ -(-B / 4294967296) ≤ 9223372036854775807) := by omega
    rw [decide_eq_false d2]
    refine ⟨?_, fitS_none (by omega)⟩
    by_cases d1 : -9223372036854775807 ≤ A / 4294967296 ∧ -(-A / 4294967296) ≤ 9223372036854775807
    · exact Or.inl ⟨decide_eq_true d1, rfl⟩
    · exact Or.inr (decide_eq_false d1)
theorem square_any (lo hi : Int) (w : World) (h : (-9223372036854775808 ≤ lo ∧ lo ≤ 9223372036854775807) ∧ (-9223372036854775808 ≤ hi ∧ hi ≤ 9223372036854775807)) :
    Calls Tryd.prog 20 #[.agg #[.int .i64 lo, .int .i64 hi]] w fun e w' => e = .returned (.tuple #[.agg #[.int .i64 ((squareS lo hi).1), .int .i64 ((squareS lo hi).2.1)], .int .i64 ((squareS lo hi).2.2)]) ∧ Below w.heap.size w w' := by
  rcases abs_spec lo hi h with ⟨e, he, g0, g1, g2⟩ | ⟨e, he⟩
  · have hp := show squareS lo hi = _ from if_pos e
    have ha := hid (fun W => abs_any lo hi W h)
    have hr1 := hid (fun W => round_any (absS lo hi).1 (absS lo hi).1 4294967296 W (by omega) (by omega))
    have hr2 := hid (fun W => round_any (absS lo hi).2.1 (absS lo hi).2.1 4294967296 W (by omega) (by omega))
    rcases sq_fit _ _ g0 g1 with ⟨f1, f2, f3⟩ | ⟨⟨f1, f2⟩ | f1, f3⟩
    all_goals
      have hq := hid (hp.trans f3)
      clear hp f3 g0 g1 g2 e h
      go_enter Tryd.func20, Tryd.ntmps20
      go_wp2_with fail
      refine useF w (ha.out _) (by go_grown) ?_; rintro e w1 rfl hB1 hk1 hf1 hs1
      replace f10 : w1.frozen? ⟨w.heap.size + 1, 0, none⟩ = false := hf1 _ _ (.int .i64 0) (by simp [go_sem]) (by simp [go_sem])
      replace f11 : w1.frozen? ⟨w.heap.size + 1, 1, none⟩ = false := hf1 _ _ (.int .i64 0) (by simp [go_sem]) (by simp [go_sem])
      replace p00 : w1.cell? ⟨w.heap.size, 0, none⟩ = some (.int .i64 lo) := hk1 _ _ _ (by simp [go_sem])
      replace p01 : w1.cell? ⟨w.heap.size, 1, none⟩ = some (.int .i64 hi) := hk1 _ _ _ (by simp [go_sem])
      replace p10 : w1.cell? ⟨w.heap.size + 1, 0, none⟩ = some (.int .i64 0) := hk1 _ _ _ (by simp [go_sem])
      replace p11 : w1.cell? ⟨w.heap.size + 1, 1, none⟩ = some (.int .i64 0) := hk1 _ _ _ (by simp [go_sem])
      have bp00 : w.heap.size < w1.heap.size := World.block_lt_of_cell? w1 ⟨w.heap.size, 0, none⟩ p00
      have bp10 : w.heap.size + 1 < w1.heap.size := World.block_lt_of_cell? w1 ⟨w.heap.size + 1, 0, none⟩ p10
      clear hk1 hf1
      go_wp2_with fail
      refine useF w (hr1.out _) (by go_grown) ?_; rintro e w2 rfl hB2 hk2 hf2 hs2
      replace f10 : w2.frozen? ⟨w.heap.size + 1, 0, none⟩ = false := hf2 _ _ _ ((keepA _ p10)) ((keepAF _ (p10) f10))
      replace f11 : w2.frozen? ⟨w.heap.size + 1, 1, none⟩ = false := hf2 _ _ _ ((keepA _ p11)) ((keepAF _ (p11) f11))
      replace p00 : w2.cell? ⟨w.heap.size, 0, none⟩ = some (.int .i64 lo) := hk2 _ _ _ ((keepA _ p00))
      replace p01 : w2.cell? ⟨w.heap.size, 1, none⟩ = some (.int .i64 hi) := hk2 _ _ _ ((keepA _ p01))
      replace p10 : w2.cell? ⟨w.heap.size + 1, 0, none⟩ = some (.int .i64 0) := hk2 _ _ _ ((keepA _ p10))
      replace p11 : w2.cell? ⟨w.heap.size + 1, 1, none⟩ = some (.int .i64 0) := hk2 _ _ _ ((keepA _ p11))
      replace l100 : w2.cell? ⟨w1.heap.size, 0, none⟩ = some (.int .i64 ((absS lo hi).1)) := hk2 _ _ _ (by simp [go_sem])
      replace l101 : w2.cell? ⟨w1.heap.size, 1, none⟩ = some (.int .i64 ((absS lo hi).2.1)) := hk2 _ _ _ (by simp [go_sem])
      have bp00 : w.heap.size < w2.heap.size := World.block_lt_of_cell? w2 ⟨w.heap.size, 0, none⟩ p00
      have bp10 : w.heap.size + 1 < w2.heap.size := World.block_lt_of_cell? w2 ⟨w.heap.size + 1, 0, none⟩ p10
      have bl100 : w1.heap.size < w2.heap.size := World.block_lt_of_cell? w2 ⟨w1.heap.size, 0, none⟩ l100
      clear hk2 hf2
      go_wp2_with fail
      refine useF w (hr2.out _) (by go_grown) ?_; rintro e w3 rfl hB3 hk3 hf3 hs3
      replace f10 : w3.frozen? ⟨w.heap.size + 1, 0, none⟩ = false := hf3 _ _ _ (p10) (f10)
      replace f11 : w3.frozen? ⟨w.heap.size + 1, 1, none⟩ = false := hf3 _ _ _ (p11) (f11)
      replace p00 : w3.cell? ⟨w.heap.size, 0, none⟩ = some (.int .i64 lo) := hk3 _ _ _ (p00)
      replace p01 : w3.cell? ⟨w.heap.size, 1, none⟩ = some (.int .i64 hi) := hk3 _ _ _ (p01)
      replace p10 : w3.cell? ⟨w.heap.size + 1, 0, none⟩ = some (.int .i64 0) := hk3 _ _ _ (p10)
      replace p11 : w3.cell? ⟨w.heap.size + 1, 1, none⟩ = some (.int .i64 0) := hk3 _ _ _ (p11)
      replace l100 : w3.cell? ⟨w1.heap.size, 0, none⟩ = some (.int .i64 ((absS lo hi).1)) := hk3 _ _ _ (l100)
      replace l101 : w3.cell? ⟨w1.heap.size, 1, none⟩ = some (.int .i64 ((absS lo hi).2.1)) := hk3 _ _ _ (l101)
      have bp00 : w.heap.size < w3.heap.size := World.block_lt_of_cell? w3 ⟨w.heap.size, 0, none⟩ p00
      have bp10 : w.heap.size + 1 < w3.heap.size := World.block_lt_of_cell? w3 ⟨w.heap.size + 1, 0, none⟩ p10
      have bl100 : w1.heap.size < w3.heap.size := World.block_lt_of_cell? w3 ⟨w1.heap.size, 0, none⟩ l100
      clear hk3 hf3
      go_wp2_with fail
      all_goals (refine' bodyPost_ret (res_st_t rfl isA_S isS_S rfl ?_ ?_) rfl ?_; rotate_left 2; (· ((try simp only [World.cell?_drew]); first | (with_reducible exact two_0 (by assumption)) | (with_reducible exact two_1 (by assumption)) | (with_reducible exact two_other (two_0 (by assumption)) (by simp)) | (with_reducible exact two_other (two_1 (by assumption)) (by simp)) | (with_reducible exact two_0 (two_other (by assumption) (by simp))) | (with_reducible exact two_1 (two_other (by assumption) (by simp))) | (simp (maxDischargeDepth := 8) [go_sem, hHeld]; rfl) | (simp (maxDischargeDepth := 8) [go_sem, *]; rfl) | (simp (maxDischargeDepth := 8) [go_sem, *]; done))); (· ((try simp only [World.cell?_drew]); first | (with_reducible exact two_0 (by assumption)) | (with_reducible exact two_1 (by assumption)) | (with_reducible exact two_other (two_0 (by assumption)) (by simp)) | (with_reducible exact two_other (two_1 (by assumption)) (by simp)) | (with_reducible exact two_0 (two_other (by assumption) (by simp))) | (with_reducible exact two_1 (two_other (by assumption) (by simp))) | (simp (maxDischargeDepth := 8) [go_sem, hHeld]; rfl) | (simp (maxDischargeDepth := 8) [go_sem, *]; rfl) | (simp (maxDischargeDepth := 8) [go_sem, *]; done))); refine ⟨ret_r ?_, by go_grown⟩; (exact hq.out.symm))
  · have hp := hid (show squareS lo hi = (0, 0, 2) from if_neg e)
    have ha := abs_any lo hi
    rw [he] at ha
    have ha := hid (fun W => ha W h)
    clear e he h
    go_enter Tryd.func20, Tryd.ntmps20
    go_wp2_with fail
    refine useF w (ha.out _) (by go_grown) ?_; rintro e w1 rfl hB1 hk1 hf1 hs1
    replace f10 : w1.frozen? ⟨w.heap.size + 1, 0, none⟩ = false := hf1 _ _ (.int .i64 0) (by simp [go_sem]) (by simp [go_sem])
    replace f11 : w1.frozen? ⟨w.heap.size + 1, 1, none⟩ = false := hf1 _ _ (.int .i64 0) (by simp [go_sem]) (by simp [go_sem])
    replace p00 : w1.cell? ⟨w.heap.size, 0, none⟩ = some (.int .i64 lo) := hk1 _ _ _ (by simp [go_sem])
    replace p01 : w1.cell? ⟨w.heap.size, 1, none⟩ = some (.int .i64 hi) := hk1 _ _ _ (by simp [go_sem])
    replace p10 : w1.cell? ⟨w.heap.size + 1, 0, none⟩ = some (.int .i64 0) := hk1 _ _ _ (by simp [go_sem])
    replace p11 : w1.cell? ⟨w.heap.size + 1, 1, none⟩ = some (.int .i64 0) := hk1 _ _ _ (by simp [go_sem])
    have bp00 : w.heap.size < w1.heap.size := World.block_lt_of_cell? w1 ⟨w.heap.size, 0, none⟩ p00
    have bp10 : w.heap.size + 1 < w1.heap.size := World.block_lt_of_cell? w1 ⟨w.heap.size + 1, 0, none⟩ p10
    clear hk1 hf1
    go_wp2_with fail
    all_goals (refine' bodyPost_ret (res_st_t rfl isA_S isS_S rfl ?_ ?_) rfl ?_; rotate_left 2; (· ((try simp only [World.cell?_drew]); first | (with_reducible exact two_0 (by assumption)) | (with_reducible exact two_1 (by assumption)) | (with_reducible exact two_other (two_0 (by assumption)) (by simp)) | (with_reducible exact two_other (two_1 (by assumption)) (by simp)) | (with_reducible exact two_0 (two_other (by assumption) (by simp))) | (with_reducible exact two_1 (two_other (by assumption) (by simp))) | (simp (maxDischargeDepth := 8) [go_sem, hHeld]; rfl) | (simp (maxDischargeDepth := 8) [go_sem, *]; rfl) | (simp (maxDischargeDepth := 8) [go_sem, *]; done))); (· ((try simp only [World.cell?_drew]); first | (with_reducible exact two_0 (by assumption)) | (with_reducible exact two_1 (by assumption)) | (with_reducible exact two_other (two_0 (by assumption)) (by simp)) | (with_reducible exact two_other (two_1 (by assumption)) (by simp)) | (with_reducible exact two_0 (two_other (by assumption) (by simp))) | (with_reducible exact two_1 (two_other (by assumption) (by simp))) | (simp (maxDischargeDepth := 8) [go_sem, hHeld]; rfl) | (simp (maxDischargeDepth := 8) [go_sem, *]; rfl) | (simp (maxDischargeDepth := 8) [go_sem, *]; done))); refine ⟨ret_r ?_, by go_grown⟩; (exact hp.out.symm))
end Go.Proofs.YtjleflfncijnpaaDoor
