/- Roots and squares, of the document's answer. -/
import Derived.Deep.DeepCutAuto
import Derived.Test.YtjleflfncijnpaaRows
import Derived.Test.YtjleflfncijnpaaBase
import Derived.Test.YtjleflfncijnpaaFacts
import Derived.Test.YtjleflfncijnpaaTwo
import Derived.Deep.RegionHeld3
import Derived.Deep.RegionWith
import Derived.Deep.QuietTactic
import Derived.BigQuiet
import Derived.Test.YtjleflfncijnpaaW
import Derived.Test.YtjleflfncijnpaaAsks
import Derived.Test.YtjleflfncijnpaaOut
import Derived.Test.YtjleflfncijnpaaSeq
import Derived.Test.YtjleflfncijnpaaTwo
import Derived.Test.YtjleflfncijnpaaQuo
import Derived.Test.YtjleflfncijnpaaTimes
import Derived.Test.YtjleflfncijnpaaScaleM
import Derived.Test.YtjleflfncijnpaaMulR
import Derived.Test.YtjleflfncijnpaaRootM
import Derived.Test.YtjleflfncijnpaaRootT
import Derived.Test.YtjleflfncijnpaaPicks
set_option linter.unusedVariables false
set_option linter.unusedSimpArgs false
set_option maxHeartbeats 4000000
set_option maxRecDepth 100000
namespace Go.Proofs.Ytjleflfncijnpaa
open Go Go.RowKit
def st (j : Nat) : Int := ((2 ^ j / 2 : Nat) : Int)
def tw (j : Nat) : Int := ((2 ^ j : Nat) : Int)
theorem st_tw (j : Nat) : st (j + 1) = tw j ∧ tw (j + 1) = 2 * tw j ∧ tw j / 2 = st j ∧ 0 < tw j := by
  have h := Nat.two_pow_pos j
  have e : 2 ^ (j + 1) = 2 ^ j * 2 := Nat.pow_succ 2 j
  unfold st tw
  rw [e]
  generalize 2 ^ j = x at *
  omega
theorem tw_le {j : Nat} (h : j ≤ 48) : tw j ≤ 281474976710656 := by
  have := Nat.pow_le_pow_right (n := 2) (by omega) h
  unfold tw
  omega
theorem floorRoot_any (A : Int) (w : World) (h : 0 ≤ A ∧ A < 79228162514264337593543950336) :
    Calls Try.prog 99 #[.agg #[.int .i64 (hiW A), .int .u64 (loW A)]] w fun e w' => e = .returned (.int .i64 (rtI A)) ∧ Below w.heap.size w w' := by
  have hr0 := (rt_spec h.1).1
  have hr1 : rtI A < 281474976710656 := rt_lt h.1 (by omega) (by omega)
  have h := hid h
  have t49 : tw 49 = 562949953421312 := by decide
  have s49 : st 49 = 281474976710656 := by decide
  go_enter Try.func99, Try.ntmps99
  go_wp2_with fail
  go_loopw [3, 4] (fun r s wx => ∃ (j : Nat) (x : Int), r = .int .i64 x ∧ s = .int .i64 (st j) ∧ j ≤ 49 ∧ 0 ≤ x ∧ x ≤ rtI A ∧ rtI A < x + tw j ∧ (fun w' => w'.cell? ⟨w.heap.size, 0, none⟩ = some (.int .i64 (hiW A)) ∧ w'.cell? ⟨w.heap.size, 1, none⟩ = some (.int .u64 (loW A))) wx ∧ Below w.heap.size w wx) (fun _ s _ => (intOf s).toNat)
  case atStart => exact ⟨49, 0, rfl, by rw [s49], by omega, by omega, hr0, by rw [t49]; omega, by simp [go_sem], by go_grown⟩
  case round =>
    clear t49 s49
    obtain ⟨j, x, rfl, rfl, hj, x0, x1, x2, ⟨a0, a1⟩, hB⟩ := hrel
    cases j with
    | zero =>
      have e : x = rtI A := by have : tw 0 = 1 := by decide
                               omega
      have s0 : st 0 = 0 := by decide
      subst e
      rw [s0]
      clear s0
      go_wp2_with fail
      go_ret
      exact ⟨rfl, by go_grown⟩
    | succ j =>
      obtain ⟨e1, e2, e3, e4⟩ := st_tw j
      rw [e1]
      have e5 := tw_le (j := j) (by omega)
      have E2 := hid e2
      have E3 := hid e3
      clear e1 e2 e3
      have hsq := mul_bd (x := x + tw j) (y := x + tw j) (a := 562949953421312) (b := 562949953421312) (by omega) (by omega)
      simp only [Int.reduceMul] at hsq
      have hl := hid (fun W => less_any A ((x + tw j) * (x + tw j)) W (by have := h.out; omega))
      have ht := hid (fun W => times_any (x + tw j) (x + tw j) W (by omega))
      clear hsq
      by_cases c : A < (x + tw j) * (x + tw j)
      · have g := hid (rt_lt h.out.1 (by omega) c)
        have hd := decide_eq_true c
        clear c
        go_wp2_with fail
        refine wp_region_held_drew (S := (fun w' => w'.cell? ⟨w.heap.size, 0, none⟩ = some (.int .i64 (hiW A)) ∧ w'.cell? ⟨w.heap.size, 1, none⟩ = some (.int .u64 (loW A)))) (by kernel_rfl) (by (try dsimp only); (first | (exact ⟨hk1 _ _ _ (hOld.1), hk1 _ _ _ (hOld.2)⟩) | ((try simp only [World.cell?_drew, World.frozen?_drew]); (repeat' apply And.intro) <;> (first | (with_reducible assumption) | (with_reducible exact ⟨_, by assumption⟩) | (with_reducible exact ⟨_, two_other (by assumption) (by omega)⟩) | (with_reducible exact two_0 (by assumption)) | (with_reducible exact two_1 (by assumption)) | (with_reducible exact two_other (by assumption) (by omega)) | (with_reducible exact two_fz (by assumption)) | (with_reducible exact keepA _ (by assumption)) | (with_reducible exact keepA _ (keepA _ (keepA _ (by assumption)))) | (simp (maxDischargeDepth := 8) [*, go_sem, World.cell?_alloc_some, World.cell?_setCell_far]; done))) | (go_keep; done) | (simp (maxDischargeDepth := 8) [*, go_sem, World.cell?_alloc_some, World.cell?_setCell_far]; done))) (fun hHeld => ?_)
        (refine wpAnyH_take (i := 0) (oi := ⟨some 13, _, _, _, _, none⟩) (v := ?_) rfl (by kernel_rfl) (by kernel_rfl) (by kernel_rfl) (fun _ _ _ h => h) (Or.inl ⟨by rfl, ?_⟩) hHeld ?_; rotate_left; (· (intro w9 hSw; (try dsimp only at hSw); go_simp; (try with_reducible rfl))))
        (try simp only [Act.put, List.setIfInBounds_toArray, List.set_cons_zero, List.set_cons_succ])
        (refine wpAnyH_take (i := 1) (oi := ⟨some 14, _, _, _, _, none⟩) (v := ?_) rfl (by kernel_rfl) (by kernel_rfl) (by kernel_rfl) (fun _ _ _ h => h) (Or.inl ⟨by rfl, ?_⟩) hHeld ?_; rotate_left; (· (intro w9 hSw; (try dsimp only at hSw); go_simp; (try with_reducible rfl))))
        (try simp only [Act.put, List.setIfInBounds_toArray, List.set_cons_zero, List.set_cons_succ])
        (refine wpAnyH_take (i := 2) (oi := ⟨some 15, _, _, _, _, none⟩) (v := ?_) rfl (by kernel_rfl) (by kernel_rfl) (by kernel_rfl) (fun _ _ _ h => h) (Or.inl ⟨by rfl, ?_⟩) hHeld ?_; rotate_left; (· (intro w9 hSw; (try dsimp only at hSw); go_simp; (try with_reducible rfl))))
        (try simp only [Act.put, List.setIfInBounds_toArray, List.set_cons_zero, List.set_cons_succ])
        (refine wpAnyH_ready (rs := [3]) (by kernel_rfl) (by simp) ?_; refine AllReadyH.cons (o := ⟨some 16, _, _, _, _, none⟩) rfl (fun K hK => ?_) AllReadyH.nil; go_simp; (first | (go_at_call 91; refine useF w (ht.out _) (by go_grown) ?_; rintro e w1 rfl hB1 hk1 hf1 hs1; have hz1 := hB1.size) | (go_at_call 92; refine useF w (hl.out _) (by go_grown) ?_; rintro e w1 rfl hB1 hk1 hf1 hs1; have hz1 := hB1.size)); have hOld := hHeld; clear hHeld; refine hK.out _ _ ?_ (fun hHeld => ?_); (· ((try dsimp only); (first | (exact ⟨hk1 _ _ _ (hOld.1), hk1 _ _ _ (hOld.2)⟩) | ((try simp only [World.cell?_drew, World.frozen?_drew]); (repeat' apply And.intro) <;> (first | (with_reducible assumption) | (with_reducible exact ⟨_, by assumption⟩) | (with_reducible exact ⟨_, two_other (by assumption) (by omega)⟩) | (with_reducible exact two_0 (by assumption)) | (with_reducible exact two_1 (by assumption)) | (with_reducible exact two_other (by assumption) (by omega)) | (with_reducible exact two_fz (by assumption)) | (with_reducible exact keepA _ (by assumption)) | (with_reducible exact keepA _ (keepA _ (keepA _ (by assumption)))) | (simp (maxDischargeDepth := 8) [*, go_sem, World.cell?_alloc_some, World.cell?_setCell_far]; done))) | (go_keep; done) | (simp (maxDischargeDepth := 8) [*, go_sem, World.cell?_alloc_some, World.cell?_setCell_far]; done)))); clear hK K hOld; (try clear hc1 hf1); (try clear hk1 hf1))
        (try simp only [Act.put, List.setIfInBounds_toArray, List.set_cons_zero, List.set_cons_succ])
        (refine wpAnyH_ready (rs := [4]) (by kernel_rfl) (by simp) ?_; refine AllReadyH.cons (o := ⟨some 17, _, _, _, _, none⟩) rfl (fun K hK => ?_) AllReadyH.nil; go_simp; (first | (go_at_call 91; refine useF w (ht.out _) (by go_grown) ?_; rintro e w1 rfl hB1 hk1 hf1 hs1; have hz1 := hB1.size) | (go_at_call 92; refine useF w (hl.out _) (by go_grown) ?_; rintro e w1 rfl hB1 hk1 hf1 hs1; have hz1 := hB1.size)); have hOld := hHeld; clear hHeld; refine hK.out _ _ ?_ (fun hHeld => ?_); (· ((try dsimp only); (first | (exact ⟨hk1 _ _ _ (hOld.1), hk1 _ _ _ (hOld.2)⟩) | ((try simp only [World.cell?_drew, World.frozen?_drew]); (repeat' apply And.intro) <;> (first | (with_reducible assumption) | (with_reducible exact ⟨_, by assumption⟩) | (with_reducible exact ⟨_, two_other (by assumption) (by omega)⟩) | (with_reducible exact two_0 (by assumption)) | (with_reducible exact two_1 (by assumption)) | (with_reducible exact two_other (by assumption) (by omega)) | (with_reducible exact two_fz (by assumption)) | (with_reducible exact keepA _ (by assumption)) | (with_reducible exact keepA _ (keepA _ (keepA _ (by assumption)))) | (simp (maxDischargeDepth := 8) [*, go_sem, World.cell?_alloc_some, World.cell?_setCell_far]; done))) | (go_keep; done) | (simp (maxDischargeDepth := 8) [*, go_sem, World.cell?_alloc_some, World.cell?_setCell_far]; done)))); clear hK K hOld; (try clear hc1 hf1); (try clear hk1 hf1))
        (try simp only [Act.put, List.setIfInBounds_toArray, List.set_cons_zero, List.set_cons_succ])
        (refine wpAnyH_take (i := 5) (oi := ⟨some 18, _, _, _, _, none⟩) (v := ?_) rfl (by kernel_rfl) (by kernel_rfl) (by kernel_rfl) (fun _ _ _ h => h) (Or.inl ⟨by rfl, ?_⟩) hHeld ?_; rotate_left; (· (intro w9 hSw; (try dsimp only at hSw); go_simp; (try with_reducible rfl))))
        (try simp only [Act.put, List.setIfInBounds_toArray, List.set_cons_zero, List.set_cons_succ])
        refine wpAnyH_done (by kernel_rfl) ?_ _
        go_wp2_with fail
        go_roundw
        case rel => have := g.out; exact ⟨j, x, rfl, by rw [← E3.out], by omega, x0, x1, by omega, hHeld, by assumption⟩
        case measure => simp [intOf]; omega
      · have g := hid (rt_le h.out.1 (k := x + tw j) (by omega) (by omega))
        have hd := decide_eq_false c
        clear c
        go_wp2_with fail
        refine wp_region_held_drew (S := (fun w' => w'.cell? ⟨w.heap.size, 0, none⟩ = some (.int .i64 (hiW A)) ∧ w'.cell? ⟨w.heap.size, 1, none⟩ = some (.int .u64 (loW A)))) (by kernel_rfl) (by (try dsimp only); (first | (exact ⟨hk1 _ _ _ (hOld.1), hk1 _ _ _ (hOld.2)⟩) | ((try simp only [World.cell?_drew, World.frozen?_drew]); (repeat' apply And.intro) <;> (first | (with_reducible assumption) | (with_reducible exact ⟨_, by assumption⟩) | (with_reducible exact ⟨_, two_other (by assumption) (by omega)⟩) | (with_reducible exact two_0 (by assumption)) | (with_reducible exact two_1 (by assumption)) | (with_reducible exact two_other (by assumption) (by omega)) | (with_reducible exact two_fz (by assumption)) | (with_reducible exact keepA _ (by assumption)) | (with_reducible exact keepA _ (keepA _ (keepA _ (by assumption)))) | (simp (maxDischargeDepth := 8) [*, go_sem, World.cell?_alloc_some, World.cell?_setCell_far]; done))) | (go_keep; done) | (simp (maxDischargeDepth := 8) [*, go_sem, World.cell?_alloc_some, World.cell?_setCell_far]; done))) (fun hHeld => ?_)
        (refine wpAnyH_take (i := 0) (oi := ⟨some 13, _, _, _, _, none⟩) (v := ?_) rfl (by kernel_rfl) (by kernel_rfl) (by kernel_rfl) (fun _ _ _ h => h) (Or.inl ⟨by rfl, ?_⟩) hHeld ?_; rotate_left; (· (intro w9 hSw; (try dsimp only at hSw); go_simp; (try with_reducible rfl))))
        (try simp only [Act.put, List.setIfInBounds_toArray, List.set_cons_zero, List.set_cons_succ])
        (refine wpAnyH_take (i := 1) (oi := ⟨some 14, _, _, _, _, none⟩) (v := ?_) rfl (by kernel_rfl) (by kernel_rfl) (by kernel_rfl) (fun _ _ _ h => h) (Or.inl ⟨by rfl, ?_⟩) hHeld ?_; rotate_left; (· (intro w9 hSw; (try dsimp only at hSw); go_simp; (try with_reducible rfl))))
        (try simp only [Act.put, List.setIfInBounds_toArray, List.set_cons_zero, List.set_cons_succ])
        (refine wpAnyH_take (i := 2) (oi := ⟨some 15, _, _, _, _, none⟩) (v := ?_) rfl (by kernel_rfl) (by kernel_rfl) (by kernel_rfl) (fun _ _ _ h => h) (Or.inl ⟨by rfl, ?_⟩) hHeld ?_; rotate_left; (· (intro w9 hSw; (try dsimp only at hSw); go_simp; (try with_reducible rfl))))
        (try simp only [Act.put, List.setIfInBounds_toArray, List.set_cons_zero, List.set_cons_succ])
        (refine wpAnyH_ready (rs := [3]) (by kernel_rfl) (by simp) ?_; refine AllReadyH.cons (o := ⟨some 16, _, _, _, _, none⟩) rfl (fun K hK => ?_) AllReadyH.nil; go_simp; (first | (go_at_call 91; refine useF w (ht.out _) (by go_grown) ?_; rintro e w1 rfl hB1 hk1 hf1 hs1; have hz1 := hB1.size) | (go_at_call 92; refine useF w (hl.out _) (by go_grown) ?_; rintro e w1 rfl hB1 hk1 hf1 hs1; have hz1 := hB1.size)); have hOld := hHeld; clear hHeld; refine hK.out _ _ ?_ (fun hHeld => ?_); (· ((try dsimp only); (first | (exact ⟨hk1 _ _ _ (hOld.1), hk1 _ _ _ (hOld.2)⟩) | ((try simp only [World.cell?_drew, World.frozen?_drew]); (repeat' apply And.intro) <;> (first | (with_reducible assumption) | (with_reducible exact ⟨_, by assumption⟩) | (with_reducible exact ⟨_, two_other (by assumption) (by omega)⟩) | (with_reducible exact two_0 (by assumption)) | (with_reducible exact two_1 (by assumption)) | (with_reducible exact two_other (by assumption) (by omega)) | (with_reducible exact two_fz (by assumption)) | (with_reducible exact keepA _ (by assumption)) | (with_reducible exact keepA _ (keepA _ (keepA _ (by assumption)))) | (simp (maxDischargeDepth := 8) [*, go_sem, World.cell?_alloc_some, World.cell?_setCell_far]; done))) | (go_keep; done) | (simp (maxDischargeDepth := 8) [*, go_sem, World.cell?_alloc_some, World.cell?_setCell_far]; done)))); clear hK K hOld; (try clear hc1 hf1); (try clear hk1 hf1))
        (try simp only [Act.put, List.setIfInBounds_toArray, List.set_cons_zero, List.set_cons_succ])
        (refine wpAnyH_ready (rs := [4]) (by kernel_rfl) (by simp) ?_; refine AllReadyH.cons (o := ⟨some 17, _, _, _, _, none⟩) rfl (fun K hK => ?_) AllReadyH.nil; go_simp; (first | (go_at_call 91; refine useF w (ht.out _) (by go_grown) ?_; rintro e w1 rfl hB1 hk1 hf1 hs1; have hz1 := hB1.size) | (go_at_call 92; refine useF w (hl.out _) (by go_grown) ?_; rintro e w1 rfl hB1 hk1 hf1 hs1; have hz1 := hB1.size)); have hOld := hHeld; clear hHeld; refine hK.out _ _ ?_ (fun hHeld => ?_); (· ((try dsimp only); (first | (exact ⟨hk1 _ _ _ (hOld.1), hk1 _ _ _ (hOld.2)⟩) | ((try simp only [World.cell?_drew, World.frozen?_drew]); (repeat' apply And.intro) <;> (first | (with_reducible assumption) | (with_reducible exact ⟨_, by assumption⟩) | (with_reducible exact ⟨_, two_other (by assumption) (by omega)⟩) | (with_reducible exact two_0 (by assumption)) | (with_reducible exact two_1 (by assumption)) | (with_reducible exact two_other (by assumption) (by omega)) | (with_reducible exact two_fz (by assumption)) | (with_reducible exact keepA _ (by assumption)) | (with_reducible exact keepA _ (keepA _ (keepA _ (by assumption)))) | (simp (maxDischargeDepth := 8) [*, go_sem, World.cell?_alloc_some, World.cell?_setCell_far]; done))) | (go_keep; done) | (simp (maxDischargeDepth := 8) [*, go_sem, World.cell?_alloc_some, World.cell?_setCell_far]; done)))); clear hK K hOld; (try clear hc1 hf1); (try clear hk1 hf1))
        (try simp only [Act.put, List.setIfInBounds_toArray, List.set_cons_zero, List.set_cons_succ])
        (refine wpAnyH_take (i := 5) (oi := ⟨some 18, _, _, _, _, none⟩) (v := ?_) rfl (by kernel_rfl) (by kernel_rfl) (by kernel_rfl) (fun _ _ _ h => h) (Or.inl ⟨by rfl, ?_⟩) hHeld ?_; rotate_left; (· (intro w9 hSw; (try dsimp only at hSw); go_simp; (try with_reducible rfl))))
        (try simp only [Act.put, List.setIfInBounds_toArray, List.set_cons_zero, List.set_cons_succ])
        refine wpAnyH_done (by kernel_rfl) ?_ _
        go_wp2_with fail
        go_roundw
        case rel => have := g.out; have := E2.out; exact ⟨j, x + tw j, rfl, by rw [← E3.out], by omega, by omega, by omega, by omega, hHeld, by assumption⟩
        case measure => simp [intOf]; omega
theorem rroot_any (lo hi : Int) (w : World) (h : (-9223372036854775808 ≤ lo ∧ lo ≤ 9223372036854775807) ∧ (-9223372036854775808 ≤ hi ∧ hi ≤ 9223372036854775807)) :
    Calls Try.prog 36 #[.agg #[.int .i64 lo, .int .i64 hi]] w fun e w' => e = .returned (.tuple #[.agg #[.int .i64 ((rootS lo hi).1), .int .i64 ((rootS lo hi).2.1)], .int .i64 ((rootS lo hi).2.2)]) ∧ Below w.heap.size w w' := by
  rcases chk_cases lo hi with ⟨e, k1, k2⟩ | ⟨e, k1⟩
  · have hp := show rootS lo hi = _ from if_pos e
    by_cases c : hi < 0
    · rw [if_pos c] at hp
      have hp := hid hp
      obtain ⟨⟨a1, a2⟩, b1, b2⟩ := h
      go_enter Try.func36, Try.ntmps36
      go_wp2_with fail
      refine useF w (rcheck_any _ _ _ (by omega)) (by go_grown) ?_; rintro e w1 rfl hB1 hk1 hf1 hs1
      replace f10 : w1.frozen? ⟨w.heap.size + 1, 0, none⟩ = false := hf1 _ _ (.int .i64 0) (by simp [go_sem]) (by simp [go_sem])
      replace f11 : w1.frozen? ⟨w.heap.size + 1, 1, none⟩ = false := hf1 _ _ (.int .i64 0) (by simp [go_sem]) (by simp [go_sem])
      replace p00 : w1.cell? ⟨w.heap.size, 0, none⟩ = some (.int .i64 lo) := hk1 _ _ _ (by simp [go_sem])
      replace p01 : w1.cell? ⟨w.heap.size, 1, none⟩ = some (.int .i64 hi) := hk1 _ _ _ (by simp [go_sem])
      replace p10 : w1.cell? ⟨w.heap.size + 1, 0, none⟩ = some (.int .i64 0) := hk1 _ _ _ (by simp [go_sem])
      replace p11 : w1.cell? ⟨w.heap.size + 1, 1, none⟩ = some (.int .i64 0) := hk1 _ _ _ (by simp [go_sem])
      have bp00 : w.heap.size < w1.heap.size := World.block_lt_of_cell? w1 ⟨w.heap.size, 0, none⟩ p00
      have bp10 : w.heap.size + 1 < w1.heap.size := World.block_lt_of_cell? w1 ⟨w.heap.size + 1, 0, none⟩ p10
      clear hk1 hf1
      go_wp2_with fail
      all_goals (refine' bodyPost_ret (res_st_t rfl isA_S isS_S rfl ?_ ?_) rfl ?_; rotate_left 2; (· ((try simp only [World.cell?_drew]); first | (with_reducible exact two_0 (by assumption)) | (with_reducible exact two_1 (by assumption)) | (with_reducible exact two_other (two_0 (by assumption)) (by simp)) | (with_reducible exact two_other (two_1 (by assumption)) (by simp)) | (with_reducible exact two_0 (two_other (by assumption) (by simp))) | (with_reducible exact two_1 (two_other (by assumption) (by simp))) | (simp (maxDischargeDepth := 8) [go_sem, hHeld]; rfl) | (simp (maxDischargeDepth := 8) [go_sem, *]; rfl) | (simp (maxDischargeDepth := 8) [go_sem, *]; done))); (· ((try simp only [World.cell?_drew]); first | (with_reducible exact two_0 (by assumption)) | (with_reducible exact two_1 (by assumption)) | (with_reducible exact two_other (two_0 (by assumption)) (by simp)) | (with_reducible exact two_other (two_1 (by assumption)) (by simp)) | (with_reducible exact two_0 (two_other (by assumption) (by simp))) | (with_reducible exact two_1 (two_other (by assumption) (by simp))) | (simp (maxDischargeDepth := 8) [go_sem, hHeld]; rfl) | (simp (maxDischargeDepth := 8) [go_sem, *]; rfl) | (simp (maxDischargeDepth := 8) [go_sem, *]; done))); refine ⟨ret_r ?_, by go_grown⟩; (exact hp.out.symm))
    · rw [if_neg c] at hp
      have hs := rt_spec (n := hi * 4294967296) (by omega)
      have hr : rtI (hi * 4294967296) < 281474976710656 := rt_lt (n := hi * 4294967296) (k := 281474976710656) (by omega) (by omega) (by omega)
      have hr0 := hs.1
      have hsq := mul_bd (x := rtI (hi * 4294967296)) (y := rtI (hi * 4294967296)) (a := 281474976710656) (b := 281474976710656) (by omega) (by omega)
      simp only [Int.reduceMul] at hsq
      have hl := hid (fun W => less_any (rtI (hi * 4294967296) * rtI (hi * 4294967296)) (hi * 4294967296) W (by omega))
      have ht := hid (fun W => times_any (rtI (hi * 4294967296)) (rtI (hi * 4294967296)) W (by omega))
      have hf1 := hid (fun W => floorRoot_any (hi * 4294967296) W (by omega))
      have hf2 := hid (fun W => floorRoot_any (max lo 0 * 4294967296) W (by omega))
      have hw := hid (fun W => wide_any (max lo 0) W (by omega))
      have hru : ruI (hi * 4294967296) = if rtI (hi * 4294967296) * rtI (hi * 4294967296) = hi * 4294967296 then rtI (hi * 4294967296) else rtI (hi * 4294967296) + 1 := rfl
      have hle := hs.2.1
      obtain ⟨⟨a1, a2⟩, b1, b2⟩ := h
      have hwp := hid (show wrap64 (rtI (hi * 4294967296) + 1) = rtI (hi * 4294967296) + 1 by unfold wrap64; omega)
      clear hs hsq hr hr0
      by_cases d : rtI (hi * 4294967296) * rtI (hi * 4294967296) = hi * 4294967296
      · rw [if_pos d] at hru
        have hq := hid (hp.trans (by rw [hru] : _ = (rtI (max lo 0 * 4294967296), rtI (hi * 4294967296), (0 : Int))))
        have hd : decide (rtI (hi * 4294967296) * rtI (hi * 4294967296) < hi * 4294967296) = false := decide_eq_false (by omega)
        clear d hru hp hle
        go_enter Try.func36, Try.ntmps36
        go_wp2_with fail
        refine useF w (rcheck_any _ _ _ (by omega)) (by go_grown) ?_; rintro e w1 rfl hB1 hk1 hf1 hs1
        replace f10 : w1.frozen? ⟨w.heap.size + 1, 0, none⟩ = false := hf1 _ _ (.int .i64 0) (by simp [go_sem]) (by simp [go_sem])
        replace f11 : w1.frozen? ⟨w.heap.size + 1, 1, none⟩ = false := hf1 _ _ (.int .i64 0) (by simp [go_sem]) (by simp [go_sem])
        replace p00 : w1.cell? ⟨w.heap.size, 0, none⟩ = some (.int .i64 lo) := hk1 _ _ _ (by simp [go_sem])
        replace p01 : w1.cell? ⟨w.heap.size, 1, none⟩ = some (.int .i64 hi) := hk1 _ _ _ (by simp [go_sem])
        replace p10 : w1.cell? ⟨w.heap.size + 1, 0, none⟩ = some (.int .i64 0) := hk1 _ _ _ (by simp [go_sem])
        replace p11 : w1.cell? ⟨w.heap.size + 1, 1, none⟩ = some (.int .i64 0) := hk1 _ _ _ (by simp [go_sem])
        have bp00 : w.heap.size < w1.heap.size := World.block_lt_of_cell? w1 ⟨w.heap.size, 0, none⟩ p00
        have bp10 : w.heap.size + 1 < w1.heap.size := World.block_lt_of_cell? w1 ⟨w.heap.size + 1, 0, none⟩ p10
        clear hk1 hf1
        go_wp2_with fail
        refine useF w (hw.out _) (by go_grown) ?_; rintro e w2 rfl hB2 hk2 hf2 hs2
        replace f10 : w2.frozen? ⟨w.heap.size + 1, 0, none⟩ = false := hf2 _ _ _ (p10) (f10)
        replace f11 : w2.frozen? ⟨w.heap.size + 1, 1, none⟩ = false := hf2 _ _ _ (p11) (f11)
        replace p00 : w2.cell? ⟨w.heap.size, 0, none⟩ = some (.int .i64 lo) := hk2 _ _ _ (p00)
        replace p01 : w2.cell? ⟨w.heap.size, 1, none⟩ = some (.int .i64 hi) := hk2 _ _ _ (p01)
        replace p10 : w2.cell? ⟨w.heap.size + 1, 0, none⟩ = some (.int .i64 0) := hk2 _ _ _ (p10)
        replace p11 : w2.cell? ⟨w.heap.size + 1, 1, none⟩ = some (.int .i64 0) := hk2 _ _ _ (p11)
        have bp00 : w.heap.size < w2.heap.size := World.block_lt_of_cell? w2 ⟨w.heap.size, 0, none⟩ p00
        have bp10 : w.heap.size + 1 < w2.heap.size := World.block_lt_of_cell? w2 ⟨w.heap.size + 1, 0, none⟩ p10
        clear hk2 hf2
        go_wp2_with fail
        refine useF w (up32_any _ _) (by go_grown) ?_; rintro e w3 rfl hB3 hk3 hf3 hs3
        replace f10 : w3.frozen? ⟨w.heap.size + 1, 0, none⟩ = false := hf3 _ _ _ (p10) (f10)
        replace f11 : w3.frozen? ⟨w.heap.size + 1, 1, none⟩ = false := hf3 _ _ _ (p11) (f11)
        replace p00 : w3.cell? ⟨w.heap.size, 0, none⟩ = some (.int .i64 lo) := hk3 _ _ _ (p00)
        replace p01 : w3.cell? ⟨w.heap.size, 1, none⟩ = some (.int .i64 hi) := hk3 _ _ _ (p01)
        replace p10 : w3.cell? ⟨w.heap.size + 1, 0, none⟩ = some (.int .i64 0) := hk3 _ _ _ (p10)
        replace p11 : w3.cell? ⟨w.heap.size + 1, 1, none⟩ = some (.int .i64 0) := hk3 _ _ _ (p11)
        have bp00 : w.heap.size < w3.heap.size := World.block_lt_of_cell? w3 ⟨w.heap.size, 0, none⟩ p00
        have bp10 : w.heap.size + 1 < w3.heap.size := World.block_lt_of_cell? w3 ⟨w.heap.size + 1, 0, none⟩ p10
        clear hk3 hf3
        go_wp2_with fail
        refine useF w (wide_any hi _ (by omega)) (by go_grown) ?_; rintro e w4 rfl hB4 hk4 hf4 hs4
        replace f10 : w4.frozen? ⟨w.heap.size + 1, 0, none⟩ = false := hf4 _ _ _ ((keepA _ p10)) ((keepAF _ (p10) f10))
        replace f11 : w4.frozen? ⟨w.heap.size + 1, 1, none⟩ = false := hf4 _ _ _ ((keepA _ p11)) ((keepAF _ (p11) f11))
        replace p00 : w4.cell? ⟨w.heap.size, 0, none⟩ = some (.int .i64 lo) := hk4 _ _ _ ((keepA _ p00))
        replace p01 : w4.cell? ⟨w.heap.size, 1, none⟩ = some (.int .i64 hi) := hk4 _ _ _ ((keepA _ p01))
        replace p10 : w4.cell? ⟨w.heap.size + 1, 0, none⟩ = some (.int .i64 0) := hk4 _ _ _ ((keepA _ p10))
        replace p11 : w4.cell? ⟨w.heap.size + 1, 1, none⟩ = some (.int .i64 0) := hk4 _ _ _ ((keepA _ p11))
        replace l300 : w4.cell? ⟨w3.heap.size, 0, none⟩ = some (.int .i64 (hiW (max lo 0 * 4294967296))) := hk4 _ _ _ (by simp [go_sem])
        replace l301 : w4.cell? ⟨w3.heap.size, 1, none⟩ = some (.int .u64 (loW (max lo 0 * 4294967296))) := hk4 _ _ _ (by simp [go_sem])
        have bp00 : w.heap.size < w4.heap.size := World.block_lt_of_cell? w4 ⟨w.heap.size, 0, none⟩ p00
        have bp10 : w.heap.size + 1 < w4.heap.size := World.block_lt_of_cell? w4 ⟨w.heap.size + 1, 0, none⟩ p10
        have bl300 : w3.heap.size < w4.heap.size := World.block_lt_of_cell? w4 ⟨w3.heap.size, 0, none⟩ l300
        clear hk4 hf4
        go_wp2_with fail
        refine useF w (up32_any _ _) (by go_grown) ?_; rintro e w5 rfl hB5 hk5 hf5 hs5
        replace f10 : w5.frozen? ⟨w.heap.size + 1, 0, none⟩ = false := hf5 _ _ _ (p10) (f10)
        replace f11 : w5.frozen? ⟨w.heap.size + 1, 1, none⟩ = false := hf5 _ _ _ (p11) (f11)
        replace p00 : w5.cell? ⟨w.heap.size, 0, none⟩ = some (.int .i64 lo) := hk5 _ _ _ (p00)
        replace p01 : w5.cell? ⟨w.heap.size, 1, none⟩ = some (.int .i64 hi) := hk5 _ _ _ (p01)
        replace p10 : w5.cell? ⟨w.heap.size + 1, 0, none⟩ = some (.int .i64 0) := hk5 _ _ _ (p10)
        replace p11 : w5.cell? ⟨w.heap.size + 1, 1, none⟩ = some (.int .i64 0) := hk5 _ _ _ (p11)
        replace l300 : w5.cell? ⟨w3.heap.size, 0, none⟩ = some (.int .i64 (hiW (max lo 0 * 4294967296))) := hk5 _ _ _ (l300)
        replace l301 : w5.cell? ⟨w3.heap.size, 1, none⟩ = some (.int .u64 (loW (max lo 0 * 4294967296))) := hk5 _ _ _ (l301)
        have bp00 : w.heap.size < w5.heap.size := World.block_lt_of_cell? w5 ⟨w.heap.size, 0, none⟩ p00
        have bp10 : w.heap.size + 1 < w5.heap.size := World.block_lt_of_cell? w5 ⟨w.heap.size + 1, 0, none⟩ p10
        have bl300 : w3.heap.size < w5.heap.size := World.block_lt_of_cell? w5 ⟨w3.heap.size, 0, none⟩ l300
        clear hk5 hf5
        go_wp2_with fail
        refine useF w (hf1.out _) (by go_grown) ?_; rintro e w6 rfl hB6 hk6 hf6 hs6
        replace f10 : w6.frozen? ⟨w.heap.size + 1, 0, none⟩ = false := hf6 _ _ _ ((keepA _ p10)) ((keepAF _ (p10) f10))
        replace f11 : w6.frozen? ⟨w.heap.size + 1, 1, none⟩ = false := hf6 _ _ _ ((keepA _ p11)) ((keepAF _ (p11) f11))
        replace p00 : w6.cell? ⟨w.heap.size, 0, none⟩ = some (.int .i64 lo) := hk6 _ _ _ ((keepA _ p00))
        replace p01 : w6.cell? ⟨w.heap.size, 1, none⟩ = some (.int .i64 hi) := hk6 _ _ _ ((keepA _ p01))
        replace p10 : w6.cell? ⟨w.heap.size + 1, 0, none⟩ = some (.int .i64 0) := hk6 _ _ _ ((keepA _ p10))
        replace p11 : w6.cell? ⟨w.heap.size + 1, 1, none⟩ = some (.int .i64 0) := hk6 _ _ _ ((keepA _ p11))
        replace l300 : w6.cell? ⟨w3.heap.size, 0, none⟩ = some (.int .i64 (hiW (max lo 0 * 4294967296))) := hk6 _ _ _ ((keepA _ l300))
        replace l301 : w6.cell? ⟨w3.heap.size, 1, none⟩ = some (.int .u64 (loW (max lo 0 * 4294967296))) := hk6 _ _ _ ((keepA _ l301))
        replace l500 : w6.cell? ⟨w5.heap.size, 0, none⟩ = some (.int .i64 (hiW (hi * 4294967296))) := hk6 _ _ _ (by simp [go_sem])
        replace l501 : w6.cell? ⟨w5.heap.size, 1, none⟩ = some (.int .u64 (loW (hi * 4294967296))) := hk6 _ _ _ (by simp [go_sem])
        have bp00 : w.heap.size < w6.heap.size := World.block_lt_of_cell? w6 ⟨w.heap.size, 0, none⟩ p00
        have bp10 : w.heap.size + 1 < w6.heap.size := World.block_lt_of_cell? w6 ⟨w.heap.size + 1, 0, none⟩ p10
        have bl300 : w3.heap.size < w6.heap.size := World.block_lt_of_cell? w6 ⟨w3.heap.size, 0, none⟩ l300
        have bl500 : w5.heap.size < w6.heap.size := World.block_lt_of_cell? w6 ⟨w5.heap.size, 0, none⟩ l500
        clear hk6 hf6
        go_wp2_with fail
        refine wp_region_held_drew (S := (fun w' => w'.cell? ⟨w.heap.size + 1, 0, none⟩ = some (.int .i64 0) ∧ w'.cell? ⟨w.heap.size + 1, 1, none⟩ = some (.int .i64 0) ∧ w'.frozen? ⟨w.heap.size + 1, 0, none⟩ = false ∧ w'.frozen? ⟨w.heap.size + 1, 1, none⟩ = false ∧ w'.cell? ⟨w3.heap.size, 0, none⟩ = some (.int .i64 (hiW (max lo 0 * 4294967296))) ∧ w'.cell? ⟨w3.heap.size, 1, none⟩ = some (.int .u64 (loW (max lo 0 * 4294967296))) ∧ w'.cell? ⟨w5.heap.size, 0, none⟩ = some (.int .i64 (hiW (hi * 4294967296))) ∧ w'.cell? ⟨w5.heap.size, 1, none⟩ = some (.int .u64 (loW (hi * 4294967296))))) (by kernel_rfl) (by (try dsimp only); (first | (exact ⟨hk1 _ _ _ (hOld.1), hk1 _ _ _ (hOld.2.1), hf1 _ _ _ (hOld.1) (hOld.2.2.1), hf1 _ _ _ (hOld.2.1) (hOld.2.2.2.1), hk1 _ _ _ (hOld.2.2.2.2.1), hk1 _ _ _ (hOld.2.2.2.2.2.1), hk1 _ _ _ (hOld.2.2.2.2.2.2.1), hk1 _ _ _ (hOld.2.2.2.2.2.2.2)⟩) | ((try simp only [World.cell?_drew, World.frozen?_drew]); (repeat' apply And.intro) <;> (first | (with_reducible assumption) | (with_reducible exact ⟨_, by assumption⟩) | (with_reducible exact ⟨_, two_other (by assumption) (by omega)⟩) | (with_reducible exact two_0 (by assumption)) | (with_reducible exact two_1 (by assumption)) | (with_reducible exact two_other (by assumption) (by omega)) | (with_reducible exact two_fz (by assumption)) | (with_reducible exact keepA _ (by assumption)) | (with_reducible exact keepA _ (keepA _ (keepA _ (by assumption)))) | (simp (maxDischargeDepth := 8) [*, go_sem, World.cell?_alloc_some, World.cell?_setCell_far]; done))) | (go_keep; done) | (simp (maxDischargeDepth := 8) [*, go_sem, World.cell?_alloc_some, World.cell?_setCell_far]; done))) (fun hHeld => ?_)
        (refine wpAnyH_take (i := 0) (oi := ⟨some 26, _, _, _, _, none⟩) (v := ?_) rfl (by kernel_rfl) (by kernel_rfl) (by kernel_rfl) (fun _ _ _ h => h) (Or.inl ⟨by rfl, ?_⟩) hHeld ?_; rotate_left; (· (intro w9 hSw; (try dsimp only at hSw); go_simp; (try with_reducible rfl))))
        (try simp only [Act.put, List.setIfInBounds_toArray, List.set_cons_zero, List.set_cons_succ])
        (refine wpAnyH_take (i := 1) (oi := ⟨some 27, _, _, _, _, none⟩) (v := ?_) rfl (by kernel_rfl) (by kernel_rfl) (by kernel_rfl) (fun _ _ _ h => h) (Or.inl ⟨by rfl, ?_⟩) hHeld ?_; rotate_left; (· (intro w9 hSw; (try dsimp only at hSw); go_simp; (try with_reducible rfl))))
        (try simp only [Act.put, List.setIfInBounds_toArray, List.set_cons_zero, List.set_cons_succ])
        (refine wpAnyH_take (i := 3) (oi := ⟨some 29, _, _, _, _, none⟩) (v := ?_) rfl (by kernel_rfl) (by kernel_rfl) (by kernel_rfl) (fun _ _ _ h => h) (Or.inl ⟨by rfl, ?_⟩) hHeld ?_; rotate_left; (· (intro w9 hSw; (try dsimp only at hSw); go_simp; (try with_reducible rfl))))
        (try simp only [Act.put, List.setIfInBounds_toArray, List.set_cons_zero, List.set_cons_succ])
        (refine wpAnyH_ready (rs := [2]) (by kernel_rfl) (by simp) ?_; refine AllReadyH.cons (o := ⟨some 28, _, _, _, _, none⟩) rfl (fun K hK => ?_) AllReadyH.nil; go_simp; (first | (go_at_call 91; refine useF w (ht.out _) (by go_grown) ?_; rintro e w1 rfl hB1 hk1 hf1 hs1; have hz1 := hB1.size) | (go_at_call 92; refine useF w (hl.out _) (by go_grown) ?_; rintro e w1 rfl hB1 hk1 hf1 hs1; have hz1 := hB1.size)); have hOld := hHeld; clear hHeld; refine hK.out _ _ ?_ (fun hHeld => ?_); (· ((try dsimp only); (first | (exact ⟨hk1 _ _ _ (hOld.1), hk1 _ _ _ (hOld.2.1), hf1 _ _ _ (hOld.1) (hOld.2.2.1), hf1 _ _ _ (hOld.2.1) (hOld.2.2.2.1), hk1 _ _ _ (hOld.2.2.2.2.1), hk1 _ _ _ (hOld.2.2.2.2.2.1), hk1 _ _ _ (hOld.2.2.2.2.2.2.1), hk1 _ _ _ (hOld.2.2.2.2.2.2.2)⟩) | ((try simp only [World.cell?_drew, World.frozen?_drew]); (repeat' apply And.intro) <;> (first | (with_reducible assumption) | (with_reducible exact ⟨_, by assumption⟩) | (with_reducible exact ⟨_, two_other (by assumption) (by omega)⟩) | (with_reducible exact two_0 (by assumption)) | (with_reducible exact two_1 (by assumption)) | (with_reducible exact two_other (by assumption) (by omega)) | (with_reducible exact two_fz (by assumption)) | (with_reducible exact keepA _ (by assumption)) | (with_reducible exact keepA _ (keepA _ (keepA _ (by assumption)))) | (simp (maxDischargeDepth := 8) [*, go_sem, World.cell?_alloc_some, World.cell?_setCell_far]; done))) | (go_keep; done) | (simp (maxDischargeDepth := 8) [*, go_sem, World.cell?_alloc_some, World.cell?_setCell_far]; done)))); clear hK K hOld; (try clear hc1 hf1); (try clear hk1 hf1))
        (try simp only [Act.put, List.setIfInBounds_toArray, List.set_cons_zero, List.set_cons_succ])
        (refine wpAnyH_ready (rs := [4]) (by kernel_rfl) (by simp) ?_; refine AllReadyH.cons (o := ⟨some 30, _, _, _, _, none⟩) rfl (fun K hK => ?_) AllReadyH.nil; go_simp; (first | (go_at_call 91; refine useF w (ht.out _) (by go_grown) ?_; rintro e w1 rfl hB1 hk1 hf1 hs1; have hz1 := hB1.size) | (go_at_call 92; refine useF w (hl.out _) (by go_grown) ?_; rintro e w1 rfl hB1 hk1 hf1 hs1; have hz1 := hB1.size)); have hOld := hHeld; clear hHeld; refine hK.out _ _ ?_ (fun hHeld => ?_); (· ((try dsimp only); (first | (exact ⟨hk1 _ _ _ (hOld.1), hk1 _ _ _ (hOld.2.1), hf1 _ _ _ (hOld.1) (hOld.2.2.1), hf1 _ _ _ (hOld.2.1) (hOld.2.2.2.1), hk1 _ _ _ (hOld.2.2.2.2.1), hk1 _ _ _ (hOld.2.2.2.2.2.1), hk1 _ _ _ (hOld.2.2.2.2.2.2.1), hk1 _ _ _ (hOld.2.2.2.2.2.2.2)⟩) | ((try simp only [World.cell?_drew, World.frozen?_drew]); (repeat' apply And.intro) <;> (first | (with_reducible assumption) | (with_reducible exact ⟨_, by assumption⟩) | (with_reducible exact ⟨_, two_other (by assumption) (by omega)⟩) | (with_reducible exact two_0 (by assumption)) | (with_reducible exact two_1 (by assumption)) | (with_reducible exact two_other (by assumption) (by omega)) | (with_reducible exact two_fz (by assumption)) | (with_reducible exact keepA _ (by assumption)) | (with_reducible exact keepA _ (keepA _ (keepA _ (by assumption)))) | (simp (maxDischargeDepth := 8) [*, go_sem, World.cell?_alloc_some, World.cell?_setCell_far]; done))) | (go_keep; done) | (simp (maxDischargeDepth := 8) [*, go_sem, World.cell?_alloc_some, World.cell?_setCell_far]; done)))); clear hK K hOld; (try clear hc1 hf1); (try clear hk1 hf1))
        (try simp only [Act.put, List.setIfInBounds_toArray, List.set_cons_zero, List.set_cons_succ])
        refine wpAnyH_done (by kernel_rfl) ?_ _
        obtain ⟨z0, z1, zf0, zf1, lo0, lo1, hi0, hi1⟩ := hHeld
        rw [hd]
        go_wp2_with fail
        refine useF w (hf2.out _) (by go_grown) ?_; rintro e w110 rfl hB110 hk110 hf110 hs110; clear hs110
        replace zf0 : w110.frozen? ⟨w.heap.size + 1, 0, none⟩ = false := hf110 _ _ (.int .i64 0) (z0) (zf0)
        replace z0 : w110.cell? ⟨w.heap.size + 1, 0, none⟩ = some (.int .i64 0) := hk110 _ _ _ (z0)
        replace zf1 : w110.frozen? ⟨w.heap.size + 1, 1, none⟩ = false := hf110 _ _ (.int .i64 0) (z1) (zf1)
        replace z1 : w110.cell? ⟨w.heap.size + 1, 1, none⟩ = some (.int .i64 0) := hk110 _ _ _ (z1)
        replace lo0 : w110.cell? ⟨w3.heap.size, 0, none⟩ = some (.int .i64 (hiW (max lo 0 * 4294967296))) := hk110 _ _ _ (lo0)
        replace lo1 : w110.cell? ⟨w3.heap.size, 1, none⟩ = some (.int .u64 (loW (max lo 0 * 4294967296))) := hk110 _ _ _ (lo1)
        (try clear zb); have zb : w.heap.size + 1 < w110.heap.size := World.block_lt_of_cell? w110 ⟨w.heap.size + 1, 0, none⟩ z0
        (try clear lob); have lob : w3.heap.size < w110.heap.size := World.block_lt_of_cell? w110 ⟨w3.heap.size, 0, none⟩ lo0
        clear hk110 hf110
        go_wp2_with fail
        all_goals (refine' bodyPost_ret (res_st_t rfl isA_S isS_S rfl ?_ ?_) rfl ?_; rotate_left 2; (· ((try simp only [World.cell?_drew]); first | (with_reducible exact two_0 (by assumption)) | (with_reducible exact two_1 (by assumption)) | (with_reducible exact two_other (two_0 (by assumption)) (by simp)) | (with_reducible exact two_other (two_1 (by assumption)) (by simp)) | (with_reducible exact two_0 (two_other (by assumption) (by simp))) | (with_reducible exact two_1 (two_other (by assumption) (by simp))) | (simp (maxDischargeDepth := 8) [go_sem, hHeld]; rfl) | (simp (maxDischargeDepth := 8) [go_sem, *]; rfl) | (simp (maxDischargeDepth := 8) [go_sem, *]; done))); (· ((try simp only [World.cell?_drew]); first | (with_reducible exact two_0 (by assumption)) | (with_reducible exact two_1 (by assumption)) | (with_reducible exact two_other (two_0 (by assumption)) (by simp)) | (with_reducible exact two_other (two_1 (by assumption)) (by simp)) | (with_reducible exact two_0 (two_other (by assumption) (by simp))) | (with_reducible exact two_1 (two_other (by assumption) (by simp))) | (simp (maxDischargeDepth := 8) [go_sem, hHeld]; rfl) | (simp (maxDischargeDepth := 8) [go_sem, *]; rfl) | (simp (maxDischargeDepth := 8) [go_sem, *]; done))); refine ⟨ret_r ?_, by go_grown⟩; (exact hq.out.symm))
      · rw [if_neg d] at hru
        have hq := hid (hp.trans (by rw [hru] : _ = (rtI (max lo 0 * 4294967296), rtI (hi * 4294967296) + 1, (0 : Int))))
        have hd : decide (rtI (hi * 4294967296) * rtI (hi * 4294967296) < hi * 4294967296) = true := decide_eq_true (by omega)
        clear d hru hp hle
        go_enter Try.func36, Try.ntmps36
        go_wp2_with fail
        refine useF w (rcheck_any _ _ _ (by omega)) (by go_grown) ?_; rintro e w1 rfl hB1 hk1 hf1 hs1
        replace f10 : w1.frozen? ⟨w.heap.size + 1, 0, none⟩ = false := hf1 _ _ (.int .i64 0) (by simp [go_sem]) (by simp [go_sem])
        replace f11 : w1.frozen? ⟨w.heap.size + 1, 1, none⟩ = false := hf1 _ _ (.int .i64 0) (by simp [go_sem]) (by simp [go_sem])
        replace p00 : w1.cell? ⟨w.heap.size, 0, none⟩ = some (.int .i64 lo) := hk1 _ _ _ (by simp [go_sem])
        replace p01 : w1.cell? ⟨w.heap.size, 1, none⟩ = some (.int .i64 hi) := hk1 _ _ _ (by simp [go_sem])
        replace p10 : w1.cell? ⟨w.heap.size + 1, 0, none⟩ = some (.int .i64 0) := hk1 _ _ _ (by simp [go_sem])
        replace p11 : w1.cell? ⟨w.heap.size + 1, 1, none⟩ = some (.int .i64 0) := hk1 _ _ _ (by simp [go_sem])
        have bp00 : w.heap.size < w1.heap.size := World.block_lt_of_cell? w1 ⟨w.heap.size, 0, none⟩ p00
        have bp10 : w.heap.size + 1 < w1.heap.size := World.block_lt_of_cell? w1 ⟨w.heap.size + 1, 0, none⟩ p10
        clear hk1 hf1
        go_wp2_with fail
        refine useF w (hw.out _) (by go_grown) ?_; rintro e w2 rfl hB2 hk2 hf2 hs2
        replace f10 : w2.frozen? ⟨w.heap.size + 1, 0, none⟩ = false := hf2 _ _ _ (p10) (f10)
        replace f11 : w2.frozen? ⟨w.heap.size + 1, 1, none⟩ = false := hf2 _ _ _ (p11) (f11)
        replace p00 : w2.cell? ⟨w.heap.size, 0, none⟩ = some (.int .i64 lo) := hk2 _ _ _ (p00)
        replace p01 : w2.cell? ⟨w.heap.size, 1, none⟩ = some (.int .i64 hi) := hk2 _ _ _ (p01)
        replace p10 : w2.cell? ⟨w.heap.size + 1, 0, none⟩ = some (.int .i64 0) := hk2 _ _ _ (p10)
        replace p11 : w2.cell? ⟨w.heap.size + 1, 1, none⟩ = some (.int .i64 0) := hk2 _ _ _ (p11)
        have bp00 : w.heap.size < w2.heap.size := World.block_lt_of_cell? w2 ⟨w.heap.size, 0, none⟩ p00
        have bp10 : w.heap.size + 1 < w2.heap.size := World.block_lt_of_cell? w2 ⟨w.heap.size + 1, 0, none⟩ p10
        clear hk2 hf2
        go_wp2_with fail
        refine useF w (up32_any _ _) (by go_grown) ?_; rintro e w3 rfl hB3 hk3 hf3 hs3
        replace f10 : w3.frozen? ⟨w.heap.size + 1, 0, none⟩ = false := hf3 _ _ _ (p10) (f10)
        replace f11 : w3.frozen? ⟨w.heap.size + 1, 1, none⟩ = false := hf3 _ _ _ (p11) (f11)
        replace p00 : w3.cell? ⟨w.heap.size, 0, none⟩ = some (.int .i64 lo) := hk3 _ _ _ (p00)
        replace p01 : w3.cell? ⟨w.heap.size, 1, none⟩ = some (.int .i64 hi) := hk3 _ _ _ (p01)
        replace p10 : w3.cell? ⟨w.heap.size + 1, 0, none⟩ = some (.int .i64 0) := hk3 _ _ _ (p10)
        replace p11 : w3.cell? ⟨w.heap.size + 1, 1, none⟩ = some (.int .i64 0) := hk3 _ _ _ (p11)
        have bp00 : w.heap.size < w3.heap.size := World.block_lt_of_cell? w3 ⟨w.heap.size, 0, none⟩ p00
        have bp10 : w.heap.size + 1 < w3.heap.size := World.block_lt_of_cell? w3 ⟨w.heap.size + 1, 0, none⟩ p10
        clear hk3 hf3
        go_wp2_with fail
        refine useF w (wide_any hi _ (by omega)) (by go_grown) ?_; rintro e w4 rfl hB4 hk4 hf4 hs4
        replace f10 : w4.frozen? ⟨w.heap.size + 1, 0, none⟩ = false := hf4 _ _ _ ((keepA _ p10)) ((keepAF _ (p10) f10))
        replace f11 : w4.frozen? ⟨w.heap.size + 1, 1, none⟩ = false := hf4 _ _ _ ((keepA _ p11)) ((keepAF _ (p11) f11))
        replace p00 : w4.cell? ⟨w.heap.size, 0, none⟩ = some (.int .i64 lo) := hk4 _ _ _ ((keepA _ p00))
        replace p01 : w4.cell? ⟨w.heap.size, 1, none⟩ = some (.int .i64 hi) := hk4 _ _ _ ((keepA _ p01))
        replace p10 : w4.cell? ⟨w.heap.size + 1, 0, none⟩ = some (.int .i64 0) := hk4 _ _ _ ((keepA _ p10))
        replace p11 : w4.cell? ⟨w.heap.size + 1, 1, none⟩ = some (.int .i64 0) := hk4 _ _ _ ((keepA _ p11))
        replace l300 : w4.cell? ⟨w3.heap.size, 0, none⟩ = some (.int .i64 (hiW (max lo 0 * 4294967296))) := hk4 _ _ _ (by simp [go_sem])
        replace l301 : w4.cell? ⟨w3.heap.size, 1, none⟩ = some (.int .u64 (loW (max lo 0 * 4294967296))) := hk4 _ _ _ (by simp [go_sem])
        have bp00 : w.heap.size < w4.heap.size := World.block_lt_of_cell? w4 ⟨w.heap.size, 0, none⟩ p00
        have bp10 : w.heap.size + 1 < w4.heap.size := World.block_lt_of_cell? w4 ⟨w.heap.size + 1, 0, none⟩ p10
        have bl300 : w3.heap.size < w4.heap.size := World.block_lt_of_cell? w4 ⟨w3.heap.size, 0, none⟩ l300
        clear hk4 hf4
        go_wp2_with fail
        refine useF w (up32_any _ _) (by go_grown) ?_; rintro e w5 rfl hB5 hk5 hf5 hs5
        replace f10 : w5.frozen? ⟨w.heap.size + 1, 0, none⟩ = false := hf5 _ _ _ (p10) (f10)
        replace f11 : w5.frozen? ⟨w.heap.size + 1, 1, none⟩ = false := hf5 _ _ _ (p11) (f11)
        replace p00 : w5.cell? ⟨w.heap.size, 0, none⟩ = some (.int .i64 lo) := hk5 _ _ _ (p00)
        replace p01 : w5.cell? ⟨w.heap.size, 1, none⟩ = some (.int .i64 hi) := hk5 _ _ _ (p01)
        replace p10 : w5.cell? ⟨w.heap.size + 1, 0, none⟩ = some (.int .i64 0) := hk5 _ _ _ (p10)
        replace p11 : w5.cell? ⟨w.heap.size + 1, 1, none⟩ = some (.int .i64 0) := hk5 _ _ _ (p11)
        replace l300 : w5.cell? ⟨w3.heap.size, 0, none⟩ = some (.int .i64 (hiW (max lo 0 * 4294967296))) := hk5 _ _ _ (l300)
        replace l301 : w5.cell? ⟨w3.heap.size, 1, none⟩ = some (.int .u64 (loW (max lo 0 * 4294967296))) := hk5 _ _ _ (l301)
        have bp00 : w.heap.size < w5.heap.size := World.block_lt_of_cell? w5 ⟨w.heap.size, 0, none⟩ p00
        have bp10 : w.heap.size + 1 < w5.heap.size := World.block_lt_of_cell? w5 ⟨w.heap.size + 1, 0, none⟩ p10
        have bl300 : w3.heap.size < w5.heap.size := World.block_lt_of_cell? w5 ⟨w3.heap.size, 0, none⟩ l300
        clear hk5 hf5
        go_wp2_with fail
        refine useF w (hf1.out _) (by go_grown) ?_; rintro e w6 rfl hB6 hk6 hf6 hs6
        replace f10 : w6.frozen? ⟨w.heap.size + 1, 0, none⟩ = false := hf6 _ _ _ ((keepA _ p10)) ((keepAF _ (p10) f10))
        replace f11 : w6.frozen? ⟨w.heap.size + 1, 1, none⟩ = false := hf6 _ _ _ ((keepA _ p11)) ((keepAF _ (p11) f11))
        replace p00 : w6.cell? ⟨w.heap.size, 0, none⟩ = some (.int .i64 lo) := hk6 _ _ _ ((keepA _ p00))
        replace p01 : w6.cell? ⟨w.heap.size, 1, none⟩ = some (.int .i64 hi) := hk6 _ _ _ ((keepA _ p01))
        replace p10 : w6.cell? ⟨w.heap.size + 1, 0, none⟩ = some (.int .i64 0) := hk6 _ _ _ ((keepA _ p10))
        replace p11 : w6.cell? ⟨w.heap.size + 1, 1, none⟩ = some (.int .i64 0) := hk6 _ _ _ ((keepA _ p11))
        replace l300 : w6.cell? ⟨w3.heap.size, 0, none⟩ = some (.int .i64 (hiW (max lo 0 * 4294967296))) := hk6 _ _ _ ((keepA _ l300))
        replace l301 : w6.cell? ⟨w3.heap.size, 1, none⟩ = some (.int .u64 (loW (max lo 0 * 4294967296))) := hk6 _ _ _ ((keepA _ l301))
        replace l500 : w6.cell? ⟨w5.heap.size, 0, none⟩ = some (.int .i64 (hiW (hi * 4294967296))) := hk6 _ _ _ (by simp [go_sem])
        replace l501 : w6.cell? ⟨w5.heap.size, 1, none⟩ = some (.int .u64 (loW (hi * 4294967296))) := hk6 _ _ _ (by simp [go_sem])
        have bp00 : w.heap.size < w6.heap.size := World.block_lt_of_cell? w6 ⟨w.heap.size, 0, none⟩ p00
        have bp10 : w.heap.size + 1 < w6.heap.size := World.block_lt_of_cell? w6 ⟨w.heap.size + 1, 0, none⟩ p10
        have bl300 : w3.heap.size < w6.heap.size := World.block_lt_of_cell? w6 ⟨w3.heap.size, 0, none⟩ l300
        have bl500 : w5.heap.size < w6.heap.size := World.block_lt_of_cell? w6 ⟨w5.heap.size, 0, none⟩ l500
        clear hk6 hf6
        go_wp2_with fail
        refine wp_region_held_drew (S := (fun w' => w'.cell? ⟨w.heap.size + 1, 0, none⟩ = some (.int .i64 0) ∧ w'.cell? ⟨w.heap.size + 1, 1, none⟩ = some (.int .i64 0) ∧ w'.frozen? ⟨w.heap.size + 1, 0, none⟩ = false ∧ w'.frozen? ⟨w.heap.size + 1, 1, none⟩ = false ∧ w'.cell? ⟨w3.heap.size, 0, none⟩ = some (.int .i64 (hiW (max lo 0 * 4294967296))) ∧ w'.cell? ⟨w3.heap.size, 1, none⟩ = some (.int .u64 (loW (max lo 0 * 4294967296))) ∧ w'.cell? ⟨w5.heap.size, 0, none⟩ = some (.int .i64 (hiW (hi * 4294967296))) ∧ w'.cell? ⟨w5.heap.size, 1, none⟩ = some (.int .u64 (loW (hi * 4294967296))))) (by kernel_rfl) (by (try dsimp only); (first | (exact ⟨hk1 _ _ _ (hOld.1), hk1 _ _ _ (hOld.2.1), hf1 _ _ _ (hOld.1) (hOld.2.2.1), hf1 _ _ _ (hOld.2.1) (hOld.2.2.2.1), hk1 _ _ _ (hOld.2.2.2.2.1), hk1 _ _ _ (hOld.2.2.2.2.2.1), hk1 _ _ _ (hOld.2.2.2.2.2.2.1), hk1 _ _ _ (hOld.2.2.2.2.2.2.2)⟩) | ((try simp only [World.cell?_drew, World.frozen?_drew]); (repeat' apply And.intro) <;> (first | (with_reducible assumption) | (with_reducible exact ⟨_, by assumption⟩) | (with_reducible exact ⟨_, two_other (by assumption) (by omega)⟩) | (with_reducible exact two_0 (by assumption)) | (with_reducible exact two_1 (by assumption)) | (with_reducible exact two_other (by assumption) (by omega)) | (with_reducible exact two_fz (by assumption)) | (with_reducible exact keepA _ (by assumption)) | (with_reducible exact keepA _ (keepA _ (keepA _ (by assumption)))) | (simp (maxDischargeDepth := 8) [*, go_sem, World.cell?_alloc_some, World.cell?_setCell_far]; done))) | (go_keep; done) | (simp (maxDischargeDepth := 8) [*, go_sem, World.cell?_alloc_some, World.cell?_setCell_far]; done))) (fun hHeld => ?_)
        (refine wpAnyH_take (i := 0) (oi := ⟨some 26, _, _, _, _, none⟩) (v := ?_) rfl (by kernel_rfl) (by kernel_rfl) (by kernel_rfl) (fun _ _ _ h => h) (Or.inl ⟨by rfl, ?_⟩) hHeld ?_; rotate_left; (· (intro w9 hSw; (try dsimp only at hSw); go_simp; (try with_reducible rfl))))
        (try simp only [Act.put, List.setIfInBounds_toArray, List.set_cons_zero, List.set_cons_succ])
        (refine wpAnyH_take (i := 1) (oi := ⟨some 27, _, _, _, _, none⟩) (v := ?_) rfl (by kernel_rfl) (by kernel_rfl) (by kernel_rfl) (fun _ _ _ h => h) (Or.inl ⟨by rfl, ?_⟩) hHeld ?_; rotate_left; (· (intro w9 hSw; (try dsimp only at hSw); go_simp; (try with_reducible rfl))))
        (try simp only [Act.put, List.setIfInBounds_toArray, List.set_cons_zero, List.set_cons_succ])
        (refine wpAnyH_take (i := 3) (oi := ⟨some 29, _, _, _, _, none⟩) (v := ?_) rfl (by kernel_rfl) (by kernel_rfl) (by kernel_rfl) (fun _ _ _ h => h) (Or.inl ⟨by rfl, ?_⟩) hHeld ?_; rotate_left; (· (intro w9 hSw; (try dsimp only at hSw); go_simp; (try with_reducible rfl))))
        (try simp only [Act.put, List.setIfInBounds_toArray, List.set_cons_zero, List.set_cons_succ])
        (refine wpAnyH_ready (rs := [2]) (by kernel_rfl) (by simp) ?_; refine AllReadyH.cons (o := ⟨some 28, _, _, _, _, none⟩) rfl (fun K hK => ?_) AllReadyH.nil; go_simp; (first | (go_at_call 91; refine useF w (ht.out _) (by go_grown) ?_; rintro e w1 rfl hB1 hk1 hf1 hs1; have hz1 := hB1.size) | (go_at_call 92; refine useF w (hl.out _) (by go_grown) ?_; rintro e w1 rfl hB1 hk1 hf1 hs1; have hz1 := hB1.size)); have hOld := hHeld; clear hHeld; refine hK.out _ _ ?_ (fun hHeld => ?_); (· ((try dsimp only); (first | (exact ⟨hk1 _ _ _ (hOld.1), hk1 _ _ _ (hOld.2.1), hf1 _ _ _ (hOld.1) (hOld.2.2.1), hf1 _ _ _ (hOld.2.1) (hOld.2.2.2.1), hk1 _ _ _ (hOld.2.2.2.2.1), hk1 _ _ _ (hOld.2.2.2.2.2.1), hk1 _ _ _ (hOld.2.2.2.2.2.2.1), hk1 _ _ _ (hOld.2.2.2.2.2.2.2)⟩) | ((try simp only [World.cell?_drew, World.frozen?_drew]); (repeat' apply And.intro) <;> (first | (with_reducible assumption) | (with_reducible exact ⟨_, by assumption⟩) | (with_reducible exact ⟨_, two_other (by assumption) (by omega)⟩) | (with_reducible exact two_0 (by assumption)) | (with_reducible exact two_1 (by assumption)) | (with_reducible exact two_other (by assumption) (by omega)) | (with_reducible exact two_fz (by assumption)) | (with_reducible exact keepA _ (by assumption)) | (with_reducible exact keepA _ (keepA _ (keepA _ (by assumption)))) | (simp (maxDischargeDepth := 8) [*, go_sem, World.cell?_alloc_some, World.cell?_setCell_far]; done))) | (go_keep; done) | (simp (maxDischargeDepth := 8) [*, go_sem, World.cell?_alloc_some, World.cell?_setCell_far]; done)))); clear hK K hOld; (try clear hc1 hf1); (try clear hk1 hf1))
        (try simp only [Act.put, List.setIfInBounds_toArray, List.set_cons_zero, List.set_cons_succ])
        (refine wpAnyH_ready (rs := [4]) (by kernel_rfl) (by simp) ?_; refine AllReadyH.cons (o := ⟨some 30, _, _, _, _, none⟩) rfl (fun K hK => ?_) AllReadyH.nil; go_simp; (first | (go_at_call 91; refine useF w (ht.out _) (by go_grown) ?_; rintro e w1 rfl hB1 hk1 hf1 hs1; have hz1 := hB1.size) | (go_at_call 92; refine useF w (hl.out _) (by go_grown) ?_; rintro e w1 rfl hB1 hk1 hf1 hs1; have hz1 := hB1.size)); have hOld := hHeld; clear hHeld; refine hK.out _ _ ?_ (fun hHeld => ?_); (· ((try dsimp only); (first | (exact ⟨hk1 _ _ _ (hOld.1), hk1 _ _ _ (hOld.2.1), hf1 _ _ _ (hOld.1) (hOld.2.2.1), hf1 _ _ _ (hOld.2.1) (hOld.2.2.2.1), hk1 _ _ _ (hOld.2.2.2.2.1), hk1 _ _ _ (hOld.2.2.2.2.2.1), hk1 _ _ _ (hOld.2.2.2.2.2.2.1), hk1 _ _ _ (hOld.2.2.2.2.2.2.2)⟩) | ((try simp only [World.cell?_drew, World.frozen?_drew]); (repeat' apply And.intro) <;> (first | (with_reducible assumption) | (with_reducible exact ⟨_, by assumption⟩) | (with_reducible exact ⟨_, two_other (by assumption) (by omega)⟩) | (with_reducible exact two_0 (by assumption)) | (with_reducible exact two_1 (by assumption)) | (with_reducible exact two_other (by assumption) (by omega)) | (with_reducible exact two_fz (by assumption)) | (with_reducible exact keepA _ (by assumption)) | (with_reducible exact keepA _ (keepA _ (keepA _ (by assumption)))) | (simp (maxDischargeDepth := 8) [*, go_sem, World.cell?_alloc_some, World.cell?_setCell_far]; done))) | (go_keep; done) | (simp (maxDischargeDepth := 8) [*, go_sem, World.cell?_alloc_some, World.cell?_setCell_far]; done)))); clear hK K hOld; (try clear hc1 hf1); (try clear hk1 hf1))
        (try simp only [Act.put, List.setIfInBounds_toArray, List.set_cons_zero, List.set_cons_succ])
        refine wpAnyH_done (by kernel_rfl) ?_ _
        obtain ⟨z0, z1, zf0, zf1, lo0, lo1, hi0, hi1⟩ := hHeld
        rw [hd]
        go_wp2_with fail
        refine useF w (hf2.out _) (by go_grown) ?_; rintro e w109 rfl hB109 hk109 hf109 hs109; clear hs109
        replace zf0 : w109.frozen? ⟨w.heap.size + 1, 0, none⟩ = false := hf109 _ _ (.int .i64 0) (z0) (zf0)
        replace z0 : w109.cell? ⟨w.heap.size + 1, 0, none⟩ = some (.int .i64 0) := hk109 _ _ _ (z0)
        replace zf1 : w109.frozen? ⟨w.heap.size + 1, 1, none⟩ = false := hf109 _ _ (.int .i64 0) (z1) (zf1)
        replace z1 : w109.cell? ⟨w.heap.size + 1, 1, none⟩ = some (.int .i64 0) := hk109 _ _ _ (z1)
        replace lo0 : w109.cell? ⟨w3.heap.size, 0, none⟩ = some (.int .i64 (hiW (max lo 0 * 4294967296))) := hk109 _ _ _ (lo0)
        replace lo1 : w109.cell? ⟨w3.heap.size, 1, none⟩ = some (.int .u64 (loW (max lo 0 * 4294967296))) := hk109 _ _ _ (lo1)
        (try clear zb); have zb : w.heap.size + 1 < w109.heap.size := World.block_lt_of_cell? w109 ⟨w.heap.size + 1, 0, none⟩ z0
        (try clear lob); have lob : w3.heap.size < w109.heap.size := World.block_lt_of_cell? w109 ⟨w3.heap.size, 0, none⟩ lo0
        clear hk109 hf109
        go_wp2_with fail
        all_goals (refine' bodyPost_ret (res_st_t rfl isA_S isS_S rfl ?_ ?_) rfl ?_; rotate_left 2; (· ((try simp only [World.cell?_drew]); first | (with_reducible exact two_0 (by assumption)) | (with_reducible exact two_1 (by assumption)) | (with_reducible exact two_other (two_0 (by assumption)) (by simp)) | (with_reducible exact two_other (two_1 (by assumption)) (by simp)) | (with_reducible exact two_0 (two_other (by assumption) (by simp))) | (with_reducible exact two_1 (two_other (by assumption) (by simp))) | (simp (maxDischargeDepth := 8) [go_sem, hHeld]; rfl) | (simp (maxDischargeDepth := 8) [go_sem, *]; rfl) | (simp (maxDischargeDepth := 8) [go_sem, *]; done))); (· ((try simp only [World.cell?_drew]); first | (with_reducible exact two_0 (by assumption)) | (with_reducible exact two_1 (by assumption)) | (with_reducible exact two_other (two_0 (by assumption)) (by simp)) | (with_reducible exact two_other (two_1 (by assumption)) (by simp)) | (with_reducible exact two_0 (two_other (by assumption) (by simp))) | (with_reducible exact two_1 (two_other (by assumption) (by simp))) | (simp (maxDischargeDepth := 8) [go_sem, hHeld]; rfl) | (simp (maxDischargeDepth := 8) [go_sem, *]; rfl) | (simp (maxDischargeDepth := 8) [go_sem, *]; done))); refine ⟨ret_r ?_, by go_grown⟩; (first | exact hq.out.symm | (rw [hwp.out]; exact hq.out.symm)))
  · have hp := hid (show rootS lo hi = (0, 0, 2) from if_neg (by omega))
    obtain ⟨⟨a1, a2⟩, b1, b2⟩ := h
    clear k1
    go_enter Try.func36, Try.ntmps36
    go_wp2_with fail
    refine useF w (rcheck_any _ _ _ (by omega)) (by go_grown) ?_; rintro e w1 rfl hB1 hk1 hf1 hs1
    replace f10 : w1.frozen? ⟨w.heap.size + 1, 0, none⟩ = false := hf1 _ _ (.int .i64 0) (by simp [go_sem]) (by simp [go_sem])
    replace f11 : w1.frozen? ⟨w.heap.size + 1, 1, none⟩ = false := hf1 _ _ (.int .i64 0) (by simp [go_sem]) (by simp [go_sem])
    replace p00 : w1.cell? ⟨w.heap.size, 0, none⟩ = some (.int .i64 lo) := hk1 _ _ _ (by simp [go_sem])
    replace p01 : w1.cell? ⟨w.heap.size, 1, none⟩ = some (.int .i64 hi) := hk1 _ _ _ (by simp [go_sem])
    replace p10 : w1.cell? ⟨w.heap.size + 1, 0, none⟩ = some (.int .i64 0) := hk1 _ _ _ (by simp [go_sem])
    replace p11 : w1.cell? ⟨w.heap.size + 1, 1, none⟩ = some (.int .i64 0) := hk1 _ _ _ (by simp [go_sem])
    have bp00 : w.heap.size < w1.heap.size := World.block_lt_of_cell? w1 ⟨w.heap.size, 0, none⟩ p00
    have bp10 : w.heap.size + 1 < w1.heap.size := World.block_lt_of_cell? w1 ⟨w.heap.size + 1, 0, none⟩ p10
    clear hk1 hf1
    go_wp2_with fail
    all_goals (refine' bodyPost_ret (res_st_t rfl isA_S isS_S rfl ?_ ?_) rfl ?_; rotate_left 2; (· ((try simp only [World.cell?_drew]); first | (with_reducible exact two_0 (by assumption)) | (with_reducible exact two_1 (by assumption)) | (with_reducible exact two_other (two_0 (by assumption)) (by simp)) | (with_reducible exact two_other (two_1 (by assumption)) (by simp)) | (with_reducible exact two_0 (two_other (by assumption) (by simp))) | (with_reducible exact two_1 (two_other (by assumption) (by simp))) | (simp (maxDischargeDepth := 8) [go_sem, hHeld]; rfl) | (simp (maxDischargeDepth := 8) [go_sem, *]; rfl) | (simp (maxDischargeDepth := 8) [go_sem, *]; done))); (· ((try simp only [World.cell?_drew]); first | (with_reducible exact two_0 (by assumption)) | (with_reducible exact two_1 (by assumption)) | (with_reducible exact two_other (two_0 (by assumption)) (by simp)) | (with_reducible exact two_other (two_1 (by assumption)) (by simp)) | (with_reducible exact two_0 (two_other (by assumption) (by simp))) | (with_reducible exact two_1 (two_other (by assumption) (by simp))) | (simp (maxDischargeDepth := 8) [go_sem, hHeld]; rfl) | (simp (maxDischargeDepth := 8) [go_sem, *]; rfl) | (simp (maxDischargeDepth := 8) [go_sem, *]; done))); refine ⟨ret_r ?_, by go_grown⟩; (exact hp.out.symm))
theorem mul_sq (l h : Int) (h0 : 0 ≤ l) (h1 : l ≤ h) (h2 : h ≤ 9223372036854775807) : mulS l h l h = fitS (l * l / 4294967296) (-(-(h * h) / 4294967296)) := by
  have c : chk l h = 0 := if_neg (by omega)
  have b : bothS l h l h = 0 := by unfold bothS; rw [if_pos c]; exact c
  have m1 : l * l ≤ l * h := Int.mul_le_mul_of_nonneg_left h1 h0
  have m2 : l * h ≤ h * h := Int.mul_le_mul_of_nonneg_right h1 (by omega)
  unfold mulS
  rw [if_pos b, mul_fit, mn4_val, mx4_val]
  show fitS (min (min (min (l * l) (l * h)) (h * l)) (h * h) / 4294967296) (-(-max (max (max (l * l) (l * h)) (h * l)) (h * h) / 4294967296)) = _
  rw [Int.mul_comm h l]
  rw [show min (min (min (l * l) (l * h)) (l * h)) (h * h) = l * l by omega, show max (max (max (l * l) (l * h)) (l * h)) (h * h) = h * h by omega]
theorem rsquare_any (lo hi : Int) (w : World) (h : (-9223372036854775808 ≤ lo ∧ lo ≤ 9223372036854775807) ∧ (-9223372036854775808 ≤ hi ∧ hi ≤ 9223372036854775807)) :
    Calls Try.prog 34 #[.agg #[.int .i64 lo, .int .i64 hi]] w fun e w' => e = .returned (.tuple #[.agg #[.int .i64 ((squareS lo hi).1), .int .i64 ((squareS lo hi).2.1)], .int .i64 ((squareS lo hi).2.2)]) ∧ Below w.heap.size w w' := by
  rcases abs_spec lo hi h with ⟨e, he, g0, g1, g2⟩ | ⟨e, he⟩
  · have hp := hid ((show squareS lo hi = _ from if_pos e).trans (mul_sq _ _ g0 g1 g2).symm)
    have ha := hid (fun W => rabs_any lo hi W h)
    have hm := hid (fun W => rmul_any (absS lo hi).1 (absS lo hi).2.1 (absS lo hi).1 (absS lo hi).2.1 W (by omega))
    clear g0 g1 g2 e h
    go_enter Try.func34, Try.ntmps34
    go_wp2_with fail
    refine useF w (ha.out _) (by go_grown) ?_; rintro e w1 rfl hB1 hk1 hf1 hs1
    replace f10 : w1.frozen? ⟨w.heap.size + 1, 0, none⟩ = false := hf1 _ _ (.int .i64 0) (by simp [go_sem]) (by simp [go_sem])
    replace f11 : w1.frozen? ⟨w.heap.size + 1, 1, none⟩ = false := hf1 _ _ (.int .i64 0) (by simp [go_sem]) (by simp [go_sem])
    replace p00 : w1.cell? ⟨w.heap.size, 0, none⟩ = some (.int .i64 lo) := hk1 _ _ _ (by simp [go_sem])
    replace p01 : w1.cell? ⟨w.heap.size, 1, none⟩ = some (.int .i64 hi) := hk1 _ _ _ (by simp [go_sem])
    replace p10 : w1.cell? ⟨w.heap.size + 1, 0, none⟩ = some (.int .i64 0) := hk1 _ _ _ (by simp [go_sem])
    replace p11 : w1.cell? ⟨w.heap.size + 1, 1, none⟩ = some (.int .i64 0) := hk1 _ _ _ (by simp [go_sem])
    have bp00 : w.heap.size < w1.heap.size := World.block_lt_of_cell? w1 ⟨w.heap.size, 0, none⟩ p00
    have bp10 : w.heap.size + 1 < w1.heap.size := World.block_lt_of_cell? w1 ⟨w.heap.size + 1, 0, none⟩ p10
    clear hk1 hf1
    go_wp2_with fail
    refine useF w (hm.out _) (by go_grown) ?_; rintro e w2 rfl hB2 hk2 hf2 hs2
    replace f10 : w2.frozen? ⟨w.heap.size + 1, 0, none⟩ = false := hf2 _ _ _ ((keepA _ p10)) ((keepAF _ (p10) f10))
    replace f11 : w2.frozen? ⟨w.heap.size + 1, 1, none⟩ = false := hf2 _ _ _ ((keepA _ p11)) ((keepAF _ (p11) f11))
    replace p00 : w2.cell? ⟨w.heap.size, 0, none⟩ = some (.int .i64 lo) := hk2 _ _ _ ((keepA _ p00))
    replace p01 : w2.cell? ⟨w.heap.size, 1, none⟩ = some (.int .i64 hi) := hk2 _ _ _ ((keepA _ p01))
    replace p10 : w2.cell? ⟨w.heap.size + 1, 0, none⟩ = some (.int .i64 0) := hk2 _ _ _ ((keepA _ p10))
    replace p11 : w2.cell? ⟨w.heap.size + 1, 1, none⟩ = some (.int .i64 0) := hk2 _ _ _ ((keepA _ p11))
    replace l100 : w2.cell? ⟨w1.heap.size, 0, none⟩ = some (.int .i64 ((absS lo hi).1)) := hk2 _ _ _ (by simp [go_sem])
    replace l101 : w2.cell? ⟨w1.heap.size, 1, none⟩ = some (.int .i64 ((absS lo hi).2.1)) := hk2 _ _ _ (by simp [go_sem])
    have bp00 : w.heap.size < w2.heap.size := World.block_lt_of_cell? w2 ⟨w.heap.size, 0, none⟩ p00
    have bp10 : w.heap.size + 1 < w2.heap.size := World.block_lt_of_cell? w2 ⟨w.heap.size + 1, 0, none⟩ p10
    have bl100 : w1.heap.size < w2.heap.size := World.block_lt_of_cell? w2 ⟨w1.heap.size, 0, none⟩ l100
    clear hk2 hf2
    go_wp2_with fail
    all_goals (refine' bodyPost_ret (res_st_t rfl isA_S isS_S rfl ?_ ?_) rfl ?_; rotate_left 2; (· ((try simp only [World.cell?_drew]); first | (with_reducible exact two_0 (by assumption)) | (with_reducible exact two_1 (by assumption)) | (with_reducible exact two_other (two_0 (by assumption)) (by simp)) | (with_reducible exact two_other (two_1 (by assumption)) (by simp)) | (with_reducible exact two_0 (two_other (by assumption) (by simp))) | (with_reducible exact two_1 (two_other (by assumption) (by simp))) | (simp (maxDischargeDepth := 8) [go_sem, hHeld]; rfl) | (simp (maxDischargeDepth := 8) [go_sem, *]; rfl) | (simp (maxDischargeDepth := 8) [go_sem, *]; done))); (· ((try simp only [World.cell?_drew]); first | (with_reducible exact two_0 (by assumption)) | (with_reducible exact two_1 (by assumption)) | (with_reducible exact two_other (two_0 (by assumption)) (by simp)) | (with_reducible exact two_other (two_1 (by assumption)) (by simp)) | (with_reducible exact two_0 (two_other (by assumption) (by simp))) | (with_reducible exact two_1 (two_other (by assumption) (by simp))) | (simp (maxDischargeDepth := 8) [go_sem, hHeld]; rfl) | (simp (maxDischargeDepth := 8) [go_sem, *]; rfl) | (simp (maxDischargeDepth := 8) [go_sem, *]; done))); refine ⟨ret_r ?_, by go_grown⟩; (rw [hp.out]))
  · have hp := hid (show squareS lo hi = (0, 0, 2) from if_neg e)
    have ha := rabs_any lo hi
    rw [he] at ha
    have ha := hid (fun W => ha W h)
    clear e he h
    go_enter Try.func34, Try.ntmps34
    go_wp2_with fail
    refine useF w (ha.out _) (by go_grown) ?_; rintro e w1 rfl hB1 hk1 hf1 hs1
    replace f10 : w1.frozen? ⟨w.heap.size + 1, 0, none⟩ = false := hf1 _ _ (.int .i64 0) (by simp [go_sem]) (by simp [go_sem])
    replace f11 : w1.frozen? ⟨w.heap.size + 1, 1, none⟩ = false := hf1 _ _ (.int .i64 0) (by simp [go_sem]) (by simp [go_sem])
    replace p00 : w1.cell? ⟨w.heap.size, 0, none⟩ = some (.int .i64 lo) := hk1 _ _ _ (by simp [go_sem])
    replace p01 : w1.cell? ⟨w.heap.size, 1, none⟩ = some (.int .i64 hi) := hk1 _ _ _ (by simp [go_sem])
    replace p10 : w1.cell? ⟨w.heap.size + 1, 0, none⟩ = some (.int .i64 0) := hk1 _ _ _ (by simp [go_sem])
    replace p11 : w1.cell? ⟨w.heap.size + 1, 1, none⟩ = some (.int .i64 0) := hk1 _ _ _ (by simp [go_sem])
    have bp00 : w.heap.size < w1.heap.size := World.block_lt_of_cell? w1 ⟨w.heap.size, 0, none⟩ p00
    have bp10 : w.heap.size + 1 < w1.heap.size := World.block_lt_of_cell? w1 ⟨w.heap.size + 1, 0, none⟩ p10
    clear hk1 hf1
    go_wp2_with fail
    all_goals (refine' bodyPost_ret (res_st_t rfl isA_S isS_S rfl ?_ ?_) rfl ?_; rotate_left 2; (· ((try simp only [World.cell?_drew]); first | (with_reducible exact two_0 (by assumption)) | (with_reducible exact two_1 (by assumption)) | (with_reducible exact two_other (two_0 (by assumption)) (by simp)) | (with_reducible exact two_other (two_1 (by assumption)) (by simp)) | (with_reducible exact two_0 (two_other (by assumption) (by simp))) | (with_reducible exact two_1 (two_other (by assumption) (by simp))) | (simp (maxDischargeDepth := 8) [go_sem, hHeld]; rfl) | (simp (maxDischargeDepth := 8) [go_sem, *]; rfl) | (simp (maxDischargeDepth := 8) [go_sem, *]; done))); (· ((try simp only [World.cell?_drew]); first | (with_reducible exact two_0 (by assumption)) | (with_reducible exact two_1 (by assumption)) | (with_reducible exact two_other (two_0 (by assumption)) (by simp)) | (with_reducible exact two_other (two_1 (by assumption)) (by simp)) | (with_reducible exact two_0 (two_other (by assumption) (by simp))) | (with_reducible exact two_1 (two_other (by assumption) (by simp))) | (simp (maxDischargeDepth := 8) [go_sem, hHeld]; rfl) | (simp (maxDischargeDepth := 8) [go_sem, *]; rfl) | (simp (maxDischargeDepth := 8) [go_sem, *]; done))); refine ⟨ret_r ?_, by go_grown⟩; (exact hp.out.symm))
end Go.Proofs.Ytjleflfncijnpaa
