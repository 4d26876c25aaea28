/- Directions of half angles, of package span. -/
import Derived.Deep.DeepCutAuto
import Derived.Test.YtjleflfncijnpaaRows
import Derived.Test.YtjleflfncijnpaaBase
import Derived.Test.YtjleflfncijnpaaFacts
import Derived.Test.YtjleflfncijnpaaTwo
import Derived.Deep.RegionHeld3
import Derived.Deep.RegionWith
import Derived.Deep.QuietTactic
import Derived.BigQuiet
import Derived.Test.YtjleflfncijnpaaW
import Derived.Test.YtjleflfncijnpaaAsks
import Derived.Test.YtjleflfncijnpaaOut
import Derived.Test.YtjleflfncijnpaaSeq
import Derived.Test.YtjleflfncijnpaaTwo
import Derived.Test.YtjleflfncijnpaaOne
import Derived.Test.YtjleflfncijnpaaQuo
import Derived.Test.YtjleflfncijnpaaRound
import Derived.Test.YtjleflfncijnpaaScaleM
import Derived.Test.YtjleflfncijnpaaRootM
import Derived.Test.YtjleflfncijnpaaRootS
import Derived.Test.YtjleflfncijnpaaTurnM
import Derived.Test.YtjleflfncijnpaaShare
import Derived.Test.YtjleflfncijnpaaPicks
set_option linter.unusedVariables false
set_option linter.unusedSimpArgs false
set_option maxHeartbeats 4000000
set_option maxRecDepth 100000
namespace Go.Proofs.Ytjleflfncijnpaa
open Go Go.RowKit
theorem vminus_one (S : Int) (w : World) (h : 0 ≤ S ∧ S ≤ 18446744073709551616) :
    Calls Try.prog 129 #[.agg #[.int .u64 1, .int .u64 0], .agg #[.int .u64 (S / 18446744073709551616), .int .u64 (S % 18446744073709551616)]] w fun e w' => e = .returned (.agg #[.int .u64 ((18446744073709551616 - S) / 18446744073709551616), .int .u64 ((18446744073709551616 - S) % 18446744073709551616)]) ∧ Below w.heap.size w w' :=
  vminus_any 18446744073709551616 S w (by omega)
theorem vplus_one (S : Int) (w : World) (h : 0 ≤ S ∧ S ≤ 18446744073709551616) :
    Calls Try.prog 131 #[.agg #[.int .u64 1, .int .u64 0], .agg #[.int .u64 (S / 18446744073709551616), .int .u64 (S % 18446744073709551616)]] w fun e w' => e = .returned (.agg #[.int .u64 ((18446744073709551616 + S) / 18446744073709551616), .int .u64 ((18446744073709551616 + S) % 18446744073709551616)]) ∧ Below w.heap.size w w' :=
  vplus_any 18446744073709551616 S w (by omega)
theorem ret_2 {a b a' b' : Int} (h : a = a') (k : b = b') : Ending.returned (.tuple #[.int .i64 a, .int .i64 b]) = .returned (.tuple #[.int .i64 a', .int .i64 b']) := by rw [h, k]
theorem cosine_go (t S M P C R1 R2 : Int) (w : World) (h : 0 ≤ t ∧ t ≤ 4294967296)
    (hp : Hid (∀ w : World, Calls Try.prog 121 #[.int .u64 t, .int .u64 t] w fun e w' => e = .returned (.agg #[.int .u64 (S / 18446744073709551616), .int .u64 (S % 18446744073709551616)]) ∧ Below w.heap.size w w'))
    (hm : Hid (∀ w : World, Calls Try.prog 129 #[.agg #[.int .u64 1, .int .u64 0], .agg #[.int .u64 (S / 18446744073709551616), .int .u64 (S % 18446744073709551616)]] w fun e w' => e = .returned (.agg #[.int .u64 (M / 18446744073709551616), .int .u64 (M % 18446744073709551616)]) ∧ Below w.heap.size w w'))
    (ht : Hid (∀ w : World, Calls Try.prog 130 #[.agg #[.int .u64 (M / 18446744073709551616), .int .u64 (M % 18446744073709551616)], .int .u64 4294967296] w fun e w' => e = .returned (.agg #[.int .u64 (C / 18446744073709551616), .int .u64 (C % 18446744073709551616)]) ∧ Below w.heap.size w w'))
    (ha : Hid (∀ w : World, Calls Try.prog 131 #[.agg #[.int .u64 1, .int .u64 0], .agg #[.int .u64 (S / 18446744073709551616), .int .u64 (S % 18446744073709551616)]] w fun e w' => e = .returned (.agg #[.int .u64 (P / 18446744073709551616), .int .u64 (P % 18446744073709551616)]) ∧ Below w.heap.size w w'))
    (hs : Hid (∀ w : World, Calls Try.prog 128 #[.agg #[.int .u64 (C / 18446744073709551616), .int .u64 (C % 18446744073709551616)], .agg #[.int .u64 (P / 18446744073709551616), .int .u64 (P % 18446744073709551616)]] w fun e w' => e = .returned (.tuple #[.int .i64 R1, .int .i64 R2]) ∧ Below w.heap.size w w')) :
    Calls Try.prog 105 #[.int .i64 t] w fun e w' => e = .returned (.tuple #[.int .i64 R1, .int .i64 R2]) ∧ Below w.heap.size w w' := by
  obtain ⟨h1, h2⟩ := h
  go_enter Try.func105, Try.ntmps105
  go_wp2_with fail
  refine useF w (hp.out _) (by go_grown) ?_; rintro e w11 rfl hB11 hk11 hf11 hs11; clear hs11
  have hz11 := hB11.size
  clear hk11 hf11
  go_wp2_with fail
  have hzz := hB11.size
  have o0 : ((w11.alloc (.cells #[.int .u64 1, .int .u64 0] 127)).alloc (.cells #[.int .u64 (S / 18446744073709551616), .int .u64 (S % 18446744073709551616)] 127)).cell? ⟨w11.heap.size, 0, none⟩ = some (.int .u64 1) := by simp [go_sem]
  have o1 : ((w11.alloc (.cells #[.int .u64 1, .int .u64 0] 127)).alloc (.cells #[.int .u64 (S / 18446744073709551616), .int .u64 (S % 18446744073709551616)] 127)).cell? ⟨w11.heap.size, 1, none⟩ = some (.int .u64 0) := by simp [go_sem]
  have q0 : ((w11.alloc (.cells #[.int .u64 1, .int .u64 0] 127)).alloc (.cells #[.int .u64 (S / 18446744073709551616), .int .u64 (S % 18446744073709551616)] 127)).cell? ⟨w11.heap.size + 1, 0, none⟩ = some (.int .u64 (S / 18446744073709551616)) := by simp [go_sem]
  have q1 : ((w11.alloc (.cells #[.int .u64 1, .int .u64 0] 127)).alloc (.cells #[.int .u64 (S / 18446744073709551616), .int .u64 (S % 18446744073709551616)] 127)).cell? ⟨w11.heap.size + 1, 1, none⟩ = some (.int .u64 (S % 18446744073709551616)) := by simp [go_sem]
  refine wp_region_held_drew (S := (fun w' => w'.cell? ⟨w11.heap.size, 0, none⟩ = some (.int .u64 1) ∧ w'.cell? ⟨w11.heap.size, 1, none⟩ = some (.int .u64 0) ∧ w'.cell? ⟨w11.heap.size + 1, 0, none⟩ = some (.int .u64 (S / 18446744073709551616)) ∧ w'.cell? ⟨w11.heap.size + 1, 1, none⟩ = some (.int .u64 (S % 18446744073709551616)))) (by kernel_rfl) (by (try dsimp only); (first | (exact ⟨hk1 _ _ _ (hOld.1), hk1 _ _ _ (hOld.2.1), hk1 _ _ _ (hOld.2.2.1), hk1 _ _ _ (hOld.2.2.2)⟩) | ((try simp only [World.cell?_drew, World.frozen?_drew]); (repeat' apply And.intro) <;> (first | (with_reducible assumption) | (with_reducible exact ⟨_, by assumption⟩) | (with_reducible exact ⟨_, two_other (by assumption) (by omega)⟩) | (with_reducible exact two_0 (by assumption)) | (with_reducible exact two_1 (by assumption)) | (with_reducible exact two_other (by assumption) (by omega)) | (with_reducible exact two_fz (by assumption)) | (with_reducible exact keepA _ (by assumption)) | (with_reducible exact keepA _ (keepA _ (keepA _ (by assumption)))) | (simp (maxDischargeDepth := 8) [*, go_sem, World.cell?_alloc_some, World.cell?_setCell_far]; done))) | (go_keep; done) | (simp (maxDischargeDepth := 8) [*, go_sem, World.cell?_alloc_some, World.cell?_setCell_far]; done))) (fun hHeld => ?_)
  (refine wpAnyH_take (i := 0) (oi := ⟨some 12, _, _, _, _, none⟩) (v := ?_) rfl (by kernel_rfl) (by kernel_rfl) (by kernel_rfl) (fun _ _ _ h => h) (Or.inl ⟨by rfl, ?_⟩) hHeld ?_; rotate_left; (· (intro w9 hSw; (try dsimp only at hSw); go_simp; (try with_reducible rfl))))
  (try simp only [Act.put, List.setIfInBounds_toArray, List.set_cons_zero, List.set_cons_succ])
  (refine wpAnyH_take (i := 1) (oi := ⟨some 13, _, _, _, _, none⟩) (v := ?_) rfl (by kernel_rfl) (by kernel_rfl) (by kernel_rfl) (fun _ _ _ h => h) (Or.inl ⟨by rfl, ?_⟩) hHeld ?_; rotate_left; (· (intro w9 hSw; (try dsimp only at hSw); go_simp; (try with_reducible rfl))))
  (try simp only [Act.put, List.setIfInBounds_toArray, List.set_cons_zero, List.set_cons_succ])
  (refine wpAnyH_take (i := 4) (oi := ⟨some 16, _, _, _, _, none⟩) (v := ?_) rfl (by kernel_rfl) (by kernel_rfl) (by kernel_rfl) (fun _ _ _ h => h) (Or.inl ⟨by rfl, ?_⟩) hHeld ?_; rotate_left; (· (intro w9 hSw; (try dsimp only at hSw); go_simp; (try with_reducible rfl))))
  (try simp only [Act.put, List.setIfInBounds_toArray, List.set_cons_zero, List.set_cons_succ])
  (refine wpAnyH_take (i := 5) (oi := ⟨some 17, _, _, _, _, none⟩) (v := ?_) rfl (by kernel_rfl) (by kernel_rfl) (by kernel_rfl) (fun _ _ _ h => h) (Or.inl ⟨by rfl, ?_⟩) hHeld ?_; rotate_left; (· (intro w9 hSw; (try dsimp only at hSw); go_simp; (try with_reducible rfl))))
  (try simp only [Act.put, List.setIfInBounds_toArray, List.set_cons_zero, List.set_cons_succ])
  (refine wpAnyH_ready (rs := [2]) (by kernel_rfl) (by simp) ?_; refine AllReadyH.cons (o := ⟨some 14, _, _, _, _, none⟩) rfl (fun K hK => ?_) AllReadyH.nil; go_simp; (first | (go_at_call 129; refine useF w (hm.out _) (by go_grown) ?_; rintro e w1 rfl hB1 hk1 hf1 hs1; have hz1 := hB1.size) | (go_at_call 130; refine useF w (ht.out _) (by go_grown) ?_; rintro e w1 rfl hB1 hk1 hf1 hs1; have hz1 := hB1.size) | (go_at_call 131; refine useF w (ha.out _) (by go_grown) ?_; rintro e w1 rfl hB1 hk1 hf1 hs1; have hz1 := hB1.size) | (go_at_call 128; refine useF w (hs.out _) (by go_grown) ?_; rintro e w1 rfl hB1 hk1 hf1 hs1; have hz1 := hB1.size)); have hOld := hHeld; clear hHeld; refine hK.out _ _ ?_ (fun hHeld => ?_); (· ((try dsimp only); (first | (exact ⟨hk1 _ _ _ (hOld.1), hk1 _ _ _ (hOld.2.1), hk1 _ _ _ (hOld.2.2.1), hk1 _ _ _ (hOld.2.2.2)⟩) | ((try simp only [World.cell?_drew, World.frozen?_drew]); (repeat' apply And.intro) <;> (first | (with_reducible assumption) | (with_reducible exact ⟨_, by assumption⟩) | (with_reducible exact ⟨_, two_other (by assumption) (by omega)⟩) | (with_reducible exact two_0 (by assumption)) | (with_reducible exact two_1 (by assumption)) | (with_reducible exact two_other (by assumption) (by omega)) | (with_reducible exact two_fz (by assumption)) | (with_reducible exact keepA _ (by assumption)) | (with_reducible exact keepA _ (keepA _ (keepA _ (by assumption)))) | (simp (maxDischargeDepth := 8) [*, go_sem, World.cell?_alloc_some, World.cell?_setCell_far]; done))) | (go_keep; done) | (simp (maxDischargeDepth := 8) [*, go_sem, World.cell?_alloc_some, World.cell?_setCell_far]; done)))); clear hK K hOld; (try clear hc1 hf1); (try clear hk1 hf1))
  (try simp only [Act.put, List.setIfInBounds_toArray, List.set_cons_zero, List.set_cons_succ])
  (refine wpAnyH_ready (rs := [3]) (by kernel_rfl) (by simp) ?_; refine AllReadyH.cons (o := ⟨some 15, _, _, _, _, none⟩) rfl (fun K hK => ?_) AllReadyH.nil; go_simp; (first | (go_at_call 129; refine useF w (hm.out _) (by go_grown) ?_; rintro e w1 rfl hB1 hk1 hf1 hs1; have hz1 := hB1.size) | (go_at_call 130; refine useF w (ht.out _) (by go_grown) ?_; rintro e w1 rfl hB1 hk1 hf1 hs1; have hz1 := hB1.size) | (go_at_call 131; refine useF w (ha.out _) (by go_grown) ?_; rintro e w1 rfl hB1 hk1 hf1 hs1; have hz1 := hB1.size) | (go_at_call 128; refine useF w (hs.out _) (by go_grown) ?_; rintro e w1 rfl hB1 hk1 hf1 hs1; have hz1 := hB1.size)); have hOld := hHeld; clear hHeld; refine hK.out _ _ ?_ (fun hHeld => ?_); (· ((try dsimp only); (first | (exact ⟨hk1 _ _ _ (hOld.1), hk1 _ _ _ (hOld.2.1), hk1 _ _ _ (hOld.2.2.1), hk1 _ _ _ (hOld.2.2.2)⟩) | ((try simp only [World.cell?_drew, World.frozen?_drew]); (repeat' apply And.intro) <;> (first | (with_reducible assumption) | (with_reducible exact ⟨_, by assumption⟩) | (with_reducible exact ⟨_, two_other (by assumption) (by omega)⟩) | (with_reducible exact two_0 (by assumption)) | (with_reducible exact two_1 (by assumption)) | (with_reducible exact two_other (by assumption) (by omega)) | (with_reducible exact two_fz (by assumption)) | (with_reducible exact keepA _ (by assumption)) | (with_reducible exact keepA _ (keepA _ (keepA _ (by assumption)))) | (simp (maxDischargeDepth := 8) [*, go_sem, World.cell?_alloc_some, World.cell?_setCell_far]; done))) | (go_keep; done) | (simp (maxDischargeDepth := 8) [*, go_sem, World.cell?_alloc_some, World.cell?_setCell_far]; done)))); clear hK K hOld; (try clear hc1 hf1); (try clear hk1 hf1))
  (try simp only [Act.put, List.setIfInBounds_toArray, List.set_cons_zero, List.set_cons_succ])
  (refine wpAnyH_ready (rs := [6]) (by kernel_rfl) (by simp) ?_; refine AllReadyH.cons (o := ⟨some 18, _, _, _, _, none⟩) rfl (fun K hK => ?_) AllReadyH.nil; go_simp; (first | (go_at_call 129; refine useF w (hm.out _) (by go_grown) ?_; rintro e w1 rfl hB1 hk1 hf1 hs1; have hz1 := hB1.size) | (go_at_call 130; refine useF w (ht.out _) (by go_grown) ?_; rintro e w1 rfl hB1 hk1 hf1 hs1; have hz1 := hB1.size) | (go_at_call 131; refine useF w (ha.out _) (by go_grown) ?_; rintro e w1 rfl hB1 hk1 hf1 hs1; have hz1 := hB1.size) | (go_at_call 128; refine useF w (hs.out _) (by go_grown) ?_; rintro e w1 rfl hB1 hk1 hf1 hs1; have hz1 := hB1.size)); have hOld := hHeld; clear hHeld; refine hK.out _ _ ?_ (fun hHeld => ?_); (· ((try dsimp only); (first | (exact ⟨hk1 _ _ _ (hOld.1), hk1 _ _ _ (hOld.2.1), hk1 _ _ _ (hOld.2.2.1), hk1 _ _ _ (hOld.2.2.2)⟩) | ((try simp only [World.cell?_drew, World.frozen?_drew]); (repeat' apply And.intro) <;> (first | (with_reducible assumption) | (with_reducible exact ⟨_, by assumption⟩) | (with_reducible exact ⟨_, two_other (by assumption) (by omega)⟩) | (with_reducible exact two_0 (by assumption)) | (with_reducible exact two_1 (by assumption)) | (with_reducible exact two_other (by assumption) (by omega)) | (with_reducible exact two_fz (by assumption)) | (with_reducible exact keepA _ (by assumption)) | (with_reducible exact keepA _ (keepA _ (keepA _ (by assumption)))) | (simp (maxDischargeDepth := 8) [*, go_sem, World.cell?_alloc_some, World.cell?_setCell_far]; done))) | (go_keep; done) | (simp (maxDischargeDepth := 8) [*, go_sem, World.cell?_alloc_some, World.cell?_setCell_far]; done)))); clear hK K hOld; (try clear hc1 hf1); (try clear hk1 hf1))
  (try simp only [Act.put, List.setIfInBounds_toArray, List.set_cons_zero, List.set_cons_succ])
  (refine wpAnyH_ready (rs := [7]) (by kernel_rfl) (by simp) ?_; refine AllReadyH.cons (o := ⟨some 19, _, _, _, _, none⟩) rfl (fun K hK => ?_) AllReadyH.nil; go_simp; (first | (go_at_call 129; refine useF w (hm.out _) (by go_grown) ?_; rintro e w1 rfl hB1 hk1 hf1 hs1; have hz1 := hB1.size) | (go_at_call 130; refine useF w (ht.out _) (by go_grown) ?_; rintro e w1 rfl hB1 hk1 hf1 hs1; have hz1 := hB1.size) | (go_at_call 131; refine useF w (ha.out _) (by go_grown) ?_; rintro e w1 rfl hB1 hk1 hf1 hs1; have hz1 := hB1.size) | (go_at_call 128; refine useF w (hs.out _) (by go_grown) ?_; rintro e w1 rfl hB1 hk1 hf1 hs1; have hz1 := hB1.size)); have hOld := hHeld; clear hHeld; refine hK.out _ _ ?_ (fun hHeld => ?_); (· ((try dsimp only); (first | (exact ⟨hk1 _ _ _ (hOld.1), hk1 _ _ _ (hOld.2.1), hk1 _ _ _ (hOld.2.2.1), hk1 _ _ _ (hOld.2.2.2)⟩) | ((try simp only [World.cell?_drew, World.frozen?_drew]); (repeat' apply And.intro) <;> (first | (with_reducible assumption) | (with_reducible exact ⟨_, by assumption⟩) | (with_reducible exact ⟨_, two_other (by assumption) (by omega)⟩) | (with_reducible exact two_0 (by assumption)) | (with_reducible exact two_1 (by assumption)) | (with_reducible exact two_other (by assumption) (by omega)) | (with_reducible exact two_fz (by assumption)) | (with_reducible exact keepA _ (by assumption)) | (with_reducible exact keepA _ (keepA _ (keepA _ (by assumption)))) | (simp (maxDischargeDepth := 8) [*, go_sem, World.cell?_alloc_some, World.cell?_setCell_far]; done))) | (go_keep; done) | (simp (maxDischargeDepth := 8) [*, go_sem, World.cell?_alloc_some, World.cell?_setCell_far]; done)))); clear hK K hOld; (try clear hc1 hf1); (try clear hk1 hf1))
  (try simp only [Act.put, List.setIfInBounds_toArray, List.set_cons_zero, List.set_cons_succ])
  (refine wpAnyH_take (i := 8) (oi := ⟨some 20, _, _, _, _, none⟩) (v := ?_) rfl (by kernel_rfl) (by kernel_rfl) (by kernel_rfl) (fun _ _ _ h => h) (Or.inl ⟨by rfl, ?_⟩) hHeld ?_; rotate_left; (· (intro w9 hSw; (try dsimp only at hSw); go_simp; (try with_reducible rfl))))
  (try simp only [Act.put, List.setIfInBounds_toArray, List.set_cons_zero, List.set_cons_succ])
  (refine wpAnyH_take (i := 9) (oi := ⟨some 21, _, _, _, _, none⟩) (v := ?_) rfl (by kernel_rfl) (by kernel_rfl) (by kernel_rfl) (fun _ _ _ h => h) (Or.inl ⟨by rfl, ?_⟩) hHeld ?_; rotate_left; (· (intro w9 hSw; (try dsimp only at hSw); go_simp; (try with_reducible rfl))))
  (try simp only [Act.put, List.setIfInBounds_toArray, List.set_cons_zero, List.set_cons_succ])
  (refine wpAnyH_take (i := 10) (oi := ⟨some 2, _, _, _, _, none⟩) (v := ?_) rfl (by kernel_rfl) (by kernel_rfl) (by kernel_rfl) (fun _ _ _ h => h) (Or.inl ⟨by rfl, ?_⟩) hHeld ?_; rotate_left; (· (intro w9 hSw; (try dsimp only at hSw); go_simp; (try with_reducible rfl))))
  (try simp only [Act.put, List.setIfInBounds_toArray, List.set_cons_zero, List.set_cons_succ])
  (refine wpAnyH_take (i := 11) (oi := ⟨some 3, _, _, _, _, none⟩) (v := ?_) rfl (by kernel_rfl) (by kernel_rfl) (by kernel_rfl) (fun _ _ _ h => h) (Or.inl ⟨by rfl, ?_⟩) hHeld ?_; rotate_left; (· (intro w9 hSw; (try dsimp only at hSw); go_simp; (try with_reducible rfl))))
  (try simp only [Act.put, List.setIfInBounds_toArray, List.set_cons_zero, List.set_cons_succ])
  refine wpAnyH_done (by kernel_rfl) ?_ _
  go_wp2_with fail
  go_ret2
  exact ⟨rfl, by go_grown⟩
theorem cosine_any (t : Int) (w : World) (h : 0 ≤ t ∧ t ≤ 4294967296) :
    Calls Try.prog 105 #[.int .i64 t] w fun e w' => e = .returned (.tuple #[.int .i64 (cosQ t / oneQ t), .int .i64 (cdQ (cosQ t) (oneQ t))]) ∧ Below w.heap.size w w' := by
  have s := sq_bd (t := t) (by omega)
  obtain ⟨_, _, _, q0, q1, q2, q3⟩ := cos_bd (t := t) (by omega)
  exact cosine_go t (t * t) (18446744073709551616 - t * t) (oneQ t) (cosQ t) _ _ w h (fun W => product_any t t W (by omega)) (fun W => vminus_one (t * t) W s)
    (fun W => vtimes_any (18446744073709551616 - t * t) 4294967296 W (by omega) (by omega) (by omega)) (fun W => vplus_one (t * t) W s) (fun W => share_any (cosQ t) (oneQ t) W ⟨q0, q1⟩ ⟨q2, q3⟩)
theorem sine_neg (t a S P R1 R2 : Int) (w : World) (c : t < 0) (h : -4294967296 ≤ t ∧ t ≤ 4294967296) (ha0 : 0 ≤ a ∧ a ≤ 4294967296)
    (hz : Hid (∀ w : World, Calls Try.prog 118 #[.int .i64 t] w fun e w' => e = .returned (.int .u64 a) ∧ Below w.heap.size w w'))
    (hp : Hid (∀ w : World, Calls Try.prog 121 #[.int .u64 a, .int .u64 a] w fun e w' => e = .returned (.agg #[.int .u64 (S / 18446744073709551616), .int .u64 (S % 18446744073709551616)]) ∧ Below w.heap.size w w'))
    (ha : Hid (∀ w : World, Calls Try.prog 131 #[.agg #[.int .u64 1, .int .u64 0], .agg #[.int .u64 (S / 18446744073709551616), .int .u64 (S % 18446744073709551616)]] w fun e w' => e = .returned (.agg #[.int .u64 (P / 18446744073709551616), .int .u64 (P % 18446744073709551616)]) ∧ Below w.heap.size w w'))
    (hs : Hid (∀ w : World, Calls Try.prog 128 #[.agg #[.int .u64 (2 * a), .int .u64 0], .agg #[.int .u64 (P / 18446744073709551616), .int .u64 (P % 18446744073709551616)]] w fun e w' => e = .returned (.tuple #[.int .i64 R1, .int .i64 R2]) ∧ Below w.heap.size w w')) :
    Calls Try.prog 106 #[.int .i64 t] w fun e w' => e = .returned (.tuple #[.int .i64 (wrap64 (-R2)), .int .i64 (wrap64 (-R1))]) ∧ Below w.heap.size w w' := by
  have cd : decide (t < 0) = true := decide_eq_true c
  have ew : IntKind.u64.wrap (2 * a) = 2 * a := by simp only [IntKind.wrap_u64]; omega
  obtain ⟨h1, h2⟩ := h
  go_enter Try.func106, Try.ntmps106
  go_wp2_with fail
  refine useF w (hz.out _) (by go_grown) ?_; rintro e w11 rfl hB11 hk11 hf11 hs11; clear hs11
  have hz11 := hB11.size
  clear hk11 hf11
  go_wp2_with fail
  refine useF w (hz.out _) (by go_grown) ?_; rintro e w12 rfl hB12 hk12 hf12 hs12; clear hs12
  have hz12 := hB12.size
  clear hk12 hf12
  go_wp2_with fail
  refine useF w (hp.out _) (by go_grown) ?_; rintro e w13 rfl hB13 hk13 hf13 hs13; clear hs13
  have hz13 := hB13.size
  clear hk13 hf13
  go_wp2_with fail
  have hzz := hB13.size
  have o0 : ((w13.alloc (.cells #[.int .u64 1, .int .u64 0] 127)).alloc (.cells #[.int .u64 (S / 18446744073709551616), .int .u64 (S % 18446744073709551616)] 127)).cell? ⟨w13.heap.size, 0, none⟩ = some (.int .u64 1) := by simp [go_sem]
  have o1 : ((w13.alloc (.cells #[.int .u64 1, .int .u64 0] 127)).alloc (.cells #[.int .u64 (S / 18446744073709551616), .int .u64 (S % 18446744073709551616)] 127)).cell? ⟨w13.heap.size, 1, none⟩ = some (.int .u64 0) := by simp [go_sem]
  have q0 : ((w13.alloc (.cells #[.int .u64 1, .int .u64 0] 127)).alloc (.cells #[.int .u64 (S / 18446744073709551616), .int .u64 (S % 18446744073709551616)] 127)).cell? ⟨w13.heap.size + 1, 0, none⟩ = some (.int .u64 (S / 18446744073709551616)) := by simp [go_sem]
  have q1 : ((w13.alloc (.cells #[.int .u64 1, .int .u64 0] 127)).alloc (.cells #[.int .u64 (S / 18446744073709551616), .int .u64 (S % 18446744073709551616)] 127)).cell? ⟨w13.heap.size + 1, 1, none⟩ = some (.int .u64 (S % 18446744073709551616)) := by simp [go_sem]
  refine wp_region_held_drew (S := (fun w' => w'.cell? ⟨w13.heap.size, 0, none⟩ = some (.int .u64 1) ∧ w'.cell? ⟨w13.heap.size, 1, none⟩ = some (.int .u64 0) ∧ w'.cell? ⟨w13.heap.size + 1, 0, none⟩ = some (.int .u64 (S / 18446744073709551616)) ∧ w'.cell? ⟨w13.heap.size + 1, 1, none⟩ = some (.int .u64 (S % 18446744073709551616)))) (by kernel_rfl) (by (try dsimp only); (first | (exact ⟨hk1 _ _ _ (hOld.1), hk1 _ _ _ (hOld.2.1), hk1 _ _ _ (hOld.2.2.1), hk1 _ _ _ (hOld.2.2.2)⟩) | ((try simp only [World.cell?_drew, World.frozen?_drew]); (repeat' apply And.intro) <;> (first | (with_reducible assumption) | (with_reducible exact ⟨_, by assumption⟩) | (with_reducible exact ⟨_, two_other (by assumption) (by omega)⟩) | (with_reducible exact two_0 (by assumption)) | (with_reducible exact two_1 (by assumption)) | (with_reducible exact two_other (by assumption) (by omega)) | (with_reducible exact two_fz (by assumption)) | (with_reducible exact keepA _ (by assumption)) | (with_reducible exact keepA _ (keepA _ (keepA _ (by assumption)))) | (simp (maxDischargeDepth := 8) [*, go_sem, World.cell?_alloc_some, World.cell?_setCell_far]; done))) | (go_keep; done) | (simp (maxDischargeDepth := 8) [*, go_sem, World.cell?_alloc_some, World.cell?_setCell_far]; done))) (fun hHeld => ?_)
  (refine wpAnyH_take (i := 0) (oi := ⟨some 13, _, _, _, _, none⟩) (v := ?_) rfl (by kernel_rfl) (by kernel_rfl) (by kernel_rfl) (fun _ _ _ h => h) (Or.inl ⟨by rfl, ?_⟩) hHeld ?_; rotate_left; (· (intro w9 hSw; (try dsimp only at hSw); go_simp; (try with_reducible rfl))))
  (try simp only [Act.put, List.setIfInBounds_toArray, List.set_cons_zero, List.set_cons_succ])
  (refine wpAnyH_take (i := 4) (oi := ⟨some 17, _, _, _, _, none⟩) (v := ?_) rfl (by kernel_rfl) (by kernel_rfl) (by kernel_rfl) (fun _ _ _ h => h) (Or.inl ⟨by rfl, ?_⟩) hHeld ?_; rotate_left; (· (intro w9 hSw; (try dsimp only at hSw); go_simp; (try with_reducible rfl))))
  (try simp only [Act.put, List.setIfInBounds_toArray, List.set_cons_zero, List.set_cons_succ])
  (refine wpAnyH_take (i := 5) (oi := ⟨some 18, _, _, _, _, none⟩) (v := ?_) rfl (by kernel_rfl) (by kernel_rfl) (by kernel_rfl) (fun _ _ _ h => h) (Or.inl ⟨by rfl, ?_⟩) hHeld ?_; rotate_left; (· (intro w9 hSw; (try dsimp only at hSw); go_simp; (try with_reducible rfl))))
  (try simp only [Act.put, List.setIfInBounds_toArray, List.set_cons_zero, List.set_cons_succ])
  (refine wpAnyH_ready (rs := [1]) (by kernel_rfl) (by simp) ?_; refine AllReadyH.cons (o := ⟨some 14, _, _, _, _, none⟩) rfl (fun K hK => ?_) AllReadyH.nil; go_simp; (first | (go_at_call 118; refine useF w (hz.out _) (by go_grown) ?_; rintro e w1 rfl hB1 hk1 hf1 hs1; have hz1 := hB1.size) | (go_at_call 131; refine useF w (ha.out _) (by go_grown) ?_; rintro e w1 rfl hB1 hk1 hf1 hs1; have hz1 := hB1.size) | (simp only [ew]; (go_at_call 128; ((with_reducible refine useF w (hs.out _) ?_ ?_); (· go_grown); rintro e w1 rfl hB1 hk1 hf1 hs1; have hz1 := hB1.size))) | (go_at_call 128; ((with_reducible refine useF w (hs.out _) ?_ ?_); (· go_grown); rintro e w1 rfl hB1 hk1 hf1 hs1; have hz1 := hB1.size))); have hOld := hHeld; clear hHeld; refine hK.out _ _ ?_ (fun hHeld => ?_); (· ((try dsimp only); (first | (exact ⟨hk1 _ _ _ (hOld.1), hk1 _ _ _ (hOld.2.1), hk1 _ _ _ (hOld.2.2.1), hk1 _ _ _ (hOld.2.2.2)⟩) | ((try simp only [World.cell?_drew, World.frozen?_drew]); (repeat' apply And.intro) <;> (first | (with_reducible assumption) | (with_reducible exact ⟨_, by assumption⟩) | (with_reducible exact ⟨_, two_other (by assumption) (by omega)⟩) | (with_reducible exact two_0 (by assumption)) | (with_reducible exact two_1 (by assumption)) | (with_reducible exact two_other (by assumption) (by omega)) | (with_reducible exact two_fz (by assumption)) | (with_reducible exact keepA _ (by assumption)) | (with_reducible exact keepA _ (keepA _ (keepA _ (by assumption)))) | (simp (maxDischargeDepth := 8) [*, go_sem, World.cell?_alloc_some, World.cell?_setCell_far]; done))) | (go_keep; done) | (simp (maxDischargeDepth := 8) [*, go_sem, World.cell?_alloc_some, World.cell?_setCell_far]; done)))); clear hK K hOld; (try clear hc1 hf1); (try clear hk1 hf1))
  (try simp only [Act.put, List.setIfInBounds_toArray, List.set_cons_zero, List.set_cons_succ])
  (refine wpAnyH_take (i := 2) (oi := ⟨some 15, _, _, _, _, none⟩) (v := ?_) rfl (by kernel_rfl) (by kernel_rfl) (by kernel_rfl) (fun _ _ _ h => h) (Or.inl ⟨by rfl, ?_⟩) hHeld ?_; rotate_left; (· (intro w9 hSw; (try dsimp only at hSw); go_simp; (try with_reducible rfl))))
  (try simp only [Act.put, List.setIfInBounds_toArray, List.set_cons_zero, List.set_cons_succ])
  (refine wpAnyH_take (i := 3) (oi := ⟨some 16, _, _, _, _, none⟩) (v := ?_) rfl (by kernel_rfl) (by kernel_rfl) (by kernel_rfl) (fun _ _ _ h => h) (Or.inl ⟨by rfl, ?_⟩) hHeld ?_; rotate_left; (· (intro w9 hSw; (try dsimp only at hSw); go_simp; (try with_reducible rfl))))
  (try simp only [Act.put, List.setIfInBounds_toArray, List.set_cons_zero, List.set_cons_succ])
  (refine wpAnyH_ready (rs := [6]) (by kernel_rfl) (by simp) ?_; refine AllReadyH.cons (o := ⟨some 19, _, _, _, _, none⟩) rfl (fun K hK => ?_) AllReadyH.nil; go_simp; (first | (go_at_call 118; refine useF w (hz.out _) (by go_grown) ?_; rintro e w1 rfl hB1 hk1 hf1 hs1; have hz1 := hB1.size) | (go_at_call 131; refine useF w (ha.out _) (by go_grown) ?_; rintro e w1 rfl hB1 hk1 hf1 hs1; have hz1 := hB1.size) | (simp only [ew]; (go_at_call 128; ((with_reducible refine useF w (hs.out _) ?_ ?_); (· go_grown); rintro e w1 rfl hB1 hk1 hf1 hs1; have hz1 := hB1.size))) | (go_at_call 128; ((with_reducible refine useF w (hs.out _) ?_ ?_); (· go_grown); rintro e w1 rfl hB1 hk1 hf1 hs1; have hz1 := hB1.size))); have hOld := hHeld; clear hHeld; refine hK.out _ _ ?_ (fun hHeld => ?_); (· ((try dsimp only); (first | (exact ⟨hk1 _ _ _ (hOld.1), hk1 _ _ _ (hOld.2.1), hk1 _ _ _ (hOld.2.2.1), hk1 _ _ _ (hOld.2.2.2)⟩) | ((try simp only [World.cell?_drew, World.frozen?_drew]); (repeat' apply And.intro) <;> (first | (with_reducible assumption) | (with_reducible exact ⟨_, by assumption⟩) | (with_reducible exact ⟨_, two_other (by assumption) (by omega)⟩) | (with_reducible exact two_0 (by assumption)) | (with_reducible exact two_1 (by assumption)) | (with_reducible exact two_other (by assumption) (by omega)) | (with_reducible exact two_fz (by assumption)) | (with_reducible exact keepA _ (by assumption)) | (with_reducible exact keepA _ (keepA _ (keepA _ (by assumption)))) | (simp (maxDischargeDepth := 8) [*, go_sem, World.cell?_alloc_some, World.cell?_setCell_far]; done))) | (go_keep; done) | (simp (maxDischargeDepth := 8) [*, go_sem, World.cell?_alloc_some, World.cell?_setCell_far]; done)))); clear hK K hOld; (try clear hc1 hf1); (try clear hk1 hf1))
  (try simp only [Act.put, List.setIfInBounds_toArray, List.set_cons_zero, List.set_cons_succ])
  (refine wpAnyH_ready (rs := [7]) (by kernel_rfl) (by simp) ?_; refine AllReadyH.cons (o := ⟨some 20, _, _, _, _, none⟩) rfl (fun K hK => ?_) AllReadyH.nil; go_simp; (first | (go_at_call 118; refine useF w (hz.out _) (by go_grown) ?_; rintro e w1 rfl hB1 hk1 hf1 hs1; have hz1 := hB1.size) | (go_at_call 131; refine useF w (ha.out _) (by go_grown) ?_; rintro e w1 rfl hB1 hk1 hf1 hs1; have hz1 := hB1.size) | (simp only [ew]; (go_at_call 128; ((with_reducible refine useF w (hs.out _) ?_ ?_); (· go_grown); rintro e w1 rfl hB1 hk1 hf1 hs1; have hz1 := hB1.size))) | (go_at_call 128; ((with_reducible refine useF w (hs.out _) ?_ ?_); (· go_grown); rintro e w1 rfl hB1 hk1 hf1 hs1; have hz1 := hB1.size))); have hOld := hHeld; clear hHeld; refine hK.out _ _ ?_ (fun hHeld => ?_); (· ((try dsimp only); (first | (exact ⟨hk1 _ _ _ (hOld.1), hk1 _ _ _ (hOld.2.1), hk1 _ _ _ (hOld.2.2.1), hk1 _ _ _ (hOld.2.2.2)⟩) | ((try simp only [World.cell?_drew, World.frozen?_drew]); (repeat' apply And.intro) <;> (first | (with_reducible assumption) | (with_reducible exact ⟨_, by assumption⟩) | (with_reducible exact ⟨_, two_other (by assumption) (by omega)⟩) | (with_reducible exact two_0 (by assumption)) | (with_reducible exact two_1 (by assumption)) | (with_reducible exact two_other (by assumption) (by omega)) | (with_reducible exact two_fz (by assumption)) | (with_reducible exact keepA _ (by assumption)) | (with_reducible exact keepA _ (keepA _ (keepA _ (by assumption)))) | (simp (maxDischargeDepth := 8) [*, go_sem, World.cell?_alloc_some, World.cell?_setCell_far]; done))) | (go_keep; done) | (simp (maxDischargeDepth := 8) [*, go_sem, World.cell?_alloc_some, World.cell?_setCell_far]; done)))); clear hK K hOld; (try clear hc1 hf1); (try clear hk1 hf1))
  (try simp only [Act.put, List.setIfInBounds_toArray, List.set_cons_zero, List.set_cons_succ])
  (refine wpAnyH_take (i := 8) (oi := ⟨some 12, _, _, _, _, none⟩) (v := ?_) rfl (by kernel_rfl) (by kernel_rfl) (by kernel_rfl) (fun _ _ _ h => h) (Or.inl ⟨by rfl, ?_⟩) hHeld ?_; rotate_left; (· (intro w9 hSw; (try dsimp only at hSw); go_simp; (try with_reducible rfl))))
  (try simp only [Act.put, List.setIfInBounds_toArray, List.set_cons_zero, List.set_cons_succ])
  (refine wpAnyH_take (i := 9) (oi := ⟨some 21, _, _, _, _, none⟩) (v := ?_) rfl (by kernel_rfl) (by kernel_rfl) (by kernel_rfl) (fun _ _ _ h => h) (Or.inl ⟨by rfl, ?_⟩) hHeld ?_; rotate_left; (· (intro w9 hSw; (try dsimp only at hSw); go_simp; (try with_reducible rfl))))
  (try simp only [Act.put, List.setIfInBounds_toArray, List.set_cons_zero, List.set_cons_succ])
  (refine wpAnyH_take (i := 10) (oi := ⟨some 22, _, _, _, _, none⟩) (v := ?_) rfl (by kernel_rfl) (by kernel_rfl) (by kernel_rfl) (fun _ _ _ h => h) (Or.inl ⟨by rfl, ?_⟩) hHeld ?_; rotate_left; (· (intro w9 hSw; (try dsimp only at hSw); go_simp; (try with_reducible rfl))))
  (try simp only [Act.put, List.setIfInBounds_toArray, List.set_cons_zero, List.set_cons_succ])
  (refine wpAnyH_take (i := 11) (oi := ⟨some 2, _, _, _, _, none⟩) (v := ?_) rfl (by kernel_rfl) (by kernel_rfl) (by kernel_rfl) (fun _ _ _ h => h) (Or.inl ⟨by rfl, ?_⟩) hHeld ?_; rotate_left; (· (intro w9 hSw; (try dsimp only at hSw); go_simp; (try with_reducible rfl))))
  (try simp only [Act.put, List.setIfInBounds_toArray, List.set_cons_zero, List.set_cons_succ])
  (refine wpAnyH_take (i := 12) (oi := ⟨some 3, _, _, _, _, none⟩) (v := ?_) rfl (by kernel_rfl) (by kernel_rfl) (by kernel_rfl) (fun _ _ _ h => h) (Or.inl ⟨by rfl, ?_⟩) hHeld ?_; rotate_left; (· (intro w9 hSw; (try dsimp only at hSw); go_simp; (try with_reducible rfl))))
  (try simp only [Act.put, List.setIfInBounds_toArray, List.set_cons_zero, List.set_cons_succ])
  refine wpAnyH_done (by kernel_rfl) ?_ _
  go_wp2_with fail
  go_ret2
  exact ⟨rfl, by go_grown⟩
theorem sine_pos (t a S P R1 R2 : Int) (w : World) (c : ¬ t < 0) (h : -4294967296 ≤ t ∧ t ≤ 4294967296) (ha0 : 0 ≤ a ∧ a ≤ 4294967296)
    (hz : Hid (∀ w : World, Calls Try.prog 118 #[.int .i64 t] w fun e w' => e = .returned (.int .u64 a) ∧ Below w.heap.size w w'))
    (hp : Hid (∀ w : World, Calls Try.prog 121 #[.int .u64 a, .int .u64 a] w fun e w' => e = .returned (.agg #[.int .u64 (S / 18446744073709551616), .int .u64 (S % 18446744073709551616)]) ∧ Below w.heap.size w w'))
    (ha : Hid (∀ w : World, Calls Try.prog 131 #[.agg #[.int .u64 1, .int .u64 0], .agg #[.int .u64 (S / 18446744073709551616), .int .u64 (S % 18446744073709551616)]] w fun e w' => e = .returned (.agg #[.int .u64 (P / 18446744073709551616), .int .u64 (P % 18446744073709551616)]) ∧ Below w.heap.size w w'))
    (hs : Hid (∀ w : World, Calls Try.prog 128 #[.agg #[.int .u64 (2 * a), .int .u64 0], .agg #[.int .u64 (P / 18446744073709551616), .int .u64 (P % 18446744073709551616)]] w fun e w' => e = .returned (.tuple #[.int .i64 R1, .int .i64 R2]) ∧ Below w.heap.size w w')) :
    Calls Try.prog 106 #[.int .i64 t] w fun e w' => e = .returned (.tuple #[.int .i64 R1, .int .i64 R2]) ∧ Below w.heap.size w w' := by
  have cd : decide (t < 0) = false := decide_eq_false c
  have ew : IntKind.u64.wrap (2 * a) = 2 * a := by simp only [IntKind.wrap_u64]; omega
  obtain ⟨h1, h2⟩ := h
  go_enter Try.func106, Try.ntmps106
  go_wp2_with fail
  refine useF w (hz.out _) (by go_grown) ?_; rintro e w11 rfl hB11 hk11 hf11 hs11; clear hs11
  have hz11 := hB11.size
  clear hk11 hf11
  go_wp2_with fail
  refine useF w (hz.out _) (by go_grown) ?_; rintro e w12 rfl hB12 hk12 hf12 hs12; clear hs12
  have hz12 := hB12.size
  clear hk12 hf12
  go_wp2_with fail
  refine useF w (hp.out _) (by go_grown) ?_; rintro e w13 rfl hB13 hk13 hf13 hs13; clear hs13
  have hz13 := hB13.size
  clear hk13 hf13
  go_wp2_with fail
  have hzz := hB13.size
  have o0 : ((w13.alloc (.cells #[.int .u64 1, .int .u64 0] 127)).alloc (.cells #[.int .u64 (S / 18446744073709551616), .int .u64 (S % 18446744073709551616)] 127)).cell? ⟨w13.heap.size, 0, none⟩ = some (.int .u64 1) := by simp [go_sem]
  have o1 : ((w13.alloc (.cells #[.int .u64 1, .int .u64 0] 127)).alloc (.cells #[.int .u64 (S / 18446744073709551616), .int .u64 (S % 18446744073709551616)] 127)).cell? ⟨w13.heap.size, 1, none⟩ = some (.int .u64 0) := by simp [go_sem]
  have q0 : ((w13.alloc (.cells #[.int .u64 1, .int .u64 0] 127)).alloc (.cells #[.int .u64 (S / 18446744073709551616), .int .u64 (S % 18446744073709551616)] 127)).cell? ⟨w13.heap.size + 1, 0, none⟩ = some (.int .u64 (S / 18446744073709551616)) := by simp [go_sem]
  have q1 : ((w13.alloc (.cells #[.int .u64 1, .int .u64 0] 127)).alloc (.cells #[.int .u64 (S / 18446744073709551616), .int .u64 (S % 18446744073709551616)] 127)).cell? ⟨w13.heap.size + 1, 1, none⟩ = some (.int .u64 (S % 18446744073709551616)) := by simp [go_sem]
  refine wp_region_held_drew (S := (fun w' => w'.cell? ⟨w13.heap.size, 0, none⟩ = some (.int .u64 1) ∧ w'.cell? ⟨w13.heap.size, 1, none⟩ = some (.int .u64 0) ∧ w'.cell? ⟨w13.heap.size + 1, 0, none⟩ = some (.int .u64 (S / 18446744073709551616)) ∧ w'.cell? ⟨w13.heap.size + 1, 1, none⟩ = some (.int .u64 (S % 18446744073709551616)))) (by kernel_rfl) (by (try dsimp only); (first | (exact ⟨hk1 _ _ _ (hOld.1), hk1 _ _ _ (hOld.2.1), hk1 _ _ _ (hOld.2.2.1), hk1 _ _ _ (hOld.2.2.2)⟩) | ((try simp only [World.cell?_drew, World.frozen?_drew]); (repeat' apply And.intro) <;> (first | (with_reducible assumption) | (with_reducible exact ⟨_, by assumption⟩) | (with_reducible exact ⟨_, two_other (by assumption) (by omega)⟩) | (with_reducible exact two_0 (by assumption)) | (with_reducible exact two_1 (by assumption)) | (with_reducible exact two_other (by assumption) (by omega)) | (with_reducible exact two_fz (by assumption)) | (with_reducible exact keepA _ (by assumption)) | (with_reducible exact keepA _ (keepA _ (keepA _ (by assumption)))) | (simp (maxDischargeDepth := 8) [*, go_sem, World.cell?_alloc_some, World.cell?_setCell_far]; done))) | (go_keep; done) | (simp (maxDischargeDepth := 8) [*, go_sem, World.cell?_alloc_some, World.cell?_setCell_far]; done))) (fun hHeld => ?_)
  (refine wpAnyH_take (i := 0) (oi := ⟨some 13, _, _, _, _, none⟩) (v := ?_) rfl (by kernel_rfl) (by kernel_rfl) (by kernel_rfl) (fun _ _ _ h => h) (Or.inl ⟨by rfl, ?_⟩) hHeld ?_; rotate_left; (· (intro w9 hSw; (try dsimp only at hSw); go_simp; (try with_reducible rfl))))
  (try simp only [Act.put, List.setIfInBounds_toArray, List.set_cons_zero, List.set_cons_succ])
  (refine wpAnyH_take (i := 4) (oi := ⟨some 17, _, _, _, _, none⟩) (v := ?_) rfl (by kernel_rfl) (by kernel_rfl) (by kernel_rfl) (fun _ _ _ h => h) (Or.inl ⟨by rfl, ?_⟩) hHeld ?_; rotate_left; (· (intro w9 hSw; (try dsimp only at hSw); go_simp; (try with_reducible rfl))))
  (try simp only [Act.put, List.setIfInBounds_toArray, List.set_cons_zero, List.set_cons_succ])
  (refine wpAnyH_take (i := 5) (oi := ⟨some 18, _, _, _, _, none⟩) (v := ?_) rfl (by kernel_rfl) (by kernel_rfl) (by kernel_rfl) (fun _ _ _ h => h) (Or.inl ⟨by rfl, ?_⟩) hHeld ?_; rotate_left; (· (intro w9 hSw; (try dsimp only at hSw); go_simp; (try with_reducible rfl))))
  (try simp only [Act.put, List.setIfInBounds_toArray, List.set_cons_zero, List.set_cons_succ])
  (refine wpAnyH_ready (rs := [1]) (by kernel_rfl) (by simp) ?_; refine AllReadyH.cons (o := ⟨some 14, _, _, _, _, none⟩) rfl (fun K hK => ?_) AllReadyH.nil; go_simp; (first | (go_at_call 118; refine useF w (hz.out _) (by go_grown) ?_; rintro e w1 rfl hB1 hk1 hf1 hs1; have hz1 := hB1.size) | (go_at_call 131; refine useF w (ha.out _) (by go_grown) ?_; rintro e w1 rfl hB1 hk1 hf1 hs1; have hz1 := hB1.size) | (simp only [ew]; (go_at_call 128; ((with_reducible refine useF w (hs.out _) ?_ ?_); (· go_grown); rintro e w1 rfl hB1 hk1 hf1 hs1; have hz1 := hB1.size))) | (go_at_call 128; ((with_reducible refine useF w (hs.out _) ?_ ?_); (· go_grown); rintro e w1 rfl hB1 hk1 hf1 hs1; have hz1 := hB1.size))); have hOld := hHeld; clear hHeld; refine hK.out _ _ ?_ (fun hHeld => ?_); (· ((try dsimp only); (first | (exact ⟨hk1 _ _ _ (hOld.1), hk1 _ _ _ (hOld.2.1), hk1 _ _ _ (hOld.2.2.1), hk1 _ _ _ (hOld.2.2.2)⟩) | ((try simp only [World.cell?_drew, World.frozen?_drew]); (repeat' apply And.intro) <;> (first | (with_reducible assumption) | (with_reducible exact ⟨_, by assumption⟩) | (with_reducible exact ⟨_, two_other (by assumption) (by omega)⟩) | (with_reducible exact two_0 (by assumption)) | (with_reducible exact two_1 (by assumption)) | (with_reducible exact two_other (by assumption) (by omega)) | (with_reducible exact two_fz (by assumption)) | (with_reducible exact keepA _ (by assumption)) | (with_reducible exact keepA _ (keepA _ (keepA _ (by assumption)))) | (simp (maxDischargeDepth := 8) [*, go_sem, World.cell?_alloc_some, World.cell?_setCell_far]; done))) | (go_keep; done) | (simp (maxDischargeDepth := 8) [*, go_sem, World.cell?_alloc_some, World.cell?_setCell_far]; done)))); clear hK K hOld; (try clear hc1 hf1); (try clear hk1 hf1))
  (try simp only [Act.put, List.setIfInBounds_toArray, List.set_cons_zero, List.set_cons_succ])
  (refine wpAnyH_take (i := 2) (oi := ⟨some 15, _, _, _, _, none⟩) (v := ?_) rfl (by kernel_rfl) (by kernel_rfl) (by kernel_rfl) (fun _ _ _ h => h) (Or.inl ⟨by rfl, ?_⟩) hHeld ?_; rotate_left; (· (intro w9 hSw; (try dsimp only at hSw); go_simp; (try with_reducible rfl))))
  (try simp only [Act.put, List.setIfInBounds_toArray, List.set_cons_zero, List.set_cons_succ])
  (refine wpAnyH_take (i := 3) (oi := ⟨some 16, _, _, _, _, none⟩) (v := ?_) rfl (by kernel_rfl) (by kernel_rfl) (by kernel_rfl) (fun _ _ _ h => h) (Or.inl ⟨by rfl, ?_⟩) hHeld ?_; rotate_left; (· (intro w9 hSw; (try dsimp only at hSw); go_simp; (try with_reducible rfl))))
  (try simp only [Act.put, List.setIfInBounds_toArray, List.set_cons_zero, List.set_cons_succ])
  (refine wpAnyH_ready (rs := [6]) (by kernel_rfl) (by simp) ?_; refine AllReadyH.cons (o := ⟨some 19, _, _, _, _, none⟩) rfl (fun K hK => ?_) AllReadyH.nil; go_simp; (first | (go_at_call 118; refine useF w (hz.out _) (by go_grown) ?_; rintro e w1 rfl hB1 hk1 hf1 hs1; have hz1 := hB1.size) | (go_at_call 131; refine useF w (ha.out _) (by go_grown) ?_; rintro e w1 rfl hB1 hk1 hf1 hs1; have hz1 := hB1.size) | (simp only [ew]; (go_at_call 128; ((with_reducible refine useF w (hs.out _) ?_ ?_); (· go_grown); rintro e w1 rfl hB1 hk1 hf1 hs1; have hz1 := hB1.size))) | (go_at_call 128; ((with_reducible refine useF w (hs.out _) ?_ ?_); (· go_grown); rintro e w1 rfl hB1 hk1 hf1 hs1; have hz1 := hB1.size))); have hOld := hHeld; clear hHeld; refine hK.out _ _ ?_ (fun hHeld => ?_); (· ((try dsimp only); (first | (exact ⟨hk1 _ _ _ (hOld.1), hk1 _ _ _ (hOld.2.1), hk1 _ _ _ (hOld.2.2.1), hk1 _ _ _ (hOld.2.2.2)⟩) | ((try simp only [World.cell?_drew, World.frozen?_drew]); (repeat' apply And.intro) <;> (first | (with_reducible assumption) | (with_reducible exact ⟨_, by assumption⟩) | (with_reducible exact ⟨_, two_other (by assumption) (by omega)⟩) | (with_reducible exact two_0 (by assumption)) | (with_reducible exact two_1 (by assumption)) | (with_reducible exact two_other (by assumption) (by omega)) | (with_reducible exact two_fz (by assumption)) | (with_reducible exact keepA _ (by assumption)) | (with_reducible exact keepA _ (keepA _ (keepA _ (by assumption)))) | (simp (maxDischargeDepth := 8) [*, go_sem, World.cell?_alloc_some, World.cell?_setCell_far]; done))) | (go_keep; done) | (simp (maxDischargeDepth := 8) [*, go_sem, World.cell?_alloc_some, World.cell?_setCell_far]; done)))); clear hK K hOld; (try clear hc1 hf1); (try clear hk1 hf1))
  (try simp only [Act.put, List.setIfInBounds_toArray, List.set_cons_zero, List.set_cons_succ])
  (refine wpAnyH_ready (rs := [7]) (by kernel_rfl) (by simp) ?_; refine AllReadyH.cons (o := ⟨some 20, _, _, _, _, none⟩) rfl (fun K hK => ?_) AllReadyH.nil; go_simp; (first | (go_at_call 118; refine useF w (hz.out _) (by go_grown) ?_; rintro e w1 rfl hB1 hk1 hf1 hs1; have hz1 := hB1.size) | (go_at_call 131; refine useF w (ha.out _) (by go_grown) ?_; rintro e w1 rfl hB1 hk1 hf1 hs1; have hz1 := hB1.size) | (simp only [ew]; (go_at_call 128; ((with_reducible refine useF w (hs.out _) ?_ ?_); (· go_grown); rintro e w1 rfl hB1 hk1 hf1 hs1; have hz1 := hB1.size))) | (go_at_call 128; ((with_reducible refine useF w (hs.out _) ?_ ?_); (· go_grown); rintro e w1 rfl hB1 hk1 hf1 hs1; have hz1 := hB1.size))); have hOld := hHeld; clear hHeld; refine hK.out _ _ ?_ (fun hHeld => ?_); (· ((try dsimp only); (first | (exact ⟨hk1 _ _ _ (hOld.1), hk1 _ _ _ (hOld.2.1), hk1 _ _ _ (hOld.2.2.1), hk1 _ _ _ (hOld.2.2.2)⟩) | ((try simp only [World.cell?_drew, World.frozen?_drew]); (repeat' apply And.intro) <;> (first | (with_reducible assumption) | (with_reducible exact ⟨_, by assumption⟩) | (with_reducible exact ⟨_, two_other (by assumption) (by omega)⟩) | (with_reducible exact two_0 (by assumption)) | (with_reducible exact two_1 (by assumption)) | (with_reducible exact two_other (by assumption) (by omega)) | (with_reducible exact two_fz (by assumption)) | (with_reducible exact keepA _ (by assumption)) | (with_reducible exact keepA _ (keepA _ (keepA _ (by assumption)))) | (simp (maxDischargeDepth := 8) [*, go_sem, World.cell?_alloc_some, World.cell?_setCell_far]; done))) | (go_keep; done) | (simp (maxDischargeDepth := 8) [*, go_sem, World.cell?_alloc_some, World.cell?_setCell_far]; done)))); clear hK K hOld; (try clear hc1 hf1); (try clear hk1 hf1))
  (try simp only [Act.put, List.setIfInBounds_toArray, List.set_cons_zero, List.set_cons_succ])
  (refine wpAnyH_take (i := 8) (oi := ⟨some 12, _, _, _, _, none⟩) (v := ?_) rfl (by kernel_rfl) (by kernel_rfl) (by kernel_rfl) (fun _ _ _ h => h) (Or.inl ⟨by rfl, ?_⟩) hHeld ?_; rotate_left; (· (intro w9 hSw; (try dsimp only at hSw); go_simp; (try with_reducible rfl))))
  (try simp only [Act.put, List.setIfInBounds_toArray, List.set_cons_zero, List.set_cons_succ])
  (refine wpAnyH_take (i := 9) (oi := ⟨some 21, _, _, _, _, none⟩) (v := ?_) rfl (by kernel_rfl) (by kernel_rfl) (by kernel_rfl) (fun _ _ _ h => h) (Or.inl ⟨by rfl, ?_⟩) hHeld ?_; rotate_left; (· (intro w9 hSw; (try dsimp only at hSw); go_simp; (try with_reducible rfl))))
  (try simp only [Act.put, List.setIfInBounds_toArray, List.set_cons_zero, List.set_cons_succ])
  (refine wpAnyH_take (i := 10) (oi := ⟨some 22, _, _, _, _, none⟩) (v := ?_) rfl (by kernel_rfl) (by kernel_rfl) (by kernel_rfl) (fun _ _ _ h => h) (Or.inl ⟨by rfl, ?_⟩) hHeld ?_; rotate_left; (· (intro w9 hSw; (try dsimp only at hSw); go_simp; (try with_reducible rfl))))
  (try simp only [Act.put, List.setIfInBounds_toArray, List.set_cons_zero, List.set_cons_succ])
  (refine wpAnyH_take (i := 11) (oi := ⟨some 2, _, _, _, _, none⟩) (v := ?_) rfl (by kernel_rfl) (by kernel_rfl) (by kernel_rfl) (fun _ _ _ h => h) (Or.inl ⟨by rfl, ?_⟩) hHeld ?_; rotate_left; (· (intro w9 hSw; (try dsimp only at hSw); go_simp; (try with_reducible rfl))))
  (try simp only [Act.put, List.setIfInBounds_toArray, List.set_cons_zero, List.set_cons_succ])
  (refine wpAnyH_take (i := 12) (oi := ⟨some 3, _, _, _, _, none⟩) (v := ?_) rfl (by kernel_rfl) (by kernel_rfl) (by kernel_rfl) (fun _ _ _ h => h) (Or.inl ⟨by rfl, ?_⟩) hHeld ?_; rotate_left; (· (intro w9 hSw; (try dsimp only at hSw); go_simp; (try with_reducible rfl))))
  (try simp only [Act.put, List.setIfInBounds_toArray, List.set_cons_zero, List.set_cons_succ])
  refine wpAnyH_done (by kernel_rfl) ?_ _
  go_wp2_with fail
  go_ret2
  exact ⟨rfl, by go_grown⟩
theorem ab_sq (t : Int) : ab t * ab t = t * t := by have v := ab_mul' t t; rw [if_pos rfl] at v; exact v.symm
theorem sine_any (t : Int) (w : World) (h : -4294967296 ≤ t ∧ t ≤ 4294967296) :
    Calls Try.prog 106 #[.int .i64 t] w fun e w' => e = .returned (.tuple #[.int .i64 (sinQ t / oneQ t), .int .i64 (cdQ (sinQ t) (oneQ t))]) ∧ Below w.heap.size w w' := by
  have s := sq_bd (t := t) (by omega)
  obtain ⟨_, _, _, q0, q1, _⟩ := cos_bd (t := t) (by omega)
  obtain ⟨b1, b2, b3, q4, q5⟩ := sin_bd (t := t) h
  have ha0 : 0 ≤ ab t ∧ ab t ≤ 4294967296 := by unfold ab; split <;> omega
  have hp0 := fun W => product_any (ab t) (ab t) W (by omega)
  simp only [ab_sq] at hp0
  have e1 : sinQ (ab t) / 18446744073709551616 = 2 * ab t := by unfold sinQ; omega
  have e2 : sinQ (ab t) % 18446744073709551616 = 0 := by unfold sinQ; omega
  have e3 : sinQ (ab t) = if t < 0 then -sinQ t else sinQ t := by unfold sinQ ab; split <;> omega
  have hs0 := fun W => share_any (sinQ (ab t)) (oneQ t) W ⟨q0, q1⟩ (by rw [e3]; split <;> omega)
  rw [e1, e2] at hs0
  by_cases c : t < 0
  · rw [e3, if_pos c, (cd_neg _ _).1, (cd_neg _ _).2] at hs0
    have k := sine_neg t (ab t) (t * t) (oneQ t) _ _ w c h ha0 (fun W => size_any t W (by omega)) hp0 (fun W => vplus_one (t * t) W s) hs0
    rw [Int.neg_neg, Int.neg_neg, show wrap64 (sinQ t / oneQ t) = sinQ t / oneQ t by simp only [wrap64]; omega, show wrap64 (cdQ (sinQ t) (oneQ t)) = cdQ (sinQ t) (oneQ t) by simp only [wrap64]; omega] at k
    exact k
  · rw [e3, if_neg c] at hs0
    exact sine_pos t (ab t) (t * t) (oneQ t) _ _ w c h ha0 (fun W => size_any t W (by omega)) hp0 (fun W => vplus_one (t * t) W s) hs0
end Go.Proofs.Ytjleflfncijnpaa
