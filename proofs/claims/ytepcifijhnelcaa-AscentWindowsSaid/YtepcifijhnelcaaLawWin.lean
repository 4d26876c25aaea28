/- AscentWindows: the walk. -/
import Derived.Deep.DeepCutAuto
import Derived.Test.YtepcifijhnelcaaRows
import Derived.Test.YtepcifijhnelcaaBase
import Derived.Test.YtepcifijhnelcaaFacts
import Derived.Test.YtepcifijhnelcaaTwo
import Derived.Deep.RegionHeld3
import Derived.Deep.RegionWith
import Derived.Deep.QuietTactic
import Derived.BigQuiet
import Derived.Test.YtepcifijhnelcaaSeq
import Derived.Test.YtepcifijhnelcaaWinM
import Derived.Test.YtepcifijhnelcaaWinF
import Derived.Test.YtepcifijhnelcaaSlotS
import Derived.Test.YtepcifijhnelcaaSlotU
import Derived.Test.YtepcifijhnelcaaSlotsC
import Derived.Test.YtepcifijhnelcaaSlotsR
set_option linter.unusedVariables false
set_option linter.unusedSimpArgs false
set_option maxHeartbeats 4000000
set_option maxRecDepth 100000
namespace Go.Proofs.Ytepcifijhnelcaa
open Go Go.RowKit
theorem slotsR_len (P F L f t : Int) : (if slotsE P F L f t = 0 then slotsT P F L f t else []).length < 1000000 := by
  split
  · rename_i h
    unfold slotsE at h
    split at h
    · split at h
      · omega
      · omega
    · omega
  · simp
set_option maxRecDepth 100000 in
theorem lawWindows_any (P F L f t x : Int) (w : World) (h : (-9223372036854775808 ≤ P ∧ P ≤ 9223372036854775807) ∧ (-9223372036854775808 ≤ F ∧ F ≤ 9223372036854775807) ∧ (-9223372036854775808 ≤ L ∧ L ≤ 9223372036854775807) ∧ (-9223372036854775808 ≤ f ∧ f ≤ 9223372036854775807) ∧ (-9223372036854775808 ≤ t ∧ t ≤ 9223372036854775807) ∧ (-9223372036854775808 ≤ x ∧ x ≤ 9223372036854775807)) :
    Calls Try.prog 4 #[.agg #[.int .i64 P, .int .i64 F, .int .i64 L], .int .i64 f, .int .i64 t, .int .i64 x] w fun e w' => e = .returned (.bool true) ∧ Below w.heap.size w w' := by
  have k1 : Hid (∀ W : World, Calls Try.prog 15 #[.agg #[.int .i64 P, .int .i64 F, .int .i64 L], .int .i64 f, .int .i64 t] W fun e w' => (∃ v, e = .returned (.tuple #[v, .int .i64 (slotsE P F L f t)]) ∧ SlotsIn v (if slotsE P F L f t = 0 then slotsT P F L f t else []) w') ∧ Below W.heap.size W w') := hid fun W => slots_any P F L f t W (by omega)
  have k2 : Hid (∀ W : World, Calls Try.prog 16 #[.agg #[.int .i64 P, .int .i64 F, .int .i64 L], .int .i64 f, .int .i64 t] W fun e w' => (∃ v, e = .returned (.tuple #[v, .int .i64 (slotsE P F L f t)]) ∧ SlotsIn v (if slotsE P F L f t = 0 then slotsT P F L f t else []) w') ∧ Below W.heap.size W w') := hid fun W => rslots_any P F L f t W (by omega)
  have k3 := hid (fun W => contains_any P F L x W (by omega))
  have k4 := hid (fun W => rcontains_any P F L x W (by omega))
  have hl := hid (slotsR_len P F L f t)
  generalize (if slotsE P F L f t = 0 then slotsT P F L f t else []) = R at *
  generalize slotsE P F L f t = E at *
  generalize contB P F L x = C at *
  go_enter Try.func4, Try.ntmps4
  go_wp2_with fail
  refine useP w (k1.out _) (by go_grown) ?_; rintro e w1 ⟨v1, rfl, s1⟩ hB1 hO1
  have p0 := cell_below (w1 := w1) (show (w.alloc (.cells #[.int .i64 P, .int .i64 F, .int .i64 L] 48)).cell? ⟨w.heap.size, 0, none⟩ = some (.int .i64 P) by simp [go_sem]) hO1
  have p1 := cell_below (w1 := w1) (show (w.alloc (.cells #[.int .i64 P, .int .i64 F, .int .i64 L] 48)).cell? ⟨w.heap.size, 1, none⟩ = some (.int .i64 F) by simp [go_sem]) hO1
  have p2 := cell_below (w1 := w1) (show (w.alloc (.cells #[.int .i64 P, .int .i64 F, .int .i64 L] 48)).cell? ⟨w.heap.size, 2, none⟩ = some (.int .i64 L) by simp [go_sem]) hO1
  have b1 := World.block_lt_of_cell? _ _ p0
  dsimp only at b1
  clear hO1
  go_wp2_with fail
  refine useP w (k2.out _) (by go_grown) ?_; rintro e w2 ⟨v2, rfl, s2⟩ hB2 hO2
  replace p0 := cell_below p0 hO2; replace p1 := cell_below p1 hO2; replace p2 := cell_below p2 hO2
  replace s1 := s1.below hO2
  clear hO2 b1
  have b1 := World.block_lt_of_cell? _ _ p0
  dsimp only at b1
  have g1 := s1
  have g2 := s2
  obtain ⟨x1, y1, rfl, _⟩ := g1
  obtain ⟨x2, y2, rfl, _⟩ := g2
  go_wp2_with fail
  refine wp_region_held_drew (S := (fun w' => w'.cell? ⟨w.heap.size, 0, none⟩ = some (.int .i64 P) ∧ w'.cell? ⟨w.heap.size, 1, none⟩ = some (.int .i64 F) ∧ w'.cell? ⟨w.heap.size, 2, none⟩ = some (.int .i64 L))) (by kernel_rfl) (by (try dsimp only); simp only [World.cell?_drew, World.frozen?_drew]; exact ⟨p0, p1, p2⟩) (fun hHeld => ?_)
  have hBq0 : Below w.heap.size w w2.drew := by go_grown
  (try dsimp only at hHeld)
  clear p0 p1 p2
  replace s1 := (s1).drew
  replace s2 := (s2).drew
  generalize w2.drew = wq0 at *
  have hzq0 : w.heap.size ≤ wq0.heap.size := hBq0.size
  (refine wpAnyH_take (i := 0) (oi := ⟨some 27, _, _, _, _, none⟩) (v := ?_) rfl (by kernel_rfl) (by kernel_rfl) (by kernel_rfl) (fun _ _ _ h => h) (Or.inl ⟨by rfl, ?_⟩) hHeld ?_; rotate_left; (· (intro w9 hSw; (try dsimp only at hSw); go_simp; (try with_reducible rfl))))
  (try simp only [Act.put, List.setIfInBounds_toArray, List.set_cons_zero, List.set_cons_succ])
  (refine wpAnyH_take (i := 1) (oi := ⟨some 28, _, _, _, _, none⟩) (v := ?_) rfl (by kernel_rfl) (by kernel_rfl) (by kernel_rfl) (fun _ _ _ h => h) (Or.inl ⟨by rfl, ?_⟩) hHeld ?_; rotate_left; (· (intro w9 hSw; (try dsimp only at hSw); go_simp; (try with_reducible rfl))))
  (try simp only [Act.put, List.setIfInBounds_toArray, List.set_cons_zero, List.set_cons_succ])
  (refine wpAnyH_take (i := 3) (oi := ⟨some 30, _, _, _, _, none⟩) (v := ?_) rfl (by kernel_rfl) (by kernel_rfl) (by kernel_rfl) (fun _ _ _ h => h) (Or.inl ⟨by rfl, ?_⟩) hHeld ?_; rotate_left; (· (intro w9 hSw; (try dsimp only at hSw); go_simp; (try with_reducible rfl))))
  (try simp only [Act.put, List.setIfInBounds_toArray, List.set_cons_zero, List.set_cons_succ])
  (refine wpAnyH_take (i := 4) (oi := ⟨some 31, _, _, _, _, none⟩) (v := ?_) rfl (by kernel_rfl) (by kernel_rfl) (by kernel_rfl) (fun _ _ _ h => h) (Or.inl ⟨by rfl, ?_⟩) hHeld ?_; rotate_left; (· (intro w9 hSw; (try dsimp only at hSw); go_simp; (try with_reducible rfl))))
  (try simp only [Act.put, List.setIfInBounds_toArray, List.set_cons_zero, List.set_cons_succ])
  refine wpAnyH_ready (rs := [2]) (by kernel_rfl) (by simp) ?_
  refine AllReadyH.cons (o := ⟨some 29, _, _, _, _, none⟩) rfl (fun K hK => ?_) (AllReadyH.nil)
  go_simp
  (go_at_call 17; refine useF w (k3.out _) (by go_grown) ?_; rintro e wq1 rfl hBq1 hkq1 hfq1 hsq1)
  have hOld := hHeld; clear hHeld; refine hK.out _ _ ?_ (fun hHeld => ?_)
  · exact ⟨hkq1 _ _ _ (hOld.1), hkq1 _ _ _ (hOld.2.1), hkq1 _ _ _ (hOld.2.2)⟩
  clear hK K hOld
  replace s1 := (s1).keep hkq1
  replace s2 := (s2).keep hkq1
  clear hkq1 hfq1 hsq1
  have hzq1 : w.heap.size ≤ wq1.heap.size := hBq1.size
  (try simp only [Act.put, List.setIfInBounds_toArray, List.set_cons_zero, List.set_cons_succ])
  refine wpAnyH_ready (rs := [5]) (by kernel_rfl) (by simp) ?_
  refine AllReadyH.cons (o := ⟨some 32, _, _, _, _, none⟩) rfl (fun K hK => ?_) (AllReadyH.nil)
  go_simp
  (go_at_call 18; refine useF w (k4.out _) (by go_grown) ?_; rintro e wq2 rfl hBq2 hkq2 hfq2 hsq2)
  have hOld := hHeld; clear hHeld; refine hK.out _ _ ?_ (fun hHeld => ?_)
  · exact ⟨hkq2 _ _ _ (hOld.1), hkq2 _ _ _ (hOld.2.1), hkq2 _ _ _ (hOld.2.2)⟩
  clear hK K hOld
  replace s1 := (s1).keep hkq2
  replace s2 := (s2).keep hkq2
  clear hkq2 hfq2 hsq2
  have hzq2 : w.heap.size ≤ wq2.heap.size := hBq2.size
  (try simp only [Act.put, List.setIfInBounds_toArray, List.set_cons_zero, List.set_cons_succ])
  (refine wpAnyH_take (i := 6) (oi := ⟨some 33, _, _, _, _, none⟩) (v := ?_) rfl (by kernel_rfl) (by kernel_rfl) (by kernel_rfl) (fun _ _ _ h => h) (Or.inl ⟨by rfl, ?_⟩) hHeld ?_; rotate_left; (· (intro w9 hSw; (try dsimp only at hSw); go_simp; (try with_reducible rfl))))
  (try simp only [Act.put, List.setIfInBounds_toArray, List.set_cons_zero, List.set_cons_succ])
  (refine wpAnyH_take (i := 7) (oi := ⟨some 34, _, _, _, _, none⟩) (v := ?_) rfl (by kernel_rfl) (by kernel_rfl) (by kernel_rfl) (fun _ _ _ h => h) (Or.inl ⟨by rfl, ?_⟩) hHeld ?_; rotate_left; (· (intro w9 hSw; (try dsimp only at hSw); go_simp; (try with_reducible rfl))))
  (try simp only [Act.put, List.setIfInBounds_toArray, List.set_cons_zero, List.set_cons_succ])
  (refine wpAnyH_take (i := 8) (oi := ⟨some 35, _, _, _, _, some (7, true)⟩) (v := ?_) rfl (by kernel_rfl) (by kernel_rfl) (by kernel_rfl) (fun _ _ _ h => h) (Or.inl ⟨by rfl, ?_⟩) hHeld ?_; rotate_left; (· (intro w9 hSw; (try dsimp only at hSw); go_simp; (try with_reducible rfl))))
  (try simp only [Act.put, List.setIfInBounds_toArray, List.set_cons_zero, List.set_cons_succ])
  (refine wpAnyH_take (i := 9) (oi := ⟨some 36, _, _, _, _, some (7, true)⟩) (v := ?_) rfl (by kernel_rfl) (by kernel_rfl) (by kernel_rfl) (fun _ _ _ h => h) (Or.inl ⟨by rfl, ?_⟩) hHeld ?_; rotate_left; (· (intro w9 hSw; (try dsimp only at hSw); go_simp; (try with_reducible rfl))))
  (try simp only [Act.put, List.setIfInBounds_toArray, List.set_cons_zero, List.set_cons_succ])
  (refine wpAnyH_take (i := 10) (oi := ⟨some 37, _, _, _, _, some (7, true)⟩) (v := ?_) rfl (by kernel_rfl) (by kernel_rfl) (by kernel_rfl) (fun _ _ _ h => h) (Or.inl ⟨by rfl, ?_⟩) hHeld ?_; rotate_left; (· (intro w9 hSw; (try dsimp only at hSw); go_simp; (try with_reducible rfl))))
  (try simp only [Act.put, List.setIfInBounds_toArray, List.set_cons_zero, List.set_cons_succ])
  (refine wpAnyH_take (i := 11) (oi := ⟨some 38, _, _, _, _, none⟩) (v := ?_) rfl (by kernel_rfl) (by kernel_rfl) (by kernel_rfl) (fun _ _ _ h => h) (Or.inl ⟨by rfl, ?_⟩) hHeld ?_; rotate_left; (· (intro w9 hSw; (try dsimp only at hSw); go_simp; (try with_reducible rfl))))
  (try simp only [Act.put, List.setIfInBounds_toArray, List.set_cons_zero, List.set_cons_succ])
  (refine wpAnyH_take (i := 12) (oi := ⟨some 39, _, _, _, _, none⟩) (v := ?_) rfl (by kernel_rfl) (by kernel_rfl) (by kernel_rfl) (fun _ _ _ h => h) (Or.inl ⟨by rfl, ?_⟩) hHeld ?_; rotate_left; (· (intro w9 hSw; (try dsimp only at hSw); go_simp; (try with_reducible rfl))))
  (try simp only [Act.put, List.setIfInBounds_toArray, List.set_cons_zero, List.set_cons_succ])
  (refine wpAnyH_take (i := 13) (oi := ⟨some 40, _, _, _, _, some (12, true)⟩) (v := ?_) rfl (by kernel_rfl) (by kernel_rfl) (by kernel_rfl) (fun _ _ _ h => h) (Or.inl ⟨by rfl, ?_⟩) hHeld ?_; rotate_left; (· (intro w9 hSw; (try dsimp only at hSw); go_simp; (try with_reducible rfl))))
  (try simp only [Act.put, List.setIfInBounds_toArray, List.set_cons_zero, List.set_cons_succ])
  (refine wpAnyH_take (i := 14) (oi := ⟨some 41, _, _, _, _, some (12, true)⟩) (v := ?_) rfl (by kernel_rfl) (by kernel_rfl) (by kernel_rfl) (fun _ _ _ h => h) (Or.inl ⟨by rfl, ?_⟩) hHeld ?_; rotate_left; (· (intro w9 hSw; (try dsimp only at hSw); go_simp; (try with_reducible rfl))))
  (try simp only [Act.put, List.setIfInBounds_toArray, List.set_cons_zero, List.set_cons_succ])
  refine wpAnyH_ready (rs := [15]) (by kernel_rfl) (by simp) ?_
  refine AllReadyH.cons (o := ⟨some 42, _, _, _, _, some (12, true)⟩) rfl (fun K hK => ?_) (AllReadyH.nil)
  go_simp
  (go_at_call 19; refine useF w (same_slots _ _ _ _ R _ hl.out s1 s2) (by go_grown) ?_; rintro e wq3 rfl hBq3 hkq3 hfq3 hsq3)
  have hOld := hHeld; clear hHeld; refine hK.out _ _ ?_ (fun hHeld => ?_)
  · exact ⟨hkq3 _ _ _ (hOld.1), hkq3 _ _ _ (hOld.2.1), hkq3 _ _ _ (hOld.2.2)⟩
  clear hK K hOld
  replace s1 := (s1).keep hkq3
  replace s2 := (s2).keep hkq3
  clear hkq3 hfq3 hsq3
  have hzq3 : w.heap.size ≤ wq3.heap.size := hBq3.size
  (try simp only [Act.put, List.setIfInBounds_toArray, List.set_cons_zero, List.set_cons_succ])
  (refine wpAnyH_take (i := 16) (oi := ⟨some 43, _, _, _, _, none⟩) (v := ?_) rfl (by kernel_rfl) (by kernel_rfl) (by kernel_rfl) (fun _ _ _ h => h) (Or.inl ⟨by rfl, ?_⟩) hHeld ?_; rotate_left; (· (intro w9 hSw; (try dsimp only at hSw); go_simp; (try with_reducible rfl))))
  (try simp only [Act.put, List.setIfInBounds_toArray, List.set_cons_zero, List.set_cons_succ])
  (refine wpAnyH_take (i := 17) (oi := ⟨some 8, _, _, _, _, none⟩) (v := ?_) rfl (by kernel_rfl) (by kernel_rfl) (by kernel_rfl) (fun _ _ _ h => h) (Or.inl ⟨by rfl, ?_⟩) hHeld ?_; rotate_left; (· (intro w9 hSw; (try dsimp only at hSw); go_simp; (try with_reducible rfl))))
  (try simp only [Act.put, List.setIfInBounds_toArray, List.set_cons_zero, List.set_cons_succ])
  refine wpAnyH_done (by kernel_rfl) ?_ _
  go_wp2_with fail
  go_ret
  exact ⟨rfl, by go_grown⟩
end Go.Proofs.Ytepcifijhnelcaa
