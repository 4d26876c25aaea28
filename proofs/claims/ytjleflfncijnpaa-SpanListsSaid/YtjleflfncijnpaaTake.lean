/- What Norm and Dot take into their sums. -/
import Derived.Deep.DeepCutAuto
import Derived.Test.YtjleflfncijnpaaRows
import Derived.Test.YtjleflfncijnpaaBase
import Derived.Test.YtjleflfncijnpaaFacts
import Derived.Test.YtjleflfncijnpaaTwo
import Derived.Deep.RegionHeld3
import Derived.Deep.RegionWith
import Derived.Deep.QuietTactic
import Derived.BigQuiet
import Derived.Test.YtjleflfncijnpaaW
import Derived.Test.YtjleflfncijnpaaAsks
import Derived.Test.YtjleflfncijnpaaOut
import Derived.Test.YtjleflfncijnpaaSeq
import Derived.Test.YtjleflfncijnpaaTwo
import Derived.Test.YtjleflfncijnpaaQuo
import Derived.Test.YtjleflfncijnpaaRound
import Derived.Test.YtjleflfncijnpaaSums
import Derived.Test.YtjleflfncijnpaaScaleM
import Derived.Test.YtjleflfncijnpaaMul
import Derived.Test.YtjleflfncijnpaaRootM
import Derived.Test.YtjleflfncijnpaaRootT
import Derived.Test.YtjleflfncijnpaaListM
set_option linter.unusedVariables false
set_option linter.unusedSimpArgs false
set_option maxHeartbeats 4000000
set_option maxRecDepth 100000
namespace Go.Proofs.Ytjleflfncijnpaa
open Go Go.RowKit
theorem normTake_go (s1 s2 x1 x2 p1 p2 p3 r1 r2 r3 : Int) (w : World) (R : Int × Int × Int) (hR : Hid (R = if p3 = 0 then (r1, r2, r3) else (0, 0, p3)))
    (k1 : Hid (∀ w : World, Calls Try.prog 33 #[.agg #[.int .i64 x1, .int .i64 x2]] w fun e w' => e = .returned (.tuple #[.agg #[.int .i64 p1, .int .i64 p2], .int .i64 p3 ]) ∧ Below w.heap.size w w'))
    (k2 : Hid (p3 = 0 → ∀ w : World, Calls Try.prog 21 #[.agg #[.int .i64 s1, .int .i64 s2], .agg #[.int .i64 p1, .int .i64 p2]] w fun e w' => e = .returned (.tuple #[.agg #[.int .i64 r1, .int .i64 r2], .int .i64 r3 ]) ∧ Below w.heap.size w w')) :
    Calls Try.prog 115 #[.agg #[.int .i64 s1, .int .i64 s2], .agg #[.int .i64 x1, .int .i64 x2]] w fun e w' => e = .returned (.tuple #[.agg #[.int .i64 R.1, .int .i64 R.2.1], .int .i64 R.2.2]) ∧ Below w.heap.size w w' := by
  go_enter Try.func115, Try.ntmps115
  go_upto_region 1 with fail
  obtain ⟨W1, hW1⟩ : ∃ W, W = (((w.alloc (.cells #[.int .i64 s1, .int .i64 s2] 24)).alloc (.cells #[.int .i64 x1, .int .i64 x2] 24)).alloc (.cells #[.int .i64 0, .int .i64 0] 24)) := ⟨_, rfl⟩
  rw [← hW1]
  have s0 : W1.cell? ⟨w.heap.size, 0, none⟩ = some (.int .i64 s1) := by rw [hW1]; simp [go_sem]
  have s1' : W1.cell? ⟨w.heap.size, 1, none⟩ = some (.int .i64 s2) := by rw [hW1]; simp [go_sem]
  have x0 : W1.cell? ⟨w.heap.size + 1, 0, none⟩ = some (.int .i64 x1) := by rw [hW1]; simp [go_sem]
  have x1' : W1.cell? ⟨w.heap.size + 1, 1, none⟩ = some (.int .i64 x2) := by rw [hW1]; simp [go_sem]
  have z0 : W1.cell? ⟨w.heap.size + 1 + 1, 0, none⟩ = some (.int .i64 0) := by rw [hW1]; simp [go_sem]
  have z1 : W1.cell? ⟨w.heap.size + 1 + 1, 1, none⟩ = some (.int .i64 0) := by rw [hW1]; simp [go_sem]
  have zf0 : W1.frozen? ⟨w.heap.size + 1 + 1, 0, none⟩ = false := by rw [hW1]; simp [go_sem]
  have zf1 : W1.frozen? ⟨w.heap.size + 1 + 1, 1, none⟩ = false := by rw [hW1]; simp [go_sem]
  have hB1 : Below w.heap.size w W1 := by rw [hW1]; go_grown
  clear hW1
  have y0 := s0; have y1 := s1'
  clear s0 s1'
  by_cases c : p3 = 0
  · subst c
    replace k2 := hid (k2.out rfl)
    replace hR := hid (hR.out.trans (if_pos rfl))
    go_wp2_with fail
    refine useF w (k1.out _) (by go_grown) ?_; rintro e w1 rfl hB1 hk1 hf1 hs1
    replace y0 := hk1 _ _ _ y0
    replace y1 := hk1 _ _ _ y1
    (try clear yb); have yb := World.block_lt_of_cell? _ _ y0; (try dsimp only at yb)
    replace zf0 := hf1 _ _ _ z0 zf0
    replace z0 := hk1 _ _ _ z0
    replace zf1 := hf1 _ _ _ z1 zf1
    replace z1 := hk1 _ _ _ z1
    (try clear zb); have zb := World.block_lt_of_cell? _ _ z0; (try dsimp only at zb)
    have hz1 := hB1.size
    clear hk1 hf1 hs1
    have hB1x : Below w.heap.size w (w1.alloc (.cells #[.int .i64 p1, .int .i64 p2] 24)) := by go_grown
    have y0' := (keepA (.cells #[.int .i64 p1, .int .i64 p2] 24) y0)
    have y1' := (keepA (.cells #[.int .i64 p1, .int .i64 p2] 24) y1)
    have zf0' := (keepAF (.cells #[.int .i64 p1, .int .i64 p2] 24) z0 zf0)
    have z0' := (keepA (.cells #[.int .i64 p1, .int .i64 p2] 24) z0)
    have zf1' := (keepAF (.cells #[.int .i64 p1, .int .i64 p2] 24) z1 zf1)
    have z1' := (keepA (.cells #[.int .i64 p1, .int .i64 p2] 24) z1)
    have m0 := (show (w1.alloc (.cells #[.int .i64 p1, .int .i64 p2] 24)).cell? ⟨w1.heap.size, 0, none⟩ = some (.int .i64 p1) by simp [go_sem])
    have mf0 := (show (w1.alloc (.cells #[.int .i64 p1, .int .i64 p2] 24)).frozen? ⟨w1.heap.size, 0, none⟩ = false by simp [go_sem])
    have m1 := (show (w1.alloc (.cells #[.int .i64 p1, .int .i64 p2] 24)).cell? ⟨w1.heap.size, 1, none⟩ = some (.int .i64 p2) by simp [go_sem])
    have mf1 := (show (w1.alloc (.cells #[.int .i64 p1, .int .i64 p2] 24)).frozen? ⟨w1.heap.size, 1, none⟩ = false by simp [go_sem])
    go_wp2_with fail
    replace y0 := y0'; clear y0'
    replace y1 := y1'; clear y1'
    replace zf0 := zf0'; clear zf0'
    replace z0 := z0'; clear z0'
    replace zf1 := zf1'; clear zf1'
    replace z1 := z1'; clear z1'
    have hz1x := hB1x.size
    generalize hv1 : (w1.alloc (.cells #[.int .i64 p1, .int .i64 p2] 24)) = v1 at *
    have mb := World.block_lt_of_cell? _ _ m0; (try dsimp only at mb)
    have yb1 := yb
    have zb1 := zb
    clear hv1 hB1
    generalize w1.heap.size = B1 at *
    refine useF w (k2.out _) (by go_grown) ?_; rintro e w2 rfl hB2 hk2 hf2 hs2
    replace zf0 := hf2 _ _ _ z0 zf0
    replace z0 := hk2 _ _ _ z0
    replace zf1 := hf2 _ _ _ z1 zf1
    replace z1 := hk2 _ _ _ z1
    (try clear zb); have zb := World.block_lt_of_cell? _ _ z0; (try dsimp only at zb)
    have hz2 := hB2.size
    clear hk2 hf2 hs2
    go_wp2_with fail
    all_goals (refine' bodyPost_ret (res_st_t rfl isA_S isS_S rfl ?_ ?_) rfl ?_; rotate_left 2; (· ((try simp only [World.cell?_drew]); first | (with_reducible exact two_0 (by assumption)) | (with_reducible exact two_1 (by assumption)) | (with_reducible exact two_other (two_0 (by assumption)) (by simp)) | (with_reducible exact two_other (two_1 (by assumption)) (by simp)) | (with_reducible exact two_0 (two_other (by assumption) (by simp))) | (with_reducible exact two_1 (two_other (by assumption) (by simp))) | (simp (maxDischargeDepth := 8) [go_sem, hHeld]; rfl) | (simp (maxDischargeDepth := 8) [go_sem, *]; rfl) | (simp (maxDischargeDepth := 8) [go_sem, *]; done))); (· ((try simp only [World.cell?_drew]); first | (with_reducible exact two_0 (by assumption)) | (with_reducible exact two_1 (by assumption)) | (with_reducible exact two_other (two_0 (by assumption)) (by simp)) | (with_reducible exact two_other (two_1 (by assumption)) (by simp)) | (with_reducible exact two_0 (two_other (by assumption) (by simp))) | (with_reducible exact two_1 (two_other (by assumption) (by simp))) | (simp (maxDischargeDepth := 8) [go_sem, hHeld]; rfl) | (simp (maxDischargeDepth := 8) [go_sem, *]; rfl) | (simp (maxDischargeDepth := 8) [go_sem, *]; done))); refine ⟨ret_r ?_, by go_grown⟩; (exact hR.out.symm))
  · replace hR := hid (hR.out.trans (if_neg c))
    have cb : (p3 != 0) = true := by simpa using c
    have ci : ¬ p3 = 0 := c
    clear k2 c
    go_wp2_with fail
    refine useF w (k1.out _) (by go_grown) ?_; rintro e w1 rfl hB1 hk1 hf1 hs1
    replace zf0 := hf1 _ _ _ z0 zf0
    replace z0 := hk1 _ _ _ z0
    replace zf1 := hf1 _ _ _ z1 zf1
    replace z1 := hk1 _ _ _ z1
    (try clear zb); have zb := World.block_lt_of_cell? _ _ z0; (try dsimp only at zb)
    have hz1 := hB1.size
    clear hk1 hf1 hs1
    go_wp2_with fail
    all_goals (refine' bodyPost_ret (res_st_t rfl isA_S isS_S rfl ?_ ?_) rfl ?_; rotate_left 2; (· ((try simp only [World.cell?_drew]); first | (with_reducible exact two_0 (by assumption)) | (with_reducible exact two_1 (by assumption)) | (with_reducible exact two_other (two_0 (by assumption)) (by simp)) | (with_reducible exact two_other (two_1 (by assumption)) (by simp)) | (with_reducible exact two_0 (two_other (by assumption) (by simp))) | (with_reducible exact two_1 (two_other (by assumption) (by simp))) | (simp (maxDischargeDepth := 8) [go_sem, hHeld]; rfl) | (simp (maxDischargeDepth := 8) [go_sem, *]; rfl) | (simp (maxDischargeDepth := 8) [go_sem, *]; done))); (· ((try simp only [World.cell?_drew]); first | (with_reducible exact two_0 (by assumption)) | (with_reducible exact two_1 (by assumption)) | (with_reducible exact two_other (two_0 (by assumption)) (by simp)) | (with_reducible exact two_other (two_1 (by assumption)) (by simp)) | (with_reducible exact two_0 (two_other (by assumption) (by simp))) | (with_reducible exact two_1 (two_other (by assumption) (by simp))) | (simp (maxDischargeDepth := 8) [go_sem, hHeld]; rfl) | (simp (maxDischargeDepth := 8) [go_sem, *]; rfl) | (simp (maxDischargeDepth := 8) [go_sem, *]; done))); refine ⟨ret_r ?_, by go_grown⟩; (exact hR.out.symm))
theorem normTake_any (s x : Int × Int) (w : World) (h : (-9223372036854775808 ≤ s.1 ∧ s.1 ≤ 9223372036854775807) ∧ (-9223372036854775808 ≤ s.2 ∧ s.2 ≤ 9223372036854775807) ∧ (-9223372036854775808 ≤ x.1 ∧ x.1 ≤ 9223372036854775807) ∧ (-9223372036854775808 ≤ x.2 ∧ x.2 ≤ 9223372036854775807)) :
    Calls Try.prog 115 #[.agg #[.int .i64 s.1, .int .i64 s.2], .agg #[.int .i64 x.1, .int .i64 x.2]] w fun e w' => e = .returned (.tuple #[.agg #[.int .i64 ((takeQ s x).1), .int .i64 ((takeQ s x).2.1)], .int .i64 ((takeQ s x).2.2)]) ∧ Below w.heap.size w w' := by
  have hb := squareS_box x.1 x.2
  unfold Bx at hb
  exact normTake_go s.1 s.2 x.1 x.2 _ _ _ _ _ _ w _ rfl (fun W => square_any x.1 x.2 W ⟨h.2.2.1, h.2.2.2⟩) (fun _ W => add_any s.1 s.2 (squareS x.1 x.2).1 (squareS x.1 x.2).2.1 W (by omega))
theorem dotTake_go (s1 s2 a1 a2 b1 b2 p1 p2 p3 r1 r2 r3 : Int) (w : World) (R : Int × Int × Int) (hR : Hid (R = if p3 = 0 then (r1, r2, r3) else (0, 0, p3)))
    (k1 : Hid (∀ w : World, Calls Try.prog 29 #[.agg #[.int .i64 a1, .int .i64 a2], .agg #[.int .i64 b1, .int .i64 b2]] w fun e w' => e = .returned (.tuple #[.agg #[.int .i64 p1, .int .i64 p2], .int .i64 p3 ]) ∧ Below w.heap.size w w'))
    (k2 : Hid (p3 = 0 → ∀ w : World, Calls Try.prog 21 #[.agg #[.int .i64 s1, .int .i64 s2], .agg #[.int .i64 p1, .int .i64 p2]] w fun e w' => e = .returned (.tuple #[.agg #[.int .i64 r1, .int .i64 r2], .int .i64 r3 ]) ∧ Below w.heap.size w w')) :
    Calls Try.prog 114 #[.agg #[.int .i64 s1, .int .i64 s2], .agg #[.int .i64 a1, .int .i64 a2, .int .i64 b1, .int .i64 b2]] w fun e w' => e = .returned (.tuple #[.agg #[.int .i64 R.1, .int .i64 R.2.1], .int .i64 R.2.2]) ∧ Below w.heap.size w w' := by
  go_enter Try.func114, Try.ntmps114
  go_upto_region 1 with fail
  obtain ⟨W1, hW1⟩ : ∃ W, W = (((w.alloc (.cells #[.int .i64 s1, .int .i64 s2] 24)).alloc (.cells #[.int .i64 a1, .int .i64 a2, .int .i64 b1, .int .i64 b2] 116)).alloc (.cells #[.int .i64 0, .int .i64 0] 24)) := ⟨_, rfl⟩
  rw [← hW1]
  have y0 : W1.cell? ⟨w.heap.size, 0, none⟩ = some (.int .i64 s1) := by rw [hW1]; simp [go_sem]
  have y1 : W1.cell? ⟨w.heap.size, 1, none⟩ = some (.int .i64 s2) := by rw [hW1]; simp [go_sem]
  have x0 : W1.cell? ⟨w.heap.size + 1, 0, none⟩ = some (.int .i64 a1) := by rw [hW1]; simp [go_sem]
  have x1 : W1.cell? ⟨w.heap.size + 1, 1, none⟩ = some (.int .i64 a2) := by rw [hW1]; simp [go_sem]
  have x2 : W1.cell? ⟨w.heap.size + 1, 2, none⟩ = some (.int .i64 b1) := by rw [hW1]; simp [go_sem]
  have x3 : W1.cell? ⟨w.heap.size + 1, 3, none⟩ = some (.int .i64 b2) := by rw [hW1]; simp [go_sem]
  have z0 : W1.cell? ⟨w.heap.size + 1 + 1, 0, none⟩ = some (.int .i64 0) := by rw [hW1]; simp [go_sem]
  have z1 : W1.cell? ⟨w.heap.size + 1 + 1, 1, none⟩ = some (.int .i64 0) := by rw [hW1]; simp [go_sem]
  have zf0 : W1.frozen? ⟨w.heap.size + 1 + 1, 0, none⟩ = false := by rw [hW1]; simp [go_sem]
  have zf1 : W1.frozen? ⟨w.heap.size + 1 + 1, 1, none⟩ = false := by rw [hW1]; simp [go_sem]
  have hB1 : Below w.heap.size w W1 := by rw [hW1]; go_grown
  clear hW1
  by_cases c : p3 = 0
  · subst c
    replace k2 := hid (k2.out rfl)
    replace hR := hid (hR.out.trans (if_pos rfl))
    go_wp2_with fail
    refine useF w (k1.out _) (by go_grown) ?_; rintro e w1 rfl hB1 hk1 hf1 hs1
    replace y0 := hk1 _ _ _ y0
    replace y1 := hk1 _ _ _ y1
    (try clear yb); have yb := World.block_lt_of_cell? _ _ y0; (try dsimp only at yb)
    replace zf0 := hf1 _ _ _ z0 zf0
    replace z0 := hk1 _ _ _ z0
    replace zf1 := hf1 _ _ _ z1 zf1
    replace z1 := hk1 _ _ _ z1
    (try clear zb); have zb := World.block_lt_of_cell? _ _ z0; (try dsimp only at zb)
    have hz1 := hB1.size
    clear hk1 hf1 hs1
    have hB1x : Below w.heap.size w (w1.alloc (.cells #[.int .i64 p1, .int .i64 p2] 24)) := by go_grown
    have y0' := (keepA (.cells #[.int .i64 p1, .int .i64 p2] 24) y0)
    have y1' := (keepA (.cells #[.int .i64 p1, .int .i64 p2] 24) y1)
    have zf0' := (keepAF (.cells #[.int .i64 p1, .int .i64 p2] 24) z0 zf0)
    have z0' := (keepA (.cells #[.int .i64 p1, .int .i64 p2] 24) z0)
    have zf1' := (keepAF (.cells #[.int .i64 p1, .int .i64 p2] 24) z1 zf1)
    have z1' := (keepA (.cells #[.int .i64 p1, .int .i64 p2] 24) z1)
    have m0 := (show (w1.alloc (.cells #[.int .i64 p1, .int .i64 p2] 24)).cell? ⟨w1.heap.size, 0, none⟩ = some (.int .i64 p1) by simp [go_sem])
    have mf0 := (show (w1.alloc (.cells #[.int .i64 p1, .int .i64 p2] 24)).frozen? ⟨w1.heap.size, 0, none⟩ = false by simp [go_sem])
    have m1 := (show (w1.alloc (.cells #[.int .i64 p1, .int .i64 p2] 24)).cell? ⟨w1.heap.size, 1, none⟩ = some (.int .i64 p2) by simp [go_sem])
    have mf1 := (show (w1.alloc (.cells #[.int .i64 p1, .int .i64 p2] 24)).frozen? ⟨w1.heap.size, 1, none⟩ = false by simp [go_sem])
    go_wp2_with fail
    replace y0 := y0'; clear y0'
    replace y1 := y1'; clear y1'
    replace zf0 := zf0'; clear zf0'
    replace z0 := z0'; clear z0'
    replace zf1 := zf1'; clear zf1'
    replace z1 := z1'; clear z1'
    have hz1x := hB1x.size
    generalize hv1 : (w1.alloc (.cells #[.int .i64 p1, .int .i64 p2] 24)) = v1 at *
    have mb := World.block_lt_of_cell? _ _ m0; (try dsimp only at mb)
    have yb1 := yb
    have zb1 := zb
    clear hv1 hB1
    generalize w1.heap.size = B1 at *
    refine useF w (k2.out _) (by go_grown) ?_; rintro e w2 rfl hB2 hk2 hf2 hs2
    replace zf0 := hf2 _ _ _ z0 zf0
    replace z0 := hk2 _ _ _ z0
    replace zf1 := hf2 _ _ _ z1 zf1
    replace z1 := hk2 _ _ _ z1
    (try clear zb); have zb := World.block_lt_of_cell? _ _ z0; (try dsimp only at zb)
    have hz2 := hB2.size
    clear hk2 hf2 hs2
    go_wp2_with fail
    all_goals (refine' bodyPost_ret (res_st_t rfl isA_S isS_S rfl ?_ ?_) rfl ?_; rotate_left 2; (· ((try simp only [World.cell?_drew]); first | (with_reducible exact two_0 (by assumption)) | (with_reducible exact two_1 (by assumption)) | (with_reducible exact two_other (two_0 (by assumption)) (by simp)) | (with_reducible exact two_other (two_1 (by assumption)) (by simp)) | (with_reducible exact two_0 (two_other (by assumption) (by simp))) | (with_reducible exact two_1 (two_other (by assumption) (by simp))) | (simp (maxDischargeDepth := 8) [go_sem, hHeld]; rfl) | (simp (maxDischargeDepth := 8) [go_sem, *]; rfl) | (simp (maxDischargeDepth := 8) [go_sem, *]; done))); (· ((try simp only [World.cell?_drew]); first | (with_reducible exact two_0 (by assumption)) | (with_reducible exact two_1 (by assumption)) | (with_reducible exact two_other (two_0 (by assumption)) (by simp)) | (with_reducible exact two_other (two_1 (by assumption)) (by simp)) | (with_reducible exact two_0 (two_other (by assumption) (by simp))) | (with_reducible exact two_1 (two_other (by assumption) (by simp))) | (simp (maxDischargeDepth := 8) [go_sem, hHeld]; rfl) | (simp (maxDischargeDepth := 8) [go_sem, *]; rfl) | (simp (maxDischargeDepth := 8) [go_sem, *]; done))); refine ⟨ret_r ?_, by go_grown⟩; (exact hR.out.symm))
  · replace hR := hid (hR.out.trans (if_neg c))
    have cb : (p3 != 0) = true := by simpa using c
    have ci : ¬ p3 = 0 := c
    clear k2 c
    go_wp2_with fail
    refine useF w (k1.out _) (by go_grown) ?_; rintro e w1 rfl hB1 hk1 hf1 hs1
    replace zf0 := hf1 _ _ _ z0 zf0
    replace z0 := hk1 _ _ _ z0
    replace zf1 := hf1 _ _ _ z1 zf1
    replace z1 := hk1 _ _ _ z1
    (try clear zb); have zb := World.block_lt_of_cell? _ _ z0; (try dsimp only at zb)
    have hz1 := hB1.size
    clear hk1 hf1 hs1
    go_wp2_with fail
    all_goals (refine' bodyPost_ret (res_st_t rfl isA_S isS_S rfl ?_ ?_) rfl ?_; rotate_left 2; (· ((try simp only [World.cell?_drew]); first | (with_reducible exact two_0 (by assumption)) | (with_reducible exact two_1 (by assumption)) | (with_reducible exact two_other (two_0 (by assumption)) (by simp)) | (with_reducible exact two_other (two_1 (by assumption)) (by simp)) | (with_reducible exact two_0 (two_other (by assumption) (by simp))) | (with_reducible exact two_1 (two_other (by assumption) (by simp))) | (simp (maxDischargeDepth := 8) [go_sem, hHeld]; rfl) | (simp (maxDischargeDepth := 8) [go_sem, *]; rfl) | (simp (maxDischargeDepth := 8) [go_sem, *]; done))); (· ((try simp only [World.cell?_drew]); first | (with_reducible exact two_0 (by assumption)) | (with_reducible exact two_1 (by assumption)) | (with_reducible exact two_other (two_0 (by assumption)) (by simp)) | (with_reducible exact two_other (two_1 (by assumption)) (by simp)) | (with_reducible exact two_0 (two_other (by assumption) (by simp))) | (with_reducible exact two_1 (two_other (by assumption) (by simp))) | (simp (maxDischargeDepth := 8) [go_sem, hHeld]; rfl) | (simp (maxDischargeDepth := 8) [go_sem, *]; rfl) | (simp (maxDischargeDepth := 8) [go_sem, *]; done))); refine ⟨ret_r ?_, by go_grown⟩; (exact hR.out.symm))
theorem dotTake_any (s : Int × Int) (x : (Int × Int) × Int × Int) (w : World) (h : (-9223372036854775808 ≤ s.1 ∧ s.1 ≤ 9223372036854775807) ∧ (-9223372036854775808 ≤ s.2 ∧ s.2 ≤ 9223372036854775807) ∧ (-9223372036854775808 ≤ x.1.1 ∧ x.1.1 ≤ 9223372036854775807) ∧ (-9223372036854775808 ≤ x.1.2 ∧ x.1.2 ≤ 9223372036854775807) ∧ (-9223372036854775808 ≤ x.2.1 ∧ x.2.1 ≤ 9223372036854775807) ∧ (-9223372036854775808 ≤ x.2.2 ∧ x.2.2 ≤ 9223372036854775807)) :
    Calls Try.prog 114 #[.agg #[.int .i64 s.1, .int .i64 s.2], .agg #[.int .i64 x.1.1, .int .i64 x.1.2, .int .i64 x.2.1, .int .i64 x.2.2]] w fun e w' => e = .returned (.tuple #[.agg #[.int .i64 ((takeM s x).1), .int .i64 ((takeM s x).2.1)], .int .i64 ((takeM s x).2.2)]) ∧ Below w.heap.size w w' := by
  have hb := mulS_box x.1.1 x.1.2 x.2.1 x.2.2
  unfold Bx at hb
  exact dotTake_go s.1 s.2 x.1.1 x.1.2 x.2.1 x.2.2 _ _ _ _ _ _ w _ rfl (fun W => mul_any x.1.1 x.1.2 x.2.1 x.2.2 W h.2.2) (fun _ W => add_any s.1 s.2 (mulS x.1.1 x.1.2 x.2.1 x.2.2).1 (mulS x.1.1 x.1.2 x.2.1 x.2.2).2.1 W (by omega))
end Go.Proofs.Ytjleflfncijnpaa
