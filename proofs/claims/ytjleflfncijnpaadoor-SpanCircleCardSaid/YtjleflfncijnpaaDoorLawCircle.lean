/- SpanCircle: the walk. -/
import Derived.Deep.DeepCutAuto
import Derived.Test.YtjleflfncijnpaaDoorRows
import Derived.Test.YtjleflfncijnpaaDoorBase
import Derived.Test.YtjleflfncijnpaaDoorFacts
import Derived.Test.YtjleflfncijnpaaDoorTwo
import Derived.Deep.RegionHeld3
import Derived.Deep.RegionWith
import Derived.Deep.QuietTactic
import Derived.BigQuiet
import Derived.Test.YtjleflfncijnpaaDoorW
import Derived.Test.YtjleflfncijnpaaDoorAsks
import Derived.Test.YtjleflfncijnpaaDoorOut
import Derived.Test.YtjleflfncijnpaaDoorSeq
import Derived.Test.YtjleflfncijnpaaDoorTwo
import Derived.Test.YtjleflfncijnpaaDoorQuo
import Derived.Test.YtjleflfncijnpaaDoorRound
import Derived.Test.YtjleflfncijnpaaDoorScaleM
import Derived.Test.YtjleflfncijnpaaDoorMulR
import Derived.Test.YtjleflfncijnpaaDoorRootM
import Derived.Test.YtjleflfncijnpaaDoorRootT
import Derived.Test.YtjleflfncijnpaaDoorPicks
import Derived.Test.YtjleflfncijnpaaDoorSums
import Derived.Test.YtjleflfncijnpaaDoorSums2
import Derived.Test.YtjleflfncijnpaaDoorHoldsM
import Derived.Test.YtjleflfncijnpaaDoorTurnM
import Derived.Test.YtjleflfncijnpaaDoorShare
import Derived.Test.YtjleflfncijnpaaDoorTurn
import Derived.Test.YtjleflfncijnpaaDoorTurnT
import Derived.Test.YtjleflfncijnpaaDoorCircleM
import Derived.Test.YtjleflfncijnpaaDoorAlive
set_option linter.unusedVariables false
set_option linter.unusedSimpArgs false
set_option maxHeartbeats 4000000
set_option maxRecDepth 100000
namespace Go.Proofs.YtjleflfncijnpaaDoor
open Go Go.RowKit
theorem circle_out (t c1 c2 s1 s2 er d1 d2 u1 u2 f : Int) (w : World) (he : er = 4 ∨ er = 2) (ho : t < -4294967296 ∨ 4294967296 < t)
    (t1 : Hid (∀ w : World, Calls Tryd.prog 24 #[.agg #[.int .i64 t, .int .i64 t]] w fun e w' => e = .returned (.tuple #[.agg #[.int .i64 c1, .int .i64 c2], .agg #[.int .i64 s1, .int .i64 s2], .int .i64 er]) ∧ Below w.heap.size w w'))
    (t2 : Hid (∀ w : World, Calls Tryd.prog 24 #[.agg #[.int .i64 (wrap64 (-t)), .int .i64 (wrap64 (-t))]] w fun e w' => e = .returned (.tuple #[.agg #[.int .i64 d1, .int .i64 d2], .agg #[.int .i64 u1, .int .i64 u2], .int .i64 f]) ∧ Below w.heap.size w w')) :
    Calls Tryd.prog 11 #[.int .i64 t] w fun e w' => e = .returned (.bool true) ∧ Below w.heap.size w w' := by
  by_cases c : t < -4294967296
  · have cd : decide (t < -4294967296) = true := decide_eq_true c
    clear ho c
    rcases he with rfl | rfl
    all_goals
      go_enter Tryd.func11, Tryd.ntmps11
      go_wp2_with fail
      refine useF w (alive_any _) (by go_grown) ?_; rintro e w11 rfl hB11 hk11 hf11 hs11; clear hs11
      have hz11 := hB11.size
      clear hk11 hf11
      go_wp2_with fail
      refine useF w (t1.out _) (by go_grown) ?_; rintro e w12 rfl hB12 hk12 hf12 hs12; clear hs12
      have fp0 : w12.cell? ⟨w11.heap.size, 0, none⟩ = some (.int .i64 t) := hk12 _ _ _ ((by simp [go_sem]))
      have fp1 : w12.cell? ⟨w11.heap.size, 1, none⟩ = some (.int .i64 t) := hk12 _ _ _ ((by simp [go_sem]))
      have fm0 : w12.cell? ⟨w11.heap.size + 1, 0, none⟩ = some (.int .i64 (wrap64 (-t))) := hk12 _ _ _ ((by simp [go_sem]))
      have fm1 : w12.cell? ⟨w11.heap.size + 1, 1, none⟩ = some (.int .i64 (wrap64 (-t))) := hk12 _ _ _ ((by simp [go_sem]))
      (try clear fpb); have fpb : w11.heap.size < w12.heap.size := World.block_lt_of_cell? w12 ⟨w11.heap.size, 0, none⟩ fp0
      (try clear fmb); have fmb : w11.heap.size + 1 < w12.heap.size := World.block_lt_of_cell? w12 ⟨w11.heap.size + 1, 0, none⟩ fm0
      clear hk12 hf12
      go_wp2_with fail
      refine useF w (t2.out _) (by go_grown) ?_; rintro e w13 rfl hB13 hk13 hf13 hs13; clear hs13
      replace fp0 : w13.cell? ⟨w11.heap.size, 0, none⟩ = some (.int .i64 t) := hk13 _ _ _ ((keepA _ (keepA _ fp0)))
      replace fp1 : w13.cell? ⟨w11.heap.size, 1, none⟩ = some (.int .i64 t) := hk13 _ _ _ ((keepA _ (keepA _ fp1)))
      replace fm0 : w13.cell? ⟨w11.heap.size + 1, 0, none⟩ = some (.int .i64 (wrap64 (-t))) := hk13 _ _ _ ((keepA _ (keepA _ fm0)))
      replace fm1 : w13.cell? ⟨w11.heap.size + 1, 1, none⟩ = some (.int .i64 (wrap64 (-t))) := hk13 _ _ _ ((keepA _ (keepA _ fm1)))
      have fc0 : w13.cell? ⟨w12.heap.size, 0, none⟩ = some (.int .i64 c1) := hk13 _ _ _ ((by simp [go_sem]))
      have fc1 : w13.cell? ⟨w12.heap.size, 1, none⟩ = some (.int .i64 c2) := hk13 _ _ _ ((by simp [go_sem]))
      have fs0 : w13.cell? ⟨w12.heap.size + 1, 0, none⟩ = some (.int .i64 s1) := hk13 _ _ _ ((by simp [go_sem]))
      have fs1 : w13.cell? ⟨w12.heap.size + 1, 1, none⟩ = some (.int .i64 s2) := hk13 _ _ _ ((by simp [go_sem]))
      (try clear fpb); have fpb : w11.heap.size < w13.heap.size := World.block_lt_of_cell? w13 ⟨w11.heap.size, 0, none⟩ fp0
      (try clear fmb); have fmb : w11.heap.size + 1 < w13.heap.size := World.block_lt_of_cell? w13 ⟨w11.heap.size + 1, 0, none⟩ fm0
      (try clear fcb); have fcb : w12.heap.size < w13.heap.size := World.block_lt_of_cell? w13 ⟨w12.heap.size, 0, none⟩ fc0
      (try clear fsb); have fsb : w12.heap.size + 1 < w13.heap.size := World.block_lt_of_cell? w13 ⟨w12.heap.size + 1, 0, none⟩ fs0
      clear hk13 hf13
      go_wp2_with fail
      go_ret
      exact ⟨rfl, by go_grown⟩
  · have cd : decide (t < -4294967296) = false := decide_eq_false c
    have cd2 : decide (4294967296 < t) = true := decide_eq_true (by omega)
    clear ho c
    rcases he with rfl | rfl
    all_goals
      go_enter Tryd.func11, Tryd.ntmps11
      go_wp2_with fail
      refine useF w (alive_any _) (by go_grown) ?_; rintro e w11 rfl hB11 hk11 hf11 hs11; clear hs11
      have hz11 := hB11.size
      clear hk11 hf11
      go_wp2_with fail
      refine useF w (t1.out _) (by go_grown) ?_; rintro e w12 rfl hB12 hk12 hf12 hs12; clear hs12
      have fp0 : w12.cell? ⟨w11.heap.size, 0, none⟩ = some (.int .i64 t) := hk12 _ _ _ ((by simp [go_sem]))
      have fp1 : w12.cell? ⟨w11.heap.size, 1, none⟩ = some (.int .i64 t) := hk12 _ _ _ ((by simp [go_sem]))
      have fm0 : w12.cell? ⟨w11.heap.size + 1, 0, none⟩ = some (.int .i64 (wrap64 (-t))) := hk12 _ _ _ ((by simp [go_sem]))
      have fm1 : w12.cell? ⟨w11.heap.size + 1, 1, none⟩ = some (.int .i64 (wrap64 (-t))) := hk12 _ _ _ ((by simp [go_sem]))
      (try clear fpb); have fpb : w11.heap.size < w12.heap.size := World.block_lt_of_cell? w12 ⟨w11.heap.size, 0, none⟩ fp0
      (try clear fmb); have fmb : w11.heap.size + 1 < w12.heap.size := World.block_lt_of_cell? w12 ⟨w11.heap.size + 1, 0, none⟩ fm0
      clear hk12 hf12
      go_wp2_with fail
      refine useF w (t2.out _) (by go_grown) ?_; rintro e w13 rfl hB13 hk13 hf13 hs13; clear hs13
      replace fp0 : w13.cell? ⟨w11.heap.size, 0, none⟩ = some (.int .i64 t) := hk13 _ _ _ ((keepA _ (keepA _ fp0)))
      replace fp1 : w13.cell? ⟨w11.heap.size, 1, none⟩ = some (.int .i64 t) := hk13 _ _ _ ((keepA _ (keepA _ fp1)))
      replace fm0 : w13.cell? ⟨w11.heap.size + 1, 0, none⟩ = some (.int .i64 (wrap64 (-t))) := hk13 _ _ _ ((keepA _ (keepA _ fm0)))
      replace fm1 : w13.cell? ⟨w11.heap.size + 1, 1, none⟩ = some (.int .i64 (wrap64 (-t))) := hk13 _ _ _ ((keepA _ (keepA _ fm1)))
      have fc0 : w13.cell? ⟨w12.heap.size, 0, none⟩ = some (.int .i64 c1) := hk13 _ _ _ ((by simp [go_sem]))
      have fc1 : w13.cell? ⟨w12.heap.size, 1, none⟩ = some (.int .i64 c2) := hk13 _ _ _ ((by simp [go_sem]))
      have fs0 : w13.cell? ⟨w12.heap.size + 1, 0, none⟩ = some (.int .i64 s1) := hk13 _ _ _ ((by simp [go_sem]))
      have fs1 : w13.cell? ⟨w12.heap.size + 1, 1, none⟩ = some (.int .i64 s2) := hk13 _ _ _ ((by simp [go_sem]))
      (try clear fpb); have fpb : w11.heap.size < w13.heap.size := World.block_lt_of_cell? w13 ⟨w11.heap.size, 0, none⟩ fp0
      (try clear fmb); have fmb : w11.heap.size + 1 < w13.heap.size := World.block_lt_of_cell? w13 ⟨w11.heap.size + 1, 0, none⟩ fm0
      (try clear fcb); have fcb : w12.heap.size < w13.heap.size := World.block_lt_of_cell? w13 ⟨w12.heap.size, 0, none⟩ fc0
      (try clear fsb); have fsb : w12.heap.size + 1 < w13.heap.size := World.block_lt_of_cell? w13 ⟨w12.heap.size + 1, 0, none⟩ fs0
      clear hk13 hf13
      go_wp2_with fail
      go_ret
      exact ⟨rfl, by go_grown⟩
theorem circle_in (t c1 c2 s1 s2 u1 u2 x1 x2 y1 y2 z1 z2 : Int) (w : World) (cd : decide (t < -4294967296) = false) (cd2 : decide (4294967296 < t) = false)
    (t1 : Hid (∀ w : World, Calls Tryd.prog 24 #[.agg #[.int .i64 t, .int .i64 t]] w fun e w' => e = .returned (.tuple #[.agg #[.int .i64 c1, .int .i64 c2], .agg #[.int .i64 s1, .int .i64 s2], .int .i64 0]) ∧ Below w.heap.size w w'))
    (t2 : Hid (∀ w : World, Calls Tryd.prog 24 #[.agg #[.int .i64 (wrap64 (-t)), .int .i64 (wrap64 (-t))]] w fun e w' => e = .returned (.tuple #[.agg #[.int .i64 c1, .int .i64 c2], .agg #[.int .i64 u1, .int .i64 u2], .int .i64 0]) ∧ Below w.heap.size w w'))
    (k3 : Hid (∀ w : World, Calls Tryd.prog 46 #[.agg #[.int .i64 u1, .int .i64 u2]] w fun e w' => e = .returned (.tuple #[.agg #[.int .i64 s1, .int .i64 s2], .int .i64 0]) ∧ Below w.heap.size w w'))
    (k4 : Hid (∀ w : World, Calls Tryd.prog 20 #[.agg #[.int .i64 c1, .int .i64 c2]] w fun e w' => e = .returned (.tuple #[.agg #[.int .i64 x1, .int .i64 x2], .int .i64 0]) ∧ Below w.heap.size w w'))
    (k5 : Hid (∀ w : World, Calls Tryd.prog 20 #[.agg #[.int .i64 s1, .int .i64 s2]] w fun e w' => e = .returned (.tuple #[.agg #[.int .i64 y1, .int .i64 y2], .int .i64 0]) ∧ Below w.heap.size w w'))
    (k6 : Hid (∀ w : World, Calls Tryd.prog 28 #[.agg #[.int .i64 x1, .int .i64 x2], .agg #[.int .i64 y1, .int .i64 y2]] w fun e w' => e = .returned (.tuple #[.agg #[.int .i64 z1, .int .i64 z2], .int .i64 0]) ∧ Below w.heap.size w w'))
    (k7 : Hid (∀ w : World, Calls Tryd.prog 52 #[.agg #[.int .i64 z1, .int .i64 z2], .int .i64 4294967296] w fun e w' => e = .returned (.bool true) ∧ Below w.heap.size w w')) :
    Calls Tryd.prog 11 #[.int .i64 t] w fun e w' => e = .returned (.bool true) ∧ Below w.heap.size w w' := by
  go_enter Tryd.func11, Tryd.ntmps11
  go_wp2_with fail
  refine useF w (alive_any _) (by go_grown) ?_; rintro e w11 rfl hB11 hk11 hf11 hs11; clear hs11
  have hz11 := hB11.size
  clear hk11 hf11
  go_wp2_with fail
  refine useF w (t1.out _) (by go_grown) ?_; rintro e w12 rfl hB12 hk12 hf12 hs12; clear hs12
  have fp0 : w12.cell? ⟨w11.heap.size, 0, none⟩ = some (.int .i64 t) := hk12 _ _ _ ((by simp [go_sem]))
  have fp1 : w12.cell? ⟨w11.heap.size, 1, none⟩ = some (.int .i64 t) := hk12 _ _ _ ((by simp [go_sem]))
  have fm0 : w12.cell? ⟨w11.heap.size + 1, 0, none⟩ = some (.int .i64 (wrap64 (-t))) := hk12 _ _ _ ((by simp [go_sem]))
  have fm1 : w12.cell? ⟨w11.heap.size + 1, 1, none⟩ = some (.int .i64 (wrap64 (-t))) := hk12 _ _ _ ((by simp [go_sem]))
  (try clear fpb); have fpb : w11.heap.size < w12.heap.size := World.block_lt_of_cell? w12 ⟨w11.heap.size, 0, none⟩ fp0
  (try clear fmb); have fmb : w11.heap.size + 1 < w12.heap.size := World.block_lt_of_cell? w12 ⟨w11.heap.size + 1, 0, none⟩ fm0
  clear hk12 hf12
  go_wp2_with fail
  refine useF w (t2.out _) (by go_grown) ?_; rintro e w13 rfl hB13 hk13 hf13 hs13; clear hs13
  replace fp0 : w13.cell? ⟨w11.heap.size, 0, none⟩ = some (.int .i64 t) := hk13 _ _ _ ((keepA _ (keepA _ fp0)))
  replace fp1 : w13.cell? ⟨w11.heap.size, 1, none⟩ = some (.int .i64 t) := hk13 _ _ _ ((keepA _ (keepA _ fp1)))
  replace fm0 : w13.cell? ⟨w11.heap.size + 1, 0, none⟩ = some (.int .i64 (wrap64 (-t))) := hk13 _ _ _ ((keepA _ (keepA _ fm0)))
  replace fm1 : w13.cell? ⟨w11.heap.size + 1, 1, none⟩ = some (.int .i64 (wrap64 (-t))) := hk13 _ _ _ ((keepA _ (keepA _ fm1)))
  have fc0 : w13.cell? ⟨w12.heap.size, 0, none⟩ = some (.int .i64 c1) := hk13 _ _ _ ((by simp [go_sem]))
  have fc1 : w13.cell? ⟨w12.heap.size, 1, none⟩ = some (.int .i64 c2) := hk13 _ _ _ ((by simp [go_sem]))
  have fs0 : w13.cell? ⟨w12.heap.size + 1, 0, none⟩ = some (.int .i64 s1) := hk13 _ _ _ ((by simp [go_sem]))
  have fs1 : w13.cell? ⟨w12.heap.size + 1, 1, none⟩ = some (.int .i64 s2) := hk13 _ _ _ ((by simp [go_sem]))
  (try clear fpb); have fpb : w11.heap.size < w13.heap.size := World.block_lt_of_cell? w13 ⟨w11.heap.size, 0, none⟩ fp0
  (try clear fmb); have fmb : w11.heap.size + 1 < w13.heap.size := World.block_lt_of_cell? w13 ⟨w11.heap.size + 1, 0, none⟩ fm0
  (try clear fcb); have fcb : w12.heap.size < w13.heap.size := World.block_lt_of_cell? w13 ⟨w12.heap.size, 0, none⟩ fc0
  (try clear fsb); have fsb : w12.heap.size + 1 < w13.heap.size := World.block_lt_of_cell? w13 ⟨w12.heap.size + 1, 0, none⟩ fs0
  clear hk13 hf13
  go_wp2_with fail
  refine useF w (k3.out _) (by go_grown) ?_; rintro e w14 rfl hB14 hk14 hf14 hs14; clear hs14
  replace fp0 : w14.cell? ⟨w11.heap.size, 0, none⟩ = some (.int .i64 t) := hk14 _ _ _ ((keepA _ (keepA _ fp0)))
  replace fp1 : w14.cell? ⟨w11.heap.size, 1, none⟩ = some (.int .i64 t) := hk14 _ _ _ ((keepA _ (keepA _ fp1)))
  replace fm0 : w14.cell? ⟨w11.heap.size + 1, 0, none⟩ = some (.int .i64 (wrap64 (-t))) := hk14 _ _ _ ((keepA _ (keepA _ fm0)))
  replace fm1 : w14.cell? ⟨w11.heap.size + 1, 1, none⟩ = some (.int .i64 (wrap64 (-t))) := hk14 _ _ _ ((keepA _ (keepA _ fm1)))
  replace fc0 : w14.cell? ⟨w12.heap.size, 0, none⟩ = some (.int .i64 c1) := hk14 _ _ _ ((keepA _ (keepA _ fc0)))
  replace fc1 : w14.cell? ⟨w12.heap.size, 1, none⟩ = some (.int .i64 c2) := hk14 _ _ _ ((keepA _ (keepA _ fc1)))
  replace fs0 : w14.cell? ⟨w12.heap.size + 1, 0, none⟩ = some (.int .i64 s1) := hk14 _ _ _ ((keepA _ (keepA _ fs0)))
  replace fs1 : w14.cell? ⟨w12.heap.size + 1, 1, none⟩ = some (.int .i64 s2) := hk14 _ _ _ ((keepA _ (keepA _ fs1)))
  have fd0 : w14.cell? ⟨w13.heap.size, 0, none⟩ = some (.int .i64 c1) := hk14 _ _ _ ((by simp [go_sem]))
  have fd1 : w14.cell? ⟨w13.heap.size, 1, none⟩ = some (.int .i64 c2) := hk14 _ _ _ ((by simp [go_sem]))
  have fu0 : w14.cell? ⟨w13.heap.size + 1, 0, none⟩ = some (.int .i64 u1) := hk14 _ _ _ ((by simp [go_sem]))
  have fu1 : w14.cell? ⟨w13.heap.size + 1, 1, none⟩ = some (.int .i64 u2) := hk14 _ _ _ ((by simp [go_sem]))
  (try clear fpb); have fpb : w11.heap.size < w14.heap.size := World.block_lt_of_cell? w14 ⟨w11.heap.size, 0, none⟩ fp0
  (try clear fmb); have fmb : w11.heap.size + 1 < w14.heap.size := World.block_lt_of_cell? w14 ⟨w11.heap.size + 1, 0, none⟩ fm0
  (try clear fcb); have fcb : w12.heap.size < w14.heap.size := World.block_lt_of_cell? w14 ⟨w12.heap.size, 0, none⟩ fc0
  (try clear fsb); have fsb : w12.heap.size + 1 < w14.heap.size := World.block_lt_of_cell? w14 ⟨w12.heap.size + 1, 0, none⟩ fs0
  (try clear fdb); have fdb : w13.heap.size < w14.heap.size := World.block_lt_of_cell? w14 ⟨w13.heap.size, 0, none⟩ fd0
  (try clear fub); have fub : w13.heap.size + 1 < w14.heap.size := World.block_lt_of_cell? w14 ⟨w13.heap.size + 1, 0, none⟩ fu0
  clear hk14 hf14
  go_wp2_with fail
  refine useF w (k4.out _) (by go_grown) ?_; rintro e w15 rfl hB15 hk15 hf15 hs15; clear hs15
  replace fp0 : w15.cell? ⟨w11.heap.size, 0, none⟩ = some (.int .i64 t) := hk15 _ _ _ ((keepA _ fp0))
  replace fp1 : w15.cell? ⟨w11.heap.size, 1, none⟩ = some (.int .i64 t) := hk15 _ _ _ ((keepA _ fp1))
  replace fm0 : w15.cell? ⟨w11.heap.size + 1, 0, none⟩ = some (.int .i64 (wrap64 (-t))) := hk15 _ _ _ ((keepA _ fm0))
  replace fm1 : w15.cell? ⟨w11.heap.size + 1, 1, none⟩ = some (.int .i64 (wrap64 (-t))) := hk15 _ _ _ ((keepA _ fm1))
  replace fc0 : w15.cell? ⟨w12.heap.size, 0, none⟩ = some (.int .i64 c1) := hk15 _ _ _ ((keepA _ fc0))
  replace fc1 : w15.cell? ⟨w12.heap.size, 1, none⟩ = some (.int .i64 c2) := hk15 _ _ _ ((keepA _ fc1))
  replace fs0 : w15.cell? ⟨w12.heap.size + 1, 0, none⟩ = some (.int .i64 s1) := hk15 _ _ _ ((keepA _ fs0))
  replace fs1 : w15.cell? ⟨w12.heap.size + 1, 1, none⟩ = some (.int .i64 s2) := hk15 _ _ _ ((keepA _ fs1))
  replace fd0 : w15.cell? ⟨w13.heap.size, 0, none⟩ = some (.int .i64 c1) := hk15 _ _ _ ((keepA _ fd0))
  replace fd1 : w15.cell? ⟨w13.heap.size, 1, none⟩ = some (.int .i64 c2) := hk15 _ _ _ ((keepA _ fd1))
  replace fu0 : w15.cell? ⟨w13.heap.size + 1, 0, none⟩ = some (.int .i64 u1) := hk15 _ _ _ ((keepA _ fu0))
  replace fu1 : w15.cell? ⟨w13.heap.size + 1, 1, none⟩ = some (.int .i64 u2) := hk15 _ _ _ ((keepA _ fu1))
  have fn0 : w15.cell? ⟨w14.heap.size, 0, none⟩ = some (.int .i64 s1) := hk15 _ _ _ ((by simp [go_sem]))
  have fn1 : w15.cell? ⟨w14.heap.size, 1, none⟩ = some (.int .i64 s2) := hk15 _ _ _ ((by simp [go_sem]))
  (try clear fpb); have fpb : w11.heap.size < w15.heap.size := World.block_lt_of_cell? w15 ⟨w11.heap.size, 0, none⟩ fp0
  (try clear fmb); have fmb : w11.heap.size + 1 < w15.heap.size := World.block_lt_of_cell? w15 ⟨w11.heap.size + 1, 0, none⟩ fm0
  (try clear fcb); have fcb : w12.heap.size < w15.heap.size := World.block_lt_of_cell? w15 ⟨w12.heap.size, 0, none⟩ fc0
  (try clear fsb); have fsb : w12.heap.size + 1 < w15.heap.size := World.block_lt_of_cell? w15 ⟨w12.heap.size + 1, 0, none⟩ fs0
  (try clear fdb); have fdb : w13.heap.size < w15.heap.size := World.block_lt_of_cell? w15 ⟨w13.heap.size, 0, none⟩ fd0
  (try clear fub); have fub : w13.heap.size + 1 < w15.heap.size := World.block_lt_of_cell? w15 ⟨w13.heap.size + 1, 0, none⟩ fu0
  (try clear fnb); have fnb : w14.heap.size < w15.heap.size := World.block_lt_of_cell? w15 ⟨w14.heap.size, 0, none⟩ fn0
  clear hk15 hf15
  go_wp2_with fail
  refine useF w (k5.out _) (by go_grown) ?_; rintro e w16 rfl hB16 hk16 hf16 hs16; clear hs16
  replace fp0 : w16.cell? ⟨w11.heap.size, 0, none⟩ = some (.int .i64 t) := hk16 _ _ _ ((keepA _ fp0))
  replace fp1 : w16.cell? ⟨w11.heap.size, 1, none⟩ = some (.int .i64 t) := hk16 _ _ _ ((keepA _ fp1))
  replace fm0 : w16.cell? ⟨w11.heap.size + 1, 0, none⟩ = some (.int .i64 (wrap64 (-t))) := hk16 _ _ _ ((keepA _ fm0))
  replace fm1 : w16.cell? ⟨w11.heap.size + 1, 1, none⟩ = some (.int .i64 (wrap64 (-t))) := hk16 _ _ _ ((keepA _ fm1))
  replace fc0 : w16.cell? ⟨w12.heap.size, 0, none⟩ = some (.int .i64 c1) := hk16 _ _ _ ((keepA _ fc0))
  replace fc1 : w16.cell? ⟨w12.heap.size, 1, none⟩ = some (.int .i64 c2) := hk16 _ _ _ ((keepA _ fc1))
  replace fs0 : w16.cell? ⟨w12.heap.size + 1, 0, none⟩ = some (.int .i64 s1) := hk16 _ _ _ ((keepA _ fs0))
  replace fs1 : w16.cell? ⟨w12.heap.size + 1, 1, none⟩ = some (.int .i64 s2) := hk16 _ _ _ ((keepA _ fs1))
  replace fd0 : w16.cell? ⟨w13.heap.size, 0, none⟩ = some (.int .i64 c1) := hk16 _ _ _ ((keepA _ fd0))
  replace fd1 : w16.cell? ⟨w13.heap.size, 1, none⟩ = some (.int .i64 c2) := hk16 _ _ _ ((keepA _ fd1))
  replace fu0 : w16.cell? ⟨w13.heap.size + 1, 0, none⟩ = some (.int .i64 u1) := hk16 _ _ _ ((keepA _ fu0))
  replace fu1 : w16.cell? ⟨w13.heap.size + 1, 1, none⟩ = some (.int .i64 u2) := hk16 _ _ _ ((keepA _ fu1))
  replace fn0 : w16.cell? ⟨w14.heap.size, 0, none⟩ = some (.int .i64 s1) := hk16 _ _ _ ((keepA _ fn0))
  replace fn1 : w16.cell? ⟨w14.heap.size, 1, none⟩ = some (.int .i64 s2) := hk16 _ _ _ ((keepA _ fn1))
  have fx0 : w16.cell? ⟨w15.heap.size, 0, none⟩ = some (.int .i64 x1) := hk16 _ _ _ ((by simp [go_sem]))
  have fx1 : w16.cell? ⟨w15.heap.size, 1, none⟩ = some (.int .i64 x2) := hk16 _ _ _ ((by simp [go_sem]))
  (try clear fpb); have fpb : w11.heap.size < w16.heap.size := World.block_lt_of_cell? w16 ⟨w11.heap.size, 0, none⟩ fp0
  (try clear fmb); have fmb : w11.heap.size + 1 < w16.heap.size := World.block_lt_of_cell? w16 ⟨w11.heap.size + 1, 0, none⟩ fm0
  (try clear fcb); have fcb : w12.heap.size < w16.heap.size := World.block_lt_of_cell? w16 ⟨w12.heap.size, 0, none⟩ fc0
  (try clear fsb); have fsb : w12.heap.size + 1 < w16.heap.size := World.block_lt_of_cell? w16 ⟨w12.heap.size + 1, 0, none⟩ fs0
  (try clear fdb); have fdb : w13.heap.size < w16.heap.size := World.block_lt_of_cell? w16 ⟨w13.heap.size, 0, none⟩ fd0
  (try clear fub); have fub : w13.heap.size + 1 < w16.heap.size := World.block_lt_of_cell? w16 ⟨w13.heap.size + 1, 0, none⟩ fu0
  (try clear fnb); have fnb : w14.heap.size < w16.heap.size := World.block_lt_of_cell? w16 ⟨w14.heap.size, 0, none⟩ fn0
  (try clear fxb); have fxb : w15.heap.size < w16.heap.size := World.block_lt_of_cell? w16 ⟨w15.heap.size, 0, none⟩ fx0
  clear hk16 hf16
  go_wp2_with fail
  refine useF w (k6.out _) (by go_grown) ?_; rintro e w17 rfl hB17 hk17 hf17 hs17; clear hs17
  replace fp0 : w17.cell? ⟨w11.heap.size, 0, none⟩ = some (.int .i64 t) := hk17 _ _ _ ((keepA _ fp0))
  replace fp1 : w17.cell? ⟨w11.heap.size, 1, none⟩ = some (.int .i64 t) := hk17 _ _ _ ((keepA _ fp1))
  replace fm0 : w17.cell? ⟨w11.heap.size + 1, 0, none⟩ = some (.int .i64 (wrap64 (-t))) := hk17 _ _ _ ((keepA _ fm0))
  replace fm1 : w17.cell? ⟨w11.heap.size + 1, 1, none⟩ = some (.int .i64 (wrap64 (-t))) := hk17 _ _ _ ((keepA _ fm1))
  replace fc0 : w17.cell? ⟨w12.heap.size, 0, none⟩ = some (.int .i64 c1) := hk17 _ _ _ ((keepA _ fc0))
  replace fc1 : w17.cell? ⟨w12.heap.size, 1, none⟩ = some (.int .i64 c2) := hk17 _ _ _ ((keepA _ fc1))
  replace fs0 : w17.cell? ⟨w12.heap.size + 1, 0, none⟩ = some (.int .i64 s1) := hk17 _ _ _ ((keepA _ fs0))
  replace fs1 : w17.cell? ⟨w12.heap.size + 1, 1, none⟩ = some (.int .i64 s2) := hk17 _ _ _ ((keepA _ fs1))
  replace fd0 : w17.cell? ⟨w13.heap.size, 0, none⟩ = some (.int .i64 c1) := hk17 _ _ _ ((keepA _ fd0))
  replace fd1 : w17.cell? ⟨w13.heap.size, 1, none⟩ = some (.int .i64 c2) := hk17 _ _ _ ((keepA _ fd1))
  replace fu0 : w17.cell? ⟨w13.heap.size + 1, 0, none⟩ = some (.int .i64 u1) := hk17 _ _ _ ((keepA _ fu0))
  replace fu1 : w17.cell? ⟨w13.heap.size + 1, 1, none⟩ = some (.int .i64 u2) := hk17 _ _ _ ((keepA _ fu1))
  replace fn0 : w17.cell? ⟨w14.heap.size, 0, none⟩ = some (.int .i64 s1) := hk17 _ _ _ ((keepA _ fn0))
  replace fn1 : w17.cell? ⟨w14.heap.size, 1, none⟩ = some (.int .i64 s2) := hk17 _ _ _ ((keepA _ fn1))
  replace fx0 : w17.cell? ⟨w15.heap.size, 0, none⟩ = some (.int .i64 x1) := hk17 _ _ _ ((keepA _ fx0))
  replace fx1 : w17.cell? ⟨w15.heap.size, 1, none⟩ = some (.int .i64 x2) := hk17 _ _ _ ((keepA _ fx1))
  have fy0 : w17.cell? ⟨w16.heap.size, 0, none⟩ = some (.int .i64 y1) := hk17 _ _ _ ((by simp [go_sem]))
  have fy1 : w17.cell? ⟨w16.heap.size, 1, none⟩ = some (.int .i64 y2) := hk17 _ _ _ ((by simp [go_sem]))
  (try clear fpb); have fpb : w11.heap.size < w17.heap.size := World.block_lt_of_cell? w17 ⟨w11.heap.size, 0, none⟩ fp0
  (try clear fmb); have fmb : w11.heap.size + 1 < w17.heap.size := World.block_lt_of_cell? w17 ⟨w11.heap.size + 1, 0, none⟩ fm0
  (try clear fcb); have fcb : w12.heap.size < w17.heap.size := World.block_lt_of_cell? w17 ⟨w12.heap.size, 0, none⟩ fc0
  (try clear fsb); have fsb : w12.heap.size + 1 < w17.heap.size := World.block_lt_of_cell? w17 ⟨w12.heap.size + 1, 0, none⟩ fs0
  (try clear fdb); have fdb : w13.heap.size < w17.heap.size := World.block_lt_of_cell? w17 ⟨w13.heap.size, 0, none⟩ fd0
  (try clear fub); have fub : w13.heap.size + 1 < w17.heap.size := World.block_lt_of_cell? w17 ⟨w13.heap.size + 1, 0, none⟩ fu0
  (try clear fnb); have fnb : w14.heap.size < w17.heap.size := World.block_lt_of_cell? w17 ⟨w14.heap.size, 0, none⟩ fn0
  (try clear fxb); have fxb : w15.heap.size < w17.heap.size := World.block_lt_of_cell? w17 ⟨w15.heap.size, 0, none⟩ fx0
  (try clear fyb); have fyb : w16.heap.size < w17.heap.size := World.block_lt_of_cell? w17 ⟨w16.heap.size, 0, none⟩ fy0
  clear hk17 hf17
  go_wp2_with fail
  refine useF w (k7.out _) (by go_grown) ?_; rintro e w18 rfl hB18 hk18 hf18 hs18; clear hs18
  replace fp0 : w18.cell? ⟨w11.heap.size, 0, none⟩ = some (.int .i64 t) := hk18 _ _ _ ((keepA _ fp0))
  replace fp1 : w18.cell? ⟨w11.heap.size, 1, none⟩ = some (.int .i64 t) := hk18 _ _ _ ((keepA _ fp1))
  replace fm0 : w18.cell? ⟨w11.heap.size + 1, 0, none⟩ = some (.int .i64 (wrap64 (-t))) := hk18 _ _ _ ((keepA _ fm0))
  replace fm1 : w18.cell? ⟨w11.heap.size + 1, 1, none⟩ = some (.int .i64 (wrap64 (-t))) := hk18 _ _ _ ((keepA _ fm1))
  replace fc0 : w18.cell? ⟨w12.heap.size, 0, none⟩ = some (.int .i64 c1) := hk18 _ _ _ ((keepA _ fc0))
  replace fc1 : w18.cell? ⟨w12.heap.size, 1, none⟩ = some (.int .i64 c2) := hk18 _ _ _ ((keepA _ fc1))
  replace fs0 : w18.cell? ⟨w12.heap.size + 1, 0, none⟩ = some (.int .i64 s1) := hk18 _ _ _ ((keepA _ fs0))
  replace fs1 : w18.cell? ⟨w12.heap.size + 1, 1, none⟩ = some (.int .i64 s2) := hk18 _ _ _ ((keepA _ fs1))
  replace fd0 : w18.cell? ⟨w13.heap.size, 0, none⟩ = some (.int .i64 c1) := hk18 _ _ _ ((keepA _ fd0))
  replace fd1 : w18.cell? ⟨w13.heap.size, 1, none⟩ = some (.int .i64 c2) := hk18 _ _ _ ((keepA _ fd1))
  replace fu0 : w18.cell? ⟨w13.heap.size + 1, 0, none⟩ = some (.int .i64 u1) := hk18 _ _ _ ((keepA _ fu0))
  replace fu1 : w18.cell? ⟨w13.heap.size + 1, 1, none⟩ = some (.int .i64 u2) := hk18 _ _ _ ((keepA _ fu1))
  replace fn0 : w18.cell? ⟨w14.heap.size, 0, none⟩ = some (.int .i64 s1) := hk18 _ _ _ ((keepA _ fn0))
  replace fn1 : w18.cell? ⟨w14.heap.size, 1, none⟩ = some (.int .i64 s2) := hk18 _ _ _ ((keepA _ fn1))
  replace fx0 : w18.cell? ⟨w15.heap.size, 0, none⟩ = some (.int .i64 x1) := hk18 _ _ _ ((keepA _ fx0))
  replace fx1 : w18.cell? ⟨w15.heap.size, 1, none⟩ = some (.int .i64 x2) := hk18 _ _ _ ((keepA _ fx1))
  replace fy0 : w18.cell? ⟨w16.heap.size, 0, none⟩ = some (.int .i64 y1) := hk18 _ _ _ ((keepA _ fy0))
  replace fy1 : w18.cell? ⟨w16.heap.size, 1, none⟩ = some (.int .i64 y2) := hk18 _ _ _ ((keepA _ fy1))
  have fo0 : w18.cell? ⟨w17.heap.size, 0, none⟩ = some (.int .i64 z1) := hk18 _ _ _ ((by simp [go_sem]))
  have fo1 : w18.cell? ⟨w17.heap.size, 1, none⟩ = some (.int .i64 z2) := hk18 _ _ _ ((by simp [go_sem]))
  (try clear fpb); have fpb : w11.heap.size < w18.heap.size := World.block_lt_of_cell? w18 ⟨w11.heap.size, 0, none⟩ fp0
  (try clear fmb); have fmb : w11.heap.size + 1 < w18.heap.size := World.block_lt_of_cell? w18 ⟨w11.heap.size + 1, 0, none⟩ fm0
  (try clear fcb); have fcb : w12.heap.size < w18.heap.size := World.block_lt_of_cell? w18 ⟨w12.heap.size, 0, none⟩ fc0
  (try clear fsb); have fsb : w12.heap.size + 1 < w18.heap.size := World.block_lt_of_cell? w18 ⟨w12.heap.size + 1, 0, none⟩ fs0
  (try clear fdb); have fdb : w13.heap.size < w18.heap.size := World.block_lt_of_cell? w18 ⟨w13.heap.size, 0, none⟩ fd0
  (try clear fub); have fub : w13.heap.size + 1 < w18.heap.size := World.block_lt_of_cell? w18 ⟨w13.heap.size + 1, 0, none⟩ fu0
  (try clear fnb); have fnb : w14.heap.size < w18.heap.size := World.block_lt_of_cell? w18 ⟨w14.heap.size, 0, none⟩ fn0
  (try clear fxb); have fxb : w15.heap.size < w18.heap.size := World.block_lt_of_cell? w18 ⟨w15.heap.size, 0, none⟩ fx0
  (try clear fyb); have fyb : w16.heap.size < w18.heap.size := World.block_lt_of_cell? w18 ⟨w16.heap.size, 0, none⟩ fy0
  (try clear fob); have fob : w17.heap.size < w18.heap.size := World.block_lt_of_cell? w18 ⟨w17.heap.size, 0, none⟩ fo0
  clear hk18 hf18
  go_wp2_with fail
  go_ret
  exact ⟨rfl, by go_grown⟩
theorem turn_far {t : Int} (h : ¬ (-4294967296 ≤ t ∧ t ≤ 4294967296)) : (turnS t t).2.2.2.2 = 4 ∨ (turnS t t).2.2.2.2 = 2 := by
  unfold turnS
  by_cases c : chk t t = 0
  · rw [if_pos c, if_neg h]; exact Or.inl rfl
  · rw [if_neg c]; exact Or.inr rfl
theorem lawCircle_any (t : Int) (w : World) (h : (-9223372036854775808 ≤ t ∧ t ≤ 9223372036854775807)) :
    Calls Tryd.prog 11 #[.int .i64 t] w fun e w' => e = .returned (.bool true) ∧ Below w.heap.size w w' := by
  have hb : (-9223372036854775808 ≤ wrap64 (-t) ∧ wrap64 (-t) ≤ 9223372036854775807) := by simp only [wrap64]; omega
  by_cases c : -4294967296 ≤ t ∧ t ≤ 4294967296
  · have hw : wrap64 (-t) = -t := by simp only [wrap64]; omega
    obtain ⟨b1, b2, b3, _, _⟩ := sin_bd c
    obtain ⟨_, a2, a3, _, _, _, _⟩ := cos_bd c
    obtain ⟨x1, x2, y1, y2, z1, z2, q1, q2, q3, q4, q5⟩ := circle_sum t c _ _ _ _ rfl rfl rfl rfl
    have b0 := (cos_bd c).1
    have hn : negS (-cdQ (sinQ t) (oneQ t)) (-(sinQ t / oneQ t)) = (sinQ t / oneQ t, cdQ (sinQ t) (oneQ t), 0) := by
      unfold negS
      rw [if_pos (show chk (-cdQ (sinQ t) (oneQ t)) (-(sinQ t / oneQ t)) = 0 from if_neg (by omega)), Int.neg_neg, Int.neg_neg]
    refine circle_in t _ _ _ _ _ _ x1 x2 y1 y2 z1 z2 w (decide_eq_false (by omega)) (decide_eq_false (by omega))
      (fun w => by have := turn_any t t w (by omega); rw [turn_pt c] at this; exact this)
      (fun w => by rw [hw]; have := turn_any (-t) (-t) w (by omega); rw [turn_ng c] at this; exact this)
      (fun w => by have := neg_any (-cdQ (sinQ t) (oneQ t)) (-(sinQ t / oneQ t)) w (by omega); rw [hn] at this; exact this)
      (fun w => by have := square_any (cosQ t / oneQ t) (cdQ (cosQ t) (oneQ t)) w (by omega); rw [q1] at this; exact this)
      (fun w => by have := square_any (sinQ t / oneQ t) (cdQ (sinQ t) (oneQ t)) w (by omega); rw [q2] at this; exact this)
      (fun w => by have := add_any x1 x2 y1 y2 w (by omega); rw [q3] at this; exact this)
      (fun w => by have := in_any z1 z2 4294967296 w (by omega); rw [q4] at this; exact this)
  · exact circle_out t _ _ _ _ _ _ _ _ _ _ w (turn_far c) (by omega) (fun w => turn_any t t w (by omega)) (fun w => turn_any _ _ w (by omega))
end Go.Proofs.YtjleflfncijnpaaDoor
