/- Turn, of package span. -/
import Derived.Deep.DeepCutAuto
import Derived.Test.YtjleflfncijnpaaDoorRows
import Derived.Test.YtjleflfncijnpaaDoorBase
import Derived.Test.YtjleflfncijnpaaDoorFacts
import Derived.Test.YtjleflfncijnpaaDoorTwo
import Derived.Deep.RegionHeld3
import Derived.Deep.RegionWith
import Derived.Deep.QuietTactic
import Derived.BigQuiet
import Derived.Test.YtjleflfncijnpaaDoorW
import Derived.Test.YtjleflfncijnpaaDoorAsks
import Derived.Test.YtjleflfncijnpaaDoorOut
import Derived.Test.YtjleflfncijnpaaDoorSeq
import Derived.Test.YtjleflfncijnpaaDoorTwo
import Derived.Test.YtjleflfncijnpaaDoorOne
import Derived.Test.YtjleflfncijnpaaDoorQuo
import Derived.Test.YtjleflfncijnpaaDoorRound
import Derived.Test.YtjleflfncijnpaaDoorScaleM
import Derived.Test.YtjleflfncijnpaaDoorRootM
import Derived.Test.YtjleflfncijnpaaDoorRootS
import Derived.Test.YtjleflfncijnpaaDoorTurnM
import Derived.Test.YtjleflfncijnpaaDoorShare
import Derived.Test.YtjleflfncijnpaaDoorTurn
import Derived.Test.YtjleflfncijnpaaDoorPicks
import Derived.Test.YtjleflfncijnpaaDoorSets
set_option linter.unusedVariables false
set_option linter.unusedSimpArgs false
set_option maxHeartbeats 4000000
set_option maxRecDepth 100000
namespace Go.Proofs.YtjleflfncijnpaaDoor
open Go Go.RowKit
theorem turn_go (lo hi l m c1 x1 x2 c2 s1 x3 x4 s2 : Int) (p : Int × Int × Int × Int × Int) (hp : Hid (p = (c1, c2, s1, s2, 0))) (w : World)
    (k1 : Hid (∀ w : World, Calls Tryd.prog 31 #[.agg #[.int .i64 lo, .int .i64 hi]] w fun e w' => e = .returned (.int .i64 0) ∧ Below w.heap.size w w'))
    (k2 : Hid (∀ w : World, Calls Tryd.prog 48 #[.agg #[.int .i64 lo, .int .i64 hi], .agg #[.int .i64 (-4294967296), .int .i64 4294967296]] w fun e w' => e = .returned (.bool true) ∧ Below w.heap.size w w'))
    (k3 : Hid (∀ w : World, Calls Tryd.prog 47 #[.agg #[.int .i64 lo, .int .i64 hi]] w fun e w' => e = .returned (.tuple #[.agg #[.int .i64 l, .int .i64 m], .int .i64 0]) ∧ Below w.heap.size w w'))
    (k4 : Hid (∀ w : World, Calls Tryd.prog 75 #[.int .i64 m] w fun e w' => e = .returned (.tuple #[.int .i64 c1, .int .i64 x1]) ∧ Below w.heap.size w w'))
    (k5 : Hid (∀ w : World, Calls Tryd.prog 75 #[.int .i64 l] w fun e w' => e = .returned (.tuple #[.int .i64 x2, .int .i64 c2]) ∧ Below w.heap.size w w'))
    (k6 : Hid (∀ w : World, Calls Tryd.prog 76 #[.int .i64 lo] w fun e w' => e = .returned (.tuple #[.int .i64 s1, .int .i64 x3]) ∧ Below w.heap.size w w'))
    (k7 : Hid (∀ w : World, Calls Tryd.prog 76 #[.int .i64 hi] w fun e w' => e = .returned (.tuple #[.int .i64 x4, .int .i64 s2]) ∧ Below w.heap.size w w')) :
    Calls Tryd.prog 24 #[.agg #[.int .i64 lo, .int .i64 hi]] w fun e w' => e = .returned (.tuple #[.agg #[.int .i64 p.1, .int .i64 p.2.1], .agg #[.int .i64 p.2.2.1, .int .i64 p.2.2.2.1], .int .i64 p.2.2.2.2]) ∧ Below w.heap.size w w' := by
  go_enter Tryd.func24, Tryd.ntmps24
  go_wp2_with fail
  refine useF w (k1.out _) (by go_grown) ?_; rintro e w1 rfl hB1 hk1 hf1 hs1
  replace f10 : w1.frozen? ⟨w.heap.size + 1, 0, none⟩ = false := hf1 _ _ (.int .i64 0) (by simp [go_sem]) (by simp [go_sem])
  replace f11 : w1.frozen? ⟨w.heap.size + 1, 1, none⟩ = false := hf1 _ _ (.int .i64 0) (by simp [go_sem]) (by simp [go_sem])
  replace f20 : w1.frozen? ⟨w.heap.size + 1 + 1, 0, none⟩ = false := hf1 _ _ (.int .i64 0) (by simp [go_sem]) (by simp [go_sem])
  replace f21 : w1.frozen? ⟨w.heap.size + 1 + 1, 1, none⟩ = false := hf1 _ _ (.int .i64 0) (by simp [go_sem]) (by simp [go_sem])
  replace p00 : w1.cell? ⟨w.heap.size, 0, none⟩ = some (.int .i64 lo) := hk1 _ _ _ (by simp [go_sem])
  replace p01 : w1.cell? ⟨w.heap.size, 1, none⟩ = some (.int .i64 hi) := hk1 _ _ _ (by simp [go_sem])
  replace p10 : w1.cell? ⟨w.heap.size + 1, 0, none⟩ = some (.int .i64 0) := hk1 _ _ _ (by simp [go_sem])
  replace p11 : w1.cell? ⟨w.heap.size + 1, 1, none⟩ = some (.int .i64 0) := hk1 _ _ _ (by simp [go_sem])
  replace p20 : w1.cell? ⟨w.heap.size + 1 + 1, 0, none⟩ = some (.int .i64 0) := hk1 _ _ _ (by simp [go_sem])
  replace p21 : w1.cell? ⟨w.heap.size + 1 + 1, 1, none⟩ = some (.int .i64 0) := hk1 _ _ _ (by simp [go_sem])
  have bp00 : w.heap.size < w1.heap.size := World.block_lt_of_cell? w1 ⟨w.heap.size, 0, none⟩ p00
  have bp10 : w.heap.size + 1 < w1.heap.size := World.block_lt_of_cell? w1 ⟨w.heap.size + 1, 0, none⟩ p10
  have bp20 : w.heap.size + 1 + 1 < w1.heap.size := World.block_lt_of_cell? w1 ⟨w.heap.size + 1 + 1, 0, none⟩ p20
  clear hk1 hf1
  go_wp2_with fail
  refine useF w (k2.out _) (by go_grown) ?_; rintro e w2 rfl hB2 hk2 hf2 hs2
  replace f10 : w2.frozen? ⟨w.heap.size + 1, 0, none⟩ = false := hf2 _ _ _ (p10) (f10)
  replace f11 : w2.frozen? ⟨w.heap.size + 1, 1, none⟩ = false := hf2 _ _ _ (p11) (f11)
  replace f20 : w2.frozen? ⟨w.heap.size + 1 + 1, 0, none⟩ = false := hf2 _ _ _ (p20) (f20)
  replace f21 : w2.frozen? ⟨w.heap.size + 1 + 1, 1, none⟩ = false := hf2 _ _ _ (p21) (f21)
  replace p00 : w2.cell? ⟨w.heap.size, 0, none⟩ = some (.int .i64 lo) := hk2 _ _ _ (p00)
  replace p01 : w2.cell? ⟨w.heap.size, 1, none⟩ = some (.int .i64 hi) := hk2 _ _ _ (p01)
  replace p10 : w2.cell? ⟨w.heap.size + 1, 0, none⟩ = some (.int .i64 0) := hk2 _ _ _ (p10)
  replace p11 : w2.cell? ⟨w.heap.size + 1, 1, none⟩ = some (.int .i64 0) := hk2 _ _ _ (p11)
  replace p20 : w2.cell? ⟨w.heap.size + 1 + 1, 0, none⟩ = some (.int .i64 0) := hk2 _ _ _ (p20)
  replace p21 : w2.cell? ⟨w.heap.size + 1 + 1, 1, none⟩ = some (.int .i64 0) := hk2 _ _ _ (p21)
  have bp00 : w.heap.size < w2.heap.size := World.block_lt_of_cell? w2 ⟨w.heap.size, 0, none⟩ p00
  have bp10 : w.heap.size + 1 < w2.heap.size := World.block_lt_of_cell? w2 ⟨w.heap.size + 1, 0, none⟩ p10
  have bp20 : w.heap.size + 1 + 1 < w2.heap.size := World.block_lt_of_cell? w2 ⟨w.heap.size + 1 + 1, 0, none⟩ p20
  clear hk2 hf2
  go_wp2_with fail
  have p1f0 := f10; have p1f1 := f11; have p2f0 := f20; have p2f1 := f21
  clear f10 f11 f20 f21
  refine useF w (k3.out _) (by go_grown) ?_; rintro e w11 rfl hB11 hk11 hf11 hs11; clear hs11
  replace p00 : w11.cell? ⟨w.heap.size, 0, none⟩ = some (.int .i64 lo) := hk11 _ _ _ (p00)
  replace p01 : w11.cell? ⟨w.heap.size, 1, none⟩ = some (.int .i64 hi) := hk11 _ _ _ (p01)
  replace p1f0 : w11.frozen? ⟨w.heap.size + 1, 0, none⟩ = false := hf11 _ _ (.int .i64 0) (p10) (p1f0)
  replace p10 : w11.cell? ⟨w.heap.size + 1, 0, none⟩ = some (.int .i64 0) := hk11 _ _ _ (p10)
  replace p1f1 : w11.frozen? ⟨w.heap.size + 1, 1, none⟩ = false := hf11 _ _ (.int .i64 0) (p11) (p1f1)
  replace p11 : w11.cell? ⟨w.heap.size + 1, 1, none⟩ = some (.int .i64 0) := hk11 _ _ _ (p11)
  replace p2f0 : w11.frozen? ⟨w.heap.size + 1 + 1, 0, none⟩ = false := hf11 _ _ (.int .i64 0) (p20) (p2f0)
  replace p20 : w11.cell? ⟨w.heap.size + 1 + 1, 0, none⟩ = some (.int .i64 0) := hk11 _ _ _ (p20)
  replace p2f1 : w11.frozen? ⟨w.heap.size + 1 + 1, 1, none⟩ = false := hf11 _ _ (.int .i64 0) (p21) (p2f1)
  replace p21 : w11.cell? ⟨w.heap.size + 1 + 1, 1, none⟩ = some (.int .i64 0) := hk11 _ _ _ (p21)
  (try clear p0b); have p0b : w.heap.size < w11.heap.size := World.block_lt_of_cell? w11 ⟨w.heap.size, 0, none⟩ p00
  (try clear p1b); have p1b : w.heap.size + 1 < w11.heap.size := World.block_lt_of_cell? w11 ⟨w.heap.size + 1, 0, none⟩ p10
  (try clear p2b); have p2b : w.heap.size + 1 + 1 < w11.heap.size := World.block_lt_of_cell? w11 ⟨w.heap.size + 1 + 1, 0, none⟩ p20
  clear hk11 hf11
  go_wp2_with fail
  have p0b11 := p0b
  have p1b11 := p1b
  have p2b11 := p2b
  refine useF w (k4.out _) (by go_grown) ?_; rintro e w12 rfl hB12 hk12 hf12 hs12; clear hs12
  replace p00 : w12.cell? ⟨w.heap.size, 0, none⟩ = some (.int .i64 lo) := hk12 _ _ _ ((keepA _ p00))
  replace p01 : w12.cell? ⟨w.heap.size, 1, none⟩ = some (.int .i64 hi) := hk12 _ _ _ ((keepA _ p01))
  replace p1f0 : w12.frozen? ⟨w.heap.size + 1, 0, none⟩ = false := hf12 _ _ (.int .i64 0) ((keepA _ p10)) ((keepAF _ p10 p1f0))
  replace p10 : w12.cell? ⟨w.heap.size + 1, 0, none⟩ = some (.int .i64 0) := hk12 _ _ _ ((keepA _ p10))
  replace p1f1 : w12.frozen? ⟨w.heap.size + 1, 1, none⟩ = false := hf12 _ _ (.int .i64 0) ((keepA _ p11)) ((keepAF _ p11 p1f1))
  replace p11 : w12.cell? ⟨w.heap.size + 1, 1, none⟩ = some (.int .i64 0) := hk12 _ _ _ ((keepA _ p11))
  replace p2f0 : w12.frozen? ⟨w.heap.size + 1 + 1, 0, none⟩ = false := hf12 _ _ (.int .i64 0) ((keepA _ p20)) ((keepAF _ p20 p2f0))
  replace p20 : w12.cell? ⟨w.heap.size + 1 + 1, 0, none⟩ = some (.int .i64 0) := hk12 _ _ _ ((keepA _ p20))
  replace p2f1 : w12.frozen? ⟨w.heap.size + 1 + 1, 1, none⟩ = false := hf12 _ _ (.int .i64 0) ((keepA _ p21)) ((keepAF _ p21 p2f1))
  replace p21 : w12.cell? ⟨w.heap.size + 1 + 1, 1, none⟩ = some (.int .i64 0) := hk12 _ _ _ ((keepA _ p21))
  have z0 : w12.cell? ⟨w11.heap.size, 0, none⟩ = some (.int .i64 l) := hk12 _ _ _ ((by simp [go_sem]))
  have z1 : w12.cell? ⟨w11.heap.size, 1, none⟩ = some (.int .i64 m) := hk12 _ _ _ ((by simp [go_sem]))
  (try clear p0b); have p0b : w.heap.size < w12.heap.size := World.block_lt_of_cell? w12 ⟨w.heap.size, 0, none⟩ p00
  (try clear p1b); have p1b : w.heap.size + 1 < w12.heap.size := World.block_lt_of_cell? w12 ⟨w.heap.size + 1, 0, none⟩ p10
  (try clear p2b); have p2b : w.heap.size + 1 + 1 < w12.heap.size := World.block_lt_of_cell? w12 ⟨w.heap.size + 1 + 1, 0, none⟩ p20
  (try clear zb); have zb : w11.heap.size < w12.heap.size := World.block_lt_of_cell? w12 ⟨w11.heap.size, 0, none⟩ z0
  clear hk12 hf12
  have p00' : (w12.setCell ⟨w.heap.size + 1, 0, none⟩ (.int .i64 c1)).cell? ⟨w.heap.size, 0, none⟩ = some (.int .i64 lo) := one_other p00 (by omega)
  have p01' : (w12.setCell ⟨w.heap.size + 1, 0, none⟩ (.int .i64 c1)).cell? ⟨w.heap.size, 1, none⟩ = some (.int .i64 hi) := one_other p01 (by omega)
  have p1f0' : (w12.setCell ⟨w.heap.size + 1, 0, none⟩ (.int .i64 c1)).frozen? ⟨w.heap.size + 1, 0, none⟩ = false := one_fz p1f0
  have p10' : (w12.setCell ⟨w.heap.size + 1, 0, none⟩ (.int .i64 c1)).cell? ⟨w.heap.size + 1, 0, none⟩ = some (.int .i64 c1) := one_same p10
  have p1f1' : (w12.setCell ⟨w.heap.size + 1, 0, none⟩ (.int .i64 c1)).frozen? ⟨w.heap.size + 1, 1, none⟩ = false := one_fz p1f1
  have p11' : (w12.setCell ⟨w.heap.size + 1, 0, none⟩ (.int .i64 c1)).cell? ⟨w.heap.size + 1, 1, none⟩ = some (.int .i64 0) := one_off p11 (by omega)
  have p2f0' : (w12.setCell ⟨w.heap.size + 1, 0, none⟩ (.int .i64 c1)).frozen? ⟨w.heap.size + 1 + 1, 0, none⟩ = false := one_fz p2f0
  have p20' : (w12.setCell ⟨w.heap.size + 1, 0, none⟩ (.int .i64 c1)).cell? ⟨w.heap.size + 1 + 1, 0, none⟩ = some (.int .i64 0) := one_other p20 (by omega)
  have p2f1' : (w12.setCell ⟨w.heap.size + 1, 0, none⟩ (.int .i64 c1)).frozen? ⟨w.heap.size + 1 + 1, 1, none⟩ = false := one_fz p2f1
  have p21' : (w12.setCell ⟨w.heap.size + 1, 0, none⟩ (.int .i64 c1)).cell? ⟨w.heap.size + 1 + 1, 1, none⟩ = some (.int .i64 0) := one_other p21 (by omega)
  have z0' : (w12.setCell ⟨w.heap.size + 1, 0, none⟩ (.int .i64 c1)).cell? ⟨w11.heap.size, 0, none⟩ = some (.int .i64 l) := one_other z0 (by omega)
  have z1' : (w12.setCell ⟨w.heap.size + 1, 0, none⟩ (.int .i64 c1)).cell? ⟨w11.heap.size, 1, none⟩ = some (.int .i64 m) := one_other z1 (by omega)
  go_wp2_with fail
  replace p00 := p00'; clear p00'
  replace p01 := p01'; clear p01'
  replace p1f0 := p1f0'; clear p1f0'
  replace p10 := p10'; clear p10'
  replace p1f1 := p1f1'; clear p1f1'
  replace p11 := p11'; clear p11'
  replace p2f0 := p2f0'; clear p2f0'
  replace p20 := p20'; clear p20'
  replace p2f1 := p2f1'; clear p2f1'
  replace p21 := p21'; clear p21'
  replace z0 := z0'; clear z0'
  replace z1 := z1'; clear z1'
  refine useF w (k5.out _) (by go_grown) ?_; rintro e w13 rfl hB13 hk13 hf13 hs13; clear hs13
  replace p00 : w13.cell? ⟨w.heap.size, 0, none⟩ = some (.int .i64 lo) := hk13 _ _ _ (p00)
  replace p01 : w13.cell? ⟨w.heap.size, 1, none⟩ = some (.int .i64 hi) := hk13 _ _ _ (p01)
  replace p1f0 : w13.frozen? ⟨w.heap.size + 1, 0, none⟩ = false := hf13 _ _ (.int .i64 c1) (p10) (p1f0)
  replace p10 : w13.cell? ⟨w.heap.size + 1, 0, none⟩ = some (.int .i64 c1) := hk13 _ _ _ (p10)
  replace p1f1 : w13.frozen? ⟨w.heap.size + 1, 1, none⟩ = false := hf13 _ _ (.int .i64 0) (p11) (p1f1)
  replace p11 : w13.cell? ⟨w.heap.size + 1, 1, none⟩ = some (.int .i64 0) := hk13 _ _ _ (p11)
  replace p2f0 : w13.frozen? ⟨w.heap.size + 1 + 1, 0, none⟩ = false := hf13 _ _ (.int .i64 0) (p20) (p2f0)
  replace p20 : w13.cell? ⟨w.heap.size + 1 + 1, 0, none⟩ = some (.int .i64 0) := hk13 _ _ _ (p20)
  replace p2f1 : w13.frozen? ⟨w.heap.size + 1 + 1, 1, none⟩ = false := hf13 _ _ (.int .i64 0) (p21) (p2f1)
  replace p21 : w13.cell? ⟨w.heap.size + 1 + 1, 1, none⟩ = some (.int .i64 0) := hk13 _ _ _ (p21)
  replace z0 : w13.cell? ⟨w11.heap.size, 0, none⟩ = some (.int .i64 l) := hk13 _ _ _ (z0)
  replace z1 : w13.cell? ⟨w11.heap.size, 1, none⟩ = some (.int .i64 m) := hk13 _ _ _ (z1)
  (try clear p0b); have p0b : w.heap.size < w13.heap.size := World.block_lt_of_cell? w13 ⟨w.heap.size, 0, none⟩ p00
  (try clear p1b); have p1b : w.heap.size + 1 < w13.heap.size := World.block_lt_of_cell? w13 ⟨w.heap.size + 1, 0, none⟩ p10
  (try clear p2b); have p2b : w.heap.size + 1 + 1 < w13.heap.size := World.block_lt_of_cell? w13 ⟨w.heap.size + 1 + 1, 0, none⟩ p20
  (try clear zb); have zb : w11.heap.size < w13.heap.size := World.block_lt_of_cell? w13 ⟨w11.heap.size, 0, none⟩ z0
  clear hk13 hf13
  have p00' : (w13.setCell ⟨w.heap.size + 1, 1, none⟩ (.int .i64 c2)).cell? ⟨w.heap.size, 0, none⟩ = some (.int .i64 lo) := one_other p00 (by omega)
  have p01' : (w13.setCell ⟨w.heap.size + 1, 1, none⟩ (.int .i64 c2)).cell? ⟨w.heap.size, 1, none⟩ = some (.int .i64 hi) := one_other p01 (by omega)
  have p1f0' : (w13.setCell ⟨w.heap.size + 1, 1, none⟩ (.int .i64 c2)).frozen? ⟨w.heap.size + 1, 0, none⟩ = false := one_fz p1f0
  have p10' : (w13.setCell ⟨w.heap.size + 1, 1, none⟩ (.int .i64 c2)).cell? ⟨w.heap.size + 1, 0, none⟩ = some (.int .i64 c1) := one_off p10 (by omega)
  have p1f1' : (w13.setCell ⟨w.heap.size + 1, 1, none⟩ (.int .i64 c2)).frozen? ⟨w.heap.size + 1, 1, none⟩ = false := one_fz p1f1
  have p11' : (w13.setCell ⟨w.heap.size + 1, 1, none⟩ (.int .i64 c2)).cell? ⟨w.heap.size + 1, 1, none⟩ = some (.int .i64 c2) := one_same p11
  have p2f0' : (w13.setCell ⟨w.heap.size + 1, 1, none⟩ (.int .i64 c2)).frozen? ⟨w.heap.size + 1 + 1, 0, none⟩ = false := one_fz p2f0
  have p20' : (w13.setCell ⟨w.heap.size + 1, 1, none⟩ (.int .i64 c2)).cell? ⟨w.heap.size + 1 + 1, 0, none⟩ = some (.int .i64 0) := one_other p20 (by omega)
  have p2f1' : (w13.setCell ⟨w.heap.size + 1, 1, none⟩ (.int .i64 c2)).frozen? ⟨w.heap.size + 1 + 1, 1, none⟩ = false := one_fz p2f1
  have p21' : (w13.setCell ⟨w.heap.size + 1, 1, none⟩ (.int .i64 c2)).cell? ⟨w.heap.size + 1 + 1, 1, none⟩ = some (.int .i64 0) := one_other p21 (by omega)
  have z0' : (w13.setCell ⟨w.heap.size + 1, 1, none⟩ (.int .i64 c2)).cell? ⟨w11.heap.size, 0, none⟩ = some (.int .i64 l) := one_other z0 (by omega)
  have z1' : (w13.setCell ⟨w.heap.size + 1, 1, none⟩ (.int .i64 c2)).cell? ⟨w11.heap.size, 1, none⟩ = some (.int .i64 m) := one_other z1 (by omega)
  go_wp2_with fail
  replace p00 := p00'; clear p00'
  replace p01 := p01'; clear p01'
  replace p1f0 := p1f0'; clear p1f0'
  replace p10 := p10'; clear p10'
  replace p1f1 := p1f1'; clear p1f1'
  replace p11 := p11'; clear p11'
  replace p2f0 := p2f0'; clear p2f0'
  replace p20 := p20'; clear p20'
  replace p2f1 := p2f1'; clear p2f1'
  replace p21 := p21'; clear p21'
  replace z0 := z0'; clear z0'
  replace z1 := z1'; clear z1'
  refine useF w (k6.out _) (by go_grown) ?_; rintro e w14 rfl hB14 hk14 hf14 hs14; clear hs14
  replace p00 : w14.cell? ⟨w.heap.size, 0, none⟩ = some (.int .i64 lo) := hk14 _ _ _ (p00)
  replace p01 : w14.cell? ⟨w.heap.size, 1, none⟩ = some (.int .i64 hi) := hk14 _ _ _ (p01)
  replace p1f0 : w14.frozen? ⟨w.heap.size + 1, 0, none⟩ = false := hf14 _ _ (.int .i64 c1) (p10) (p1f0)
  replace p10 : w14.cell? ⟨w.heap.size + 1, 0, none⟩ = some (.int .i64 c1) := hk14 _ _ _ (p10)
  replace p1f1 : w14.frozen? ⟨w.heap.size + 1, 1, none⟩ = false := hf14 _ _ (.int .i64 c2) (p11) (p1f1)
  replace p11 : w14.cell? ⟨w.heap.size + 1, 1, none⟩ = some (.int .i64 c2) := hk14 _ _ _ (p11)
  replace p2f0 : w14.frozen? ⟨w.heap.size + 1 + 1, 0, none⟩ = false := hf14 _ _ (.int .i64 0) (p20) (p2f0)
  replace p20 : w14.cell? ⟨w.heap.size + 1 + 1, 0, none⟩ = some (.int .i64 0) := hk14 _ _ _ (p20)
  replace p2f1 : w14.frozen? ⟨w.heap.size + 1 + 1, 1, none⟩ = false := hf14 _ _ (.int .i64 0) (p21) (p2f1)
  replace p21 : w14.cell? ⟨w.heap.size + 1 + 1, 1, none⟩ = some (.int .i64 0) := hk14 _ _ _ (p21)
  replace z0 : w14.cell? ⟨w11.heap.size, 0, none⟩ = some (.int .i64 l) := hk14 _ _ _ (z0)
  replace z1 : w14.cell? ⟨w11.heap.size, 1, none⟩ = some (.int .i64 m) := hk14 _ _ _ (z1)
  (try clear p0b); have p0b : w.heap.size < w14.heap.size := World.block_lt_of_cell? w14 ⟨w.heap.size, 0, none⟩ p00
  (try clear p1b); have p1b : w.heap.size + 1 < w14.heap.size := World.block_lt_of_cell? w14 ⟨w.heap.size + 1, 0, none⟩ p10
  (try clear p2b); have p2b : w.heap.size + 1 + 1 < w14.heap.size := World.block_lt_of_cell? w14 ⟨w.heap.size + 1 + 1, 0, none⟩ p20
  (try clear zb); have zb : w11.heap.size < w14.heap.size := World.block_lt_of_cell? w14 ⟨w11.heap.size, 0, none⟩ z0
  clear hk14 hf14
  have p00' : (w14.setCell ⟨w.heap.size + 1 + 1, 0, none⟩ (.int .i64 s1)).cell? ⟨w.heap.size, 0, none⟩ = some (.int .i64 lo) := one_other p00 (by omega)
  have p01' : (w14.setCell ⟨w.heap.size + 1 + 1, 0, none⟩ (.int .i64 s1)).cell? ⟨w.heap.size, 1, none⟩ = some (.int .i64 hi) := one_other p01 (by omega)
  have p1f0' : (w14.setCell ⟨w.heap.size + 1 + 1, 0, none⟩ (.int .i64 s1)).frozen? ⟨w.heap.size + 1, 0, none⟩ = false := one_fz p1f0
  have p10' : (w14.setCell ⟨w.heap.size + 1 + 1, 0, none⟩ (.int .i64 s1)).cell? ⟨w.heap.size + 1, 0, none⟩ = some (.int .i64 c1) := one_other p10 (by omega)
  have p1f1' : (w14.setCell ⟨w.heap.size + 1 + 1, 0, none⟩ (.int .i64 s1)).frozen? ⟨w.heap.size + 1, 1, none⟩ = false := one_fz p1f1
  have p11' : (w14.setCell ⟨w.heap.size + 1 + 1, 0, none⟩ (.int .i64 s1)).cell? ⟨w.heap.size + 1, 1, none⟩ = some (.int .i64 c2) := one_other p11 (by omega)
  have p2f0' : (w14.setCell ⟨w.heap.size + 1 + 1, 0, none⟩ (.int .i64 s1)).frozen? ⟨w.heap.size + 1 + 1, 0, none⟩ = false := one_fz p2f0
  have p20' : (w14.setCell ⟨w.heap.size + 1 + 1, 0, none⟩ (.int .i64 s1)).cell? ⟨w.heap.size + 1 + 1, 0, none⟩ = some (.int .i64 s1) := one_same p20
  have p2f1' : (w14.setCell ⟨w.heap.size + 1 + 1, 0, none⟩ (.int .i64 s1)).frozen? ⟨w.heap.size + 1 + 1, 1, none⟩ = false := one_fz p2f1
  have p21' : (w14.setCell ⟨w.heap.size + 1 + 1, 0, none⟩ (.int .i64 s1)).cell? ⟨w.heap.size + 1 + 1, 1, none⟩ = some (.int .i64 0) := one_off p21 (by omega)
  have z0' : (w14.setCell ⟨w.heap.size + 1 + 1, 0, none⟩ (.int .i64 s1)).cell? ⟨w11.heap.size, 0, none⟩ = some (.int .i64 l) := one_other z0 (by omega)
  have z1' : (w14.setCell ⟨w.heap.size + 1 + 1, 0, none⟩ (.int .i64 s1)).cell? ⟨w11.heap.size, 1, none⟩ = some (.int .i64 m) := one_other z1 (by omega)
  go_wp2_with fail
  replace p00 := p00'; clear p00'
  replace p01 := p01'; clear p01'
  replace p1f0 := p1f0'; clear p1f0'
  replace p10 := p10'; clear p10'
  replace p1f1 := p1f1'; clear p1f1'
  replace p11 := p11'; clear p11'
  replace p2f0 := p2f0'; clear p2f0'
  replace p20 := p20'; clear p20'
  replace p2f1 := p2f1'; clear p2f1'
  replace p21 := p21'; clear p21'
  replace z0 := z0'; clear z0'
  replace z1 := z1'; clear z1'
  refine useF w (k7.out _) (by go_grown) ?_; rintro e w15 rfl hB15 hk15 hf15 hs15; clear hs15
  replace p00 : w15.cell? ⟨w.heap.size, 0, none⟩ = some (.int .i64 lo) := hk15 _ _ _ (p00)
  replace p01 : w15.cell? ⟨w.heap.size, 1, none⟩ = some (.int .i64 hi) := hk15 _ _ _ (p01)
  replace p1f0 : w15.frozen? ⟨w.heap.size + 1, 0, none⟩ = false := hf15 _ _ (.int .i64 c1) (p10) (p1f0)
  replace p10 : w15.cell? ⟨w.heap.size + 1, 0, none⟩ = some (.int .i64 c1) := hk15 _ _ _ (p10)
  replace p1f1 : w15.frozen? ⟨w.heap.size + 1, 1, none⟩ = false := hf15 _ _ (.int .i64 c2) (p11) (p1f1)
  replace p11 : w15.cell? ⟨w.heap.size + 1, 1, none⟩ = some (.int .i64 c2) := hk15 _ _ _ (p11)
  replace p2f0 : w15.frozen? ⟨w.heap.size + 1 + 1, 0, none⟩ = false := hf15 _ _ (.int .i64 s1) (p20) (p2f0)
  replace p20 : w15.cell? ⟨w.heap.size + 1 + 1, 0, none⟩ = some (.int .i64 s1) := hk15 _ _ _ (p20)
  replace p2f1 : w15.frozen? ⟨w.heap.size + 1 + 1, 1, none⟩ = false := hf15 _ _ (.int .i64 0) (p21) (p2f1)
  replace p21 : w15.cell? ⟨w.heap.size + 1 + 1, 1, none⟩ = some (.int .i64 0) := hk15 _ _ _ (p21)
  replace z0 : w15.cell? ⟨w11.heap.size, 0, none⟩ = some (.int .i64 l) := hk15 _ _ _ (z0)
  replace z1 : w15.cell? ⟨w11.heap.size, 1, none⟩ = some (.int .i64 m) := hk15 _ _ _ (z1)
  (try clear p0b); have p0b : w.heap.size < w15.heap.size := World.block_lt_of_cell? w15 ⟨w.heap.size, 0, none⟩ p00
  (try clear p1b); have p1b : w.heap.size + 1 < w15.heap.size := World.block_lt_of_cell? w15 ⟨w.heap.size + 1, 0, none⟩ p10
  (try clear p2b); have p2b : w.heap.size + 1 + 1 < w15.heap.size := World.block_lt_of_cell? w15 ⟨w.heap.size + 1 + 1, 0, none⟩ p20
  (try clear zb); have zb : w11.heap.size < w15.heap.size := World.block_lt_of_cell? w15 ⟨w11.heap.size, 0, none⟩ z0
  clear hk15 hf15
  have p00' : (w15.setCell ⟨w.heap.size + 1 + 1, 1, none⟩ (.int .i64 s2)).cell? ⟨w.heap.size, 0, none⟩ = some (.int .i64 lo) := one_other p00 (by omega)
  have p01' : (w15.setCell ⟨w.heap.size + 1 + 1, 1, none⟩ (.int .i64 s2)).cell? ⟨w.heap.size, 1, none⟩ = some (.int .i64 hi) := one_other p01 (by omega)
  have p1f0' : (w15.setCell ⟨w.heap.size + 1 + 1, 1, none⟩ (.int .i64 s2)).frozen? ⟨w.heap.size + 1, 0, none⟩ = false := one_fz p1f0
  have p10' : (w15.setCell ⟨w.heap.size + 1 + 1, 1, none⟩ (.int .i64 s2)).cell? ⟨w.heap.size + 1, 0, none⟩ = some (.int .i64 c1) := one_other p10 (by omega)
  have p1f1' : (w15.setCell ⟨w.heap.size + 1 + 1, 1, none⟩ (.int .i64 s2)).frozen? ⟨w.heap.size + 1, 1, none⟩ = false := one_fz p1f1
  have p11' : (w15.setCell ⟨w.heap.size + 1 + 1, 1, none⟩ (.int .i64 s2)).cell? ⟨w.heap.size + 1, 1, none⟩ = some (.int .i64 c2) := one_other p11 (by omega)
  have p2f0' : (w15.setCell ⟨w.heap.size + 1 + 1, 1, none⟩ (.int .i64 s2)).frozen? ⟨w.heap.size + 1 + 1, 0, none⟩ = false := one_fz p2f0
  have p20' : (w15.setCell ⟨w.heap.size + 1 + 1, 1, none⟩ (.int .i64 s2)).cell? ⟨w.heap.size + 1 + 1, 0, none⟩ = some (.int .i64 s1) := one_off p20 (by omega)
  have p2f1' : (w15.setCell ⟨w.heap.size + 1 + 1, 1, none⟩ (.int .i64 s2)).frozen? ⟨w.heap.size + 1 + 1, 1, none⟩ = false := one_fz p2f1
  have p21' : (w15.setCell ⟨w.heap.size + 1 + 1, 1, none⟩ (.int .i64 s2)).cell? ⟨w.heap.size + 1 + 1, 1, none⟩ = some (.int .i64 s2) := one_same p21
  have z0' : (w15.setCell ⟨w.heap.size + 1 + 1, 1, none⟩ (.int .i64 s2)).cell? ⟨w11.heap.size, 0, none⟩ = some (.int .i64 l) := one_other z0 (by omega)
  have z1' : (w15.setCell ⟨w.heap.size + 1 + 1, 1, none⟩ (.int .i64 s2)).cell? ⟨w11.heap.size, 1, none⟩ = some (.int .i64 m) := one_other z1 (by omega)
  go_wp2_with fail
  replace p00 := p00'; clear p00'
  replace p01 := p01'; clear p01'
  replace p1f0 := p1f0'; clear p1f0'
  replace p10 := p10'; clear p10'
  replace p1f1 := p1f1'; clear p1f1'
  replace p11 := p11'; clear p11'
  replace p2f0 := p2f0'; clear p2f0'
  replace p20 := p20'; clear p20'
  replace p2f1 := p2f1'; clear p2f1'
  replace p21 := p21'; clear p21'
  replace z0 := z0'; clear z0'
  replace z1 := z1'; clear z1'
  clear z0 z1 p00 p01
  refine wp_region_held_drew (S := (fun w' => w'.cell? ⟨w.heap.size + 1, 0, none⟩ = some (.int .i64 c1) ∧ w'.cell? ⟨w.heap.size + 1, 1, none⟩ = some (.int .i64 c2) ∧ w'.frozen? ⟨w.heap.size + 1, 0, none⟩ = false ∧ w'.frozen? ⟨w.heap.size + 1, 1, none⟩ = false ∧ w'.cell? ⟨w.heap.size + 1 + 1, 0, none⟩ = some (.int .i64 s1) ∧ w'.cell? ⟨w.heap.size + 1 + 1, 1, none⟩ = some (.int .i64 s2) ∧ w'.frozen? ⟨w.heap.size + 1 + 1, 0, none⟩ = false ∧ w'.frozen? ⟨w.heap.size + 1 + 1, 1, none⟩ = false)) (by kernel_rfl) (by (try dsimp only); (first | (exact ⟨hk1 _ _ _ (hOld.1), hk1 _ _ _ (hOld.2.1), hf1 _ _ _ (hOld.1) (hOld.2.2.1), hf1 _ _ _ (hOld.2.1) (hOld.2.2.2.1), hk1 _ _ _ (hOld.2.2.2.2.1), hk1 _ _ _ (hOld.2.2.2.2.2.1), hf1 _ _ _ (hOld.2.2.2.2.1) (hOld.2.2.2.2.2.2.1), hf1 _ _ _ (hOld.2.2.2.2.2.1) (hOld.2.2.2.2.2.2.2)⟩) | ((try simp only [World.cell?_drew, World.frozen?_drew]); (repeat' apply And.intro) <;> (first | (with_reducible assumption) | (with_reducible exact ⟨_, by assumption⟩) | (with_reducible exact ⟨_, two_other (by assumption) (by omega)⟩) | (with_reducible exact two_0 (by assumption)) | (with_reducible exact two_1 (by assumption)) | (with_reducible exact two_other (by assumption) (by omega)) | (with_reducible exact two_fz (by assumption)) | (with_reducible exact keepA _ (by assumption)) | (with_reducible exact keepA _ (keepA _ (keepA _ (by assumption)))) | (simp (maxDischargeDepth := 8) [*, go_sem, World.cell?_alloc_some, World.cell?_setCell_far]; done))) | (go_keep; done) | (simp (maxDischargeDepth := 8) [*, go_sem, World.cell?_alloc_some, World.cell?_setCell_far]; done))) (fun hHeld => ?_)
  (refine wpAnyH_take (i := 0) (oi := ⟨some 54, _, _, _, _, none⟩) (v := ?_) rfl (by kernel_rfl) (by kernel_rfl) (by kernel_rfl) (fun _ _ _ h => h) (Or.inl ⟨by rfl, ?_⟩) hHeld ?_; rotate_left; (· (intro w9 hSw; (try dsimp only at hSw); go_simp; (try with_reducible rfl))))
  (try simp only [Act.put, List.setIfInBounds_toArray, List.set_cons_zero, List.set_cons_succ])
  (refine wpAnyH_take (i := 1) (oi := ⟨some 55, _, _, _, _, none⟩) (v := ?_) rfl (by kernel_rfl) (by kernel_rfl) (by kernel_rfl) (fun _ _ _ h => h) (Or.inl ⟨by rfl, ?_⟩) hHeld ?_; rotate_left; (· (intro w9 hSw; (try dsimp only at hSw); go_simp; (try with_reducible rfl))))
  (try simp only [Act.put, List.setIfInBounds_toArray, List.set_cons_zero, List.set_cons_succ])
  (refine wpAnyH_ready (rs := [2]) (by kernel_rfl) (by simp) ?_; refine AllReadyH.cons (o := ⟨none, _, _, _, _, none⟩) rfl (fun K hK => ?_) AllReadyH.nil; (try dsimp only at hHeld); have g0 := hHeld.1; have g1 := hHeld.2.1; have g2 := hHeld.2.2.1; have g3 := hHeld.2.2.2.1; have g4 := hHeld.2.2.2.2.1; have g5 := hHeld.2.2.2.2.2.1; have g6 := hHeld.2.2.2.2.2.2.1; have g7 := hHeld.2.2.2.2.2.2.2; clear hHeld; go_simp; refine hK.out _ _ ?_ (fun hHeld => ?_); (· ((try dsimp only); (first | ((try simp only [World.cell?_drew, World.frozen?_drew]); (try simp only [World.cell?_drew, World.frozen?_drew] at g0 g1 g2 g3 g4 g5 g6 g7); exact ⟨(by first | (with_reducible exact two_0 g0) | (with_reducible exact two_1 g0)), (by first | (with_reducible exact two_0 g1) | (with_reducible exact two_1 g1)), (by with_reducible exact two_fz g2), (by with_reducible exact two_fz g3), (by first | (with_reducible exact two_0 g4) | (with_reducible exact two_1 g4)), (by first | (with_reducible exact two_0 g5) | (with_reducible exact two_1 g5)), (by with_reducible exact two_fz g6), (by with_reducible exact two_fz g7)⟩) | (first | (exact ⟨hk1 _ _ _ (hOld.1), hk1 _ _ _ (hOld.2.1), hf1 _ _ _ (hOld.1) (hOld.2.2.1), hf1 _ _ _ (hOld.2.1) (hOld.2.2.2.1), hk1 _ _ _ (hOld.2.2.2.2.1), hk1 _ _ _ (hOld.2.2.2.2.2.1), hf1 _ _ _ (hOld.2.2.2.2.1) (hOld.2.2.2.2.2.2.1), hf1 _ _ _ (hOld.2.2.2.2.2.1) (hOld.2.2.2.2.2.2.2)⟩) | ((try simp only [World.cell?_drew, World.frozen?_drew]); (repeat' apply And.intro) <;> (first | (with_reducible assumption) | (with_reducible exact ⟨_, by assumption⟩) | (with_reducible exact ⟨_, two_other (by assumption) (by omega)⟩) | (with_reducible exact two_0 (by assumption)) | (with_reducible exact two_1 (by assumption)) | (with_reducible exact two_other (by assumption) (by omega)) | (with_reducible exact two_fz (by assumption)) | (with_reducible exact keepA _ (by assumption)) | (with_reducible exact keepA _ (keepA _ (keepA _ (by assumption)))) | (simp (maxDischargeDepth := 8) [*, go_sem, World.cell?_alloc_some, World.cell?_setCell_far]; done))) | (go_keep; done) | (simp (maxDischargeDepth := 8) [*, go_sem, World.cell?_alloc_some, World.cell?_setCell_far]; done))))); clear hK K)
  (try simp only [Act.put, List.setIfInBounds_toArray, List.set_cons_zero, List.set_cons_succ])
  (refine wpAnyH_ready (rs := [3]) (by kernel_rfl) (by simp) ?_; refine AllReadyH.cons (o := ⟨none, _, _, _, _, none⟩) rfl (fun K hK => ?_) AllReadyH.nil; (try dsimp only at hHeld); have g0 := hHeld.1; have g1 := hHeld.2.1; have g2 := hHeld.2.2.1; have g3 := hHeld.2.2.2.1; have g4 := hHeld.2.2.2.2.1; have g5 := hHeld.2.2.2.2.2.1; have g6 := hHeld.2.2.2.2.2.2.1; have g7 := hHeld.2.2.2.2.2.2.2; clear hHeld; go_simp; refine hK.out _ _ ?_ (fun hHeld => ?_); (· ((try dsimp only); (first | ((try simp only [World.cell?_drew, World.frozen?_drew]); (try simp only [World.cell?_drew, World.frozen?_drew] at g0 g1 g2 g3 g4 g5 g6 g7); exact ⟨(by first | (with_reducible exact two_0 g0) | (with_reducible exact two_1 g0)), (by first | (with_reducible exact two_0 g1) | (with_reducible exact two_1 g1)), (by with_reducible exact two_fz g2), (by with_reducible exact two_fz g3), (by first | (with_reducible exact two_0 g4) | (with_reducible exact two_1 g4)), (by first | (with_reducible exact two_0 g5) | (with_reducible exact two_1 g5)), (by with_reducible exact two_fz g6), (by with_reducible exact two_fz g7)⟩) | (first | (exact ⟨hk1 _ _ _ (hOld.1), hk1 _ _ _ (hOld.2.1), hf1 _ _ _ (hOld.1) (hOld.2.2.1), hf1 _ _ _ (hOld.2.1) (hOld.2.2.2.1), hk1 _ _ _ (hOld.2.2.2.2.1), hk1 _ _ _ (hOld.2.2.2.2.2.1), hf1 _ _ _ (hOld.2.2.2.2.1) (hOld.2.2.2.2.2.2.1), hf1 _ _ _ (hOld.2.2.2.2.2.1) (hOld.2.2.2.2.2.2.2)⟩) | ((try simp only [World.cell?_drew, World.frozen?_drew]); (repeat' apply And.intro) <;> (first | (with_reducible assumption) | (with_reducible exact ⟨_, by assumption⟩) | (with_reducible exact ⟨_, two_other (by assumption) (by omega)⟩) | (with_reducible exact two_0 (by assumption)) | (with_reducible exact two_1 (by assumption)) | (with_reducible exact two_other (by assumption) (by omega)) | (with_reducible exact two_fz (by assumption)) | (with_reducible exact keepA _ (by assumption)) | (with_reducible exact keepA _ (keepA _ (keepA _ (by assumption)))) | (simp (maxDischargeDepth := 8) [*, go_sem, World.cell?_alloc_some, World.cell?_setCell_far]; done))) | (go_keep; done) | (simp (maxDischargeDepth := 8) [*, go_sem, World.cell?_alloc_some, World.cell?_setCell_far]; done))))); clear hK K)
  (try simp only [Act.put, List.setIfInBounds_toArray, List.set_cons_zero, List.set_cons_succ])
  (refine wpAnyH_take (i := 4) (oi := ⟨some 4, _, _, _, _, none⟩) (v := ?_) rfl (by kernel_rfl) (by kernel_rfl) (by kernel_rfl) (fun _ _ _ h => h) (Or.inl ⟨by rfl, ?_⟩) hHeld ?_; rotate_left; (· (intro w9 hSw; (try dsimp only at hSw); go_simp; (try with_reducible rfl))))
  (try simp only [Act.put, List.setIfInBounds_toArray, List.set_cons_zero, List.set_cons_succ])
  refine wpAnyH_done (by kernel_rfl) ?_ _
  obtain ⟨p10, p11, _, _, p20, p21, _, _⟩ := hHeld
  go_wp2_with fail
  all_goals (refine' bodyPost_ret (res_st_st_t rfl isA_S isS_S isA_S isS_S rfl rfl ?_ ?_ ?_ ?_) rfl ?_; rotate_left 4; (· first | ((try simp only [World.cell?_drew]); with_reducible exact two_other (two_0 (by assumption)) (by simp)) | ((try simp only [World.cell?_drew]); first | (with_reducible exact two_0 (by assumption)) | (with_reducible exact two_1 (by assumption)) | (with_reducible exact two_other (two_0 (by assumption)) (by simp)) | (with_reducible exact two_other (two_1 (by assumption)) (by simp)) | (with_reducible exact two_0 (two_other (by assumption) (by simp))) | (with_reducible exact two_1 (two_other (by assumption) (by simp))) | (simp (maxDischargeDepth := 8) [go_sem, hHeld]; rfl) | (simp (maxDischargeDepth := 8) [go_sem, *]; rfl) | (simp (maxDischargeDepth := 8) [go_sem, *]; done))); (· first | ((try simp only [World.cell?_drew]); with_reducible exact two_other (two_1 (by assumption)) (by simp)) | ((try simp only [World.cell?_drew]); first | (with_reducible exact two_0 (by assumption)) | (with_reducible exact two_1 (by assumption)) | (with_reducible exact two_other (two_0 (by assumption)) (by simp)) | (with_reducible exact two_other (two_1 (by assumption)) (by simp)) | (with_reducible exact two_0 (two_other (by assumption) (by simp))) | (with_reducible exact two_1 (two_other (by assumption) (by simp))) | (simp (maxDischargeDepth := 8) [go_sem, hHeld]; rfl) | (simp (maxDischargeDepth := 8) [go_sem, *]; rfl) | (simp (maxDischargeDepth := 8) [go_sem, *]; done))); (· first | ((try simp only [World.cell?_drew]); with_reducible exact two_0 (two_other (by assumption) (by simp))) | ((try simp only [World.cell?_drew]); first | (with_reducible exact two_0 (by assumption)) | (with_reducible exact two_1 (by assumption)) | (with_reducible exact two_other (two_0 (by assumption)) (by simp)) | (with_reducible exact two_other (two_1 (by assumption)) (by simp)) | (with_reducible exact two_0 (two_other (by assumption) (by simp))) | (with_reducible exact two_1 (two_other (by assumption) (by simp))) | (simp (maxDischargeDepth := 8) [go_sem, hHeld]; rfl) | (simp (maxDischargeDepth := 8) [go_sem, *]; rfl) | (simp (maxDischargeDepth := 8) [go_sem, *]; done))); (· first | ((try simp only [World.cell?_drew]); with_reducible exact two_1 (two_other (by assumption) (by simp))) | ((try simp only [World.cell?_drew]); first | (with_reducible exact two_0 (by assumption)) | (with_reducible exact two_1 (by assumption)) | (with_reducible exact two_other (two_0 (by assumption)) (by simp)) | (with_reducible exact two_other (two_1 (by assumption)) (by simp)) | (with_reducible exact two_0 (two_other (by assumption) (by simp))) | (with_reducible exact two_1 (two_other (by assumption) (by simp))) | (simp (maxDischargeDepth := 8) [go_sem, hHeld]; rfl) | (simp (maxDischargeDepth := 8) [go_sem, *]; rfl) | (simp (maxDischargeDepth := 8) [go_sem, *]; done))); refine ⟨ret_rr ?_, by go_grown⟩; (exact hp.out.symm))
noncomputable def turnS (lo hi : Int) : Int × Int × Int × Int × Int := if chk lo hi = 0 then (if -4294967296 ≤ lo ∧ hi ≤ 4294967296 then (cosQ (absS lo hi).2.1 / oneQ (absS lo hi).2.1, cdQ (cosQ (absS lo hi).1) (oneQ (absS lo hi).1), sinQ lo / oneQ lo, cdQ (sinQ hi) (oneQ hi), 0) else (0, 0, 0, 0, 4)) else (0, 0, 0, 0, 2)
theorem turn_bad (lo hi : Int) (p : Int × Int × Int × Int × Int) (hp : Hid (p = (0, 0, 0, 0, 2))) (w : World) (h : (-9223372036854775808 ≤ lo ∧ lo ≤ 9223372036854775807) ∧ (-9223372036854775808 ≤ hi ∧ hi ≤ 9223372036854775807)) (hc : chk lo hi = 2) :
    Calls Tryd.prog 24 #[.agg #[.int .i64 lo, .int .i64 hi]] w fun e w' => e = .returned (.tuple #[.agg #[.int .i64 p.1, .int .i64 p.2.1], .agg #[.int .i64 p.2.2.1, .int .i64 p.2.2.2.1], .int .i64 p.2.2.2.2]) ∧ Below w.heap.size w w' := by
  have k1 := hid (fun W => check_any lo hi W h)
  rw [hc] at k1
  clear hc h
  go_enter Tryd.func24, Tryd.ntmps24
  go_wp2_with fail
  refine useF w (k1.out _) (by go_grown) ?_; rintro e w1 rfl hB1 hk1 hf1 hs1
  replace f10 : w1.frozen? ⟨w.heap.size + 1, 0, none⟩ = false := hf1 _ _ (.int .i64 0) (by simp [go_sem]) (by simp [go_sem])
  replace f11 : w1.frozen? ⟨w.heap.size + 1, 1, none⟩ = false := hf1 _ _ (.int .i64 0) (by simp [go_sem]) (by simp [go_sem])
  replace f20 : w1.frozen? ⟨w.heap.size + 1 + 1, 0, none⟩ = false := hf1 _ _ (.int .i64 0) (by simp [go_sem]) (by simp [go_sem])
  replace f21 : w1.frozen? ⟨w.heap.size + 1 + 1, 1, none⟩ = false := hf1 _ _ (.int .i64 0) (by simp [go_sem]) (by simp [go_sem])
  replace p00 : w1.cell? ⟨w.heap.size, 0, none⟩ = some (.int .i64 lo) := hk1 _ _ _ (by simp [go_sem])
  replace p01 : w1.cell? ⟨w.heap.size, 1, none⟩ = some (.int .i64 hi) := hk1 _ _ _ (by simp [go_sem])
  replace p10 : w1.cell? ⟨w.heap.size + 1, 0, none⟩ = some (.int .i64 0) := hk1 _ _ _ (by simp [go_sem])
  replace p11 : w1.cell? ⟨w.heap.size + 1, 1, none⟩ = some (.int .i64 0) := hk1 _ _ _ (by simp [go_sem])
  replace p20 : w1.cell? ⟨w.heap.size + 1 + 1, 0, none⟩ = some (.int .i64 0) := hk1 _ _ _ (by simp [go_sem])
  replace p21 : w1.cell? ⟨w.heap.size + 1 + 1, 1, none⟩ = some (.int .i64 0) := hk1 _ _ _ (by simp [go_sem])
  have bp00 : w.heap.size < w1.heap.size := World.block_lt_of_cell? w1 ⟨w.heap.size, 0, none⟩ p00
  have bp10 : w.heap.size + 1 < w1.heap.size := World.block_lt_of_cell? w1 ⟨w.heap.size + 1, 0, none⟩ p10
  have bp20 : w.heap.size + 1 + 1 < w1.heap.size := World.block_lt_of_cell? w1 ⟨w.heap.size + 1 + 1, 0, none⟩ p20
  clear hk1 hf1
  go_wp2_with fail
  all_goals (refine' bodyPost_ret (res_st_st_t rfl isA_S isS_S isA_S isS_S rfl rfl ?_ ?_ ?_ ?_) rfl ?_; rotate_left 4; (· first | ((try simp only [World.cell?_drew]); with_reducible exact two_other (two_0 (by assumption)) (by simp)) | ((try simp only [World.cell?_drew]); first | (with_reducible exact two_0 (by assumption)) | (with_reducible exact two_1 (by assumption)) | (with_reducible exact two_other (two_0 (by assumption)) (by simp)) | (with_reducible exact two_other (two_1 (by assumption)) (by simp)) | (with_reducible exact two_0 (two_other (by assumption) (by simp))) | (with_reducible exact two_1 (two_other (by assumption) (by simp))) | (simp (maxDischargeDepth := 8) [go_sem, hHeld]; rfl) | (simp (maxDischargeDepth := 8) [go_sem, *]; rfl) | (simp (maxDischargeDepth := 8) [go_sem, *]; done))); (· first | ((try simp only [World.cell?_drew]); with_reducible exact two_other (two_1 (by assumption)) (by simp)) | ((try simp only [World.cell?_drew]); first | (with_reducible exact two_0 (by assumption)) | (with_reducible exact two_1 (by assumption)) | (with_reducible exact two_other (two_0 (by assumption)) (by simp)) | (with_reducible exact two_other (two_1 (by assumption)) (by simp)) | (with_reducible exact two_0 (two_other (by assumption) (by simp))) | (with_reducible exact two_1 (two_other (by assumption) (by simp))) | (simp (maxDischargeDepth := 8) [go_sem, hHeld]; rfl) | (simp (maxDischargeDepth := 8) [go_sem, *]; rfl) | (simp (maxDischargeDepth := 8) [go_sem, *]; done))); (· first | ((try simp only [World.cell?_drew]); with_reducible exact two_0 (two_other (by assumption) (by simp))) | ((try simp only [World.cell?_drew]); first | (with_reducible exact two_0 (by assumption)) | (with_reducible exact two_1 (by assumption)) | (with_reducible exact two_other (two_0 (by assumption)) (by simp)) | (with_reducible exact two_other (two_1 (by assumption)) (by simp)) | (with_reducible exact two_0 (two_other (by assumption) (by simp))) | (with_reducible exact two_1 (two_other (by assumption) (by simp))) | (simp (maxDischargeDepth := 8) [go_sem, hHeld]; rfl) | (simp (maxDischargeDepth := 8) [go_sem, *]; rfl) | (simp (maxDischargeDepth := 8) [go_sem, *]; done))); (· first | ((try simp only [World.cell?_drew]); with_reducible exact two_1 (two_other (by assumption) (by simp))) | ((try simp only [World.cell?_drew]); first | (with_reducible exact two_0 (by assumption)) | (with_reducible exact two_1 (by assumption)) | (with_reducible exact two_other (two_0 (by assumption)) (by simp)) | (with_reducible exact two_other (two_1 (by assumption)) (by simp)) | (with_reducible exact two_0 (two_other (by assumption) (by simp))) | (with_reducible exact two_1 (two_other (by assumption) (by simp))) | (simp (maxDischargeDepth := 8) [go_sem, hHeld]; rfl) | (simp (maxDischargeDepth := 8) [go_sem, *]; rfl) | (simp (maxDischargeDepth := 8) [go_sem, *]; done))); refine ⟨ret_rr ?_, by go_grown⟩; (exact hp.out.symm))
theorem turn_range (lo hi : Int) (p : Int × Int × Int × Int × Int) (hp : Hid (p = (0, 0, 0, 0, 4))) (w : World) (h : (-9223372036854775808 ≤ lo ∧ lo ≤ 9223372036854775807) ∧ (-9223372036854775808 ≤ hi ∧ hi ≤ 9223372036854775807)) (hc : chk lo hi = 0) (hw : withinS lo hi (-4294967296) 4294967296 = false) :
    Calls Tryd.prog 24 #[.agg #[.int .i64 lo, .int .i64 hi]] w fun e w' => e = .returned (.tuple #[.agg #[.int .i64 p.1, .int .i64 p.2.1], .agg #[.int .i64 p.2.2.1, .int .i64 p.2.2.2.1], .int .i64 p.2.2.2.2]) ∧ Below w.heap.size w w' := by
  have k1 := hid (fun W => check_any lo hi W h)
  rw [hc] at k1
  have k2 := hid (fun W => within_any lo hi (-4294967296) 4294967296 W (by omega))
  rw [hw] at k2
  clear hc h hw
  go_enter Tryd.func24, Tryd.ntmps24
  go_wp2_with fail
  refine useF w (k1.out _) (by go_grown) ?_; rintro e w1 rfl hB1 hk1 hf1 hs1
  replace f10 : w1.frozen? ⟨w.heap.size + 1, 0, none⟩ = false := hf1 _ _ (.int .i64 0) (by simp [go_sem]) (by simp [go_sem])
  replace f11 : w1.frozen? ⟨w.heap.size + 1, 1, none⟩ = false := hf1 _ _ (.int .i64 0) (by simp [go_sem]) (by simp [go_sem])
  replace f20 : w1.frozen? ⟨w.heap.size + 1 + 1, 0, none⟩ = false := hf1 _ _ (.int .i64 0) (by simp [go_sem]) (by simp [go_sem])
  replace f21 : w1.frozen? ⟨w.heap.size + 1 + 1, 1, none⟩ = false := hf1 _ _ (.int .i64 0) (by simp [go_sem]) (by simp [go_sem])
  replace p00 : w1.cell? ⟨w.heap.size, 0, none⟩ = some (.int .i64 lo) := hk1 _ _ _ (by simp [go_sem])
  replace p01 : w1.cell? ⟨w.heap.size, 1, none⟩ = some (.int .i64 hi) := hk1 _ _ _ (by simp [go_sem])
  replace p10 : w1.cell? ⟨w.heap.size + 1, 0, none⟩ = some (.int .i64 0) := hk1 _ _ _ (by simp [go_sem])
  replace p11 : w1.cell? ⟨w.heap.size + 1, 1, none⟩ = some (.int .i64 0) := hk1 _ _ _ (by simp [go_sem])
  replace p20 : w1.cell? ⟨w.heap.size + 1 + 1, 0, none⟩ = some (.int .i64 0) := hk1 _ _ _ (by simp [go_sem])
  replace p21 : w1.cell? ⟨w.heap.size + 1 + 1, 1, none⟩ = some (.int .i64 0) := hk1 _ _ _ (by simp [go_sem])
  have bp00 : w.heap.size < w1.heap.size := World.block_lt_of_cell? w1 ⟨w.heap.size, 0, none⟩ p00
  have bp10 : w.heap.size + 1 < w1.heap.size := World.block_lt_of_cell? w1 ⟨w.heap.size + 1, 0, none⟩ p10
  have bp20 : w.heap.size + 1 + 1 < w1.heap.size := World.block_lt_of_cell? w1 ⟨w.heap.size + 1 + 1, 0, none⟩ p20
  clear hk1 hf1
  go_wp2_with fail
  refine useF w (k2.out _) (by go_grown) ?_; rintro e w2 rfl hB2 hk2 hf2 hs2
  replace f10 : w2.frozen? ⟨w.heap.size + 1, 0, none⟩ = false := hf2 _ _ _ (p10) (f10)
  replace f11 : w2.frozen? ⟨w.heap.size + 1, 1, none⟩ = false := hf2 _ _ _ (p11) (f11)
  replace f20 : w2.frozen? ⟨w.heap.size + 1 + 1, 0, none⟩ = false := hf2 _ _ _ (p20) (f20)
  replace f21 : w2.frozen? ⟨w.heap.size + 1 + 1, 1, none⟩ = false := hf2 _ _ _ (p21) (f21)
  replace p00 : w2.cell? ⟨w.heap.size, 0, none⟩ = some (.int .i64 lo) := hk2 _ _ _ (p00)
  replace p01 : w2.cell? ⟨w.heap.size, 1, none⟩ = some (.int .i64 hi) := hk2 _ _ _ (p01)
  replace p10 : w2.cell? ⟨w.heap.size + 1, 0, none⟩ = some (.int .i64 0) := hk2 _ _ _ (p10)
  replace p11 : w2.cell? ⟨w.heap.size + 1, 1, none⟩ = some (.int .i64 0) := hk2 _ _ _ (p11)
  replace p20 : w2.cell? ⟨w.heap.size + 1 + 1, 0, none⟩ = some (.int .i64 0) := hk2 _ _ _ (p20)
  replace p21 : w2.cell? ⟨w.heap.size + 1 + 1, 1, none⟩ = some (.int .i64 0) := hk2 _ _ _ (p21)
  have bp00 : w.heap.size < w2.heap.size := World.block_lt_of_cell? w2 ⟨w.heap.size, 0, none⟩ p00
  have bp10 : w.heap.size + 1 < w2.heap.size := World.block_lt_of_cell? w2 ⟨w.heap.size + 1, 0, none⟩ p10
  have bp20 : w.heap.size + 1 + 1 < w2.heap.size := World.block_lt_of_cell? w2 ⟨w.heap.size + 1 + 1, 0, none⟩ p20
  clear hk2 hf2
  go_wp2_with fail
  all_goals (refine' bodyPost_ret (res_st_st_t rfl isA_S isS_S isA_S isS_S rfl rfl ?_ ?_ ?_ ?_) rfl ?_; rotate_left 4; (· first | ((try simp only [World.cell?_drew]); with_reducible exact two_other (two_0 (by assumption)) (by simp)) | ((try simp only [World.cell?_drew]); first | (with_reducible exact two_0 (by assumption)) | (with_reducible exact two_1 (by assumption)) | (with_reducible exact two_other (two_0 (by assumption)) (by simp)) | (with_reducible exact two_other (two_1 (by assumption)) (by simp)) | (with_reducible exact two_0 (two_other (by assumption) (by simp))) | (with_reducible exact two_1 (two_other (by assumption) (by simp))) | (simp (maxDischargeDepth := 8) [go_sem, hHeld]; rfl) | (simp (maxDischargeDepth := 8) [go_sem, *]; rfl) | (simp (maxDischargeDepth := 8) [go_sem, *]; done))); (· first | ((try simp only [World.cell?_drew]); with_reducible exact two_other (two_1 (by assumption)) (by simp)) | ((try simp only [World.cell?_drew]); first | (with_reducible exact two_0 (by assumption)) | (with_reducible exact two_1 (by assumption)) | (with_reducible exact two_other (two_0 (by assumption)) (by simp)) | (with_reducible exact two_other (two_1 (by assumption)) (by simp)) | (with_reducible exact two_0 (two_other (by assumption) (by simp))) | (with_reducible exact two_1 (two_other (by assumption) (by simp))) | (simp (maxDischargeDepth := 8) [go_sem, hHeld]; rfl) | (simp (maxDischargeDepth := 8) [go_sem, *]; rfl) | (simp (maxDischargeDepth := 8) [go_sem, *]; done))); (· first | ((try simp only [World.cell?_drew]); with_reducible exact two_0 (two_other (by assumption) (by simp))) | ((try simp only [World.cell?_drew]); first | (with_reducible exact two_0 (by assumption)) | (with_reducible exact two_1 (by assumption)) | (with_reducible exact two_other (two_0 (by assumption)) (by simp)) | (with_reducible exact two_other (two_1 (by assumption)) (by simp)) | (with_reducible exact two_0 (two_other (by assumption) (by simp))) | (with_reducible exact two_1 (two_other (by assumption) (by simp))) | (simp (maxDischargeDepth := 8) [go_sem, hHeld]; rfl) | (simp (maxDischargeDepth := 8) [go_sem, *]; rfl) | (simp (maxDischargeDepth := 8) [go_sem, *]; done))); (· first | ((try simp only [World.cell?_drew]); with_reducible exact two_1 (two_other (by assumption) (by simp))) | ((try simp only [World.cell?_drew]); first | (with_reducible exact two_0 (by assumption)) | (with_reducible exact two_1 (by assumption)) | (with_reducible exact two_other (two_0 (by assumption)) (by simp)) | (with_reducible exact two_other (two_1 (by assumption)) (by simp)) | (with_reducible exact two_0 (two_other (by assumption) (by simp))) | (with_reducible exact two_1 (two_other (by assumption) (by simp))) | (simp (maxDischargeDepth := 8) [go_sem, hHeld]; rfl) | (simp (maxDischargeDepth := 8) [go_sem, *]; rfl) | (simp (maxDischargeDepth := 8) [go_sem, *]; done))); refine ⟨ret_rr ?_, by go_grown⟩; (exact hp.out.symm))
theorem abs_bd {lo hi : Int} (hc : chk lo hi = 0) (h : -4294967296 ≤ lo ∧ lo ≤ hi ∧ hi ≤ 4294967296) : (absS lo hi).2.2 = 0 ∧ 0 ≤ (absS lo hi).1 ∧ (absS lo hi).1 ≤ (absS lo hi).2.1 ∧ (absS lo hi).2.1 ≤ 4294967296 := by
  unfold absS
  rw [if_pos hc]
  split
  · exact ⟨rfl, by dsimp only; omega, by dsimp only; omega, by dsimp only; omega⟩
  · split
    · exact ⟨rfl, by dsimp only; omega, by dsimp only; omega, by dsimp only; omega⟩
    · exact ⟨rfl, by dsimp only; omega, by dsimp only; omega, by dsimp only; omega⟩
theorem turn_any (lo hi : Int) (w : World) (h : (-9223372036854775808 ≤ lo ∧ lo ≤ 9223372036854775807) ∧ (-9223372036854775808 ≤ hi ∧ hi ≤ 9223372036854775807)) :
    Calls Tryd.prog 24 #[.agg #[.int .i64 lo, .int .i64 hi]] w fun e w' => e = .returned (.tuple #[.agg #[.int .i64 ((turnS lo hi).1), .int .i64 ((turnS lo hi).2.1)], .agg #[.int .i64 ((turnS lo hi).2.2.1), .int .i64 ((turnS lo hi).2.2.2.1)], .int .i64 ((turnS lo hi).2.2.2.2)]) ∧ Below w.heap.size w w' := by
  rcases chk_cases lo hi with ⟨e, k1, k2⟩ | ⟨e, k1⟩
  · by_cases c : -4294967296 ≤ lo ∧ hi ≤ 4294967296
    · have hp : turnS lo hi = _ := (if_pos e).trans (if_pos c)
      obtain ⟨a0, a1, a2, a3⟩ := abs_bd e ⟨c.1, k2, c.2⟩
      have hwi : withinS lo hi (-4294967296) 4294967296 = true := decide_eq_true ⟨by unfold bothS; rw [if_pos e]; exact if_neg (by omega), c.1, c.2⟩
      have ha := fun W => abs_any lo hi W h
      rw [a0] at ha
      exact turn_go lo hi (absS lo hi).1 (absS lo hi).2.1 _ _ _ _ _ _ _ _ _ hp w (fun W => by have := check_any lo hi W h; rw [e] at this; exact this) (fun W => by have := within_any lo hi (-4294967296) 4294967296 W (by omega); rw [hwi] at this; exact this) ha
        (fun W => cosine_any _ W (by omega)) (fun W => cosine_any _ W (by omega)) (fun W => sine_any lo W (by omega)) (fun W => sine_any hi W (by omega))
    · have hp : turnS lo hi = _ := (if_pos e).trans (if_neg c)
      refine turn_range lo hi _ hp w h e (decide_eq_false fun hh => c ⟨hh.2.1, hh.2.2⟩)
  · have hp : turnS lo hi = _ := if_neg (by omega)
    exact turn_bad lo hi _ hp w h e
end Go.Proofs.YtjleflfncijnpaaDoor
