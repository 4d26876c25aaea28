/- Turn, of the document's answer: the whole. -/
import Derived.Deep.DeepCutAuto
import Derived.Test.YtjleflfncijnpaaRows
import Derived.Test.YtjleflfncijnpaaBase
import Derived.Test.YtjleflfncijnpaaFacts
import Derived.Test.YtjleflfncijnpaaTwo
import Derived.Deep.RegionHeld3
import Derived.Deep.RegionWith
import Derived.Deep.QuietTactic
import Derived.BigQuiet
import Derived.Test.YtjleflfncijnpaaW
import Derived.Test.YtjleflfncijnpaaAsks
import Derived.Test.YtjleflfncijnpaaOut
import Derived.Test.YtjleflfncijnpaaSeq
import Derived.Test.YtjleflfncijnpaaTwo
import Derived.Test.YtjleflfncijnpaaOne
import Derived.Test.YtjleflfncijnpaaQuo
import Derived.Test.YtjleflfncijnpaaTimes
import Derived.Test.YtjleflfncijnpaaScaleM
import Derived.Test.YtjleflfncijnpaaQuoL
import Derived.Test.YtjleflfncijnpaaTurnM
import Derived.Test.YtjleflfncijnpaaShare
import Derived.Test.YtjleflfncijnpaaTurn
import Derived.Test.YtjleflfncijnpaaTurnT
import Derived.Test.YtjleflfncijnpaaTurnR
import Derived.Test.YtjleflfncijnpaaPicks
import Derived.Test.YtjleflfncijnpaaSets
set_option linter.unusedVariables false
set_option linter.unusedSimpArgs false
set_option maxHeartbeats 4000000
set_option maxRecDepth 100000
namespace Go.Proofs.Ytjleflfncijnpaa
open Go Go.RowKit
theorem turned_any (t : Int) (w : World) (h : -4294967296 ≤ t ∧ t ≤ 4294967296) :
    Calls Try.prog 107 #[.int .i64 t] w fun e w' => e = .returned (.tuple #[.agg #[.int .i64 (hiW (cosQ t / oneQ t)), .int .u64 (loW (cosQ t / oneQ t))], .agg #[.int .i64 (hiW (cdQ (cosQ t) (oneQ t))), .int .u64 (loW (cdQ (cosQ t) (oneQ t)))], .agg #[.int .i64 (hiW (sinQ t / oneQ t)), .int .u64 (loW (sinQ t / oneQ t))], .agg #[.int .i64 (hiW (cdQ (sinQ t) (oneQ t))), .int .u64 (loW (cdQ (sinQ t) (oneQ t)))] ]) ∧ Below w.heap.size w w' := by
  obtain ⟨_, _, _, q0, q1, q2, q3⟩ := cos_bd h
  obtain ⟨_, _, _, q4, q5⟩ := sin_bd h
  refine turned_go t (t * t) 18446744073709551616 (oneQ t) (-(t * t)) (18446744073709551616 + -(t * t)) (cosQ t) (sinQ t) _ _ _ _ w (fun W => times_any t t W (by omega)) (fun W => ?_) (fun W => plus_any 18446744073709551616 (t * t) W) (fun W => minus_any (t * t) W) (fun W => plus_any 18446744073709551616 (-(t * t)) W) (fun W => ?_) (fun W => wide_any t W (by omega)) (fun W => up65_any t W)
    (fun W => rfloor_any (cosQ t) (oneQ t) W (by omega) (by omega)) (fun W => rceil_any (cosQ t) (oneQ t) W (by omega) (by omega)) (fun W => rfloor_any (sinQ t) (oneQ t) W (by omega) (by omega)) (fun W => rceil_any (sinQ t) (oneQ t) W (by omega) (by omega))
  · have := times_any 4294967296 4294967296 W (by omega)
    rw [show (4294967296 : Int) * 4294967296 = 18446744073709551616 from rfl] at this
    exact this
  · have := up32_any (18446744073709551616 + -(t * t)) W
    rw [show (18446744073709551616 + -(t * t)) * 4294967296 = cosQ t by unfold cosQ; omega] at this
    exact this
theorem rturn_go (lo hi l m a1 a2 a3 a4 b1 b2 b3 b4 d1 d2 d3 d4 g1 g2 g3 g4 : Int) (p : Int × Int × Int × Int × Int) (hp : Hid (p = (b1, a2, d3, g4, 0))) (w : World) (e1 : decide (lo < -4294967296) = false) (e2 : decide (4294967296 < hi) = false)
    (k1 : Hid (∀ w : World, Calls Try.prog 19 #[.agg #[.int .i64 lo, .int .i64 hi]] w fun e w' => e = .returned (.int .i64 0) ∧ Below w.heap.size w w'))
    (k3 : Hid (∀ w : World, Calls Try.prog 38 #[.agg #[.int .i64 lo, .int .i64 hi]] w fun e w' => e = .returned (.tuple #[.agg #[.int .i64 l, .int .i64 m], .int .i64 0]) ∧ Below w.heap.size w w'))
    (k4 : Hid (∀ w : World, Calls Try.prog 107 #[.int .i64 l] w fun e w' => e = .returned (.tuple #[.agg #[.int .i64 (hiW a1), .int .u64 (loW a1)], .agg #[.int .i64 (hiW a2), .int .u64 (loW a2)], .agg #[.int .i64 (hiW a3), .int .u64 (loW a3)], .agg #[.int .i64 (hiW a4), .int .u64 (loW a4)] ]) ∧ Below w.heap.size w w'))
    (k5 : Hid (∀ w : World, Calls Try.prog 107 #[.int .i64 m] w fun e w' => e = .returned (.tuple #[.agg #[.int .i64 (hiW b1), .int .u64 (loW b1)], .agg #[.int .i64 (hiW b2), .int .u64 (loW b2)], .agg #[.int .i64 (hiW b3), .int .u64 (loW b3)], .agg #[.int .i64 (hiW b4), .int .u64 (loW b4)] ]) ∧ Below w.heap.size w w'))
    (k6 : Hid (∀ w : World, Calls Try.prog 107 #[.int .i64 lo] w fun e w' => e = .returned (.tuple #[.agg #[.int .i64 (hiW d1), .int .u64 (loW d1)], .agg #[.int .i64 (hiW d2), .int .u64 (loW d2)], .agg #[.int .i64 (hiW d3), .int .u64 (loW d3)], .agg #[.int .i64 (hiW d4), .int .u64 (loW d4)] ]) ∧ Below w.heap.size w w'))
    (k7 : Hid (∀ w : World, Calls Try.prog 107 #[.int .i64 hi] w fun e w' => e = .returned (.tuple #[.agg #[.int .i64 (hiW g1), .int .u64 (loW g1)], .agg #[.int .i64 (hiW g2), .int .u64 (loW g2)], .agg #[.int .i64 (hiW g3), .int .u64 (loW g3)], .agg #[.int .i64 (hiW g4), .int .u64 (loW g4)] ]) ∧ Below w.heap.size w w'))
    (k8 : Hid (∀ w : World, Calls Try.prog 80 #[.agg #[.int .i64 (hiW b1), .int .u64 (loW b1)], .agg #[.int .i64 (hiW a2), .int .u64 (loW a2)]] w fun e w' => e = .returned (.tuple #[.agg #[.int .i64 b1, .int .i64 a2], .int .i64 0]) ∧ Below w.heap.size w w'))
    (k9 : Hid (∀ w : World, Calls Try.prog 80 #[.agg #[.int .i64 (hiW d3), .int .u64 (loW d3)], .agg #[.int .i64 (hiW g4), .int .u64 (loW g4)]] w fun e w' => e = .returned (.tuple #[.agg #[.int .i64 d3, .int .i64 g4], .int .i64 0]) ∧ Below w.heap.size w w')) :
    Calls Try.prog 68 #[.agg #[.int .i64 lo, .int .i64 hi]] w fun e w' => e = .returned (.tuple #[.agg #[.int .i64 p.1, .int .i64 p.2.1], .agg #[.int .i64 p.2.2.1, .int .i64 p.2.2.2.1], .int .i64 p.2.2.2.2]) ∧ Below w.heap.size w w' := by
  go_enter Try.func68, Try.ntmps68
  go_wp2_with fail
  refine useF w (k1.out _) (by go_grown) ?_; rintro e w1 rfl hB1 hk1 hf1 hs1
  replace f10 : w1.frozen? ⟨w.heap.size + 1, 0, none⟩ = false := hf1 _ _ (.int .i64 0) (by simp [go_sem]) (by simp [go_sem])
  replace f11 : w1.frozen? ⟨w.heap.size + 1, 1, none⟩ = false := hf1 _ _ (.int .i64 0) (by simp [go_sem]) (by simp [go_sem])
  replace f20 : w1.frozen? ⟨w.heap.size + 1 + 1, 0, none⟩ = false := hf1 _ _ (.int .i64 0) (by simp [go_sem]) (by simp [go_sem])
  replace f21 : w1.frozen? ⟨w.heap.size + 1 + 1, 1, none⟩ = false := hf1 _ _ (.int .i64 0) (by simp [go_sem]) (by simp [go_sem])
  replace p00 : w1.cell? ⟨w.heap.size, 0, none⟩ = some (.int .i64 lo) := hk1 _ _ _ (by simp [go_sem])
  replace p01 : w1.cell? ⟨w.heap.size, 1, none⟩ = some (.int .i64 hi) := hk1 _ _ _ (by simp [go_sem])
  replace p10 : w1.cell? ⟨w.heap.size + 1, 0, none⟩ = some (.int .i64 0) := hk1 _ _ _ (by simp [go_sem])
  replace p11 : w1.cell? ⟨w.heap.size + 1, 1, none⟩ = some (.int .i64 0) := hk1 _ _ _ (by simp [go_sem])
  replace p20 : w1.cell? ⟨w.heap.size + 1 + 1, 0, none⟩ = some (.int .i64 0) := hk1 _ _ _ (by simp [go_sem])
  replace p21 : w1.cell? ⟨w.heap.size + 1 + 1, 1, none⟩ = some (.int .i64 0) := hk1 _ _ _ (by simp [go_sem])
  have bp00 : w.heap.size < w1.heap.size := World.block_lt_of_cell? w1 ⟨w.heap.size, 0, none⟩ p00
  have bp10 : w.heap.size + 1 < w1.heap.size := World.block_lt_of_cell? w1 ⟨w.heap.size + 1, 0, none⟩ p10
  have bp20 : w.heap.size + 1 + 1 < w1.heap.size := World.block_lt_of_cell? w1 ⟨w.heap.size + 1 + 1, 0, none⟩ p20
  clear hk1 hf1
  go_wp2_with fail
  have p1f0 := f10; have p1f1 := f11; have p2f0 := f20; have p2f1 := f21
  clear f10 f11 f20 f21
  refine useF w (k3.out _) (by go_grown) ?_; rintro e w11 rfl hB11 hk11 hf11 hs11; clear hs11
  replace p00 : w11.cell? ⟨w.heap.size, 0, none⟩ = some (.int .i64 lo) := hk11 _ _ _ (p00)
  replace p01 : w11.cell? ⟨w.heap.size, 1, none⟩ = some (.int .i64 hi) := hk11 _ _ _ (p01)
  replace p1f0 : w11.frozen? ⟨w.heap.size + 1, 0, none⟩ = false := hf11 _ _ (.int .i64 0) (p10) (p1f0)
  replace p10 : w11.cell? ⟨w.heap.size + 1, 0, none⟩ = some (.int .i64 0) := hk11 _ _ _ (p10)
  replace p1f1 : w11.frozen? ⟨w.heap.size + 1, 1, none⟩ = false := hf11 _ _ (.int .i64 0) (p11) (p1f1)
  replace p11 : w11.cell? ⟨w.heap.size + 1, 1, none⟩ = some (.int .i64 0) := hk11 _ _ _ (p11)
  replace p2f0 : w11.frozen? ⟨w.heap.size + 1 + 1, 0, none⟩ = false := hf11 _ _ (.int .i64 0) (p20) (p2f0)
  replace p20 : w11.cell? ⟨w.heap.size + 1 + 1, 0, none⟩ = some (.int .i64 0) := hk11 _ _ _ (p20)
  replace p2f1 : w11.frozen? ⟨w.heap.size + 1 + 1, 1, none⟩ = false := hf11 _ _ (.int .i64 0) (p21) (p2f1)
  replace p21 : w11.cell? ⟨w.heap.size + 1 + 1, 1, none⟩ = some (.int .i64 0) := hk11 _ _ _ (p21)
  (try clear p0b); have p0b : w.heap.size < w11.heap.size := World.block_lt_of_cell? w11 ⟨w.heap.size, 0, none⟩ p00
  (try clear p1b); have p1b : w.heap.size + 1 < w11.heap.size := World.block_lt_of_cell? w11 ⟨w.heap.size + 1, 0, none⟩ p10
  (try clear p2b); have p2b : w.heap.size + 1 + 1 < w11.heap.size := World.block_lt_of_cell? w11 ⟨w.heap.size + 1 + 1, 0, none⟩ p20
  clear hk11 hf11
  go_wp2_with fail
  refine useF w (k4.out _) (by go_grown) ?_; rintro e w12 rfl hB12 hk12 hf12 hs12; clear hs12
  replace p00 : w12.cell? ⟨w.heap.size, 0, none⟩ = some (.int .i64 lo) := hk12 _ _ _ ((keepA _ p00))
  replace p01 : w12.cell? ⟨w.heap.size, 1, none⟩ = some (.int .i64 hi) := hk12 _ _ _ ((keepA _ p01))
  replace p1f0 : w12.frozen? ⟨w.heap.size + 1, 0, none⟩ = false := hf12 _ _ (.int .i64 0) ((keepA _ p10)) ((keepAF _ p10 p1f0))
  replace p10 : w12.cell? ⟨w.heap.size + 1, 0, none⟩ = some (.int .i64 0) := hk12 _ _ _ ((keepA _ p10))
  replace p1f1 : w12.frozen? ⟨w.heap.size + 1, 1, none⟩ = false := hf12 _ _ (.int .i64 0) ((keepA _ p11)) ((keepAF _ p11 p1f1))
  replace p11 : w12.cell? ⟨w.heap.size + 1, 1, none⟩ = some (.int .i64 0) := hk12 _ _ _ ((keepA _ p11))
  replace p2f0 : w12.frozen? ⟨w.heap.size + 1 + 1, 0, none⟩ = false := hf12 _ _ (.int .i64 0) ((keepA _ p20)) ((keepAF _ p20 p2f0))
  replace p20 : w12.cell? ⟨w.heap.size + 1 + 1, 0, none⟩ = some (.int .i64 0) := hk12 _ _ _ ((keepA _ p20))
  replace p2f1 : w12.frozen? ⟨w.heap.size + 1 + 1, 1, none⟩ = false := hf12 _ _ (.int .i64 0) ((keepA _ p21)) ((keepAF _ p21 p2f1))
  replace p21 : w12.cell? ⟨w.heap.size + 1 + 1, 1, none⟩ = some (.int .i64 0) := hk12 _ _ _ ((keepA _ p21))
  have z0 : w12.cell? ⟨w11.heap.size, 0, none⟩ = some (.int .i64 l) := hk12 _ _ _ ((by simp [go_sem]))
  have z1 : w12.cell? ⟨w11.heap.size, 1, none⟩ = some (.int .i64 m) := hk12 _ _ _ ((by simp [go_sem]))
  (try clear p0b); have p0b : w.heap.size < w12.heap.size := World.block_lt_of_cell? w12 ⟨w.heap.size, 0, none⟩ p00
  (try clear p1b); have p1b : w.heap.size + 1 < w12.heap.size := World.block_lt_of_cell? w12 ⟨w.heap.size + 1, 0, none⟩ p10
  (try clear p2b); have p2b : w.heap.size + 1 + 1 < w12.heap.size := World.block_lt_of_cell? w12 ⟨w.heap.size + 1 + 1, 0, none⟩ p20
  (try clear zb); have zb : w11.heap.size < w12.heap.size := World.block_lt_of_cell? w12 ⟨w11.heap.size, 0, none⟩ z0
  clear hk12 hf12
  have p0b12 := p0b
  have p1b12 := p1b
  have p2b12 := p2b
  have zb12 := zb
  have p00' : ((((w12.alloc (.cells #[.int .i64 (hiW a1), .int .u64 (loW a1)] 78)).alloc (.cells #[.int .i64 (hiW a2), .int .u64 (loW a2)] 78)).alloc (.cells #[.int .i64 (hiW a3), .int .u64 (loW a3)] 78)).alloc (.cells #[.int .i64 (hiW a4), .int .u64 (loW a4)] 78)).cell? ⟨w.heap.size, 0, none⟩ = some (.int .i64 lo) := (keepA _ (keepA _ (keepA _ (keepA _ p00))))
  have p01' : ((((w12.alloc (.cells #[.int .i64 (hiW a1), .int .u64 (loW a1)] 78)).alloc (.cells #[.int .i64 (hiW a2), .int .u64 (loW a2)] 78)).alloc (.cells #[.int .i64 (hiW a3), .int .u64 (loW a3)] 78)).alloc (.cells #[.int .i64 (hiW a4), .int .u64 (loW a4)] 78)).cell? ⟨w.heap.size, 1, none⟩ = some (.int .i64 hi) := (keepA _ (keepA _ (keepA _ (keepA _ p01))))
  have p1f0' : ((((w12.alloc (.cells #[.int .i64 (hiW a1), .int .u64 (loW a1)] 78)).alloc (.cells #[.int .i64 (hiW a2), .int .u64 (loW a2)] 78)).alloc (.cells #[.int .i64 (hiW a3), .int .u64 (loW a3)] 78)).alloc (.cells #[.int .i64 (hiW a4), .int .u64 (loW a4)] 78)).frozen? ⟨w.heap.size + 1, 0, none⟩ = false := (keepAF _ (keepA _ (keepA _ (keepA _ p10))) (keepAF _ (keepA _ (keepA _ p10)) (keepAF _ (keepA _ p10) (keepAF _ p10 p1f0))))
  have p10' : ((((w12.alloc (.cells #[.int .i64 (hiW a1), .int .u64 (loW a1)] 78)).alloc (.cells #[.int .i64 (hiW a2), .int .u64 (loW a2)] 78)).alloc (.cells #[.int .i64 (hiW a3), .int .u64 (loW a3)] 78)).alloc (.cells #[.int .i64 (hiW a4), .int .u64 (loW a4)] 78)).cell? ⟨w.heap.size + 1, 0, none⟩ = some (.int .i64 0) := (keepA _ (keepA _ (keepA _ (keepA _ p10))))
  have p1f1' : ((((w12.alloc (.cells #[.int .i64 (hiW a1), .int .u64 (loW a1)] 78)).alloc (.cells #[.int .i64 (hiW a2), .int .u64 (loW a2)] 78)).alloc (.cells #[.int .i64 (hiW a3), .int .u64 (loW a3)] 78)).alloc (.cells #[.int .i64 (hiW a4), .int .u64 (loW a4)] 78)).frozen? ⟨w.heap.size + 1, 1, none⟩ = false := (keepAF _ (keepA _ (keepA _ (keepA _ p11))) (keepAF _ (keepA _ (keepA _ p11)) (keepAF _ (keepA _ p11) (keepAF _ p11 p1f1))))
  have p11' : ((((w12.alloc (.cells #[.int .i64 (hiW a1), .int .u64 (loW a1)] 78)).alloc (.cells #[.int .i64 (hiW a2), .int .u64 (loW a2)] 78)).alloc (.cells #[.int .i64 (hiW a3), .int .u64 (loW a3)] 78)).alloc (.cells #[.int .i64 (hiW a4), .int .u64 (loW a4)] 78)).cell? ⟨w.heap.size + 1, 1, none⟩ = some (.int .i64 0) := (keepA _ (keepA _ (keepA _ (keepA _ p11))))
  have p2f0' : ((((w12.alloc (.cells #[.int .i64 (hiW a1), .int .u64 (loW a1)] 78)).alloc (.cells #[.int .i64 (hiW a2), .int .u64 (loW a2)] 78)).alloc (.cells #[.int .i64 (hiW a3), .int .u64 (loW a3)] 78)).alloc (.cells #[.int .i64 (hiW a4), .int .u64 (loW a4)] 78)).frozen? ⟨w.heap.size + 1 + 1, 0, none⟩ = false := (keepAF _ (keepA _ (keepA _ (keepA _ p20))) (keepAF _ (keepA _ (keepA _ p20)) (keepAF _ (keepA _ p20) (keepAF _ p20 p2f0))))
  have p20' : ((((w12.alloc (.cells #[.int .i64 (hiW a1), .int .u64 (loW a1)] 78)).alloc (.cells #[.int .i64 (hiW a2), .int .u64 (loW a2)] 78)).alloc (.cells #[.int .i64 (hiW a3), .int .u64 (loW a3)] 78)).alloc (.cells #[.int .i64 (hiW a4), .int .u64 (loW a4)] 78)).cell? ⟨w.heap.size + 1 + 1, 0, none⟩ = some (.int .i64 0) := (keepA _ (keepA _ (keepA _ (keepA _ p20))))
  have p2f1' : ((((w12.alloc (.cells #[.int .i64 (hiW a1), .int .u64 (loW a1)] 78)).alloc (.cells #[.int .i64 (hiW a2), .int .u64 (loW a2)] 78)).alloc (.cells #[.int .i64 (hiW a3), .int .u64 (loW a3)] 78)).alloc (.cells #[.int .i64 (hiW a4), .int .u64 (loW a4)] 78)).frozen? ⟨w.heap.size + 1 + 1, 1, none⟩ = false := (keepAF _ (keepA _ (keepA _ (keepA _ p21))) (keepAF _ (keepA _ (keepA _ p21)) (keepAF _ (keepA _ p21) (keepAF _ p21 p2f1))))
  have p21' : ((((w12.alloc (.cells #[.int .i64 (hiW a1), .int .u64 (loW a1)] 78)).alloc (.cells #[.int .i64 (hiW a2), .int .u64 (loW a2)] 78)).alloc (.cells #[.int .i64 (hiW a3), .int .u64 (loW a3)] 78)).alloc (.cells #[.int .i64 (hiW a4), .int .u64 (loW a4)] 78)).cell? ⟨w.heap.size + 1 + 1, 1, none⟩ = some (.int .i64 0) := (keepA _ (keepA _ (keepA _ (keepA _ p21))))
  have z0' : ((((w12.alloc (.cells #[.int .i64 (hiW a1), .int .u64 (loW a1)] 78)).alloc (.cells #[.int .i64 (hiW a2), .int .u64 (loW a2)] 78)).alloc (.cells #[.int .i64 (hiW a3), .int .u64 (loW a3)] 78)).alloc (.cells #[.int .i64 (hiW a4), .int .u64 (loW a4)] 78)).cell? ⟨w11.heap.size, 0, none⟩ = some (.int .i64 l) := (keepA _ (keepA _ (keepA _ (keepA _ z0))))
  have z1' : ((((w12.alloc (.cells #[.int .i64 (hiW a1), .int .u64 (loW a1)] 78)).alloc (.cells #[.int .i64 (hiW a2), .int .u64 (loW a2)] 78)).alloc (.cells #[.int .i64 (hiW a3), .int .u64 (loW a3)] 78)).alloc (.cells #[.int .i64 (hiW a4), .int .u64 (loW a4)] 78)).cell? ⟨w11.heap.size, 1, none⟩ = some (.int .i64 m) := (keepA _ (keepA _ (keepA _ (keepA _ z1))))
  have xh0 : ((((w12.alloc (.cells #[.int .i64 (hiW a1), .int .u64 (loW a1)] 78)).alloc (.cells #[.int .i64 (hiW a2), .int .u64 (loW a2)] 78)).alloc (.cells #[.int .i64 (hiW a3), .int .u64 (loW a3)] 78)).alloc (.cells #[.int .i64 (hiW a4), .int .u64 (loW a4)] 78)).cell? ⟨w12.heap.size + 1, 0, none⟩ = some (.int .i64 (hiW a2)) := (keepA _ (keepA _ (show ((w12.alloc (.cells #[.int .i64 (hiW a1), .int .u64 (loW a1)] 78)).alloc (.cells #[.int .i64 (hiW a2), .int .u64 (loW a2)] 78)).cell? ⟨w12.heap.size + 1, 0, none⟩ = some (.int .i64 (hiW a2)) by simp [go_sem])))
  have xh1 : ((((w12.alloc (.cells #[.int .i64 (hiW a1), .int .u64 (loW a1)] 78)).alloc (.cells #[.int .i64 (hiW a2), .int .u64 (loW a2)] 78)).alloc (.cells #[.int .i64 (hiW a3), .int .u64 (loW a3)] 78)).alloc (.cells #[.int .i64 (hiW a4), .int .u64 (loW a4)] 78)).cell? ⟨w12.heap.size + 1, 1, none⟩ = some (.int .u64 (loW a2)) := (keepA _ (keepA _ (show ((w12.alloc (.cells #[.int .i64 (hiW a1), .int .u64 (loW a1)] 78)).alloc (.cells #[.int .i64 (hiW a2), .int .u64 (loW a2)] 78)).cell? ⟨w12.heap.size + 1, 1, none⟩ = some (.int .u64 (loW a2)) by simp [go_sem])))
  go_wp2_with fail
  replace p00 := p00'; clear p00'
  replace p01 := p01'; clear p01'
  replace p1f0 := p1f0'; clear p1f0'
  replace p10 := p10'; clear p10'
  replace p1f1 := p1f1'; clear p1f1'
  replace p11 := p11'; clear p11'
  replace p2f0 := p2f0'; clear p2f0'
  replace p20 := p20'; clear p20'
  replace p2f1 := p2f1'; clear p2f1'
  replace p21 := p21'; clear p21'
  replace z0 := z0'; clear z0'
  replace z1 := z1'; clear z1'
  refine useF w (k5.out _) (by go_grown) ?_; rintro e w13 rfl hB13 hk13 hf13 hs13; clear hs13
  replace p00 : w13.cell? ⟨w.heap.size, 0, none⟩ = some (.int .i64 lo) := hk13 _ _ _ (p00)
  replace p01 : w13.cell? ⟨w.heap.size, 1, none⟩ = some (.int .i64 hi) := hk13 _ _ _ (p01)
  replace p1f0 : w13.frozen? ⟨w.heap.size + 1, 0, none⟩ = false := hf13 _ _ (.int .i64 0) (p10) (p1f0)
  replace p10 : w13.cell? ⟨w.heap.size + 1, 0, none⟩ = some (.int .i64 0) := hk13 _ _ _ (p10)
  replace p1f1 : w13.frozen? ⟨w.heap.size + 1, 1, none⟩ = false := hf13 _ _ (.int .i64 0) (p11) (p1f1)
  replace p11 : w13.cell? ⟨w.heap.size + 1, 1, none⟩ = some (.int .i64 0) := hk13 _ _ _ (p11)
  replace p2f0 : w13.frozen? ⟨w.heap.size + 1 + 1, 0, none⟩ = false := hf13 _ _ (.int .i64 0) (p20) (p2f0)
  replace p20 : w13.cell? ⟨w.heap.size + 1 + 1, 0, none⟩ = some (.int .i64 0) := hk13 _ _ _ (p20)
  replace p2f1 : w13.frozen? ⟨w.heap.size + 1 + 1, 1, none⟩ = false := hf13 _ _ (.int .i64 0) (p21) (p2f1)
  replace p21 : w13.cell? ⟨w.heap.size + 1 + 1, 1, none⟩ = some (.int .i64 0) := hk13 _ _ _ (p21)
  replace z0 : w13.cell? ⟨w11.heap.size, 0, none⟩ = some (.int .i64 l) := hk13 _ _ _ (z0)
  replace z1 : w13.cell? ⟨w11.heap.size, 1, none⟩ = some (.int .i64 m) := hk13 _ _ _ (z1)
  replace xh0 : w13.cell? ⟨w12.heap.size + 1, 0, none⟩ = some (.int .i64 (hiW a2)) := hk13 _ _ _ (xh0)
  replace xh1 : w13.cell? ⟨w12.heap.size + 1, 1, none⟩ = some (.int .u64 (loW a2)) := hk13 _ _ _ (xh1)
  (try clear p0b); have p0b : w.heap.size < w13.heap.size := World.block_lt_of_cell? w13 ⟨w.heap.size, 0, none⟩ p00
  (try clear p1b); have p1b : w.heap.size + 1 < w13.heap.size := World.block_lt_of_cell? w13 ⟨w.heap.size + 1, 0, none⟩ p10
  (try clear p2b); have p2b : w.heap.size + 1 + 1 < w13.heap.size := World.block_lt_of_cell? w13 ⟨w.heap.size + 1 + 1, 0, none⟩ p20
  (try clear zb); have zb : w11.heap.size < w13.heap.size := World.block_lt_of_cell? w13 ⟨w11.heap.size, 0, none⟩ z0
  (try clear xhb); have xhb : w12.heap.size + 1 < w13.heap.size := World.block_lt_of_cell? w13 ⟨w12.heap.size + 1, 0, none⟩ xh0
  clear hk13 hf13
  have p0b13 := p0b
  have p1b13 := p1b
  have p2b13 := p2b
  have zb13 := zb
  have xhb13 := xhb
  have p00' : ((((w13.alloc (.cells #[.int .i64 (hiW b1), .int .u64 (loW b1)] 78)).alloc (.cells #[.int .i64 (hiW b2), .int .u64 (loW b2)] 78)).alloc (.cells #[.int .i64 (hiW b3), .int .u64 (loW b3)] 78)).alloc (.cells #[.int .i64 (hiW b4), .int .u64 (loW b4)] 78)).cell? ⟨w.heap.size, 0, none⟩ = some (.int .i64 lo) := (keepA _ (keepA _ (keepA _ (keepA _ p00))))
  have p01' : ((((w13.alloc (.cells #[.int .i64 (hiW b1), .int .u64 (loW b1)] 78)).alloc (.cells #[.int .i64 (hiW b2), .int .u64 (loW b2)] 78)).alloc (.cells #[.int .i64 (hiW b3), .int .u64 (loW b3)] 78)).alloc (.cells #[.int .i64 (hiW b4), .int .u64 (loW b4)] 78)).cell? ⟨w.heap.size, 1, none⟩ = some (.int .i64 hi) := (keepA _ (keepA _ (keepA _ (keepA _ p01))))
  have p1f0' : ((((w13.alloc (.cells #[.int .i64 (hiW b1), .int .u64 (loW b1)] 78)).alloc (.cells #[.int .i64 (hiW b2), .int .u64 (loW b2)] 78)).alloc (.cells #[.int .i64 (hiW b3), .int .u64 (loW b3)] 78)).alloc (.cells #[.int .i64 (hiW b4), .int .u64 (loW b4)] 78)).frozen? ⟨w.heap.size + 1, 0, none⟩ = false := (keepAF _ (keepA _ (keepA _ (keepA _ p10))) (keepAF _ (keepA _ (keepA _ p10)) (keepAF _ (keepA _ p10) (keepAF _ p10 p1f0))))
  have p10' : ((((w13.alloc (.cells #[.int .i64 (hiW b1), .int .u64 (loW b1)] 78)).alloc (.cells #[.int .i64 (hiW b2), .int .u64 (loW b2)] 78)).alloc (.cells #[.int .i64 (hiW b3), .int .u64 (loW b3)] 78)).alloc (.cells #[.int .i64 (hiW b4), .int .u64 (loW b4)] 78)).cell? ⟨w.heap.size + 1, 0, none⟩ = some (.int .i64 0) := (keepA _ (keepA _ (keepA _ (keepA _ p10))))
  have p1f1' : ((((w13.alloc (.cells #[.int .i64 (hiW b1), .int .u64 (loW b1)] 78)).alloc (.cells #[.int .i64 (hiW b2), .int .u64 (loW b2)] 78)).alloc (.cells #[.int .i64 (hiW b3), .int .u64 (loW b3)] 78)).alloc (.cells #[.int .i64 (hiW b4), .int .u64 (loW b4)] 78)).frozen? ⟨w.heap.size + 1, 1, none⟩ = false := (keepAF _ (keepA _ (keepA _ (keepA _ p11))) (keepAF _ (keepA _ (keepA _ p11)) (keepAF _ (keepA _ p11) (keepAF _ p11 p1f1))))
  have p11' : ((((w13.alloc (.cells #[.int .i64 (hiW b1), .int .u64 (loW b1)] 78)).alloc (.cells #[.int .i64 (hiW b2), .int .u64 (loW b2)] 78)).alloc (.cells #[.int .i64 (hiW b3), .int .u64 (loW b3)] 78)).alloc (.cells #[.int .i64 (hiW b4), .int .u64 (loW b4)] 78)).cell? ⟨w.heap.size + 1, 1, none⟩ = some (.int .i64 0) := (keepA _ (keepA _ (keepA _ (keepA _ p11))))
  have p2f0' : ((((w13.alloc (.cells #[.int .i64 (hiW b1), .int .u64 (loW b1)] 78)).alloc (.cells #[.int .i64 (hiW b2), .int .u64 (loW b2)] 78)).alloc (.cells #[.int .i64 (hiW b3), .int .u64 (loW b3)] 78)).alloc (.cells #[.int .i64 (hiW b4), .int .u64 (loW b4)] 78)).frozen? ⟨w.heap.size + 1 + 1, 0, none⟩ = false := (keepAF _ (keepA _ (keepA _ (keepA _ p20))) (keepAF _ (keepA _ (keepA _ p20)) (keepAF _ (keepA _ p20) (keepAF _ p20 p2f0))))
  have p20' : ((((w13.alloc (.cells #[.int .i64 (hiW b1), .int .u64 (loW b1)] 78)).alloc (.cells #[.int .i64 (hiW b2), .int .u64 (loW b2)] 78)).alloc (.cells #[.int .i64 (hiW b3), .int .u64 (loW b3)] 78)).alloc (.cells #[.int .i64 (hiW b4), .int .u64 (loW b4)] 78)).cell? ⟨w.heap.size + 1 + 1, 0, none⟩ = some (.int .i64 0) := (keepA _ (keepA _ (keepA _ (keepA _ p20))))
  have p2f1' : ((((w13.alloc (.cells #[.int .i64 (hiW b1), .int .u64 (loW b1)] 78)).alloc (.cells #[.int .i64 (hiW b2), .int .u64 (loW b2)] 78)).alloc (.cells #[.int .i64 (hiW b3), .int .u64 (loW b3)] 78)).alloc (.cells #[.int .i64 (hiW b4), .int .u64 (loW b4)] 78)).frozen? ⟨w.heap.size + 1 + 1, 1, none⟩ = false := (keepAF _ (keepA _ (keepA _ (keepA _ p21))) (keepAF _ (keepA _ (keepA _ p21)) (keepAF _ (keepA _ p21) (keepAF _ p21 p2f1))))
  have p21' : ((((w13.alloc (.cells #[.int .i64 (hiW b1), .int .u64 (loW b1)] 78)).alloc (.cells #[.int .i64 (hiW b2), .int .u64 (loW b2)] 78)).alloc (.cells #[.int .i64 (hiW b3), .int .u64 (loW b3)] 78)).alloc (.cells #[.int .i64 (hiW b4), .int .u64 (loW b4)] 78)).cell? ⟨w.heap.size + 1 + 1, 1, none⟩ = some (.int .i64 0) := (keepA _ (keepA _ (keepA _ (keepA _ p21))))
  have z0' : ((((w13.alloc (.cells #[.int .i64 (hiW b1), .int .u64 (loW b1)] 78)).alloc (.cells #[.int .i64 (hiW b2), .int .u64 (loW b2)] 78)).alloc (.cells #[.int .i64 (hiW b3), .int .u64 (loW b3)] 78)).alloc (.cells #[.int .i64 (hiW b4), .int .u64 (loW b4)] 78)).cell? ⟨w11.heap.size, 0, none⟩ = some (.int .i64 l) := (keepA _ (keepA _ (keepA _ (keepA _ z0))))
  have z1' : ((((w13.alloc (.cells #[.int .i64 (hiW b1), .int .u64 (loW b1)] 78)).alloc (.cells #[.int .i64 (hiW b2), .int .u64 (loW b2)] 78)).alloc (.cells #[.int .i64 (hiW b3), .int .u64 (loW b3)] 78)).alloc (.cells #[.int .i64 (hiW b4), .int .u64 (loW b4)] 78)).cell? ⟨w11.heap.size, 1, none⟩ = some (.int .i64 m) := (keepA _ (keepA _ (keepA _ (keepA _ z1))))
  have xh0' : ((((w13.alloc (.cells #[.int .i64 (hiW b1), .int .u64 (loW b1)] 78)).alloc (.cells #[.int .i64 (hiW b2), .int .u64 (loW b2)] 78)).alloc (.cells #[.int .i64 (hiW b3), .int .u64 (loW b3)] 78)).alloc (.cells #[.int .i64 (hiW b4), .int .u64 (loW b4)] 78)).cell? ⟨w12.heap.size + 1, 0, none⟩ = some (.int .i64 (hiW a2)) := (keepA _ (keepA _ (keepA _ (keepA _ xh0))))
  have xh1' : ((((w13.alloc (.cells #[.int .i64 (hiW b1), .int .u64 (loW b1)] 78)).alloc (.cells #[.int .i64 (hiW b2), .int .u64 (loW b2)] 78)).alloc (.cells #[.int .i64 (hiW b3), .int .u64 (loW b3)] 78)).alloc (.cells #[.int .i64 (hiW b4), .int .u64 (loW b4)] 78)).cell? ⟨w12.heap.size + 1, 1, none⟩ = some (.int .u64 (loW a2)) := (keepA _ (keepA _ (keepA _ (keepA _ xh1))))
  have xl0 : ((((w13.alloc (.cells #[.int .i64 (hiW b1), .int .u64 (loW b1)] 78)).alloc (.cells #[.int .i64 (hiW b2), .int .u64 (loW b2)] 78)).alloc (.cells #[.int .i64 (hiW b3), .int .u64 (loW b3)] 78)).alloc (.cells #[.int .i64 (hiW b4), .int .u64 (loW b4)] 78)).cell? ⟨w13.heap.size, 0, none⟩ = some (.int .i64 (hiW b1)) := (keepA _ (keepA _ (keepA _ (show (w13.alloc (.cells #[.int .i64 (hiW b1), .int .u64 (loW b1)] 78)).cell? ⟨w13.heap.size, 0, none⟩ = some (.int .i64 (hiW b1)) by simp [go_sem]))))
  have xl1 : ((((w13.alloc (.cells #[.int .i64 (hiW b1), .int .u64 (loW b1)] 78)).alloc (.cells #[.int .i64 (hiW b2), .int .u64 (loW b2)] 78)).alloc (.cells #[.int .i64 (hiW b3), .int .u64 (loW b3)] 78)).alloc (.cells #[.int .i64 (hiW b4), .int .u64 (loW b4)] 78)).cell? ⟨w13.heap.size, 1, none⟩ = some (.int .u64 (loW b1)) := (keepA _ (keepA _ (keepA _ (show (w13.alloc (.cells #[.int .i64 (hiW b1), .int .u64 (loW b1)] 78)).cell? ⟨w13.heap.size, 1, none⟩ = some (.int .u64 (loW b1)) by simp [go_sem]))))
  go_wp2_with fail
  replace p00 := p00'; clear p00'
  replace p01 := p01'; clear p01'
  replace p1f0 := p1f0'; clear p1f0'
  replace p10 := p10'; clear p10'
  replace p1f1 := p1f1'; clear p1f1'
  replace p11 := p11'; clear p11'
  replace p2f0 := p2f0'; clear p2f0'
  replace p20 := p20'; clear p20'
  replace p2f1 := p2f1'; clear p2f1'
  replace p21 := p21'; clear p21'
  replace z0 := z0'; clear z0'
  replace z1 := z1'; clear z1'
  replace xh0 := xh0'; clear xh0'
  replace xh1 := xh1'; clear xh1'
  refine useF w (k6.out _) (by go_grown) ?_; rintro e w14 rfl hB14 hk14 hf14 hs14; clear hs14
  replace p00 : w14.cell? ⟨w.heap.size, 0, none⟩ = some (.int .i64 lo) := hk14 _ _ _ (p00)
  replace p01 : w14.cell? ⟨w.heap.size, 1, none⟩ = some (.int .i64 hi) := hk14 _ _ _ (p01)
  replace p1f0 : w14.frozen? ⟨w.heap.size + 1, 0, none⟩ = false := hf14 _ _ (.int .i64 0) (p10) (p1f0)
  replace p10 : w14.cell? ⟨w.heap.size + 1, 0, none⟩ = some (.int .i64 0) := hk14 _ _ _ (p10)
  replace p1f1 : w14.frozen? ⟨w.heap.size + 1, 1, none⟩ = false := hf14 _ _ (.int .i64 0) (p11) (p1f1)
  replace p11 : w14.cell? ⟨w.heap.size + 1, 1, none⟩ = some (.int .i64 0) := hk14 _ _ _ (p11)
  replace p2f0 : w14.frozen? ⟨w.heap.size + 1 + 1, 0, none⟩ = false := hf14 _ _ (.int .i64 0) (p20) (p2f0)
  replace p20 : w14.cell? ⟨w.heap.size + 1 + 1, 0, none⟩ = some (.int .i64 0) := hk14 _ _ _ (p20)
  replace p2f1 : w14.frozen? ⟨w.heap.size + 1 + 1, 1, none⟩ = false := hf14 _ _ (.int .i64 0) (p21) (p2f1)
  replace p21 : w14.cell? ⟨w.heap.size + 1 + 1, 1, none⟩ = some (.int .i64 0) := hk14 _ _ _ (p21)
  replace z0 : w14.cell? ⟨w11.heap.size, 0, none⟩ = some (.int .i64 l) := hk14 _ _ _ (z0)
  replace z1 : w14.cell? ⟨w11.heap.size, 1, none⟩ = some (.int .i64 m) := hk14 _ _ _ (z1)
  replace xh0 : w14.cell? ⟨w12.heap.size + 1, 0, none⟩ = some (.int .i64 (hiW a2)) := hk14 _ _ _ (xh0)
  replace xh1 : w14.cell? ⟨w12.heap.size + 1, 1, none⟩ = some (.int .u64 (loW a2)) := hk14 _ _ _ (xh1)
  replace xl0 : w14.cell? ⟨w13.heap.size, 0, none⟩ = some (.int .i64 (hiW b1)) := hk14 _ _ _ (xl0)
  replace xl1 : w14.cell? ⟨w13.heap.size, 1, none⟩ = some (.int .u64 (loW b1)) := hk14 _ _ _ (xl1)
  (try clear p0b); have p0b : w.heap.size < w14.heap.size := World.block_lt_of_cell? w14 ⟨w.heap.size, 0, none⟩ p00
  (try clear p1b); have p1b : w.heap.size + 1 < w14.heap.size := World.block_lt_of_cell? w14 ⟨w.heap.size + 1, 0, none⟩ p10
  (try clear p2b); have p2b : w.heap.size + 1 + 1 < w14.heap.size := World.block_lt_of_cell? w14 ⟨w.heap.size + 1 + 1, 0, none⟩ p20
  (try clear zb); have zb : w11.heap.size < w14.heap.size := World.block_lt_of_cell? w14 ⟨w11.heap.size, 0, none⟩ z0
  (try clear xhb); have xhb : w12.heap.size + 1 < w14.heap.size := World.block_lt_of_cell? w14 ⟨w12.heap.size + 1, 0, none⟩ xh0
  (try clear xlb); have xlb : w13.heap.size < w14.heap.size := World.block_lt_of_cell? w14 ⟨w13.heap.size, 0, none⟩ xl0
  clear hk14 hf14
  have p0b14 := p0b
  have p1b14 := p1b
  have p2b14 := p2b
  have zb14 := zb
  have xhb14 := xhb
  have xlb14 := xlb
  have p00' : ((((w14.alloc (.cells #[.int .i64 (hiW d1), .int .u64 (loW d1)] 78)).alloc (.cells #[.int .i64 (hiW d2), .int .u64 (loW d2)] 78)).alloc (.cells #[.int .i64 (hiW d3), .int .u64 (loW d3)] 78)).alloc (.cells #[.int .i64 (hiW d4), .int .u64 (loW d4)] 78)).cell? ⟨w.heap.size, 0, none⟩ = some (.int .i64 lo) := (keepA _ (keepA _ (keepA _ (keepA _ p00))))
  have p01' : ((((w14.alloc (.cells #[.int .i64 (hiW d1), .int .u64 (loW d1)] 78)).alloc (.cells #[.int .i64 (hiW d2), .int .u64 (loW d2)] 78)).alloc (.cells #[.int .i64 (hiW d3), .int .u64 (loW d3)] 78)).alloc (.cells #[.int .i64 (hiW d4), .int .u64 (loW d4)] 78)).cell? ⟨w.heap.size, 1, none⟩ = some (.int .i64 hi) := (keepA _ (keepA _ (keepA _ (keepA _ p01))))
  have p1f0' : ((((w14.alloc (.cells #[.int .i64 (hiW d1), .int .u64 (loW d1)] 78)).alloc (.cells #[.int .i64 (hiW d2), .int .u64 (loW d2)] 78)).alloc (.cells #[.int .i64 (hiW d3), .int .u64 (loW d3)] 78)).alloc (.cells #[.int .i64 (hiW d4), .int .u64 (loW d4)] 78)).frozen? ⟨w.heap.size + 1, 0, none⟩ = false := (keepAF _ (keepA _ (keepA _ (keepA _ p10))) (keepAF _ (keepA _ (keepA _ p10)) (keepAF _ (keepA _ p10) (keepAF _ p10 p1f0))))
  have p10' : ((((w14.alloc (.cells #[.int .i64 (hiW d1), .int .u64 (loW d1)] 78)).alloc (.cells #[.int .i64 (hiW d2), .int .u64 (loW d2)] 78)).alloc (.cells #[.int .i64 (hiW d3), .int .u64 (loW d3)] 78)).alloc (.cells #[.int .i64 (hiW d4), .int .u64 (loW d4)] 78)).cell? ⟨w.heap.size + 1, 0, none⟩ = some (.int .i64 0) := (keepA _ (keepA _ (keepA _ (keepA _ p10))))
  have p1f1' : ((((w14.alloc (.cells #[.int .i64 (hiW d1), .int .u64 (loW d1)] 78)).alloc (.cells #[.int .i64 (hiW d2), .int .u64 (loW d2)] 78)).alloc (.cells #[.int .i64 (hiW d3), .int .u64 (loW d3)] 78)).alloc (.cells #[.int .i64 (hiW d4), .int .u64 (loW d4)] 78)).frozen? ⟨w.heap.size + 1, 1, none⟩ = false := (keepAF _ (keepA _ (keepA _ (keepA _ p11))) (keepAF _ (keepA _ (keepA _ p11)) (keepAF _ (keepA _ p11) (keepAF _ p11 p1f1))))
  have p11' : ((((w14.alloc (.cells #[.int .i64 (hiW d1), .int .u64 (loW d1)] 78)).alloc (.cells #[.int .i64 (hiW d2), .int .u64 (loW d2)] 78)).alloc (.cells #[.int .i64 (hiW d3), .int .u64 (loW d3)] 78)).alloc (.cells #[.int .i64 (hiW d4), .int .u64 (loW d4)] 78)).cell? ⟨w.heap.size + 1, 1, none⟩ = some (.int .i64 0) := (keepA _ (keepA _ (keepA _ (keepA _ p11))))
  have p2f0' : ((((w14.alloc (.cells #[.int .i64 (hiW d1), .int .u64 (loW d1)] 78)).alloc (.cells #[.int .i64 (hiW d2), .int .u64 (loW d2)] 78)).alloc (.cells #[.int .i64 (hiW d3), .int .u64 (loW d3)] 78)).alloc (.cells #[.int .i64 (hiW d4), .int .u64 (loW d4)] 78)).frozen? ⟨w.heap.size + 1 + 1, 0, none⟩ = false := (keepAF _ (keepA _ (keepA _ (keepA _ p20))) (keepAF _ (keepA _ (keepA _ p20)) (keepAF _ (keepA _ p20) (keepAF _ p20 p2f0))))
  have p20' : ((((w14.alloc (.cells #[.int .i64 (hiW d1), .int .u64 (loW d1)] 78)).alloc (.cells #[.int .i64 (hiW d2), .int .u64 (loW d2)] 78)).alloc (.cells #[.int .i64 (hiW d3), .int .u64 (loW d3)] 78)).alloc (.cells #[.int .i64 (hiW d4), .int .u64 (loW d4)] 78)).cell? ⟨w.heap.size + 1 + 1, 0, none⟩ = some (.int .i64 0) := (keepA _ (keepA _ (keepA _ (keepA _ p20))))
  have p2f1' : ((((w14.alloc (.cells #[.int .i64 (hiW d1), .int .u64 (loW d1)] 78)).alloc (.cells #[.int .i64 (hiW d2), .int .u64 (loW d2)] 78)).alloc (.cells #[.int .i64 (hiW d3), .int .u64 (loW d3)] 78)).alloc (.cells #[.int .i64 (hiW d4), .int .u64 (loW d4)] 78)).frozen? ⟨w.heap.size + 1 + 1, 1, none⟩ = false := (keepAF _ (keepA _ (keepA _ (keepA _ p21))) (keepAF _ (keepA _ (keepA _ p21)) (keepAF _ (keepA _ p21) (keepAF _ p21 p2f1))))
  have p21' : ((((w14.alloc (.cells #[.int .i64 (hiW d1), .int .u64 (loW d1)] 78)).alloc (.cells #[.int .i64 (hiW d2), .int .u64 (loW d2)] 78)).alloc (.cells #[.int .i64 (hiW d3), .int .u64 (loW d3)] 78)).alloc (.cells #[.int .i64 (hiW d4), .int .u64 (loW d4)] 78)).cell? ⟨w.heap.size + 1 + 1, 1, none⟩ = some (.int .i64 0) := (keepA _ (keepA _ (keepA _ (keepA _ p21))))
  have z0' : ((((w14.alloc (.cells #[.int .i64 (hiW d1), .int .u64 (loW d1)] 78)).alloc (.cells #[.int .i64 (hiW d2), .int .u64 (loW d2)] 78)).alloc (.cells #[.int .i64 (hiW d3), .int .u64 (loW d3)] 78)).alloc (.cells #[.int .i64 (hiW d4), .int .u64 (loW d4)] 78)).cell? ⟨w11.heap.size, 0, none⟩ = some (.int .i64 l) := (keepA _ (keepA _ (keepA _ (keepA _ z0))))
  have z1' : ((((w14.alloc (.cells #[.int .i64 (hiW d1), .int .u64 (loW d1)] 78)).alloc (.cells #[.int .i64 (hiW d2), .int .u64 (loW d2)] 78)).alloc (.cells #[.int .i64 (hiW d3), .int .u64 (loW d3)] 78)).alloc (.cells #[.int .i64 (hiW d4), .int .u64 (loW d4)] 78)).cell? ⟨w11.heap.size, 1, none⟩ = some (.int .i64 m) := (keepA _ (keepA _ (keepA _ (keepA _ z1))))
  have xh0' : ((((w14.alloc (.cells #[.int .i64 (hiW d1), .int .u64 (loW d1)] 78)).alloc (.cells #[.int .i64 (hiW d2), .int .u64 (loW d2)] 78)).alloc (.cells #[.int .i64 (hiW d3), .int .u64 (loW d3)] 78)).alloc (.cells #[.int .i64 (hiW d4), .int .u64 (loW d4)] 78)).cell? ⟨w12.heap.size + 1, 0, none⟩ = some (.int .i64 (hiW a2)) := (keepA _ (keepA _ (keepA _ (keepA _ xh0))))
  have xh1' : ((((w14.alloc (.cells #[.int .i64 (hiW d1), .int .u64 (loW d1)] 78)).alloc (.cells #[.int .i64 (hiW d2), .int .u64 (loW d2)] 78)).alloc (.cells #[.int .i64 (hiW d3), .int .u64 (loW d3)] 78)).alloc (.cells #[.int .i64 (hiW d4), .int .u64 (loW d4)] 78)).cell? ⟨w12.heap.size + 1, 1, none⟩ = some (.int .u64 (loW a2)) := (keepA _ (keepA _ (keepA _ (keepA _ xh1))))
  have xl0' : ((((w14.alloc (.cells #[.int .i64 (hiW d1), .int .u64 (loW d1)] 78)).alloc (.cells #[.int .i64 (hiW d2), .int .u64 (loW d2)] 78)).alloc (.cells #[.int .i64 (hiW d3), .int .u64 (loW d3)] 78)).alloc (.cells #[.int .i64 (hiW d4), .int .u64 (loW d4)] 78)).cell? ⟨w13.heap.size, 0, none⟩ = some (.int .i64 (hiW b1)) := (keepA _ (keepA _ (keepA _ (keepA _ xl0))))
  have xl1' : ((((w14.alloc (.cells #[.int .i64 (hiW d1), .int .u64 (loW d1)] 78)).alloc (.cells #[.int .i64 (hiW d2), .int .u64 (loW d2)] 78)).alloc (.cells #[.int .i64 (hiW d3), .int .u64 (loW d3)] 78)).alloc (.cells #[.int .i64 (hiW d4), .int .u64 (loW d4)] 78)).cell? ⟨w13.heap.size, 1, none⟩ = some (.int .u64 (loW b1)) := (keepA _ (keepA _ (keepA _ (keepA _ xl1))))
  have xe0 : ((((w14.alloc (.cells #[.int .i64 (hiW d1), .int .u64 (loW d1)] 78)).alloc (.cells #[.int .i64 (hiW d2), .int .u64 (loW d2)] 78)).alloc (.cells #[.int .i64 (hiW d3), .int .u64 (loW d3)] 78)).alloc (.cells #[.int .i64 (hiW d4), .int .u64 (loW d4)] 78)).cell? ⟨w14.heap.size + 1 + 1, 0, none⟩ = some (.int .i64 (hiW d3)) := (keepA _ (show (((w14.alloc (.cells #[.int .i64 (hiW d1), .int .u64 (loW d1)] 78)).alloc (.cells #[.int .i64 (hiW d2), .int .u64 (loW d2)] 78)).alloc (.cells #[.int .i64 (hiW d3), .int .u64 (loW d3)] 78)).cell? ⟨w14.heap.size + 1 + 1, 0, none⟩ = some (.int .i64 (hiW d3)) by simp [go_sem]))
  have xe1 : ((((w14.alloc (.cells #[.int .i64 (hiW d1), .int .u64 (loW d1)] 78)).alloc (.cells #[.int .i64 (hiW d2), .int .u64 (loW d2)] 78)).alloc (.cells #[.int .i64 (hiW d3), .int .u64 (loW d3)] 78)).alloc (.cells #[.int .i64 (hiW d4), .int .u64 (loW d4)] 78)).cell? ⟨w14.heap.size + 1 + 1, 1, none⟩ = some (.int .u64 (loW d3)) := (keepA _ (show (((w14.alloc (.cells #[.int .i64 (hiW d1), .int .u64 (loW d1)] 78)).alloc (.cells #[.int .i64 (hiW d2), .int .u64 (loW d2)] 78)).alloc (.cells #[.int .i64 (hiW d3), .int .u64 (loW d3)] 78)).cell? ⟨w14.heap.size + 1 + 1, 1, none⟩ = some (.int .u64 (loW d3)) by simp [go_sem]))
  go_wp2_with fail
  replace p00 := p00'; clear p00'
  replace p01 := p01'; clear p01'
  replace p1f0 := p1f0'; clear p1f0'
  replace p10 := p10'; clear p10'
  replace p1f1 := p1f1'; clear p1f1'
  replace p11 := p11'; clear p11'
  replace p2f0 := p2f0'; clear p2f0'
  replace p20 := p20'; clear p20'
  replace p2f1 := p2f1'; clear p2f1'
  replace p21 := p21'; clear p21'
  replace z0 := z0'; clear z0'
  replace z1 := z1'; clear z1'
  replace xh0 := xh0'; clear xh0'
  replace xh1 := xh1'; clear xh1'
  replace xl0 := xl0'; clear xl0'
  replace xl1 := xl1'; clear xl1'
  refine useF w (k7.out _) (by go_grown) ?_; rintro e w15 rfl hB15 hk15 hf15 hs15; clear hs15
  replace p00 : w15.cell? ⟨w.heap.size, 0, none⟩ = some (.int .i64 lo) := hk15 _ _ _ (p00)
  replace p01 : w15.cell? ⟨w.heap.size, 1, none⟩ = some (.int .i64 hi) := hk15 _ _ _ (p01)
  replace p1f0 : w15.frozen? ⟨w.heap.size + 1, 0, none⟩ = false := hf15 _ _ (.int .i64 0) (p10) (p1f0)
  replace p10 : w15.cell? ⟨w.heap.size + 1, 0, none⟩ = some (.int .i64 0) := hk15 _ _ _ (p10)
  replace p1f1 : w15.frozen? ⟨w.heap.size + 1, 1, none⟩ = false := hf15 _ _ (.int .i64 0) (p11) (p1f1)
  replace p11 : w15.cell? ⟨w.heap.size + 1, 1, none⟩ = some (.int .i64 0) := hk15 _ _ _ (p11)
  replace p2f0 : w15.frozen? ⟨w.heap.size + 1 + 1, 0, none⟩ = false := hf15 _ _ (.int .i64 0) (p20) (p2f0)
  replace p20 : w15.cell? ⟨w.heap.size + 1 + 1, 0, none⟩ = some (.int .i64 0) := hk15 _ _ _ (p20)
  replace p2f1 : w15.frozen? ⟨w.heap.size + 1 + 1, 1, none⟩ = false := hf15 _ _ (.int .i64 0) (p21) (p2f1)
  replace p21 : w15.cell? ⟨w.heap.size + 1 + 1, 1, none⟩ = some (.int .i64 0) := hk15 _ _ _ (p21)
  replace z0 : w15.cell? ⟨w11.heap.size, 0, none⟩ = some (.int .i64 l) := hk15 _ _ _ (z0)
  replace z1 : w15.cell? ⟨w11.heap.size, 1, none⟩ = some (.int .i64 m) := hk15 _ _ _ (z1)
  replace xh0 : w15.cell? ⟨w12.heap.size + 1, 0, none⟩ = some (.int .i64 (hiW a2)) := hk15 _ _ _ (xh0)
  replace xh1 : w15.cell? ⟨w12.heap.size + 1, 1, none⟩ = some (.int .u64 (loW a2)) := hk15 _ _ _ (xh1)
  replace xl0 : w15.cell? ⟨w13.heap.size, 0, none⟩ = some (.int .i64 (hiW b1)) := hk15 _ _ _ (xl0)
  replace xl1 : w15.cell? ⟨w13.heap.size, 1, none⟩ = some (.int .u64 (loW b1)) := hk15 _ _ _ (xl1)
  replace xe0 : w15.cell? ⟨w14.heap.size + 1 + 1, 0, none⟩ = some (.int .i64 (hiW d3)) := hk15 _ _ _ (xe0)
  replace xe1 : w15.cell? ⟨w14.heap.size + 1 + 1, 1, none⟩ = some (.int .u64 (loW d3)) := hk15 _ _ _ (xe1)
  (try clear p0b); have p0b : w.heap.size < w15.heap.size := World.block_lt_of_cell? w15 ⟨w.heap.size, 0, none⟩ p00
  (try clear p1b); have p1b : w.heap.size + 1 < w15.heap.size := World.block_lt_of_cell? w15 ⟨w.heap.size + 1, 0, none⟩ p10
  (try clear p2b); have p2b : w.heap.size + 1 + 1 < w15.heap.size := World.block_lt_of_cell? w15 ⟨w.heap.size + 1 + 1, 0, none⟩ p20
  (try clear zb); have zb : w11.heap.size < w15.heap.size := World.block_lt_of_cell? w15 ⟨w11.heap.size, 0, none⟩ z0
  (try clear xhb); have xhb : w12.heap.size + 1 < w15.heap.size := World.block_lt_of_cell? w15 ⟨w12.heap.size + 1, 0, none⟩ xh0
  (try clear xlb); have xlb : w13.heap.size < w15.heap.size := World.block_lt_of_cell? w15 ⟨w13.heap.size, 0, none⟩ xl0
  (try clear xeb); have xeb : w14.heap.size + 1 + 1 < w15.heap.size := World.block_lt_of_cell? w15 ⟨w14.heap.size + 1 + 1, 0, none⟩ xe0
  clear hk15 hf15
  have p0b15 := p0b
  have p1b15 := p1b
  have p2b15 := p2b
  have zb15 := zb
  have xhb15 := xhb
  have xlb15 := xlb
  have xeb15 := xeb
  have p00' : ((((w15.alloc (.cells #[.int .i64 (hiW g1), .int .u64 (loW g1)] 78)).alloc (.cells #[.int .i64 (hiW g2), .int .u64 (loW g2)] 78)).alloc (.cells #[.int .i64 (hiW g3), .int .u64 (loW g3)] 78)).alloc (.cells #[.int .i64 (hiW g4), .int .u64 (loW g4)] 78)).cell? ⟨w.heap.size, 0, none⟩ = some (.int .i64 lo) := (keepA _ (keepA _ (keepA _ (keepA _ p00))))
  have p01' : ((((w15.alloc (.cells #[.int .i64 (hiW g1), .int .u64 (loW g1)] 78)).alloc (.cells #[.int .i64 (hiW g2), .int .u64 (loW g2)] 78)).alloc (.cells #[.int .i64 (hiW g3), .int .u64 (loW g3)] 78)).alloc (.cells #[.int .i64 (hiW g4), .int .u64 (loW g4)] 78)).cell? ⟨w.heap.size, 1, none⟩ = some (.int .i64 hi) := (keepA _ (keepA _ (keepA _ (keepA _ p01))))
  have p1f0' : ((((w15.alloc (.cells #[.int .i64 (hiW g1), .int .u64 (loW g1)] 78)).alloc (.cells #[.int .i64 (hiW g2), .int .u64 (loW g2)] 78)).alloc (.cells #[.int .i64 (hiW g3), .int .u64 (loW g3)] 78)).alloc (.cells #[.int .i64 (hiW g4), .int .u64 (loW g4)] 78)).frozen? ⟨w.heap.size + 1, 0, none⟩ = false := (keepAF _ (keepA _ (keepA _ (keepA _ p10))) (keepAF _ (keepA _ (keepA _ p10)) (keepAF _ (keepA _ p10) (keepAF _ p10 p1f0))))
  have p10' : ((((w15.alloc (.cells #[.int .i64 (hiW g1), .int .u64 (loW g1)] 78)).alloc (.cells #[.int .i64 (hiW g2), .int .u64 (loW g2)] 78)).alloc (.cells #[.int .i64 (hiW g3), .int .u64 (loW g3)] 78)).alloc (.cells #[.int .i64 (hiW g4), .int .u64 (loW g4)] 78)).cell? ⟨w.heap.size + 1, 0, none⟩ = some (.int .i64 0) := (keepA _ (keepA _ (keepA _ (keepA _ p10))))
  have p1f1' : ((((w15.alloc (.cells #[.int .i64 (hiW g1), .int .u64 (loW g1)] 78)).alloc (.cells #[.int .i64 (hiW g2), .int .u64 (loW g2)] 78)).alloc (.cells #[.int .i64 (hiW g3), .int .u64 (loW g3)] 78)).alloc (.cells #[.int .i64 (hiW g4), .int .u64 (loW g4)] 78)).frozen? ⟨w.heap.size + 1, 1, none⟩ = false := (keepAF _ (keepA _ (keepA _ (keepA _ p11))) (keepAF _ (keepA _ (keepA _ p11)) (keepAF _ (keepA _ p11) (keepAF _ p11 p1f1))))
  have p11' : ((((w15.alloc (.cells #[.int .i64 (hiW g1), .int .u64 (loW g1)] 78)).alloc (.cells #[.int .i64 (hiW g2), .int .u64 (loW g2)] 78)).alloc (.cells #[.int .i64 (hiW g3), .int .u64 (loW g3)] 78)).alloc (.cells #[.int .i64 (hiW g4), .int .u64 (loW g4)] 78)).cell? ⟨w.heap.size + 1, 1, none⟩ = some (.int .i64 0) := (keepA _ (keepA _ (keepA _ (keepA _ p11))))
  have p2f0' : ((((w15.alloc (.cells #[.int .i64 (hiW g1), .int .u64 (loW g1)] 78)).alloc (.cells #[.int .i64 (hiW g2), .int .u64 (loW g2)] 78)).alloc (.cells #[.int .i64 (hiW g3), .int .u64 (loW g3)] 78)).alloc (.cells #[.int .i64 (hiW g4), .int .u64 (loW g4)] 78)).frozen? ⟨w.heap.size + 1 + 1, 0, none⟩ = false := (keepAF _ (keepA _ (keepA _ (keepA _ p20))) (keepAF _ (keepA _ (keepA _ p20)) (keepAF _ (keepA _ p20) (keepAF _ p20 p2f0))))
  have p20' : ((((w15.alloc (.cells #[.int .i64 (hiW g1), .int .u64 (loW g1)] 78)).alloc (.cells #[.int .i64 (hiW g2), .int .u64 (loW g2)] 78)).alloc (.cells #[.int .i64 (hiW g3), .int .u64 (loW g3)] 78)).alloc (.cells #[.int .i64 (hiW g4), .int .u64 (loW g4)] 78)).cell? ⟨w.heap.size + 1 + 1, 0, none⟩ = some (.int .i64 0) := (keepA _ (keepA _ (keepA _ (keepA _ p20))))
  have p2f1' : ((((w15.alloc (.cells #[.int .i64 (hiW g1), .int .u64 (loW g1)] 78)).alloc (.cells #[.int .i64 (hiW g2), .int .u64 (loW g2)] 78)).alloc (.cells #[.int .i64 (hiW g3), .int .u64 (loW g3)] 78)).alloc (.cells #[.int .i64 (hiW g4), .int .u64 (loW g4)] 78)).frozen? ⟨w.heap.size + 1 + 1, 1, none⟩ = false := (keepAF _ (keepA _ (keepA _ (keepA _ p21))) (keepAF _ (keepA _ (keepA _ p21)) (keepAF _ (keepA _ p21) (keepAF _ p21 p2f1))))
  have p21' : ((((w15.alloc (.cells #[.int .i64 (hiW g1), .int .u64 (loW g1)] 78)).alloc (.cells #[.int .i64 (hiW g2), .int .u64 (loW g2)] 78)).alloc (.cells #[.int .i64 (hiW g3), .int .u64 (loW g3)] 78)).alloc (.cells #[.int .i64 (hiW g4), .int .u64 (loW g4)] 78)).cell? ⟨w.heap.size + 1 + 1, 1, none⟩ = some (.int .i64 0) := (keepA _ (keepA _ (keepA _ (keepA _ p21))))
  have z0' : ((((w15.alloc (.cells #[.int .i64 (hiW g1), .int .u64 (loW g1)] 78)).alloc (.cells #[.int .i64 (hiW g2), .int .u64 (loW g2)] 78)).alloc (.cells #[.int .i64 (hiW g3), .int .u64 (loW g3)] 78)).alloc (.cells #[.int .i64 (hiW g4), .int .u64 (loW g4)] 78)).cell? ⟨w11.heap.size, 0, none⟩ = some (.int .i64 l) := (keepA _ (keepA _ (keepA _ (keepA _ z0))))
  have z1' : ((((w15.alloc (.cells #[.int .i64 (hiW g1), .int .u64 (loW g1)] 78)).alloc (.cells #[.int .i64 (hiW g2), .int .u64 (loW g2)] 78)).alloc (.cells #[.int .i64 (hiW g3), .int .u64 (loW g3)] 78)).alloc (.cells #[.int .i64 (hiW g4), .int .u64 (loW g4)] 78)).cell? ⟨w11.heap.size, 1, none⟩ = some (.int .i64 m) := (keepA _ (keepA _ (keepA _ (keepA _ z1))))
  have xh0' : ((((w15.alloc (.cells #[.int .i64 (hiW g1), .int .u64 (loW g1)] 78)).alloc (.cells #[.int .i64 (hiW g2), .int .u64 (loW g2)] 78)).alloc (.cells #[.int .i64 (hiW g3), .int .u64 (loW g3)] 78)).alloc (.cells #[.int .i64 (hiW g4), .int .u64 (loW g4)] 78)).cell? ⟨w12.heap.size + 1, 0, none⟩ = some (.int .i64 (hiW a2)) := (keepA _ (keepA _ (keepA _ (keepA _ xh0))))
  have xh1' : ((((w15.alloc (.cells #[.int .i64 (hiW g1), .int .u64 (loW g1)] 78)).alloc (.cells #[.int .i64 (hiW g2), .int .u64 (loW g2)] 78)).alloc (.cells #[.int .i64 (hiW g3), .int .u64 (loW g3)] 78)).alloc (.cells #[.int .i64 (hiW g4), .int .u64 (loW g4)] 78)).cell? ⟨w12.heap.size + 1, 1, none⟩ = some (.int .u64 (loW a2)) := (keepA _ (keepA _ (keepA _ (keepA _ xh1))))
  have xl0' : ((((w15.alloc (.cells #[.int .i64 (hiW g1), .int .u64 (loW g1)] 78)).alloc (.cells #[.int .i64 (hiW g2), .int .u64 (loW g2)] 78)).alloc (.cells #[.int .i64 (hiW g3), .int .u64 (loW g3)] 78)).alloc (.cells #[.int .i64 (hiW g4), .int .u64 (loW g4)] 78)).cell? ⟨w13.heap.size, 0, none⟩ = some (.int .i64 (hiW b1)) := (keepA _ (keepA _ (keepA _ (keepA _ xl0))))
  have xl1' : ((((w15.alloc (.cells #[.int .i64 (hiW g1), .int .u64 (loW g1)] 78)).alloc (.cells #[.int .i64 (hiW g2), .int .u64 (loW g2)] 78)).alloc (.cells #[.int .i64 (hiW g3), .int .u64 (loW g3)] 78)).alloc (.cells #[.int .i64 (hiW g4), .int .u64 (loW g4)] 78)).cell? ⟨w13.heap.size, 1, none⟩ = some (.int .u64 (loW b1)) := (keepA _ (keepA _ (keepA _ (keepA _ xl1))))
  have xe0' : ((((w15.alloc (.cells #[.int .i64 (hiW g1), .int .u64 (loW g1)] 78)).alloc (.cells #[.int .i64 (hiW g2), .int .u64 (loW g2)] 78)).alloc (.cells #[.int .i64 (hiW g3), .int .u64 (loW g3)] 78)).alloc (.cells #[.int .i64 (hiW g4), .int .u64 (loW g4)] 78)).cell? ⟨w14.heap.size + 1 + 1, 0, none⟩ = some (.int .i64 (hiW d3)) := (keepA _ (keepA _ (keepA _ (keepA _ xe0))))
  have xe1' : ((((w15.alloc (.cells #[.int .i64 (hiW g1), .int .u64 (loW g1)] 78)).alloc (.cells #[.int .i64 (hiW g2), .int .u64 (loW g2)] 78)).alloc (.cells #[.int .i64 (hiW g3), .int .u64 (loW g3)] 78)).alloc (.cells #[.int .i64 (hiW g4), .int .u64 (loW g4)] 78)).cell? ⟨w14.heap.size + 1 + 1, 1, none⟩ = some (.int .u64 (loW d3)) := (keepA _ (keepA _ (keepA _ (keepA _ xe1))))
  have xr0 : ((((w15.alloc (.cells #[.int .i64 (hiW g1), .int .u64 (loW g1)] 78)).alloc (.cells #[.int .i64 (hiW g2), .int .u64 (loW g2)] 78)).alloc (.cells #[.int .i64 (hiW g3), .int .u64 (loW g3)] 78)).alloc (.cells #[.int .i64 (hiW g4), .int .u64 (loW g4)] 78)).cell? ⟨w15.heap.size + 1 + 1 + 1, 0, none⟩ = some (.int .i64 (hiW g4)) := (show ((((w15.alloc (.cells #[.int .i64 (hiW g1), .int .u64 (loW g1)] 78)).alloc (.cells #[.int .i64 (hiW g2), .int .u64 (loW g2)] 78)).alloc (.cells #[.int .i64 (hiW g3), .int .u64 (loW g3)] 78)).alloc (.cells #[.int .i64 (hiW g4), .int .u64 (loW g4)] 78)).cell? ⟨w15.heap.size + 1 + 1 + 1, 0, none⟩ = some (.int .i64 (hiW g4)) by simp [go_sem])
  have xr1 : ((((w15.alloc (.cells #[.int .i64 (hiW g1), .int .u64 (loW g1)] 78)).alloc (.cells #[.int .i64 (hiW g2), .int .u64 (loW g2)] 78)).alloc (.cells #[.int .i64 (hiW g3), .int .u64 (loW g3)] 78)).alloc (.cells #[.int .i64 (hiW g4), .int .u64 (loW g4)] 78)).cell? ⟨w15.heap.size + 1 + 1 + 1, 1, none⟩ = some (.int .u64 (loW g4)) := (show ((((w15.alloc (.cells #[.int .i64 (hiW g1), .int .u64 (loW g1)] 78)).alloc (.cells #[.int .i64 (hiW g2), .int .u64 (loW g2)] 78)).alloc (.cells #[.int .i64 (hiW g3), .int .u64 (loW g3)] 78)).alloc (.cells #[.int .i64 (hiW g4), .int .u64 (loW g4)] 78)).cell? ⟨w15.heap.size + 1 + 1 + 1, 1, none⟩ = some (.int .u64 (loW g4)) by simp [go_sem])
  go_wp2_with fail
  replace p00 := p00'; clear p00'
  replace p01 := p01'; clear p01'
  replace p1f0 := p1f0'; clear p1f0'
  replace p10 := p10'; clear p10'
  replace p1f1 := p1f1'; clear p1f1'
  replace p11 := p11'; clear p11'
  replace p2f0 := p2f0'; clear p2f0'
  replace p20 := p20'; clear p20'
  replace p2f1 := p2f1'; clear p2f1'
  replace p21 := p21'; clear p21'
  replace z0 := z0'; clear z0'
  replace z1 := z1'; clear z1'
  replace xh0 := xh0'; clear xh0'
  replace xh1 := xh1'; clear xh1'
  replace xl0 := xl0'; clear xl0'
  replace xl1 := xl1'; clear xl1'
  replace xe0 := xe0'; clear xe0'
  replace xe1 := xe1'; clear xe1'
  refine useF w (k8.out _) (by go_grown) ?_; rintro e w16 rfl hB16 hk16 hf16 hs16; clear hs16
  replace p00 : w16.cell? ⟨w.heap.size, 0, none⟩ = some (.int .i64 lo) := hk16 _ _ _ (p00)
  replace p01 : w16.cell? ⟨w.heap.size, 1, none⟩ = some (.int .i64 hi) := hk16 _ _ _ (p01)
  replace p1f0 : w16.frozen? ⟨w.heap.size + 1, 0, none⟩ = false := hf16 _ _ (.int .i64 0) (p10) (p1f0)
  replace p10 : w16.cell? ⟨w.heap.size + 1, 0, none⟩ = some (.int .i64 0) := hk16 _ _ _ (p10)
  replace p1f1 : w16.frozen? ⟨w.heap.size + 1, 1, none⟩ = false := hf16 _ _ (.int .i64 0) (p11) (p1f1)
  replace p11 : w16.cell? ⟨w.heap.size + 1, 1, none⟩ = some (.int .i64 0) := hk16 _ _ _ (p11)
  replace p2f0 : w16.frozen? ⟨w.heap.size + 1 + 1, 0, none⟩ = false := hf16 _ _ (.int .i64 0) (p20) (p2f0)
  replace p20 : w16.cell? ⟨w.heap.size + 1 + 1, 0, none⟩ = some (.int .i64 0) := hk16 _ _ _ (p20)
  replace p2f1 : w16.frozen? ⟨w.heap.size + 1 + 1, 1, none⟩ = false := hf16 _ _ (.int .i64 0) (p21) (p2f1)
  replace p21 : w16.cell? ⟨w.heap.size + 1 + 1, 1, none⟩ = some (.int .i64 0) := hk16 _ _ _ (p21)
  replace z0 : w16.cell? ⟨w11.heap.size, 0, none⟩ = some (.int .i64 l) := hk16 _ _ _ (z0)
  replace z1 : w16.cell? ⟨w11.heap.size, 1, none⟩ = some (.int .i64 m) := hk16 _ _ _ (z1)
  replace xh0 : w16.cell? ⟨w12.heap.size + 1, 0, none⟩ = some (.int .i64 (hiW a2)) := hk16 _ _ _ (xh0)
  replace xh1 : w16.cell? ⟨w12.heap.size + 1, 1, none⟩ = some (.int .u64 (loW a2)) := hk16 _ _ _ (xh1)
  replace xl0 : w16.cell? ⟨w13.heap.size, 0, none⟩ = some (.int .i64 (hiW b1)) := hk16 _ _ _ (xl0)
  replace xl1 : w16.cell? ⟨w13.heap.size, 1, none⟩ = some (.int .u64 (loW b1)) := hk16 _ _ _ (xl1)
  replace xe0 : w16.cell? ⟨w14.heap.size + 1 + 1, 0, none⟩ = some (.int .i64 (hiW d3)) := hk16 _ _ _ (xe0)
  replace xe1 : w16.cell? ⟨w14.heap.size + 1 + 1, 1, none⟩ = some (.int .u64 (loW d3)) := hk16 _ _ _ (xe1)
  replace xr0 : w16.cell? ⟨w15.heap.size + 1 + 1 + 1, 0, none⟩ = some (.int .i64 (hiW g4)) := hk16 _ _ _ (xr0)
  replace xr1 : w16.cell? ⟨w15.heap.size + 1 + 1 + 1, 1, none⟩ = some (.int .u64 (loW g4)) := hk16 _ _ _ (xr1)
  (try clear p0b); have p0b : w.heap.size < w16.heap.size := World.block_lt_of_cell? w16 ⟨w.heap.size, 0, none⟩ p00
  (try clear p1b); have p1b : w.heap.size + 1 < w16.heap.size := World.block_lt_of_cell? w16 ⟨w.heap.size + 1, 0, none⟩ p10
  (try clear p2b); have p2b : w.heap.size + 1 + 1 < w16.heap.size := World.block_lt_of_cell? w16 ⟨w.heap.size + 1 + 1, 0, none⟩ p20
  (try clear zb); have zb : w11.heap.size < w16.heap.size := World.block_lt_of_cell? w16 ⟨w11.heap.size, 0, none⟩ z0
  (try clear xhb); have xhb : w12.heap.size + 1 < w16.heap.size := World.block_lt_of_cell? w16 ⟨w12.heap.size + 1, 0, none⟩ xh0
  (try clear xlb); have xlb : w13.heap.size < w16.heap.size := World.block_lt_of_cell? w16 ⟨w13.heap.size, 0, none⟩ xl0
  (try clear xeb); have xeb : w14.heap.size + 1 + 1 < w16.heap.size := World.block_lt_of_cell? w16 ⟨w14.heap.size + 1 + 1, 0, none⟩ xe0
  (try clear xrb); have xrb : w15.heap.size + 1 + 1 + 1 < w16.heap.size := World.block_lt_of_cell? w16 ⟨w15.heap.size + 1 + 1 + 1, 0, none⟩ xr0
  clear hk16 hf16
  have p0b16 := p0b
  have p1b16 := p1b
  have p2b16 := p2b
  have zb16 := zb
  have xhb16 := xhb
  have xlb16 := xlb
  have xeb16 := xeb
  have xrb16 := xrb
  have p00' : (w16.alloc (.cells #[.int .i64 b1, .int .i64 a2] 24)).cell? ⟨w.heap.size, 0, none⟩ = some (.int .i64 lo) := (keepA _ p00)
  have p01' : (w16.alloc (.cells #[.int .i64 b1, .int .i64 a2] 24)).cell? ⟨w.heap.size, 1, none⟩ = some (.int .i64 hi) := (keepA _ p01)
  have p1f0' : (w16.alloc (.cells #[.int .i64 b1, .int .i64 a2] 24)).frozen? ⟨w.heap.size + 1, 0, none⟩ = false := (keepAF _ p10 p1f0)
  have p10' : (w16.alloc (.cells #[.int .i64 b1, .int .i64 a2] 24)).cell? ⟨w.heap.size + 1, 0, none⟩ = some (.int .i64 0) := (keepA _ p10)
  have p1f1' : (w16.alloc (.cells #[.int .i64 b1, .int .i64 a2] 24)).frozen? ⟨w.heap.size + 1, 1, none⟩ = false := (keepAF _ p11 p1f1)
  have p11' : (w16.alloc (.cells #[.int .i64 b1, .int .i64 a2] 24)).cell? ⟨w.heap.size + 1, 1, none⟩ = some (.int .i64 0) := (keepA _ p11)
  have p2f0' : (w16.alloc (.cells #[.int .i64 b1, .int .i64 a2] 24)).frozen? ⟨w.heap.size + 1 + 1, 0, none⟩ = false := (keepAF _ p20 p2f0)
  have p20' : (w16.alloc (.cells #[.int .i64 b1, .int .i64 a2] 24)).cell? ⟨w.heap.size + 1 + 1, 0, none⟩ = some (.int .i64 0) := (keepA _ p20)
  have p2f1' : (w16.alloc (.cells #[.int .i64 b1, .int .i64 a2] 24)).frozen? ⟨w.heap.size + 1 + 1, 1, none⟩ = false := (keepAF _ p21 p2f1)
  have p21' : (w16.alloc (.cells #[.int .i64 b1, .int .i64 a2] 24)).cell? ⟨w.heap.size + 1 + 1, 1, none⟩ = some (.int .i64 0) := (keepA _ p21)
  have z0' : (w16.alloc (.cells #[.int .i64 b1, .int .i64 a2] 24)).cell? ⟨w11.heap.size, 0, none⟩ = some (.int .i64 l) := (keepA _ z0)
  have z1' : (w16.alloc (.cells #[.int .i64 b1, .int .i64 a2] 24)).cell? ⟨w11.heap.size, 1, none⟩ = some (.int .i64 m) := (keepA _ z1)
  have xh0' : (w16.alloc (.cells #[.int .i64 b1, .int .i64 a2] 24)).cell? ⟨w12.heap.size + 1, 0, none⟩ = some (.int .i64 (hiW a2)) := (keepA _ xh0)
  have xh1' : (w16.alloc (.cells #[.int .i64 b1, .int .i64 a2] 24)).cell? ⟨w12.heap.size + 1, 1, none⟩ = some (.int .u64 (loW a2)) := (keepA _ xh1)
  have xl0' : (w16.alloc (.cells #[.int .i64 b1, .int .i64 a2] 24)).cell? ⟨w13.heap.size, 0, none⟩ = some (.int .i64 (hiW b1)) := (keepA _ xl0)
  have xl1' : (w16.alloc (.cells #[.int .i64 b1, .int .i64 a2] 24)).cell? ⟨w13.heap.size, 1, none⟩ = some (.int .u64 (loW b1)) := (keepA _ xl1)
  have xe0' : (w16.alloc (.cells #[.int .i64 b1, .int .i64 a2] 24)).cell? ⟨w14.heap.size + 1 + 1, 0, none⟩ = some (.int .i64 (hiW d3)) := (keepA _ xe0)
  have xe1' : (w16.alloc (.cells #[.int .i64 b1, .int .i64 a2] 24)).cell? ⟨w14.heap.size + 1 + 1, 1, none⟩ = some (.int .u64 (loW d3)) := (keepA _ xe1)
  have xr0' : (w16.alloc (.cells #[.int .i64 b1, .int .i64 a2] 24)).cell? ⟨w15.heap.size + 1 + 1 + 1, 0, none⟩ = some (.int .i64 (hiW g4)) := (keepA _ xr0)
  have xr1' : (w16.alloc (.cells #[.int .i64 b1, .int .i64 a2] 24)).cell? ⟨w15.heap.size + 1 + 1 + 1, 1, none⟩ = some (.int .u64 (loW g4)) := (keepA _ xr1)
  have xc0 : (w16.alloc (.cells #[.int .i64 b1, .int .i64 a2] 24)).cell? ⟨w16.heap.size, 0, none⟩ = some (.int .i64 b1) := (show (w16.alloc (.cells #[.int .i64 b1, .int .i64 a2] 24)).cell? ⟨w16.heap.size, 0, none⟩ = some (.int .i64 b1) by simp [go_sem])
  have xc1 : (w16.alloc (.cells #[.int .i64 b1, .int .i64 a2] 24)).cell? ⟨w16.heap.size, 1, none⟩ = some (.int .i64 a2) := (show (w16.alloc (.cells #[.int .i64 b1, .int .i64 a2] 24)).cell? ⟨w16.heap.size, 1, none⟩ = some (.int .i64 a2) by simp [go_sem])
  go_wp2_with fail
  replace p00 := p00'; clear p00'
  replace p01 := p01'; clear p01'
  replace p1f0 := p1f0'; clear p1f0'
  replace p10 := p10'; clear p10'
  replace p1f1 := p1f1'; clear p1f1'
  replace p11 := p11'; clear p11'
  replace p2f0 := p2f0'; clear p2f0'
  replace p20 := p20'; clear p20'
  replace p2f1 := p2f1'; clear p2f1'
  replace p21 := p21'; clear p21'
  replace z0 := z0'; clear z0'
  replace z1 := z1'; clear z1'
  replace xh0 := xh0'; clear xh0'
  replace xh1 := xh1'; clear xh1'
  replace xl0 := xl0'; clear xl0'
  replace xl1 := xl1'; clear xl1'
  replace xe0 := xe0'; clear xe0'
  replace xe1 := xe1'; clear xe1'
  replace xr0 := xr0'; clear xr0'
  replace xr1 := xr1'; clear xr1'
  refine useF w (k9.out _) (by go_grown) ?_; rintro e w17 rfl hB17 hk17 hf17 hs17; clear hs17
  replace p00 : w17.cell? ⟨w.heap.size, 0, none⟩ = some (.int .i64 lo) := hk17 _ _ _ (p00)
  replace p01 : w17.cell? ⟨w.heap.size, 1, none⟩ = some (.int .i64 hi) := hk17 _ _ _ (p01)
  replace p1f0 : w17.frozen? ⟨w.heap.size + 1, 0, none⟩ = false := hf17 _ _ (.int .i64 0) (p10) (p1f0)
  replace p10 : w17.cell? ⟨w.heap.size + 1, 0, none⟩ = some (.int .i64 0) := hk17 _ _ _ (p10)
  replace p1f1 : w17.frozen? ⟨w.heap.size + 1, 1, none⟩ = false := hf17 _ _ (.int .i64 0) (p11) (p1f1)
  replace p11 : w17.cell? ⟨w.heap.size + 1, 1, none⟩ = some (.int .i64 0) := hk17 _ _ _ (p11)
  replace p2f0 : w17.frozen? ⟨w.heap.size + 1 + 1, 0, none⟩ = false := hf17 _ _ (.int .i64 0) (p20) (p2f0)
  replace p20 : w17.cell? ⟨w.heap.size + 1 + 1, 0, none⟩ = some (.int .i64 0) := hk17 _ _ _ (p20)
  replace p2f1 : w17.frozen? ⟨w.heap.size + 1 + 1, 1, none⟩ = false := hf17 _ _ (.int .i64 0) (p21) (p2f1)
  replace p21 : w17.cell? ⟨w.heap.size + 1 + 1, 1, none⟩ = some (.int .i64 0) := hk17 _ _ _ (p21)
  replace z0 : w17.cell? ⟨w11.heap.size, 0, none⟩ = some (.int .i64 l) := hk17 _ _ _ (z0)
  replace z1 : w17.cell? ⟨w11.heap.size, 1, none⟩ = some (.int .i64 m) := hk17 _ _ _ (z1)
  replace xh0 : w17.cell? ⟨w12.heap.size + 1, 0, none⟩ = some (.int .i64 (hiW a2)) := hk17 _ _ _ (xh0)
  replace xh1 : w17.cell? ⟨w12.heap.size + 1, 1, none⟩ = some (.int .u64 (loW a2)) := hk17 _ _ _ (xh1)
  replace xl0 : w17.cell? ⟨w13.heap.size, 0, none⟩ = some (.int .i64 (hiW b1)) := hk17 _ _ _ (xl0)
  replace xl1 : w17.cell? ⟨w13.heap.size, 1, none⟩ = some (.int .u64 (loW b1)) := hk17 _ _ _ (xl1)
  replace xe0 : w17.cell? ⟨w14.heap.size + 1 + 1, 0, none⟩ = some (.int .i64 (hiW d3)) := hk17 _ _ _ (xe0)
  replace xe1 : w17.cell? ⟨w14.heap.size + 1 + 1, 1, none⟩ = some (.int .u64 (loW d3)) := hk17 _ _ _ (xe1)
  replace xr0 : w17.cell? ⟨w15.heap.size + 1 + 1 + 1, 0, none⟩ = some (.int .i64 (hiW g4)) := hk17 _ _ _ (xr0)
  replace xr1 : w17.cell? ⟨w15.heap.size + 1 + 1 + 1, 1, none⟩ = some (.int .u64 (loW g4)) := hk17 _ _ _ (xr1)
  replace xc0 : w17.cell? ⟨w16.heap.size, 0, none⟩ = some (.int .i64 b1) := hk17 _ _ _ (xc0)
  replace xc1 : w17.cell? ⟨w16.heap.size, 1, none⟩ = some (.int .i64 a2) := hk17 _ _ _ (xc1)
  (try clear p0b); have p0b : w.heap.size < w17.heap.size := World.block_lt_of_cell? w17 ⟨w.heap.size, 0, none⟩ p00
  (try clear p1b); have p1b : w.heap.size + 1 < w17.heap.size := World.block_lt_of_cell? w17 ⟨w.heap.size + 1, 0, none⟩ p10
  (try clear p2b); have p2b : w.heap.size + 1 + 1 < w17.heap.size := World.block_lt_of_cell? w17 ⟨w.heap.size + 1 + 1, 0, none⟩ p20
  (try clear zb); have zb : w11.heap.size < w17.heap.size := World.block_lt_of_cell? w17 ⟨w11.heap.size, 0, none⟩ z0
  (try clear xhb); have xhb : w12.heap.size + 1 < w17.heap.size := World.block_lt_of_cell? w17 ⟨w12.heap.size + 1, 0, none⟩ xh0
  (try clear xlb); have xlb : w13.heap.size < w17.heap.size := World.block_lt_of_cell? w17 ⟨w13.heap.size, 0, none⟩ xl0
  (try clear xeb); have xeb : w14.heap.size + 1 + 1 < w17.heap.size := World.block_lt_of_cell? w17 ⟨w14.heap.size + 1 + 1, 0, none⟩ xe0
  (try clear xrb); have xrb : w15.heap.size + 1 + 1 + 1 < w17.heap.size := World.block_lt_of_cell? w17 ⟨w15.heap.size + 1 + 1 + 1, 0, none⟩ xr0
  (try clear xcb); have xcb : w16.heap.size < w17.heap.size := World.block_lt_of_cell? w17 ⟨w16.heap.size, 0, none⟩ xc0
  clear hk17 hf17
  go_wp2_with fail
  obtain ⟨W5, hW5⟩ : ∃ W, W = (w17.alloc (.cells #[.int .i64 d3, .int .i64 g4] 24)) := ⟨_, rfl⟩
  rw [← hW5]
  have xs0 : W5.cell? ⟨w17.heap.size, 0, none⟩ = some (.int .i64 d3) := by rw [hW5]; simp [go_sem]
  have xs1 : W5.cell? ⟨w17.heap.size, 1, none⟩ = some (.int .i64 g4) := by rw [hW5]; simp [go_sem]
  have hBx : Below w.heap.size w W5 := by rw [hW5]; go_grown
  replace p1f0 : W5.frozen? ⟨w.heap.size + 1, 0, none⟩ = false := by rw [hW5]; exact keepAF _ p10 p1f0
  replace p1f1 : W5.frozen? ⟨w.heap.size + 1, 1, none⟩ = false := by rw [hW5]; exact keepAF _ p11 p1f1
  replace p2f0 : W5.frozen? ⟨w.heap.size + 1 + 1, 0, none⟩ = false := by rw [hW5]; exact keepAF _ p20 p2f0
  replace p2f1 : W5.frozen? ⟨w.heap.size + 1 + 1, 1, none⟩ = false := by rw [hW5]; exact keepAF _ p21 p2f1
  replace p10 : W5.cell? ⟨w.heap.size + 1, 0, none⟩ = some (.int .i64 0) := by rw [hW5]; exact keepA _ p10
  replace p11 : W5.cell? ⟨w.heap.size + 1, 1, none⟩ = some (.int .i64 0) := by rw [hW5]; exact keepA _ p11
  replace p20 : W5.cell? ⟨w.heap.size + 1 + 1, 0, none⟩ = some (.int .i64 0) := by rw [hW5]; exact keepA _ p20
  replace p21 : W5.cell? ⟨w.heap.size + 1 + 1, 1, none⟩ = some (.int .i64 0) := by rw [hW5]; exact keepA _ p21
  replace xc0 : W5.cell? ⟨w16.heap.size, 0, none⟩ = some (.int .i64 b1) := by rw [hW5]; exact keepA _ xc0
  replace xc1 : W5.cell? ⟨w16.heap.size, 1, none⟩ = some (.int .i64 a2) := by rw [hW5]; exact keepA _ xc1
  have u1 : w.heap.size + 1 < w16.heap.size := p1b16
  have u2 : w.heap.size + 1 + 1 < w16.heap.size := p2b16
  have u3 : w16.heap.size < w17.heap.size := xcb
  clear hW5 p00 p01 z0 z1 xh0 xh1 xl0 xl1 xe0 xe1 xr0 xr1
  generalize w16.heap.size = Bc at *
  generalize w17.heap.size = Bs at *
  refine wp_region_held_drew (S := (fun w' => w'.cell? ⟨Bc, 0, none⟩ = some (.int .i64 b1) ∧ w'.cell? ⟨Bc, 1, none⟩ = some (.int .i64 a2) ∧ w'.cell? ⟨Bs, 0, none⟩ = some (.int .i64 d3) ∧ w'.cell? ⟨Bs, 1, none⟩ = some (.int .i64 g4))) (by kernel_rfl) (by (try dsimp only); simp only [World.cell?_drew, World.frozen?_drew]; exact ⟨xc0, xc1, xs0, xs1⟩) (fun hHeld => ?_)
  have hBq0 : Below w.heap.size w W5.drew := by go_grown
  (try dsimp only at hHeld)
  clear xc0 xc1 xs0 xs1
  replace p10 : W5.drew.cell? ⟨w.heap.size + 1, 0, none⟩ = some (.int .i64 0) := by rw [World.cell?_drew]; exact p10
  replace p1f0 : W5.drew.frozen? ⟨w.heap.size + 1, 0, none⟩ = false := by rw [World.frozen?_drew]; exact p1f0
  replace p11 : W5.drew.cell? ⟨w.heap.size + 1, 1, none⟩ = some (.int .i64 0) := by rw [World.cell?_drew]; exact p11
  replace p1f1 : W5.drew.frozen? ⟨w.heap.size + 1, 1, none⟩ = false := by rw [World.frozen?_drew]; exact p1f1
  replace p20 : W5.drew.cell? ⟨w.heap.size + 1 + 1, 0, none⟩ = some (.int .i64 0) := by rw [World.cell?_drew]; exact p20
  replace p2f0 : W5.drew.frozen? ⟨w.heap.size + 1 + 1, 0, none⟩ = false := by rw [World.frozen?_drew]; exact p2f0
  replace p21 : W5.drew.cell? ⟨w.heap.size + 1 + 1, 1, none⟩ = some (.int .i64 0) := by rw [World.cell?_drew]; exact p21
  replace p2f1 : W5.drew.frozen? ⟨w.heap.size + 1 + 1, 1, none⟩ = false := by rw [World.frozen?_drew]; exact p2f1
  generalize W5.drew = wq0 at *
  have hzq0 : w.heap.size ≤ wq0.heap.size := hBq0.size
  (refine wpAnyH_take (i := 0) (oi := ⟨some 91, _, _, _, _, none⟩) (v := ?_) rfl (by kernel_rfl) (by kernel_rfl) (by kernel_rfl) (fun _ _ _ h => h) (Or.inl ⟨by rfl, ?_⟩) hHeld ?_; rotate_left; (· (intro w9 hSw; (try dsimp only at hSw); go_simp; (try with_reducible rfl))))
  (try simp only [Act.put, List.setIfInBounds_toArray, List.set_cons_zero, List.set_cons_succ])
  (refine wpAnyH_take (i := 1) (oi := ⟨some 92, _, _, _, _, none⟩) (v := ?_) rfl (by kernel_rfl) (by kernel_rfl) (by kernel_rfl) (fun _ _ _ h => h) (Or.inl ⟨by rfl, ?_⟩) hHeld ?_; rotate_left; (· (intro w9 hSw; (try dsimp only at hSw); go_simp; (try with_reducible rfl))))
  (try simp only [Act.put, List.setIfInBounds_toArray, List.set_cons_zero, List.set_cons_succ])
  refine wpAnyH_ready (rs := [2]) (by kernel_rfl) (by simp) ?_
  refine AllReadyH.cons (o := ⟨none, _, _, _, _, none⟩) rfl (fun K hK => ?_) (AllReadyH.nil)
  (try dsimp only at hHeld)
  have hBq1 : Below w.heap.size w ((wq0.setCell ⟨w.heap.size + 1, 0, none⟩ (.int .i64 b1)).setCell ⟨w.heap.size + 1, 1, none⟩ (.int .i64 a2)) := by go_grown
  have hOld := hHeld; clear hHeld; go_simp; refine hK.out _ _ ?_ (fun hHeld => ?_)
  · exact ⟨two_other (hOld.1) (by omega), two_other (hOld.2.1) (by omega), two_other (hOld.2.2.1) (by omega), two_other (hOld.2.2.2) (by omega)⟩
  clear hK K hOld
  (try dsimp only at hHeld)
  replace p1f0 := two_fz (b := w.heap.size + 1) (x := .int .i64 b1) (y := .int .i64 a2) p1f0
  replace p10 := two_0 (x := .int .i64 b1) (y := .int .i64 a2) p10
  replace p1f1 := two_fz (b := w.heap.size + 1) (x := .int .i64 b1) (y := .int .i64 a2) p1f1
  replace p11 := two_1 (x := .int .i64 b1) (y := .int .i64 a2) p11
  replace p2f0 := two_fz (b := w.heap.size + 1) (x := .int .i64 b1) (y := .int .i64 a2) p2f0
  replace p20 := two_other (b := w.heap.size + 1) (x := .int .i64 b1) (y := .int .i64 a2) p20 (by omega)
  replace p2f1 := two_fz (b := w.heap.size + 1) (x := .int .i64 b1) (y := .int .i64 a2) p2f1
  replace p21 := two_other (b := w.heap.size + 1) (x := .int .i64 b1) (y := .int .i64 a2) p21 (by omega)
  generalize ((wq0.setCell ⟨w.heap.size + 1, 0, none⟩ (.int .i64 b1)).setCell ⟨w.heap.size + 1, 1, none⟩ (.int .i64 a2)) = wq1 at *
  have hzq1 : w.heap.size ≤ wq1.heap.size := hBq1.size
  (try simp only [Act.put, List.setIfInBounds_toArray, List.set_cons_zero, List.set_cons_succ])
  refine wpAnyH_ready (rs := [3]) (by kernel_rfl) (by simp) ?_
  refine AllReadyH.cons (o := ⟨none, _, _, _, _, none⟩) rfl (fun K hK => ?_) (AllReadyH.nil)
  (try dsimp only at hHeld)
  have hBq2 : Below w.heap.size w ((wq1.setCell ⟨w.heap.size + 1 + 1, 0, none⟩ (.int .i64 d3)).setCell ⟨w.heap.size + 1 + 1, 1, none⟩ (.int .i64 g4)) := by go_grown
  have hOld := hHeld; clear hHeld; go_simp; refine hK.out _ _ ?_ (fun hHeld => ?_)
  · exact ⟨two_other (hOld.1) (by omega), two_other (hOld.2.1) (by omega), two_other (hOld.2.2.1) (by omega), two_other (hOld.2.2.2) (by omega)⟩
  clear hK K hOld
  (try dsimp only at hHeld)
  replace p1f0 := two_fz (b := w.heap.size + 1 + 1) (x := .int .i64 d3) (y := .int .i64 g4) p1f0
  replace p10 := two_other (b := w.heap.size + 1 + 1) (x := .int .i64 d3) (y := .int .i64 g4) p10 (by omega)
  replace p1f1 := two_fz (b := w.heap.size + 1 + 1) (x := .int .i64 d3) (y := .int .i64 g4) p1f1
  replace p11 := two_other (b := w.heap.size + 1 + 1) (x := .int .i64 d3) (y := .int .i64 g4) p11 (by omega)
  replace p2f0 := two_fz (b := w.heap.size + 1 + 1) (x := .int .i64 d3) (y := .int .i64 g4) p2f0
  replace p20 := two_0 (x := .int .i64 d3) (y := .int .i64 g4) p20
  replace p2f1 := two_fz (b := w.heap.size + 1 + 1) (x := .int .i64 d3) (y := .int .i64 g4) p2f1
  replace p21 := two_1 (x := .int .i64 d3) (y := .int .i64 g4) p21
  generalize ((wq1.setCell ⟨w.heap.size + 1 + 1, 0, none⟩ (.int .i64 d3)).setCell ⟨w.heap.size + 1 + 1, 1, none⟩ (.int .i64 g4)) = wq2 at *
  have hzq2 : w.heap.size ≤ wq2.heap.size := hBq2.size
  (try simp only [Act.put, List.setIfInBounds_toArray, List.set_cons_zero, List.set_cons_succ])
  (refine wpAnyH_take (i := 4) (oi := ⟨some 4, _, _, _, _, none⟩) (v := ?_) rfl (by kernel_rfl) (by kernel_rfl) (by kernel_rfl) (fun _ _ _ h => h) (Or.inl ⟨by rfl, ?_⟩) hHeld ?_; rotate_left; (· (intro w9 hSw; (try dsimp only at hSw); go_simp; (try with_reducible rfl))))
  (try simp only [Act.put, List.setIfInBounds_toArray, List.set_cons_zero, List.set_cons_succ])
  refine wpAnyH_done (by kernel_rfl) ?_ _
  go_wp2_with fail
  refine' bodyPost_ret (res_st_st_t rfl isA_S isS_S isA_S isS_S rfl rfl p10 p11 p20 p21) rfl ?_
  exact ⟨ret_rr hp.out.symm, by go_grown⟩
theorem rturn_bad (lo hi : Int) (p : Int × Int × Int × Int × Int) (hp : Hid (p = (0, 0, 0, 0, 2))) (w : World) (h : (-9223372036854775808 ≤ lo ∧ lo ≤ 9223372036854775807) ∧ (-9223372036854775808 ≤ hi ∧ hi ≤ 9223372036854775807)) (hc : chk lo hi = 2) :
    Calls Try.prog 68 #[.agg #[.int .i64 lo, .int .i64 hi]] w fun e w' => e = .returned (.tuple #[.agg #[.int .i64 p.1, .int .i64 p.2.1], .agg #[.int .i64 p.2.2.1, .int .i64 p.2.2.2.1], .int .i64 p.2.2.2.2]) ∧ Below w.heap.size w w' := by
  have k1 := hid (fun W => rcheck_any lo hi W h)
  rw [hc] at k1
  clear hc h
  go_enter Try.func68, Try.ntmps68
  go_wp2_with fail
  refine useF w (k1.out _) (by go_grown) ?_; rintro e w1 rfl hB1 hk1 hf1 hs1
  replace f10 : w1.frozen? ⟨w.heap.size + 1, 0, none⟩ = false := hf1 _ _ (.int .i64 0) (by simp [go_sem]) (by simp [go_sem])
  replace f11 : w1.frozen? ⟨w.heap.size + 1, 1, none⟩ = false := hf1 _ _ (.int .i64 0) (by simp [go_sem]) (by simp [go_sem])
  replace f20 : w1.frozen? ⟨w.heap.size + 1 + 1, 0, none⟩ = false := hf1 _ _ (.int .i64 0) (by simp [go_sem]) (by simp [go_sem])
  replace f21 : w1.frozen? ⟨w.heap.size + 1 + 1, 1, none⟩ = false := hf1 _ _ (.int .i64 0) (by simp [go_sem]) (by simp [go_sem])
  replace p00 : w1.cell? ⟨w.heap.size, 0, none⟩ = some (.int .i64 lo) := hk1 _ _ _ (by simp [go_sem])
  replace p01 : w1.cell? ⟨w.heap.size, 1, none⟩ = some (.int .i64 hi) := hk1 _ _ _ (by simp [go_sem])
  replace p10 : w1.cell? ⟨w.heap.size + 1, 0, none⟩ = some (.int .i64 0) := hk1 _ _ _ (by simp [go_sem])
  replace p11 : w1.cell? ⟨w.heap.size + 1, 1, none⟩ = some (.int .i64 0) := hk1 _ _ _ (by simp [go_sem])
  replace p20 : w1.cell? ⟨w.heap.size + 1 + 1, 0, none⟩ = some (.int .i64 0) := hk1 _ _ _ (by simp [go_sem])
  replace p21 : w1.cell? ⟨w.heap.size + 1 + 1, 1, none⟩ = some (.int .i64 0) := hk1 _ _ _ (by simp [go_sem])
  have bp00 : w.heap.size < w1.heap.size := World.block_lt_of_cell? w1 ⟨w.heap.size, 0, none⟩ p00
  have bp10 : w.heap.size + 1 < w1.heap.size := World.block_lt_of_cell? w1 ⟨w.heap.size + 1, 0, none⟩ p10
  have bp20 : w.heap.size + 1 + 1 < w1.heap.size := World.block_lt_of_cell? w1 ⟨w.heap.size + 1 + 1, 0, none⟩ p20
  clear hk1 hf1
  go_wp2_with fail
  all_goals (refine' bodyPost_ret (res_st_st_t rfl isA_S isS_S isA_S isS_S rfl rfl ?_ ?_ ?_ ?_) rfl ?_; rotate_left 4; (· first | ((try simp only [World.cell?_drew]); with_reducible exact two_other (two_0 (by assumption)) (by simp)) | ((try simp only [World.cell?_drew]); first | (with_reducible exact two_0 (by assumption)) | (with_reducible exact two_1 (by assumption)) | (with_reducible exact two_other (two_0 (by assumption)) (by simp)) | (with_reducible exact two_other (two_1 (by assumption)) (by simp)) | (with_reducible exact two_0 (two_other (by assumption) (by simp))) | (with_reducible exact two_1 (two_other (by assumption) (by simp))) | (simp (maxDischargeDepth := 8) [go_sem, hHeld]; rfl) | (simp (maxDischargeDepth := 8) [go_sem, *]; rfl) | (simp (maxDischargeDepth := 8) [go_sem, *]; done))); (· first | ((try simp only [World.cell?_drew]); with_reducible exact two_other (two_1 (by assumption)) (by simp)) | ((try simp only [World.cell?_drew]); first | (with_reducible exact two_0 (by assumption)) | (with_reducible exact two_1 (by assumption)) | (with_reducible exact two_other (two_0 (by assumption)) (by simp)) | (with_reducible exact two_other (two_1 (by assumption)) (by simp)) | (with_reducible exact two_0 (two_other (by assumption) (by simp))) | (with_reducible exact two_1 (two_other (by assumption) (by simp))) | (simp (maxDischargeDepth := 8) [go_sem, hHeld]; rfl) | (simp (maxDischargeDepth := 8) [go_sem, *]; rfl) | (simp (maxDischargeDepth := 8) [go_sem, *]; done))); (· first | ((try simp only [World.cell?_drew]); with_reducible exact two_0 (two_other (by assumption) (by simp))) | ((try simp only [World.cell?_drew]); first | (with_reducible exact two_0 (by assumption)) | (with_reducible exact two_1 (by assumption)) | (with_reducible exact two_other (two_0 (by assumption)) (by simp)) | (with_reducible exact two_other (two_1 (by assumption)) (by simp)) | (with_reducible exact two_0 (two_other (by assumption) (by simp))) | (with_reducible exact two_1 (two_other (by assumption) (by simp))) | (simp (maxDischargeDepth := 8) [go_sem, hHeld]; rfl) | (simp (maxDischargeDepth := 8) [go_sem, *]; rfl) | (simp (maxDischargeDepth := 8) [go_sem, *]; done))); (· first | ((try simp only [World.cell?_drew]); with_reducible exact two_1 (two_other (by assumption) (by simp))) | ((try simp only [World.cell?_drew]); first | (with_reducible exact two_0 (by assumption)) | (with_reducible exact two_1 (by assumption)) | (with_reducible exact two_other (two_0 (by assumption)) (by simp)) | (with_reducible exact two_other (two_1 (by assumption)) (by simp)) | (with_reducible exact two_0 (two_other (by assumption) (by simp))) | (with_reducible exact two_1 (two_other (by assumption) (by simp))) | (simp (maxDischargeDepth := 8) [go_sem, hHeld]; rfl) | (simp (maxDischargeDepth := 8) [go_sem, *]; rfl) | (simp (maxDischargeDepth := 8) [go_sem, *]; done))); refine ⟨ret_rr ?_, by go_grown⟩; (exact hp.out.symm))
theorem rturn_range (lo hi : Int) (p : Int × Int × Int × Int × Int) (hp : Hid (p = (0, 0, 0, 0, 4))) (w : World) (h : (-9223372036854775808 ≤ lo ∧ lo ≤ 9223372036854775807) ∧ (-9223372036854775808 ≤ hi ∧ hi ≤ 9223372036854775807)) (hc : chk lo hi = 0) (ho : lo < -4294967296 ∨ 4294967296 < hi) :
    Calls Try.prog 68 #[.agg #[.int .i64 lo, .int .i64 hi]] w fun e w' => e = .returned (.tuple #[.agg #[.int .i64 p.1, .int .i64 p.2.1], .agg #[.int .i64 p.2.2.1, .int .i64 p.2.2.2.1], .int .i64 p.2.2.2.2]) ∧ Below w.heap.size w w' := by
  have k1 := hid (fun W => rcheck_any lo hi W h)
  rw [hc] at k1
  by_cases c : lo < -4294967296
  · have cd : decide (lo < -4294967296) = true := decide_eq_true c
    clear hc h ho c
    go_enter Try.func68, Try.ntmps68
    go_wp2_with fail
    refine useF w (k1.out _) (by go_grown) ?_; rintro e w1 rfl hB1 hk1 hf1 hs1
    replace f10 : w1.frozen? ⟨w.heap.size + 1, 0, none⟩ = false := hf1 _ _ (.int .i64 0) (by simp [go_sem]) (by simp [go_sem])
    replace f11 : w1.frozen? ⟨w.heap.size + 1, 1, none⟩ = false := hf1 _ _ (.int .i64 0) (by simp [go_sem]) (by simp [go_sem])
    replace f20 : w1.frozen? ⟨w.heap.size + 1 + 1, 0, none⟩ = false := hf1 _ _ (.int .i64 0) (by simp [go_sem]) (by simp [go_sem])
    replace f21 : w1.frozen? ⟨w.heap.size + 1 + 1, 1, none⟩ = false := hf1 _ _ (.int .i64 0) (by simp [go_sem]) (by simp [go_sem])
    replace p00 : w1.cell? ⟨w.heap.size, 0, none⟩ = some (.int .i64 lo) := hk1 _ _ _ (by simp [go_sem])
    replace p01 : w1.cell? ⟨w.heap.size, 1, none⟩ = some (.int .i64 hi) := hk1 _ _ _ (by simp [go_sem])
    replace p10 : w1.cell? ⟨w.heap.size + 1, 0, none⟩ = some (.int .i64 0) := hk1 _ _ _ (by simp [go_sem])
    replace p11 : w1.cell? ⟨w.heap.size + 1, 1, none⟩ = some (.int .i64 0) := hk1 _ _ _ (by simp [go_sem])
    replace p20 : w1.cell? ⟨w.heap.size + 1 + 1, 0, none⟩ = some (.int .i64 0) := hk1 _ _ _ (by simp [go_sem])
    replace p21 : w1.cell? ⟨w.heap.size + 1 + 1, 1, none⟩ = some (.int .i64 0) := hk1 _ _ _ (by simp [go_sem])
    have bp00 : w.heap.size < w1.heap.size := World.block_lt_of_cell? w1 ⟨w.heap.size, 0, none⟩ p00
    have bp10 : w.heap.size + 1 < w1.heap.size := World.block_lt_of_cell? w1 ⟨w.heap.size + 1, 0, none⟩ p10
    have bp20 : w.heap.size + 1 + 1 < w1.heap.size := World.block_lt_of_cell? w1 ⟨w.heap.size + 1 + 1, 0, none⟩ p20
    clear hk1 hf1
    go_wp2_with fail
    all_goals (refine' bodyPost_ret (res_st_st_t rfl isA_S isS_S isA_S isS_S rfl rfl ?_ ?_ ?_ ?_) rfl ?_; rotate_left 4; (· first | ((try simp only [World.cell?_drew]); with_reducible exact two_other (two_0 (by assumption)) (by simp)) | ((try simp only [World.cell?_drew]); first | (with_reducible exact two_0 (by assumption)) | (with_reducible exact two_1 (by assumption)) | (with_reducible exact two_other (two_0 (by assumption)) (by simp)) | (with_reducible exact two_other (two_1 (by assumption)) (by simp)) | (with_reducible exact two_0 (two_other (by assumption) (by simp))) | (with_reducible exact two_1 (two_other (by assumption) (by simp))) | (simp (maxDischargeDepth := 8) [go_sem, hHeld]; rfl) | (simp (maxDischargeDepth := 8) [go_sem, *]; rfl) | (simp (maxDischargeDepth := 8) [go_sem, *]; done))); (· first | ((try simp only [World.cell?_drew]); with_reducible exact two_other (two_1 (by assumption)) (by simp)) | ((try simp only [World.cell?_drew]); first | (with_reducible exact two_0 (by assumption)) | (with_reducible exact two_1 (by assumption)) | (with_reducible exact two_other (two_0 (by assumption)) (by simp)) | (with_reducible exact two_other (two_1 (by assumption)) (by simp)) | (with_reducible exact two_0 (two_other (by assumption) (by simp))) | (with_reducible exact two_1 (two_other (by assumption) (by simp))) | (simp (maxDischargeDepth := 8) [go_sem, hHeld]; rfl) | (simp (maxDischargeDepth := 8) [go_sem, *]; rfl) | (simp (maxDischargeDepth := 8) [go_sem, *]; done))); (· first | ((try simp only [World.cell?_drew]); with_reducible exact two_0 (two_other (by assumption) (by simp))) | ((try simp only [World.cell?_drew]); first | (with_reducible exact two_0 (by assumption)) | (with_reducible exact two_1 (by assumption)) | (with_reducible exact two_other (two_0 (by assumption)) (by simp)) | (with_reducible exact two_other (two_1 (by assumption)) (by simp)) | (with_reducible exact two_0 (two_other (by assumption) (by simp))) | (with_reducible exact two_1 (two_other (by assumption) (by simp))) | (simp (maxDischargeDepth := 8) [go_sem, hHeld]; rfl) | (simp (maxDischargeDepth := 8) [go_sem, *]; rfl) | (simp (maxDischargeDepth := 8) [go_sem, *]; done))); (· first | ((try simp only [World.cell?_drew]); with_reducible exact two_1 (two_other (by assumption) (by simp))) | ((try simp only [World.cell?_drew]); first | (with_reducible exact two_0 (by assumption)) | (with_reducible exact two_1 (by assumption)) | (with_reducible exact two_other (two_0 (by assumption)) (by simp)) | (with_reducible exact two_other (two_1 (by assumption)) (by simp)) | (with_reducible exact two_0 (two_other (by assumption) (by simp))) | (with_reducible exact two_1 (two_other (by assumption) (by simp))) | (simp (maxDischargeDepth := 8) [go_sem, hHeld]; rfl) | (simp (maxDischargeDepth := 8) [go_sem, *]; rfl) | (simp (maxDischargeDepth := 8) [go_sem, *]; done))); refine ⟨ret_rr ?_, by go_grown⟩; (exact hp.out.symm))
  · have cd : decide (lo < -4294967296) = false := decide_eq_false c
    have cd2 : decide (4294967296 < hi) = true := decide_eq_true (by omega)
    clear hc h ho c
    go_enter Try.func68, Try.ntmps68
    go_wp2_with fail
    refine useF w (k1.out _) (by go_grown) ?_; rintro e w1 rfl hB1 hk1 hf1 hs1
    replace f10 : w1.frozen? ⟨w.heap.size + 1, 0, none⟩ = false := hf1 _ _ (.int .i64 0) (by simp [go_sem]) (by simp [go_sem])
    replace f11 : w1.frozen? ⟨w.heap.size + 1, 1, none⟩ = false := hf1 _ _ (.int .i64 0) (by simp [go_sem]) (by simp [go_sem])
    replace f20 : w1.frozen? ⟨w.heap.size + 1 + 1, 0, none⟩ = false := hf1 _ _ (.int .i64 0) (by simp [go_sem]) (by simp [go_sem])
    replace f21 : w1.frozen? ⟨w.heap.size + 1 + 1, 1, none⟩ = false := hf1 _ _ (.int .i64 0) (by simp [go_sem]) (by simp [go_sem])
    replace p00 : w1.cell? ⟨w.heap.size, 0, none⟩ = some (.int .i64 lo) := hk1 _ _ _ (by simp [go_sem])
    replace p01 : w1.cell? ⟨w.heap.size, 1, none⟩ = some (.int .i64 hi) := hk1 _ _ _ (by simp [go_sem])
    replace p10 : w1.cell? ⟨w.heap.size + 1, 0, none⟩ = some (.int .i64 0) := hk1 _ _ _ (by simp [go_sem])
    replace p11 : w1.cell? ⟨w.heap.size + 1, 1, none⟩ = some (.int .i64 0) := hk1 _ _ _ (by simp [go_sem])
    replace p20 : w1.cell? ⟨w.heap.size + 1 + 1, 0, none⟩ = some (.int .i64 0) := hk1 _ _ _ (by simp [go_sem])
    replace p21 : w1.cell? ⟨w.heap.size + 1 + 1, 1, none⟩ = some (.int .i64 0) := hk1 _ _ _ (by simp [go_sem])
    have bp00 : w.heap.size < w1.heap.size := World.block_lt_of_cell? w1 ⟨w.heap.size, 0, none⟩ p00
    have bp10 : w.heap.size + 1 < w1.heap.size := World.block_lt_of_cell? w1 ⟨w.heap.size + 1, 0, none⟩ p10
    have bp20 : w.heap.size + 1 + 1 < w1.heap.size := World.block_lt_of_cell? w1 ⟨w.heap.size + 1 + 1, 0, none⟩ p20
    clear hk1 hf1
    go_wp2_with fail
    all_goals (refine' bodyPost_ret (res_st_st_t rfl isA_S isS_S isA_S isS_S rfl rfl ?_ ?_ ?_ ?_) rfl ?_; rotate_left 4; (· first | ((try simp only [World.cell?_drew]); with_reducible exact two_other (two_0 (by assumption)) (by simp)) | ((try simp only [World.cell?_drew]); first | (with_reducible exact two_0 (by assumption)) | (with_reducible exact two_1 (by assumption)) | (with_reducible exact two_other (two_0 (by assumption)) (by simp)) | (with_reducible exact two_other (two_1 (by assumption)) (by simp)) | (with_reducible exact two_0 (two_other (by assumption) (by simp))) | (with_reducible exact two_1 (two_other (by assumption) (by simp))) | (simp (maxDischargeDepth := 8) [go_sem, hHeld]; rfl) | (simp (maxDischargeDepth := 8) [go_sem, *]; rfl) | (simp (maxDischargeDepth := 8) [go_sem, *]; done))); (· first | ((try simp only [World.cell?_drew]); with_reducible exact two_other (two_1 (by assumption)) (by simp)) | ((try simp only [World.cell?_drew]); first | (with_reducible exact two_0 (by assumption)) | (with_reducible exact two_1 (by assumption)) | (with_reducible exact two_other (two_0 (by assumption)) (by simp)) | (with_reducible exact two_other (two_1 (by assumption)) (by simp)) | (with_reducible exact two_0 (two_other (by assumption) (by simp))) | (with_reducible exact two_1 (two_other (by assumption) (by simp))) | (simp (maxDischargeDepth := 8) [go_sem, hHeld]; rfl) | (simp (maxDischargeDepth := 8) [go_sem, *]; rfl) | (simp (maxDischargeDepth := 8) [go_sem, *]; done))); (· first | ((try simp only [World.cell?_drew]); with_reducible exact two_0 (two_other (by assumption) (by simp))) | ((try simp only [World.cell?_drew]); first | (with_reducible exact two_0 (by assumption)) | (with_reducible exact two_1 (by assumption)) | (with_reducible exact two_other (two_0 (by assumption)) (by simp)) | (with_reducible exact two_other (two_1 (by assumption)) (by simp)) | (with_reducible exact two_0 (two_other (by assumption) (by simp))) | (with_reducible exact two_1 (two_other (by assumption) (by simp))) | (simp (maxDischargeDepth := 8) [go_sem, hHeld]; rfl) | (simp (maxDischargeDepth := 8) [go_sem, *]; rfl) | (simp (maxDischargeDepth := 8) [go_sem, *]; done))); (· first | ((try simp only [World.cell?_drew]); with_reducible exact two_1 (two_other (by assumption) (by simp))) | ((try simp only [World.cell?_drew]); first | (with_reducible exact two_0 (by assumption)) | (with_reducible exact two_1 (by assumption)) | (with_reducible exact two_other (two_0 (by assumption)) (by simp)) | (with_reducible exact two_other (two_1 (by assumption)) (by simp)) | (with_reducible exact two_0 (two_other (by assumption) (by simp))) | (with_reducible exact two_1 (two_other (by assumption) (by simp))) | (simp (maxDischargeDepth := 8) [go_sem, hHeld]; rfl) | (simp (maxDischargeDepth := 8) [go_sem, *]; rfl) | (simp (maxDischargeDepth := 8) [go_sem, *]; done))); refine ⟨ret_rr ?_, by go_grown⟩; (exact hp.out.symm))
theorem rturn_any (lo hi : Int) (w : World) (h : (-9223372036854775808 ≤ lo ∧ lo ≤ 9223372036854775807) ∧ (-9223372036854775808 ≤ hi ∧ hi ≤ 9223372036854775807)) :
    Calls Try.prog 68 #[.agg #[.int .i64 lo, .int .i64 hi]] w fun e w' => e = .returned (.tuple #[.agg #[.int .i64 ((turnS lo hi).1), .int .i64 ((turnS lo hi).2.1)], .agg #[.int .i64 ((turnS lo hi).2.2.1), .int .i64 ((turnS lo hi).2.2.2.1)], .int .i64 ((turnS lo hi).2.2.2.2)]) ∧ Below w.heap.size w w' := by
  rcases chk_cases lo hi with ⟨e, k1, k2⟩ | ⟨e, k1⟩
  · by_cases c : -4294967296 ≤ lo ∧ hi ≤ 4294967296
    · have hp : turnS lo hi = _ := (if_pos e).trans (if_pos c)
      obtain ⟨a0, a1, a2, a3⟩ := abs_bd e ⟨c.1, k2, c.2⟩
      have ha := fun W => rabs_any lo hi W h
      rw [a0] at ha
      obtain ⟨m1, m2, m3, _⟩ := cos_bd (t := (absS lo hi).1) (by omega)
      obtain ⟨n1, n2, n3, _⟩ := cos_bd (t := (absS lo hi).2.1) (by omega)
      obtain ⟨r1, r2, r3, _⟩ := sin_bd (t := lo) (by omega)
      obtain ⟨s1, s2, s3, _⟩ := sin_bd (t := hi) (by omega)
      refine rturn_go lo hi (absS lo hi).1 (absS lo hi).2.1 _ _ _ _ _ _ _ _ _ _ _ _ _ _ _ _ _ hp w (decide_eq_false (by omega)) (decide_eq_false (by omega)) (fun W => by have := rcheck_any lo hi W h; rw [e] at this; exact this) ha
        (fun W => turned_any _ W (by omega)) (fun W => turned_any _ W (by omega)) (fun W => turned_any lo W (by omega)) (fun W => turned_any hi W (by omega)) (fun W => ?_) (fun W => ?_)
      · have := out_any (cosQ (absS lo hi).2.1 / oneQ (absS lo hi).2.1) (cdQ (cosQ (absS lo hi).1) (oneQ (absS lo hi).1)) W (by omega)
        rw [fitS_good (by omega)] at this
        exact this
      · have := out_any (sinQ lo / oneQ lo) (cdQ (sinQ hi) (oneQ hi)) W (by omega)
        rw [fitS_good (by omega)] at this
        exact this
    · have hp : turnS lo hi = _ := (if_pos e).trans (if_neg c)
      exact rturn_range lo hi _ hp w h e (by omega)
  · have hp : turnS lo hi = _ := if_neg (by omega)
    exact rturn_bad lo hi _ hp w h e
end Go.Proofs.Ytjleflfncijnpaa
