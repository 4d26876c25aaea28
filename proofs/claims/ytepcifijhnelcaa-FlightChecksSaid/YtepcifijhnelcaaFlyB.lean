/- Whether arcs are valid, as the document says. -/
import Derived.WalkMore
import Derived.Test.YtepcifijhnelcaaRows
import Derived.Test.YtepcifijhnelcaaBase
import Derived.Test.YtepcifijhnelcaaFacts
import Derived.Test.YtepcifijhnelcaaTwo
import Derived.Deep.RegionHeld3
import Derived.Deep.RegionWith
import Derived.Deep.QuietTactic
import Derived.BigQuiet
import Derived.Test.YtepcifijhnelcaaSeq
import Derived.Test.YtepcifijhnelcaaW
import Derived.Test.YtepcifijhnelcaaAsks
import Derived.Test.YtepcifijhnelcaaTabM
import Derived.Test.YtepcifijhnelcaaTable
import Derived.Test.YtepcifijhnelcaaRTable
import Derived.Test.YtepcifijhnelcaaFlyF
import Derived.Test.YtepcifijhnelcaaFlyG
import Derived.Test.YtepcifijhnelcaaFlyH
import Derived.Test.YtepcifijhnelcaaFlyA
set_option linter.unusedVariables false
set_option linter.unusedSimpArgs false
set_option maxHeartbeats 4000000
set_option maxRecDepth 100000
namespace Go.Proofs.Ytepcifijhnelcaa
open Go Go.RowKit
set_option maxRecDepth 100000 in
theorem rcheckarc_go (q : Option Addr) (cap : Nat) (T S t1 t2 f1 f2 d1 d2 d3 d4 d5 d6 p1 p2 : Int) (l : List (Int × Int × Int)) (w : World) (x1 x2 x3 g1 g2 g3 tb : Bool)
    (w1c : Hid (∀ w : World, Calls Try.prog 36 #[.agg #[.int .i64 d1, .int .i64 d2], .agg #[.int .i64 (-4294967296), .int .i64 4294967296]] w fun e w' => e = .returned (.bool g1) ∧ Below w.heap.size w w'))
    (w2c : Hid (∀ w : World, Calls Try.prog 36 #[.agg #[.int .i64 d3, .int .i64 d4], .agg #[.int .i64 (-4294967296), .int .i64 4294967296]] w fun e w' => e = .returned (.bool g2) ∧ Below w.heap.size w w'))
    (w3c : Hid (∀ w : World, Calls Try.prog 36 #[.agg #[.int .i64 d5, .int .i64 d6], .agg #[.int .i64 (-4294967296), .int .i64 4294967296]] w fun e w' => e = .returned (.bool g3) ∧ Below w.heap.size w w'))
    (k1 : Hid (∀ w : World, Calls Try.prog 29 #[.agg #[.int .i64 t1, .int .i64 t2], .int .i64 0] w fun e w' => e = .returned (.bool x1) ∧ Below w.heap.size w w'))
    (k2 : Hid (∀ w : World, Calls Try.prog 29 #[.agg #[.int .i64 f1, .int .i64 f2], .int .i64 0] w fun e w' => e = .returned (.bool x2) ∧ Below w.heap.size w w'))
    (k3 : Hid (∀ w : World, Calls Try.prog 29 #[.agg #[.int .i64 p1, .int .i64 p2], .int .i64 0] w fun e w' => e = .returned (.bool x3) ∧ Below w.heap.size w w'))
    (kt : Hid (1 ≤ l.length → ∀ W : World, Below w.heap.size w W → Calls Try.prog 37 #[.slice q l.length cap] W fun e w' => e = .returned (.int .i64 (errB tb)) ∧ Below W.heap.size W w')) :
    Calls Try.prog 14 #[.agg #[.int .i64 T, .int .i64 S, .int .i64 t1, .int .i64 t2, .int .i64 f1, .int .i64 f2, .int .i64 d1, .int .i64 d2, .int .i64 d3, .int .i64 d4, .int .i64 d5, .int .i64 d6, Value.slice q l.length cap, .int .i64 p1, .int .i64 p2]] w fun e w' => e = .returned (.int .i64 (errB (decide (0 < T) && decide (0 < S) && x1 && x2 && x3 && (g1 && g2 && g3) && (decide (l.length = 0) || tb)))) ∧ Below w.heap.size w w' := by
  cases g1
  · simp only [Bool.false_and, Bool.and_false, Bool.true_and]
    go_enter Try.func14, Try.ntmps14
    go_wp2_with fail
    refine wp_loop_rounds 4 ?_; rw [rounds_succ]
    go_wp2_with fail
    refine useK w (w1c.out _) (by go_grown) ?_; rintro e w1 rfl hB1 hk1 hs1
    replace p00 : w1.cell? ⟨w.heap.size, 0, none⟩ = some (.int .i64 T) := hk1 _ _ _ (by simp [go_sem])
    replace p01 : w1.cell? ⟨w.heap.size, 1, none⟩ = some (.int .i64 S) := hk1 _ _ _ (by simp [go_sem])
    replace p02 : w1.cell? ⟨w.heap.size, 2, none⟩ = some (.int .i64 t1) := hk1 _ _ _ (by simp [go_sem])
    replace p03 : w1.cell? ⟨w.heap.size, 3, none⟩ = some (.int .i64 t2) := hk1 _ _ _ (by simp [go_sem])
    replace p04 : w1.cell? ⟨w.heap.size, 4, none⟩ = some (.int .i64 f1) := hk1 _ _ _ (by simp [go_sem])
    replace p05 : w1.cell? ⟨w.heap.size, 5, none⟩ = some (.int .i64 f2) := hk1 _ _ _ (by simp [go_sem])
    replace p06 : w1.cell? ⟨w.heap.size, 6, none⟩ = some (.int .i64 d1) := hk1 _ _ _ (by simp [go_sem])
    replace p07 : w1.cell? ⟨w.heap.size, 7, none⟩ = some (.int .i64 d2) := hk1 _ _ _ (by simp [go_sem])
    replace p08 : w1.cell? ⟨w.heap.size, 8, none⟩ = some (.int .i64 d3) := hk1 _ _ _ (by simp [go_sem])
    replace p09 : w1.cell? ⟨w.heap.size, 9, none⟩ = some (.int .i64 d4) := hk1 _ _ _ (by simp [go_sem])
    replace p010 : w1.cell? ⟨w.heap.size, 10, none⟩ = some (.int .i64 d5) := hk1 _ _ _ (by simp [go_sem])
    replace p011 : w1.cell? ⟨w.heap.size, 11, none⟩ = some (.int .i64 d6) := hk1 _ _ _ (by simp [go_sem])
    replace p012 : w1.cell? ⟨w.heap.size, 12, none⟩ = some (Value.slice q l.length cap) := hk1 _ _ _ (by simp [go_sem])
    replace p013 : w1.cell? ⟨w.heap.size, 13, none⟩ = some (.int .i64 p1) := hk1 _ _ _ (by simp [go_sem])
    replace p014 : w1.cell? ⟨w.heap.size, 14, none⟩ = some (.int .i64 p2) := hk1 _ _ _ (by simp [go_sem])
    have bp00 : w.heap.size < w1.heap.size := World.block_lt_of_cell? w1 ⟨w.heap.size, 0, none⟩ p00
    clear hk1
    go_wp2_with fail
    have bp00 := World.block_lt_of_cell? _ _ p00
    dsimp only at bp00
    go_ret
    exact ⟨ret_int (by rfl), by go_grown⟩
  cases g2
  · simp only [Bool.false_and, Bool.and_false, Bool.true_and]
    go_enter Try.func14, Try.ntmps14
    go_wp2_with fail
    refine wp_loop_rounds 4 ?_; rw [rounds_succ]
    go_wp2_with fail
    refine useK w (w1c.out _) (by go_grown) ?_; rintro e w1 rfl hB1 hk1 hs1
    replace p00 : w1.cell? ⟨w.heap.size, 0, none⟩ = some (.int .i64 T) := hk1 _ _ _ (by simp [go_sem])
    replace p01 : w1.cell? ⟨w.heap.size, 1, none⟩ = some (.int .i64 S) := hk1 _ _ _ (by simp [go_sem])
    replace p02 : w1.cell? ⟨w.heap.size, 2, none⟩ = some (.int .i64 t1) := hk1 _ _ _ (by simp [go_sem])
    replace p03 : w1.cell? ⟨w.heap.size, 3, none⟩ = some (.int .i64 t2) := hk1 _ _ _ (by simp [go_sem])
    replace p04 : w1.cell? ⟨w.heap.size, 4, none⟩ = some (.int .i64 f1) := hk1 _ _ _ (by simp [go_sem])
    replace p05 : w1.cell? ⟨w.heap.size, 5, none⟩ = some (.int .i64 f2) := hk1 _ _ _ (by simp [go_sem])
    replace p06 : w1.cell? ⟨w.heap.size, 6, none⟩ = some (.int .i64 d1) := hk1 _ _ _ (by simp [go_sem])
    replace p07 : w1.cell? ⟨w.heap.size, 7, none⟩ = some (.int .i64 d2) := hk1 _ _ _ (by simp [go_sem])
    replace p08 : w1.cell? ⟨w.heap.size, 8, none⟩ = some (.int .i64 d3) := hk1 _ _ _ (by simp [go_sem])
    replace p09 : w1.cell? ⟨w.heap.size, 9, none⟩ = some (.int .i64 d4) := hk1 _ _ _ (by simp [go_sem])
    replace p010 : w1.cell? ⟨w.heap.size, 10, none⟩ = some (.int .i64 d5) := hk1 _ _ _ (by simp [go_sem])
    replace p011 : w1.cell? ⟨w.heap.size, 11, none⟩ = some (.int .i64 d6) := hk1 _ _ _ (by simp [go_sem])
    replace p012 : w1.cell? ⟨w.heap.size, 12, none⟩ = some (Value.slice q l.length cap) := hk1 _ _ _ (by simp [go_sem])
    replace p013 : w1.cell? ⟨w.heap.size, 13, none⟩ = some (.int .i64 p1) := hk1 _ _ _ (by simp [go_sem])
    replace p014 : w1.cell? ⟨w.heap.size, 14, none⟩ = some (.int .i64 p2) := hk1 _ _ _ (by simp [go_sem])
    have bp00 : w.heap.size < w1.heap.size := World.block_lt_of_cell? w1 ⟨w.heap.size, 0, none⟩ p00
    clear hk1
    go_wp2_with fail
    have bp00 := World.block_lt_of_cell? _ _ p00
    dsimp only at bp00
    rw [rounds_succ]
    go_wp2_with fail
    refine useK w (w2c.out _) (by go_grown) ?_; rintro e w2 rfl hB2 hk2 hs2
    replace p00 := hk2 _ _ _ p00; replace p01 := hk2 _ _ _ p01; replace p02 := hk2 _ _ _ p02; replace p03 := hk2 _ _ _ p03; replace p04 := hk2 _ _ _ p04; replace p05 := hk2 _ _ _ p05; replace p06 := hk2 _ _ _ p06; replace p07 := hk2 _ _ _ p07; replace p08 := hk2 _ _ _ p08; replace p09 := hk2 _ _ _ p09; replace p010 := hk2 _ _ _ p010; replace p011 := hk2 _ _ _ p011; replace p012 := hk2 _ _ _ p012; replace p013 := hk2 _ _ _ p013; replace p014 := hk2 _ _ _ p014
    clear hk2 bp00
    have bp00 := World.block_lt_of_cell? _ _ p00
    dsimp only at bp00
    go_wp2_with fail
    go_ret
    exact ⟨ret_int (by rfl), by go_grown⟩
  cases g3
  · simp only [Bool.false_and, Bool.and_false, Bool.true_and]
    go_enter Try.func14, Try.ntmps14
    go_wp2_with fail
    refine wp_loop_rounds 4 ?_; rw [rounds_succ]
    go_wp2_with fail
    refine useK w (w1c.out _) (by go_grown) ?_; rintro e w1 rfl hB1 hk1 hs1
    replace p00 : w1.cell? ⟨w.heap.size, 0, none⟩ = some (.int .i64 T) := hk1 _ _ _ (by simp [go_sem])
    replace p01 : w1.cell? ⟨w.heap.size, 1, none⟩ = some (.int .i64 S) := hk1 _ _ _ (by simp [go_sem])
    replace p02 : w1.cell? ⟨w.heap.size, 2, none⟩ = some (.int .i64 t1) := hk1 _ _ _ (by simp [go_sem])
    replace p03 : w1.cell? ⟨w.heap.size, 3, none⟩ = some (.int .i64 t2) := hk1 _ _ _ (by simp [go_sem])
    replace p04 : w1.cell? ⟨w.heap.size, 4, none⟩ = some (.int .i64 f1) := hk1 _ _ _ (by simp [go_sem])
    replace p05 : w1.cell? ⟨w.heap.size, 5, none⟩ = some (.int .i64 f2) := hk1 _ _ _ (by simp [go_sem])
    replace p06 : w1.cell? ⟨w.heap.size, 6, none⟩ = some (.int .i64 d1) := hk1 _ _ _ (by simp [go_sem])
    replace p07 : w1.cell? ⟨w.heap.size, 7, none⟩ = some (.int .i64 d2) := hk1 _ _ _ (by simp [go_sem])
    replace p08 : w1.cell? ⟨w.heap.size, 8, none⟩ = some (.int .i64 d3) := hk1 _ _ _ (by simp [go_sem])
    replace p09 : w1.cell? ⟨w.heap.size, 9, none⟩ = some (.int .i64 d4) := hk1 _ _ _ (by simp [go_sem])
    replace p010 : w1.cell? ⟨w.heap.size, 10, none⟩ = some (.int .i64 d5) := hk1 _ _ _ (by simp [go_sem])
    replace p011 : w1.cell? ⟨w.heap.size, 11, none⟩ = some (.int .i64 d6) := hk1 _ _ _ (by simp [go_sem])
    replace p012 : w1.cell? ⟨w.heap.size, 12, none⟩ = some (Value.slice q l.length cap) := hk1 _ _ _ (by simp [go_sem])
    replace p013 : w1.cell? ⟨w.heap.size, 13, none⟩ = some (.int .i64 p1) := hk1 _ _ _ (by simp [go_sem])
    replace p014 : w1.cell? ⟨w.heap.size, 14, none⟩ = some (.int .i64 p2) := hk1 _ _ _ (by simp [go_sem])
    have bp00 : w.heap.size < w1.heap.size := World.block_lt_of_cell? w1 ⟨w.heap.size, 0, none⟩ p00
    clear hk1
    go_wp2_with fail
    have bp00 := World.block_lt_of_cell? _ _ p00
    dsimp only at bp00
    rw [rounds_succ]
    go_wp2_with fail
    refine useK w (w2c.out _) (by go_grown) ?_; rintro e w2 rfl hB2 hk2 hs2
    replace p00 := hk2 _ _ _ p00; replace p01 := hk2 _ _ _ p01; replace p02 := hk2 _ _ _ p02; replace p03 := hk2 _ _ _ p03; replace p04 := hk2 _ _ _ p04; replace p05 := hk2 _ _ _ p05; replace p06 := hk2 _ _ _ p06; replace p07 := hk2 _ _ _ p07; replace p08 := hk2 _ _ _ p08; replace p09 := hk2 _ _ _ p09; replace p010 := hk2 _ _ _ p010; replace p011 := hk2 _ _ _ p011; replace p012 := hk2 _ _ _ p012; replace p013 := hk2 _ _ _ p013; replace p014 := hk2 _ _ _ p014
    clear hk2 bp00
    have bp00 := World.block_lt_of_cell? _ _ p00
    dsimp only at bp00
    go_wp2_with fail
    rw [rounds_succ]
    go_wp2_with fail
    refine useK w (w3c.out _) (by go_grown) ?_; rintro e w3 rfl hB3 hk3 hs3
    replace p00 := hk3 _ _ _ p00; replace p01 := hk3 _ _ _ p01; replace p02 := hk3 _ _ _ p02; replace p03 := hk3 _ _ _ p03; replace p04 := hk3 _ _ _ p04; replace p05 := hk3 _ _ _ p05; replace p06 := hk3 _ _ _ p06; replace p07 := hk3 _ _ _ p07; replace p08 := hk3 _ _ _ p08; replace p09 := hk3 _ _ _ p09; replace p010 := hk3 _ _ _ p010; replace p011 := hk3 _ _ _ p011; replace p012 := hk3 _ _ _ p012; replace p013 := hk3 _ _ _ p013; replace p014 := hk3 _ _ _ p014
    clear hk3 bp00
    have bp00 := World.block_lt_of_cell? _ _ p00
    dsimp only at bp00
    go_wp2_with fail
    go_ret
    exact ⟨ret_int (by rfl), by go_grown⟩
  simp only [Bool.true_and, Bool.and_true]
  rcases (by omega : l.length = 0 ∨ 1 ≤ l.length) with g4 | g4
  · have z1 : ((l.length : Int) == 0) = true := by rw [beq_iff_eq]; omega
    rw [decide_eq_true g4, Bool.true_or, Bool.and_true]
    clear g4
    rcases (by omega : T ≤ 0 ∨ (0 < T ∧ S ≤ 0) ∨ (0 < T ∧ 0 < S)) with e1 | ⟨e1, e2⟩ | ⟨e1, e2⟩
    · rw [decide_eq_false (show ¬ 0 < T by omega)]; simp only [Bool.false_and]
      have := 0
      cases x1
      · (try simp only [Bool.false_and, Bool.and_false])
        go_enter Try.func14, Try.ntmps14
        go_wp2_with fail
        refine wp_loop_rounds 4 ?_; rw [rounds_succ]
        go_wp2_with fail
        refine useK w (w1c.out _) (by go_grown) ?_; rintro e w1 rfl hB1 hk1 hs1
        replace p00 : w1.cell? ⟨w.heap.size, 0, none⟩ = some (.int .i64 T) := hk1 _ _ _ (by simp [go_sem])
        replace p01 : w1.cell? ⟨w.heap.size, 1, none⟩ = some (.int .i64 S) := hk1 _ _ _ (by simp [go_sem])
        replace p02 : w1.cell? ⟨w.heap.size, 2, none⟩ = some (.int .i64 t1) := hk1 _ _ _ (by simp [go_sem])
        replace p03 : w1.cell? ⟨w.heap.size, 3, none⟩ = some (.int .i64 t2) := hk1 _ _ _ (by simp [go_sem])
        replace p04 : w1.cell? ⟨w.heap.size, 4, none⟩ = some (.int .i64 f1) := hk1 _ _ _ (by simp [go_sem])
        replace p05 : w1.cell? ⟨w.heap.size, 5, none⟩ = some (.int .i64 f2) := hk1 _ _ _ (by simp [go_sem])
        replace p06 : w1.cell? ⟨w.heap.size, 6, none⟩ = some (.int .i64 d1) := hk1 _ _ _ (by simp [go_sem])
        replace p07 : w1.cell? ⟨w.heap.size, 7, none⟩ = some (.int .i64 d2) := hk1 _ _ _ (by simp [go_sem])
        replace p08 : w1.cell? ⟨w.heap.size, 8, none⟩ = some (.int .i64 d3) := hk1 _ _ _ (by simp [go_sem])
        replace p09 : w1.cell? ⟨w.heap.size, 9, none⟩ = some (.int .i64 d4) := hk1 _ _ _ (by simp [go_sem])
        replace p010 : w1.cell? ⟨w.heap.size, 10, none⟩ = some (.int .i64 d5) := hk1 _ _ _ (by simp [go_sem])
        replace p011 : w1.cell? ⟨w.heap.size, 11, none⟩ = some (.int .i64 d6) := hk1 _ _ _ (by simp [go_sem])
        replace p012 : w1.cell? ⟨w.heap.size, 12, none⟩ = some (Value.slice q l.length cap) := hk1 _ _ _ (by simp [go_sem])
        replace p013 : w1.cell? ⟨w.heap.size, 13, none⟩ = some (.int .i64 p1) := hk1 _ _ _ (by simp [go_sem])
        replace p014 : w1.cell? ⟨w.heap.size, 14, none⟩ = some (.int .i64 p2) := hk1 _ _ _ (by simp [go_sem])
        have bp00 : w.heap.size < w1.heap.size := World.block_lt_of_cell? w1 ⟨w.heap.size, 0, none⟩ p00
        clear hk1
        go_wp2_with fail
        have bp00 := World.block_lt_of_cell? _ _ p00
        dsimp only at bp00
        rw [rounds_succ]
        go_wp2_with fail
        refine useK w (w2c.out _) (by go_grown) ?_; rintro e w2 rfl hB2 hk2 hs2
        replace p00 := hk2 _ _ _ p00; replace p01 := hk2 _ _ _ p01; replace p02 := hk2 _ _ _ p02; replace p03 := hk2 _ _ _ p03; replace p04 := hk2 _ _ _ p04; replace p05 := hk2 _ _ _ p05; replace p06 := hk2 _ _ _ p06; replace p07 := hk2 _ _ _ p07; replace p08 := hk2 _ _ _ p08; replace p09 := hk2 _ _ _ p09; replace p010 := hk2 _ _ _ p010; replace p011 := hk2 _ _ _ p011; replace p012 := hk2 _ _ _ p012; replace p013 := hk2 _ _ _ p013; replace p014 := hk2 _ _ _ p014
        clear hk2 bp00
        have bp00 := World.block_lt_of_cell? _ _ p00
        dsimp only at bp00
        go_wp2_with fail
        rw [rounds_succ]
        go_wp2_with fail
        refine useK w (w3c.out _) (by go_grown) ?_; rintro e w3 rfl hB3 hk3 hs3
        replace p00 := hk3 _ _ _ p00; replace p01 := hk3 _ _ _ p01; replace p02 := hk3 _ _ _ p02; replace p03 := hk3 _ _ _ p03; replace p04 := hk3 _ _ _ p04; replace p05 := hk3 _ _ _ p05; replace p06 := hk3 _ _ _ p06; replace p07 := hk3 _ _ _ p07; replace p08 := hk3 _ _ _ p08; replace p09 := hk3 _ _ _ p09; replace p010 := hk3 _ _ _ p010; replace p011 := hk3 _ _ _ p011; replace p012 := hk3 _ _ _ p012; replace p013 := hk3 _ _ _ p013; replace p014 := hk3 _ _ _ p014
        clear hk3 bp00
        have bp00 := World.block_lt_of_cell? _ _ p00
        dsimp only at bp00
        go_wp2_with fail
        rw [rounds_succ]
        go_wp2_with fail
        refine useK w (k1.out _) (by go_grown) ?_; rintro e w11 rfl hB11 hk11 hs11
        replace p00 := hk11 _ _ _ p00; replace p01 := hk11 _ _ _ p01; replace p02 := hk11 _ _ _ p02; replace p03 := hk11 _ _ _ p03; replace p04 := hk11 _ _ _ p04; replace p05 := hk11 _ _ _ p05; replace p06 := hk11 _ _ _ p06; replace p07 := hk11 _ _ _ p07; replace p08 := hk11 _ _ _ p08; replace p09 := hk11 _ _ _ p09; replace p010 := hk11 _ _ _ p010; replace p011 := hk11 _ _ _ p011; replace p012 := hk11 _ _ _ p012; replace p013 := hk11 _ _ _ p013; replace p014 := hk11 _ _ _ p014
        clear hk11 bp00
        have bp00 := World.block_lt_of_cell? _ _ p00
        dsimp only at bp00
        go_wp2_with fail
        go_ret
        exact ⟨ret_int (by rfl), by go_grown⟩
      cases x2
      · (try simp only [Bool.false_and, Bool.and_false])
        go_enter Try.func14, Try.ntmps14
        go_wp2_with fail
        refine wp_loop_rounds 4 ?_; rw [rounds_succ]
        go_wp2_with fail
        refine useK w (w1c.out _) (by go_grown) ?_; rintro e w1 rfl hB1 hk1 hs1
        replace p00 : w1.cell? ⟨w.heap.size, 0, none⟩ = some (.int .i64 T) := hk1 _ _ _ (by simp [go_sem])
        replace p01 : w1.cell? ⟨w.heap.size, 1, none⟩ = some (.int .i64 S) := hk1 _ _ _ (by simp [go_sem])
        replace p02 : w1.cell? ⟨w.heap.size, 2, none⟩ = some (.int .i64 t1) := hk1 _ _ _ (by simp [go_sem])
        replace p03 : w1.cell? ⟨w.heap.size, 3, none⟩ = some (.int .i64 t2) := hk1 _ _ _ (by simp [go_sem])
        replace p04 : w1.cell? ⟨w.heap.size, 4, none⟩ = some (.int .i64 f1) := hk1 _ _ _ (by simp [go_sem])
        replace p05 : w1.cell? ⟨w.heap.size, 5, none⟩ = some (.int .i64 f2) := hk1 _ _ _ (by simp [go_sem])
        replace p06 : w1.cell? ⟨w.heap.size, 6, none⟩ = some (.int .i64 d1) := hk1 _ _ _ (by simp [go_sem])
        replace p07 : w1.cell? ⟨w.heap.size, 7, none⟩ = some (.int .i64 d2) := hk1 _ _ _ (by simp [go_sem])
        replace p08 : w1.cell? ⟨w.heap.size, 8, none⟩ = some (.int .i64 d3) := hk1 _ _ _ (by simp [go_sem])
        replace p09 : w1.cell? ⟨w.heap.size, 9, none⟩ = some (.int .i64 d4) := hk1 _ _ _ (by simp [go_sem])
        replace p010 : w1.cell? ⟨w.heap.size, 10, none⟩ = some (.int .i64 d5) := hk1 _ _ _ (by simp [go_sem])
        replace p011 : w1.cell? ⟨w.heap.size, 11, none⟩ = some (.int .i64 d6) := hk1 _ _ _ (by simp [go_sem])
        replace p012 : w1.cell? ⟨w.heap.size, 12, none⟩ = some (Value.slice q l.length cap) := hk1 _ _ _ (by simp [go_sem])
        replace p013 : w1.cell? ⟨w.heap.size, 13, none⟩ = some (.int .i64 p1) := hk1 _ _ _ (by simp [go_sem])
        replace p014 : w1.cell? ⟨w.heap.size, 14, none⟩ = some (.int .i64 p2) := hk1 _ _ _ (by simp [go_sem])
        have bp00 : w.heap.size < w1.heap.size := World.block_lt_of_cell? w1 ⟨w.heap.size, 0, none⟩ p00
        clear hk1
        go_wp2_with fail
        have bp00 := World.block_lt_of_cell? _ _ p00
        dsimp only at bp00
        rw [rounds_succ]
        go_wp2_with fail
        refine useK w (w2c.out _) (by go_grown) ?_; rintro e w2 rfl hB2 hk2 hs2
        replace p00 := hk2 _ _ _ p00; replace p01 := hk2 _ _ _ p01; replace p02 := hk2 _ _ _ p02; replace p03 := hk2 _ _ _ p03; replace p04 := hk2 _ _ _ p04; replace p05 := hk2 _ _ _ p05; replace p06 := hk2 _ _ _ p06; replace p07 := hk2 _ _ _ p07; replace p08 := hk2 _ _ _ p08; replace p09 := hk2 _ _ _ p09; replace p010 := hk2 _ _ _ p010; replace p011 := hk2 _ _ _ p011; replace p012 := hk2 _ _ _ p012; replace p013 := hk2 _ _ _ p013; replace p014 := hk2 _ _ _ p014
        clear hk2 bp00
        have bp00 := World.block_lt_of_cell? _ _ p00
        dsimp only at bp00
        go_wp2_with fail
        rw [rounds_succ]
        go_wp2_with fail
        refine useK w (w3c.out _) (by go_grown) ?_; rintro e w3 rfl hB3 hk3 hs3
        replace p00 := hk3 _ _ _ p00; replace p01 := hk3 _ _ _ p01; replace p02 := hk3 _ _ _ p02; replace p03 := hk3 _ _ _ p03; replace p04 := hk3 _ _ _ p04; replace p05 := hk3 _ _ _ p05; replace p06 := hk3 _ _ _ p06; replace p07 := hk3 _ _ _ p07; replace p08 := hk3 _ _ _ p08; replace p09 := hk3 _ _ _ p09; replace p010 := hk3 _ _ _ p010; replace p011 := hk3 _ _ _ p011; replace p012 := hk3 _ _ _ p012; replace p013 := hk3 _ _ _ p013; replace p014 := hk3 _ _ _ p014
        clear hk3 bp00
        have bp00 := World.block_lt_of_cell? _ _ p00
        dsimp only at bp00
        go_wp2_with fail
        rw [rounds_succ]
        go_wp2_with fail
        refine useK w (k1.out _) (by go_grown) ?_; rintro e w11 rfl hB11 hk11 hs11
        replace p00 := hk11 _ _ _ p00; replace p01 := hk11 _ _ _ p01; replace p02 := hk11 _ _ _ p02; replace p03 := hk11 _ _ _ p03; replace p04 := hk11 _ _ _ p04; replace p05 := hk11 _ _ _ p05; replace p06 := hk11 _ _ _ p06; replace p07 := hk11 _ _ _ p07; replace p08 := hk11 _ _ _ p08; replace p09 := hk11 _ _ _ p09; replace p010 := hk11 _ _ _ p010; replace p011 := hk11 _ _ _ p011; replace p012 := hk11 _ _ _ p012; replace p013 := hk11 _ _ _ p013; replace p014 := hk11 _ _ _ p014
        clear hk11 bp00
        have bp00 := World.block_lt_of_cell? _ _ p00
        dsimp only at bp00
        go_wp2_with fail
        refine useK w (k2.out _) (by go_grown) ?_; rintro e w12 rfl hB12 hk12 hs12
        replace p00 := hk12 _ _ _ p00; replace p01 := hk12 _ _ _ p01; replace p02 := hk12 _ _ _ p02; replace p03 := hk12 _ _ _ p03; replace p04 := hk12 _ _ _ p04; replace p05 := hk12 _ _ _ p05; replace p06 := hk12 _ _ _ p06; replace p07 := hk12 _ _ _ p07; replace p08 := hk12 _ _ _ p08; replace p09 := hk12 _ _ _ p09; replace p010 := hk12 _ _ _ p010; replace p011 := hk12 _ _ _ p011; replace p012 := hk12 _ _ _ p012; replace p013 := hk12 _ _ _ p013; replace p014 := hk12 _ _ _ p014
        clear hk12 bp00
        have bp00 := World.block_lt_of_cell? _ _ p00
        dsimp only at bp00
        go_wp2_with fail
        go_ret
        exact ⟨ret_int (by rfl), by go_grown⟩
      cases x3
      · (try simp only [Bool.false_and, Bool.and_false])
        go_enter Try.func14, Try.ntmps14
        go_wp2_with fail
        refine wp_loop_rounds 4 ?_; rw [rounds_succ]
        go_wp2_with fail
        refine useK w (w1c.out _) (by go_grown) ?_; rintro e w1 rfl hB1 hk1 hs1
        replace p00 : w1.cell? ⟨w.heap.size, 0, none⟩ = some (.int .i64 T) := hk1 _ _ _ (by simp [go_sem])
        replace p01 : w1.cell? ⟨w.heap.size, 1, none⟩ = some (.int .i64 S) := hk1 _ _ _ (by simp [go_sem])
        replace p02 : w1.cell? ⟨w.heap.size, 2, none⟩ = some (.int .i64 t1) := hk1 _ _ _ (by simp [go_sem])
        replace p03 : w1.cell? ⟨w.heap.size, 3, none⟩ = some (.int .i64 t2) := hk1 _ _ _ (by simp [go_sem])
        replace p04 : w1.cell? ⟨w.heap.size, 4, none⟩ = some (.int .i64 f1) := hk1 _ _ _ (by simp [go_sem])
        replace p05 : w1.cell? ⟨w.heap.size, 5, none⟩ = some (.int .i64 f2) := hk1 _ _ _ (by simp [go_sem])
        replace p06 : w1.cell? ⟨w.heap.size, 6, none⟩ = some (.int .i64 d1) := hk1 _ _ _ (by simp [go_sem])
        replace p07 : w1.cell? ⟨w.heap.size, 7, none⟩ = some (.int .i64 d2) := hk1 _ _ _ (by simp [go_sem])
        replace p08 : w1.cell? ⟨w.heap.size, 8, none⟩ = some (.int .i64 d3) := hk1 _ _ _ (by simp [go_sem])
        replace p09 : w1.cell? ⟨w.heap.size, 9, none⟩ = some (.int .i64 d4) := hk1 _ _ _ (by simp [go_sem])
        replace p010 : w1.cell? ⟨w.heap.size, 10, none⟩ = some (.int .i64 d5) := hk1 _ _ _ (by simp [go_sem])
        replace p011 : w1.cell? ⟨w.heap.size, 11, none⟩ = some (.int .i64 d6) := hk1 _ _ _ (by simp [go_sem])
        replace p012 : w1.cell? ⟨w.heap.size, 12, none⟩ = some (Value.slice q l.length cap) := hk1 _ _ _ (by simp [go_sem])
        replace p013 : w1.cell? ⟨w.heap.size, 13, none⟩ = some (.int .i64 p1) := hk1 _ _ _ (by simp [go_sem])
        replace p014 : w1.cell? ⟨w.heap.size, 14, none⟩ = some (.int .i64 p2) := hk1 _ _ _ (by simp [go_sem])
        have bp00 : w.heap.size < w1.heap.size := World.block_lt_of_cell? w1 ⟨w.heap.size, 0, none⟩ p00
        clear hk1
        go_wp2_with fail
        have bp00 := World.block_lt_of_cell? _ _ p00
        dsimp only at bp00
        rw [rounds_succ]
        go_wp2_with fail
        refine useK w (w2c.out _) (by go_grown) ?_; rintro e w2 rfl hB2 hk2 hs2
        replace p00 := hk2 _ _ _ p00; replace p01 := hk2 _ _ _ p01; replace p02 := hk2 _ _ _ p02; replace p03 := hk2 _ _ _ p03; replace p04 := hk2 _ _ _ p04; replace p05 := hk2 _ _ _ p05; replace p06 := hk2 _ _ _ p06; replace p07 := hk2 _ _ _ p07; replace p08 := hk2 _ _ _ p08; replace p09 := hk2 _ _ _ p09; replace p010 := hk2 _ _ _ p010; replace p011 := hk2 _ _ _ p011; replace p012 := hk2 _ _ _ p012; replace p013 := hk2 _ _ _ p013; replace p014 := hk2 _ _ _ p014
        clear hk2 bp00
        have bp00 := World.block_lt_of_cell? _ _ p00
        dsimp only at bp00
        go_wp2_with fail
        rw [rounds_succ]
        go_wp2_with fail
        refine useK w (w3c.out _) (by go_grown) ?_; rintro e w3 rfl hB3 hk3 hs3
        replace p00 := hk3 _ _ _ p00; replace p01 := hk3 _ _ _ p01; replace p02 := hk3 _ _ _ p02; replace p03 := hk3 _ _ _ p03; replace p04 := hk3 _ _ _ p04; replace p05 := hk3 _ _ _ p05; replace p06 := hk3 _ _ _ p06; replace p07 := hk3 _ _ _ p07; replace p08 := hk3 _ _ _ p08; replace p09 := hk3 _ _ _ p09; replace p010 := hk3 _ _ _ p010; replace p011 := hk3 _ _ _ p011; replace p012 := hk3 _ _ _ p012; replace p013 := hk3 _ _ _ p013; replace p014 := hk3 _ _ _ p014
        clear hk3 bp00
        have bp00 := World.block_lt_of_cell? _ _ p00
        dsimp only at bp00
        go_wp2_with fail
        rw [rounds_succ]
        go_wp2_with fail
        refine useK w (k1.out _) (by go_grown) ?_; rintro e w11 rfl hB11 hk11 hs11
        replace p00 := hk11 _ _ _ p00; replace p01 := hk11 _ _ _ p01; replace p02 := hk11 _ _ _ p02; replace p03 := hk11 _ _ _ p03; replace p04 := hk11 _ _ _ p04; replace p05 := hk11 _ _ _ p05; replace p06 := hk11 _ _ _ p06; replace p07 := hk11 _ _ _ p07; replace p08 := hk11 _ _ _ p08; replace p09 := hk11 _ _ _ p09; replace p010 := hk11 _ _ _ p010; replace p011 := hk11 _ _ _ p011; replace p012 := hk11 _ _ _ p012; replace p013 := hk11 _ _ _ p013; replace p014 := hk11 _ _ _ p014
        clear hk11 bp00
        have bp00 := World.block_lt_of_cell? _ _ p00
        dsimp only at bp00
        go_wp2_with fail
        refine useK w (k2.out _) (by go_grown) ?_; rintro e w12 rfl hB12 hk12 hs12
        replace p00 := hk12 _ _ _ p00; replace p01 := hk12 _ _ _ p01; replace p02 := hk12 _ _ _ p02; replace p03 := hk12 _ _ _ p03; replace p04 := hk12 _ _ _ p04; replace p05 := hk12 _ _ _ p05; replace p06 := hk12 _ _ _ p06; replace p07 := hk12 _ _ _ p07; replace p08 := hk12 _ _ _ p08; replace p09 := hk12 _ _ _ p09; replace p010 := hk12 _ _ _ p010; replace p011 := hk12 _ _ _ p011; replace p012 := hk12 _ _ _ p012; replace p013 := hk12 _ _ _ p013; replace p014 := hk12 _ _ _ p014
        clear hk12 bp00
        have bp00 := World.block_lt_of_cell? _ _ p00
        dsimp only at bp00
        go_wp2_with fail
        refine useK w (k3.out _) (by go_grown) ?_; rintro e w13 rfl hB13 hk13 hs13
        replace p00 := hk13 _ _ _ p00; replace p01 := hk13 _ _ _ p01; replace p02 := hk13 _ _ _ p02; replace p03 := hk13 _ _ _ p03; replace p04 := hk13 _ _ _ p04; replace p05 := hk13 _ _ _ p05; replace p06 := hk13 _ _ _ p06; replace p07 := hk13 _ _ _ p07; replace p08 := hk13 _ _ _ p08; replace p09 := hk13 _ _ _ p09; replace p010 := hk13 _ _ _ p010; replace p011 := hk13 _ _ _ p011; replace p012 := hk13 _ _ _ p012; replace p013 := hk13 _ _ _ p013; replace p014 := hk13 _ _ _ p014
        clear hk13 bp00
        have bp00 := World.block_lt_of_cell? _ _ p00
        dsimp only at bp00
        go_wp2_with fail
        go_ret
        exact ⟨ret_int (by rfl), by go_grown⟩
      go_enter Try.func14, Try.ntmps14
      go_wp2_with fail
      refine wp_loop_rounds 4 ?_; rw [rounds_succ]
      go_wp2_with fail
      refine useK w (w1c.out _) (by go_grown) ?_; rintro e w1 rfl hB1 hk1 hs1
      replace p00 : w1.cell? ⟨w.heap.size, 0, none⟩ = some (.int .i64 T) := hk1 _ _ _ (by simp [go_sem])
      replace p01 : w1.cell? ⟨w.heap.size, 1, none⟩ = some (.int .i64 S) := hk1 _ _ _ (by simp [go_sem])
      replace p02 : w1.cell? ⟨w.heap.size, 2, none⟩ = some (.int .i64 t1) := hk1 _ _ _ (by simp [go_sem])
      replace p03 : w1.cell? ⟨w.heap.size, 3, none⟩ = some (.int .i64 t2) := hk1 _ _ _ (by simp [go_sem])
      replace p04 : w1.cell? ⟨w.heap.size, 4, none⟩ = some (.int .i64 f1) := hk1 _ _ _ (by simp [go_sem])
      replace p05 : w1.cell? ⟨w.heap.size, 5, none⟩ = some (.int .i64 f2) := hk1 _ _ _ (by simp [go_sem])
      replace p06 : w1.cell? ⟨w.heap.size, 6, none⟩ = some (.int .i64 d1) := hk1 _ _ _ (by simp [go_sem])
      replace p07 : w1.cell? ⟨w.heap.size, 7, none⟩ = some (.int .i64 d2) := hk1 _ _ _ (by simp [go_sem])
      replace p08 : w1.cell? ⟨w.heap.size, 8, none⟩ = some (.int .i64 d3) := hk1 _ _ _ (by simp [go_sem])
      replace p09 : w1.cell? ⟨w.heap.size, 9, none⟩ = some (.int .i64 d4) := hk1 _ _ _ (by simp [go_sem])
      replace p010 : w1.cell? ⟨w.heap.size, 10, none⟩ = some (.int .i64 d5) := hk1 _ _ _ (by simp [go_sem])
      replace p011 : w1.cell? ⟨w.heap.size, 11, none⟩ = some (.int .i64 d6) := hk1 _ _ _ (by simp [go_sem])
      replace p012 : w1.cell? ⟨w.heap.size, 12, none⟩ = some (Value.slice q l.length cap) := hk1 _ _ _ (by simp [go_sem])
      replace p013 : w1.cell? ⟨w.heap.size, 13, none⟩ = some (.int .i64 p1) := hk1 _ _ _ (by simp [go_sem])
      replace p014 : w1.cell? ⟨w.heap.size, 14, none⟩ = some (.int .i64 p2) := hk1 _ _ _ (by simp [go_sem])
      have bp00 : w.heap.size < w1.heap.size := World.block_lt_of_cell? w1 ⟨w.heap.size, 0, none⟩ p00
      clear hk1
      go_wp2_with fail
      have bp00 := World.block_lt_of_cell? _ _ p00
      dsimp only at bp00
      rw [rounds_succ]
      go_wp2_with fail
      refine useK w (w2c.out _) (by go_grown) ?_; rintro e w2 rfl hB2 hk2 hs2
      replace p00 := hk2 _ _ _ p00; replace p01 := hk2 _ _ _ p01; replace p02 := hk2 _ _ _ p02; replace p03 := hk2 _ _ _ p03; replace p04 := hk2 _ _ _ p04; replace p05 := hk2 _ _ _ p05; replace p06 := hk2 _ _ _ p06; replace p07 := hk2 _ _ _ p07; replace p08 := hk2 _ _ _ p08; replace p09 := hk2 _ _ _ p09; replace p010 := hk2 _ _ _ p010; replace p011 := hk2 _ _ _ p011; replace p012 := hk2 _ _ _ p012; replace p013 := hk2 _ _ _ p013; replace p014 := hk2 _ _ _ p014
      clear hk2 bp00
      have bp00 := World.block_lt_of_cell? _ _ p00
      dsimp only at bp00
      go_wp2_with fail
      rw [rounds_succ]
      go_wp2_with fail
      refine useK w (w3c.out _) (by go_grown) ?_; rintro e w3 rfl hB3 hk3 hs3
      replace p00 := hk3 _ _ _ p00; replace p01 := hk3 _ _ _ p01; replace p02 := hk3 _ _ _ p02; replace p03 := hk3 _ _ _ p03; replace p04 := hk3 _ _ _ p04; replace p05 := hk3 _ _ _ p05; replace p06 := hk3 _ _ _ p06; replace p07 := hk3 _ _ _ p07; replace p08 := hk3 _ _ _ p08; replace p09 := hk3 _ _ _ p09; replace p010 := hk3 _ _ _ p010; replace p011 := hk3 _ _ _ p011; replace p012 := hk3 _ _ _ p012; replace p013 := hk3 _ _ _ p013; replace p014 := hk3 _ _ _ p014
      clear hk3 bp00
      have bp00 := World.block_lt_of_cell? _ _ p00
      dsimp only at bp00
      go_wp2_with fail
      rw [rounds_succ]
      go_wp2_with fail
      refine useK w (k1.out _) (by go_grown) ?_; rintro e w11 rfl hB11 hk11 hs11
      replace p00 := hk11 _ _ _ p00; replace p01 := hk11 _ _ _ p01; replace p02 := hk11 _ _ _ p02; replace p03 := hk11 _ _ _ p03; replace p04 := hk11 _ _ _ p04; replace p05 := hk11 _ _ _ p05; replace p06 := hk11 _ _ _ p06; replace p07 := hk11 _ _ _ p07; replace p08 := hk11 _ _ _ p08; replace p09 := hk11 _ _ _ p09; replace p010 := hk11 _ _ _ p010; replace p011 := hk11 _ _ _ p011; replace p012 := hk11 _ _ _ p012; replace p013 := hk11 _ _ _ p013; replace p014 := hk11 _ _ _ p014
      clear hk11 bp00
      have bp00 := World.block_lt_of_cell? _ _ p00
      dsimp only at bp00
      go_wp2_with fail
      refine useK w (k2.out _) (by go_grown) ?_; rintro e w12 rfl hB12 hk12 hs12
      replace p00 := hk12 _ _ _ p00; replace p01 := hk12 _ _ _ p01; replace p02 := hk12 _ _ _ p02; replace p03 := hk12 _ _ _ p03; replace p04 := hk12 _ _ _ p04; replace p05 := hk12 _ _ _ p05; replace p06 := hk12 _ _ _ p06; replace p07 := hk12 _ _ _ p07; replace p08 := hk12 _ _ _ p08; replace p09 := hk12 _ _ _ p09; replace p010 := hk12 _ _ _ p010; replace p011 := hk12 _ _ _ p011; replace p012 := hk12 _ _ _ p012; replace p013 := hk12 _ _ _ p013; replace p014 := hk12 _ _ _ p014
      clear hk12 bp00
      have bp00 := World.block_lt_of_cell? _ _ p00
      dsimp only at bp00
      go_wp2_with fail
      refine useK w (k3.out _) (by go_grown) ?_; rintro e w13 rfl hB13 hk13 hs13
      replace p00 := hk13 _ _ _ p00; replace p01 := hk13 _ _ _ p01; replace p02 := hk13 _ _ _ p02; replace p03 := hk13 _ _ _ p03; replace p04 := hk13 _ _ _ p04; replace p05 := hk13 _ _ _ p05; replace p06 := hk13 _ _ _ p06; replace p07 := hk13 _ _ _ p07; replace p08 := hk13 _ _ _ p08; replace p09 := hk13 _ _ _ p09; replace p010 := hk13 _ _ _ p010; replace p011 := hk13 _ _ _ p011; replace p012 := hk13 _ _ _ p012; replace p013 := hk13 _ _ _ p013; replace p014 := hk13 _ _ _ p014
      clear hk13 bp00
      have bp00 := World.block_lt_of_cell? _ _ p00
      dsimp only at bp00
      go_wp2_with fail
      go_ret
      exact ⟨ret_int (by rfl), by go_grown⟩
    · rw [decide_eq_false (show ¬ 0 < S by omega)]; simp only [Bool.false_and, Bool.and_false]
      have := 0
      cases x1
      · (try simp only [Bool.false_and, Bool.and_false])
        go_enter Try.func14, Try.ntmps14
        go_wp2_with fail
        refine wp_loop_rounds 4 ?_; rw [rounds_succ]
        go_wp2_with fail
        refine useK w (w1c.out _) (by go_grown) ?_; rintro e w1 rfl hB1 hk1 hs1
        replace p00 : w1.cell? ⟨w.heap.size, 0, none⟩ = some (.int .i64 T) := hk1 _ _ _ (by simp [go_sem])
        replace p01 : w1.cell? ⟨w.heap.size, 1, none⟩ = some (.int .i64 S) := hk1 _ _ _ (by simp [go_sem])
        replace p02 : w1.cell? ⟨w.heap.size, 2, none⟩ = some (.int .i64 t1) := hk1 _ _ _ (by simp [go_sem])
        replace p03 : w1.cell? ⟨w.heap.size, 3, none⟩ = some (.int .i64 t2) := hk1 _ _ _ (by simp [go_sem])
        replace p04 : w1.cell? ⟨w.heap.size, 4, none⟩ = some (.int .i64 f1) := hk1 _ _ _ (by simp [go_sem])
        replace p05 : w1.cell? ⟨w.heap.size, 5, none⟩ = some (.int .i64 f2) := hk1 _ _ _ (by simp [go_sem])
        replace p06 : w1.cell? ⟨w.heap.size, 6, none⟩ = some (.int .i64 d1) := hk1 _ _ _ (by simp [go_sem])
        replace p07 : w1.cell? ⟨w.heap.size, 7, none⟩ = some (.int .i64 d2) := hk1 _ _ _ (by simp [go_sem])
        replace p08 : w1.cell? ⟨w.heap.size, 8, none⟩ = some (.int .i64 d3) := hk1 _ _ _ (by simp [go_sem])
        replace p09 : w1.cell? ⟨w.heap.size, 9, none⟩ = some (.int .i64 d4) := hk1 _ _ _ (by simp [go_sem])
        replace p010 : w1.cell? ⟨w.heap.size, 10, none⟩ = some (.int .i64 d5) := hk1 _ _ _ (by simp [go_sem])
        replace p011 : w1.cell? ⟨w.heap.size, 11, none⟩ = some (.int .i64 d6) := hk1 _ _ _ (by simp [go_sem])
        replace p012 : w1.cell? ⟨w.heap.size, 12, none⟩ = some (Value.slice q l.length cap) := hk1 _ _ _ (by simp [go_sem])
        replace p013 : w1.cell? ⟨w.heap.size, 13, none⟩ = some (.int .i64 p1) := hk1 _ _ _ (by simp [go_sem])
        replace p014 : w1.cell? ⟨w.heap.size, 14, none⟩ = some (.int .i64 p2) := hk1 _ _ _ (by simp [go_sem])
        have bp00 : w.heap.size < w1.heap.size := World.block_lt_of_cell? w1 ⟨w.heap.size, 0, none⟩ p00
        clear hk1
        go_wp2_with fail
        have bp00 := World.block_lt_of_cell? _ _ p00
        dsimp only at bp00
        rw [rounds_succ]
        go_wp2_with fail
        refine useK w (w2c.out _) (by go_grown) ?_; rintro e w2 rfl hB2 hk2 hs2
        replace p00 := hk2 _ _ _ p00; replace p01 := hk2 _ _ _ p01; replace p02 := hk2 _ _ _ p02; replace p03 := hk2 _ _ _ p03; replace p04 := hk2 _ _ _ p04; replace p05 := hk2 _ _ _ p05; replace p06 := hk2 _ _ _ p06; replace p07 := hk2 _ _ _ p07; replace p08 := hk2 _ _ _ p08; replace p09 := hk2 _ _ _ p09; replace p010 := hk2 _ _ _ p010; replace p011 := hk2 _ _ _ p011; replace p012 := hk2 _ _ _ p012; replace p013 := hk2 _ _ _ p013; replace p014 := hk2 _ _ _ p014
        clear hk2 bp00
        have bp00 := World.block_lt_of_cell? _ _ p00
        dsimp only at bp00
        go_wp2_with fail
        rw [rounds_succ]
        go_wp2_with fail
        refine useK w (w3c.out _) (by go_grown) ?_; rintro e w3 rfl hB3 hk3 hs3
        replace p00 := hk3 _ _ _ p00; replace p01 := hk3 _ _ _ p01; replace p02 := hk3 _ _ _ p02; replace p03 := hk3 _ _ _ p03; replace p04 := hk3 _ _ _ p04; replace p05 := hk3 _ _ _ p05; replace p06 := hk3 _ _ _ p06; replace p07 := hk3 _ _ _ p07; replace p08 := hk3 _ _ _ p08; replace p09 := hk3 _ _ _ p09; replace p010 := hk3 _ _ _ p010; replace p011 := hk3 _ _ _ p011; replace p012 := hk3 _ _ _ p012; replace p013 := hk3 _ _ _ p013; replace p014 := hk3 _ _ _ p014
        clear hk3 bp00
        have bp00 := World.block_lt_of_cell? _ _ p00
        dsimp only at bp00
        go_wp2_with fail
        rw [rounds_succ]
        go_wp2_with fail
        refine useK w (k1.out _) (by go_grown) ?_; rintro e w11 rfl hB11 hk11 hs11
        replace p00 := hk11 _ _ _ p00; replace p01 := hk11 _ _ _ p01; replace p02 := hk11 _ _ _ p02; replace p03 := hk11 _ _ _ p03; replace p04 := hk11 _ _ _ p04; replace p05 := hk11 _ _ _ p05; replace p06 := hk11 _ _ _ p06; replace p07 := hk11 _ _ _ p07; replace p08 := hk11 _ _ _ p08; replace p09 := hk11 _ _ _ p09; replace p010 := hk11 _ _ _ p010; replace p011 := hk11 _ _ _ p011; replace p012 := hk11 _ _ _ p012; replace p013 := hk11 _ _ _ p013; replace p014 := hk11 _ _ _ p014
        clear hk11 bp00
        have bp00 := World.block_lt_of_cell? _ _ p00
        dsimp only at bp00
        go_wp2_with fail
        go_ret
        exact ⟨ret_int (by rfl), by go_grown⟩
      cases x2
      · (try simp only [Bool.false_and, Bool.and_false])
        go_enter Try.func14, Try.ntmps14
        go_wp2_with fail
        refine wp_loop_rounds 4 ?_; rw [rounds_succ]
        go_wp2_with fail
        refine useK w (w1c.out _) (by go_grown) ?_; rintro e w1 rfl hB1 hk1 hs1
        replace p00 : w1.cell? ⟨w.heap.size, 0, none⟩ = some (.int .i64 T) := hk1 _ _ _ (by simp [go_sem])
        replace p01 : w1.cell? ⟨w.heap.size, 1, none⟩ = some (.int .i64 S) := hk1 _ _ _ (by simp [go_sem])
        replace p02 : w1.cell? ⟨w.heap.size, 2, none⟩ = some (.int .i64 t1) := hk1 _ _ _ (by simp [go_sem])
        replace p03 : w1.cell? ⟨w.heap.size, 3, none⟩ = some (.int .i64 t2) := hk1 _ _ _ (by simp [go_sem])
        replace p04 : w1.cell? ⟨w.heap.size, 4, none⟩ = some (.int .i64 f1) := hk1 _ _ _ (by simp [go_sem])
        replace p05 : w1.cell? ⟨w.heap.size, 5, none⟩ = some (.int .i64 f2) := hk1 _ _ _ (by simp [go_sem])
        replace p06 : w1.cell? ⟨w.heap.size, 6, none⟩ = some (.int .i64 d1) := hk1 _ _ _ (by simp [go_sem])
        replace p07 : w1.cell? ⟨w.heap.size, 7, none⟩ = some (.int .i64 d2) := hk1 _ _ _ (by simp [go_sem])
        replace p08 : w1.cell? ⟨w.heap.size, 8, none⟩ = some (.int .i64 d3) := hk1 _ _ _ (by simp [go_sem])
        replace p09 : w1.cell? ⟨w.heap.size, 9, none⟩ = some (.int .i64 d4) := hk1 _ _ _ (by simp [go_sem])
        replace p010 : w1.cell? ⟨w.heap.size, 10, none⟩ = some (.int .i64 d5) := hk1 _ _ _ (by simp [go_sem])
        replace p011 : w1.cell? ⟨w.heap.size, 11, none⟩ = some (.int .i64 d6) := hk1 _ _ _ (by simp [go_sem])
        replace p012 : w1.cell? ⟨w.heap.size, 12, none⟩ = some (Value.slice q l.length cap) := hk1 _ _ _ (by simp [go_sem])
        replace p013 : w1.cell? ⟨w.heap.size, 13, none⟩ = some (.int .i64 p1) := hk1 _ _ _ (by simp [go_sem])
        replace p014 : w1.cell? ⟨w.heap.size, 14, none⟩ = some (.int .i64 p2) := hk1 _ _ _ (by simp [go_sem])
        have bp00 : w.heap.size < w1.heap.size := World.block_lt_of_cell? w1 ⟨w.heap.size, 0, none⟩ p00
        clear hk1
        go_wp2_with fail
        have bp00 := World.block_lt_of_cell? _ _ p00
        dsimp only at bp00
        rw [rounds_succ]
        go_wp2_with fail
        refine useK w (w2c.out _) (by go_grown) ?_; rintro e w2 rfl hB2 hk2 hs2
        replace p00 := hk2 _ _ _ p00; replace p01 := hk2 _ _ _ p01; replace p02 := hk2 _ _ _ p02; replace p03 := hk2 _ _ _ p03; replace p04 := hk2 _ _ _ p04; replace p05 := hk2 _ _ _ p05; replace p06 := hk2 _ _ _ p06; replace p07 := hk2 _ _ _ p07; replace p08 := hk2 _ _ _ p08; replace p09 := hk2 _ _ _ p09; replace p010 := hk2 _ _ _ p010; replace p011 := hk2 _ _ _ p011; replace p012 := hk2 _ _ _ p012; replace p013 := hk2 _ _ _ p013; replace p014 := hk2 _ _ _ p014
        clear hk2 bp00
        have bp00 := World.block_lt_of_cell? _ _ p00
        dsimp only at bp00
        go_wp2_with fail
        rw [rounds_succ]
        go_wp2_with fail
        refine useK w (w3c.out _) (by go_grown) ?_; rintro e w3 rfl hB3 hk3 hs3
        replace p00 := hk3 _ _ _ p00; replace p01 := hk3 _ _ _ p01; replace p02 := hk3 _ _ _ p02; replace p03 := hk3 _ _ _ p03; replace p04 := hk3 _ _ _ p04; replace p05 := hk3 _ _ _ p05; replace p06 := hk3 _ _ _ p06; replace p07 := hk3 _ _ _ p07; replace p08 := hk3 _ _ _ p08; replace p09 := hk3 _ _ _ p09; replace p010 := hk3 _ _ _ p010; replace p011 := hk3 _ _ _ p011; replace p012 := hk3 _ _ _ p012; replace p013 := hk3 _ _ _ p013; replace p014 := hk3 _ _ _ p014
        clear hk3 bp00
        have bp00 := World.block_lt_of_cell? _ _ p00
        dsimp only at bp00
        go_wp2_with fail
        rw [rounds_succ]
        go_wp2_with fail
        refine useK w (k1.out _) (by go_grown) ?_; rintro e w11 rfl hB11 hk11 hs11
        replace p00 := hk11 _ _ _ p00; replace p01 := hk11 _ _ _ p01; replace p02 := hk11 _ _ _ p02; replace p03 := hk11 _ _ _ p03; replace p04 := hk11 _ _ _ p04; replace p05 := hk11 _ _ _ p05; replace p06 := hk11 _ _ _ p06; replace p07 := hk11 _ _ _ p07; replace p08 := hk11 _ _ _ p08; replace p09 := hk11 _ _ _ p09; replace p010 := hk11 _ _ _ p010; replace p011 := hk11 _ _ _ p011; replace p012 := hk11 _ _ _ p012; replace p013 := hk11 _ _ _ p013; replace p014 := hk11 _ _ _ p014
        clear hk11 bp00
        have bp00 := World.block_lt_of_cell? _ _ p00
        dsimp only at bp00
        go_wp2_with fail
        refine useK w (k2.out _) (by go_grown) ?_; rintro e w12 rfl hB12 hk12 hs12
        replace p00 := hk12 _ _ _ p00; replace p01 := hk12 _ _ _ p01; replace p02 := hk12 _ _ _ p02; replace p03 := hk12 _ _ _ p03; replace p04 := hk12 _ _ _ p04; replace p05 := hk12 _ _ _ p05; replace p06 := hk12 _ _ _ p06; replace p07 := hk12 _ _ _ p07; replace p08 := hk12 _ _ _ p08; replace p09 := hk12 _ _ _ p09; replace p010 := hk12 _ _ _ p010; replace p011 := hk12 _ _ _ p011; replace p012 := hk12 _ _ _ p012; replace p013 := hk12 _ _ _ p013; replace p014 := hk12 _ _ _ p014
        clear hk12 bp00
        have bp00 := World.block_lt_of_cell? _ _ p00
        dsimp only at bp00
        go_wp2_with fail
        go_ret
        exact ⟨ret_int (by rfl), by go_grown⟩
      cases x3
      · (try simp only [Bool.false_and, Bool.and_false])
        go_enter Try.func14, Try.ntmps14
        go_wp2_with fail
        refine wp_loop_rounds 4 ?_; rw [rounds_succ]
        go_wp2_with fail
        refine useK w (w1c.out _) (by go_grown) ?_; rintro e w1 rfl hB1 hk1 hs1
        replace p00 : w1.cell? ⟨w.heap.size, 0, none⟩ = some (.int .i64 T) := hk1 _ _ _ (by simp [go_sem])
        replace p01 : w1.cell? ⟨w.heap.size, 1, none⟩ = some (.int .i64 S) := hk1 _ _ _ (by simp [go_sem])
        replace p02 : w1.cell? ⟨w.heap.size, 2, none⟩ = some (.int .i64 t1) := hk1 _ _ _ (by simp [go_sem])
        replace p03 : w1.cell? ⟨w.heap.size, 3, none⟩ = some (.int .i64 t2) := hk1 _ _ _ (by simp [go_sem])
        replace p04 : w1.cell? ⟨w.heap.size, 4, none⟩ = some (.int .i64 f1) := hk1 _ _ _ (by simp [go_sem])
        replace p05 : w1.cell? ⟨w.heap.size, 5, none⟩ = some (.int .i64 f2) := hk1 _ _ _ (by simp [go_sem])
        replace p06 : w1.cell? ⟨w.heap.size, 6, none⟩ = some (.int .i64 d1) := hk1 _ _ _ (by simp [go_sem])
        replace p07 : w1.cell? ⟨w.heap.size, 7, none⟩ = some (.int .i64 d2) := hk1 _ _ _ (by simp [go_sem])
        replace p08 : w1.cell? ⟨w.heap.size, 8, none⟩ = some (.int .i64 d3) := hk1 _ _ _ (by simp [go_sem])
        replace p09 : w1.cell? ⟨w.heap.size, 9, none⟩ = some (.int .i64 d4) := hk1 _ _ _ (by simp [go_sem])
        replace p010 : w1.cell? ⟨w.heap.size, 10, none⟩ = some (.int .i64 d5) := hk1 _ _ _ (by simp [go_sem])
        replace p011 : w1.cell? ⟨w.heap.size, 11, none⟩ = some (.int .i64 d6) := hk1 _ _ _ (by simp [go_sem])
        replace p012 : w1.cell? ⟨w.heap.size, 12, none⟩ = some (Value.slice q l.length cap) := hk1 _ _ _ (by simp [go_sem])
        replace p013 : w1.cell? ⟨w.heap.size, 13, none⟩ = some (.int .i64 p1) := hk1 _ _ _ (by simp [go_sem])
        replace p014 : w1.cell? ⟨w.heap.size, 14, none⟩ = some (.int .i64 p2) := hk1 _ _ _ (by simp [go_sem])
        have bp00 : w.heap.size < w1.heap.size := World.block_lt_of_cell? w1 ⟨w.heap.size, 0, none⟩ p00
        clear hk1
        go_wp2_with fail
        have bp00 := World.block_lt_of_cell? _ _ p00
        dsimp only at bp00
        rw [rounds_succ]
        go_wp2_with fail
        refine useK w (w2c.out _) (by go_grown) ?_; rintro e w2 rfl hB2 hk2 hs2
        replace p00 := hk2 _ _ _ p00; replace p01 := hk2 _ _ _ p01; replace p02 := hk2 _ _ _ p02; replace p03 := hk2 _ _ _ p03; replace p04 := hk2 _ _ _ p04; replace p05 := hk2 _ _ _ p05; replace p06 := hk2 _ _ _ p06; replace p07 := hk2 _ _ _ p07; replace p08 := hk2 _ _ _ p08; replace p09 := hk2 _ _ _ p09; replace p010 := hk2 _ _ _ p010; replace p011 := hk2 _ _ _ p011; replace p012 := hk2 _ _ _ p012; replace p013 := hk2 _ _ _ p013; replace p014 := hk2 _ _ _ p014
        clear hk2 bp00
        have bp00 := World.block_lt_of_cell? _ _ p00
        dsimp only at bp00
        go_wp2_with fail
        rw [rounds_succ]
        go_wp2_with fail
        refine useK w (w3c.out _) (by go_grown) ?_; rintro e w3 rfl hB3 hk3 hs3
        replace p00 := hk3 _ _ _ p00; replace p01 := hk3 _ _ _ p01; replace p02 := hk3 _ _ _ p02; replace p03 := hk3 _ _ _ p03; replace p04 := hk3 _ _ _ p04; replace p05 := hk3 _ _ _ p05; replace p06 := hk3 _ _ _ p06; replace p07 := hk3 _ _ _ p07; replace p08 := hk3 _ _ _ p08; replace p09 := hk3 _ _ _ p09; replace p010 := hk3 _ _ _ p010; replace p011 := hk3 _ _ _ p011; replace p012 := hk3 _ _ _ p012; replace p013 := hk3 _ _ _ p013; replace p014 := hk3 _ _ _ p014
        clear hk3 bp00
        have bp00 := World.block_lt_of_cell? _ _ p00
        dsimp only at bp00
        go_wp2_with fail
        rw [rounds_succ]
        go_wp2_with fail
        refine useK w (k1.out _) (by go_grown) ?_; rintro e w11 rfl hB11 hk11 hs11
        replace p00 := hk11 _ _ _ p00; replace p01 := hk11 _ _ _ p01; replace p02 := hk11 _ _ _ p02; replace p03 := hk11 _ _ _ p03; replace p04 := hk11 _ _ _ p04; replace p05 := hk11 _ _ _ p05; replace p06 := hk11 _ _ _ p06; replace p07 := hk11 _ _ _ p07; replace p08 := hk11 _ _ _ p08; replace p09 := hk11 _ _ _ p09; replace p010 := hk11 _ _ _ p010; replace p011 := hk11 _ _ _ p011; replace p012 := hk11 _ _ _ p012; replace p013 := hk11 _ _ _ p013; replace p014 := hk11 _ _ _ p014
        clear hk11 bp00
        have bp00 := World.block_lt_of_cell? _ _ p00
        dsimp only at bp00
        go_wp2_with fail
        refine useK w (k2.out _) (by go_grown) ?_; rintro e w12 rfl hB12 hk12 hs12
        replace p00 := hk12 _ _ _ p00; replace p01 := hk12 _ _ _ p01; replace p02 := hk12 _ _ _ p02; replace p03 := hk12 _ _ _ p03; replace p04 := hk12 _ _ _ p04; replace p05 := hk12 _ _ _ p05; replace p06 := hk12 _ _ _ p06; replace p07 := hk12 _ _ _ p07; replace p08 := hk12 _ _ _ p08; replace p09 := hk12 _ _ _ p09; replace p010 := hk12 _ _ _ p010; replace p011 := hk12 _ _ _ p011; replace p012 := hk12 _ _ _ p012; replace p013 := hk12 _ _ _ p013; replace p014 := hk12 _ _ _ p014
        clear hk12 bp00
        have bp00 := World.block_lt_of_cell? _ _ p00
        dsimp only at bp00
        go_wp2_with fail
        refine useK w (k3.out _) (by go_grown) ?_; rintro e w13 rfl hB13 hk13 hs13
        replace p00 := hk13 _ _ _ p00; replace p01 := hk13 _ _ _ p01; replace p02 := hk13 _ _ _ p02; replace p03 := hk13 _ _ _ p03; replace p04 := hk13 _ _ _ p04; replace p05 := hk13 _ _ _ p05; replace p06 := hk13 _ _ _ p06; replace p07 := hk13 _ _ _ p07; replace p08 := hk13 _ _ _ p08; replace p09 := hk13 _ _ _ p09; replace p010 := hk13 _ _ _ p010; replace p011 := hk13 _ _ _ p011; replace p012 := hk13 _ _ _ p012; replace p013 := hk13 _ _ _ p013; replace p014 := hk13 _ _ _ p014
        clear hk13 bp00
        have bp00 := World.block_lt_of_cell? _ _ p00
        dsimp only at bp00
        go_wp2_with fail
        go_ret
        exact ⟨ret_int (by rfl), by go_grown⟩
      go_enter Try.func14, Try.ntmps14
      go_wp2_with fail
      refine wp_loop_rounds 4 ?_; rw [rounds_succ]
      go_wp2_with fail
      refine useK w (w1c.out _) (by go_grown) ?_; rintro e w1 rfl hB1 hk1 hs1
      replace p00 : w1.cell? ⟨w.heap.size, 0, none⟩ = some (.int .i64 T) := hk1 _ _ _ (by simp [go_sem])
      replace p01 : w1.cell? ⟨w.heap.size, 1, none⟩ = some (.int .i64 S) := hk1 _ _ _ (by simp [go_sem])
      replace p02 : w1.cell? ⟨w.heap.size, 2, none⟩ = some (.int .i64 t1) := hk1 _ _ _ (by simp [go_sem])
      replace p03 : w1.cell? ⟨w.heap.size, 3, none⟩ = some (.int .i64 t2) := hk1 _ _ _ (by simp [go_sem])
      replace p04 : w1.cell? ⟨w.heap.size, 4, none⟩ = some (.int .i64 f1) := hk1 _ _ _ (by simp [go_sem])
      replace p05 : w1.cell? ⟨w.heap.size, 5, none⟩ = some (.int .i64 f2) := hk1 _ _ _ (by simp [go_sem])
      replace p06 : w1.cell? ⟨w.heap.size, 6, none⟩ = some (.int .i64 d1) := hk1 _ _ _ (by simp [go_sem])
      replace p07 : w1.cell? ⟨w.heap.size, 7, none⟩ = some (.int .i64 d2) := hk1 _ _ _ (by simp [go_sem])
      replace p08 : w1.cell? ⟨w.heap.size, 8, none⟩ = some (.int .i64 d3) := hk1 _ _ _ (by simp [go_sem])
      replace p09 : w1.cell? ⟨w.heap.size, 9, none⟩ = some (.int .i64 d4) := hk1 _ _ _ (by simp [go_sem])
      replace p010 : w1.cell? ⟨w.heap.size, 10, none⟩ = some (.int .i64 d5) := hk1 _ _ _ (by simp [go_sem])
      replace p011 : w1.cell? ⟨w.heap.size, 11, none⟩ = some (.int .i64 d6) := hk1 _ _ _ (by simp [go_sem])
      replace p012 : w1.cell? ⟨w.heap.size, 12, none⟩ = some (Value.slice q l.length cap) := hk1 _ _ _ (by simp [go_sem])
      replace p013 : w1.cell? ⟨w.heap.size, 13, none⟩ = some (.int .i64 p1) := hk1 _ _ _ (by simp [go_sem])
      replace p014 : w1.cell? ⟨w.heap.size, 14, none⟩ = some (.int .i64 p2) := hk1 _ _ _ (by simp [go_sem])
      have bp00 : w.heap.size < w1.heap.size := World.block_lt_of_cell? w1 ⟨w.heap.size, 0, none⟩ p00
      clear hk1
      go_wp2_with fail
      have bp00 := World.block_lt_of_cell? _ _ p00
      dsimp only at bp00
      rw [rounds_succ]
      go_wp2_with fail
      refine useK w (w2c.out _) (by go_grown) ?_; rintro e w2 rfl hB2 hk2 hs2
      replace p00 := hk2 _ _ _ p00; replace p01 := hk2 _ _ _ p01; replace p02 := hk2 _ _ _ p02; replace p03 := hk2 _ _ _ p03; replace p04 := hk2 _ _ _ p04; replace p05 := hk2 _ _ _ p05; replace p06 := hk2 _ _ _ p06; replace p07 := hk2 _ _ _ p07; replace p08 := hk2 _ _ _ p08; replace p09 := hk2 _ _ _ p09; replace p010 := hk2 _ _ _ p010; replace p011 := hk2 _ _ _ p011; replace p012 := hk2 _ _ _ p012; replace p013 := hk2 _ _ _ p013; replace p014 := hk2 _ _ _ p014
      clear hk2 bp00
      have bp00 := World.block_lt_of_cell? _ _ p00
      dsimp only at bp00
      go_wp2_with fail
      rw [rounds_succ]
      go_wp2_with fail
      refine useK w (w3c.out _) (by go_grown) ?_; rintro e w3 rfl hB3 hk3 hs3
      replace p00 := hk3 _ _ _ p00; replace p01 := hk3 _ _ _ p01; replace p02 := hk3 _ _ _ p02; replace p03 := hk3 _ _ _ p03; replace p04 := hk3 _ _ _ p04; replace p05 := hk3 _ _ _ p05; replace p06 := hk3 _ _ _ p06; replace p07 := hk3 _ _ _ p07; replace p08 := hk3 _ _ _ p08; replace p09 := hk3 _ _ _ p09; replace p010 := hk3 _ _ _ p010; replace p011 := hk3 _ _ _ p011; replace p012 := hk3 _ _ _ p012; replace p013 := hk3 _ _ _ p013; replace p014 := hk3 _ _ _ p014
      clear hk3 bp00
      have bp00 := World.block_lt_of_cell? _ _ p00
      dsimp only at bp00
      go_wp2_with fail
      rw [rounds_succ]
      go_wp2_with fail
      refine useK w (k1.out _) (by go_grown) ?_; rintro e w11 rfl hB11 hk11 hs11
      replace p00 := hk11 _ _ _ p00; replace p01 := hk11 _ _ _ p01; replace p02 := hk11 _ _ _ p02; replace p03 := hk11 _ _ _ p03; replace p04 := hk11 _ _ _ p04; replace p05 := hk11 _ _ _ p05; replace p06 := hk11 _ _ _ p06; replace p07 := hk11 _ _ _ p07; replace p08 := hk11 _ _ _ p08; replace p09 := hk11 _ _ _ p09; replace p010 := hk11 _ _ _ p010; replace p011 := hk11 _ _ _ p011; replace p012 := hk11 _ _ _ p012; replace p013 := hk11 _ _ _ p013; replace p014 := hk11 _ _ _ p014
      clear hk11 bp00
      have bp00 := World.block_lt_of_cell? _ _ p00
      dsimp only at bp00
      go_wp2_with fail
      refine useK w (k2.out _) (by go_grown) ?_; rintro e w12 rfl hB12 hk12 hs12
      replace p00 := hk12 _ _ _ p00; replace p01 := hk12 _ _ _ p01; replace p02 := hk12 _ _ _ p02; replace p03 := hk12 _ _ _ p03; replace p04 := hk12 _ _ _ p04; replace p05 := hk12 _ _ _ p05; replace p06 := hk12 _ _ _ p06; replace p07 := hk12 _ _ _ p07; replace p08 := hk12 _ _ _ p08; replace p09 := hk12 _ _ _ p09; replace p010 := hk12 _ _ _ p010; replace p011 := hk12 _ _ _ p011; replace p012 := hk12 _ _ _ p012; replace p013 := hk12 _ _ _ p013; replace p014 := hk12 _ _ _ p014
      clear hk12 bp00
      have bp00 := World.block_lt_of_cell? _ _ p00
      dsimp only at bp00
      go_wp2_with fail
      refine useK w (k3.out _) (by go_grown) ?_; rintro e w13 rfl hB13 hk13 hs13
      replace p00 := hk13 _ _ _ p00; replace p01 := hk13 _ _ _ p01; replace p02 := hk13 _ _ _ p02; replace p03 := hk13 _ _ _ p03; replace p04 := hk13 _ _ _ p04; replace p05 := hk13 _ _ _ p05; replace p06 := hk13 _ _ _ p06; replace p07 := hk13 _ _ _ p07; replace p08 := hk13 _ _ _ p08; replace p09 := hk13 _ _ _ p09; replace p010 := hk13 _ _ _ p010; replace p011 := hk13 _ _ _ p011; replace p012 := hk13 _ _ _ p012; replace p013 := hk13 _ _ _ p013; replace p014 := hk13 _ _ _ p014
      clear hk13 bp00
      have bp00 := World.block_lt_of_cell? _ _ p00
      dsimp only at bp00
      go_wp2_with fail
      go_ret
      exact ⟨ret_int (by rfl), by go_grown⟩
    · rw [decide_eq_true e1, decide_eq_true e2]; simp only [Bool.true_and]
      have := 0
      cases x1
      · (try simp only [Bool.false_and, Bool.and_false])
        go_enter Try.func14, Try.ntmps14
        go_wp2_with fail
        refine wp_loop_rounds 4 ?_; rw [rounds_succ]
        go_wp2_with fail
        refine useK w (w1c.out _) (by go_grown) ?_; rintro e w1 rfl hB1 hk1 hs1
        replace p00 : w1.cell? ⟨w.heap.size, 0, none⟩ = some (.int .i64 T) := hk1 _ _ _ (by simp [go_sem])
        replace p01 : w1.cell? ⟨w.heap.size, 1, none⟩ = some (.int .i64 S) := hk1 _ _ _ (by simp [go_sem])
        replace p02 : w1.cell? ⟨w.heap.size, 2, none⟩ = some (.int .i64 t1) := hk1 _ _ _ (by simp [go_sem])
        replace p03 : w1.cell? ⟨w.heap.size, 3, none⟩ = some (.int .i64 t2) := hk1 _ _ _ (by simp [go_sem])
        replace p04 : w1.cell? ⟨w.heap.size, 4, none⟩ = some (.int .i64 f1) := hk1 _ _ _ (by simp [go_sem])
        replace p05 : w1.cell? ⟨w.heap.size, 5, none⟩ = some (.int .i64 f2) := hk1 _ _ _ (by simp [go_sem])
        replace p06 : w1.cell? ⟨w.heap.size, 6, none⟩ = some (.int .i64 d1) := hk1 _ _ _ (by simp [go_sem])
        replace p07 : w1.cell? ⟨w.heap.size, 7, none⟩ = some (.int .i64 d2) := hk1 _ _ _ (by simp [go_sem])
        replace p08 : w1.cell? ⟨w.heap.size, 8, none⟩ = some (.int .i64 d3) := hk1 _ _ _ (by simp [go_sem])
        replace p09 : w1.cell? ⟨w.heap.size, 9, none⟩ = some (.int .i64 d4) := hk1 _ _ _ (by simp [go_sem])
        replace p010 : w1.cell? ⟨w.heap.size, 10, none⟩ = some (.int .i64 d5) := hk1 _ _ _ (by simp [go_sem])
        replace p011 : w1.cell? ⟨w.heap.size, 11, none⟩ = some (.int .i64 d6) := hk1 _ _ _ (by simp [go_sem])
        replace p012 : w1.cell? ⟨w.heap.size, 12, none⟩ = some (Value.slice q l.length cap) := hk1 _ _ _ (by simp [go_sem])
        replace p013 : w1.cell? ⟨w.heap.size, 13, none⟩ = some (.int .i64 p1) := hk1 _ _ _ (by simp [go_sem])
        replace p014 : w1.cell? ⟨w.heap.size, 14, none⟩ = some (.int .i64 p2) := hk1 _ _ _ (by simp [go_sem])
        have bp00 : w.heap.size < w1.heap.size := World.block_lt_of_cell? w1 ⟨w.heap.size, 0, none⟩ p00
        clear hk1
        go_wp2_with fail
        have bp00 := World.block_lt_of_cell? _ _ p00
        dsimp only at bp00
        rw [rounds_succ]
        go_wp2_with fail
        refine useK w (w2c.out _) (by go_grown) ?_; rintro e w2 rfl hB2 hk2 hs2
        replace p00 := hk2 _ _ _ p00; replace p01 := hk2 _ _ _ p01; replace p02 := hk2 _ _ _ p02; replace p03 := hk2 _ _ _ p03; replace p04 := hk2 _ _ _ p04; replace p05 := hk2 _ _ _ p05; replace p06 := hk2 _ _ _ p06; replace p07 := hk2 _ _ _ p07; replace p08 := hk2 _ _ _ p08; replace p09 := hk2 _ _ _ p09; replace p010 := hk2 _ _ _ p010; replace p011 := hk2 _ _ _ p011; replace p012 := hk2 _ _ _ p012; replace p013 := hk2 _ _ _ p013; replace p014 := hk2 _ _ _ p014
        clear hk2 bp00
        have bp00 := World.block_lt_of_cell? _ _ p00
        dsimp only at bp00
        go_wp2_with fail
        rw [rounds_succ]
        go_wp2_with fail
        refine useK w (w3c.out _) (by go_grown) ?_; rintro e w3 rfl hB3 hk3 hs3
        replace p00 := hk3 _ _ _ p00; replace p01 := hk3 _ _ _ p01; replace p02 := hk3 _ _ _ p02; replace p03 := hk3 _ _ _ p03; replace p04 := hk3 _ _ _ p04; replace p05 := hk3 _ _ _ p05; replace p06 := hk3 _ _ _ p06; replace p07 := hk3 _ _ _ p07; replace p08 := hk3 _ _ _ p08; replace p09 := hk3 _ _ _ p09; replace p010 := hk3 _ _ _ p010; replace p011 := hk3 _ _ _ p011; replace p012 := hk3 _ _ _ p012; replace p013 := hk3 _ _ _ p013; replace p014 := hk3 _ _ _ p014
        clear hk3 bp00
        have bp00 := World.block_lt_of_cell? _ _ p00
        dsimp only at bp00
        go_wp2_with fail
        rw [rounds_succ]
        go_wp2_with fail
        refine useK w (k1.out _) (by go_grown) ?_; rintro e w11 rfl hB11 hk11 hs11
        replace p00 := hk11 _ _ _ p00; replace p01 := hk11 _ _ _ p01; replace p02 := hk11 _ _ _ p02; replace p03 := hk11 _ _ _ p03; replace p04 := hk11 _ _ _ p04; replace p05 := hk11 _ _ _ p05; replace p06 := hk11 _ _ _ p06; replace p07 := hk11 _ _ _ p07; replace p08 := hk11 _ _ _ p08; replace p09 := hk11 _ _ _ p09; replace p010 := hk11 _ _ _ p010; replace p011 := hk11 _ _ _ p011; replace p012 := hk11 _ _ _ p012; replace p013 := hk11 _ _ _ p013; replace p014 := hk11 _ _ _ p014
        clear hk11 bp00
        have bp00 := World.block_lt_of_cell? _ _ p00
        dsimp only at bp00
        go_wp2_with fail
        go_ret
        exact ⟨ret_int (by rfl), by go_grown⟩
      cases x2
      · (try simp only [Bool.false_and, Bool.and_false])
        go_enter Try.func14, Try.ntmps14
        go_wp2_with fail
        refine wp_loop_rounds 4 ?_; rw [rounds_succ]
        go_wp2_with fail
        refine useK w (w1c.out _) (by go_grown) ?_; rintro e w1 rfl hB1 hk1 hs1
        replace p00 : w1.cell? ⟨w.heap.size, 0, none⟩ = some (.int .i64 T) := hk1 _ _ _ (by simp [go_sem])
        replace p01 : w1.cell? ⟨w.heap.size, 1, none⟩ = some (.int .i64 S) := hk1 _ _ _ (by simp [go_sem])
        replace p02 : w1.cell? ⟨w.heap.size, 2, none⟩ = some (.int .i64 t1) := hk1 _ _ _ (by simp [go_sem])
        replace p03 : w1.cell? ⟨w.heap.size, 3, none⟩ = some (.int .i64 t2) := hk1 _ _ _ (by simp [go_sem])
        replace p04 : w1.cell? ⟨w.heap.size, 4, none⟩ = some (.int .i64 f1) := hk1 _ _ _ (by simp [go_sem])
        replace p05 : w1.cell? ⟨w.heap.size, 5, none⟩ = some (.int .i64 f2) := hk1 _ _ _ (by simp [go_sem])
        replace p06 : w1.cell? ⟨w.heap.size, 6, none⟩ = some (.int .i64 d1) := hk1 _ _ _ (by simp [go_sem])
        replace p07 : w1.cell? ⟨w.heap.size, 7, none⟩ = some (.int .i64 d2) := hk1 _ _ _ (by simp [go_sem])
        replace p08 : w1.cell? ⟨w.heap.size, 8, none⟩ = some (.int .i64 d3) := hk1 _ _ _ (by simp [go_sem])
        replace p09 : w1.cell? ⟨w.heap.size, 9, none⟩ = some (.int .i64 d4) := hk1 _ _ _ (by simp [go_sem])
        replace p010 : w1.cell? ⟨w.heap.size, 10, none⟩ = some (.int .i64 d5) := hk1 _ _ _ (by simp [go_sem])
        replace p011 : w1.cell? ⟨w.heap.size, 11, none⟩ = some (.int .i64 d6) := hk1 _ _ _ (by simp [go_sem])
        replace p012 : w1.cell? ⟨w.heap.size, 12, none⟩ = some (Value.slice q l.length cap) := hk1 _ _ _ (by simp [go_sem])
        replace p013 : w1.cell? ⟨w.heap.size, 13, none⟩ = some (.int .i64 p1) := hk1 _ _ _ (by simp [go_sem])
        replace p014 : w1.cell? ⟨w.heap.size, 14, none⟩ = some (.int .i64 p2) := hk1 _ _ _ (by simp [go_sem])
        have bp00 : w.heap.size < w1.heap.size := World.block_lt_of_cell? w1 ⟨w.heap.size, 0, none⟩ p00
        clear hk1
        go_wp2_with fail
        have bp00 := World.block_lt_of_cell? _ _ p00
        dsimp only at bp00
        rw [rounds_succ]
        go_wp2_with fail
        refine useK w (w2c.out _) (by go_grown) ?_; rintro e w2 rfl hB2 hk2 hs2
        replace p00 := hk2 _ _ _ p00; replace p01 := hk2 _ _ _ p01; replace p02 := hk2 _ _ _ p02; replace p03 := hk2 _ _ _ p03; replace p04 := hk2 _ _ _ p04; replace p05 := hk2 _ _ _ p05; replace p06 := hk2 _ _ _ p06; replace p07 := hk2 _ _ _ p07; replace p08 := hk2 _ _ _ p08; replace p09 := hk2 _ _ _ p09; replace p010 := hk2 _ _ _ p010; replace p011 := hk2 _ _ _ p011; replace p012 := hk2 _ _ _ p012; replace p013 := hk2 _ _ _ p013; replace p014 := hk2 _ _ _ p014
        clear hk2 bp00
        have bp00 := World.block_lt_of_cell? _ _ p00
        dsimp only at bp00
        go_wp2_with fail
        rw [rounds_succ]
        go_wp2_with fail
        refine useK w (w3c.out _) (by go_grown) ?_; rintro e w3 rfl hB3 hk3 hs3
        replace p00 := hk3 _ _ _ p00; replace p01 := hk3 _ _ _ p01; replace p02 := hk3 _ _ _ p02; replace p03 := hk3 _ _ _ p03; replace p04 := hk3 _ _ _ p04; replace p05 := hk3 _ _ _ p05; replace p06 := hk3 _ _ _ p06; replace p07 := hk3 _ _ _ p07; replace p08 := hk3 _ _ _ p08; replace p09 := hk3 _ _ _ p09; replace p010 := hk3 _ _ _ p010; replace p011 := hk3 _ _ _ p011; replace p012 := hk3 _ _ _ p012; replace p013 := hk3 _ _ _ p013; replace p014 := hk3 _ _ _ p014
        clear hk3 bp00
        have bp00 := World.block_lt_of_cell? _ _ p00
        dsimp only at bp00
        go_wp2_with fail
        rw [rounds_succ]
        go_wp2_with fail
        refine useK w (k1.out _) (by go_grown) ?_; rintro e w11 rfl hB11 hk11 hs11
        replace p00 := hk11 _ _ _ p00; replace p01 := hk11 _ _ _ p01; replace p02 := hk11 _ _ _ p02; replace p03 := hk11 _ _ _ p03; replace p04 := hk11 _ _ _ p04; replace p05 := hk11 _ _ _ p05; replace p06 := hk11 _ _ _ p06; replace p07 := hk11 _ _ _ p07; replace p08 := hk11 _ _ _ p08; replace p09 := hk11 _ _ _ p09; replace p010 := hk11 _ _ _ p010; replace p011 := hk11 _ _ _ p011; replace p012 := hk11 _ _ _ p012; replace p013 := hk11 _ _ _ p013; replace p014 := hk11 _ _ _ p014
        clear hk11 bp00
        have bp00 := World.block_lt_of_cell? _ _ p00
        dsimp only at bp00
        go_wp2_with fail
        refine useK w (k2.out _) (by go_grown) ?_; rintro e w12 rfl hB12 hk12 hs12
        replace p00 := hk12 _ _ _ p00; replace p01 := hk12 _ _ _ p01; replace p02 := hk12 _ _ _ p02; replace p03 := hk12 _ _ _ p03; replace p04 := hk12 _ _ _ p04; replace p05 := hk12 _ _ _ p05; replace p06 := hk12 _ _ _ p06; replace p07 := hk12 _ _ _ p07; replace p08 := hk12 _ _ _ p08; replace p09 := hk12 _ _ _ p09; replace p010 := hk12 _ _ _ p010; replace p011 := hk12 _ _ _ p011; replace p012 := hk12 _ _ _ p012; replace p013 := hk12 _ _ _ p013; replace p014 := hk12 _ _ _ p014
        clear hk12 bp00
        have bp00 := World.block_lt_of_cell? _ _ p00
        dsimp only at bp00
        go_wp2_with fail
        go_ret
        exact ⟨ret_int (by rfl), by go_grown⟩
      cases x3
      · (try simp only [Bool.false_and, Bool.and_false])
        go_enter Try.func14, Try.ntmps14
        go_wp2_with fail
        refine wp_loop_rounds 4 ?_; rw [rounds_succ]
        go_wp2_with fail
        refine useK w (w1c.out _) (by go_grown) ?_; rintro e w1 rfl hB1 hk1 hs1
        replace p00 : w1.cell? ⟨w.heap.size, 0, none⟩ = some (.int .i64 T) := hk1 _ _ _ (by simp [go_sem])
        replace p01 : w1.cell? ⟨w.heap.size, 1, none⟩ = some (.int .i64 S) := hk1 _ _ _ (by simp [go_sem])
        replace p02 : w1.cell? ⟨w.heap.size, 2, none⟩ = some (.int .i64 t1) := hk1 _ _ _ (by simp [go_sem])
        replace p03 : w1.cell? ⟨w.heap.size, 3, none⟩ = some (.int .i64 t2) := hk1 _ _ _ (by simp [go_sem])
        replace p04 : w1.cell? ⟨w.heap.size, 4, none⟩ = some (.int .i64 f1) := hk1 _ _ _ (by simp [go_sem])
        replace p05 : w1.cell? ⟨w.heap.size, 5, none⟩ = some (.int .i64 f2) := hk1 _ _ _ (by simp [go_sem])
        replace p06 : w1.cell? ⟨w.heap.size, 6, none⟩ = some (.int .i64 d1) := hk1 _ _ _ (by simp [go_sem])
        replace p07 : w1.cell? ⟨w.heap.size, 7, none⟩ = some (.int .i64 d2) := hk1 _ _ _ (by simp [go_sem])
        replace p08 : w1.cell? ⟨w.heap.size, 8, none⟩ = some (.int .i64 d3) := hk1 _ _ _ (by simp [go_sem])
        replace p09 : w1.cell? ⟨w.heap.size, 9, none⟩ = some (.int .i64 d4) := hk1 _ _ _ (by simp [go_sem])
        replace p010 : w1.cell? ⟨w.heap.size, 10, none⟩ = some (.int .i64 d5) := hk1 _ _ _ (by simp [go_sem])
        replace p011 : w1.cell? ⟨w.heap.size, 11, none⟩ = some (.int .i64 d6) := hk1 _ _ _ (by simp [go_sem])
        replace p012 : w1.cell? ⟨w.heap.size, 12, none⟩ = some (Value.slice q l.length cap) := hk1 _ _ _ (by simp [go_sem])
        replace p013 : w1.cell? ⟨w.heap.size, 13, none⟩ = some (.int .i64 p1) := hk1 _ _ _ (by simp [go_sem])
        replace p014 : w1.cell? ⟨w.heap.size, 14, none⟩ = some (.int .i64 p2) := hk1 _ _ _ (by simp [go_sem])
        have bp00 : w.heap.size < w1.heap.size := World.block_lt_of_cell? w1 ⟨w.heap.size, 0, none⟩ p00
        clear hk1
        go_wp2_with fail
        have bp00 := World.block_lt_of_cell? _ _ p00
        dsimp only at bp00
        rw [rounds_succ]
        go_wp2_with fail
        refine useK w (w2c.out _) (by go_grown) ?_; rintro e w2 rfl hB2 hk2 hs2
        replace p00 := hk2 _ _ _ p00; replace p01 := hk2 _ _ _ p01; replace p02 := hk2 _ _ _ p02; replace p03 := hk2 _ _ _ p03; replace p04 := hk2 _ _ _ p04; replace p05 := hk2 _ _ _ p05; replace p06 := hk2 _ _ _ p06; replace p07 := hk2 _ _ _ p07; replace p08 := hk2 _ _ _ p08; replace p09 := hk2 _ _ _ p09; replace p010 := hk2 _ _ _ p010; replace p011 := hk2 _ _ _ p011; replace p012 := hk2 _ _ _ p012; replace p013 := hk2 _ _ _ p013; replace p014 := hk2 _ _ _ p014
        clear hk2 bp00
        have bp00 := World.block_lt_of_cell? _ _ p00
        dsimp only at bp00
        go_wp2_with fail
        rw [rounds_succ]
        go_wp2_with fail
        refine useK w (w3c.out _) (by go_grown) ?_; rintro e w3 rfl hB3 hk3 hs3
        replace p00 := hk3 _ _ _ p00; replace p01 := hk3 _ _ _ p01; replace p02 := hk3 _ _ _ p02; replace p03 := hk3 _ _ _ p03; replace p04 := hk3 _ _ _ p04; replace p05 := hk3 _ _ _ p05; replace p06 := hk3 _ _ _ p06; replace p07 := hk3 _ _ _ p07; replace p08 := hk3 _ _ _ p08; replace p09 := hk3 _ _ _ p09; replace p010 := hk3 _ _ _ p010; replace p011 := hk3 _ _ _ p011; replace p012 := hk3 _ _ _ p012; replace p013 := hk3 _ _ _ p013; replace p014 := hk3 _ _ _ p014
        clear hk3 bp00
        have bp00 := World.block_lt_of_cell? _ _ p00
        dsimp only at bp00
        go_wp2_with fail
        rw [rounds_succ]
        go_wp2_with fail
        refine useK w (k1.out _) (by go_grown) ?_; rintro e w11 rfl hB11 hk11 hs11
        replace p00 := hk11 _ _ _ p00; replace p01 := hk11 _ _ _ p01; replace p02 := hk11 _ _ _ p02; replace p03 := hk11 _ _ _ p03; replace p04 := hk11 _ _ _ p04; replace p05 := hk11 _ _ _ p05; replace p06 := hk11 _ _ _ p06; replace p07 := hk11 _ _ _ p07; replace p08 := hk11 _ _ _ p08; replace p09 := hk11 _ _ _ p09; replace p010 := hk11 _ _ _ p010; replace p011 := hk11 _ _ _ p011; replace p012 := hk11 _ _ _ p012; replace p013 := hk11 _ _ _ p013; replace p014 := hk11 _ _ _ p014
        clear hk11 bp00
        have bp00 := World.block_lt_of_cell? _ _ p00
        dsimp only at bp00
        go_wp2_with fail
        refine useK w (k2.out _) (by go_grown) ?_; rintro e w12 rfl hB12 hk12 hs12
        replace p00 := hk12 _ _ _ p00; replace p01 := hk12 _ _ _ p01; replace p02 := hk12 _ _ _ p02; replace p03 := hk12 _ _ _ p03; replace p04 := hk12 _ _ _ p04; replace p05 := hk12 _ _ _ p05; replace p06 := hk12 _ _ _ p06; replace p07 := hk12 _ _ _ p07; replace p08 := hk12 _ _ _ p08; replace p09 := hk12 _ _ _ p09; replace p010 := hk12 _ _ _ p010; replace p011 := hk12 _ _ _ p011; replace p012 := hk12 _ _ _ p012; replace p013 := hk12 _ _ _ p013; replace p014 := hk12 _ _ _ p014
        clear hk12 bp00
        have bp00 := World.block_lt_of_cell? _ _ p00
        dsimp only at bp00
        go_wp2_with fail
        refine useK w (k3.out _) (by go_grown) ?_; rintro e w13 rfl hB13 hk13 hs13
        replace p00 := hk13 _ _ _ p00; replace p01 := hk13 _ _ _ p01; replace p02 := hk13 _ _ _ p02; replace p03 := hk13 _ _ _ p03; replace p04 := hk13 _ _ _ p04; replace p05 := hk13 _ _ _ p05; replace p06 := hk13 _ _ _ p06; replace p07 := hk13 _ _ _ p07; replace p08 := hk13 _ _ _ p08; replace p09 := hk13 _ _ _ p09; replace p010 := hk13 _ _ _ p010; replace p011 := hk13 _ _ _ p011; replace p012 := hk13 _ _ _ p012; replace p013 := hk13 _ _ _ p013; replace p014 := hk13 _ _ _ p014
        clear hk13 bp00
        have bp00 := World.block_lt_of_cell? _ _ p00
        dsimp only at bp00
        go_wp2_with fail
        go_ret
        exact ⟨ret_int (by rfl), by go_grown⟩
      go_enter Try.func14, Try.ntmps14
      go_wp2_with fail
      refine wp_loop_rounds 4 ?_; rw [rounds_succ]
      go_wp2_with fail
      refine useK w (w1c.out _) (by go_grown) ?_; rintro e w1 rfl hB1 hk1 hs1
      replace p00 : w1.cell? ⟨w.heap.size, 0, none⟩ = some (.int .i64 T) := hk1 _ _ _ (by simp [go_sem])
      replace p01 : w1.cell? ⟨w.heap.size, 1, none⟩ = some (.int .i64 S) := hk1 _ _ _ (by simp [go_sem])
      replace p02 : w1.cell? ⟨w.heap.size, 2, none⟩ = some (.int .i64 t1) := hk1 _ _ _ (by simp [go_sem])
      replace p03 : w1.cell? ⟨w.heap.size, 3, none⟩ = some (.int .i64 t2) := hk1 _ _ _ (by simp [go_sem])
      replace p04 : w1.cell? ⟨w.heap.size, 4, none⟩ = some (.int .i64 f1) := hk1 _ _ _ (by simp [go_sem])
      replace p05 : w1.cell? ⟨w.heap.size, 5, none⟩ = some (.int .i64 f2) := hk1 _ _ _ (by simp [go_sem])
      replace p06 : w1.cell? ⟨w.heap.size, 6, none⟩ = some (.int .i64 d1) := hk1 _ _ _ (by simp [go_sem])
      replace p07 : w1.cell? ⟨w.heap.size, 7, none⟩ = some (.int .i64 d2) := hk1 _ _ _ (by simp [go_sem])
      replace p08 : w1.cell? ⟨w.heap.size, 8, none⟩ = some (.int .i64 d3) := hk1 _ _ _ (by simp [go_sem])
      replace p09 : w1.cell? ⟨w.heap.size, 9, none⟩ = some (.int .i64 d4) := hk1 _ _ _ (by simp [go_sem])
      replace p010 : w1.cell? ⟨w.heap.size, 10, none⟩ = some (.int .i64 d5) := hk1 _ _ _ (by simp [go_sem])
      replace p011 : w1.cell? ⟨w.heap.size, 11, none⟩ = some (.int .i64 d6) := hk1 _ _ _ (by simp [go_sem])
      replace p012 : w1.cell? ⟨w.heap.size, 12, none⟩ = some (Value.slice q l.length cap) := hk1 _ _ _ (by simp [go_sem])
      replace p013 : w1.cell? ⟨w.heap.size, 13, none⟩ = some (.int .i64 p1) := hk1 _ _ _ (by simp [go_sem])
      replace p014 : w1.cell? ⟨w.heap.size, 14, none⟩ = some (.int .i64 p2) := hk1 _ _ _ (by simp [go_sem])
      have bp00 : w.heap.size < w1.heap.size := World.block_lt_of_cell? w1 ⟨w.heap.size, 0, none⟩ p00
      clear hk1
      go_wp2_with fail
      have bp00 := World.block_lt_of_cell? _ _ p00
      dsimp only at bp00
      rw [rounds_succ]
      go_wp2_with fail
      refine useK w (w2c.out _) (by go_grown) ?_; rintro e w2 rfl hB2 hk2 hs2
      replace p00 := hk2 _ _ _ p00; replace p01 := hk2 _ _ _ p01; replace p02 := hk2 _ _ _ p02; replace p03 := hk2 _ _ _ p03; replace p04 := hk2 _ _ _ p04; replace p05 := hk2 _ _ _ p05; replace p06 := hk2 _ _ _ p06; replace p07 := hk2 _ _ _ p07; replace p08 := hk2 _ _ _ p08; replace p09 := hk2 _ _ _ p09; replace p010 := hk2 _ _ _ p010; replace p011 := hk2 _ _ _ p011; replace p012 := hk2 _ _ _ p012; replace p013 := hk2 _ _ _ p013; replace p014 := hk2 _ _ _ p014
      clear hk2 bp00
      have bp00 := World.block_lt_of_cell? _ _ p00
      dsimp only at bp00
      go_wp2_with fail
      rw [rounds_succ]
      go_wp2_with fail
      refine useK w (w3c.out _) (by go_grown) ?_; rintro e w3 rfl hB3 hk3 hs3
      replace p00 := hk3 _ _ _ p00; replace p01 := hk3 _ _ _ p01; replace p02 := hk3 _ _ _ p02; replace p03 := hk3 _ _ _ p03; replace p04 := hk3 _ _ _ p04; replace p05 := hk3 _ _ _ p05; replace p06 := hk3 _ _ _ p06; replace p07 := hk3 _ _ _ p07; replace p08 := hk3 _ _ _ p08; replace p09 := hk3 _ _ _ p09; replace p010 := hk3 _ _ _ p010; replace p011 := hk3 _ _ _ p011; replace p012 := hk3 _ _ _ p012; replace p013 := hk3 _ _ _ p013; replace p014 := hk3 _ _ _ p014
      clear hk3 bp00
      have bp00 := World.block_lt_of_cell? _ _ p00
      dsimp only at bp00
      go_wp2_with fail
      rw [rounds_succ]
      go_wp2_with fail
      refine useK w (k1.out _) (by go_grown) ?_; rintro e w11 rfl hB11 hk11 hs11
      replace p00 := hk11 _ _ _ p00; replace p01 := hk11 _ _ _ p01; replace p02 := hk11 _ _ _ p02; replace p03 := hk11 _ _ _ p03; replace p04 := hk11 _ _ _ p04; replace p05 := hk11 _ _ _ p05; replace p06 := hk11 _ _ _ p06; replace p07 := hk11 _ _ _ p07; replace p08 := hk11 _ _ _ p08; replace p09 := hk11 _ _ _ p09; replace p010 := hk11 _ _ _ p010; replace p011 := hk11 _ _ _ p011; replace p012 := hk11 _ _ _ p012; replace p013 := hk11 _ _ _ p013; replace p014 := hk11 _ _ _ p014
      clear hk11 bp00
      have bp00 := World.block_lt_of_cell? _ _ p00
      dsimp only at bp00
      go_wp2_with fail
      refine useK w (k2.out _) (by go_grown) ?_; rintro e w12 rfl hB12 hk12 hs12
      replace p00 := hk12 _ _ _ p00; replace p01 := hk12 _ _ _ p01; replace p02 := hk12 _ _ _ p02; replace p03 := hk12 _ _ _ p03; replace p04 := hk12 _ _ _ p04; replace p05 := hk12 _ _ _ p05; replace p06 := hk12 _ _ _ p06; replace p07 := hk12 _ _ _ p07; replace p08 := hk12 _ _ _ p08; replace p09 := hk12 _ _ _ p09; replace p010 := hk12 _ _ _ p010; replace p011 := hk12 _ _ _ p011; replace p012 := hk12 _ _ _ p012; replace p013 := hk12 _ _ _ p013; replace p014 := hk12 _ _ _ p014
      clear hk12 bp00
      have bp00 := World.block_lt_of_cell? _ _ p00
      dsimp only at bp00
      go_wp2_with fail
      refine useK w (k3.out _) (by go_grown) ?_; rintro e w13 rfl hB13 hk13 hs13
      replace p00 := hk13 _ _ _ p00; replace p01 := hk13 _ _ _ p01; replace p02 := hk13 _ _ _ p02; replace p03 := hk13 _ _ _ p03; replace p04 := hk13 _ _ _ p04; replace p05 := hk13 _ _ _ p05; replace p06 := hk13 _ _ _ p06; replace p07 := hk13 _ _ _ p07; replace p08 := hk13 _ _ _ p08; replace p09 := hk13 _ _ _ p09; replace p010 := hk13 _ _ _ p010; replace p011 := hk13 _ _ _ p011; replace p012 := hk13 _ _ _ p012; replace p013 := hk13 _ _ _ p013; replace p014 := hk13 _ _ _ p014
      clear hk13 bp00
      have bp00 := World.block_lt_of_cell? _ _ p00
      dsimp only at bp00
      go_wp2_with fail
      go_ret
      exact ⟨ret_int (by rfl), by go_grown⟩
  · have z1 : ((l.length : Int) == 0) = false := by rw [beq_eq_false_iff_ne]; omega
    rw [decide_eq_false (show ¬ l.length = 0 by omega), Bool.false_or]
    replace kt := hid (kt.out g4)
    clear g4
    rcases (by omega : T ≤ 0 ∨ (0 < T ∧ S ≤ 0) ∨ (0 < T ∧ 0 < S)) with e1 | ⟨e1, e2⟩ | ⟨e1, e2⟩
    · rw [decide_eq_false (show ¬ 0 < T by omega)]; simp only [Bool.false_and]
      cases tb
      all_goals
        first | rw [errB_t] at kt | rw [errB_f] at kt
        cases x1
        · (try simp only [Bool.false_and, Bool.and_false])
          go_enter Try.func14, Try.ntmps14
          go_wp2_with fail
          refine wp_loop_rounds 4 ?_; rw [rounds_succ]
          go_wp2_with fail
          refine useK w (w1c.out _) (by go_grown) ?_; rintro e w1 rfl hB1 hk1 hs1
          replace p00 : w1.cell? ⟨w.heap.size, 0, none⟩ = some (.int .i64 T) := hk1 _ _ _ (by simp [go_sem])
          replace p01 : w1.cell? ⟨w.heap.size, 1, none⟩ = some (.int .i64 S) := hk1 _ _ _ (by simp [go_sem])
          replace p02 : w1.cell? ⟨w.heap.size, 2, none⟩ = some (.int .i64 t1) := hk1 _ _ _ (by simp [go_sem])
          replace p03 : w1.cell? ⟨w.heap.size, 3, none⟩ = some (.int .i64 t2) := hk1 _ _ _ (by simp [go_sem])
          replace p04 : w1.cell? ⟨w.heap.size, 4, none⟩ = some (.int .i64 f1) := hk1 _ _ _ (by simp [go_sem])
          replace p05 : w1.cell? ⟨w.heap.size, 5, none⟩ = some (.int .i64 f2) := hk1 _ _ _ (by simp [go_sem])
          replace p06 : w1.cell? ⟨w.heap.size, 6, none⟩ = some (.int .i64 d1) := hk1 _ _ _ (by simp [go_sem])
          replace p07 : w1.cell? ⟨w.heap.size, 7, none⟩ = some (.int .i64 d2) := hk1 _ _ _ (by simp [go_sem])
          replace p08 : w1.cell? ⟨w.heap.size, 8, none⟩ = some (.int .i64 d3) := hk1 _ _ _ (by simp [go_sem])
          replace p09 : w1.cell? ⟨w.heap.size, 9, none⟩ = some (.int .i64 d4) := hk1 _ _ _ (by simp [go_sem])
          replace p010 : w1.cell? ⟨w.heap.size, 10, none⟩ = some (.int .i64 d5) := hk1 _ _ _ (by simp [go_sem])
          replace p011 : w1.cell? ⟨w.heap.size, 11, none⟩ = some (.int .i64 d6) := hk1 _ _ _ (by simp [go_sem])
          replace p012 : w1.cell? ⟨w.heap.size, 12, none⟩ = some (Value.slice q l.length cap) := hk1 _ _ _ (by simp [go_sem])
          replace p013 : w1.cell? ⟨w.heap.size, 13, none⟩ = some (.int .i64 p1) := hk1 _ _ _ (by simp [go_sem])
          replace p014 : w1.cell? ⟨w.heap.size, 14, none⟩ = some (.int .i64 p2) := hk1 _ _ _ (by simp [go_sem])
          have bp00 : w.heap.size < w1.heap.size := World.block_lt_of_cell? w1 ⟨w.heap.size, 0, none⟩ p00
          clear hk1
          go_wp2_with fail
          have bp00 := World.block_lt_of_cell? _ _ p00
          dsimp only at bp00
          rw [rounds_succ]
          go_wp2_with fail
          refine useK w (w2c.out _) (by go_grown) ?_; rintro e w2 rfl hB2 hk2 hs2
          replace p00 := hk2 _ _ _ p00; replace p01 := hk2 _ _ _ p01; replace p02 := hk2 _ _ _ p02; replace p03 := hk2 _ _ _ p03; replace p04 := hk2 _ _ _ p04; replace p05 := hk2 _ _ _ p05; replace p06 := hk2 _ _ _ p06; replace p07 := hk2 _ _ _ p07; replace p08 := hk2 _ _ _ p08; replace p09 := hk2 _ _ _ p09; replace p010 := hk2 _ _ _ p010; replace p011 := hk2 _ _ _ p011; replace p012 := hk2 _ _ _ p012; replace p013 := hk2 _ _ _ p013; replace p014 := hk2 _ _ _ p014
          clear hk2 bp00
          have bp00 := World.block_lt_of_cell? _ _ p00
          dsimp only at bp00
          go_wp2_with fail
          rw [rounds_succ]
          go_wp2_with fail
          refine useK w (w3c.out _) (by go_grown) ?_; rintro e w3 rfl hB3 hk3 hs3
          replace p00 := hk3 _ _ _ p00; replace p01 := hk3 _ _ _ p01; replace p02 := hk3 _ _ _ p02; replace p03 := hk3 _ _ _ p03; replace p04 := hk3 _ _ _ p04; replace p05 := hk3 _ _ _ p05; replace p06 := hk3 _ _ _ p06; replace p07 := hk3 _ _ _ p07; replace p08 := hk3 _ _ _ p08; replace p09 := hk3 _ _ _ p09; replace p010 := hk3 _ _ _ p010; replace p011 := hk3 _ _ _ p011; replace p012 := hk3 _ _ _ p012; replace p013 := hk3 _ _ _ p013; replace p014 := hk3 _ _ _ p014
          clear hk3 bp00
          have bp00 := World.block_lt_of_cell? _ _ p00
          dsimp only at bp00
          go_wp2_with fail
          rw [rounds_succ]
          go_wp2_with fail
          refine useK w (k1.out _) (by go_grown) ?_; rintro e w11 rfl hB11 hk11 hs11
          replace p00 := hk11 _ _ _ p00; replace p01 := hk11 _ _ _ p01; replace p02 := hk11 _ _ _ p02; replace p03 := hk11 _ _ _ p03; replace p04 := hk11 _ _ _ p04; replace p05 := hk11 _ _ _ p05; replace p06 := hk11 _ _ _ p06; replace p07 := hk11 _ _ _ p07; replace p08 := hk11 _ _ _ p08; replace p09 := hk11 _ _ _ p09; replace p010 := hk11 _ _ _ p010; replace p011 := hk11 _ _ _ p011; replace p012 := hk11 _ _ _ p012; replace p013 := hk11 _ _ _ p013; replace p014 := hk11 _ _ _ p014
          clear hk11 bp00
          have bp00 := World.block_lt_of_cell? _ _ p00
          dsimp only at bp00
          go_wp2_with fail
          refine useK w (kt.out _ (by go_grown)) (by go_grown) ?_; rintro e w20 rfl hB20 hk20 hs20
          replace p00 := hk20 _ _ _ p00; replace p01 := hk20 _ _ _ p01; replace p02 := hk20 _ _ _ p02; replace p03 := hk20 _ _ _ p03; replace p04 := hk20 _ _ _ p04; replace p05 := hk20 _ _ _ p05; replace p06 := hk20 _ _ _ p06; replace p07 := hk20 _ _ _ p07; replace p08 := hk20 _ _ _ p08; replace p09 := hk20 _ _ _ p09; replace p010 := hk20 _ _ _ p010; replace p011 := hk20 _ _ _ p011; replace p012 := hk20 _ _ _ p012; replace p013 := hk20 _ _ _ p013; replace p014 := hk20 _ _ _ p014
          clear hk20 bp00
          have bp00 := World.block_lt_of_cell? _ _ p00
          dsimp only at bp00
          go_wp2_with fail
          go_ret
          exact ⟨ret_int (by rfl), by go_grown⟩
        cases x2
        · (try simp only [Bool.false_and, Bool.and_false])
          go_enter Try.func14, Try.ntmps14
          go_wp2_with fail
          refine wp_loop_rounds 4 ?_; rw [rounds_succ]
          go_wp2_with fail
          refine useK w (w1c.out _) (by go_grown) ?_; rintro e w1 rfl hB1 hk1 hs1
          replace p00 : w1.cell? ⟨w.heap.size, 0, none⟩ = some (.int .i64 T) := hk1 _ _ _ (by simp [go_sem])
          replace p01 : w1.cell? ⟨w.heap.size, 1, none⟩ = some (.int .i64 S) := hk1 _ _ _ (by simp [go_sem])
          replace p02 : w1.cell? ⟨w.heap.size, 2, none⟩ = some (.int .i64 t1) := hk1 _ _ _ (by simp [go_sem])
          replace p03 : w1.cell? ⟨w.heap.size, 3, none⟩ = some (.int .i64 t2) := hk1 _ _ _ (by simp [go_sem])
          replace p04 : w1.cell? ⟨w.heap.size, 4, none⟩ = some (.int .i64 f1) := hk1 _ _ _ (by simp [go_sem])
          replace p05 : w1.cell? ⟨w.heap.size, 5, none⟩ = some (.int .i64 f2) := hk1 _ _ _ (by simp [go_sem])
          replace p06 : w1.cell? ⟨w.heap.size, 6, none⟩ = some (.int .i64 d1) := hk1 _ _ _ (by simp [go_sem])
          replace p07 : w1.cell? ⟨w.heap.size, 7, none⟩ = some (.int .i64 d2) := hk1 _ _ _ (by simp [go_sem])
          replace p08 : w1.cell? ⟨w.heap.size, 8, none⟩ = some (.int .i64 d3) := hk1 _ _ _ (by simp [go_sem])
          replace p09 : w1.cell? ⟨w.heap.size, 9, none⟩ = some (.int .i64 d4) := hk1 _ _ _ (by simp [go_sem])
          replace p010 : w1.cell? ⟨w.heap.size, 10, none⟩ = some (.int .i64 d5) := hk1 _ _ _ (by simp [go_sem])
          replace p011 : w1.cell? ⟨w.heap.size, 11, none⟩ = some (.int .i64 d6) := hk1 _ _ _ (by simp [go_sem])
          replace p012 : w1.cell? ⟨w.heap.size, 12, none⟩ = some (Value.slice q l.length cap) := hk1 _ _ _ (by simp [go_sem])
          replace p013 : w1.cell? ⟨w.heap.size, 13, none⟩ = some (.int .i64 p1) := hk1 _ _ _ (by simp [go_sem])
          replace p014 : w1.cell? ⟨w.heap.size, 14, none⟩ = some (.int .i64 p2) := hk1 _ _ _ (by simp [go_sem])
          have bp00 : w.heap.size < w1.heap.size := World.block_lt_of_cell? w1 ⟨w.heap.size, 0, none⟩ p00
          clear hk1
          go_wp2_with fail
          have bp00 := World.block_lt_of_cell? _ _ p00
          dsimp only at bp00
          rw [rounds_succ]
          go_wp2_with fail
          refine useK w (w2c.out _) (by go_grown) ?_; rintro e w2 rfl hB2 hk2 hs2
          replace p00 := hk2 _ _ _ p00; replace p01 := hk2 _ _ _ p01; replace p02 := hk2 _ _ _ p02; replace p03 := hk2 _ _ _ p03; replace p04 := hk2 _ _ _ p04; replace p05 := hk2 _ _ _ p05; replace p06 := hk2 _ _ _ p06; replace p07 := hk2 _ _ _ p07; replace p08 := hk2 _ _ _ p08; replace p09 := hk2 _ _ _ p09; replace p010 := hk2 _ _ _ p010; replace p011 := hk2 _ _ _ p011; replace p012 := hk2 _ _ _ p012; replace p013 := hk2 _ _ _ p013; replace p014 := hk2 _ _ _ p014
          clear hk2 bp00
          have bp00 := World.block_lt_of_cell? _ _ p00
          dsimp only at bp00
          go_wp2_with fail
          rw [rounds_succ]
          go_wp2_with fail
          refine useK w (w3c.out _) (by go_grown) ?_; rintro e w3 rfl hB3 hk3 hs3
          replace p00 := hk3 _ _ _ p00; replace p01 := hk3 _ _ _ p01; replace p02 := hk3 _ _ _ p02; replace p03 := hk3 _ _ _ p03; replace p04 := hk3 _ _ _ p04; replace p05 := hk3 _ _ _ p05; replace p06 := hk3 _ _ _ p06; replace p07 := hk3 _ _ _ p07; replace p08 := hk3 _ _ _ p08; replace p09 := hk3 _ _ _ p09; replace p010 := hk3 _ _ _ p010; replace p011 := hk3 _ _ _ p011; replace p012 := hk3 _ _ _ p012; replace p013 := hk3 _ _ _ p013; replace p014 := hk3 _ _ _ p014
          clear hk3 bp00
          have bp00 := World.block_lt_of_cell? _ _ p00
          dsimp only at bp00
          go_wp2_with fail
          rw [rounds_succ]
          go_wp2_with fail
          refine useK w (k1.out _) (by go_grown) ?_; rintro e w11 rfl hB11 hk11 hs11
          replace p00 := hk11 _ _ _ p00; replace p01 := hk11 _ _ _ p01; replace p02 := hk11 _ _ _ p02; replace p03 := hk11 _ _ _ p03; replace p04 := hk11 _ _ _ p04; replace p05 := hk11 _ _ _ p05; replace p06 := hk11 _ _ _ p06; replace p07 := hk11 _ _ _ p07; replace p08 := hk11 _ _ _ p08; replace p09 := hk11 _ _ _ p09; replace p010 := hk11 _ _ _ p010; replace p011 := hk11 _ _ _ p011; replace p012 := hk11 _ _ _ p012; replace p013 := hk11 _ _ _ p013; replace p014 := hk11 _ _ _ p014
          clear hk11 bp00
          have bp00 := World.block_lt_of_cell? _ _ p00
          dsimp only at bp00
          go_wp2_with fail
          refine useK w (k2.out _) (by go_grown) ?_; rintro e w12 rfl hB12 hk12 hs12
          replace p00 := hk12 _ _ _ p00; replace p01 := hk12 _ _ _ p01; replace p02 := hk12 _ _ _ p02; replace p03 := hk12 _ _ _ p03; replace p04 := hk12 _ _ _ p04; replace p05 := hk12 _ _ _ p05; replace p06 := hk12 _ _ _ p06; replace p07 := hk12 _ _ _ p07; replace p08 := hk12 _ _ _ p08; replace p09 := hk12 _ _ _ p09; replace p010 := hk12 _ _ _ p010; replace p011 := hk12 _ _ _ p011; replace p012 := hk12 _ _ _ p012; replace p013 := hk12 _ _ _ p013; replace p014 := hk12 _ _ _ p014
          clear hk12 bp00
          have bp00 := World.block_lt_of_cell? _ _ p00
          dsimp only at bp00
          go_wp2_with fail
          refine useK w (kt.out _ (by go_grown)) (by go_grown) ?_; rintro e w20 rfl hB20 hk20 hs20
          replace p00 := hk20 _ _ _ p00; replace p01 := hk20 _ _ _ p01; replace p02 := hk20 _ _ _ p02; replace p03 := hk20 _ _ _ p03; replace p04 := hk20 _ _ _ p04; replace p05 := hk20 _ _ _ p05; replace p06 := hk20 _ _ _ p06; replace p07 := hk20 _ _ _ p07; replace p08 := hk20 _ _ _ p08; replace p09 := hk20 _ _ _ p09; replace p010 := hk20 _ _ _ p010; replace p011 := hk20 _ _ _ p011; replace p012 := hk20 _ _ _ p012; replace p013 := hk20 _ _ _ p013; replace p014 := hk20 _ _ _ p014
          clear hk20 bp00
          have bp00 := World.block_lt_of_cell? _ _ p00
          dsimp only at bp00
          go_wp2_with fail
          go_ret
          exact ⟨ret_int (by rfl), by go_grown⟩
        cases x3
        · (try simp only [Bool.false_and, Bool.and_false])
          go_enter Try.func14, Try.ntmps14
          go_wp2_with fail
          refine wp_loop_rounds 4 ?_; rw [rounds_succ]
          go_wp2_with fail
          refine useK w (w1c.out _) (by go_grown) ?_; rintro e w1 rfl hB1 hk1 hs1
          replace p00 : w1.cell? ⟨w.heap.size, 0, none⟩ = some (.int .i64 T) := hk1 _ _ _ (by simp [go_sem])
          replace p01 : w1.cell? ⟨w.heap.size, 1, none⟩ = some (.int .i64 S) := hk1 _ _ _ (by simp [go_sem])
          replace p02 : w1.cell? ⟨w.heap.size, 2, none⟩ = some (.int .i64 t1) := hk1 _ _ _ (by simp [go_sem])
          replace p03 : w1.cell? ⟨w.heap.size, 3, none⟩ = some (.int .i64 t2) := hk1 _ _ _ (by simp [go_sem])
          replace p04 : w1.cell? ⟨w.heap.size, 4, none⟩ = some (.int .i64 f1) := hk1 _ _ _ (by simp [go_sem])
          replace p05 : w1.cell? ⟨w.heap.size, 5, none⟩ = some (.int .i64 f2) := hk1 _ _ _ (by simp [go_sem])
          replace p06 : w1.cell? ⟨w.heap.size, 6, none⟩ = some (.int .i64 d1) := hk1 _ _ _ (by simp [go_sem])
          replace p07 : w1.cell? ⟨w.heap.size, 7, none⟩ = some (.int .i64 d2) := hk1 _ _ _ (by simp [go_sem])
          replace p08 : w1.cell? ⟨w.heap.size, 8, none⟩ = some (.int .i64 d3) := hk1 _ _ _ (by simp [go_sem])
          replace p09 : w1.cell? ⟨w.heap.size, 9, none⟩ = some (.int .i64 d4) := hk1 _ _ _ (by simp [go_sem])
          replace p010 : w1.cell? ⟨w.heap.size, 10, none⟩ = some (.int .i64 d5) := hk1 _ _ _ (by simp [go_sem])
          replace p011 : w1.cell? ⟨w.heap.size, 11, none⟩ = some (.int .i64 d6) := hk1 _ _ _ (by simp [go_sem])
          replace p012 : w1.cell? ⟨w.heap.size, 12, none⟩ = some (Value.slice q l.length cap) := hk1 _ _ _ (by simp [go_sem])
          replace p013 : w1.cell? ⟨w.heap.size, 13, none⟩ = some (.int .i64 p1) := hk1 _ _ _ (by simp [go_sem])
          replace p014 : w1.cell? ⟨w.heap.size, 14, none⟩ = some (.int .i64 p2) := hk1 _ _ _ (by simp [go_sem])
          have bp00 : w.heap.size < w1.heap.size := World.block_lt_of_cell? w1 ⟨w.heap.size, 0, none⟩ p00
          clear hk1
          go_wp2_with fail
          have bp00 := World.block_lt_of_cell? _ _ p00
          dsimp only at bp00
          rw [rounds_succ]
          go_wp2_with fail
          refine useK w (w2c.out _) (by go_grown) ?_; rintro e w2 rfl hB2 hk2 hs2
          replace p00 := hk2 _ _ _ p00; replace p01 := hk2 _ _ _ p01; replace p02 := hk2 _ _ _ p02; replace p03 := hk2 _ _ _ p03; replace p04 := hk2 _ _ _ p04; replace p05 := hk2 _ _ _ p05; replace p06 := hk2 _ _ _ p06; replace p07 := hk2 _ _ _ p07; replace p08 := hk2 _ _ _ p08; replace p09 := hk2 _ _ _ p09; replace p010 := hk2 _ _ _ p010; replace p011 := hk2 _ _ _ p011; replace p012 := hk2 _ _ _ p012; replace p013 := hk2 _ _ _ p013; replace p014 := hk2 _ _ _ p014
          clear hk2 bp00
          have bp00 := World.block_lt_of_cell? _ _ p00
          dsimp only at bp00
          go_wp2_with fail
          rw [rounds_succ]
          go_wp2_with fail
          refine useK w (w3c.out _) (by go_grown) ?_; rintro e w3 rfl hB3 hk3 hs3
          replace p00 := hk3 _ _ _ p00; replace p01 := hk3 _ _ _ p01; replace p02 := hk3 _ _ _ p02; replace p03 := hk3 _ _ _ p03; replace p04 := hk3 _ _ _ p04; replace p05 := hk3 _ _ _ p05; replace p06 := hk3 _ _ _ p06; replace p07 := hk3 _ _ _ p07; replace p08 := hk3 _ _ _ p08; replace p09 := hk3 _ _ _ p09; replace p010 := hk3 _ _ _ p010; replace p011 := hk3 _ _ _ p011; replace p012 := hk3 _ _ _ p012; replace p013 := hk3 _ _ _ p013; replace p014 := hk3 _ _ _ p014
          clear hk3 bp00
          have bp00 := World.block_lt_of_cell? _ _ p00
          dsimp only at bp00
          go_wp2_with fail
          rw [rounds_succ]
          go_wp2_with fail
          refine useK w (k1.out _) (by go_grown) ?_; rintro e w11 rfl hB11 hk11 hs11
          replace p00 := hk11 _ _ _ p00; replace p01 := hk11 _ _ _ p01; replace p02 := hk11 _ _ _ p02; replace p03 := hk11 _ _ _ p03; replace p04 := hk11 _ _ _ p04; replace p05 := hk11 _ _ _ p05; replace p06 := hk11 _ _ _ p06; replace p07 := hk11 _ _ _ p07; replace p08 := hk11 _ _ _ p08; replace p09 := hk11 _ _ _ p09; replace p010 := hk11 _ _ _ p010; replace p011 := hk11 _ _ _ p011; replace p012 := hk11 _ _ _ p012; replace p013 := hk11 _ _ _ p013; replace p014 := hk11 _ _ _ p014
          clear hk11 bp00
          have bp00 := World.block_lt_of_cell? _ _ p00
          dsimp only at bp00
          go_wp2_with fail
          refine useK w (k2.out _) (by go_grown) ?_; rintro e w12 rfl hB12 hk12 hs12
          replace p00 := hk12 _ _ _ p00; replace p01 := hk12 _ _ _ p01; replace p02 := hk12 _ _ _ p02; replace p03 := hk12 _ _ _ p03; replace p04 := hk12 _ _ _ p04; replace p05 := hk12 _ _ _ p05; replace p06 := hk12 _ _ _ p06; replace p07 := hk12 _ _ _ p07; replace p08 := hk12 _ _ _ p08; replace p09 := hk12 _ _ _ p09; replace p010 := hk12 _ _ _ p010; replace p011 := hk12 _ _ _ p011; replace p012 := hk12 _ _ _ p012; replace p013 := hk12 _ _ _ p013; replace p014 := hk12 _ _ _ p014
          clear hk12 bp00
          have bp00 := World.block_lt_of_cell? _ _ p00
          dsimp only at bp00
          go_wp2_with fail
          refine useK w (k3.out _) (by go_grown) ?_; rintro e w13 rfl hB13 hk13 hs13
          replace p00 := hk13 _ _ _ p00; replace p01 := hk13 _ _ _ p01; replace p02 := hk13 _ _ _ p02; replace p03 := hk13 _ _ _ p03; replace p04 := hk13 _ _ _ p04; replace p05 := hk13 _ _ _ p05; replace p06 := hk13 _ _ _ p06; replace p07 := hk13 _ _ _ p07; replace p08 := hk13 _ _ _ p08; replace p09 := hk13 _ _ _ p09; replace p010 := hk13 _ _ _ p010; replace p011 := hk13 _ _ _ p011; replace p012 := hk13 _ _ _ p012; replace p013 := hk13 _ _ _ p013; replace p014 := hk13 _ _ _ p014
          clear hk13 bp00
          have bp00 := World.block_lt_of_cell? _ _ p00
          dsimp only at bp00
          go_wp2_with fail
          refine useK w (kt.out _ (by go_grown)) (by go_grown) ?_; rintro e w20 rfl hB20 hk20 hs20
          replace p00 := hk20 _ _ _ p00; replace p01 := hk20 _ _ _ p01; replace p02 := hk20 _ _ _ p02; replace p03 := hk20 _ _ _ p03; replace p04 := hk20 _ _ _ p04; replace p05 := hk20 _ _ _ p05; replace p06 := hk20 _ _ _ p06; replace p07 := hk20 _ _ _ p07; replace p08 := hk20 _ _ _ p08; replace p09 := hk20 _ _ _ p09; replace p010 := hk20 _ _ _ p010; replace p011 := hk20 _ _ _ p011; replace p012 := hk20 _ _ _ p012; replace p013 := hk20 _ _ _ p013; replace p014 := hk20 _ _ _ p014
          clear hk20 bp00
          have bp00 := World.block_lt_of_cell? _ _ p00
          dsimp only at bp00
          go_wp2_with fail
          go_ret
          exact ⟨ret_int (by rfl), by go_grown⟩
        go_enter Try.func14, Try.ntmps14
        go_wp2_with fail
        refine wp_loop_rounds 4 ?_; rw [rounds_succ]
        go_wp2_with fail
        refine useK w (w1c.out _) (by go_grown) ?_; rintro e w1 rfl hB1 hk1 hs1
        replace p00 : w1.cell? ⟨w.heap.size, 0, none⟩ = some (.int .i64 T) := hk1 _ _ _ (by simp [go_sem])
        replace p01 : w1.cell? ⟨w.heap.size, 1, none⟩ = some (.int .i64 S) := hk1 _ _ _ (by simp [go_sem])
        replace p02 : w1.cell? ⟨w.heap.size, 2, none⟩ = some (.int .i64 t1) := hk1 _ _ _ (by simp [go_sem])
        replace p03 : w1.cell? ⟨w.heap.size, 3, none⟩ = some (.int .i64 t2) := hk1 _ _ _ (by simp [go_sem])
        replace p04 : w1.cell? ⟨w.heap.size, 4, none⟩ = some (.int .i64 f1) := hk1 _ _ _ (by simp [go_sem])
        replace p05 : w1.cell? ⟨w.heap.size, 5, none⟩ = some (.int .i64 f2) := hk1 _ _ _ (by simp [go_sem])
        replace p06 : w1.cell? ⟨w.heap.size, 6, none⟩ = some (.int .i64 d1) := hk1 _ _ _ (by simp [go_sem])
        replace p07 : w1.cell? ⟨w.heap.size, 7, none⟩ = some (.int .i64 d2) := hk1 _ _ _ (by simp [go_sem])
        replace p08 : w1.cell? ⟨w.heap.size, 8, none⟩ = some (.int .i64 d3) := hk1 _ _ _ (by simp [go_sem])
        replace p09 : w1.cell? ⟨w.heap.size, 9, none⟩ = some (.int .i64 d4) := hk1 _ _ _ (by simp [go_sem])
        replace p010 : w1.cell? ⟨w.heap.size, 10, none⟩ = some (.int .i64 d5) := hk1 _ _ _ (by simp [go_sem])
        replace p011 : w1.cell? ⟨w.heap.size, 11, none⟩ = some (.int .i64 d6) := hk1 _ _ _ (by simp [go_sem])
        replace p012 : w1.cell? ⟨w.heap.size, 12, none⟩ = some (Value.slice q l.length cap) := hk1 _ _ _ (by simp [go_sem])
        replace p013 : w1.cell? ⟨w.heap.size, 13, none⟩ = some (.int .i64 p1) := hk1 _ _ _ (by simp [go_sem])
        replace p014 : w1.cell? ⟨w.heap.size, 14, none⟩ = some (.int .i64 p2) := hk1 _ _ _ (by simp [go_sem])
        have bp00 : w.heap.size < w1.heap.size := World.block_lt_of_cell? w1 ⟨w.heap.size, 0, none⟩ p00
        clear hk1
        go_wp2_with fail
        have bp00 := World.block_lt_of_cell? _ _ p00
        dsimp only at bp00
        rw [rounds_succ]
        go_wp2_with fail
        refine useK w (w2c.out _) (by go_grown) ?_; rintro e w2 rfl hB2 hk2 hs2
        replace p00 := hk2 _ _ _ p00; replace p01 := hk2 _ _ _ p01; replace p02 := hk2 _ _ _ p02; replace p03 := hk2 _ _ _ p03; replace p04 := hk2 _ _ _ p04; replace p05 := hk2 _ _ _ p05; replace p06 := hk2 _ _ _ p06; replace p07 := hk2 _ _ _ p07; replace p08 := hk2 _ _ _ p08; replace p09 := hk2 _ _ _ p09; replace p010 := hk2 _ _ _ p010; replace p011 := hk2 _ _ _ p011; replace p012 := hk2 _ _ _ p012; replace p013 := hk2 _ _ _ p013; replace p014 := hk2 _ _ _ p014
        clear hk2 bp00
        have bp00 := World.block_lt_of_cell? _ _ p00
        dsimp only at bp00
        go_wp2_with fail
        rw [rounds_succ]
        go_wp2_with fail
        refine useK w (w3c.out _) (by go_grown) ?_; rintro e w3 rfl hB3 hk3 hs3
        replace p00 := hk3 _ _ _ p00; replace p01 := hk3 _ _ _ p01; replace p02 := hk3 _ _ _ p02; replace p03 := hk3 _ _ _ p03; replace p04 := hk3 _ _ _ p04; replace p05 := hk3 _ _ _ p05; replace p06 := hk3 _ _ _ p06; replace p07 := hk3 _ _ _ p07; replace p08 := hk3 _ _ _ p08; replace p09 := hk3 _ _ _ p09; replace p010 := hk3 _ _ _ p010; replace p011 := hk3 _ _ _ p011; replace p012 := hk3 _ _ _ p012; replace p013 := hk3 _ _ _ p013; replace p014 := hk3 _ _ _ p014
        clear hk3 bp00
        have bp00 := World.block_lt_of_cell? _ _ p00
        dsimp only at bp00
        go_wp2_with fail
        rw [rounds_succ]
        go_wp2_with fail
        refine useK w (k1.out _) (by go_grown) ?_; rintro e w11 rfl hB11 hk11 hs11
        replace p00 := hk11 _ _ _ p00; replace p01 := hk11 _ _ _ p01; replace p02 := hk11 _ _ _ p02; replace p03 := hk11 _ _ _ p03; replace p04 := hk11 _ _ _ p04; replace p05 := hk11 _ _ _ p05; replace p06 := hk11 _ _ _ p06; replace p07 := hk11 _ _ _ p07; replace p08 := hk11 _ _ _ p08; replace p09 := hk11 _ _ _ p09; replace p010 := hk11 _ _ _ p010; replace p011 := hk11 _ _ _ p011; replace p012 := hk11 _ _ _ p012; replace p013 := hk11 _ _ _ p013; replace p014 := hk11 _ _ _ p014
        clear hk11 bp00
        have bp00 := World.block_lt_of_cell? _ _ p00
        dsimp only at bp00
        go_wp2_with fail
        refine useK w (k2.out _) (by go_grown) ?_; rintro e w12 rfl hB12 hk12 hs12
        replace p00 := hk12 _ _ _ p00; replace p01 := hk12 _ _ _ p01; replace p02 := hk12 _ _ _ p02; replace p03 := hk12 _ _ _ p03; replace p04 := hk12 _ _ _ p04; replace p05 := hk12 _ _ _ p05; replace p06 := hk12 _ _ _ p06; replace p07 := hk12 _ _ _ p07; replace p08 := hk12 _ _ _ p08; replace p09 := hk12 _ _ _ p09; replace p010 := hk12 _ _ _ p010; replace p011 := hk12 _ _ _ p011; replace p012 := hk12 _ _ _ p012; replace p013 := hk12 _ _ _ p013; replace p014 := hk12 _ _ _ p014
        clear hk12 bp00
        have bp00 := World.block_lt_of_cell? _ _ p00
        dsimp only at bp00
        go_wp2_with fail
        refine useK w (k3.out _) (by go_grown) ?_; rintro e w13 rfl hB13 hk13 hs13
        replace p00 := hk13 _ _ _ p00; replace p01 := hk13 _ _ _ p01; replace p02 := hk13 _ _ _ p02; replace p03 := hk13 _ _ _ p03; replace p04 := hk13 _ _ _ p04; replace p05 := hk13 _ _ _ p05; replace p06 := hk13 _ _ _ p06; replace p07 := hk13 _ _ _ p07; replace p08 := hk13 _ _ _ p08; replace p09 := hk13 _ _ _ p09; replace p010 := hk13 _ _ _ p010; replace p011 := hk13 _ _ _ p011; replace p012 := hk13 _ _ _ p012; replace p013 := hk13 _ _ _ p013; replace p014 := hk13 _ _ _ p014
        clear hk13 bp00
        have bp00 := World.block_lt_of_cell? _ _ p00
        dsimp only at bp00
        go_wp2_with fail
        refine useK w (kt.out _ (by go_grown)) (by go_grown) ?_; rintro e w20 rfl hB20 hk20 hs20
        replace p00 := hk20 _ _ _ p00; replace p01 := hk20 _ _ _ p01; replace p02 := hk20 _ _ _ p02; replace p03 := hk20 _ _ _ p03; replace p04 := hk20 _ _ _ p04; replace p05 := hk20 _ _ _ p05; replace p06 := hk20 _ _ _ p06; replace p07 := hk20 _ _ _ p07; replace p08 := hk20 _ _ _ p08; replace p09 := hk20 _ _ _ p09; replace p010 := hk20 _ _ _ p010; replace p011 := hk20 _ _ _ p011; replace p012 := hk20 _ _ _ p012; replace p013 := hk20 _ _ _ p013; replace p014 := hk20 _ _ _ p014
        clear hk20 bp00
        have bp00 := World.block_lt_of_cell? _ _ p00
        dsimp only at bp00
        go_wp2_with fail
        go_ret
        exact ⟨ret_int (by rfl), by go_grown⟩
    · rw [decide_eq_false (show ¬ 0 < S by omega)]; simp only [Bool.false_and, Bool.and_false]
      cases tb
      all_goals
        first | rw [errB_t] at kt | rw [errB_f] at kt
        cases x1
        · (try simp only [Bool.false_and, Bool.and_false])
          go_enter Try.func14, Try.ntmps14
          go_wp2_with fail
          refine wp_loop_rounds 4 ?_; rw [rounds_succ]
          go_wp2_with fail
          refine useK w (w1c.out _) (by go_grown) ?_; rintro e w1 rfl hB1 hk1 hs1
          replace p00 : w1.cell? ⟨w.heap.size, 0, none⟩ = some (.int .i64 T) := hk1 _ _ _ (by simp [go_sem])
          replace p01 : w1.cell? ⟨w.heap.size, 1, none⟩ = some (.int .i64 S) := hk1 _ _ _ (by simp [go_sem])
          replace p02 : w1.cell? ⟨w.heap.size, 2, none⟩ = some (.int .i64 t1) := hk1 _ _ _ (by simp [go_sem])
          replace p03 : w1.cell? ⟨w.heap.size, 3, none⟩ = some (.int .i64 t2) := hk1 _ _ _ (by simp [go_sem])
          replace p04 : w1.cell? ⟨w.heap.size, 4, none⟩ = some (.int .i64 f1) := hk1 _ _ _ (by simp [go_sem])
          replace p05 : w1.cell? ⟨w.heap.size, 5, none⟩ = some (.int .i64 f2) := hk1 _ _ _ (by simp [go_sem])
          replace p06 : w1.cell? ⟨w.heap.size, 6, none⟩ = some (.int .i64 d1) := hk1 _ _ _ (by simp [go_sem])
          replace p07 : w1.cell? ⟨w.heap.size, 7, none⟩ = some (.int .i64 d2) := hk1 _ _ _ (by simp [go_sem])
          replace p08 : w1.cell? ⟨w.heap.size, 8, none⟩ = some (.int .i64 d3) := hk1 _ _ _ (by simp [go_sem])
          replace p09 : w1.cell? ⟨w.heap.size, 9, none⟩ = some (.int .i64 d4) := hk1 _ _ _ (by simp [go_sem])
          replace p010 : w1.cell? ⟨w.heap.size, 10, none⟩ = some (.int .i64 d5) := hk1 _ _ _ (by simp [go_sem])
          replace p011 : w1.cell? ⟨w.heap.size, 11, none⟩ = some (.int .i64 d6) := hk1 _ _ _ (by simp [go_sem])
          replace p012 : w1.cell? ⟨w.heap.size, 12, none⟩ = some (Value.slice q l.length cap) := hk1 _ _ _ (by simp [go_sem])
          replace p013 : w1.cell? ⟨w.heap.size, 13, none⟩ = some (.int .i64 p1) := hk1 _ _ _ (by simp [go_sem])
          replace p014 : w1.cell? ⟨w.heap.size, 14, none⟩ = some (.int .i64 p2) := hk1 _ _ _ (by simp [go_sem])
          have bp00 : w.heap.size < w1.heap.size := World.block_lt_of_cell? w1 ⟨w.heap.size, 0, none⟩ p00
          clear hk1
          go_wp2_with fail
          have bp00 := World.block_lt_of_cell? _ _ p00
          dsimp only at bp00
          rw [rounds_succ]
          go_wp2_with fail
          refine useK w (w2c.out _) (by go_grown) ?_; rintro e w2 rfl hB2 hk2 hs2
          replace p00 := hk2 _ _ _ p00; replace p01 := hk2 _ _ _ p01; replace p02 := hk2 _ _ _ p02; replace p03 := hk2 _ _ _ p03; replace p04 := hk2 _ _ _ p04; replace p05 := hk2 _ _ _ p05; replace p06 := hk2 _ _ _ p06; replace p07 := hk2 _ _ _ p07; replace p08 := hk2 _ _ _ p08; replace p09 := hk2 _ _ _ p09; replace p010 := hk2 _ _ _ p010; replace p011 := hk2 _ _ _ p011; replace p012 := hk2 _ _ _ p012; replace p013 := hk2 _ _ _ p013; replace p014 := hk2 _ _ _ p014
          clear hk2 bp00
          have bp00 := World.block_lt_of_cell? _ _ p00
          dsimp only at bp00
          go_wp2_with fail
          rw [rounds_succ]
          go_wp2_with fail
          refine useK w (w3c.out _) (by go_grown) ?_; rintro e w3 rfl hB3 hk3 hs3
          replace p00 := hk3 _ _ _ p00; replace p01 := hk3 _ _ _ p01; replace p02 := hk3 _ _ _ p02; replace p03 := hk3 _ _ _ p03; replace p04 := hk3 _ _ _ p04; replace p05 := hk3 _ _ _ p05; replace p06 := hk3 _ _ _ p06; replace p07 := hk3 _ _ _ p07; replace p08 := hk3 _ _ _ p08; replace p09 := hk3 _ _ _ p09; replace p010 := hk3 _ _ _ p010; replace p011 := hk3 _ _ _ p011; replace p012 := hk3 _ _ _ p012; replace p013 := hk3 _ _ _ p013; replace p014 := hk3 _ _ _ p014
          clear hk3 bp00
          have bp00 := World.block_lt_of_cell? _ _ p00
          dsimp only at bp00
          go_wp2_with fail
          rw [rounds_succ]
          go_wp2_with fail
          refine useK w (k1.out _) (by go_grown) ?_; rintro e w11 rfl hB11 hk11 hs11
          replace p00 := hk11 _ _ _ p00; replace p01 := hk11 _ _ _ p01; replace p02 := hk11 _ _ _ p02; replace p03 := hk11 _ _ _ p03; replace p04 := hk11 _ _ _ p04; replace p05 := hk11 _ _ _ p05; replace p06 := hk11 _ _ _ p06; replace p07 := hk11 _ _ _ p07; replace p08 := hk11 _ _ _ p08; replace p09 := hk11 _ _ _ p09; replace p010 := hk11 _ _ _ p010; replace p011 := hk11 _ _ _ p011; replace p012 := hk11 _ _ _ p012; replace p013 := hk11 _ _ _ p013; replace p014 := hk11 _ _ _ p014
          clear hk11 bp00
          have bp00 := World.block_lt_of_cell? _ _ p00
          dsimp only at bp00
          go_wp2_with fail
          refine useK w (kt.out _ (by go_grown)) (by go_grown) ?_; rintro e w20 rfl hB20 hk20 hs20
          replace p00 := hk20 _ _ _ p00; replace p01 := hk20 _ _ _ p01; replace p02 := hk20 _ _ _ p02; replace p03 := hk20 _ _ _ p03; replace p04 := hk20 _ _ _ p04; replace p05 := hk20 _ _ _ p05; replace p06 := hk20 _ _ _ p06; replace p07 := hk20 _ _ _ p07; replace p08 := hk20 _ _ _ p08; replace p09 := hk20 _ _ _ p09; replace p010 := hk20 _ _ _ p010; replace p011 := hk20 _ _ _ p011; replace p012 := hk20 _ _ _ p012; replace p013 := hk20 _ _ _ p013; replace p014 := hk20 _ _ _ p014
          clear hk20 bp00
          have bp00 := World.block_lt_of_cell? _ _ p00
          dsimp only at bp00
          go_wp2_with fail
          go_ret
          exact ⟨ret_int (by rfl), by go_grown⟩
        cases x2
        · (try simp only [Bool.false_and, Bool.and_false])
          go_enter Try.func14, Try.ntmps14
          go_wp2_with fail
          refine wp_loop_rounds 4 ?_; rw [rounds_succ]
          go_wp2_with fail
          refine useK w (w1c.out _) (by go_grown) ?_; rintro e w1 rfl hB1 hk1 hs1
          replace p00 : w1.cell? ⟨w.heap.size, 0, none⟩ = some (.int .i64 T) := hk1 _ _ _ (by simp [go_sem])
          replace p01 : w1.cell? ⟨w.heap.size, 1, none⟩ = some (.int .i64 S) := hk1 _ _ _ (by simp [go_sem])
          replace p02 : w1.cell? ⟨w.heap.size, 2, none⟩ = some (.int .i64 t1) := hk1 _ _ _ (by simp [go_sem])
          replace p03 : w1.cell? ⟨w.heap.size, 3, none⟩ = some (.int .i64 t2) := hk1 _ _ _ (by simp [go_sem])
          replace p04 : w1.cell? ⟨w.heap.size, 4, none⟩ = some (.int .i64 f1) := hk1 _ _ _ (by simp [go_sem])
          replace p05 : w1.cell? ⟨w.heap.size, 5, none⟩ = some (.int .i64 f2) := hk1 _ _ _ (by simp [go_sem])
          replace p06 : w1.cell? ⟨w.heap.size, 6, none⟩ = some (.int .i64 d1) := hk1 _ _ _ (by simp [go_sem])
          replace p07 : w1.cell? ⟨w.heap.size, 7, none⟩ = some (.int .i64 d2) := hk1 _ _ _ (by simp [go_sem])
          replace p08 : w1.cell? ⟨w.heap.size, 8, none⟩ = some (.int .i64 d3) := hk1 _ _ _ (by simp [go_sem])
          replace p09 : w1.cell? ⟨w.heap.size, 9, none⟩ = some (.int .i64 d4) := hk1 _ _ _ (by simp [go_sem])
          replace p010 : w1.cell? ⟨w.heap.size, 10, none⟩ = some (.int .i64 d5) := hk1 _ _ _ (by simp [go_sem])
          replace p011 : w1.cell? ⟨w.heap.size, 11, none⟩ = some (.int .i64 d6) := hk1 _ _ _ (by simp [go_sem])
          replace p012 : w1.cell? ⟨w.heap.size, 12, none⟩ = some (Value.slice q l.length cap) := hk1 _ _ _ (by simp [go_sem])
          replace p013 : w1.cell? ⟨w.heap.size, 13, none⟩ = some (.int .i64 p1) := hk1 _ _ _ (by simp [go_sem])
          replace p014 : w1.cell? ⟨w.heap.size, 14, none⟩ = some (.int .i64 p2) := hk1 _ _ _ (by simp [go_sem])
          have bp00 : w.heap.size < w1.heap.size := World.block_lt_of_cell? w1 ⟨w.heap.size, 0, none⟩ p00
          clear hk1
          go_wp2_with fail
          have bp00 := World.block_lt_of_cell? _ _ p00
          dsimp only at bp00
          rw [rounds_succ]
          go_wp2_with fail
          refine useK w (w2c.out _) (by go_grown) ?_; rintro e w2 rfl hB2 hk2 hs2
          replace p00 := hk2 _ _ _ p00; replace p01 := hk2 _ _ _ p01; replace p02 := hk2 _ _ _ p02; replace p03 := hk2 _ _ _ p03; replace p04 := hk2 _ _ _ p04; replace p05 := hk2 _ _ _ p05; replace p06 := hk2 _ _ _ p06; replace p07 := hk2 _ _ _ p07; replace p08 := hk2 _ _ _ p08; replace p09 := hk2 _ _ _ p09; replace p010 := hk2 _ _ _ p010; replace p011 := hk2 _ _ _ p011; replace p012 := hk2 _ _ _ p012; replace p013 := hk2 _ _ _ p013; replace p014 := hk2 _ _ _ p014
          clear hk2 bp00
          have bp00 := World.block_lt_of_cell? _ _ p00
          dsimp only at bp00
          go_wp2_with fail
          rw [rounds_succ]
          go_wp2_with fail
          refine useK w (w3c.out _) (by go_grown) ?_; rintro e w3 rfl hB3 hk3 hs3
          replace p00 := hk3 _ _ _ p00; replace p01 := hk3 _ _ _ p01; replace p02 := hk3 _ _ _ p02; replace p03 := hk3 _ _ _ p03; replace p04 := hk3 _ _ _ p04; replace p05 := hk3 _ _ _ p05; replace p06 := hk3 _ _ _ p06; replace p07 := hk3 _ _ _ p07; replace p08 := hk3 _ _ _ p08; replace p09 := hk3 _ _ _ p09; replace p010 := hk3 _ _ _ p010; replace p011 := hk3 _ _ _ p011; replace p012 := hk3 _ _ _ p012; replace p013 := hk3 _ _ _ p013; replace p014 := hk3 _ _ _ p014
          clear hk3 bp00
          have bp00 := World.block_lt_of_cell? _ _ p00
          dsimp only at bp00
          go_wp2_with fail
          rw [rounds_succ]
          go_wp2_with fail
          refine useK w (k1.out _) (by go_grown) ?_; rintro e w11 rfl hB11 hk11 hs11
          replace p00 := hk11 _ _ _ p00; replace p01 := hk11 _ _ _ p01; replace p02 := hk11 _ _ _ p02; replace p03 := hk11 _ _ _ p03; replace p04 := hk11 _ _ _ p04; replace p05 := hk11 _ _ _ p05; replace p06 := hk11 _ _ _ p06; replace p07 := hk11 _ _ _ p07; replace p08 := hk11 _ _ _ p08; replace p09 := hk11 _ _ _ p09; replace p010 := hk11 _ _ _ p010; replace p011 := hk11 _ _ _ p011; replace p012 := hk11 _ _ _ p012; replace p013 := hk11 _ _ _ p013; replace p014 := hk11 _ _ _ p014
          clear hk11 bp00
          have bp00 := World.block_lt_of_cell? _ _ p00
          dsimp only at bp00
          go_wp2_with fail
          refine useK w (k2.out _) (by go_grown) ?_; rintro e w12 rfl hB12 hk12 hs12
          replace p00 := hk12 _ _ _ p00; replace p01 := hk12 _ _ _ p01; replace p02 := hk12 _ _ _ p02; replace p03 := hk12 _ _ _ p03; replace p04 := hk12 _ _ _ p04; replace p05 := hk12 _ _ _ p05; replace p06 := hk12 _ _ _ p06; replace p07 := hk12 _ _ _ p07; replace p08 := hk12 _ _ _ p08; replace p09 := hk12 _ _ _ p09; replace p010 := hk12 _ _ _ p010; replace p011 := hk12 _ _ _ p011; replace p012 := hk12 _ _ _ p012; replace p013 := hk12 _ _ _ p013; replace p014 := hk12 _ _ _ p014
          clear hk12 bp00
          have bp00 := World.block_lt_of_cell? _ _ p00
          dsimp only at bp00
          go_wp2_with fail
          refine useK w (kt.out _ (by go_grown)) (by go_grown) ?_; rintro e w20 rfl hB20 hk20 hs20
          replace p00 := hk20 _ _ _ p00; replace p01 := hk20 _ _ _ p01; replace p02 := hk20 _ _ _ p02; replace p03 := hk20 _ _ _ p03; replace p04 := hk20 _ _ _ p04; replace p05 := hk20 _ _ _ p05; replace p06 := hk20 _ _ _ p06; replace p07 := hk20 _ _ _ p07; replace p08 := hk20 _ _ _ p08; replace p09 := hk20 _ _ _ p09; replace p010 := hk20 _ _ _ p010; replace p011 := hk20 _ _ _ p011; replace p012 := hk20 _ _ _ p012; replace p013 := hk20 _ _ _ p013; replace p014 := hk20 _ _ _ p014
          clear hk20 bp00
          have bp00 := World.block_lt_of_cell? _ _ p00
          dsimp only at bp00
          go_wp2_with fail
          go_ret
          exact ⟨ret_int (by rfl), by go_grown⟩
        cases x3
        · (try simp only [Bool.false_and, Bool.and_false])
          go_enter Try.func14, Try.ntmps14
          go_wp2_with fail
          refine wp_loop_rounds 4 ?_; rw [rounds_succ]
          go_wp2_with fail
          refine useK w (w1c.out _) (by go_grown) ?_; rintro e w1 rfl hB1 hk1 hs1
          replace p00 : w1.cell? ⟨w.heap.size, 0, none⟩ = some (.int .i64 T) := hk1 _ _ _ (by simp [go_sem])
          replace p01 : w1.cell? ⟨w.heap.size, 1, none⟩ = some (.int .i64 S) := hk1 _ _ _ (by simp [go_sem])
          replace p02 : w1.cell? ⟨w.heap.size, 2, none⟩ = some (.int .i64 t1) := hk1 _ _ _ (by simp [go_sem])
          replace p03 : w1.cell? ⟨w.heap.size, 3, none⟩ = some (.int .i64 t2) := hk1 _ _ _ (by simp [go_sem])
          replace p04 : w1.cell? ⟨w.heap.size, 4, none⟩ = some (.int .i64 f1) := hk1 _ _ _ (by simp [go_sem])
          replace p05 : w1.cell? ⟨w.heap.size, 5, none⟩ = some (.int .i64 f2) := hk1 _ _ _ (by simp [go_sem])
          replace p06 : w1.cell? ⟨w.heap.size, 6, none⟩ = some (.int .i64 d1) := hk1 _ _ _ (by simp [go_sem])
          replace p07 : w1.cell? ⟨w.heap.size, 7, none⟩ = some (.int .i64 d2) := hk1 _ _ _ (by simp [go_sem])
          replace p08 : w1.cell? ⟨w.heap.size, 8, none⟩ = some (.int .i64 d3) := hk1 _ _ _ (by simp [go_sem])
          replace p09 : w1.cell? ⟨w.heap.size, 9, none⟩ = some (.int .i64 d4) := hk1 _ _ _ (by simp [go_sem])
          replace p010 : w1.cell? ⟨w.heap.size, 10, none⟩ = some (.int .i64 d5) := hk1 _ _ _ (by simp [go_sem])
          replace p011 : w1.cell? ⟨w.heap.size, 11, none⟩ = some (.int .i64 d6) := hk1 _ _ _ (by simp [go_sem])
          replace p012 : w1.cell? ⟨w.heap.size, 12, none⟩ = some (Value.slice q l.length cap) := hk1 _ _ _ (by simp [go_sem])
          replace p013 : w1.cell? ⟨w.heap.size, 13, none⟩ = some (.int .i64 p1) := hk1 _ _ _ (by simp [go_sem])
          replace p014 : w1.cell? ⟨w.heap.size, 14, none⟩ = some (.int .i64 p2) := hk1 _ _ _ (by simp [go_sem])
          have bp00 : w.heap.size < w1.heap.size := World.block_lt_of_cell? w1 ⟨w.heap.size, 0, none⟩ p00
          clear hk1
          go_wp2_with fail
          have bp00 := World.block_lt_of_cell? _ _ p00
          dsimp only at bp00
          rw [rounds_succ]
          go_wp2_with fail
          refine useK w (w2c.out _) (by go_grown) ?_; rintro e w2 rfl hB2 hk2 hs2
          replace p00 := hk2 _ _ _ p00; replace p01 := hk2 _ _ _ p01; replace p02 := hk2 _ _ _ p02; replace p03 := hk2 _ _ _ p03; replace p04 := hk2 _ _ _ p04; replace p05 := hk2 _ _ _ p05; replace p06 := hk2 _ _ _ p06; replace p07 := hk2 _ _ _ p07; replace p08 := hk2 _ _ _ p08; replace p09 := hk2 _ _ _ p09; replace p010 := hk2 _ _ _ p010; replace p011 := hk2 _ _ _ p011; replace p012 := hk2 _ _ _ p012; replace p013 := hk2 _ _ _ p013; replace p014 := hk2 _ _ _ p014
          clear hk2 bp00
          have bp00 := World.block_lt_of_cell? _ _ p00
          dsimp only at bp00
          go_wp2_with fail
          rw [rounds_succ]
          go_wp2_with fail
          refine useK w (w3c.out _) (by go_grown) ?_; rintro e w3 rfl hB3 hk3 hs3
          replace p00 := hk3 _ _ _ p00; replace p01 := hk3 _ _ _ p01; replace p02 := hk3 _ _ _ p02; replace p03 := hk3 _ _ _ p03; replace p04 := hk3 _ _ _ p04; replace p05 := hk3 _ _ _ p05; replace p06 := hk3 _ _ _ p06; replace p07 := hk3 _ _ _ p07; replace p08 := hk3 _ _ _ p08; replace p09 := hk3 _ _ _ p09; replace p010 := hk3 _ _ _ p010; replace p011 := hk3 _ _ _ p011; replace p012 := hk3 _ _ _ p012; replace p013 := hk3 _ _ _ p013; replace p014 := hk3 _ _ _ p014
          clear hk3 bp00
          have bp00 := World.block_lt_of_cell? _ _ p00
          dsimp only at bp00
          go_wp2_with fail
          rw [rounds_succ]
          go_wp2_with fail
          refine useK w (k1.out _) (by go_grown) ?_; rintro e w11 rfl hB11 hk11 hs11
          replace p00 := hk11 _ _ _ p00; replace p01 := hk11 _ _ _ p01; replace p02 := hk11 _ _ _ p02; replace p03 := hk11 _ _ _ p03; replace p04 := hk11 _ _ _ p04; replace p05 := hk11 _ _ _ p05; replace p06 := hk11 _ _ _ p06; replace p07 := hk11 _ _ _ p07; replace p08 := hk11 _ _ _ p08; replace p09 := hk11 _ _ _ p09; replace p010 := hk11 _ _ _ p010; replace p011 := hk11 _ _ _ p011; replace p012 := hk11 _ _ _ p012; replace p013 := hk11 _ _ _ p013; replace p014 := hk11 _ _ _ p014
          clear hk11 bp00
          have bp00 := World.block_lt_of_cell? _ _ p00
          dsimp only at bp00
          go_wp2_with fail
          refine useK w (k2.out _) (by go_grown) ?_; rintro e w12 rfl hB12 hk12 hs12
          replace p00 := hk12 _ _ _ p00; replace p01 := hk12 _ _ _ p01; replace p02 := hk12 _ _ _ p02; replace p03 := hk12 _ _ _ p03; replace p04 := hk12 _ _ _ p04; replace p05 := hk12 _ _ _ p05; replace p06 := hk12 _ _ _ p06; replace p07 := hk12 _ _ _ p07; replace p08 := hk12 _ _ _ p08; replace p09 := hk12 _ _ _ p09; replace p010 := hk12 _ _ _ p010; replace p011 := hk12 _ _ _ p011; replace p012 := hk12 _ _ _ p012; replace p013 := hk12 _ _ _ p013; replace p014 := hk12 _ _ _ p014
          clear hk12 bp00
          have bp00 := World.block_lt_of_cell? _ _ p00
          dsimp only at bp00
          go_wp2_with fail
          refine useK w (k3.out _) (by go_grown) ?_; rintro e w13 rfl hB13 hk13 hs13
          replace p00 := hk13 _ _ _ p00; replace p01 := hk13 _ _ _ p01; replace p02 := hk13 _ _ _ p02; replace p03 := hk13 _ _ _ p03; replace p04 := hk13 _ _ _ p04; replace p05 := hk13 _ _ _ p05; replace p06 := hk13 _ _ _ p06; replace p07 := hk13 _ _ _ p07; replace p08 := hk13 _ _ _ p08; replace p09 := hk13 _ _ _ p09; replace p010 := hk13 _ _ _ p010; replace p011 := hk13 _ _ _ p011; replace p012 := hk13 _ _ _ p012; replace p013 := hk13 _ _ _ p013; replace p014 := hk13 _ _ _ p014
          clear hk13 bp00
          have bp00 := World.block_lt_of_cell? _ _ p00
          dsimp only at bp00
          go_wp2_with fail
          refine useK w (kt.out _ (by go_grown)) (by go_grown) ?_; rintro e w20 rfl hB20 hk20 hs20
          replace p00 := hk20 _ _ _ p00; replace p01 := hk20 _ _ _ p01; replace p02 := hk20 _ _ _ p02; replace p03 := hk20 _ _ _ p03; replace p04 := hk20 _ _ _ p04; replace p05 := hk20 _ _ _ p05; replace p06 := hk20 _ _ _ p06; replace p07 := hk20 _ _ _ p07; replace p08 := hk20 _ _ _ p08; replace p09 := hk20 _ _ _ p09; replace p010 := hk20 _ _ _ p010; replace p011 := hk20 _ _ _ p011; replace p012 := hk20 _ _ _ p012; replace p013 := hk20 _ _ _ p013; replace p014 := hk20 _ _ _ p014
          clear hk20 bp00
          have bp00 := World.block_lt_of_cell? _ _ p00
          dsimp only at bp00
          go_wp2_with fail
          go_ret
          exact ⟨ret_int (by rfl), by go_grown⟩
        go_enter Try.func14, Try.ntmps14
        go_wp2_with fail
        refine wp_loop_rounds 4 ?_; rw [rounds_succ]
        go_wp2_with fail
        refine useK w (w1c.out _) (by go_grown) ?_; rintro e w1 rfl hB1 hk1 hs1
        replace p00 : w1.cell? ⟨w.heap.size, 0, none⟩ = some (.int .i64 T) := hk1 _ _ _ (by simp [go_sem])
        replace p01 : w1.cell? ⟨w.heap.size, 1, none⟩ = some (.int .i64 S) := hk1 _ _ _ (by simp [go_sem])
        replace p02 : w1.cell? ⟨w.heap.size, 2, none⟩ = some (.int .i64 t1) := hk1 _ _ _ (by simp [go_sem])
        replace p03 : w1.cell? ⟨w.heap.size, 3, none⟩ = some (.int .i64 t2) := hk1 _ _ _ (by simp [go_sem])
        replace p04 : w1.cell? ⟨w.heap.size, 4, none⟩ = some (.int .i64 f1) := hk1 _ _ _ (by simp [go_sem])
        replace p05 : w1.cell? ⟨w.heap.size, 5, none⟩ = some (.int .i64 f2) := hk1 _ _ _ (by simp [go_sem])
        replace p06 : w1.cell? ⟨w.heap.size, 6, none⟩ = some (.int .i64 d1) := hk1 _ _ _ (by simp [go_sem])
        replace p07 : w1.cell? ⟨w.heap.size, 7, none⟩ = some (.int .i64 d2) := hk1 _ _ _ (by simp [go_sem])
        replace p08 : w1.cell? ⟨w.heap.size, 8, none⟩ = some (.int .i64 d3) := hk1 _ _ _ (by simp [go_sem])
        replace p09 : w1.cell? ⟨w.heap.size, 9, none⟩ = some (.int .i64 d4) := hk1 _ _ _ (by simp [go_sem])
        replace p010 : w1.cell? ⟨w.heap.size, 10, none⟩ = some (.int .i64 d5) := hk1 _ _ _ (by simp [go_sem])
        replace p011 : w1.cell? ⟨w.heap.size, 11, none⟩ = some (.int .i64 d6) := hk1 _ _ _ (by simp [go_sem])
        replace p012 : w1.cell? ⟨w.heap.size, 12, none⟩ = some (Value.slice q l.length cap) := hk1 _ _ _ (by simp [go_sem])
        replace p013 : w1.cell? ⟨w.heap.size, 13, none⟩ = some (.int .i64 p1) := hk1 _ _ _ (by simp [go_sem])
        replace p014 : w1.cell? ⟨w.heap.size, 14, none⟩ = some (.int .i64 p2) := hk1 _ _ _ (by simp [go_sem])
        have bp00 : w.heap.size < w1.heap.size := World.block_lt_of_cell? w1 ⟨w.heap.size, 0, none⟩ p00
        clear hk1
        go_wp2_with fail
        have bp00 := World.block_lt_of_cell? _ _ p00
        dsimp only at bp00
        rw [rounds_succ]
        go_wp2_with fail
        refine useK w (w2c.out _) (by go_grown) ?_; rintro e w2 rfl hB2 hk2 hs2
        replace p00 := hk2 _ _ _ p00; replace p01 := hk2 _ _ _ p01; replace p02 := hk2 _ _ _ p02; replace p03 := hk2 _ _ _ p03; replace p04 := hk2 _ _ _ p04; replace p05 := hk2 _ _ _ p05; replace p06 := hk2 _ _ _ p06; replace p07 := hk2 _ _ _ p07; replace p08 := hk2 _ _ _ p08; replace p09 := hk2 _ _ _ p09; replace p010 := hk2 _ _ _ p010; replace p011 := hk2 _ _ _ p011; replace p012 := hk2 _ _ _ p012; replace p013 := hk2 _ _ _ p013; replace p014 := hk2 _ _ _ p014
        clear hk2 bp00
        have bp00 := World.block_lt_of_cell? _ _ p00
        dsimp only at bp00
        go_wp2_with fail
        rw [rounds_succ]
        go_wp2_with fail
        refine useK w (w3c.out _) (by go_grown) ?_; rintro e w3 rfl hB3 hk3 hs3
        replace p00 := hk3 _ _ _ p00; replace p01 := hk3 _ _ _ p01; replace p02 := hk3 _ _ _ p02; replace p03 := hk3 _ _ _ p03; replace p04 := hk3 _ _ _ p04; replace p05 := hk3 _ _ _ p05; replace p06 := hk3 _ _ _ p06; replace p07 := hk3 _ _ _ p07; replace p08 := hk3 _ _ _ p08; replace p09 := hk3 _ _ _ p09; replace p010 := hk3 _ _ _ p010; replace p011 := hk3 _ _ _ p011; replace p012 := hk3 _ _ _ p012; replace p013 := hk3 _ _ _ p013; replace p014 := hk3 _ _ _ p014
        clear hk3 bp00
        have bp00 := World.block_lt_of_cell? _ _ p00
        dsimp only at bp00
        go_wp2_with fail
        rw [rounds_succ]
        go_wp2_with fail
        refine useK w (k1.out _) (by go_grown) ?_; rintro e w11 rfl hB11 hk11 hs11
        replace p00 := hk11 _ _ _ p00; replace p01 := hk11 _ _ _ p01; replace p02 := hk11 _ _ _ p02; replace p03 := hk11 _ _ _ p03; replace p04 := hk11 _ _ _ p04; replace p05 := hk11 _ _ _ p05; replace p06 := hk11 _ _ _ p06; replace p07 := hk11 _ _ _ p07; replace p08 := hk11 _ _ _ p08; replace p09 := hk11 _ _ _ p09; replace p010 := hk11 _ _ _ p010; replace p011 := hk11 _ _ _ p011; replace p012 := hk11 _ _ _ p012; replace p013 := hk11 _ _ _ p013; replace p014 := hk11 _ _ _ p014
        clear hk11 bp00
        have bp00 := World.block_lt_of_cell? _ _ p00
        dsimp only at bp00
        go_wp2_with fail
        refine useK w (k2.out _) (by go_grown) ?_; rintro e w12 rfl hB12 hk12 hs12
        replace p00 := hk12 _ _ _ p00; replace p01 := hk12 _ _ _ p01; replace p02 := hk12 _ _ _ p02; replace p03 := hk12 _ _ _ p03; replace p04 := hk12 _ _ _ p04; replace p05 := hk12 _ _ _ p05; replace p06 := hk12 _ _ _ p06; replace p07 := hk12 _ _ _ p07; replace p08 := hk12 _ _ _ p08; replace p09 := hk12 _ _ _ p09; replace p010 := hk12 _ _ _ p010; replace p011 := hk12 _ _ _ p011; replace p012 := hk12 _ _ _ p012; replace p013 := hk12 _ _ _ p013; replace p014 := hk12 _ _ _ p014
        clear hk12 bp00
        have bp00 := World.block_lt_of_cell? _ _ p00
        dsimp only at bp00
        go_wp2_with fail
        refine useK w (k3.out _) (by go_grown) ?_; rintro e w13 rfl hB13 hk13 hs13
        replace p00 := hk13 _ _ _ p00; replace p01 := hk13 _ _ _ p01; replace p02 := hk13 _ _ _ p02; replace p03 := hk13 _ _ _ p03; replace p04 := hk13 _ _ _ p04; replace p05 := hk13 _ _ _ p05; replace p06 := hk13 _ _ _ p06; replace p07 := hk13 _ _ _ p07; replace p08 := hk13 _ _ _ p08; replace p09 := hk13 _ _ _ p09; replace p010 := hk13 _ _ _ p010; replace p011 := hk13 _ _ _ p011; replace p012 := hk13 _ _ _ p012; replace p013 := hk13 _ _ _ p013; replace p014 := hk13 _ _ _ p014
        clear hk13 bp00
        have bp00 := World.block_lt_of_cell? _ _ p00
        dsimp only at bp00
        go_wp2_with fail
        refine useK w (kt.out _ (by go_grown)) (by go_grown) ?_; rintro e w20 rfl hB20 hk20 hs20
        replace p00 := hk20 _ _ _ p00; replace p01 := hk20 _ _ _ p01; replace p02 := hk20 _ _ _ p02; replace p03 := hk20 _ _ _ p03; replace p04 := hk20 _ _ _ p04; replace p05 := hk20 _ _ _ p05; replace p06 := hk20 _ _ _ p06; replace p07 := hk20 _ _ _ p07; replace p08 := hk20 _ _ _ p08; replace p09 := hk20 _ _ _ p09; replace p010 := hk20 _ _ _ p010; replace p011 := hk20 _ _ _ p011; replace p012 := hk20 _ _ _ p012; replace p013 := hk20 _ _ _ p013; replace p014 := hk20 _ _ _ p014
        clear hk20 bp00
        have bp00 := World.block_lt_of_cell? _ _ p00
        dsimp only at bp00
        go_wp2_with fail
        go_ret
        exact ⟨ret_int (by rfl), by go_grown⟩
    · rw [decide_eq_true e1, decide_eq_true e2]; simp only [Bool.true_and]
      cases tb
      all_goals
        first | rw [errB_t] at kt | rw [errB_f] at kt
        cases x1
        · (try simp only [Bool.false_and, Bool.and_false])
          go_enter Try.func14, Try.ntmps14
          go_wp2_with fail
          refine wp_loop_rounds 4 ?_; rw [rounds_succ]
          go_wp2_with fail
          refine useK w (w1c.out _) (by go_grown) ?_; rintro e w1 rfl hB1 hk1 hs1
          replace p00 : w1.cell? ⟨w.heap.size, 0, none⟩ = some (.int .i64 T) := hk1 _ _ _ (by simp [go_sem])
          replace p01 : w1.cell? ⟨w.heap.size, 1, none⟩ = some (.int .i64 S) := hk1 _ _ _ (by simp [go_sem])
          replace p02 : w1.cell? ⟨w.heap.size, 2, none⟩ = some (.int .i64 t1) := hk1 _ _ _ (by simp [go_sem])
          replace p03 : w1.cell? ⟨w.heap.size, 3, none⟩ = some (.int .i64 t2) := hk1 _ _ _ (by simp [go_sem])
          replace p04 : w1.cell? ⟨w.heap.size, 4, none⟩ = some (.int .i64 f1) := hk1 _ _ _ (by simp [go_sem])
          replace p05 : w1.cell? ⟨w.heap.size, 5, none⟩ = some (.int .i64 f2) := hk1 _ _ _ (by simp [go_sem])
          replace p06 : w1.cell? ⟨w.heap.size, 6, none⟩ = some (.int .i64 d1) := hk1 _ _ _ (by simp [go_sem])
          replace p07 : w1.cell? ⟨w.heap.size, 7, none⟩ = some (.int .i64 d2) := hk1 _ _ _ (by simp [go_sem])
          replace p08 : w1.cell? ⟨w.heap.size, 8, none⟩ = some (.int .i64 d3) := hk1 _ _ _ (by simp [go_sem])
          replace p09 : w1.cell? ⟨w.heap.size, 9, none⟩ = some (.int .i64 d4) := hk1 _ _ _ (by simp [go_sem])
          replace p010 : w1.cell? ⟨w.heap.size, 10, none⟩ = some (.int .i64 d5) := hk1 _ _ _ (by simp [go_sem])
          replace p011 : w1.cell? ⟨w.heap.size, 11, none⟩ = some (.int .i64 d6) := hk1 _ _ _ (by simp [go_sem])
          replace p012 : w1.cell? ⟨w.heap.size, 12, none⟩ = some (Value.slice q l.length cap) := hk1 _ _ _ (by simp [go_sem])
          replace p013 : w1.cell? ⟨w.heap.size, 13, none⟩ = some (.int .i64 p1) := hk1 _ _ _ (by simp [go_sem])
          replace p014 : w1.cell? ⟨w.heap.size, 14, none⟩ = some (.int .i64 p2) := hk1 _ _ _ (by simp [go_sem])
          have bp00 : w.heap.size < w1.heap.size := World.block_lt_of_cell? w1 ⟨w.heap.size, 0, none⟩ p00
          clear hk1
          go_wp2_with fail
          have bp00 := World.block_lt_of_cell? _ _ p00
          dsimp only at bp00
          rw [rounds_succ]
          go_wp2_with fail
          refine useK w (w2c.out _) (by go_grown) ?_; rintro e w2 rfl hB2 hk2 hs2
          replace p00 := hk2 _ _ _ p00; replace p01 := hk2 _ _ _ p01; replace p02 := hk2 _ _ _ p02; replace p03 := hk2 _ _ _ p03; replace p04 := hk2 _ _ _ p04; replace p05 := hk2 _ _ _ p05; replace p06 := hk2 _ _ _ p06; replace p07 := hk2 _ _ _ p07; replace p08 := hk2 _ _ _ p08; replace p09 := hk2 _ _ _ p09; replace p010 := hk2 _ _ _ p010; replace p011 := hk2 _ _ _ p011; replace p012 := hk2 _ _ _ p012; replace p013 := hk2 _ _ _ p013; replace p014 := hk2 _ _ _ p014
          clear hk2 bp00
          have bp00 := World.block_lt_of_cell? _ _ p00
          dsimp only at bp00
          go_wp2_with fail
          rw [rounds_succ]
          go_wp2_with fail
          refine useK w (w3c.out _) (by go_grown) ?_; rintro e w3 rfl hB3 hk3 hs3
          replace p00 := hk3 _ _ _ p00; replace p01 := hk3 _ _ _ p01; replace p02 := hk3 _ _ _ p02; replace p03 := hk3 _ _ _ p03; replace p04 := hk3 _ _ _ p04; replace p05 := hk3 _ _ _ p05; replace p06 := hk3 _ _ _ p06; replace p07 := hk3 _ _ _ p07; replace p08 := hk3 _ _ _ p08; replace p09 := hk3 _ _ _ p09; replace p010 := hk3 _ _ _ p010; replace p011 := hk3 _ _ _ p011; replace p012 := hk3 _ _ _ p012; replace p013 := hk3 _ _ _ p013; replace p014 := hk3 _ _ _ p014
          clear hk3 bp00
          have bp00 := World.block_lt_of_cell? _ _ p00
          dsimp only at bp00
          go_wp2_with fail
          rw [rounds_succ]
          go_wp2_with fail
          refine useK w (k1.out _) (by go_grown) ?_; rintro e w11 rfl hB11 hk11 hs11
          replace p00 := hk11 _ _ _ p00; replace p01 := hk11 _ _ _ p01; replace p02 := hk11 _ _ _ p02; replace p03 := hk11 _ _ _ p03; replace p04 := hk11 _ _ _ p04; replace p05 := hk11 _ _ _ p05; replace p06 := hk11 _ _ _ p06; replace p07 := hk11 _ _ _ p07; replace p08 := hk11 _ _ _ p08; replace p09 := hk11 _ _ _ p09; replace p010 := hk11 _ _ _ p010; replace p011 := hk11 _ _ _ p011; replace p012 := hk11 _ _ _ p012; replace p013 := hk11 _ _ _ p013; replace p014 := hk11 _ _ _ p014
          clear hk11 bp00
          have bp00 := World.block_lt_of_cell? _ _ p00
          dsimp only at bp00
          go_wp2_with fail
          refine useK w (kt.out _ (by go_grown)) (by go_grown) ?_; rintro e w20 rfl hB20 hk20 hs20
          replace p00 := hk20 _ _ _ p00; replace p01 := hk20 _ _ _ p01; replace p02 := hk20 _ _ _ p02; replace p03 := hk20 _ _ _ p03; replace p04 := hk20 _ _ _ p04; replace p05 := hk20 _ _ _ p05; replace p06 := hk20 _ _ _ p06; replace p07 := hk20 _ _ _ p07; replace p08 := hk20 _ _ _ p08; replace p09 := hk20 _ _ _ p09; replace p010 := hk20 _ _ _ p010; replace p011 := hk20 _ _ _ p011; replace p012 := hk20 _ _ _ p012; replace p013 := hk20 _ _ _ p013; replace p014 := hk20 _ _ _ p014
          clear hk20 bp00
          have bp00 := World.block_lt_of_cell? _ _ p00
          dsimp only at bp00
          go_wp2_with fail
          go_ret
          exact ⟨ret_int (by rfl), by go_grown⟩
        cases x2
        · (try simp only [Bool.false_and, Bool.and_false])
          go_enter Try.func14, Try.ntmps14
          go_wp2_with fail
          refine wp_loop_rounds 4 ?_; rw [rounds_succ]
          go_wp2_with fail
          refine useK w (w1c.out _) (by go_grown) ?_; rintro e w1 rfl hB1 hk1 hs1
          replace p00 : w1.cell? ⟨w.heap.size, 0, none⟩ = some (.int .i64 T) := hk1 _ _ _ (by simp [go_sem])
          replace p01 : w1.cell? ⟨w.heap.size, 1, none⟩ = some (.int .i64 S) := hk1 _ _ _ (by simp [go_sem])
          replace p02 : w1.cell? ⟨w.heap.size, 2, none⟩ = some (.int .i64 t1) := hk1 _ _ _ (by simp [go_sem])
          replace p03 : w1.cell? ⟨w.heap.size, 3, none⟩ = some (.int .i64 t2) := hk1 _ _ _ (by simp [go_sem])
          replace p04 : w1.cell? ⟨w.heap.size, 4, none⟩ = some (.int .i64 f1) := hk1 _ _ _ (by simp [go_sem])
          replace p05 : w1.cell? ⟨w.heap.size, 5, none⟩ = some (.int .i64 f2) := hk1 _ _ _ (by simp [go_sem])
          replace p06 : w1.cell? ⟨w.heap.size, 6, none⟩ = some (.int .i64 d1) := hk1 _ _ _ (by simp [go_sem])
          replace p07 : w1.cell? ⟨w.heap.size, 7, none⟩ = some (.int .i64 d2) := hk1 _ _ _ (by simp [go_sem])
          replace p08 : w1.cell? ⟨w.heap.size, 8, none⟩ = some (.int .i64 d3) := hk1 _ _ _ (by simp [go_sem])
          replace p09 : w1.cell? ⟨w.heap.size, 9, none⟩ = some (.int .i64 d4) := hk1 _ _ _ (by simp [go_sem])
          replace p010 : w1.cell? ⟨w.heap.size, 10, none⟩ = some (.int .i64 d5) := hk1 _ _ _ (by simp [go_sem])
          replace p011 : w1.cell? ⟨w.heap.size, 11, none⟩ = some (.int .i64 d6) := hk1 _ _ _ (by simp [go_sem])
          replace p012 : w1.cell? ⟨w.heap.size, 12, none⟩ = some (Value.slice q l.length cap) := hk1 _ _ _ (by simp [go_sem])
          replace p013 : w1.cell? ⟨w.heap.size, 13, none⟩ = some (.int .i64 p1) := hk1 _ _ _ (by simp [go_sem])
          replace p014 : w1.cell? ⟨w.heap.size, 14, none⟩ = some (.int .i64 p2) := hk1 _ _ _ (by simp [go_sem])
          have bp00 : w.heap.size < w1.heap.size := World.block_lt_of_cell? w1 ⟨w.heap.size, 0, none⟩ p00
          clear hk1
          go_wp2_with fail
          have bp00 := World.block_lt_of_cell? _ _ p00
          dsimp only at bp00
          rw [rounds_succ]
          go_wp2_with fail
          refine useK w (w2c.out _) (by go_grown) ?_; rintro e w2 rfl hB2 hk2 hs2
          replace p00 := hk2 _ _ _ p00; replace p01 := hk2 _ _ _ p01; replace p02 := hk2 _ _ _ p02; replace p03 := hk2 _ _ _ p03; replace p04 := hk2 _ _ _ p04; replace p05 := hk2 _ _ _ p05; replace p06 := hk2 _ _ _ p06; replace p07 := hk2 _ _ _ p07; replace p08 := hk2 _ _ _ p08; replace p09 := hk2 _ _ _ p09; replace p010 := hk2 _ _ _ p010; replace p011 := hk2 _ _ _ p011; replace p012 := hk2 _ _ _ p012; replace p013 := hk2 _ _ _ p013; replace p014 := hk2 _ _ _ p014
          clear hk2 bp00
          have bp00 := World.block_lt_of_cell? _ _ p00
          dsimp only at bp00
          go_wp2_with fail
          rw [rounds_succ]
          go_wp2_with fail
          refine useK w (w3c.out _) (by go_grown) ?_; rintro e w3 rfl hB3 hk3 hs3
          replace p00 := hk3 _ _ _ p00; replace p01 := hk3 _ _ _ p01; replace p02 := hk3 _ _ _ p02; replace p03 := hk3 _ _ _ p03; replace p04 := hk3 _ _ _ p04; replace p05 := hk3 _ _ _ p05; replace p06 := hk3 _ _ _ p06; replace p07 := hk3 _ _ _ p07; replace p08 := hk3 _ _ _ p08; replace p09 := hk3 _ _ _ p09; replace p010 := hk3 _ _ _ p010; replace p011 := hk3 _ _ _ p011; replace p012 := hk3 _ _ _ p012; replace p013 := hk3 _ _ _ p013; replace p014 := hk3 _ _ _ p014
          clear hk3 bp00
          have bp00 := World.block_lt_of_cell? _ _ p00
          dsimp only at bp00
          go_wp2_with fail
          rw [rounds_succ]
          go_wp2_with fail
          refine useK w (k1.out _) (by go_grown) ?_; rintro e w11 rfl hB11 hk11 hs11
          replace p00 := hk11 _ _ _ p00; replace p01 := hk11 _ _ _ p01; replace p02 := hk11 _ _ _ p02; replace p03 := hk11 _ _ _ p03; replace p04 := hk11 _ _ _ p04; replace p05 := hk11 _ _ _ p05; replace p06 := hk11 _ _ _ p06; replace p07 := hk11 _ _ _ p07; replace p08 := hk11 _ _ _ p08; replace p09 := hk11 _ _ _ p09; replace p010 := hk11 _ _ _ p010; replace p011 := hk11 _ _ _ p011; replace p012 := hk11 _ _ _ p012; replace p013 := hk11 _ _ _ p013; replace p014 := hk11 _ _ _ p014
          clear hk11 bp00
          have bp00 := World.block_lt_of_cell? _ _ p00
          dsimp only at bp00
          go_wp2_with fail
          refine useK w (k2.out _) (by go_grown) ?_; rintro e w12 rfl hB12 hk12 hs12
          replace p00 := hk12 _ _ _ p00; replace p01 := hk12 _ _ _ p01; replace p02 := hk12 _ _ _ p02; replace p03 := hk12 _ _ _ p03; replace p04 := hk12 _ _ _ p04; replace p05 := hk12 _ _ _ p05; replace p06 := hk12 _ _ _ p06; replace p07 := hk12 _ _ _ p07; replace p08 := hk12 _ _ _ p08; replace p09 := hk12 _ _ _ p09; replace p010 := hk12 _ _ _ p010; replace p011 := hk12 _ _ _ p011; replace p012 := hk12 _ _ _ p012; replace p013 := hk12 _ _ _ p013; replace p014 := hk12 _ _ _ p014
          clear hk12 bp00
          have bp00 := World.block_lt_of_cell? _ _ p00
          dsimp only at bp00
          go_wp2_with fail
          refine useK w (kt.out _ (by go_grown)) (by go_grown) ?_; rintro e w20 rfl hB20 hk20 hs20
          replace p00 := hk20 _ _ _ p00; replace p01 := hk20 _ _ _ p01; replace p02 := hk20 _ _ _ p02; replace p03 := hk20 _ _ _ p03; replace p04 := hk20 _ _ _ p04; replace p05 := hk20 _ _ _ p05; replace p06 := hk20 _ _ _ p06; replace p07 := hk20 _ _ _ p07; replace p08 := hk20 _ _ _ p08; replace p09 := hk20 _ _ _ p09; replace p010 := hk20 _ _ _ p010; replace p011 := hk20 _ _ _ p011; replace p012 := hk20 _ _ _ p012; replace p013 := hk20 _ _ _ p013; replace p014 := hk20 _ _ _ p014
          clear hk20 bp00
          have bp00 := World.block_lt_of_cell? _ _ p00
          dsimp only at bp00
          go_wp2_with fail
          go_ret
          exact ⟨ret_int (by rfl), by go_grown⟩
        cases x3
        · (try simp only [Bool.false_and, Bool.and_false])
          go_enter Try.func14, Try.ntmps14
          go_wp2_with fail
          refine wp_loop_rounds 4 ?_; rw [rounds_succ]
          go_wp2_with fail
          refine useK w (w1c.out _) (by go_grown) ?_; rintro e w1 rfl hB1 hk1 hs1
          replace p00 : w1.cell? ⟨w.heap.size, 0, none⟩ = some (.int .i64 T) := hk1 _ _ _ (by simp [go_sem])
          replace p01 : w1.cell? ⟨w.heap.size, 1, none⟩ = some (.int .i64 S) := hk1 _ _ _ (by simp [go_sem])
          replace p02 : w1.cell? ⟨w.heap.size, 2, none⟩ = some (.int .i64 t1) := hk1 _ _ _ (by simp [go_sem])
          replace p03 : w1.cell? ⟨w.heap.size, 3, none⟩ = some (.int .i64 t2) := hk1 _ _ _ (by simp [go_sem])
          replace p04 : w1.cell? ⟨w.heap.size, 4, none⟩ = some (.int .i64 f1) := hk1 _ _ _ (by simp [go_sem])
          replace p05 : w1.cell? ⟨w.heap.size, 5, none⟩ = some (.int .i64 f2) := hk1 _ _ _ (by simp [go_sem])
          replace p06 : w1.cell? ⟨w.heap.size, 6, none⟩ = some (.int .i64 d1) := hk1 _ _ _ (by simp [go_sem])
          replace p07 : w1.cell? ⟨w.heap.size, 7, none⟩ = some (.int .i64 d2) := hk1 _ _ _ (by simp [go_sem])
          replace p08 : w1.cell? ⟨w.heap.size, 8, none⟩ = some (.int .i64 d3) := hk1 _ _ _ (by simp [go_sem])
          replace p09 : w1.cell? ⟨w.heap.size, 9, none⟩ = some (.int .i64 d4) := hk1 _ _ _ (by simp [go_sem])
          replace p010 : w1.cell? ⟨w.heap.size, 10, none⟩ = some (.int .i64 d5) := hk1 _ _ _ (by simp [go_sem])
          replace p011 : w1.cell? ⟨w.heap.size, 11, none⟩ = some (.int .i64 d6) := hk1 _ _ _ (by simp [go_sem])
          replace p012 : w1.cell? ⟨w.heap.size, 12, none⟩ = some (Value.slice q l.length cap) := hk1 _ _ _ (by simp [go_sem])
          replace p013 : w1.cell? ⟨w.heap.size, 13, none⟩ = some (.int .i64 p1) := hk1 _ _ _ (by simp [go_sem])
          replace p014 : w1.cell? ⟨w.heap.size, 14, none⟩ = some (.int .i64 p2) := hk1 _ _ _ (by simp [go_sem])
          have bp00 : w.heap.size < w1.heap.size := World.block_lt_of_cell? w1 ⟨w.heap.size, 0, none⟩ p00
          clear hk1
          go_wp2_with fail
          have bp00 := World.block_lt_of_cell? _ _ p00
          dsimp only at bp00
          rw [rounds_succ]
          go_wp2_with fail
          refine useK w (w2c.out _) (by go_grown) ?_; rintro e w2 rfl hB2 hk2 hs2
          replace p00 := hk2 _ _ _ p00; replace p01 := hk2 _ _ _ p01; replace p02 := hk2 _ _ _ p02; replace p03 := hk2 _ _ _ p03; replace p04 := hk2 _ _ _ p04; replace p05 := hk2 _ _ _ p05; replace p06 := hk2 _ _ _ p06; replace p07 := hk2 _ _ _ p07; replace p08 := hk2 _ _ _ p08; replace p09 := hk2 _ _ _ p09; replace p010 := hk2 _ _ _ p010; replace p011 := hk2 _ _ _ p011; replace p012 := hk2 _ _ _ p012; replace p013 := hk2 _ _ _ p013; replace p014 := hk2 _ _ _ p014
          clear hk2 bp00
          have bp00 := World.block_lt_of_cell? _ _ p00
          dsimp only at bp00
          go_wp2_with fail
          rw [rounds_succ]
          go_wp2_with fail
          refine useK w (w3c.out _) (by go_grown) ?_; rintro e w3 rfl hB3 hk3 hs3
          replace p00 := hk3 _ _ _ p00; replace p01 := hk3 _ _ _ p01; replace p02 := hk3 _ _ _ p02; replace p03 := hk3 _ _ _ p03; replace p04 := hk3 _ _ _ p04; replace p05 := hk3 _ _ _ p05; replace p06 := hk3 _ _ _ p06; replace p07 := hk3 _ _ _ p07; replace p08 := hk3 _ _ _ p08; replace p09 := hk3 _ _ _ p09; replace p010 := hk3 _ _ _ p010; replace p011 := hk3 _ _ _ p011; replace p012 := hk3 _ _ _ p012; replace p013 := hk3 _ _ _ p013; replace p014 := hk3 _ _ _ p014
          clear hk3 bp00
          have bp00 := World.block_lt_of_cell? _ _ p00
          dsimp only at bp00
          go_wp2_with fail
          rw [rounds_succ]
          go_wp2_with fail
          refine useK w (k1.out _) (by go_grown) ?_; rintro e w11 rfl hB11 hk11 hs11
          replace p00 := hk11 _ _ _ p00; replace p01 := hk11 _ _ _ p01; replace p02 := hk11 _ _ _ p02; replace p03 := hk11 _ _ _ p03; replace p04 := hk11 _ _ _ p04; replace p05 := hk11 _ _ _ p05; replace p06 := hk11 _ _ _ p06; replace p07 := hk11 _ _ _ p07; replace p08 := hk11 _ _ _ p08; replace p09 := hk11 _ _ _ p09; replace p010 := hk11 _ _ _ p010; replace p011 := hk11 _ _ _ p011; replace p012 := hk11 _ _ _ p012; replace p013 := hk11 _ _ _ p013; replace p014 := hk11 _ _ _ p014
          clear hk11 bp00
          have bp00 := World.block_lt_of_cell? _ _ p00
          dsimp only at bp00
          go_wp2_with fail
          refine useK w (k2.out _) (by go_grown) ?_; rintro e w12 rfl hB12 hk12 hs12
          replace p00 := hk12 _ _ _ p00; replace p01 := hk12 _ _ _ p01; replace p02 := hk12 _ _ _ p02; replace p03 := hk12 _ _ _ p03; replace p04 := hk12 _ _ _ p04; replace p05 := hk12 _ _ _ p05; replace p06 := hk12 _ _ _ p06; replace p07 := hk12 _ _ _ p07; replace p08 := hk12 _ _ _ p08; replace p09 := hk12 _ _ _ p09; replace p010 := hk12 _ _ _ p010; replace p011 := hk12 _ _ _ p011; replace p012 := hk12 _ _ _ p012; replace p013 := hk12 _ _ _ p013; replace p014 := hk12 _ _ _ p014
          clear hk12 bp00
          have bp00 := World.block_lt_of_cell? _ _ p00
          dsimp only at bp00
          go_wp2_with fail
          refine useK w (k3.out _) (by go_grown) ?_; rintro e w13 rfl hB13 hk13 hs13
          replace p00 := hk13 _ _ _ p00; replace p01 := hk13 _ _ _ p01; replace p02 := hk13 _ _ _ p02; replace p03 := hk13 _ _ _ p03; replace p04 := hk13 _ _ _ p04; replace p05 := hk13 _ _ _ p05; replace p06 := hk13 _ _ _ p06; replace p07 := hk13 _ _ _ p07; replace p08 := hk13 _ _ _ p08; replace p09 := hk13 _ _ _ p09; replace p010 := hk13 _ _ _ p010; replace p011 := hk13 _ _ _ p011; replace p012 := hk13 _ _ _ p012; replace p013 := hk13 _ _ _ p013; replace p014 := hk13 _ _ _ p014
          clear hk13 bp00
          have bp00 := World.block_lt_of_cell? _ _ p00
          dsimp only at bp00
          go_wp2_with fail
          refine useK w (kt.out _ (by go_grown)) (by go_grown) ?_; rintro e w20 rfl hB20 hk20 hs20
          replace p00 := hk20 _ _ _ p00; replace p01 := hk20 _ _ _ p01; replace p02 := hk20 _ _ _ p02; replace p03 := hk20 _ _ _ p03; replace p04 := hk20 _ _ _ p04; replace p05 := hk20 _ _ _ p05; replace p06 := hk20 _ _ _ p06; replace p07 := hk20 _ _ _ p07; replace p08 := hk20 _ _ _ p08; replace p09 := hk20 _ _ _ p09; replace p010 := hk20 _ _ _ p010; replace p011 := hk20 _ _ _ p011; replace p012 := hk20 _ _ _ p012; replace p013 := hk20 _ _ _ p013; replace p014 := hk20 _ _ _ p014
          clear hk20 bp00
          have bp00 := World.block_lt_of_cell? _ _ p00
          dsimp only at bp00
          go_wp2_with fail
          go_ret
          exact ⟨ret_int (by rfl), by go_grown⟩
        go_enter Try.func14, Try.ntmps14
        go_wp2_with fail
        refine wp_loop_rounds 4 ?_; rw [rounds_succ]
        go_wp2_with fail
        refine useK w (w1c.out _) (by go_grown) ?_; rintro e w1 rfl hB1 hk1 hs1
        replace p00 : w1.cell? ⟨w.heap.size, 0, none⟩ = some (.int .i64 T) := hk1 _ _ _ (by simp [go_sem])
        replace p01 : w1.cell? ⟨w.heap.size, 1, none⟩ = some (.int .i64 S) := hk1 _ _ _ (by simp [go_sem])
        replace p02 : w1.cell? ⟨w.heap.size, 2, none⟩ = some (.int .i64 t1) := hk1 _ _ _ (by simp [go_sem])
        replace p03 : w1.cell? ⟨w.heap.size, 3, none⟩ = some (.int .i64 t2) := hk1 _ _ _ (by simp [go_sem])
        replace p04 : w1.cell? ⟨w.heap.size, 4, none⟩ = some (.int .i64 f1) := hk1 _ _ _ (by simp [go_sem])
        replace p05 : w1.cell? ⟨w.heap.size, 5, none⟩ = some (.int .i64 f2) := hk1 _ _ _ (by simp [go_sem])
        replace p06 : w1.cell? ⟨w.heap.size, 6, none⟩ = some (.int .i64 d1) := hk1 _ _ _ (by simp [go_sem])
        replace p07 : w1.cell? ⟨w.heap.size, 7, none⟩ = some (.int .i64 d2) := hk1 _ _ _ (by simp [go_sem])
        replace p08 : w1.cell? ⟨w.heap.size, 8, none⟩ = some (.int .i64 d3) := hk1 _ _ _ (by simp [go_sem])
        replace p09 : w1.cell? ⟨w.heap.size, 9, none⟩ = some (.int .i64 d4) := hk1 _ _ _ (by simp [go_sem])
        replace p010 : w1.cell? ⟨w.heap.size, 10, none⟩ = some (.int .i64 d5) := hk1 _ _ _ (by simp [go_sem])
        replace p011 : w1.cell? ⟨w.heap.size, 11, none⟩ = some (.int .i64 d6) := hk1 _ _ _ (by simp [go_sem])
        replace p012 : w1.cell? ⟨w.heap.size, 12, none⟩ = some (Value.slice q l.length cap) := hk1 _ _ _ (by simp [go_sem])
        replace p013 : w1.cell? ⟨w.heap.size, 13, none⟩ = some (.int .i64 p1) := hk1 _ _ _ (by simp [go_sem])
        replace p014 : w1.cell? ⟨w.heap.size, 14, none⟩ = some (.int .i64 p2) := hk1 _ _ _ (by simp [go_sem])
        have bp00 : w.heap.size < w1.heap.size := World.block_lt_of_cell? w1 ⟨w.heap.size, 0, none⟩ p00
        clear hk1
        go_wp2_with fail
        have bp00 := World.block_lt_of_cell? _ _ p00
        dsimp only at bp00
        rw [rounds_succ]
        go_wp2_with fail
        refine useK w (w2c.out _) (by go_grown) ?_; rintro e w2 rfl hB2 hk2 hs2
        replace p00 := hk2 _ _ _ p00; replace p01 := hk2 _ _ _ p01; replace p02 := hk2 _ _ _ p02; replace p03 := hk2 _ _ _ p03; replace p04 := hk2 _ _ _ p04; replace p05 := hk2 _ _ _ p05; replace p06 := hk2 _ _ _ p06; replace p07 := hk2 _ _ _ p07; replace p08 := hk2 _ _ _ p08; replace p09 := hk2 _ _ _ p09; replace p010 := hk2 _ _ _ p010; replace p011 := hk2 _ _ _ p011; replace p012 := hk2 _ _ _ p012; replace p013 := hk2 _ _ _ p013; replace p014 := hk2 _ _ _ p014
        clear hk2 bp00
        have bp00 := World.block_lt_of_cell? _ _ p00
        dsimp only at bp00
        go_wp2_with fail
        rw [rounds_succ]
        go_wp2_with fail
        refine useK w (w3c.out _) (by go_grown) ?_; rintro e w3 rfl hB3 hk3 hs3
        replace p00 := hk3 _ _ _ p00; replace p01 := hk3 _ _ _ p01; replace p02 := hk3 _ _ _ p02; replace p03 := hk3 _ _ _ p03; replace p04 := hk3 _ _ _ p04; replace p05 := hk3 _ _ _ p05; replace p06 := hk3 _ _ _ p06; replace p07 := hk3 _ _ _ p07; replace p08 := hk3 _ _ _ p08; replace p09 := hk3 _ _ _ p09; replace p010 := hk3 _ _ _ p010; replace p011 := hk3 _ _ _ p011; replace p012 := hk3 _ _ _ p012; replace p013 := hk3 _ _ _ p013; replace p014 := hk3 _ _ _ p014
        clear hk3 bp00
        have bp00 := World.block_lt_of_cell? _ _ p00
        dsimp only at bp00
        go_wp2_with fail
        rw [rounds_succ]
        go_wp2_with fail
        refine useK w (k1.out _) (by go_grown) ?_; rintro e w11 rfl hB11 hk11 hs11
        replace p00 := hk11 _ _ _ p00; replace p01 := hk11 _ _ _ p01; replace p02 := hk11 _ _ _ p02; replace p03 := hk11 _ _ _ p03; replace p04 := hk11 _ _ _ p04; replace p05 := hk11 _ _ _ p05; replace p06 := hk11 _ _ _ p06; replace p07 := hk11 _ _ _ p07; replace p08 := hk11 _ _ _ p08; replace p09 := hk11 _ _ _ p09; replace p010 := hk11 _ _ _ p010; replace p011 := hk11 _ _ _ p011; replace p012 := hk11 _ _ _ p012; replace p013 := hk11 _ _ _ p013; replace p014 := hk11 _ _ _ p014
        clear hk11 bp00
        have bp00 := World.block_lt_of_cell? _ _ p00
        dsimp only at bp00
        go_wp2_with fail
        refine useK w (k2.out _) (by go_grown) ?_; rintro e w12 rfl hB12 hk12 hs12
        replace p00 := hk12 _ _ _ p00; replace p01 := hk12 _ _ _ p01; replace p02 := hk12 _ _ _ p02; replace p03 := hk12 _ _ _ p03; replace p04 := hk12 _ _ _ p04; replace p05 := hk12 _ _ _ p05; replace p06 := hk12 _ _ _ p06; replace p07 := hk12 _ _ _ p07; replace p08 := hk12 _ _ _ p08; replace p09 := hk12 _ _ _ p09; replace p010 := hk12 _ _ _ p010; replace p011 := hk12 _ _ _ p011; replace p012 := hk12 _ _ _ p012; replace p013 := hk12 _ _ _ p013; replace p014 := hk12 _ _ _ p014
        clear hk12 bp00
        have bp00 := World.block_lt_of_cell? _ _ p00
        dsimp only at bp00
        go_wp2_with fail
        refine useK w (k3.out _) (by go_grown) ?_; rintro e w13 rfl hB13 hk13 hs13
        replace p00 := hk13 _ _ _ p00; replace p01 := hk13 _ _ _ p01; replace p02 := hk13 _ _ _ p02; replace p03 := hk13 _ _ _ p03; replace p04 := hk13 _ _ _ p04; replace p05 := hk13 _ _ _ p05; replace p06 := hk13 _ _ _ p06; replace p07 := hk13 _ _ _ p07; replace p08 := hk13 _ _ _ p08; replace p09 := hk13 _ _ _ p09; replace p010 := hk13 _ _ _ p010; replace p011 := hk13 _ _ _ p011; replace p012 := hk13 _ _ _ p012; replace p013 := hk13 _ _ _ p013; replace p014 := hk13 _ _ _ p014
        clear hk13 bp00
        have bp00 := World.block_lt_of_cell? _ _ p00
        dsimp only at bp00
        go_wp2_with fail
        refine useK w (kt.out _ (by go_grown)) (by go_grown) ?_; rintro e w20 rfl hB20 hk20 hs20
        replace p00 := hk20 _ _ _ p00; replace p01 := hk20 _ _ _ p01; replace p02 := hk20 _ _ _ p02; replace p03 := hk20 _ _ _ p03; replace p04 := hk20 _ _ _ p04; replace p05 := hk20 _ _ _ p05; replace p06 := hk20 _ _ _ p06; replace p07 := hk20 _ _ _ p07; replace p08 := hk20 _ _ _ p08; replace p09 := hk20 _ _ _ p09; replace p010 := hk20 _ _ _ p010; replace p011 := hk20 _ _ _ p011; replace p012 := hk20 _ _ _ p012; replace p013 := hk20 _ _ _ p013; replace p014 := hk20 _ _ _ p014
        clear hk20 bp00
        have bp00 := World.block_lt_of_cell? _ _ p00
        dsimp only at bp00
        go_wp2_with fail
        go_ret
        exact ⟨ret_int (by rfl), by go_grown⟩
theorem rcheckarc_any (q : Option Addr) (cap : Nat) (T S t1 t2 f1 f2 d1 d2 d3 d4 d5 d6 p1 p2 : Int) (l : List (Int × Int × Int)) (w : World) (h : (-9223372036854775808 ≤ T ∧ T ≤ 9223372036854775807) ∧ (-9223372036854775808 ≤ S ∧ S ≤ 9223372036854775807) ∧ (-9223372036854775808 ≤ t1 ∧ t1 ≤ 9223372036854775807) ∧ (-9223372036854775808 ≤ t2 ∧ t2 ≤ 9223372036854775807) ∧ (-9223372036854775808 ≤ f1 ∧ f1 ≤ 9223372036854775807) ∧ (-9223372036854775808 ≤ f2 ∧ f2 ≤ 9223372036854775807) ∧ (-9223372036854775808 ≤ d1 ∧ d1 ≤ 9223372036854775807) ∧ (-9223372036854775808 ≤ d2 ∧ d2 ≤ 9223372036854775807) ∧ (-9223372036854775808 ≤ d3 ∧ d3 ≤ 9223372036854775807) ∧ (-9223372036854775808 ≤ d4 ∧ d4 ≤ 9223372036854775807) ∧ (-9223372036854775808 ≤ d5 ∧ d5 ≤ 9223372036854775807) ∧ (-9223372036854775808 ≤ d6 ∧ d6 ≤ 9223372036854775807) ∧ (-9223372036854775808 ≤ p1 ∧ p1 ≤ 9223372036854775807) ∧ (-9223372036854775808 ≤ p2 ∧ p2 ≤ 9223372036854775807)) (hl : l.length ≤ 70) (ht : TabIn q l w) (hb : Hid (∀ p ∈ l, (-9223372036854775808 ≤ p.1 ∧ p.1 ≤ 9223372036854775807) ∧ (-9223372036854775808 ≤ p.2.1 ∧ p.2.1 ≤ 9223372036854775807) ∧ (-9223372036854775808 ≤ p.2.2 ∧ p.2.2 ≤ 9223372036854775807))) :
    Calls Try.prog 14 #[.agg #[.int .i64 T, .int .i64 S, .int .i64 t1, .int .i64 t2, .int .i64 f1, .int .i64 f2, .int .i64 d1, .int .i64 d2, .int .i64 d3, .int .i64 d4, .int .i64 d5, .int .i64 d6, Value.slice q l.length cap, .int .i64 p1, .int .i64 p2]] w fun e w' => e = .returned (.int .i64 (errB (arcB T S t1 t2 f1 f2 d1 d2 d3 d4 d5 d6 p1 p2 l))) ∧ Below w.heap.size w w' := by
  unfold arcB dirB dragB
  refine rcheckarc_go q cap T S t1 t2 f1 f2 d1 d2 d3 d4 d5 d6 p1 p2 l w _ _ _ _ _ _ _ (hid fun W => rwithin_any d1 d2 _ _ W (by omega)) (hid fun W => rwithin_any d3 d4 _ _ W (by omega)) (hid fun W => rwithin_any d5 d6 _ _ W (by omega)) (hid fun W => rleast_any t1 t2 0 W (by omega)) (hid fun W => rleast_any f1 f2 0 W (by omega)) (hid fun W => rleast_any p1 p2 0 W (by omega)) (hid fun h1 W hW => rchecktable_any q cap l W ⟨h1, hl⟩ (ht.on hW) hb)
end Go.Proofs.Ytepcifijhnelcaa
