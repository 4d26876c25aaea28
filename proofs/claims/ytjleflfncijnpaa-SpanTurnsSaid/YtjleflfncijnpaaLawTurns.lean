/- SpanTurns: the walk. -/
import Derived.Test.YtjleflfncijnpaaRows
import Derived.Test.YtjleflfncijnpaaBase
import Derived.Test.YtjleflfncijnpaaFacts
import Derived.Test.YtjleflfncijnpaaTwo
import Derived.Deep.RegionHeld3
import Derived.Deep.RegionWith
import Derived.Deep.QuietTactic
import Derived.BigQuiet
import Derived.Test.YtjleflfncijnpaaW
import Derived.Test.YtjleflfncijnpaaAsks
import Derived.Test.YtjleflfncijnpaaOut
import Derived.Test.YtjleflfncijnpaaSeq
import Derived.Test.YtjleflfncijnpaaTwo
import Derived.Test.YtjleflfncijnpaaOne
import Derived.Test.YtjleflfncijnpaaQuo
import Derived.Test.YtjleflfncijnpaaTurnM
import Derived.Test.YtjleflfncijnpaaShare
import Derived.Test.YtjleflfncijnpaaTurn
import Derived.Test.YtjleflfncijnpaaTurnT
import Derived.Test.YtjleflfncijnpaaTurnR
import Derived.Test.YtjleflfncijnpaaTurnS
import Derived.Test.YtjleflfncijnpaaSame
set_option linter.unusedVariables false
set_option linter.unusedSimpArgs false
set_option maxHeartbeats 4000000
set_option maxRecDepth 100000
namespace Go.Proofs.Ytjleflfncijnpaa
open Go Go.RowKit
theorem turns_go (lo hi p1 p2 p3 p4 p5 : Int) (w : World)
    (t1 : Hid (∀ w : World, Calls Try.prog 67 #[.agg #[.int .i64 lo, .int .i64 hi]] w fun e w' => e = .returned (.tuple #[.agg #[.int .i64 p1, .int .i64 p2], .agg #[.int .i64 p3, .int .i64 p4], .int .i64 p5]) ∧ Below w.heap.size w w'))
    (t2 : Hid (∀ w : World, Calls Try.prog 68 #[.agg #[.int .i64 lo, .int .i64 hi]] w fun e w' => e = .returned (.tuple #[.agg #[.int .i64 p1, .int .i64 p2], .agg #[.int .i64 p3, .int .i64 p4], .int .i64 p5]) ∧ Below w.heap.size w w')) :
    Calls Try.prog 10 #[.agg #[.int .i64 lo, .int .i64 hi]] w fun e w' => e = .returned (.bool true) ∧ Below w.heap.size w w' := by
  go_enter Try.func10, Try.ntmps10
  go_wp2_with fail
  refine useK w (t1.out _) (by go_grown) ?_; rintro e w1 rfl hB1 hk1 hs1
  replace p00 : w1.cell? ⟨w.heap.size, 0, none⟩ = some (.int .i64 lo) := hk1 _ _ _ (by simp [go_sem])
  replace p01 : w1.cell? ⟨w.heap.size, 1, none⟩ = some (.int .i64 hi) := hk1 _ _ _ (by simp [go_sem])
  have bp00 : w.heap.size < w1.heap.size := World.block_lt_of_cell? w1 ⟨w.heap.size, 0, none⟩ p00
  clear hk1
  go_wp2_with fail
  refine useK w (t2.out _) (by go_grown) ?_; rintro e w2 rfl hB2 hk2 hs2
  replace p00 : w2.cell? ⟨w.heap.size, 0, none⟩ = some (.int .i64 lo) := hk2 _ _ _ ((keepA _ (keepA _ p00)))
  replace p01 : w2.cell? ⟨w.heap.size, 1, none⟩ = some (.int .i64 hi) := hk2 _ _ _ ((keepA _ (keepA _ p01)))
  replace l100 : w2.cell? ⟨w1.heap.size, 0, none⟩ = some (.int .i64 p1) := hk2 _ _ _ (by simp [go_sem])
  replace l101 : w2.cell? ⟨w1.heap.size, 1, none⟩ = some (.int .i64 p2) := hk2 _ _ _ (by simp [go_sem])
  replace l110 : w2.cell? ⟨w1.heap.size + 1, 0, none⟩ = some (.int .i64 p3) := hk2 _ _ _ (by simp [go_sem])
  replace l111 : w2.cell? ⟨w1.heap.size + 1, 1, none⟩ = some (.int .i64 p4) := hk2 _ _ _ (by simp [go_sem])
  have bp00 : w.heap.size < w2.heap.size := World.block_lt_of_cell? w2 ⟨w.heap.size, 0, none⟩ p00
  have bl100 : w1.heap.size < w2.heap.size := World.block_lt_of_cell? w2 ⟨w1.heap.size, 0, none⟩ l100
  have bl110 : w1.heap.size + 1 < w2.heap.size := World.block_lt_of_cell? w2 ⟨w1.heap.size + 1, 0, none⟩ l110
  clear hk2
  go_wp2_with fail
  refine useK w (same_eq _ _ _ _) (by go_grown) ?_; rintro e w3 rfl hB3 hk3 hs3
  replace p00 : w3.cell? ⟨w.heap.size, 0, none⟩ = some (.int .i64 lo) := hk3 _ _ _ ((keepA _ (keepA _ p00)))
  replace p01 : w3.cell? ⟨w.heap.size, 1, none⟩ = some (.int .i64 hi) := hk3 _ _ _ ((keepA _ (keepA _ p01)))
  replace l100 : w3.cell? ⟨w1.heap.size, 0, none⟩ = some (.int .i64 p1) := hk3 _ _ _ ((keepA _ (keepA _ l100)))
  replace l101 : w3.cell? ⟨w1.heap.size, 1, none⟩ = some (.int .i64 p2) := hk3 _ _ _ ((keepA _ (keepA _ l101)))
  replace l110 : w3.cell? ⟨w1.heap.size + 1, 0, none⟩ = some (.int .i64 p3) := hk3 _ _ _ ((keepA _ (keepA _ l110)))
  replace l111 : w3.cell? ⟨w1.heap.size + 1, 1, none⟩ = some (.int .i64 p4) := hk3 _ _ _ ((keepA _ (keepA _ l111)))
  replace l200 : w3.cell? ⟨w2.heap.size, 0, none⟩ = some (.int .i64 p1) := hk3 _ _ _ (by simp [go_sem])
  replace l201 : w3.cell? ⟨w2.heap.size, 1, none⟩ = some (.int .i64 p2) := hk3 _ _ _ (by simp [go_sem])
  replace l210 : w3.cell? ⟨w2.heap.size + 1, 0, none⟩ = some (.int .i64 p3) := hk3 _ _ _ (by simp [go_sem])
  replace l211 : w3.cell? ⟨w2.heap.size + 1, 1, none⟩ = some (.int .i64 p4) := hk3 _ _ _ (by simp [go_sem])
  have bp00 : w.heap.size < w3.heap.size := World.block_lt_of_cell? w3 ⟨w.heap.size, 0, none⟩ p00
  have bl100 : w1.heap.size < w3.heap.size := World.block_lt_of_cell? w3 ⟨w1.heap.size, 0, none⟩ l100
  have bl110 : w1.heap.size + 1 < w3.heap.size := World.block_lt_of_cell? w3 ⟨w1.heap.size + 1, 0, none⟩ l110
  have bl200 : w2.heap.size < w3.heap.size := World.block_lt_of_cell? w3 ⟨w2.heap.size, 0, none⟩ l200
  have bl210 : w2.heap.size + 1 < w3.heap.size := World.block_lt_of_cell? w3 ⟨w2.heap.size + 1, 0, none⟩ l210
  clear hk3
  go_wp2_with fail
  go_ret
  exact ⟨rfl, by go_grown⟩
theorem lawTurns_any (lo hi : Int) (w : World) (h : (-9223372036854775808 ≤ lo ∧ lo ≤ 9223372036854775807) ∧ (-9223372036854775808 ≤ hi ∧ hi ≤ 9223372036854775807)) :
    Calls Try.prog 10 #[.agg #[.int .i64 lo, .int .i64 hi]] w fun e w' => e = .returned (.bool true) ∧ Below w.heap.size w w' :=
  turns_go lo hi _ _ _ _ _ w (fun W => turn_any lo hi W h) (fun W => rturn_any lo hi W h)
end Go.Proofs.Ytjleflfncijnpaa
