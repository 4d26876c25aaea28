/- SpanTexts: the walk. -/
import Derived.Test.YtjleflfncijnpaaDoorRows
import Derived.Test.YtjleflfncijnpaaDoorBase
import Derived.Test.YtjleflfncijnpaaDoorFacts
import Derived.Test.YtjleflfncijnpaaDoorTwo
import Derived.Deep.RegionHeld3
import Derived.Deep.RegionWith
import Derived.Deep.QuietTactic
import Derived.BigQuiet
import Derived.Test.YtjleflfncijnpaaDoorW
import Derived.Test.YtjleflfncijnpaaDoorAsks
import Derived.Test.YtjleflfncijnpaaDoorOut
import Derived.Test.YtjleflfncijnpaaDoorSeq
import Derived.Test.YtjleflfncijnpaaDoorTwo
import Derived.Test.YtjleflfncijnpaaDoorOne
import Derived.Test.YtjleflfncijnpaaDoorSame
import Derived.Test.YtjleflfncijnpaaDoorShelfT
import Derived.Test.YtjleflfncijnpaaDoorTextM
import Derived.Test.YtjleflfncijnpaaDoorText
import Derived.Test.YtjleflfncijnpaaDoorRText
import Derived.Test.YtjleflfncijnpaaDoorReadM
import Derived.Test.YtjleflfncijnpaaDoorReadS
import Derived.Test.YtjleflfncijnpaaDoorReadA
import Derived.Test.YtjleflfncijnpaaDoorFormR
import Derived.Test.YtjleflfncijnpaaDoorReadX
set_option linter.unusedVariables false
set_option linter.unusedSimpArgs false
set_option maxHeartbeats 4000000
set_option maxRecDepth 100000
namespace Go.Proofs.YtjleflfncijnpaaDoor
open Go Go.RowKit
theorem texts_go (n x y er : Int) (l T : List UInt8) (w : World) (hl : l.length ≤ 200)
    (t : Hid (∀ W : World, Below w.heap.size w W → Calls Tryd.prog 14 #[.int .i64 n] W fun e w' => e = .returned (.string ⟨T.toArray⟩) ∧ Below W.heap.size W w'))
    (rt : Hid (∀ w : World, Calls Tryd.prog 15 #[.int .i64 n] w fun e w' => e = .returned (.string ⟨T.toArray⟩) ∧ Below w.heap.size w w'))
    (rd : Hid (∀ w : World, Calls Tryd.prog 12 #[.string ⟨l.toArray⟩] w fun e w' => e = .returned (.tuple #[.agg #[.int .i64 x, .int .i64 y], .int .i64 er]) ∧ Below w.heap.size w w'))
    (rr : Hid (∀ w : World, Calls Tryd.prog 13 #[.string ⟨l.toArray⟩] w fun e w' => e = .returned (.tuple #[.agg #[.int .i64 x, .int .i64 y], .int .i64 er]) ∧ Below w.heap.size w w')) :
    Calls Tryd.prog 3 #[.int .i64 n, .string ⟨l.toArray⟩] w fun e w' => e = .returned (.bool true) ∧ Below w.heap.size w w' := by
  have h1 : ¬ (200 : Int) < l.length := by omega
  go_enter Tryd.func3, Tryd.ntmps3
  go_wp2_with fail
  refine useK w (rd.out _) (by go_grown) ?_; rintro e w1 rfl hB1 hk1 hs1
  clear hk1
  go_wp2_with fail
  refine useK w (rr.out _) (by go_grown) ?_; rintro e w2 rfl hB2 hk2 hs2
  replace l100 : w2.cell? ⟨w1.heap.size, 0, none⟩ = some (.int .i64 x) := hk2 _ _ _ (by simp [go_sem])
  replace l101 : w2.cell? ⟨w1.heap.size, 1, none⟩ = some (.int .i64 y) := hk2 _ _ _ (by simp [go_sem])
  have bl100 : w1.heap.size < w2.heap.size := World.block_lt_of_cell? w2 ⟨w1.heap.size, 0, none⟩ l100
  clear hk2
  go_wp2_with fail
  refine useK w (t.out _ (by go_grown)) (by go_grown) ?_; rintro e w3 rfl hB3 hk3 hs3
  replace l100 : w3.cell? ⟨w1.heap.size, 0, none⟩ = some (.int .i64 x) := hk3 _ _ _ ((keepA _ l100))
  replace l101 : w3.cell? ⟨w1.heap.size, 1, none⟩ = some (.int .i64 y) := hk3 _ _ _ ((keepA _ l101))
  replace l200 : w3.cell? ⟨w2.heap.size, 0, none⟩ = some (.int .i64 x) := hk3 _ _ _ (by simp [go_sem])
  replace l201 : w3.cell? ⟨w2.heap.size, 1, none⟩ = some (.int .i64 y) := hk3 _ _ _ (by simp [go_sem])
  have bl100 : w1.heap.size < w3.heap.size := World.block_lt_of_cell? w3 ⟨w1.heap.size, 0, none⟩ l100
  have bl200 : w2.heap.size < w3.heap.size := World.block_lt_of_cell? w3 ⟨w2.heap.size, 0, none⟩ l200
  clear hk3
  go_wp2_with fail
  refine useK w (rt.out _) (by go_grown) ?_; rintro e w4 rfl hB4 hk4 hs4
  replace l100 : w4.cell? ⟨w1.heap.size, 0, none⟩ = some (.int .i64 x) := hk4 _ _ _ (l100)
  replace l101 : w4.cell? ⟨w1.heap.size, 1, none⟩ = some (.int .i64 y) := hk4 _ _ _ (l101)
  replace l200 : w4.cell? ⟨w2.heap.size, 0, none⟩ = some (.int .i64 x) := hk4 _ _ _ (l200)
  replace l201 : w4.cell? ⟨w2.heap.size, 1, none⟩ = some (.int .i64 y) := hk4 _ _ _ (l201)
  have bl100 : w1.heap.size < w4.heap.size := World.block_lt_of_cell? w4 ⟨w1.heap.size, 0, none⟩ l100
  have bl200 : w2.heap.size < w4.heap.size := World.block_lt_of_cell? w4 ⟨w2.heap.size, 0, none⟩ l200
  clear hk4
  go_wp2_with fail
  refine useK w (same_eq _ _ _ _) (by go_grown) ?_; rintro e w5 rfl hB5 hk5 hs5
  replace l100 : w5.cell? ⟨w1.heap.size, 0, none⟩ = some (.int .i64 x) := hk5 _ _ _ (l100)
  replace l101 : w5.cell? ⟨w1.heap.size, 1, none⟩ = some (.int .i64 y) := hk5 _ _ _ (l101)
  replace l200 : w5.cell? ⟨w2.heap.size, 0, none⟩ = some (.int .i64 x) := hk5 _ _ _ (l200)
  replace l201 : w5.cell? ⟨w2.heap.size, 1, none⟩ = some (.int .i64 y) := hk5 _ _ _ (l201)
  have bl100 : w1.heap.size < w5.heap.size := World.block_lt_of_cell? w5 ⟨w1.heap.size, 0, none⟩ l100
  have bl200 : w2.heap.size < w5.heap.size := World.block_lt_of_cell? w5 ⟨w2.heap.size, 0, none⟩ l200
  clear hk5
  go_wp2_with fail
  go_ret
  exact ⟨rfl, by go_grown⟩
theorem lawTexts_any (n : Int) (l : List UInt8) (w : World) (h : (-9223372036854775808 ≤ n ∧ n ≤ 9223372036854775807)) (ht : Hid (Tab10 w)) :
    Calls Tryd.prog 3 #[.int .i64 n, .string ⟨l.toArray⟩] w fun e w' => e = .returned (.bool true) ∧ Below w.heap.size w w' := by
  by_cases c : 200 < l.length
  · have h1 : (200 : Int) < l.length := by omega
    go_enter Tryd.func3, Tryd.ntmps3
    go_wp2
    all_goals (go_ret; exact ⟨rfl, by go_grown⟩)
  · exact texts_go n _ _ _ l (textS n) w (by omega) (hid (fun W hW => text_any n W h (hid (ht.out.on hW)))) (hid (fun W => rtext_any n W h)) (hid (fun W => read_any l W (by omega))) (hid (fun W => rread_any l W (by omega)))
theorem str_list (s : ByteArray) : (⟨s.data.toList.toArray⟩ : ByteArray) = s := by cases s; simp
theorem lawTexts_str (n : Int) (s : ByteArray) (w : World) (h : (-9223372036854775808 ≤ n ∧ n ≤ 9223372036854775807)) (ht : Hid (Tab10 w)) :
    Calls Tryd.prog 3 #[.int .i64 n, .string s] w fun e w' => e = .returned (.bool true) ∧ Below w.heap.size w w' := by
  have := lawTexts_any n s.data.toList w h ht
  rw [str_list] at this
  exact this
end Go.Proofs.YtjleflfncijnpaaDoor
