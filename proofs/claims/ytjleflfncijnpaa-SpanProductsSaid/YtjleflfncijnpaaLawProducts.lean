/- SpanProducts: the walk. -/
import Derived.Test.YtjleflfncijnpaaRows
import Derived.Test.YtjleflfncijnpaaBase
import Derived.Test.YtjleflfncijnpaaFacts
import Derived.Test.YtjleflfncijnpaaTwo
import Derived.Deep.RegionHeld3
import Derived.Deep.RegionWith
import Derived.Deep.QuietTactic
import Derived.BigQuiet
import Derived.Test.YtjleflfncijnpaaMul
import Derived.Test.YtjleflfncijnpaaMulR
import Derived.Test.YtjleflfncijnpaaDivR
import Derived.Test.YtjleflfncijnpaaSame
import Derived.Test.YtjleflfncijnpaaSeq
set_option linter.unusedVariables false
set_option linter.unusedSimpArgs false
set_option maxHeartbeats 4000000
set_option maxRecDepth 100000
namespace Go.Proofs.Ytjleflfncijnpaa
open Go Go.RowKit
theorem lawProducts_any (al ah bl bh : Int) (w : World) (h : (-9223372036854775808 ≤ al ∧ al ≤ 9223372036854775807) ∧ (-9223372036854775808 ≤ ah ∧ ah ≤ 9223372036854775807) ∧ (-9223372036854775808 ≤ bl ∧ bl ≤ 9223372036854775807) ∧ (-9223372036854775808 ≤ bh ∧ bh ≤ 9223372036854775807)) :
    Calls Try.prog 5 #[.agg #[.int .i64 al, .int .i64 ah], .agg #[.int .i64 bl, .int .i64 bh]] w fun e w' => e = .returned (.bool true) ∧ Below w.heap.size w w' := by
  obtain ⟨⟨a1, a2⟩, ⟨b1, b2⟩, ⟨c1, c2⟩, d1, d2⟩ := h
  go_enter Try.func5, Try.ntmps5
  go_wp2_with fail
  refine useK w (mul_any _ _ _ _ _ (by omega)) (by go_grown) ?_; rintro e w1 rfl hB1 hk1 hs1
  replace p00 : w1.cell? ⟨w.heap.size, 0, none⟩ = some (.int .i64 al) := hk1 _ _ _ (by simp [go_sem])
  replace p01 : w1.cell? ⟨w.heap.size, 1, none⟩ = some (.int .i64 ah) := hk1 _ _ _ (by simp [go_sem])
  replace p10 : w1.cell? ⟨w.heap.size + 1, 0, none⟩ = some (.int .i64 bl) := hk1 _ _ _ (by simp [go_sem])
  replace p11 : w1.cell? ⟨w.heap.size + 1, 1, none⟩ = some (.int .i64 bh) := hk1 _ _ _ (by simp [go_sem])
  have bp00 : w.heap.size < w1.heap.size := World.block_lt_of_cell? w1 ⟨w.heap.size, 0, none⟩ p00
  have bp10 : w.heap.size + 1 < w1.heap.size := World.block_lt_of_cell? w1 ⟨w.heap.size + 1, 0, none⟩ p10
  clear hk1
  go_wp2_with fail
  refine useK w (rmul_any _ _ _ _ _ (by omega)) (by go_grown) ?_; rintro e w2 rfl hB2 hk2 hs2
  replace p00 : w2.cell? ⟨w.heap.size, 0, none⟩ = some (.int .i64 al) := hk2 _ _ _ ((keepA _ p00))
  replace p01 : w2.cell? ⟨w.heap.size, 1, none⟩ = some (.int .i64 ah) := hk2 _ _ _ ((keepA _ p01))
  replace p10 : w2.cell? ⟨w.heap.size + 1, 0, none⟩ = some (.int .i64 bl) := hk2 _ _ _ ((keepA _ p10))
  replace p11 : w2.cell? ⟨w.heap.size + 1, 1, none⟩ = some (.int .i64 bh) := hk2 _ _ _ ((keepA _ p11))
  replace l100 : w2.cell? ⟨w1.heap.size, 0, none⟩ = some (.int .i64 ((mulS al ah bl bh).1)) := hk2 _ _ _ (by simp [go_sem])
  replace l101 : w2.cell? ⟨w1.heap.size, 1, none⟩ = some (.int .i64 ((mulS al ah bl bh).2.1)) := hk2 _ _ _ (by simp [go_sem])
  have bp00 : w.heap.size < w2.heap.size := World.block_lt_of_cell? w2 ⟨w.heap.size, 0, none⟩ p00
  have bp10 : w.heap.size + 1 < w2.heap.size := World.block_lt_of_cell? w2 ⟨w.heap.size + 1, 0, none⟩ p10
  have bl100 : w1.heap.size < w2.heap.size := World.block_lt_of_cell? w2 ⟨w1.heap.size, 0, none⟩ l100
  clear hk2
  go_wp2_with fail
  refine useK w (div_any _ _ _ _ _ (by omega)) (by go_grown) ?_; rintro e w3 rfl hB3 hk3 hs3
  replace p00 : w3.cell? ⟨w.heap.size, 0, none⟩ = some (.int .i64 al) := hk3 _ _ _ ((keepA _ p00))
  replace p01 : w3.cell? ⟨w.heap.size, 1, none⟩ = some (.int .i64 ah) := hk3 _ _ _ ((keepA _ p01))
  replace p10 : w3.cell? ⟨w.heap.size + 1, 0, none⟩ = some (.int .i64 bl) := hk3 _ _ _ ((keepA _ p10))
  replace p11 : w3.cell? ⟨w.heap.size + 1, 1, none⟩ = some (.int .i64 bh) := hk3 _ _ _ ((keepA _ p11))
  replace l100 : w3.cell? ⟨w1.heap.size, 0, none⟩ = some (.int .i64 ((mulS al ah bl bh).1)) := hk3 _ _ _ ((keepA _ l100))
  replace l101 : w3.cell? ⟨w1.heap.size, 1, none⟩ = some (.int .i64 ((mulS al ah bl bh).2.1)) := hk3 _ _ _ ((keepA _ l101))
  replace l200 : w3.cell? ⟨w2.heap.size, 0, none⟩ = some (.int .i64 ((mulS al ah bl bh).1)) := hk3 _ _ _ (by simp [go_sem])
  replace l201 : w3.cell? ⟨w2.heap.size, 1, none⟩ = some (.int .i64 ((mulS al ah bl bh).2.1)) := hk3 _ _ _ (by simp [go_sem])
  have bp00 : w.heap.size < w3.heap.size := World.block_lt_of_cell? w3 ⟨w.heap.size, 0, none⟩ p00
  have bp10 : w.heap.size + 1 < w3.heap.size := World.block_lt_of_cell? w3 ⟨w.heap.size + 1, 0, none⟩ p10
  have bl100 : w1.heap.size < w3.heap.size := World.block_lt_of_cell? w3 ⟨w1.heap.size, 0, none⟩ l100
  have bl200 : w2.heap.size < w3.heap.size := World.block_lt_of_cell? w3 ⟨w2.heap.size, 0, none⟩ l200
  clear hk3
  go_wp2_with fail
  refine useK w (rdiv_any _ _ _ _ _ (by omega)) (by go_grown) ?_; rintro e w4 rfl hB4 hk4 hs4
  replace p00 : w4.cell? ⟨w.heap.size, 0, none⟩ = some (.int .i64 al) := hk4 _ _ _ ((keepA _ p00))
  replace p01 : w4.cell? ⟨w.heap.size, 1, none⟩ = some (.int .i64 ah) := hk4 _ _ _ ((keepA _ p01))
  replace p10 : w4.cell? ⟨w.heap.size + 1, 0, none⟩ = some (.int .i64 bl) := hk4 _ _ _ ((keepA _ p10))
  replace p11 : w4.cell? ⟨w.heap.size + 1, 1, none⟩ = some (.int .i64 bh) := hk4 _ _ _ ((keepA _ p11))
  replace l100 : w4.cell? ⟨w1.heap.size, 0, none⟩ = some (.int .i64 ((mulS al ah bl bh).1)) := hk4 _ _ _ ((keepA _ l100))
  replace l101 : w4.cell? ⟨w1.heap.size, 1, none⟩ = some (.int .i64 ((mulS al ah bl bh).2.1)) := hk4 _ _ _ ((keepA _ l101))
  replace l200 : w4.cell? ⟨w2.heap.size, 0, none⟩ = some (.int .i64 ((mulS al ah bl bh).1)) := hk4 _ _ _ ((keepA _ l200))
  replace l201 : w4.cell? ⟨w2.heap.size, 1, none⟩ = some (.int .i64 ((mulS al ah bl bh).2.1)) := hk4 _ _ _ ((keepA _ l201))
  replace l300 : w4.cell? ⟨w3.heap.size, 0, none⟩ = some (.int .i64 ((divS al ah bl bh).1)) := hk4 _ _ _ (by simp [go_sem])
  replace l301 : w4.cell? ⟨w3.heap.size, 1, none⟩ = some (.int .i64 ((divS al ah bl bh).2.1)) := hk4 _ _ _ (by simp [go_sem])
  have bp00 : w.heap.size < w4.heap.size := World.block_lt_of_cell? w4 ⟨w.heap.size, 0, none⟩ p00
  have bp10 : w.heap.size + 1 < w4.heap.size := World.block_lt_of_cell? w4 ⟨w.heap.size + 1, 0, none⟩ p10
  have bl100 : w1.heap.size < w4.heap.size := World.block_lt_of_cell? w4 ⟨w1.heap.size, 0, none⟩ l100
  have bl200 : w2.heap.size < w4.heap.size := World.block_lt_of_cell? w4 ⟨w2.heap.size, 0, none⟩ l200
  have bl300 : w3.heap.size < w4.heap.size := World.block_lt_of_cell? w4 ⟨w3.heap.size, 0, none⟩ l300
  clear hk4
  go_wp2_with fail
  refine useK w (same_eq _ _ _ _) (by go_grown) ?_; rintro e w5 rfl hB5 hk5 hs5
  replace p00 : w5.cell? ⟨w.heap.size, 0, none⟩ = some (.int .i64 al) := hk5 _ _ _ ((keepA _ p00))
  replace p01 : w5.cell? ⟨w.heap.size, 1, none⟩ = some (.int .i64 ah) := hk5 _ _ _ ((keepA _ p01))
  replace p10 : w5.cell? ⟨w.heap.size + 1, 0, none⟩ = some (.int .i64 bl) := hk5 _ _ _ ((keepA _ p10))
  replace p11 : w5.cell? ⟨w.heap.size + 1, 1, none⟩ = some (.int .i64 bh) := hk5 _ _ _ ((keepA _ p11))
  replace l100 : w5.cell? ⟨w1.heap.size, 0, none⟩ = some (.int .i64 ((mulS al ah bl bh).1)) := hk5 _ _ _ ((keepA _ l100))
  replace l101 : w5.cell? ⟨w1.heap.size, 1, none⟩ = some (.int .i64 ((mulS al ah bl bh).2.1)) := hk5 _ _ _ ((keepA _ l101))
  replace l200 : w5.cell? ⟨w2.heap.size, 0, none⟩ = some (.int .i64 ((mulS al ah bl bh).1)) := hk5 _ _ _ ((keepA _ l200))
  replace l201 : w5.cell? ⟨w2.heap.size, 1, none⟩ = some (.int .i64 ((mulS al ah bl bh).2.1)) := hk5 _ _ _ ((keepA _ l201))
  replace l300 : w5.cell? ⟨w3.heap.size, 0, none⟩ = some (.int .i64 ((divS al ah bl bh).1)) := hk5 _ _ _ ((keepA _ l300))
  replace l301 : w5.cell? ⟨w3.heap.size, 1, none⟩ = some (.int .i64 ((divS al ah bl bh).2.1)) := hk5 _ _ _ ((keepA _ l301))
  replace l400 : w5.cell? ⟨w4.heap.size, 0, none⟩ = some (.int .i64 ((divS al ah bl bh).1)) := hk5 _ _ _ (by simp [go_sem])
  replace l401 : w5.cell? ⟨w4.heap.size, 1, none⟩ = some (.int .i64 ((divS al ah bl bh).2.1)) := hk5 _ _ _ (by simp [go_sem])
  have bp00 : w.heap.size < w5.heap.size := World.block_lt_of_cell? w5 ⟨w.heap.size, 0, none⟩ p00
  have bp10 : w.heap.size + 1 < w5.heap.size := World.block_lt_of_cell? w5 ⟨w.heap.size + 1, 0, none⟩ p10
  have bl100 : w1.heap.size < w5.heap.size := World.block_lt_of_cell? w5 ⟨w1.heap.size, 0, none⟩ l100
  have bl200 : w2.heap.size < w5.heap.size := World.block_lt_of_cell? w5 ⟨w2.heap.size, 0, none⟩ l200
  have bl300 : w3.heap.size < w5.heap.size := World.block_lt_of_cell? w5 ⟨w3.heap.size, 0, none⟩ l300
  have bl400 : w4.heap.size < w5.heap.size := World.block_lt_of_cell? w5 ⟨w4.heap.size, 0, none⟩ l400
  clear hk5
  go_wp2_with fail
  refine useK w (same_eq _ _ _ _) (by go_grown) ?_; rintro e w6 rfl hB6 hk6 hs6
  replace p00 : w6.cell? ⟨w.heap.size, 0, none⟩ = some (.int .i64 al) := hk6 _ _ _ (p00)
  replace p01 : w6.cell? ⟨w.heap.size, 1, none⟩ = some (.int .i64 ah) := hk6 _ _ _ (p01)
  replace p10 : w6.cell? ⟨w.heap.size + 1, 0, none⟩ = some (.int .i64 bl) := hk6 _ _ _ (p10)
  replace p11 : w6.cell? ⟨w.heap.size + 1, 1, none⟩ = some (.int .i64 bh) := hk6 _ _ _ (p11)
  replace l100 : w6.cell? ⟨w1.heap.size, 0, none⟩ = some (.int .i64 ((mulS al ah bl bh).1)) := hk6 _ _ _ (l100)
  replace l101 : w6.cell? ⟨w1.heap.size, 1, none⟩ = some (.int .i64 ((mulS al ah bl bh).2.1)) := hk6 _ _ _ (l101)
  replace l200 : w6.cell? ⟨w2.heap.size, 0, none⟩ = some (.int .i64 ((mulS al ah bl bh).1)) := hk6 _ _ _ (l200)
  replace l201 : w6.cell? ⟨w2.heap.size, 1, none⟩ = some (.int .i64 ((mulS al ah bl bh).2.1)) := hk6 _ _ _ (l201)
  replace l300 : w6.cell? ⟨w3.heap.size, 0, none⟩ = some (.int .i64 ((divS al ah bl bh).1)) := hk6 _ _ _ (l300)
  replace l301 : w6.cell? ⟨w3.heap.size, 1, none⟩ = some (.int .i64 ((divS al ah bl bh).2.1)) := hk6 _ _ _ (l301)
  replace l400 : w6.cell? ⟨w4.heap.size, 0, none⟩ = some (.int .i64 ((divS al ah bl bh).1)) := hk6 _ _ _ (l400)
  replace l401 : w6.cell? ⟨w4.heap.size, 1, none⟩ = some (.int .i64 ((divS al ah bl bh).2.1)) := hk6 _ _ _ (l401)
  have bp00 : w.heap.size < w6.heap.size := World.block_lt_of_cell? w6 ⟨w.heap.size, 0, none⟩ p00
  have bp10 : w.heap.size + 1 < w6.heap.size := World.block_lt_of_cell? w6 ⟨w.heap.size + 1, 0, none⟩ p10
  have bl100 : w1.heap.size < w6.heap.size := World.block_lt_of_cell? w6 ⟨w1.heap.size, 0, none⟩ l100
  have bl200 : w2.heap.size < w6.heap.size := World.block_lt_of_cell? w6 ⟨w2.heap.size, 0, none⟩ l200
  have bl300 : w3.heap.size < w6.heap.size := World.block_lt_of_cell? w6 ⟨w3.heap.size, 0, none⟩ l300
  have bl400 : w4.heap.size < w6.heap.size := World.block_lt_of_cell? w6 ⟨w4.heap.size, 0, none⟩ l400
  clear hk6
  go_wp2_with fail
  go_ret
  exact ⟨rfl, by go_grown⟩
end Go.Proofs.Ytjleflfncijnpaa
