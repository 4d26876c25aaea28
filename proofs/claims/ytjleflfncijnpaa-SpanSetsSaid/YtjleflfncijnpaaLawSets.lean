/- SpanSets: the walk. -/
import Derived.Test.YtjleflfncijnpaaRows
import Derived.Test.YtjleflfncijnpaaBase
import Derived.Test.YtjleflfncijnpaaFacts
import Derived.Test.YtjleflfncijnpaaTwo
import Derived.Deep.RegionHeld3
import Derived.Deep.RegionWith
import Derived.Deep.QuietTactic
import Derived.BigQuiet
import Derived.Test.YtjleflfncijnpaaSums
import Derived.Test.YtjleflfncijnpaaPicks
import Derived.Test.YtjleflfncijnpaaSets
import Derived.Test.YtjleflfncijnpaaMid
import Derived.Test.YtjleflfncijnpaaSplit
import Derived.Test.YtjleflfncijnpaaMidR
import Derived.Test.YtjleflfncijnpaaSame
import Derived.Test.YtjleflfncijnpaaSeq
set_option linter.unusedVariables false
set_option linter.unusedSimpArgs false
set_option maxHeartbeats 4000000
set_option maxRecDepth 100000
namespace Go.Proofs.Ytjleflfncijnpaa
open Go Go.RowKit
theorem lawSets_any (al ah bl bh n : Int) (w : World) (h : (-9223372036854775808 ≤ al ∧ al ≤ 9223372036854775807) ∧ (-9223372036854775808 ≤ ah ∧ ah ≤ 9223372036854775807) ∧ (-9223372036854775808 ≤ bl ∧ bl ≤ 9223372036854775807) ∧ (-9223372036854775808 ≤ bh ∧ bh ≤ 9223372036854775807) ∧ (-9223372036854775808 ≤ n ∧ n ≤ 9223372036854775807)) :
    Calls Try.prog 7 #[.agg #[.int .i64 al, .int .i64 ah], .agg #[.int .i64 bl, .int .i64 bh], .int .i64 n] w fun e w' => e = .returned (.bool true) ∧ Below w.heap.size w w' := by
  obtain ⟨⟨a1, a2⟩, ⟨b1, b2⟩, ⟨c1, c2⟩, ⟨d1, d2⟩, n1, n2⟩ := h
  go_enter Try.func7, Try.ntmps7
  go_wp2_with fail
  refine useK w (hull_any _ _ _ _ _ (by omega)) (by go_grown) ?_; rintro e w1 rfl hB1 hk1 hs1
  replace p00 : w1.cell? ⟨w.heap.size, 0, none⟩ = some (.int .i64 al) := hk1 _ _ _ (by simp [go_sem])
  replace p01 : w1.cell? ⟨w.heap.size, 1, none⟩ = some (.int .i64 ah) := hk1 _ _ _ (by simp [go_sem])
  replace p10 : w1.cell? ⟨w.heap.size + 1, 0, none⟩ = some (.int .i64 bl) := hk1 _ _ _ (by simp [go_sem])
  replace p11 : w1.cell? ⟨w.heap.size + 1, 1, none⟩ = some (.int .i64 bh) := hk1 _ _ _ (by simp [go_sem])
  have bp00 : w.heap.size < w1.heap.size := World.block_lt_of_cell? w1 ⟨w.heap.size, 0, none⟩ p00
  have bp10 : w.heap.size + 1 < w1.heap.size := World.block_lt_of_cell? w1 ⟨w.heap.size + 1, 0, none⟩ p10
  clear hk1
  go_wp2_with fail
  refine useK w (rhull_any _ _ _ _ _ (by omega)) (by go_grown) ?_; rintro e w2 rfl hB2 hk2 hs2
  replace p00 : w2.cell? ⟨w.heap.size, 0, none⟩ = some (.int .i64 al) := hk2 _ _ _ ((keepA _ p00))
  replace p01 : w2.cell? ⟨w.heap.size, 1, none⟩ = some (.int .i64 ah) := hk2 _ _ _ ((keepA _ p01))
  replace p10 : w2.cell? ⟨w.heap.size + 1, 0, none⟩ = some (.int .i64 bl) := hk2 _ _ _ ((keepA _ p10))
  replace p11 : w2.cell? ⟨w.heap.size + 1, 1, none⟩ = some (.int .i64 bh) := hk2 _ _ _ ((keepA _ p11))
  replace l100 : w2.cell? ⟨w1.heap.size, 0, none⟩ = some (.int .i64 ((hullS al ah bl bh).1)) := hk2 _ _ _ (by simp [go_sem])
  replace l101 : w2.cell? ⟨w1.heap.size, 1, none⟩ = some (.int .i64 ((hullS al ah bl bh).2.1)) := hk2 _ _ _ (by simp [go_sem])
  have bp00 : w.heap.size < w2.heap.size := World.block_lt_of_cell? w2 ⟨w.heap.size, 0, none⟩ p00
  have bp10 : w.heap.size + 1 < w2.heap.size := World.block_lt_of_cell? w2 ⟨w.heap.size + 1, 0, none⟩ p10
  have bl100 : w1.heap.size < w2.heap.size := World.block_lt_of_cell? w2 ⟨w1.heap.size, 0, none⟩ l100
  clear hk2
  go_wp2_with fail
  refine useK w (meet_any _ _ _ _ _ (by omega)) (by go_grown) ?_; rintro e w3 rfl hB3 hk3 hs3
  replace p00 : w3.cell? ⟨w.heap.size, 0, none⟩ = some (.int .i64 al) := hk3 _ _ _ ((keepA _ p00))
  replace p01 : w3.cell? ⟨w.heap.size, 1, none⟩ = some (.int .i64 ah) := hk3 _ _ _ ((keepA _ p01))
  replace p10 : w3.cell? ⟨w.heap.size + 1, 0, none⟩ = some (.int .i64 bl) := hk3 _ _ _ ((keepA _ p10))
  replace p11 : w3.cell? ⟨w.heap.size + 1, 1, none⟩ = some (.int .i64 bh) := hk3 _ _ _ ((keepA _ p11))
  replace l100 : w3.cell? ⟨w1.heap.size, 0, none⟩ = some (.int .i64 ((hullS al ah bl bh).1)) := hk3 _ _ _ ((keepA _ l100))
  replace l101 : w3.cell? ⟨w1.heap.size, 1, none⟩ = some (.int .i64 ((hullS al ah bl bh).2.1)) := hk3 _ _ _ ((keepA _ l101))
  replace l200 : w3.cell? ⟨w2.heap.size, 0, none⟩ = some (.int .i64 ((hullS al ah bl bh).1)) := hk3 _ _ _ (by simp [go_sem])
  replace l201 : w3.cell? ⟨w2.heap.size, 1, none⟩ = some (.int .i64 ((hullS al ah bl bh).2.1)) := hk3 _ _ _ (by simp [go_sem])
  have bp00 : w.heap.size < w3.heap.size := World.block_lt_of_cell? w3 ⟨w.heap.size, 0, none⟩ p00
  have bp10 : w.heap.size + 1 < w3.heap.size := World.block_lt_of_cell? w3 ⟨w.heap.size + 1, 0, none⟩ p10
  have bl100 : w1.heap.size < w3.heap.size := World.block_lt_of_cell? w3 ⟨w1.heap.size, 0, none⟩ l100
  have bl200 : w2.heap.size < w3.heap.size := World.block_lt_of_cell? w3 ⟨w2.heap.size, 0, none⟩ l200
  clear hk3
  go_wp2_with fail
  refine useK w (rmeet_any _ _ _ _ _ (by omega)) (by go_grown) ?_; rintro e w4 rfl hB4 hk4 hs4
  replace p00 : w4.cell? ⟨w.heap.size, 0, none⟩ = some (.int .i64 al) := hk4 _ _ _ ((keepA _ p00))
  replace p01 : w4.cell? ⟨w.heap.size, 1, none⟩ = some (.int .i64 ah) := hk4 _ _ _ ((keepA _ p01))
  replace p10 : w4.cell? ⟨w.heap.size + 1, 0, none⟩ = some (.int .i64 bl) := hk4 _ _ _ ((keepA _ p10))
  replace p11 : w4.cell? ⟨w.heap.size + 1, 1, none⟩ = some (.int .i64 bh) := hk4 _ _ _ ((keepA _ p11))
  replace l100 : w4.cell? ⟨w1.heap.size, 0, none⟩ = some (.int .i64 ((hullS al ah bl bh).1)) := hk4 _ _ _ ((keepA _ l100))
  replace l101 : w4.cell? ⟨w1.heap.size, 1, none⟩ = some (.int .i64 ((hullS al ah bl bh).2.1)) := hk4 _ _ _ ((keepA _ l101))
  replace l200 : w4.cell? ⟨w2.heap.size, 0, none⟩ = some (.int .i64 ((hullS al ah bl bh).1)) := hk4 _ _ _ ((keepA _ l200))
  replace l201 : w4.cell? ⟨w2.heap.size, 1, none⟩ = some (.int .i64 ((hullS al ah bl bh).2.1)) := hk4 _ _ _ ((keepA _ l201))
  replace l300 : w4.cell? ⟨w3.heap.size, 0, none⟩ = some (.int .i64 ((meetS al ah bl bh).1)) := hk4 _ _ _ (by simp [go_sem])
  replace l301 : w4.cell? ⟨w3.heap.size, 1, none⟩ = some (.int .i64 ((meetS al ah bl bh).2.1)) := hk4 _ _ _ (by simp [go_sem])
  have bp00 : w.heap.size < w4.heap.size := World.block_lt_of_cell? w4 ⟨w.heap.size, 0, none⟩ p00
  have bp10 : w.heap.size + 1 < w4.heap.size := World.block_lt_of_cell? w4 ⟨w.heap.size + 1, 0, none⟩ p10
  have bl100 : w1.heap.size < w4.heap.size := World.block_lt_of_cell? w4 ⟨w1.heap.size, 0, none⟩ l100
  have bl200 : w2.heap.size < w4.heap.size := World.block_lt_of_cell? w4 ⟨w2.heap.size, 0, none⟩ l200
  have bl300 : w3.heap.size < w4.heap.size := World.block_lt_of_cell? w4 ⟨w3.heap.size, 0, none⟩ l300
  clear hk4
  go_wp2_with fail
  refine useK w (grow_any _ _ _ _ (by omega)) (by go_grown) ?_; rintro e w5 rfl hB5 hk5 hs5
  replace p00 : w5.cell? ⟨w.heap.size, 0, none⟩ = some (.int .i64 al) := hk5 _ _ _ ((keepA _ p00))
  replace p01 : w5.cell? ⟨w.heap.size, 1, none⟩ = some (.int .i64 ah) := hk5 _ _ _ ((keepA _ p01))
  replace p10 : w5.cell? ⟨w.heap.size + 1, 0, none⟩ = some (.int .i64 bl) := hk5 _ _ _ ((keepA _ p10))
  replace p11 : w5.cell? ⟨w.heap.size + 1, 1, none⟩ = some (.int .i64 bh) := hk5 _ _ _ ((keepA _ p11))
  replace l100 : w5.cell? ⟨w1.heap.size, 0, none⟩ = some (.int .i64 ((hullS al ah bl bh).1)) := hk5 _ _ _ ((keepA _ l100))
  replace l101 : w5.cell? ⟨w1.heap.size, 1, none⟩ = some (.int .i64 ((hullS al ah bl bh).2.1)) := hk5 _ _ _ ((keepA _ l101))
  replace l200 : w5.cell? ⟨w2.heap.size, 0, none⟩ = some (.int .i64 ((hullS al ah bl bh).1)) := hk5 _ _ _ ((keepA _ l200))
  replace l201 : w5.cell? ⟨w2.heap.size, 1, none⟩ = some (.int .i64 ((hullS al ah bl bh).2.1)) := hk5 _ _ _ ((keepA _ l201))
  replace l300 : w5.cell? ⟨w3.heap.size, 0, none⟩ = some (.int .i64 ((meetS al ah bl bh).1)) := hk5 _ _ _ ((keepA _ l300))
  replace l301 : w5.cell? ⟨w3.heap.size, 1, none⟩ = some (.int .i64 ((meetS al ah bl bh).2.1)) := hk5 _ _ _ ((keepA _ l301))
  replace l400 : w5.cell? ⟨w4.heap.size, 0, none⟩ = some (.int .i64 ((meetS al ah bl bh).1)) := hk5 _ _ _ (by simp [go_sem])
  replace l401 : w5.cell? ⟨w4.heap.size, 1, none⟩ = some (.int .i64 ((meetS al ah bl bh).2.1)) := hk5 _ _ _ (by simp [go_sem])
  have bp00 : w.heap.size < w5.heap.size := World.block_lt_of_cell? w5 ⟨w.heap.size, 0, none⟩ p00
  have bp10 : w.heap.size + 1 < w5.heap.size := World.block_lt_of_cell? w5 ⟨w.heap.size + 1, 0, none⟩ p10
  have bl100 : w1.heap.size < w5.heap.size := World.block_lt_of_cell? w5 ⟨w1.heap.size, 0, none⟩ l100
  have bl200 : w2.heap.size < w5.heap.size := World.block_lt_of_cell? w5 ⟨w2.heap.size, 0, none⟩ l200
  have bl300 : w3.heap.size < w5.heap.size := World.block_lt_of_cell? w5 ⟨w3.heap.size, 0, none⟩ l300
  have bl400 : w4.heap.size < w5.heap.size := World.block_lt_of_cell? w5 ⟨w4.heap.size, 0, none⟩ l400
  clear hk5
  go_wp2_with fail
  refine useK w (rgrow_any _ _ _ _ (by omega)) (by go_grown) ?_; rintro e w6 rfl hB6 hk6 hs6
  replace p00 : w6.cell? ⟨w.heap.size, 0, none⟩ = some (.int .i64 al) := hk6 _ _ _ ((keepA _ p00))
  replace p01 : w6.cell? ⟨w.heap.size, 1, none⟩ = some (.int .i64 ah) := hk6 _ _ _ ((keepA _ p01))
  replace p10 : w6.cell? ⟨w.heap.size + 1, 0, none⟩ = some (.int .i64 bl) := hk6 _ _ _ ((keepA _ p10))
  replace p11 : w6.cell? ⟨w.heap.size + 1, 1, none⟩ = some (.int .i64 bh) := hk6 _ _ _ ((keepA _ p11))
  replace l100 : w6.cell? ⟨w1.heap.size, 0, none⟩ = some (.int .i64 ((hullS al ah bl bh).1)) := hk6 _ _ _ ((keepA _ l100))
  replace l101 : w6.cell? ⟨w1.heap.size, 1, none⟩ = some (.int .i64 ((hullS al ah bl bh).2.1)) := hk6 _ _ _ ((keepA _ l101))
  replace l200 : w6.cell? ⟨w2.heap.size, 0, none⟩ = some (.int .i64 ((hullS al ah bl bh).1)) := hk6 _ _ _ ((keepA _ l200))
  replace l201 : w6.cell? ⟨w2.heap.size, 1, none⟩ = some (.int .i64 ((hullS al ah bl bh).2.1)) := hk6 _ _ _ ((keepA _ l201))
  replace l300 : w6.cell? ⟨w3.heap.size, 0, none⟩ = some (.int .i64 ((meetS al ah bl bh).1)) := hk6 _ _ _ ((keepA _ l300))
  replace l301 : w6.cell? ⟨w3.heap.size, 1, none⟩ = some (.int .i64 ((meetS al ah bl bh).2.1)) := hk6 _ _ _ ((keepA _ l301))
  replace l400 : w6.cell? ⟨w4.heap.size, 0, none⟩ = some (.int .i64 ((meetS al ah bl bh).1)) := hk6 _ _ _ ((keepA _ l400))
  replace l401 : w6.cell? ⟨w4.heap.size, 1, none⟩ = some (.int .i64 ((meetS al ah bl bh).2.1)) := hk6 _ _ _ ((keepA _ l401))
  replace l500 : w6.cell? ⟨w5.heap.size, 0, none⟩ = some (.int .i64 ((growS al ah n).1)) := hk6 _ _ _ (by simp [go_sem])
  replace l501 : w6.cell? ⟨w5.heap.size, 1, none⟩ = some (.int .i64 ((growS al ah n).2.1)) := hk6 _ _ _ (by simp [go_sem])
  have bp00 : w.heap.size < w6.heap.size := World.block_lt_of_cell? w6 ⟨w.heap.size, 0, none⟩ p00
  have bp10 : w.heap.size + 1 < w6.heap.size := World.block_lt_of_cell? w6 ⟨w.heap.size + 1, 0, none⟩ p10
  have bl100 : w1.heap.size < w6.heap.size := World.block_lt_of_cell? w6 ⟨w1.heap.size, 0, none⟩ l100
  have bl200 : w2.heap.size < w6.heap.size := World.block_lt_of_cell? w6 ⟨w2.heap.size, 0, none⟩ l200
  have bl300 : w3.heap.size < w6.heap.size := World.block_lt_of_cell? w6 ⟨w3.heap.size, 0, none⟩ l300
  have bl400 : w4.heap.size < w6.heap.size := World.block_lt_of_cell? w6 ⟨w4.heap.size, 0, none⟩ l400
  have bl500 : w5.heap.size < w6.heap.size := World.block_lt_of_cell? w6 ⟨w5.heap.size, 0, none⟩ l500
  clear hk6
  go_wp2_with fail
  refine useK w (mid_any _ _ _ (by omega)) (by go_grown) ?_; rintro e w7 rfl hB7 hk7 hs7
  replace p00 : w7.cell? ⟨w.heap.size, 0, none⟩ = some (.int .i64 al) := hk7 _ _ _ ((keepA _ p00))
  replace p01 : w7.cell? ⟨w.heap.size, 1, none⟩ = some (.int .i64 ah) := hk7 _ _ _ ((keepA _ p01))
  replace p10 : w7.cell? ⟨w.heap.size + 1, 0, none⟩ = some (.int .i64 bl) := hk7 _ _ _ ((keepA _ p10))
  replace p11 : w7.cell? ⟨w.heap.size + 1, 1, none⟩ = some (.int .i64 bh) := hk7 _ _ _ ((keepA _ p11))
  replace l100 : w7.cell? ⟨w1.heap.size, 0, none⟩ = some (.int .i64 ((hullS al ah bl bh).1)) := hk7 _ _ _ ((keepA _ l100))
  replace l101 : w7.cell? ⟨w1.heap.size, 1, none⟩ = some (.int .i64 ((hullS al ah bl bh).2.1)) := hk7 _ _ _ ((keepA _ l101))
  replace l200 : w7.cell? ⟨w2.heap.size, 0, none⟩ = some (.int .i64 ((hullS al ah bl bh).1)) := hk7 _ _ _ ((keepA _ l200))
  replace l201 : w7.cell? ⟨w2.heap.size, 1, none⟩ = some (.int .i64 ((hullS al ah bl bh).2.1)) := hk7 _ _ _ ((keepA _ l201))
  replace l300 : w7.cell? ⟨w3.heap.size, 0, none⟩ = some (.int .i64 ((meetS al ah bl bh).1)) := hk7 _ _ _ ((keepA _ l300))
  replace l301 : w7.cell? ⟨w3.heap.size, 1, none⟩ = some (.int .i64 ((meetS al ah bl bh).2.1)) := hk7 _ _ _ ((keepA _ l301))
  replace l400 : w7.cell? ⟨w4.heap.size, 0, none⟩ = some (.int .i64 ((meetS al ah bl bh).1)) := hk7 _ _ _ ((keepA _ l400))
  replace l401 : w7.cell? ⟨w4.heap.size, 1, none⟩ = some (.int .i64 ((meetS al ah bl bh).2.1)) := hk7 _ _ _ ((keepA _ l401))
  replace l500 : w7.cell? ⟨w5.heap.size, 0, none⟩ = some (.int .i64 ((growS al ah n).1)) := hk7 _ _ _ ((keepA _ l500))
  replace l501 : w7.cell? ⟨w5.heap.size, 1, none⟩ = some (.int .i64 ((growS al ah n).2.1)) := hk7 _ _ _ ((keepA _ l501))
  replace l600 : w7.cell? ⟨w6.heap.size, 0, none⟩ = some (.int .i64 ((growS al ah n).1)) := hk7 _ _ _ (by simp [go_sem])
  replace l601 : w7.cell? ⟨w6.heap.size, 1, none⟩ = some (.int .i64 ((growS al ah n).2.1)) := hk7 _ _ _ (by simp [go_sem])
  have bp00 : w.heap.size < w7.heap.size := World.block_lt_of_cell? w7 ⟨w.heap.size, 0, none⟩ p00
  have bp10 : w.heap.size + 1 < w7.heap.size := World.block_lt_of_cell? w7 ⟨w.heap.size + 1, 0, none⟩ p10
  have bl100 : w1.heap.size < w7.heap.size := World.block_lt_of_cell? w7 ⟨w1.heap.size, 0, none⟩ l100
  have bl200 : w2.heap.size < w7.heap.size := World.block_lt_of_cell? w7 ⟨w2.heap.size, 0, none⟩ l200
  have bl300 : w3.heap.size < w7.heap.size := World.block_lt_of_cell? w7 ⟨w3.heap.size, 0, none⟩ l300
  have bl400 : w4.heap.size < w7.heap.size := World.block_lt_of_cell? w7 ⟨w4.heap.size, 0, none⟩ l400
  have bl500 : w5.heap.size < w7.heap.size := World.block_lt_of_cell? w7 ⟨w5.heap.size, 0, none⟩ l500
  have bl600 : w6.heap.size < w7.heap.size := World.block_lt_of_cell? w7 ⟨w6.heap.size, 0, none⟩ l600
  clear hk7
  go_wp2_with fail
  refine useK w (rmid_any _ _ _ (by omega)) (by go_grown) ?_; rintro e w8 rfl hB8 hk8 hs8
  replace p00 : w8.cell? ⟨w.heap.size, 0, none⟩ = some (.int .i64 al) := hk8 _ _ _ (p00)
  replace p01 : w8.cell? ⟨w.heap.size, 1, none⟩ = some (.int .i64 ah) := hk8 _ _ _ (p01)
  replace p10 : w8.cell? ⟨w.heap.size + 1, 0, none⟩ = some (.int .i64 bl) := hk8 _ _ _ (p10)
  replace p11 : w8.cell? ⟨w.heap.size + 1, 1, none⟩ = some (.int .i64 bh) := hk8 _ _ _ (p11)
  replace l100 : w8.cell? ⟨w1.heap.size, 0, none⟩ = some (.int .i64 ((hullS al ah bl bh).1)) := hk8 _ _ _ (l100)
  replace l101 : w8.cell? ⟨w1.heap.size, 1, none⟩ = some (.int .i64 ((hullS al ah bl bh).2.1)) := hk8 _ _ _ (l101)
  replace l200 : w8.cell? ⟨w2.heap.size, 0, none⟩ = some (.int .i64 ((hullS al ah bl bh).1)) := hk8 _ _ _ (l200)
  replace l201 : w8.cell? ⟨w2.heap.size, 1, none⟩ = some (.int .i64 ((hullS al ah bl bh).2.1)) := hk8 _ _ _ (l201)
  replace l300 : w8.cell? ⟨w3.heap.size, 0, none⟩ = some (.int .i64 ((meetS al ah bl bh).1)) := hk8 _ _ _ (l300)
  replace l301 : w8.cell? ⟨w3.heap.size, 1, none⟩ = some (.int .i64 ((meetS al ah bl bh).2.1)) := hk8 _ _ _ (l301)
  replace l400 : w8.cell? ⟨w4.heap.size, 0, none⟩ = some (.int .i64 ((meetS al ah bl bh).1)) := hk8 _ _ _ (l400)
  replace l401 : w8.cell? ⟨w4.heap.size, 1, none⟩ = some (.int .i64 ((meetS al ah bl bh).2.1)) := hk8 _ _ _ (l401)
  replace l500 : w8.cell? ⟨w5.heap.size, 0, none⟩ = some (.int .i64 ((growS al ah n).1)) := hk8 _ _ _ (l500)
  replace l501 : w8.cell? ⟨w5.heap.size, 1, none⟩ = some (.int .i64 ((growS al ah n).2.1)) := hk8 _ _ _ (l501)
  replace l600 : w8.cell? ⟨w6.heap.size, 0, none⟩ = some (.int .i64 ((growS al ah n).1)) := hk8 _ _ _ (l600)
  replace l601 : w8.cell? ⟨w6.heap.size, 1, none⟩ = some (.int .i64 ((growS al ah n).2.1)) := hk8 _ _ _ (l601)
  have bp00 : w.heap.size < w8.heap.size := World.block_lt_of_cell? w8 ⟨w.heap.size, 0, none⟩ p00
  have bp10 : w.heap.size + 1 < w8.heap.size := World.block_lt_of_cell? w8 ⟨w.heap.size + 1, 0, none⟩ p10
  have bl100 : w1.heap.size < w8.heap.size := World.block_lt_of_cell? w8 ⟨w1.heap.size, 0, none⟩ l100
  have bl200 : w2.heap.size < w8.heap.size := World.block_lt_of_cell? w8 ⟨w2.heap.size, 0, none⟩ l200
  have bl300 : w3.heap.size < w8.heap.size := World.block_lt_of_cell? w8 ⟨w3.heap.size, 0, none⟩ l300
  have bl400 : w4.heap.size < w8.heap.size := World.block_lt_of_cell? w8 ⟨w4.heap.size, 0, none⟩ l400
  have bl500 : w5.heap.size < w8.heap.size := World.block_lt_of_cell? w8 ⟨w5.heap.size, 0, none⟩ l500
  have bl600 : w6.heap.size < w8.heap.size := World.block_lt_of_cell? w8 ⟨w6.heap.size, 0, none⟩ l600
  clear hk8
  go_wp2_with fail
  refine useK w (split_any _ _ _ (by omega)) (by go_grown) ?_; rintro e w9 rfl hB9 hk9 hs9
  replace p00 : w9.cell? ⟨w.heap.size, 0, none⟩ = some (.int .i64 al) := hk9 _ _ _ (p00)
  replace p01 : w9.cell? ⟨w.heap.size, 1, none⟩ = some (.int .i64 ah) := hk9 _ _ _ (p01)
  replace p10 : w9.cell? ⟨w.heap.size + 1, 0, none⟩ = some (.int .i64 bl) := hk9 _ _ _ (p10)
  replace p11 : w9.cell? ⟨w.heap.size + 1, 1, none⟩ = some (.int .i64 bh) := hk9 _ _ _ (p11)
  replace l100 : w9.cell? ⟨w1.heap.size, 0, none⟩ = some (.int .i64 ((hullS al ah bl bh).1)) := hk9 _ _ _ (l100)
  replace l101 : w9.cell? ⟨w1.heap.size, 1, none⟩ = some (.int .i64 ((hullS al ah bl bh).2.1)) := hk9 _ _ _ (l101)
  replace l200 : w9.cell? ⟨w2.heap.size, 0, none⟩ = some (.int .i64 ((hullS al ah bl bh).1)) := hk9 _ _ _ (l200)
  replace l201 : w9.cell? ⟨w2.heap.size, 1, none⟩ = some (.int .i64 ((hullS al ah bl bh).2.1)) := hk9 _ _ _ (l201)
  replace l300 : w9.cell? ⟨w3.heap.size, 0, none⟩ = some (.int .i64 ((meetS al ah bl bh).1)) := hk9 _ _ _ (l300)
  replace l301 : w9.cell? ⟨w3.heap.size, 1, none⟩ = some (.int .i64 ((meetS al ah bl bh).2.1)) := hk9 _ _ _ (l301)
  replace l400 : w9.cell? ⟨w4.heap.size, 0, none⟩ = some (.int .i64 ((meetS al ah bl bh).1)) := hk9 _ _ _ (l400)
  replace l401 : w9.cell? ⟨w4.heap.size, 1, none⟩ = some (.int .i64 ((meetS al ah bl bh).2.1)) := hk9 _ _ _ (l401)
  replace l500 : w9.cell? ⟨w5.heap.size, 0, none⟩ = some (.int .i64 ((growS al ah n).1)) := hk9 _ _ _ (l500)
  replace l501 : w9.cell? ⟨w5.heap.size, 1, none⟩ = some (.int .i64 ((growS al ah n).2.1)) := hk9 _ _ _ (l501)
  replace l600 : w9.cell? ⟨w6.heap.size, 0, none⟩ = some (.int .i64 ((growS al ah n).1)) := hk9 _ _ _ (l600)
  replace l601 : w9.cell? ⟨w6.heap.size, 1, none⟩ = some (.int .i64 ((growS al ah n).2.1)) := hk9 _ _ _ (l601)
  have bp00 : w.heap.size < w9.heap.size := World.block_lt_of_cell? w9 ⟨w.heap.size, 0, none⟩ p00
  have bp10 : w.heap.size + 1 < w9.heap.size := World.block_lt_of_cell? w9 ⟨w.heap.size + 1, 0, none⟩ p10
  have bl100 : w1.heap.size < w9.heap.size := World.block_lt_of_cell? w9 ⟨w1.heap.size, 0, none⟩ l100
  have bl200 : w2.heap.size < w9.heap.size := World.block_lt_of_cell? w9 ⟨w2.heap.size, 0, none⟩ l200
  have bl300 : w3.heap.size < w9.heap.size := World.block_lt_of_cell? w9 ⟨w3.heap.size, 0, none⟩ l300
  have bl400 : w4.heap.size < w9.heap.size := World.block_lt_of_cell? w9 ⟨w4.heap.size, 0, none⟩ l400
  have bl500 : w5.heap.size < w9.heap.size := World.block_lt_of_cell? w9 ⟨w5.heap.size, 0, none⟩ l500
  have bl600 : w6.heap.size < w9.heap.size := World.block_lt_of_cell? w9 ⟨w6.heap.size, 0, none⟩ l600
  clear hk9
  go_wp2_with fail
  refine useK w (rsplit_any _ _ _ (by omega)) (by go_grown) ?_; rintro e w10 rfl hB10 hk10 hs10
  replace p00 : w10.cell? ⟨w.heap.size, 0, none⟩ = some (.int .i64 al) := hk10 _ _ _ ((keepA _ (keepA _ p00)))
  replace p01 : w10.cell? ⟨w.heap.size, 1, none⟩ = some (.int .i64 ah) := hk10 _ _ _ ((keepA _ (keepA _ p01)))
  replace p10 : w10.cell? ⟨w.heap.size + 1, 0, none⟩ = some (.int .i64 bl) := hk10 _ _ _ ((keepA _ (keepA _ p10)))
  replace p11 : w10.cell? ⟨w.heap.size + 1, 1, none⟩ = some (.int .i64 bh) := hk10 _ _ _ ((keepA _ (keepA _ p11)))
  replace l100 : w10.cell? ⟨w1.heap.size, 0, none⟩ = some (.int .i64 ((hullS al ah bl bh).1)) := hk10 _ _ _ ((keepA _ (keepA _ l100)))
  replace l101 : w10.cell? ⟨w1.heap.size, 1, none⟩ = some (.int .i64 ((hullS al ah bl bh).2.1)) := hk10 _ _ _ ((keepA _ (keepA _ l101)))
  replace l200 : w10.cell? ⟨w2.heap.size, 0, none⟩ = some (.int .i64 ((hullS al ah bl bh).1)) := hk10 _ _ _ ((keepA _ (keepA _ l200)))
  replace l201 : w10.cell? ⟨w2.heap.size, 1, none⟩ = some (.int .i64 ((hullS al ah bl bh).2.1)) := hk10 _ _ _ ((keepA _ (keepA _ l201)))
  replace l300 : w10.cell? ⟨w3.heap.size, 0, none⟩ = some (.int .i64 ((meetS al ah bl bh).1)) := hk10 _ _ _ ((keepA _ (keepA _ l300)))
  replace l301 : w10.cell? ⟨w3.heap.size, 1, none⟩ = some (.int .i64 ((meetS al ah bl bh).2.1)) := hk10 _ _ _ ((keepA _ (keepA _ l301)))
  replace l400 : w10.cell? ⟨w4.heap.size, 0, none⟩ = some (.int .i64 ((meetS al ah bl bh).1)) := hk10 _ _ _ ((keepA _ (keepA _ l400)))
  replace l401 : w10.cell? ⟨w4.heap.size, 1, none⟩ = some (.int .i64 ((meetS al ah bl bh).2.1)) := hk10 _ _ _ ((keepA _ (keepA _ l401)))
  replace l500 : w10.cell? ⟨w5.heap.size, 0, none⟩ = some (.int .i64 ((growS al ah n).1)) := hk10 _ _ _ ((keepA _ (keepA _ l500)))
  replace l501 : w10.cell? ⟨w5.heap.size, 1, none⟩ = some (.int .i64 ((growS al ah n).2.1)) := hk10 _ _ _ ((keepA _ (keepA _ l501)))
  replace l600 : w10.cell? ⟨w6.heap.size, 0, none⟩ = some (.int .i64 ((growS al ah n).1)) := hk10 _ _ _ ((keepA _ (keepA _ l600)))
  replace l601 : w10.cell? ⟨w6.heap.size, 1, none⟩ = some (.int .i64 ((growS al ah n).2.1)) := hk10 _ _ _ ((keepA _ (keepA _ l601)))
  replace l900 : w10.cell? ⟨w9.heap.size, 0, none⟩ = some (.int .i64 ((splitS al ah).1)) := hk10 _ _ _ (by simp [go_sem])
  replace l901 : w10.cell? ⟨w9.heap.size, 1, none⟩ = some (.int .i64 ((splitS al ah).2.1)) := hk10 _ _ _ (by simp [go_sem])
  replace l910 : w10.cell? ⟨w9.heap.size + 1, 0, none⟩ = some (.int .i64 ((splitS al ah).2.2.1)) := hk10 _ _ _ (by simp [go_sem])
  replace l911 : w10.cell? ⟨w9.heap.size + 1, 1, none⟩ = some (.int .i64 ((splitS al ah).2.2.2.1)) := hk10 _ _ _ (by simp [go_sem])
  have bp00 : w.heap.size < w10.heap.size := World.block_lt_of_cell? w10 ⟨w.heap.size, 0, none⟩ p00
  have bp10 : w.heap.size + 1 < w10.heap.size := World.block_lt_of_cell? w10 ⟨w.heap.size + 1, 0, none⟩ p10
  have bl100 : w1.heap.size < w10.heap.size := World.block_lt_of_cell? w10 ⟨w1.heap.size, 0, none⟩ l100
  have bl200 : w2.heap.size < w10.heap.size := World.block_lt_of_cell? w10 ⟨w2.heap.size, 0, none⟩ l200
  have bl300 : w3.heap.size < w10.heap.size := World.block_lt_of_cell? w10 ⟨w3.heap.size, 0, none⟩ l300
  have bl400 : w4.heap.size < w10.heap.size := World.block_lt_of_cell? w10 ⟨w4.heap.size, 0, none⟩ l400
  have bl500 : w5.heap.size < w10.heap.size := World.block_lt_of_cell? w10 ⟨w5.heap.size, 0, none⟩ l500
  have bl600 : w6.heap.size < w10.heap.size := World.block_lt_of_cell? w10 ⟨w6.heap.size, 0, none⟩ l600
  have bl900 : w9.heap.size < w10.heap.size := World.block_lt_of_cell? w10 ⟨w9.heap.size, 0, none⟩ l900
  have bl910 : w9.heap.size + 1 < w10.heap.size := World.block_lt_of_cell? w10 ⟨w9.heap.size + 1, 0, none⟩ l910
  clear hk10
  go_wp2_with fail
  refine useK w (wideof_any _ _ _ (by omega)) (by go_grown) ?_; rintro e w11 rfl hB11 hk11 hs11
  replace p00 : w11.cell? ⟨w.heap.size, 0, none⟩ = some (.int .i64 al) := hk11 _ _ _ ((keepA _ (keepA _ p00)))
  replace p01 : w11.cell? ⟨w.heap.size, 1, none⟩ = some (.int .i64 ah) := hk11 _ _ _ ((keepA _ (keepA _ p01)))
  replace p10 : w11.cell? ⟨w.heap.size + 1, 0, none⟩ = some (.int .i64 bl) := hk11 _ _ _ ((keepA _ (keepA _ p10)))
  replace p11 : w11.cell? ⟨w.heap.size + 1, 1, none⟩ = some (.int .i64 bh) := hk11 _ _ _ ((keepA _ (keepA _ p11)))
  replace l100 : w11.cell? ⟨w1.heap.size, 0, none⟩ = some (.int .i64 ((hullS al ah bl bh).1)) := hk11 _ _ _ ((keepA _ (keepA _ l100)))
  replace l101 : w11.cell? ⟨w1.heap.size, 1, none⟩ = some (.int .i64 ((hullS al ah bl bh).2.1)) := hk11 _ _ _ ((keepA _ (keepA _ l101)))
  replace l200 : w11.cell? ⟨w2.heap.size, 0, none⟩ = some (.int .i64 ((hullS al ah bl bh).1)) := hk11 _ _ _ ((keepA _ (keepA _ l200)))
  replace l201 : w11.cell? ⟨w2.heap.size, 1, none⟩ = some (.int .i64 ((hullS al ah bl bh).2.1)) := hk11 _ _ _ ((keepA _ (keepA _ l201)))
  replace l300 : w11.cell? ⟨w3.heap.size, 0, none⟩ = some (.int .i64 ((meetS al ah bl bh).1)) := hk11 _ _ _ ((keepA _ (keepA _ l300)))
  replace l301 : w11.cell? ⟨w3.heap.size, 1, none⟩ = some (.int .i64 ((meetS al ah bl bh).2.1)) := hk11 _ _ _ ((keepA _ (keepA _ l301)))
  replace l400 : w11.cell? ⟨w4.heap.size, 0, none⟩ = some (.int .i64 ((meetS al ah bl bh).1)) := hk11 _ _ _ ((keepA _ (keepA _ l400)))
  replace l401 : w11.cell? ⟨w4.heap.size, 1, none⟩ = some (.int .i64 ((meetS al ah bl bh).2.1)) := hk11 _ _ _ ((keepA _ (keepA _ l401)))
  replace l500 : w11.cell? ⟨w5.heap.size, 0, none⟩ = some (.int .i64 ((growS al ah n).1)) := hk11 _ _ _ ((keepA _ (keepA _ l500)))
  replace l501 : w11.cell? ⟨w5.heap.size, 1, none⟩ = some (.int .i64 ((growS al ah n).2.1)) := hk11 _ _ _ ((keepA _ (keepA _ l501)))
  replace l600 : w11.cell? ⟨w6.heap.size, 0, none⟩ = some (.int .i64 ((growS al ah n).1)) := hk11 _ _ _ ((keepA _ (keepA _ l600)))
  replace l601 : w11.cell? ⟨w6.heap.size, 1, none⟩ = some (.int .i64 ((growS al ah n).2.1)) := hk11 _ _ _ ((keepA _ (keepA _ l601)))
  replace l900 : w11.cell? ⟨w9.heap.size, 0, none⟩ = some (.int .i64 ((splitS al ah).1)) := hk11 _ _ _ ((keepA _ (keepA _ l900)))
  replace l901 : w11.cell? ⟨w9.heap.size, 1, none⟩ = some (.int .i64 ((splitS al ah).2.1)) := hk11 _ _ _ ((keepA _ (keepA _ l901)))
  replace l910 : w11.cell? ⟨w9.heap.size + 1, 0, none⟩ = some (.int .i64 ((splitS al ah).2.2.1)) := hk11 _ _ _ ((keepA _ (keepA _ l910)))
  replace l911 : w11.cell? ⟨w9.heap.size + 1, 1, none⟩ = some (.int .i64 ((splitS al ah).2.2.2.1)) := hk11 _ _ _ ((keepA _ (keepA _ l911)))
  replace l1000 : w11.cell? ⟨w10.heap.size, 0, none⟩ = some (.int .i64 ((splitS al ah).1)) := hk11 _ _ _ (by simp [go_sem])
  replace l1001 : w11.cell? ⟨w10.heap.size, 1, none⟩ = some (.int .i64 ((splitS al ah).2.1)) := hk11 _ _ _ (by simp [go_sem])
  replace l1010 : w11.cell? ⟨w10.heap.size + 1, 0, none⟩ = some (.int .i64 ((splitS al ah).2.2.1)) := hk11 _ _ _ (by simp [go_sem])
  replace l1011 : w11.cell? ⟨w10.heap.size + 1, 1, none⟩ = some (.int .i64 ((splitS al ah).2.2.2.1)) := hk11 _ _ _ (by simp [go_sem])
  have bp00 : w.heap.size < w11.heap.size := World.block_lt_of_cell? w11 ⟨w.heap.size, 0, none⟩ p00
  have bp10 : w.heap.size + 1 < w11.heap.size := World.block_lt_of_cell? w11 ⟨w.heap.size + 1, 0, none⟩ p10
  have bl100 : w1.heap.size < w11.heap.size := World.block_lt_of_cell? w11 ⟨w1.heap.size, 0, none⟩ l100
  have bl200 : w2.heap.size < w11.heap.size := World.block_lt_of_cell? w11 ⟨w2.heap.size, 0, none⟩ l200
  have bl300 : w3.heap.size < w11.heap.size := World.block_lt_of_cell? w11 ⟨w3.heap.size, 0, none⟩ l300
  have bl400 : w4.heap.size < w11.heap.size := World.block_lt_of_cell? w11 ⟨w4.heap.size, 0, none⟩ l400
  have bl500 : w5.heap.size < w11.heap.size := World.block_lt_of_cell? w11 ⟨w5.heap.size, 0, none⟩ l500
  have bl600 : w6.heap.size < w11.heap.size := World.block_lt_of_cell? w11 ⟨w6.heap.size, 0, none⟩ l600
  have bl900 : w9.heap.size < w11.heap.size := World.block_lt_of_cell? w11 ⟨w9.heap.size, 0, none⟩ l900
  have bl910 : w9.heap.size + 1 < w11.heap.size := World.block_lt_of_cell? w11 ⟨w9.heap.size + 1, 0, none⟩ l910
  have bl1000 : w10.heap.size < w11.heap.size := World.block_lt_of_cell? w11 ⟨w10.heap.size, 0, none⟩ l1000
  have bl1010 : w10.heap.size + 1 < w11.heap.size := World.block_lt_of_cell? w11 ⟨w10.heap.size + 1, 0, none⟩ l1010
  clear hk11
  go_wp2_with fail
  refine useK w (rwideof_any _ _ _ (by omega)) (by go_grown) ?_; rintro e w12 rfl hB12 hk12 hs12
  replace p00 : w12.cell? ⟨w.heap.size, 0, none⟩ = some (.int .i64 al) := hk12 _ _ _ (p00)
  replace p01 : w12.cell? ⟨w.heap.size, 1, none⟩ = some (.int .i64 ah) := hk12 _ _ _ (p01)
  replace p10 : w12.cell? ⟨w.heap.size + 1, 0, none⟩ = some (.int .i64 bl) := hk12 _ _ _ (p10)
  replace p11 : w12.cell? ⟨w.heap.size + 1, 1, none⟩ = some (.int .i64 bh) := hk12 _ _ _ (p11)
  replace l100 : w12.cell? ⟨w1.heap.size, 0, none⟩ = some (.int .i64 ((hullS al ah bl bh).1)) := hk12 _ _ _ (l100)
  replace l101 : w12.cell? ⟨w1.heap.size, 1, none⟩ = some (.int .i64 ((hullS al ah bl bh).2.1)) := hk12 _ _ _ (l101)
  replace l200 : w12.cell? ⟨w2.heap.size, 0, none⟩ = some (.int .i64 ((hullS al ah bl bh).1)) := hk12 _ _ _ (l200)
  replace l201 : w12.cell? ⟨w2.heap.size, 1, none⟩ = some (.int .i64 ((hullS al ah bl bh).2.1)) := hk12 _ _ _ (l201)
  replace l300 : w12.cell? ⟨w3.heap.size, 0, none⟩ = some (.int .i64 ((meetS al ah bl bh).1)) := hk12 _ _ _ (l300)
  replace l301 : w12.cell? ⟨w3.heap.size, 1, none⟩ = some (.int .i64 ((meetS al ah bl bh).2.1)) := hk12 _ _ _ (l301)
  replace l400 : w12.cell? ⟨w4.heap.size, 0, none⟩ = some (.int .i64 ((meetS al ah bl bh).1)) := hk12 _ _ _ (l400)
  replace l401 : w12.cell? ⟨w4.heap.size, 1, none⟩ = some (.int .i64 ((meetS al ah bl bh).2.1)) := hk12 _ _ _ (l401)
  replace l500 : w12.cell? ⟨w5.heap.size, 0, none⟩ = some (.int .i64 ((growS al ah n).1)) := hk12 _ _ _ (l500)
  replace l501 : w12.cell? ⟨w5.heap.size, 1, none⟩ = some (.int .i64 ((growS al ah n).2.1)) := hk12 _ _ _ (l501)
  replace l600 : w12.cell? ⟨w6.heap.size, 0, none⟩ = some (.int .i64 ((growS al ah n).1)) := hk12 _ _ _ (l600)
  replace l601 : w12.cell? ⟨w6.heap.size, 1, none⟩ = some (.int .i64 ((growS al ah n).2.1)) := hk12 _ _ _ (l601)
  replace l900 : w12.cell? ⟨w9.heap.size, 0, none⟩ = some (.int .i64 ((splitS al ah).1)) := hk12 _ _ _ (l900)
  replace l901 : w12.cell? ⟨w9.heap.size, 1, none⟩ = some (.int .i64 ((splitS al ah).2.1)) := hk12 _ _ _ (l901)
  replace l910 : w12.cell? ⟨w9.heap.size + 1, 0, none⟩ = some (.int .i64 ((splitS al ah).2.2.1)) := hk12 _ _ _ (l910)
  replace l911 : w12.cell? ⟨w9.heap.size + 1, 1, none⟩ = some (.int .i64 ((splitS al ah).2.2.2.1)) := hk12 _ _ _ (l911)
  replace l1000 : w12.cell? ⟨w10.heap.size, 0, none⟩ = some (.int .i64 ((splitS al ah).1)) := hk12 _ _ _ (l1000)
  replace l1001 : w12.cell? ⟨w10.heap.size, 1, none⟩ = some (.int .i64 ((splitS al ah).2.1)) := hk12 _ _ _ (l1001)
  replace l1010 : w12.cell? ⟨w10.heap.size + 1, 0, none⟩ = some (.int .i64 ((splitS al ah).2.2.1)) := hk12 _ _ _ (l1010)
  replace l1011 : w12.cell? ⟨w10.heap.size + 1, 1, none⟩ = some (.int .i64 ((splitS al ah).2.2.2.1)) := hk12 _ _ _ (l1011)
  have bp00 : w.heap.size < w12.heap.size := World.block_lt_of_cell? w12 ⟨w.heap.size, 0, none⟩ p00
  have bp10 : w.heap.size + 1 < w12.heap.size := World.block_lt_of_cell? w12 ⟨w.heap.size + 1, 0, none⟩ p10
  have bl100 : w1.heap.size < w12.heap.size := World.block_lt_of_cell? w12 ⟨w1.heap.size, 0, none⟩ l100
  have bl200 : w2.heap.size < w12.heap.size := World.block_lt_of_cell? w12 ⟨w2.heap.size, 0, none⟩ l200
  have bl300 : w3.heap.size < w12.heap.size := World.block_lt_of_cell? w12 ⟨w3.heap.size, 0, none⟩ l300
  have bl400 : w4.heap.size < w12.heap.size := World.block_lt_of_cell? w12 ⟨w4.heap.size, 0, none⟩ l400
  have bl500 : w5.heap.size < w12.heap.size := World.block_lt_of_cell? w12 ⟨w5.heap.size, 0, none⟩ l500
  have bl600 : w6.heap.size < w12.heap.size := World.block_lt_of_cell? w12 ⟨w6.heap.size, 0, none⟩ l600
  have bl900 : w9.heap.size < w12.heap.size := World.block_lt_of_cell? w12 ⟨w9.heap.size, 0, none⟩ l900
  have bl910 : w9.heap.size + 1 < w12.heap.size := World.block_lt_of_cell? w12 ⟨w9.heap.size + 1, 0, none⟩ l910
  have bl1000 : w10.heap.size < w12.heap.size := World.block_lt_of_cell? w12 ⟨w10.heap.size, 0, none⟩ l1000
  have bl1010 : w10.heap.size + 1 < w12.heap.size := World.block_lt_of_cell? w12 ⟨w10.heap.size + 1, 0, none⟩ l1010
  clear hk12
  go_wp2_with fail
  refine useK w (same_eq _ _ _ _) (by go_grown) ?_; rintro e w13 rfl hB13 hk13 hs13
  replace p00 : w13.cell? ⟨w.heap.size, 0, none⟩ = some (.int .i64 al) := hk13 _ _ _ (p00)
  replace p01 : w13.cell? ⟨w.heap.size, 1, none⟩ = some (.int .i64 ah) := hk13 _ _ _ (p01)
  replace p10 : w13.cell? ⟨w.heap.size + 1, 0, none⟩ = some (.int .i64 bl) := hk13 _ _ _ (p10)
  replace p11 : w13.cell? ⟨w.heap.size + 1, 1, none⟩ = some (.int .i64 bh) := hk13 _ _ _ (p11)
  replace l100 : w13.cell? ⟨w1.heap.size, 0, none⟩ = some (.int .i64 ((hullS al ah bl bh).1)) := hk13 _ _ _ (l100)
  replace l101 : w13.cell? ⟨w1.heap.size, 1, none⟩ = some (.int .i64 ((hullS al ah bl bh).2.1)) := hk13 _ _ _ (l101)
  replace l200 : w13.cell? ⟨w2.heap.size, 0, none⟩ = some (.int .i64 ((hullS al ah bl bh).1)) := hk13 _ _ _ (l200)
  replace l201 : w13.cell? ⟨w2.heap.size, 1, none⟩ = some (.int .i64 ((hullS al ah bl bh).2.1)) := hk13 _ _ _ (l201)
  replace l300 : w13.cell? ⟨w3.heap.size, 0, none⟩ = some (.int .i64 ((meetS al ah bl bh).1)) := hk13 _ _ _ (l300)
  replace l301 : w13.cell? ⟨w3.heap.size, 1, none⟩ = some (.int .i64 ((meetS al ah bl bh).2.1)) := hk13 _ _ _ (l301)
  replace l400 : w13.cell? ⟨w4.heap.size, 0, none⟩ = some (.int .i64 ((meetS al ah bl bh).1)) := hk13 _ _ _ (l400)
  replace l401 : w13.cell? ⟨w4.heap.size, 1, none⟩ = some (.int .i64 ((meetS al ah bl bh).2.1)) := hk13 _ _ _ (l401)
  replace l500 : w13.cell? ⟨w5.heap.size, 0, none⟩ = some (.int .i64 ((growS al ah n).1)) := hk13 _ _ _ (l500)
  replace l501 : w13.cell? ⟨w5.heap.size, 1, none⟩ = some (.int .i64 ((growS al ah n).2.1)) := hk13 _ _ _ (l501)
  replace l600 : w13.cell? ⟨w6.heap.size, 0, none⟩ = some (.int .i64 ((growS al ah n).1)) := hk13 _ _ _ (l600)
  replace l601 : w13.cell? ⟨w6.heap.size, 1, none⟩ = some (.int .i64 ((growS al ah n).2.1)) := hk13 _ _ _ (l601)
  replace l900 : w13.cell? ⟨w9.heap.size, 0, none⟩ = some (.int .i64 ((splitS al ah).1)) := hk13 _ _ _ (l900)
  replace l901 : w13.cell? ⟨w9.heap.size, 1, none⟩ = some (.int .i64 ((splitS al ah).2.1)) := hk13 _ _ _ (l901)
  replace l910 : w13.cell? ⟨w9.heap.size + 1, 0, none⟩ = some (.int .i64 ((splitS al ah).2.2.1)) := hk13 _ _ _ (l910)
  replace l911 : w13.cell? ⟨w9.heap.size + 1, 1, none⟩ = some (.int .i64 ((splitS al ah).2.2.2.1)) := hk13 _ _ _ (l911)
  replace l1000 : w13.cell? ⟨w10.heap.size, 0, none⟩ = some (.int .i64 ((splitS al ah).1)) := hk13 _ _ _ (l1000)
  replace l1001 : w13.cell? ⟨w10.heap.size, 1, none⟩ = some (.int .i64 ((splitS al ah).2.1)) := hk13 _ _ _ (l1001)
  replace l1010 : w13.cell? ⟨w10.heap.size + 1, 0, none⟩ = some (.int .i64 ((splitS al ah).2.2.1)) := hk13 _ _ _ (l1010)
  replace l1011 : w13.cell? ⟨w10.heap.size + 1, 1, none⟩ = some (.int .i64 ((splitS al ah).2.2.2.1)) := hk13 _ _ _ (l1011)
  have bp00 : w.heap.size < w13.heap.size := World.block_lt_of_cell? w13 ⟨w.heap.size, 0, none⟩ p00
  have bp10 : w.heap.size + 1 < w13.heap.size := World.block_lt_of_cell? w13 ⟨w.heap.size + 1, 0, none⟩ p10
  have bl100 : w1.heap.size < w13.heap.size := World.block_lt_of_cell? w13 ⟨w1.heap.size, 0, none⟩ l100
  have bl200 : w2.heap.size < w13.heap.size := World.block_lt_of_cell? w13 ⟨w2.heap.size, 0, none⟩ l200
  have bl300 : w3.heap.size < w13.heap.size := World.block_lt_of_cell? w13 ⟨w3.heap.size, 0, none⟩ l300
  have bl400 : w4.heap.size < w13.heap.size := World.block_lt_of_cell? w13 ⟨w4.heap.size, 0, none⟩ l400
  have bl500 : w5.heap.size < w13.heap.size := World.block_lt_of_cell? w13 ⟨w5.heap.size, 0, none⟩ l500
  have bl600 : w6.heap.size < w13.heap.size := World.block_lt_of_cell? w13 ⟨w6.heap.size, 0, none⟩ l600
  have bl900 : w9.heap.size < w13.heap.size := World.block_lt_of_cell? w13 ⟨w9.heap.size, 0, none⟩ l900
  have bl910 : w9.heap.size + 1 < w13.heap.size := World.block_lt_of_cell? w13 ⟨w9.heap.size + 1, 0, none⟩ l910
  have bl1000 : w10.heap.size < w13.heap.size := World.block_lt_of_cell? w13 ⟨w10.heap.size, 0, none⟩ l1000
  have bl1010 : w10.heap.size + 1 < w13.heap.size := World.block_lt_of_cell? w13 ⟨w10.heap.size + 1, 0, none⟩ l1010
  clear hk13
  go_wp2_with fail
  refine useK w (same_eq _ _ _ _) (by go_grown) ?_; rintro e w14 rfl hB14 hk14 hs14
  replace p00 : w14.cell? ⟨w.heap.size, 0, none⟩ = some (.int .i64 al) := hk14 _ _ _ (p00)
  replace p01 : w14.cell? ⟨w.heap.size, 1, none⟩ = some (.int .i64 ah) := hk14 _ _ _ (p01)
  replace p10 : w14.cell? ⟨w.heap.size + 1, 0, none⟩ = some (.int .i64 bl) := hk14 _ _ _ (p10)
  replace p11 : w14.cell? ⟨w.heap.size + 1, 1, none⟩ = some (.int .i64 bh) := hk14 _ _ _ (p11)
  replace l100 : w14.cell? ⟨w1.heap.size, 0, none⟩ = some (.int .i64 ((hullS al ah bl bh).1)) := hk14 _ _ _ (l100)
  replace l101 : w14.cell? ⟨w1.heap.size, 1, none⟩ = some (.int .i64 ((hullS al ah bl bh).2.1)) := hk14 _ _ _ (l101)
  replace l200 : w14.cell? ⟨w2.heap.size, 0, none⟩ = some (.int .i64 ((hullS al ah bl bh).1)) := hk14 _ _ _ (l200)
  replace l201 : w14.cell? ⟨w2.heap.size, 1, none⟩ = some (.int .i64 ((hullS al ah bl bh).2.1)) := hk14 _ _ _ (l201)
  replace l300 : w14.cell? ⟨w3.heap.size, 0, none⟩ = some (.int .i64 ((meetS al ah bl bh).1)) := hk14 _ _ _ (l300)
  replace l301 : w14.cell? ⟨w3.heap.size, 1, none⟩ = some (.int .i64 ((meetS al ah bl bh).2.1)) := hk14 _ _ _ (l301)
  replace l400 : w14.cell? ⟨w4.heap.size, 0, none⟩ = some (.int .i64 ((meetS al ah bl bh).1)) := hk14 _ _ _ (l400)
  replace l401 : w14.cell? ⟨w4.heap.size, 1, none⟩ = some (.int .i64 ((meetS al ah bl bh).2.1)) := hk14 _ _ _ (l401)
  replace l500 : w14.cell? ⟨w5.heap.size, 0, none⟩ = some (.int .i64 ((growS al ah n).1)) := hk14 _ _ _ (l500)
  replace l501 : w14.cell? ⟨w5.heap.size, 1, none⟩ = some (.int .i64 ((growS al ah n).2.1)) := hk14 _ _ _ (l501)
  replace l600 : w14.cell? ⟨w6.heap.size, 0, none⟩ = some (.int .i64 ((growS al ah n).1)) := hk14 _ _ _ (l600)
  replace l601 : w14.cell? ⟨w6.heap.size, 1, none⟩ = some (.int .i64 ((growS al ah n).2.1)) := hk14 _ _ _ (l601)
  replace l900 : w14.cell? ⟨w9.heap.size, 0, none⟩ = some (.int .i64 ((splitS al ah).1)) := hk14 _ _ _ (l900)
  replace l901 : w14.cell? ⟨w9.heap.size, 1, none⟩ = some (.int .i64 ((splitS al ah).2.1)) := hk14 _ _ _ (l901)
  replace l910 : w14.cell? ⟨w9.heap.size + 1, 0, none⟩ = some (.int .i64 ((splitS al ah).2.2.1)) := hk14 _ _ _ (l910)
  replace l911 : w14.cell? ⟨w9.heap.size + 1, 1, none⟩ = some (.int .i64 ((splitS al ah).2.2.2.1)) := hk14 _ _ _ (l911)
  replace l1000 : w14.cell? ⟨w10.heap.size, 0, none⟩ = some (.int .i64 ((splitS al ah).1)) := hk14 _ _ _ (l1000)
  replace l1001 : w14.cell? ⟨w10.heap.size, 1, none⟩ = some (.int .i64 ((splitS al ah).2.1)) := hk14 _ _ _ (l1001)
  replace l1010 : w14.cell? ⟨w10.heap.size + 1, 0, none⟩ = some (.int .i64 ((splitS al ah).2.2.1)) := hk14 _ _ _ (l1010)
  replace l1011 : w14.cell? ⟨w10.heap.size + 1, 1, none⟩ = some (.int .i64 ((splitS al ah).2.2.2.1)) := hk14 _ _ _ (l1011)
  have bp00 : w.heap.size < w14.heap.size := World.block_lt_of_cell? w14 ⟨w.heap.size, 0, none⟩ p00
  have bp10 : w.heap.size + 1 < w14.heap.size := World.block_lt_of_cell? w14 ⟨w.heap.size + 1, 0, none⟩ p10
  have bl100 : w1.heap.size < w14.heap.size := World.block_lt_of_cell? w14 ⟨w1.heap.size, 0, none⟩ l100
  have bl200 : w2.heap.size < w14.heap.size := World.block_lt_of_cell? w14 ⟨w2.heap.size, 0, none⟩ l200
  have bl300 : w3.heap.size < w14.heap.size := World.block_lt_of_cell? w14 ⟨w3.heap.size, 0, none⟩ l300
  have bl400 : w4.heap.size < w14.heap.size := World.block_lt_of_cell? w14 ⟨w4.heap.size, 0, none⟩ l400
  have bl500 : w5.heap.size < w14.heap.size := World.block_lt_of_cell? w14 ⟨w5.heap.size, 0, none⟩ l500
  have bl600 : w6.heap.size < w14.heap.size := World.block_lt_of_cell? w14 ⟨w6.heap.size, 0, none⟩ l600
  have bl900 : w9.heap.size < w14.heap.size := World.block_lt_of_cell? w14 ⟨w9.heap.size, 0, none⟩ l900
  have bl910 : w9.heap.size + 1 < w14.heap.size := World.block_lt_of_cell? w14 ⟨w9.heap.size + 1, 0, none⟩ l910
  have bl1000 : w10.heap.size < w14.heap.size := World.block_lt_of_cell? w14 ⟨w10.heap.size, 0, none⟩ l1000
  have bl1010 : w10.heap.size + 1 < w14.heap.size := World.block_lt_of_cell? w14 ⟨w10.heap.size + 1, 0, none⟩ l1010
  clear hk14
  go_wp2_with fail
  refine useK w (same_eq _ _ _ _) (by go_grown) ?_; rintro e w15 rfl hB15 hk15 hs15
  replace p00 : w15.cell? ⟨w.heap.size, 0, none⟩ = some (.int .i64 al) := hk15 _ _ _ (p00)
  replace p01 : w15.cell? ⟨w.heap.size, 1, none⟩ = some (.int .i64 ah) := hk15 _ _ _ (p01)
  replace p10 : w15.cell? ⟨w.heap.size + 1, 0, none⟩ = some (.int .i64 bl) := hk15 _ _ _ (p10)
  replace p11 : w15.cell? ⟨w.heap.size + 1, 1, none⟩ = some (.int .i64 bh) := hk15 _ _ _ (p11)
  replace l100 : w15.cell? ⟨w1.heap.size, 0, none⟩ = some (.int .i64 ((hullS al ah bl bh).1)) := hk15 _ _ _ (l100)
  replace l101 : w15.cell? ⟨w1.heap.size, 1, none⟩ = some (.int .i64 ((hullS al ah bl bh).2.1)) := hk15 _ _ _ (l101)
  replace l200 : w15.cell? ⟨w2.heap.size, 0, none⟩ = some (.int .i64 ((hullS al ah bl bh).1)) := hk15 _ _ _ (l200)
  replace l201 : w15.cell? ⟨w2.heap.size, 1, none⟩ = some (.int .i64 ((hullS al ah bl bh).2.1)) := hk15 _ _ _ (l201)
  replace l300 : w15.cell? ⟨w3.heap.size, 0, none⟩ = some (.int .i64 ((meetS al ah bl bh).1)) := hk15 _ _ _ (l300)
  replace l301 : w15.cell? ⟨w3.heap.size, 1, none⟩ = some (.int .i64 ((meetS al ah bl bh).2.1)) := hk15 _ _ _ (l301)
  replace l400 : w15.cell? ⟨w4.heap.size, 0, none⟩ = some (.int .i64 ((meetS al ah bl bh).1)) := hk15 _ _ _ (l400)
  replace l401 : w15.cell? ⟨w4.heap.size, 1, none⟩ = some (.int .i64 ((meetS al ah bl bh).2.1)) := hk15 _ _ _ (l401)
  replace l500 : w15.cell? ⟨w5.heap.size, 0, none⟩ = some (.int .i64 ((growS al ah n).1)) := hk15 _ _ _ (l500)
  replace l501 : w15.cell? ⟨w5.heap.size, 1, none⟩ = some (.int .i64 ((growS al ah n).2.1)) := hk15 _ _ _ (l501)
  replace l600 : w15.cell? ⟨w6.heap.size, 0, none⟩ = some (.int .i64 ((growS al ah n).1)) := hk15 _ _ _ (l600)
  replace l601 : w15.cell? ⟨w6.heap.size, 1, none⟩ = some (.int .i64 ((growS al ah n).2.1)) := hk15 _ _ _ (l601)
  replace l900 : w15.cell? ⟨w9.heap.size, 0, none⟩ = some (.int .i64 ((splitS al ah).1)) := hk15 _ _ _ (l900)
  replace l901 : w15.cell? ⟨w9.heap.size, 1, none⟩ = some (.int .i64 ((splitS al ah).2.1)) := hk15 _ _ _ (l901)
  replace l910 : w15.cell? ⟨w9.heap.size + 1, 0, none⟩ = some (.int .i64 ((splitS al ah).2.2.1)) := hk15 _ _ _ (l910)
  replace l911 : w15.cell? ⟨w9.heap.size + 1, 1, none⟩ = some (.int .i64 ((splitS al ah).2.2.2.1)) := hk15 _ _ _ (l911)
  replace l1000 : w15.cell? ⟨w10.heap.size, 0, none⟩ = some (.int .i64 ((splitS al ah).1)) := hk15 _ _ _ (l1000)
  replace l1001 : w15.cell? ⟨w10.heap.size, 1, none⟩ = some (.int .i64 ((splitS al ah).2.1)) := hk15 _ _ _ (l1001)
  replace l1010 : w15.cell? ⟨w10.heap.size + 1, 0, none⟩ = some (.int .i64 ((splitS al ah).2.2.1)) := hk15 _ _ _ (l1010)
  replace l1011 : w15.cell? ⟨w10.heap.size + 1, 1, none⟩ = some (.int .i64 ((splitS al ah).2.2.2.1)) := hk15 _ _ _ (l1011)
  have bp00 : w.heap.size < w15.heap.size := World.block_lt_of_cell? w15 ⟨w.heap.size, 0, none⟩ p00
  have bp10 : w.heap.size + 1 < w15.heap.size := World.block_lt_of_cell? w15 ⟨w.heap.size + 1, 0, none⟩ p10
  have bl100 : w1.heap.size < w15.heap.size := World.block_lt_of_cell? w15 ⟨w1.heap.size, 0, none⟩ l100
  have bl200 : w2.heap.size < w15.heap.size := World.block_lt_of_cell? w15 ⟨w2.heap.size, 0, none⟩ l200
  have bl300 : w3.heap.size < w15.heap.size := World.block_lt_of_cell? w15 ⟨w3.heap.size, 0, none⟩ l300
  have bl400 : w4.heap.size < w15.heap.size := World.block_lt_of_cell? w15 ⟨w4.heap.size, 0, none⟩ l400
  have bl500 : w5.heap.size < w15.heap.size := World.block_lt_of_cell? w15 ⟨w5.heap.size, 0, none⟩ l500
  have bl600 : w6.heap.size < w15.heap.size := World.block_lt_of_cell? w15 ⟨w6.heap.size, 0, none⟩ l600
  have bl900 : w9.heap.size < w15.heap.size := World.block_lt_of_cell? w15 ⟨w9.heap.size, 0, none⟩ l900
  have bl910 : w9.heap.size + 1 < w15.heap.size := World.block_lt_of_cell? w15 ⟨w9.heap.size + 1, 0, none⟩ l910
  have bl1000 : w10.heap.size < w15.heap.size := World.block_lt_of_cell? w15 ⟨w10.heap.size, 0, none⟩ l1000
  have bl1010 : w10.heap.size + 1 < w15.heap.size := World.block_lt_of_cell? w15 ⟨w10.heap.size + 1, 0, none⟩ l1010
  clear hk15
  go_wp2_with fail
  refine useK w (same_eq _ _ _ _) (by go_grown) ?_; rintro e w16 rfl hB16 hk16 hs16
  replace p00 : w16.cell? ⟨w.heap.size, 0, none⟩ = some (.int .i64 al) := hk16 _ _ _ (p00)
  replace p01 : w16.cell? ⟨w.heap.size, 1, none⟩ = some (.int .i64 ah) := hk16 _ _ _ (p01)
  replace p10 : w16.cell? ⟨w.heap.size + 1, 0, none⟩ = some (.int .i64 bl) := hk16 _ _ _ (p10)
  replace p11 : w16.cell? ⟨w.heap.size + 1, 1, none⟩ = some (.int .i64 bh) := hk16 _ _ _ (p11)
  replace l100 : w16.cell? ⟨w1.heap.size, 0, none⟩ = some (.int .i64 ((hullS al ah bl bh).1)) := hk16 _ _ _ (l100)
  replace l101 : w16.cell? ⟨w1.heap.size, 1, none⟩ = some (.int .i64 ((hullS al ah bl bh).2.1)) := hk16 _ _ _ (l101)
  replace l200 : w16.cell? ⟨w2.heap.size, 0, none⟩ = some (.int .i64 ((hullS al ah bl bh).1)) := hk16 _ _ _ (l200)
  replace l201 : w16.cell? ⟨w2.heap.size, 1, none⟩ = some (.int .i64 ((hullS al ah bl bh).2.1)) := hk16 _ _ _ (l201)
  replace l300 : w16.cell? ⟨w3.heap.size, 0, none⟩ = some (.int .i64 ((meetS al ah bl bh).1)) := hk16 _ _ _ (l300)
  replace l301 : w16.cell? ⟨w3.heap.size, 1, none⟩ = some (.int .i64 ((meetS al ah bl bh).2.1)) := hk16 _ _ _ (l301)
  replace l400 : w16.cell? ⟨w4.heap.size, 0, none⟩ = some (.int .i64 ((meetS al ah bl bh).1)) := hk16 _ _ _ (l400)
  replace l401 : w16.cell? ⟨w4.heap.size, 1, none⟩ = some (.int .i64 ((meetS al ah bl bh).2.1)) := hk16 _ _ _ (l401)
  replace l500 : w16.cell? ⟨w5.heap.size, 0, none⟩ = some (.int .i64 ((growS al ah n).1)) := hk16 _ _ _ (l500)
  replace l501 : w16.cell? ⟨w5.heap.size, 1, none⟩ = some (.int .i64 ((growS al ah n).2.1)) := hk16 _ _ _ (l501)
  replace l600 : w16.cell? ⟨w6.heap.size, 0, none⟩ = some (.int .i64 ((growS al ah n).1)) := hk16 _ _ _ (l600)
  replace l601 : w16.cell? ⟨w6.heap.size, 1, none⟩ = some (.int .i64 ((growS al ah n).2.1)) := hk16 _ _ _ (l601)
  replace l900 : w16.cell? ⟨w9.heap.size, 0, none⟩ = some (.int .i64 ((splitS al ah).1)) := hk16 _ _ _ (l900)
  replace l901 : w16.cell? ⟨w9.heap.size, 1, none⟩ = some (.int .i64 ((splitS al ah).2.1)) := hk16 _ _ _ (l901)
  replace l910 : w16.cell? ⟨w9.heap.size + 1, 0, none⟩ = some (.int .i64 ((splitS al ah).2.2.1)) := hk16 _ _ _ (l910)
  replace l911 : w16.cell? ⟨w9.heap.size + 1, 1, none⟩ = some (.int .i64 ((splitS al ah).2.2.2.1)) := hk16 _ _ _ (l911)
  replace l1000 : w16.cell? ⟨w10.heap.size, 0, none⟩ = some (.int .i64 ((splitS al ah).1)) := hk16 _ _ _ (l1000)
  replace l1001 : w16.cell? ⟨w10.heap.size, 1, none⟩ = some (.int .i64 ((splitS al ah).2.1)) := hk16 _ _ _ (l1001)
  replace l1010 : w16.cell? ⟨w10.heap.size + 1, 0, none⟩ = some (.int .i64 ((splitS al ah).2.2.1)) := hk16 _ _ _ (l1010)
  replace l1011 : w16.cell? ⟨w10.heap.size + 1, 1, none⟩ = some (.int .i64 ((splitS al ah).2.2.2.1)) := hk16 _ _ _ (l1011)
  have bp00 : w.heap.size < w16.heap.size := World.block_lt_of_cell? w16 ⟨w.heap.size, 0, none⟩ p00
  have bp10 : w.heap.size + 1 < w16.heap.size := World.block_lt_of_cell? w16 ⟨w.heap.size + 1, 0, none⟩ p10
  have bl100 : w1.heap.size < w16.heap.size := World.block_lt_of_cell? w16 ⟨w1.heap.size, 0, none⟩ l100
  have bl200 : w2.heap.size < w16.heap.size := World.block_lt_of_cell? w16 ⟨w2.heap.size, 0, none⟩ l200
  have bl300 : w3.heap.size < w16.heap.size := World.block_lt_of_cell? w16 ⟨w3.heap.size, 0, none⟩ l300
  have bl400 : w4.heap.size < w16.heap.size := World.block_lt_of_cell? w16 ⟨w4.heap.size, 0, none⟩ l400
  have bl500 : w5.heap.size < w16.heap.size := World.block_lt_of_cell? w16 ⟨w5.heap.size, 0, none⟩ l500
  have bl600 : w6.heap.size < w16.heap.size := World.block_lt_of_cell? w16 ⟨w6.heap.size, 0, none⟩ l600
  have bl900 : w9.heap.size < w16.heap.size := World.block_lt_of_cell? w16 ⟨w9.heap.size, 0, none⟩ l900
  have bl910 : w9.heap.size + 1 < w16.heap.size := World.block_lt_of_cell? w16 ⟨w9.heap.size + 1, 0, none⟩ l910
  have bl1000 : w10.heap.size < w16.heap.size := World.block_lt_of_cell? w16 ⟨w10.heap.size, 0, none⟩ l1000
  have bl1010 : w10.heap.size + 1 < w16.heap.size := World.block_lt_of_cell? w16 ⟨w10.heap.size + 1, 0, none⟩ l1010
  clear hk16
  go_wp2_with fail
  go_ret
  exact ⟨rfl, by go_grown⟩
end Go.Proofs.Ytjleflfncijnpaa
