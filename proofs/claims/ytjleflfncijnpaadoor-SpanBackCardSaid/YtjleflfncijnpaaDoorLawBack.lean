/- SpanBack: the walk. -/
import Derived.Test.YtjleflfncijnpaaDoorRows
import Derived.Test.YtjleflfncijnpaaDoorBase
import Derived.Test.YtjleflfncijnpaaDoorFacts
import Derived.Test.YtjleflfncijnpaaDoorTwo
import Derived.Deep.RegionHeld3
import Derived.Deep.RegionWith
import Derived.Deep.QuietTactic
import Derived.BigQuiet
import Derived.Test.YtjleflfncijnpaaDoorAsks
import Derived.Test.YtjleflfncijnpaaDoorSeq
import Derived.Test.YtjleflfncijnpaaDoorTwo
import Derived.Test.YtjleflfncijnpaaDoorOut
import Derived.Test.YtjleflfncijnpaaDoorSums
import Derived.Test.YtjleflfncijnpaaDoorSums2
import Derived.Test.YtjleflfncijnpaaDoorMul
import Derived.Test.YtjleflfncijnpaaDoorMulR
import Derived.Test.YtjleflfncijnpaaDoorDivR
import Derived.Test.YtjleflfncijnpaaDoorHoldsM
import Derived.Test.YtjleflfncijnpaaDoorShelfT
import Derived.Test.YtjleflfncijnpaaDoorTextM
import Derived.Test.YtjleflfncijnpaaDoorText
import Derived.Test.YtjleflfncijnpaaDoorReadM
import Derived.Test.YtjleflfncijnpaaDoorReadS
import Derived.Test.YtjleflfncijnpaaDoorReadA
import Derived.Test.YtjleflfncijnpaaDoorAlive
import Derived.Test.YtjleflfncijnpaaDoorBackM
set_option linter.unusedVariables false
set_option linter.unusedSimpArgs false
set_option maxHeartbeats 4000000
set_option maxRecDepth 100000
namespace Go.Proofs.YtjleflfncijnpaaDoor
open Go Go.RowKit
theorem back_bad (al ah bl bh : Int) (w : World) (h : (-9223372036854775808 ≤ al ∧ al ≤ 9223372036854775807) ∧ (-9223372036854775808 ≤ ah ∧ ah ≤ 9223372036854775807) ∧ (-9223372036854775808 ≤ bl ∧ bl ≤ 9223372036854775807) ∧ (-9223372036854775808 ≤ bh ∧ bh ≤ 9223372036854775807)) (hc : ¬ (chk al ah = 0 ∧ chk bl bh = 0)) :
    Calls Tryd.prog 8 #[.agg #[.int .i64 al, .int .i64 ah], .agg #[.int .i64 bl, .int .i64 bh]] w fun e w' => e = .returned (.bool true) ∧ Below w.heap.size w w' := by
  obtain ⟨⟨a1, a2⟩, ⟨b1, b2⟩, ⟨c1, c2⟩, d1, d2⟩ := h
  have hq := hid hc
  clear hc
  by_cases e : chk al ah = 0
  · have e2 : (chk bl bh != 0) = true := by have := hq.out; simp [e] at this; simpa using this
    go_enter Tryd.func8, Tryd.ntmps8
    go_wp2_with fail
    refine useK w (alive_any _) (by go_grown) ?_; rintro e w1 rfl hB1 hk1 hs1
    replace p00 : w1.cell? ⟨w.heap.size, 0, none⟩ = some (.int .i64 al) := hk1 _ _ _ (by simp [go_sem])
    replace p01 : w1.cell? ⟨w.heap.size, 1, none⟩ = some (.int .i64 ah) := hk1 _ _ _ (by simp [go_sem])
    replace p10 : w1.cell? ⟨w.heap.size + 1, 0, none⟩ = some (.int .i64 bl) := hk1 _ _ _ (by simp [go_sem])
    replace p11 : w1.cell? ⟨w.heap.size + 1, 1, none⟩ = some (.int .i64 bh) := hk1 _ _ _ (by simp [go_sem])
    have bp00 : w.heap.size < w1.heap.size := World.block_lt_of_cell? w1 ⟨w.heap.size, 0, none⟩ p00
    have bp10 : w.heap.size + 1 < w1.heap.size := World.block_lt_of_cell? w1 ⟨w.heap.size + 1, 0, none⟩ p10
    clear hk1
    go_wp2_with fail
    refine useK w (check_any _ _ _ (by omega)) (by go_grown) ?_; rintro e w2 rfl hB2 hk2 hs2
    replace p00 : w2.cell? ⟨w.heap.size, 0, none⟩ = some (.int .i64 al) := hk2 _ _ _ (p00)
    replace p01 : w2.cell? ⟨w.heap.size, 1, none⟩ = some (.int .i64 ah) := hk2 _ _ _ (p01)
    replace p10 : w2.cell? ⟨w.heap.size + 1, 0, none⟩ = some (.int .i64 bl) := hk2 _ _ _ (p10)
    replace p11 : w2.cell? ⟨w.heap.size + 1, 1, none⟩ = some (.int .i64 bh) := hk2 _ _ _ (p11)
    have bp00 : w.heap.size < w2.heap.size := World.block_lt_of_cell? w2 ⟨w.heap.size, 0, none⟩ p00
    have bp10 : w.heap.size + 1 < w2.heap.size := World.block_lt_of_cell? w2 ⟨w.heap.size + 1, 0, none⟩ p10
    clear hk2
    go_wp2_with fail
    refine useK w (check_any _ _ _ (by omega)) (by go_grown) ?_; rintro e w3 rfl hB3 hk3 hs3
    replace p00 : w3.cell? ⟨w.heap.size, 0, none⟩ = some (.int .i64 al) := hk3 _ _ _ (p00)
    replace p01 : w3.cell? ⟨w.heap.size, 1, none⟩ = some (.int .i64 ah) := hk3 _ _ _ (p01)
    replace p10 : w3.cell? ⟨w.heap.size + 1, 0, none⟩ = some (.int .i64 bl) := hk3 _ _ _ (p10)
    replace p11 : w3.cell? ⟨w.heap.size + 1, 1, none⟩ = some (.int .i64 bh) := hk3 _ _ _ (p11)
    have bp00 : w.heap.size < w3.heap.size := World.block_lt_of_cell? w3 ⟨w.heap.size, 0, none⟩ p00
    have bp10 : w.heap.size + 1 < w3.heap.size := World.block_lt_of_cell? w3 ⟨w.heap.size + 1, 0, none⟩ p10
    clear hk3
    go_wp2_with fail
    go_ret
    exact ⟨rfl, by go_grown⟩
  · have e2 : (chk al ah != 0) = true := by simpa using e
    go_enter Tryd.func8, Tryd.ntmps8
    go_wp2_with fail
    refine useK w (alive_any _) (by go_grown) ?_; rintro e w1 rfl hB1 hk1 hs1
    replace p00 : w1.cell? ⟨w.heap.size, 0, none⟩ = some (.int .i64 al) := hk1 _ _ _ (by simp [go_sem])
    replace p01 : w1.cell? ⟨w.heap.size, 1, none⟩ = some (.int .i64 ah) := hk1 _ _ _ (by simp [go_sem])
    replace p10 : w1.cell? ⟨w.heap.size + 1, 0, none⟩ = some (.int .i64 bl) := hk1 _ _ _ (by simp [go_sem])
    replace p11 : w1.cell? ⟨w.heap.size + 1, 1, none⟩ = some (.int .i64 bh) := hk1 _ _ _ (by simp [go_sem])
    have bp00 : w.heap.size < w1.heap.size := World.block_lt_of_cell? w1 ⟨w.heap.size, 0, none⟩ p00
    have bp10 : w.heap.size + 1 < w1.heap.size := World.block_lt_of_cell? w1 ⟨w.heap.size + 1, 0, none⟩ p10
    clear hk1
    go_wp2_with fail
    refine useK w (check_any _ _ _ (by omega)) (by go_grown) ?_; rintro e w2 rfl hB2 hk2 hs2
    replace p00 : w2.cell? ⟨w.heap.size, 0, none⟩ = some (.int .i64 al) := hk2 _ _ _ (p00)
    replace p01 : w2.cell? ⟨w.heap.size, 1, none⟩ = some (.int .i64 ah) := hk2 _ _ _ (p01)
    replace p10 : w2.cell? ⟨w.heap.size + 1, 0, none⟩ = some (.int .i64 bl) := hk2 _ _ _ (p10)
    replace p11 : w2.cell? ⟨w.heap.size + 1, 1, none⟩ = some (.int .i64 bh) := hk2 _ _ _ (p11)
    have bp00 : w.heap.size < w2.heap.size := World.block_lt_of_cell? w2 ⟨w.heap.size, 0, none⟩ p00
    have bp10 : w.heap.size + 1 < w2.heap.size := World.block_lt_of_cell? w2 ⟨w.heap.size + 1, 0, none⟩ p10
    clear hk2
    go_wp2_with fail
    go_ret
    exact ⟨rfl, by go_grown⟩
theorem back_00_00 (al ah bl bh sl sh dl dh ql qh ml mh : Int) (T : List UInt8) (w : World) 
    (k1 : Hid (∀ w : World, Calls Tryd.prog 31 #[.agg #[.int .i64 al, .int .i64 ah]] w fun e w' => e = .returned (.int .i64 0) ∧ Below w.heap.size w w'))
    (k2 : Hid (∀ w : World, Calls Tryd.prog 31 #[.agg #[.int .i64 bl, .int .i64 bh]] w fun e w' => e = .returned (.int .i64 0) ∧ Below w.heap.size w w'))
    (t : Hid (∀ W : World, Below w.heap.size w W → Calls Tryd.prog 14 #[.int .i64 al] W fun e w' => e = .returned (.string ⟨T.toArray⟩) ∧ Below W.heap.size W w'))
    (r : Hid (∀ w : World, Calls Tryd.prog 12 #[.string ⟨T.toArray⟩] w fun e w' => e = .returned (.tuple #[.agg #[.int .i64 al, .int .i64 al], .int .i64 0]) ∧ Below w.heap.size w w'))
    (s : Hid (∀ w : World, Calls Tryd.prog 33 #[.agg #[.int .i64 al, .int .i64 ah], .agg #[.int .i64 bl, .int .i64 bh]] w fun e w' => e = .returned (.tuple #[.agg #[.int .i64 dl, .int .i64 dh], .int .i64 0]) ∧ Below w.heap.size w w'))
    (a : Hid (∀ w : World, Calls Tryd.prog 28 #[.agg #[.int .i64 dl, .int .i64 dh], .agg #[.int .i64 bl, .int .i64 bh]] w fun e w' => e = .returned (.tuple #[.agg #[.int .i64 sl, .int .i64 sh], .int .i64 0]) ∧ Below w.heap.size w w'))
    (d : Hid (∀ w : World, Calls Tryd.prog 19 #[.agg #[.int .i64 al, .int .i64 ah], .agg #[.int .i64 bl, .int .i64 bh]] w fun e w' => e = .returned (.tuple #[.agg #[.int .i64 ql, .int .i64 qh], .int .i64 0]) ∧ Below w.heap.size w w'))
    (m : Hid (∀ w : World, Calls Tryd.prog 34 #[.agg #[.int .i64 ql, .int .i64 qh], .agg #[.int .i64 bl, .int .i64 bh]] w fun e w' => e = .returned (.tuple #[.agg #[.int .i64 ml, .int .i64 mh], .int .i64 0]) ∧ Below w.heap.size w w'))
    (wi : Hid (∀ w : World, Calls Tryd.prog 48 #[.agg #[.int .i64 al, .int .i64 ah], .agg #[.int .i64 sl, .int .i64 sh]] w fun e w' => e = .returned (.bool true) ∧ Below w.heap.size w w'))
    (wj : Hid (∀ w : World, Calls Tryd.prog 48 #[.agg #[.int .i64 al, .int .i64 ah], .agg #[.int .i64 ml, .int .i64 mh]] w fun e w' => e = .returned (.bool true) ∧ Below w.heap.size w w'))
    : Calls Tryd.prog 8 #[.agg #[.int .i64 al, .int .i64 ah], .agg #[.int .i64 bl, .int .i64 bh]] w fun e w' => e = .returned (.bool true) ∧ Below w.heap.size w w' := by
  go_enter Tryd.func8, Tryd.ntmps8
  go_wp2_with fail
  refine useK w (alive_any _) (by go_grown) ?_; rintro e w1 rfl hB1 hk1 hs1
  replace p00 : w1.cell? ⟨w.heap.size, 0, none⟩ = some (.int .i64 al) := hk1 _ _ _ (by simp [go_sem])
  replace p01 : w1.cell? ⟨w.heap.size, 1, none⟩ = some (.int .i64 ah) := hk1 _ _ _ (by simp [go_sem])
  replace p10 : w1.cell? ⟨w.heap.size + 1, 0, none⟩ = some (.int .i64 bl) := hk1 _ _ _ (by simp [go_sem])
  replace p11 : w1.cell? ⟨w.heap.size + 1, 1, none⟩ = some (.int .i64 bh) := hk1 _ _ _ (by simp [go_sem])
  have bp00 : w.heap.size < w1.heap.size := World.block_lt_of_cell? w1 ⟨w.heap.size, 0, none⟩ p00
  have bp10 : w.heap.size + 1 < w1.heap.size := World.block_lt_of_cell? w1 ⟨w.heap.size + 1, 0, none⟩ p10
  clear hk1
  go_wp2_with fail
  refine useK w (k1.out _) (by go_grown) ?_; rintro e w2 rfl hB2 hk2 hs2
  replace p00 : w2.cell? ⟨w.heap.size, 0, none⟩ = some (.int .i64 al) := hk2 _ _ _ (p00)
  replace p01 : w2.cell? ⟨w.heap.size, 1, none⟩ = some (.int .i64 ah) := hk2 _ _ _ (p01)
  replace p10 : w2.cell? ⟨w.heap.size + 1, 0, none⟩ = some (.int .i64 bl) := hk2 _ _ _ (p10)
  replace p11 : w2.cell? ⟨w.heap.size + 1, 1, none⟩ = some (.int .i64 bh) := hk2 _ _ _ (p11)
  have bp00 : w.heap.size < w2.heap.size := World.block_lt_of_cell? w2 ⟨w.heap.size, 0, none⟩ p00
  have bp10 : w.heap.size + 1 < w2.heap.size := World.block_lt_of_cell? w2 ⟨w.heap.size + 1, 0, none⟩ p10
  clear hk2
  go_wp2_with fail
  refine useK w (k2.out _) (by go_grown) ?_; rintro e w3 rfl hB3 hk3 hs3
  replace p00 : w3.cell? ⟨w.heap.size, 0, none⟩ = some (.int .i64 al) := hk3 _ _ _ (p00)
  replace p01 : w3.cell? ⟨w.heap.size, 1, none⟩ = some (.int .i64 ah) := hk3 _ _ _ (p01)
  replace p10 : w3.cell? ⟨w.heap.size + 1, 0, none⟩ = some (.int .i64 bl) := hk3 _ _ _ (p10)
  replace p11 : w3.cell? ⟨w.heap.size + 1, 1, none⟩ = some (.int .i64 bh) := hk3 _ _ _ (p11)
  have bp00 : w.heap.size < w3.heap.size := World.block_lt_of_cell? w3 ⟨w.heap.size, 0, none⟩ p00
  have bp10 : w.heap.size + 1 < w3.heap.size := World.block_lt_of_cell? w3 ⟨w.heap.size + 1, 0, none⟩ p10
  clear hk3
  go_wp2_with fail
  refine useK w (t.out _ (by go_grown)) (by go_grown) ?_; rintro e w4 rfl hB4 hk4 hs4
  replace p00 : w4.cell? ⟨w.heap.size, 0, none⟩ = some (.int .i64 al) := hk4 _ _ _ (p00)
  replace p01 : w4.cell? ⟨w.heap.size, 1, none⟩ = some (.int .i64 ah) := hk4 _ _ _ (p01)
  replace p10 : w4.cell? ⟨w.heap.size + 1, 0, none⟩ = some (.int .i64 bl) := hk4 _ _ _ (p10)
  replace p11 : w4.cell? ⟨w.heap.size + 1, 1, none⟩ = some (.int .i64 bh) := hk4 _ _ _ (p11)
  have bp00 : w.heap.size < w4.heap.size := World.block_lt_of_cell? w4 ⟨w.heap.size, 0, none⟩ p00
  have bp10 : w.heap.size + 1 < w4.heap.size := World.block_lt_of_cell? w4 ⟨w.heap.size + 1, 0, none⟩ p10
  clear hk4
  go_wp2_with fail
  refine useK w (r.out _) (by go_grown) ?_; rintro e w5 rfl hB5 hk5 hs5
  replace p00 : w5.cell? ⟨w.heap.size, 0, none⟩ = some (.int .i64 al) := hk5 _ _ _ (p00)
  replace p01 : w5.cell? ⟨w.heap.size, 1, none⟩ = some (.int .i64 ah) := hk5 _ _ _ (p01)
  replace p10 : w5.cell? ⟨w.heap.size + 1, 0, none⟩ = some (.int .i64 bl) := hk5 _ _ _ (p10)
  replace p11 : w5.cell? ⟨w.heap.size + 1, 1, none⟩ = some (.int .i64 bh) := hk5 _ _ _ (p11)
  have bp00 : w.heap.size < w5.heap.size := World.block_lt_of_cell? w5 ⟨w.heap.size, 0, none⟩ p00
  have bp10 : w.heap.size + 1 < w5.heap.size := World.block_lt_of_cell? w5 ⟨w.heap.size + 1, 0, none⟩ p10
  clear hk5
  go_wp2_with fail
  refine useK w (s.out _) (by go_grown) ?_; rintro e w6 rfl hB6 hk6 hs6
  replace p00 : w6.cell? ⟨w.heap.size, 0, none⟩ = some (.int .i64 al) := hk6 _ _ _ ((keepA _ p00))
  replace p01 : w6.cell? ⟨w.heap.size, 1, none⟩ = some (.int .i64 ah) := hk6 _ _ _ ((keepA _ p01))
  replace p10 : w6.cell? ⟨w.heap.size + 1, 0, none⟩ = some (.int .i64 bl) := hk6 _ _ _ ((keepA _ p10))
  replace p11 : w6.cell? ⟨w.heap.size + 1, 1, none⟩ = some (.int .i64 bh) := hk6 _ _ _ ((keepA _ p11))
  replace l500 : w6.cell? ⟨w5.heap.size, 0, none⟩ = some (.int .i64 al) := hk6 _ _ _ (by simp [go_sem])
  replace l501 : w6.cell? ⟨w5.heap.size, 1, none⟩ = some (.int .i64 al) := hk6 _ _ _ (by simp [go_sem])
  have bp00 : w.heap.size < w6.heap.size := World.block_lt_of_cell? w6 ⟨w.heap.size, 0, none⟩ p00
  have bp10 : w.heap.size + 1 < w6.heap.size := World.block_lt_of_cell? w6 ⟨w.heap.size + 1, 0, none⟩ p10
  have bl500 : w5.heap.size < w6.heap.size := World.block_lt_of_cell? w6 ⟨w5.heap.size, 0, none⟩ l500
  clear hk6
  go_wp2_with fail
  refine useK w (a.out _) (by go_grown) ?_; rintro e w7 rfl hB7 hk7 hs7
  replace p00 : w7.cell? ⟨w.heap.size, 0, none⟩ = some (.int .i64 al) := hk7 _ _ _ ((keepA _ p00))
  replace p01 : w7.cell? ⟨w.heap.size, 1, none⟩ = some (.int .i64 ah) := hk7 _ _ _ ((keepA _ p01))
  replace p10 : w7.cell? ⟨w.heap.size + 1, 0, none⟩ = some (.int .i64 bl) := hk7 _ _ _ ((keepA _ p10))
  replace p11 : w7.cell? ⟨w.heap.size + 1, 1, none⟩ = some (.int .i64 bh) := hk7 _ _ _ ((keepA _ p11))
  replace l500 : w7.cell? ⟨w5.heap.size, 0, none⟩ = some (.int .i64 al) := hk7 _ _ _ ((keepA _ l500))
  replace l501 : w7.cell? ⟨w5.heap.size, 1, none⟩ = some (.int .i64 al) := hk7 _ _ _ ((keepA _ l501))
  replace l600 : w7.cell? ⟨w6.heap.size, 0, none⟩ = some (.int .i64 dl) := hk7 _ _ _ (by simp [go_sem])
  replace l601 : w7.cell? ⟨w6.heap.size, 1, none⟩ = some (.int .i64 dh) := hk7 _ _ _ (by simp [go_sem])
  have bp00 : w.heap.size < w7.heap.size := World.block_lt_of_cell? w7 ⟨w.heap.size, 0, none⟩ p00
  have bp10 : w.heap.size + 1 < w7.heap.size := World.block_lt_of_cell? w7 ⟨w.heap.size + 1, 0, none⟩ p10
  have bl500 : w5.heap.size < w7.heap.size := World.block_lt_of_cell? w7 ⟨w5.heap.size, 0, none⟩ l500
  have bl600 : w6.heap.size < w7.heap.size := World.block_lt_of_cell? w7 ⟨w6.heap.size, 0, none⟩ l600
  clear hk7
  go_wp2_with fail
  refine useK w (wi.out _) (by go_grown) ?_; rintro e w8 rfl hB8 hk8 hs8
  replace p00 : w8.cell? ⟨w.heap.size, 0, none⟩ = some (.int .i64 al) := hk8 _ _ _ ((keepA _ p00))
  replace p01 : w8.cell? ⟨w.heap.size, 1, none⟩ = some (.int .i64 ah) := hk8 _ _ _ ((keepA _ p01))
  replace p10 : w8.cell? ⟨w.heap.size + 1, 0, none⟩ = some (.int .i64 bl) := hk8 _ _ _ ((keepA _ p10))
  replace p11 : w8.cell? ⟨w.heap.size + 1, 1, none⟩ = some (.int .i64 bh) := hk8 _ _ _ ((keepA _ p11))
  replace l500 : w8.cell? ⟨w5.heap.size, 0, none⟩ = some (.int .i64 al) := hk8 _ _ _ ((keepA _ l500))
  replace l501 : w8.cell? ⟨w5.heap.size, 1, none⟩ = some (.int .i64 al) := hk8 _ _ _ ((keepA _ l501))
  replace l600 : w8.cell? ⟨w6.heap.size, 0, none⟩ = some (.int .i64 dl) := hk8 _ _ _ ((keepA _ l600))
  replace l601 : w8.cell? ⟨w6.heap.size, 1, none⟩ = some (.int .i64 dh) := hk8 _ _ _ ((keepA _ l601))
  replace l700 : w8.cell? ⟨w7.heap.size, 0, none⟩ = some (.int .i64 sl) := hk8 _ _ _ (by simp [go_sem])
  replace l701 : w8.cell? ⟨w7.heap.size, 1, none⟩ = some (.int .i64 sh) := hk8 _ _ _ (by simp [go_sem])
  have bp00 : w.heap.size < w8.heap.size := World.block_lt_of_cell? w8 ⟨w.heap.size, 0, none⟩ p00
  have bp10 : w.heap.size + 1 < w8.heap.size := World.block_lt_of_cell? w8 ⟨w.heap.size + 1, 0, none⟩ p10
  have bl500 : w5.heap.size < w8.heap.size := World.block_lt_of_cell? w8 ⟨w5.heap.size, 0, none⟩ l500
  have bl600 : w6.heap.size < w8.heap.size := World.block_lt_of_cell? w8 ⟨w6.heap.size, 0, none⟩ l600
  have bl700 : w7.heap.size < w8.heap.size := World.block_lt_of_cell? w8 ⟨w7.heap.size, 0, none⟩ l700
  clear hk8
  go_wp2_with fail
  refine useK w (d.out _) (by go_grown) ?_; rintro e w9 rfl hB9 hk9 hs9
  replace p00 : w9.cell? ⟨w.heap.size, 0, none⟩ = some (.int .i64 al) := hk9 _ _ _ (p00)
  replace p01 : w9.cell? ⟨w.heap.size, 1, none⟩ = some (.int .i64 ah) := hk9 _ _ _ (p01)
  replace p10 : w9.cell? ⟨w.heap.size + 1, 0, none⟩ = some (.int .i64 bl) := hk9 _ _ _ (p10)
  replace p11 : w9.cell? ⟨w.heap.size + 1, 1, none⟩ = some (.int .i64 bh) := hk9 _ _ _ (p11)
  replace l500 : w9.cell? ⟨w5.heap.size, 0, none⟩ = some (.int .i64 al) := hk9 _ _ _ (l500)
  replace l501 : w9.cell? ⟨w5.heap.size, 1, none⟩ = some (.int .i64 al) := hk9 _ _ _ (l501)
  replace l600 : w9.cell? ⟨w6.heap.size, 0, none⟩ = some (.int .i64 dl) := hk9 _ _ _ (l600)
  replace l601 : w9.cell? ⟨w6.heap.size, 1, none⟩ = some (.int .i64 dh) := hk9 _ _ _ (l601)
  replace l700 : w9.cell? ⟨w7.heap.size, 0, none⟩ = some (.int .i64 sl) := hk9 _ _ _ (l700)
  replace l701 : w9.cell? ⟨w7.heap.size, 1, none⟩ = some (.int .i64 sh) := hk9 _ _ _ (l701)
  have bp00 : w.heap.size < w9.heap.size := World.block_lt_of_cell? w9 ⟨w.heap.size, 0, none⟩ p00
  have bp10 : w.heap.size + 1 < w9.heap.size := World.block_lt_of_cell? w9 ⟨w.heap.size + 1, 0, none⟩ p10
  have bl500 : w5.heap.size < w9.heap.size := World.block_lt_of_cell? w9 ⟨w5.heap.size, 0, none⟩ l500
  have bl600 : w6.heap.size < w9.heap.size := World.block_lt_of_cell? w9 ⟨w6.heap.size, 0, none⟩ l600
  have bl700 : w7.heap.size < w9.heap.size := World.block_lt_of_cell? w9 ⟨w7.heap.size, 0, none⟩ l700
  clear hk9
  go_wp2_with fail
  refine useK w (m.out _) (by go_grown) ?_; rintro e w10 rfl hB10 hk10 hs10
  replace p00 : w10.cell? ⟨w.heap.size, 0, none⟩ = some (.int .i64 al) := hk10 _ _ _ ((keepA _ p00))
  replace p01 : w10.cell? ⟨w.heap.size, 1, none⟩ = some (.int .i64 ah) := hk10 _ _ _ ((keepA _ p01))
  replace p10 : w10.cell? ⟨w.heap.size + 1, 0, none⟩ = some (.int .i64 bl) := hk10 _ _ _ ((keepA _ p10))
  replace p11 : w10.cell? ⟨w.heap.size + 1, 1, none⟩ = some (.int .i64 bh) := hk10 _ _ _ ((keepA _ p11))
  replace l500 : w10.cell? ⟨w5.heap.size, 0, none⟩ = some (.int .i64 al) := hk10 _ _ _ ((keepA _ l500))
  replace l501 : w10.cell? ⟨w5.heap.size, 1, none⟩ = some (.int .i64 al) := hk10 _ _ _ ((keepA _ l501))
  replace l600 : w10.cell? ⟨w6.heap.size, 0, none⟩ = some (.int .i64 dl) := hk10 _ _ _ ((keepA _ l600))
  replace l601 : w10.cell? ⟨w6.heap.size, 1, none⟩ = some (.int .i64 dh) := hk10 _ _ _ ((keepA _ l601))
  replace l700 : w10.cell? ⟨w7.heap.size, 0, none⟩ = some (.int .i64 sl) := hk10 _ _ _ ((keepA _ l700))
  replace l701 : w10.cell? ⟨w7.heap.size, 1, none⟩ = some (.int .i64 sh) := hk10 _ _ _ ((keepA _ l701))
  replace l900 : w10.cell? ⟨w9.heap.size, 0, none⟩ = some (.int .i64 ql) := hk10 _ _ _ (by simp [go_sem])
  replace l901 : w10.cell? ⟨w9.heap.size, 1, none⟩ = some (.int .i64 qh) := hk10 _ _ _ (by simp [go_sem])
  have bp00 : w.heap.size < w10.heap.size := World.block_lt_of_cell? w10 ⟨w.heap.size, 0, none⟩ p00
  have bp10 : w.heap.size + 1 < w10.heap.size := World.block_lt_of_cell? w10 ⟨w.heap.size + 1, 0, none⟩ p10
  have bl500 : w5.heap.size < w10.heap.size := World.block_lt_of_cell? w10 ⟨w5.heap.size, 0, none⟩ l500
  have bl600 : w6.heap.size < w10.heap.size := World.block_lt_of_cell? w10 ⟨w6.heap.size, 0, none⟩ l600
  have bl700 : w7.heap.size < w10.heap.size := World.block_lt_of_cell? w10 ⟨w7.heap.size, 0, none⟩ l700
  have bl900 : w9.heap.size < w10.heap.size := World.block_lt_of_cell? w10 ⟨w9.heap.size, 0, none⟩ l900
  clear hk10
  go_wp2_with fail
  refine useK w (wj.out _) (by go_grown) ?_; rintro e w11 rfl hB11 hk11 hs11
  replace p00 : w11.cell? ⟨w.heap.size, 0, none⟩ = some (.int .i64 al) := hk11 _ _ _ ((keepA _ p00))
  replace p01 : w11.cell? ⟨w.heap.size, 1, none⟩ = some (.int .i64 ah) := hk11 _ _ _ ((keepA _ p01))
  replace p10 : w11.cell? ⟨w.heap.size + 1, 0, none⟩ = some (.int .i64 bl) := hk11 _ _ _ ((keepA _ p10))
  replace p11 : w11.cell? ⟨w.heap.size + 1, 1, none⟩ = some (.int .i64 bh) := hk11 _ _ _ ((keepA _ p11))
  replace l500 : w11.cell? ⟨w5.heap.size, 0, none⟩ = some (.int .i64 al) := hk11 _ _ _ ((keepA _ l500))
  replace l501 : w11.cell? ⟨w5.heap.size, 1, none⟩ = some (.int .i64 al) := hk11 _ _ _ ((keepA _ l501))
  replace l600 : w11.cell? ⟨w6.heap.size, 0, none⟩ = some (.int .i64 dl) := hk11 _ _ _ ((keepA _ l600))
  replace l601 : w11.cell? ⟨w6.heap.size, 1, none⟩ = some (.int .i64 dh) := hk11 _ _ _ ((keepA _ l601))
  replace l700 : w11.cell? ⟨w7.heap.size, 0, none⟩ = some (.int .i64 sl) := hk11 _ _ _ ((keepA _ l700))
  replace l701 : w11.cell? ⟨w7.heap.size, 1, none⟩ = some (.int .i64 sh) := hk11 _ _ _ ((keepA _ l701))
  replace l900 : w11.cell? ⟨w9.heap.size, 0, none⟩ = some (.int .i64 ql) := hk11 _ _ _ ((keepA _ l900))
  replace l901 : w11.cell? ⟨w9.heap.size, 1, none⟩ = some (.int .i64 qh) := hk11 _ _ _ ((keepA _ l901))
  replace l1000 : w11.cell? ⟨w10.heap.size, 0, none⟩ = some (.int .i64 ml) := hk11 _ _ _ (by simp [go_sem])
  replace l1001 : w11.cell? ⟨w10.heap.size, 1, none⟩ = some (.int .i64 mh) := hk11 _ _ _ (by simp [go_sem])
  have bp00 : w.heap.size < w11.heap.size := World.block_lt_of_cell? w11 ⟨w.heap.size, 0, none⟩ p00
  have bp10 : w.heap.size + 1 < w11.heap.size := World.block_lt_of_cell? w11 ⟨w.heap.size + 1, 0, none⟩ p10
  have bl500 : w5.heap.size < w11.heap.size := World.block_lt_of_cell? w11 ⟨w5.heap.size, 0, none⟩ l500
  have bl600 : w6.heap.size < w11.heap.size := World.block_lt_of_cell? w11 ⟨w6.heap.size, 0, none⟩ l600
  have bl700 : w7.heap.size < w11.heap.size := World.block_lt_of_cell? w11 ⟨w7.heap.size, 0, none⟩ l700
  have bl900 : w9.heap.size < w11.heap.size := World.block_lt_of_cell? w11 ⟨w9.heap.size, 0, none⟩ l900
  have bl1000 : w10.heap.size < w11.heap.size := World.block_lt_of_cell? w11 ⟨w10.heap.size, 0, none⟩ l1000
  clear hk11
  go_wp2_with fail
  go_ret
  exact ⟨rfl, by go_grown⟩
theorem back_00_0x (al ah bl bh sl sh dl dh ql qh ml mh i : Int) (T : List UInt8) (w : World) (zi : i ≠ 0)
    (k1 : Hid (∀ w : World, Calls Tryd.prog 31 #[.agg #[.int .i64 al, .int .i64 ah]] w fun e w' => e = .returned (.int .i64 0) ∧ Below w.heap.size w w'))
    (k2 : Hid (∀ w : World, Calls Tryd.prog 31 #[.agg #[.int .i64 bl, .int .i64 bh]] w fun e w' => e = .returned (.int .i64 0) ∧ Below w.heap.size w w'))
    (t : Hid (∀ W : World, Below w.heap.size w W → Calls Tryd.prog 14 #[.int .i64 al] W fun e w' => e = .returned (.string ⟨T.toArray⟩) ∧ Below W.heap.size W w'))
    (r : Hid (∀ w : World, Calls Tryd.prog 12 #[.string ⟨T.toArray⟩] w fun e w' => e = .returned (.tuple #[.agg #[.int .i64 al, .int .i64 al], .int .i64 0]) ∧ Below w.heap.size w w'))
    (s : Hid (∀ w : World, Calls Tryd.prog 33 #[.agg #[.int .i64 al, .int .i64 ah], .agg #[.int .i64 bl, .int .i64 bh]] w fun e w' => e = .returned (.tuple #[.agg #[.int .i64 dl, .int .i64 dh], .int .i64 0]) ∧ Below w.heap.size w w'))
    (a : Hid (∀ w : World, Calls Tryd.prog 28 #[.agg #[.int .i64 dl, .int .i64 dh], .agg #[.int .i64 bl, .int .i64 bh]] w fun e w' => e = .returned (.tuple #[.agg #[.int .i64 sl, .int .i64 sh], .int .i64 0]) ∧ Below w.heap.size w w'))
    (d : Hid (∀ w : World, Calls Tryd.prog 19 #[.agg #[.int .i64 al, .int .i64 ah], .agg #[.int .i64 bl, .int .i64 bh]] w fun e w' => e = .returned (.tuple #[.agg #[.int .i64 ql, .int .i64 qh], .int .i64 0]) ∧ Below w.heap.size w w'))
    (m : Hid (∀ w : World, Calls Tryd.prog 34 #[.agg #[.int .i64 ql, .int .i64 qh], .agg #[.int .i64 bl, .int .i64 bh]] w fun e w' => e = .returned (.tuple #[.agg #[.int .i64 ml, .int .i64 mh], .int .i64 i]) ∧ Below w.heap.size w w'))
    (wi : Hid (∀ w : World, Calls Tryd.prog 48 #[.agg #[.int .i64 al, .int .i64 ah], .agg #[.int .i64 sl, .int .i64 sh]] w fun e w' => e = .returned (.bool true) ∧ Below w.heap.size w w'))
    : Calls Tryd.prog 8 #[.agg #[.int .i64 al, .int .i64 ah], .agg #[.int .i64 bl, .int .i64 bh]] w fun e w' => e = .returned (.bool true) ∧ Below w.heap.size w w' := by
  have zi1 : (i != 0) = true := by simpa using zi
  clear zi
  go_enter Tryd.func8, Tryd.ntmps8
  go_wp2_with fail
  refine useK w (alive_any _) (by go_grown) ?_; rintro e w1 rfl hB1 hk1 hs1
  replace p00 : w1.cell? ⟨w.heap.size, 0, none⟩ = some (.int .i64 al) := hk1 _ _ _ (by simp [go_sem])
  replace p01 : w1.cell? ⟨w.heap.size, 1, none⟩ = some (.int .i64 ah) := hk1 _ _ _ (by simp [go_sem])
  replace p10 : w1.cell? ⟨w.heap.size + 1, 0, none⟩ = some (.int .i64 bl) := hk1 _ _ _ (by simp [go_sem])
  replace p11 : w1.cell? ⟨w.heap.size + 1, 1, none⟩ = some (.int .i64 bh) := hk1 _ _ _ (by simp [go_sem])
  have bp00 : w.heap.size < w1.heap.size := World.block_lt_of_cell? w1 ⟨w.heap.size, 0, none⟩ p00
  have bp10 : w.heap.size + 1 < w1.heap.size := World.block_lt_of_cell? w1 ⟨w.heap.size + 1, 0, none⟩ p10
  clear hk1
  go_wp2_with fail
  refine useK w (k1.out _) (by go_grown) ?_; rintro e w2 rfl hB2 hk2 hs2
  replace p00 : w2.cell? ⟨w.heap.size, 0, none⟩ = some (.int .i64 al) := hk2 _ _ _ (p00)
  replace p01 : w2.cell? ⟨w.heap.size, 1, none⟩ = some (.int .i64 ah) := hk2 _ _ _ (p01)
  replace p10 : w2.cell? ⟨w.heap.size + 1, 0, none⟩ = some (.int .i64 bl) := hk2 _ _ _ (p10)
  replace p11 : w2.cell? ⟨w.heap.size + 1, 1, none⟩ = some (.int .i64 bh) := hk2 _ _ _ (p11)
  have bp00 : w.heap.size < w2.heap.size := World.block_lt_of_cell? w2 ⟨w.heap.size, 0, none⟩ p00
  have bp10 : w.heap.size + 1 < w2.heap.size := World.block_lt_of_cell? w2 ⟨w.heap.size + 1, 0, none⟩ p10
  clear hk2
  go_wp2_with fail
  refine useK w (k2.out _) (by go_grown) ?_; rintro e w3 rfl hB3 hk3 hs3
  replace p00 : w3.cell? ⟨w.heap.size, 0, none⟩ = some (.int .i64 al) := hk3 _ _ _ (p00)
  replace p01 : w3.cell? ⟨w.heap.size, 1, none⟩ = some (.int .i64 ah) := hk3 _ _ _ (p01)
  replace p10 : w3.cell? ⟨w.heap.size + 1, 0, none⟩ = some (.int .i64 bl) := hk3 _ _ _ (p10)
  replace p11 : w3.cell? ⟨w.heap.size + 1, 1, none⟩ = some (.int .i64 bh) := hk3 _ _ _ (p11)
  have bp00 : w.heap.size < w3.heap.size := World.block_lt_of_cell? w3 ⟨w.heap.size, 0, none⟩ p00
  have bp10 : w.heap.size + 1 < w3.heap.size := World.block_lt_of_cell? w3 ⟨w.heap.size + 1, 0, none⟩ p10
  clear hk3
  go_wp2_with fail
  refine useK w (t.out _ (by go_grown)) (by go_grown) ?_; rintro e w4 rfl hB4 hk4 hs4
  replace p00 : w4.cell? ⟨w.heap.size, 0, none⟩ = some (.int .i64 al) := hk4 _ _ _ (p00)
  replace p01 : w4.cell? ⟨w.heap.size, 1, none⟩ = some (.int .i64 ah) := hk4 _ _ _ (p01)
  replace p10 : w4.cell? ⟨w.heap.size + 1, 0, none⟩ = some (.int .i64 bl) := hk4 _ _ _ (p10)
  replace p11 : w4.cell? ⟨w.heap.size + 1, 1, none⟩ = some (.int .i64 bh) := hk4 _ _ _ (p11)
  have bp00 : w.heap.size < w4.heap.size := World.block_lt_of_cell? w4 ⟨w.heap.size, 0, none⟩ p00
  have bp10 : w.heap.size + 1 < w4.heap.size := World.block_lt_of_cell? w4 ⟨w.heap.size + 1, 0, none⟩ p10
  clear hk4
  go_wp2_with fail
  refine useK w (r.out _) (by go_grown) ?_; rintro e w5 rfl hB5 hk5 hs5
  replace p00 : w5.cell? ⟨w.heap.size, 0, none⟩ = some (.int .i64 al) := hk5 _ _ _ (p00)
  replace p01 : w5.cell? ⟨w.heap.size, 1, none⟩ = some (.int .i64 ah) := hk5 _ _ _ (p01)
  replace p10 : w5.cell? ⟨w.heap.size + 1, 0, none⟩ = some (.int .i64 bl) := hk5 _ _ _ (p10)
  replace p11 : w5.cell? ⟨w.heap.size + 1, 1, none⟩ = some (.int .i64 bh) := hk5 _ _ _ (p11)
  have bp00 : w.heap.size < w5.heap.size := World.block_lt_of_cell? w5 ⟨w.heap.size, 0, none⟩ p00
  have bp10 : w.heap.size + 1 < w5.heap.size := World.block_lt_of_cell? w5 ⟨w.heap.size + 1, 0, none⟩ p10
  clear hk5
  go_wp2_with fail
  refine useK w (s.out _) (by go_grown) ?_; rintro e w6 rfl hB6 hk6 hs6
  replace p00 : w6.cell? ⟨w.heap.size, 0, none⟩ = some (.int .i64 al) := hk6 _ _ _ ((keepA _ p00))
  replace p01 : w6.cell? ⟨w.heap.size, 1, none⟩ = some (.int .i64 ah) := hk6 _ _ _ ((keepA _ p01))
  replace p10 : w6.cell? ⟨w.heap.size + 1, 0, none⟩ = some (.int .i64 bl) := hk6 _ _ _ ((keepA _ p10))
  replace p11 : w6.cell? ⟨w.heap.size + 1, 1, none⟩ = some (.int .i64 bh) := hk6 _ _ _ ((keepA _ p11))
  replace l500 : w6.cell? ⟨w5.heap.size, 0, none⟩ = some (.int .i64 al) := hk6 _ _ _ (by simp [go_sem])
  replace l501 : w6.cell? ⟨w5.heap.size, 1, none⟩ = some (.int .i64 al) := hk6 _ _ _ (by simp [go_sem])
  have bp00 : w.heap.size < w6.heap.size := World.block_lt_of_cell? w6 ⟨w.heap.size, 0, none⟩ p00
  have bp10 : w.heap.size + 1 < w6.heap.size := World.block_lt_of_cell? w6 ⟨w.heap.size + 1, 0, none⟩ p10
  have bl500 : w5.heap.size < w6.heap.size := World.block_lt_of_cell? w6 ⟨w5.heap.size, 0, none⟩ l500
  clear hk6
  go_wp2_with fail
  refine useK w (a.out _) (by go_grown) ?_; rintro e w7 rfl hB7 hk7 hs7
  replace p00 : w7.cell? ⟨w.heap.size, 0, none⟩ = some (.int .i64 al) := hk7 _ _ _ ((keepA _ p00))
  replace p01 : w7.cell? ⟨w.heap.size, 1, none⟩ = some (.int .i64 ah) := hk7 _ _ _ ((keepA _ p01))
  replace p10 : w7.cell? ⟨w.heap.size + 1, 0, none⟩ = some (.int .i64 bl) := hk7 _ _ _ ((keepA _ p10))
  replace p11 : w7.cell? ⟨w.heap.size + 1, 1, none⟩ = some (.int .i64 bh) := hk7 _ _ _ ((keepA _ p11))
  replace l500 : w7.cell? ⟨w5.heap.size, 0, none⟩ = some (.int .i64 al) := hk7 _ _ _ ((keepA _ l500))
  replace l501 : w7.cell? ⟨w5.heap.size, 1, none⟩ = some (.int .i64 al) := hk7 _ _ _ ((keepA _ l501))
  replace l600 : w7.cell? ⟨w6.heap.size, 0, none⟩ = some (.int .i64 dl) := hk7 _ _ _ (by simp [go_sem])
  replace l601 : w7.cell? ⟨w6.heap.size, 1, none⟩ = some (.int .i64 dh) := hk7 _ _ _ (by simp [go_sem])
  have bp00 : w.heap.size < w7.heap.size := World.block_lt_of_cell? w7 ⟨w.heap.size, 0, none⟩ p00
  have bp10 : w.heap.size + 1 < w7.heap.size := World.block_lt_of_cell? w7 ⟨w.heap.size + 1, 0, none⟩ p10
  have bl500 : w5.heap.size < w7.heap.size := World.block_lt_of_cell? w7 ⟨w5.heap.size, 0, none⟩ l500
  have bl600 : w6.heap.size < w7.heap.size := World.block_lt_of_cell? w7 ⟨w6.heap.size, 0, none⟩ l600
  clear hk7
  go_wp2_with fail
  refine useK w (wi.out _) (by go_grown) ?_; rintro e w8 rfl hB8 hk8 hs8
  replace p00 : w8.cell? ⟨w.heap.size, 0, none⟩ = some (.int .i64 al) := hk8 _ _ _ ((keepA _ p00))
  replace p01 : w8.cell? ⟨w.heap.size, 1, none⟩ = some (.int .i64 ah) := hk8 _ _ _ ((keepA _ p01))
  replace p10 : w8.cell? ⟨w.heap.size + 1, 0, none⟩ = some (.int .i64 bl) := hk8 _ _ _ ((keepA _ p10))
  replace p11 : w8.cell? ⟨w.heap.size + 1, 1, none⟩ = some (.int .i64 bh) := hk8 _ _ _ ((keepA _ p11))
  replace l500 : w8.cell? ⟨w5.heap.size, 0, none⟩ = some (.int .i64 al) := hk8 _ _ _ ((keepA _ l500))
  replace l501 : w8.cell? ⟨w5.heap.size, 1, none⟩ = some (.int .i64 al) := hk8 _ _ _ ((keepA _ l501))
  replace l600 : w8.cell? ⟨w6.heap.size, 0, none⟩ = some (.int .i64 dl) := hk8 _ _ _ ((keepA _ l600))
  replace l601 : w8.cell? ⟨w6.heap.size, 1, none⟩ = some (.int .i64 dh) := hk8 _ _ _ ((keepA _ l601))
  replace l700 : w8.cell? ⟨w7.heap.size, 0, none⟩ = some (.int .i64 sl) := hk8 _ _ _ (by simp [go_sem])
  replace l701 : w8.cell? ⟨w7.heap.size, 1, none⟩ = some (.int .i64 sh) := hk8 _ _ _ (by simp [go_sem])
  have bp00 : w.heap.size < w8.heap.size := World.block_lt_of_cell? w8 ⟨w.heap.size, 0, none⟩ p00
  have bp10 : w.heap.size + 1 < w8.heap.size := World.block_lt_of_cell? w8 ⟨w.heap.size + 1, 0, none⟩ p10
  have bl500 : w5.heap.size < w8.heap.size := World.block_lt_of_cell? w8 ⟨w5.heap.size, 0, none⟩ l500
  have bl600 : w6.heap.size < w8.heap.size := World.block_lt_of_cell? w8 ⟨w6.heap.size, 0, none⟩ l600
  have bl700 : w7.heap.size < w8.heap.size := World.block_lt_of_cell? w8 ⟨w7.heap.size, 0, none⟩ l700
  clear hk8
  go_wp2_with fail
  refine useK w (d.out _) (by go_grown) ?_; rintro e w9 rfl hB9 hk9 hs9
  replace p00 : w9.cell? ⟨w.heap.size, 0, none⟩ = some (.int .i64 al) := hk9 _ _ _ (p00)
  replace p01 : w9.cell? ⟨w.heap.size, 1, none⟩ = some (.int .i64 ah) := hk9 _ _ _ (p01)
  replace p10 : w9.cell? ⟨w.heap.size + 1, 0, none⟩ = some (.int .i64 bl) := hk9 _ _ _ (p10)
  replace p11 : w9.cell? ⟨w.heap.size + 1, 1, none⟩ = some (.int .i64 bh) := hk9 _ _ _ (p11)
  replace l500 : w9.cell? ⟨w5.heap.size, 0, none⟩ = some (.int .i64 al) := hk9 _ _ _ (l500)
  replace l501 : w9.cell? ⟨w5.heap.size, 1, none⟩ = some (.int .i64 al) := hk9 _ _ _ (l501)
  replace l600 : w9.cell? ⟨w6.heap.size, 0, none⟩ = some (.int .i64 dl) := hk9 _ _ _ (l600)
  replace l601 : w9.cell? ⟨w6.heap.size, 1, none⟩ = some (.int .i64 dh) := hk9 _ _ _ (l601)
  replace l700 : w9.cell? ⟨w7.heap.size, 0, none⟩ = some (.int .i64 sl) := hk9 _ _ _ (l700)
  replace l701 : w9.cell? ⟨w7.heap.size, 1, none⟩ = some (.int .i64 sh) := hk9 _ _ _ (l701)
  have bp00 : w.heap.size < w9.heap.size := World.block_lt_of_cell? w9 ⟨w.heap.size, 0, none⟩ p00
  have bp10 : w.heap.size + 1 < w9.heap.size := World.block_lt_of_cell? w9 ⟨w.heap.size + 1, 0, none⟩ p10
  have bl500 : w5.heap.size < w9.heap.size := World.block_lt_of_cell? w9 ⟨w5.heap.size, 0, none⟩ l500
  have bl600 : w6.heap.size < w9.heap.size := World.block_lt_of_cell? w9 ⟨w6.heap.size, 0, none⟩ l600
  have bl700 : w7.heap.size < w9.heap.size := World.block_lt_of_cell? w9 ⟨w7.heap.size, 0, none⟩ l700
  clear hk9
  go_wp2_with fail
  refine useK w (m.out _) (by go_grown) ?_; rintro e w10 rfl hB10 hk10 hs10
  replace p00 : w10.cell? ⟨w.heap.size, 0, none⟩ = some (.int .i64 al) := hk10 _ _ _ ((keepA _ p00))
  replace p01 : w10.cell? ⟨w.heap.size, 1, none⟩ = some (.int .i64 ah) := hk10 _ _ _ ((keepA _ p01))
  replace p10 : w10.cell? ⟨w.heap.size + 1, 0, none⟩ = some (.int .i64 bl) := hk10 _ _ _ ((keepA _ p10))
  replace p11 : w10.cell? ⟨w.heap.size + 1, 1, none⟩ = some (.int .i64 bh) := hk10 _ _ _ ((keepA _ p11))
  replace l500 : w10.cell? ⟨w5.heap.size, 0, none⟩ = some (.int .i64 al) := hk10 _ _ _ ((keepA _ l500))
  replace l501 : w10.cell? ⟨w5.heap.size, 1, none⟩ = some (.int .i64 al) := hk10 _ _ _ ((keepA _ l501))
  replace l600 : w10.cell? ⟨w6.heap.size, 0, none⟩ = some (.int .i64 dl) := hk10 _ _ _ ((keepA _ l600))
  replace l601 : w10.cell? ⟨w6.heap.size, 1, none⟩ = some (.int .i64 dh) := hk10 _ _ _ ((keepA _ l601))
  replace l700 : w10.cell? ⟨w7.heap.size, 0, none⟩ = some (.int .i64 sl) := hk10 _ _ _ ((keepA _ l700))
  replace l701 : w10.cell? ⟨w7.heap.size, 1, none⟩ = some (.int .i64 sh) := hk10 _ _ _ ((keepA _ l701))
  replace l900 : w10.cell? ⟨w9.heap.size, 0, none⟩ = some (.int .i64 ql) := hk10 _ _ _ (by simp [go_sem])
  replace l901 : w10.cell? ⟨w9.heap.size, 1, none⟩ = some (.int .i64 qh) := hk10 _ _ _ (by simp [go_sem])
  have bp00 : w.heap.size < w10.heap.size := World.block_lt_of_cell? w10 ⟨w.heap.size, 0, none⟩ p00
  have bp10 : w.heap.size + 1 < w10.heap.size := World.block_lt_of_cell? w10 ⟨w.heap.size + 1, 0, none⟩ p10
  have bl500 : w5.heap.size < w10.heap.size := World.block_lt_of_cell? w10 ⟨w5.heap.size, 0, none⟩ l500
  have bl600 : w6.heap.size < w10.heap.size := World.block_lt_of_cell? w10 ⟨w6.heap.size, 0, none⟩ l600
  have bl700 : w7.heap.size < w10.heap.size := World.block_lt_of_cell? w10 ⟨w7.heap.size, 0, none⟩ l700
  have bl900 : w9.heap.size < w10.heap.size := World.block_lt_of_cell? w10 ⟨w9.heap.size, 0, none⟩ l900
  clear hk10
  go_wp2_with fail
  go_ret
  exact ⟨rfl, by go_grown⟩
theorem back_00_x (al ah bl bh sl sh dl dh ql qh ml mh h i : Int) (T : List UInt8) (w : World) (zh : h ≠ 0)
    (k1 : Hid (∀ w : World, Calls Tryd.prog 31 #[.agg #[.int .i64 al, .int .i64 ah]] w fun e w' => e = .returned (.int .i64 0) ∧ Below w.heap.size w w'))
    (k2 : Hid (∀ w : World, Calls Tryd.prog 31 #[.agg #[.int .i64 bl, .int .i64 bh]] w fun e w' => e = .returned (.int .i64 0) ∧ Below w.heap.size w w'))
    (t : Hid (∀ W : World, Below w.heap.size w W → Calls Tryd.prog 14 #[.int .i64 al] W fun e w' => e = .returned (.string ⟨T.toArray⟩) ∧ Below W.heap.size W w'))
    (r : Hid (∀ w : World, Calls Tryd.prog 12 #[.string ⟨T.toArray⟩] w fun e w' => e = .returned (.tuple #[.agg #[.int .i64 al, .int .i64 al], .int .i64 0]) ∧ Below w.heap.size w w'))
    (s : Hid (∀ w : World, Calls Tryd.prog 33 #[.agg #[.int .i64 al, .int .i64 ah], .agg #[.int .i64 bl, .int .i64 bh]] w fun e w' => e = .returned (.tuple #[.agg #[.int .i64 dl, .int .i64 dh], .int .i64 0]) ∧ Below w.heap.size w w'))
    (a : Hid (∀ w : World, Calls Tryd.prog 28 #[.agg #[.int .i64 dl, .int .i64 dh], .agg #[.int .i64 bl, .int .i64 bh]] w fun e w' => e = .returned (.tuple #[.agg #[.int .i64 sl, .int .i64 sh], .int .i64 0]) ∧ Below w.heap.size w w'))
    (d : Hid (∀ w : World, Calls Tryd.prog 19 #[.agg #[.int .i64 al, .int .i64 ah], .agg #[.int .i64 bl, .int .i64 bh]] w fun e w' => e = .returned (.tuple #[.agg #[.int .i64 ql, .int .i64 qh], .int .i64 h]) ∧ Below w.heap.size w w'))
    (m : Hid (∀ w : World, Calls Tryd.prog 34 #[.agg #[.int .i64 ql, .int .i64 qh], .agg #[.int .i64 bl, .int .i64 bh]] w fun e w' => e = .returned (.tuple #[.agg #[.int .i64 ml, .int .i64 mh], .int .i64 i]) ∧ Below w.heap.size w w'))
    (wi : Hid (∀ w : World, Calls Tryd.prog 48 #[.agg #[.int .i64 al, .int .i64 ah], .agg #[.int .i64 sl, .int .i64 sh]] w fun e w' => e = .returned (.bool true) ∧ Below w.heap.size w w'))
    : Calls Tryd.prog 8 #[.agg #[.int .i64 al, .int .i64 ah], .agg #[.int .i64 bl, .int .i64 bh]] w fun e w' => e = .returned (.bool true) ∧ Below w.heap.size w w' := by
  have zh1 : (h != 0) = true := by simpa using zh
  clear zh
  go_enter Tryd.func8, Tryd.ntmps8
  go_wp2_with fail
  refine useK w (alive_any _) (by go_grown) ?_; rintro e w1 rfl hB1 hk1 hs1
  replace p00 : w1.cell? ⟨w.heap.size, 0, none⟩ = some (.int .i64 al) := hk1 _ _ _ (by simp [go_sem])
  replace p01 : w1.cell? ⟨w.heap.size, 1, none⟩ = some (.int .i64 ah) := hk1 _ _ _ (by simp [go_sem])
  replace p10 : w1.cell? ⟨w.heap.size + 1, 0, none⟩ = some (.int .i64 bl) := hk1 _ _ _ (by simp [go_sem])
  replace p11 : w1.cell? ⟨w.heap.size + 1, 1, none⟩ = some (.int .i64 bh) := hk1 _ _ _ (by simp [go_sem])
  have bp00 : w.heap.size < w1.heap.size := World.block_lt_of_cell? w1 ⟨w.heap.size, 0, none⟩ p00
  have bp10 : w.heap.size + 1 < w1.heap.size := World.block_lt_of_cell? w1 ⟨w.heap.size + 1, 0, none⟩ p10
  clear hk1
  go_wp2_with fail
  refine useK w (k1.out _) (by go_grown) ?_; rintro e w2 rfl hB2 hk2 hs2
  replace p00 : w2.cell? ⟨w.heap.size, 0, none⟩ = some (.int .i64 al) := hk2 _ _ _ (p00)
  replace p01 : w2.cell? ⟨w.heap.size, 1, none⟩ = some (.int .i64 ah) := hk2 _ _ _ (p01)
  replace p10 : w2.cell? ⟨w.heap.size + 1, 0, none⟩ = some (.int .i64 bl) := hk2 _ _ _ (p10)
  replace p11 : w2.cell? ⟨w.heap.size + 1, 1, none⟩ = some (.int .i64 bh) := hk2 _ _ _ (p11)
  have bp00 : w.heap.size < w2.heap.size := World.block_lt_of_cell? w2 ⟨w.heap.size, 0, none⟩ p00
  have bp10 : w.heap.size + 1 < w2.heap.size := World.block_lt_of_cell? w2 ⟨w.heap.size + 1, 0, none⟩ p10
  clear hk2
  go_wp2_with fail
  refine useK w (k2.out _) (by go_grown) ?_; rintro e w3 rfl hB3 hk3 hs3
  replace p00 : w3.cell? ⟨w.heap.size, 0, none⟩ = some (.int .i64 al) := hk3 _ _ _ (p00)
  replace p01 : w3.cell? ⟨w.heap.size, 1, none⟩ = some (.int .i64 ah) := hk3 _ _ _ (p01)
  replace p10 : w3.cell? ⟨w.heap.size + 1, 0, none⟩ = some (.int .i64 bl) := hk3 _ _ _ (p10)
  replace p11 : w3.cell? ⟨w.heap.size + 1, 1, none⟩ = some (.int .i64 bh) := hk3 _ _ _ (p11)
  have bp00 : w.heap.size < w3.heap.size := World.block_lt_of_cell? w3 ⟨w.heap.size, 0, none⟩ p00
  have bp10 : w.heap.size + 1 < w3.heap.size := World.block_lt_of_cell? w3 ⟨w.heap.size + 1, 0, none⟩ p10
  clear hk3
  go_wp2_with fail
  refine useK w (t.out _ (by go_grown)) (by go_grown) ?_; rintro e w4 rfl hB4 hk4 hs4
  replace p00 : w4.cell? ⟨w.heap.size, 0, none⟩ = some (.int .i64 al) := hk4 _ _ _ (p00)
  replace p01 : w4.cell? ⟨w.heap.size, 1, none⟩ = some (.int .i64 ah) := hk4 _ _ _ (p01)
  replace p10 : w4.cell? ⟨w.heap.size + 1, 0, none⟩ = some (.int .i64 bl) := hk4 _ _ _ (p10)
  replace p11 : w4.cell? ⟨w.heap.size + 1, 1, none⟩ = some (.int .i64 bh) := hk4 _ _ _ (p11)
  have bp00 : w.heap.size < w4.heap.size := World.block_lt_of_cell? w4 ⟨w.heap.size, 0, none⟩ p00
  have bp10 : w.heap.size + 1 < w4.heap.size := World.block_lt_of_cell? w4 ⟨w.heap.size + 1, 0, none⟩ p10
  clear hk4
  go_wp2_with fail
  refine useK w (r.out _) (by go_grown) ?_; rintro e w5 rfl hB5 hk5 hs5
  replace p00 : w5.cell? ⟨w.heap.size, 0, none⟩ = some (.int .i64 al) := hk5 _ _ _ (p00)
  replace p01 : w5.cell? ⟨w.heap.size, 1, none⟩ = some (.int .i64 ah) := hk5 _ _ _ (p01)
  replace p10 : w5.cell? ⟨w.heap.size + 1, 0, none⟩ = some (.int .i64 bl) := hk5 _ _ _ (p10)
  replace p11 : w5.cell? ⟨w.heap.size + 1, 1, none⟩ = some (.int .i64 bh) := hk5 _ _ _ (p11)
  have bp00 : w.heap.size < w5.heap.size := World.block_lt_of_cell? w5 ⟨w.heap.size, 0, none⟩ p00
  have bp10 : w.heap.size + 1 < w5.heap.size := World.block_lt_of_cell? w5 ⟨w.heap.size + 1, 0, none⟩ p10
  clear hk5
  go_wp2_with fail
  refine useK w (s.out _) (by go_grown) ?_; rintro e w6 rfl hB6 hk6 hs6
  replace p00 : w6.cell? ⟨w.heap.size, 0, none⟩ = some (.int .i64 al) := hk6 _ _ _ ((keepA _ p00))
  replace p01 : w6.cell? ⟨w.heap.size, 1, none⟩ = some (.int .i64 ah) := hk6 _ _ _ ((keepA _ p01))
  replace p10 : w6.cell? ⟨w.heap.size + 1, 0, none⟩ = some (.int .i64 bl) := hk6 _ _ _ ((keepA _ p10))
  replace p11 : w6.cell? ⟨w.heap.size + 1, 1, none⟩ = some (.int .i64 bh) := hk6 _ _ _ ((keepA _ p11))
  replace l500 : w6.cell? ⟨w5.heap.size, 0, none⟩ = some (.int .i64 al) := hk6 _ _ _ (by simp [go_sem])
  replace l501 : w6.cell? ⟨w5.heap.size, 1, none⟩ = some (.int .i64 al) := hk6 _ _ _ (by simp [go_sem])
  have bp00 : w.heap.size < w6.heap.size := World.block_lt_of_cell? w6 ⟨w.heap.size, 0, none⟩ p00
  have bp10 : w.heap.size + 1 < w6.heap.size := World.block_lt_of_cell? w6 ⟨w.heap.size + 1, 0, none⟩ p10
  have bl500 : w5.heap.size < w6.heap.size := World.block_lt_of_cell? w6 ⟨w5.heap.size, 0, none⟩ l500
  clear hk6
  go_wp2_with fail
  refine useK w (a.out _) (by go_grown) ?_; rintro e w7 rfl hB7 hk7 hs7
  replace p00 : w7.cell? ⟨w.heap.size, 0, none⟩ = some (.int .i64 al) := hk7 _ _ _ ((keepA _ p00))
  replace p01 : w7.cell? ⟨w.heap.size, 1, none⟩ = some (.int .i64 ah) := hk7 _ _ _ ((keepA _ p01))
  replace p10 : w7.cell? ⟨w.heap.size + 1, 0, none⟩ = some (.int .i64 bl) := hk7 _ _ _ ((keepA _ p10))
  replace p11 : w7.cell? ⟨w.heap.size + 1, 1, none⟩ = some (.int .i64 bh) := hk7 _ _ _ ((keepA _ p11))
  replace l500 : w7.cell? ⟨w5.heap.size, 0, none⟩ = some (.int .i64 al) := hk7 _ _ _ ((keepA _ l500))
  replace l501 : w7.cell? ⟨w5.heap.size, 1, none⟩ = some (.int .i64 al) := hk7 _ _ _ ((keepA _ l501))
  replace l600 : w7.cell? ⟨w6.heap.size, 0, none⟩ = some (.int .i64 dl) := hk7 _ _ _ (by simp [go_sem])
  replace l601 : w7.cell? ⟨w6.heap.size, 1, none⟩ = some (.int .i64 dh) := hk7 _ _ _ (by simp [go_sem])
  have bp00 : w.heap.size < w7.heap.size := World.block_lt_of_cell? w7 ⟨w.heap.size, 0, none⟩ p00
  have bp10 : w.heap.size + 1 < w7.heap.size := World.block_lt_of_cell? w7 ⟨w.heap.size + 1, 0, none⟩ p10
  have bl500 : w5.heap.size < w7.heap.size := World.block_lt_of_cell? w7 ⟨w5.heap.size, 0, none⟩ l500
  have bl600 : w6.heap.size < w7.heap.size := World.block_lt_of_cell? w7 ⟨w6.heap.size, 0, none⟩ l600
  clear hk7
  go_wp2_with fail
  refine useK w (wi.out _) (by go_grown) ?_; rintro e w8 rfl hB8 hk8 hs8
  replace p00 : w8.cell? ⟨w.heap.size, 0, none⟩ = some (.int .i64 al) := hk8 _ _ _ ((keepA _ p00))
  replace p01 : w8.cell? ⟨w.heap.size, 1, none⟩ = some (.int .i64 ah) := hk8 _ _ _ ((keepA _ p01))
  replace p10 : w8.cell? ⟨w.heap.size + 1, 0, none⟩ = some (.int .i64 bl) := hk8 _ _ _ ((keepA _ p10))
  replace p11 : w8.cell? ⟨w.heap.size + 1, 1, none⟩ = some (.int .i64 bh) := hk8 _ _ _ ((keepA _ p11))
  replace l500 : w8.cell? ⟨w5.heap.size, 0, none⟩ = some (.int .i64 al) := hk8 _ _ _ ((keepA _ l500))
  replace l501 : w8.cell? ⟨w5.heap.size, 1, none⟩ = some (.int .i64 al) := hk8 _ _ _ ((keepA _ l501))
  replace l600 : w8.cell? ⟨w6.heap.size, 0, none⟩ = some (.int .i64 dl) := hk8 _ _ _ ((keepA _ l600))
  replace l601 : w8.cell? ⟨w6.heap.size, 1, none⟩ = some (.int .i64 dh) := hk8 _ _ _ ((keepA _ l601))
  replace l700 : w8.cell? ⟨w7.heap.size, 0, none⟩ = some (.int .i64 sl) := hk8 _ _ _ (by simp [go_sem])
  replace l701 : w8.cell? ⟨w7.heap.size, 1, none⟩ = some (.int .i64 sh) := hk8 _ _ _ (by simp [go_sem])
  have bp00 : w.heap.size < w8.heap.size := World.block_lt_of_cell? w8 ⟨w.heap.size, 0, none⟩ p00
  have bp10 : w.heap.size + 1 < w8.heap.size := World.block_lt_of_cell? w8 ⟨w.heap.size + 1, 0, none⟩ p10
  have bl500 : w5.heap.size < w8.heap.size := World.block_lt_of_cell? w8 ⟨w5.heap.size, 0, none⟩ l500
  have bl600 : w6.heap.size < w8.heap.size := World.block_lt_of_cell? w8 ⟨w6.heap.size, 0, none⟩ l600
  have bl700 : w7.heap.size < w8.heap.size := World.block_lt_of_cell? w8 ⟨w7.heap.size, 0, none⟩ l700
  clear hk8
  go_wp2_with fail
  refine useK w (d.out _) (by go_grown) ?_; rintro e w9 rfl hB9 hk9 hs9
  replace p00 : w9.cell? ⟨w.heap.size, 0, none⟩ = some (.int .i64 al) := hk9 _ _ _ (p00)
  replace p01 : w9.cell? ⟨w.heap.size, 1, none⟩ = some (.int .i64 ah) := hk9 _ _ _ (p01)
  replace p10 : w9.cell? ⟨w.heap.size + 1, 0, none⟩ = some (.int .i64 bl) := hk9 _ _ _ (p10)
  replace p11 : w9.cell? ⟨w.heap.size + 1, 1, none⟩ = some (.int .i64 bh) := hk9 _ _ _ (p11)
  replace l500 : w9.cell? ⟨w5.heap.size, 0, none⟩ = some (.int .i64 al) := hk9 _ _ _ (l500)
  replace l501 : w9.cell? ⟨w5.heap.size, 1, none⟩ = some (.int .i64 al) := hk9 _ _ _ (l501)
  replace l600 : w9.cell? ⟨w6.heap.size, 0, none⟩ = some (.int .i64 dl) := hk9 _ _ _ (l600)
  replace l601 : w9.cell? ⟨w6.heap.size, 1, none⟩ = some (.int .i64 dh) := hk9 _ _ _ (l601)
  replace l700 : w9.cell? ⟨w7.heap.size, 0, none⟩ = some (.int .i64 sl) := hk9 _ _ _ (l700)
  replace l701 : w9.cell? ⟨w7.heap.size, 1, none⟩ = some (.int .i64 sh) := hk9 _ _ _ (l701)
  have bp00 : w.heap.size < w9.heap.size := World.block_lt_of_cell? w9 ⟨w.heap.size, 0, none⟩ p00
  have bp10 : w.heap.size + 1 < w9.heap.size := World.block_lt_of_cell? w9 ⟨w.heap.size + 1, 0, none⟩ p10
  have bl500 : w5.heap.size < w9.heap.size := World.block_lt_of_cell? w9 ⟨w5.heap.size, 0, none⟩ l500
  have bl600 : w6.heap.size < w9.heap.size := World.block_lt_of_cell? w9 ⟨w6.heap.size, 0, none⟩ l600
  have bl700 : w7.heap.size < w9.heap.size := World.block_lt_of_cell? w9 ⟨w7.heap.size, 0, none⟩ l700
  clear hk9
  go_wp2_with fail
  refine useK w (m.out _) (by go_grown) ?_; rintro e w10 rfl hB10 hk10 hs10
  replace p00 : w10.cell? ⟨w.heap.size, 0, none⟩ = some (.int .i64 al) := hk10 _ _ _ ((keepA _ p00))
  replace p01 : w10.cell? ⟨w.heap.size, 1, none⟩ = some (.int .i64 ah) := hk10 _ _ _ ((keepA _ p01))
  replace p10 : w10.cell? ⟨w.heap.size + 1, 0, none⟩ = some (.int .i64 bl) := hk10 _ _ _ ((keepA _ p10))
  replace p11 : w10.cell? ⟨w.heap.size + 1, 1, none⟩ = some (.int .i64 bh) := hk10 _ _ _ ((keepA _ p11))
  replace l500 : w10.cell? ⟨w5.heap.size, 0, none⟩ = some (.int .i64 al) := hk10 _ _ _ ((keepA _ l500))
  replace l501 : w10.cell? ⟨w5.heap.size, 1, none⟩ = some (.int .i64 al) := hk10 _ _ _ ((keepA _ l501))
  replace l600 : w10.cell? ⟨w6.heap.size, 0, none⟩ = some (.int .i64 dl) := hk10 _ _ _ ((keepA _ l600))
  replace l601 : w10.cell? ⟨w6.heap.size, 1, none⟩ = some (.int .i64 dh) := hk10 _ _ _ ((keepA _ l601))
  replace l700 : w10.cell? ⟨w7.heap.size, 0, none⟩ = some (.int .i64 sl) := hk10 _ _ _ ((keepA _ l700))
  replace l701 : w10.cell? ⟨w7.heap.size, 1, none⟩ = some (.int .i64 sh) := hk10 _ _ _ ((keepA _ l701))
  replace l900 : w10.cell? ⟨w9.heap.size, 0, none⟩ = some (.int .i64 ql) := hk10 _ _ _ (by simp [go_sem])
  replace l901 : w10.cell? ⟨w9.heap.size, 1, none⟩ = some (.int .i64 qh) := hk10 _ _ _ (by simp [go_sem])
  have bp00 : w.heap.size < w10.heap.size := World.block_lt_of_cell? w10 ⟨w.heap.size, 0, none⟩ p00
  have bp10 : w.heap.size + 1 < w10.heap.size := World.block_lt_of_cell? w10 ⟨w.heap.size + 1, 0, none⟩ p10
  have bl500 : w5.heap.size < w10.heap.size := World.block_lt_of_cell? w10 ⟨w5.heap.size, 0, none⟩ l500
  have bl600 : w6.heap.size < w10.heap.size := World.block_lt_of_cell? w10 ⟨w6.heap.size, 0, none⟩ l600
  have bl700 : w7.heap.size < w10.heap.size := World.block_lt_of_cell? w10 ⟨w7.heap.size, 0, none⟩ l700
  have bl900 : w9.heap.size < w10.heap.size := World.block_lt_of_cell? w10 ⟨w9.heap.size, 0, none⟩ l900
  clear hk10
  go_wp2_with fail
  go_ret
  exact ⟨rfl, by go_grown⟩
theorem back_0x_00 (al ah bl bh sl sh dl dh ql qh ml mh g : Int) (T : List UInt8) (w : World) (zg : g ≠ 0)
    (k1 : Hid (∀ w : World, Calls Tryd.prog 31 #[.agg #[.int .i64 al, .int .i64 ah]] w fun e w' => e = .returned (.int .i64 0) ∧ Below w.heap.size w w'))
    (k2 : Hid (∀ w : World, Calls Tryd.prog 31 #[.agg #[.int .i64 bl, .int .i64 bh]] w fun e w' => e = .returned (.int .i64 0) ∧ Below w.heap.size w w'))
    (t : Hid (∀ W : World, Below w.heap.size w W → Calls Tryd.prog 14 #[.int .i64 al] W fun e w' => e = .returned (.string ⟨T.toArray⟩) ∧ Below W.heap.size W w'))
    (r : Hid (∀ w : World, Calls Tryd.prog 12 #[.string ⟨T.toArray⟩] w fun e w' => e = .returned (.tuple #[.agg #[.int .i64 al, .int .i64 al], .int .i64 0]) ∧ Below w.heap.size w w'))
    (s : Hid (∀ w : World, Calls Tryd.prog 33 #[.agg #[.int .i64 al, .int .i64 ah], .agg #[.int .i64 bl, .int .i64 bh]] w fun e w' => e = .returned (.tuple #[.agg #[.int .i64 dl, .int .i64 dh], .int .i64 0]) ∧ Below w.heap.size w w'))
    (a : Hid (∀ w : World, Calls Tryd.prog 28 #[.agg #[.int .i64 dl, .int .i64 dh], .agg #[.int .i64 bl, .int .i64 bh]] w fun e w' => e = .returned (.tuple #[.agg #[.int .i64 sl, .int .i64 sh], .int .i64 g]) ∧ Below w.heap.size w w'))
    (d : Hid (∀ w : World, Calls Tryd.prog 19 #[.agg #[.int .i64 al, .int .i64 ah], .agg #[.int .i64 bl, .int .i64 bh]] w fun e w' => e = .returned (.tuple #[.agg #[.int .i64 ql, .int .i64 qh], .int .i64 0]) ∧ Below w.heap.size w w'))
    (m : Hid (∀ w : World, Calls Tryd.prog 34 #[.agg #[.int .i64 ql, .int .i64 qh], .agg #[.int .i64 bl, .int .i64 bh]] w fun e w' => e = .returned (.tuple #[.agg #[.int .i64 ml, .int .i64 mh], .int .i64 0]) ∧ Below w.heap.size w w'))
    (wj : Hid (∀ w : World, Calls Tryd.prog 48 #[.agg #[.int .i64 al, .int .i64 ah], .agg #[.int .i64 ml, .int .i64 mh]] w fun e w' => e = .returned (.bool true) ∧ Below w.heap.size w w'))
    : Calls Tryd.prog 8 #[.agg #[.int .i64 al, .int .i64 ah], .agg #[.int .i64 bl, .int .i64 bh]] w fun e w' => e = .returned (.bool true) ∧ Below w.heap.size w w' := by
  have zg1 : (g == 0) = false := by simpa using zg
  clear zg
  go_enter Tryd.func8, Tryd.ntmps8
  go_wp2_with fail
  refine useK w (alive_any _) (by go_grown) ?_; rintro e w1 rfl hB1 hk1 hs1
  replace p00 : w1.cell? ⟨w.heap.size, 0, none⟩ = some (.int .i64 al) := hk1 _ _ _ (by simp [go_sem])
  replace p01 : w1.cell? ⟨w.heap.size, 1, none⟩ = some (.int .i64 ah) := hk1 _ _ _ (by simp [go_sem])
  replace p10 : w1.cell? ⟨w.heap.size + 1, 0, none⟩ = some (.int .i64 bl) := hk1 _ _ _ (by simp [go_sem])
  replace p11 : w1.cell? ⟨w.heap.size + 1, 1, none⟩ = some (.int .i64 bh) := hk1 _ _ _ (by simp [go_sem])
  have bp00 : w.heap.size < w1.heap.size := World.block_lt_of_cell? w1 ⟨w.heap.size, 0, none⟩ p00
  have bp10 : w.heap.size + 1 < w1.heap.size := World.block_lt_of_cell? w1 ⟨w.heap.size + 1, 0, none⟩ p10
  clear hk1
  go_wp2_with fail
  refine useK w (k1.out _) (by go_grown) ?_; rintro e w2 rfl hB2 hk2 hs2
  replace p00 : w2.cell? ⟨w.heap.size, 0, none⟩ = some (.int .i64 al) := hk2 _ _ _ (p00)
  replace p01 : w2.cell? ⟨w.heap.size, 1, none⟩ = some (.int .i64 ah) := hk2 _ _ _ (p01)
  replace p10 : w2.cell? ⟨w.heap.size + 1, 0, none⟩ = some (.int .i64 bl) := hk2 _ _ _ (p10)
  replace p11 : w2.cell? ⟨w.heap.size + 1, 1, none⟩ = some (.int .i64 bh) := hk2 _ _ _ (p11)
  have bp00 : w.heap.size < w2.heap.size := World.block_lt_of_cell? w2 ⟨w.heap.size, 0, none⟩ p00
  have bp10 : w.heap.size + 1 < w2.heap.size := World.block_lt_of_cell? w2 ⟨w.heap.size + 1, 0, none⟩ p10
  clear hk2
  go_wp2_with fail
  refine useK w (k2.out _) (by go_grown) ?_; rintro e w3 rfl hB3 hk3 hs3
  replace p00 : w3.cell? ⟨w.heap.size, 0, none⟩ = some (.int .i64 al) := hk3 _ _ _ (p00)
  replace p01 : w3.cell? ⟨w.heap.size, 1, none⟩ = some (.int .i64 ah) := hk3 _ _ _ (p01)
  replace p10 : w3.cell? ⟨w.heap.size + 1, 0, none⟩ = some (.int .i64 bl) := hk3 _ _ _ (p10)
  replace p11 : w3.cell? ⟨w.heap.size + 1, 1, none⟩ = some (.int .i64 bh) := hk3 _ _ _ (p11)
  have bp00 : w.heap.size < w3.heap.size := World.block_lt_of_cell? w3 ⟨w.heap.size, 0, none⟩ p00
  have bp10 : w.heap.size + 1 < w3.heap.size := World.block_lt_of_cell? w3 ⟨w.heap.size + 1, 0, none⟩ p10
  clear hk3
  go_wp2_with fail
  refine useK w (t.out _ (by go_grown)) (by go_grown) ?_; rintro e w4 rfl hB4 hk4 hs4
  replace p00 : w4.cell? ⟨w.heap.size, 0, none⟩ = some (.int .i64 al) := hk4 _ _ _ (p00)
  replace p01 : w4.cell? ⟨w.heap.size, 1, none⟩ = some (.int .i64 ah) := hk4 _ _ _ (p01)
  replace p10 : w4.cell? ⟨w.heap.size + 1, 0, none⟩ = some (.int .i64 bl) := hk4 _ _ _ (p10)
  replace p11 : w4.cell? ⟨w.heap.size + 1, 1, none⟩ = some (.int .i64 bh) := hk4 _ _ _ (p11)
  have bp00 : w.heap.size < w4.heap.size := World.block_lt_of_cell? w4 ⟨w.heap.size, 0, none⟩ p00
  have bp10 : w.heap.size + 1 < w4.heap.size := World.block_lt_of_cell? w4 ⟨w.heap.size + 1, 0, none⟩ p10
  clear hk4
  go_wp2_with fail
  refine useK w (r.out _) (by go_grown) ?_; rintro e w5 rfl hB5 hk5 hs5
  replace p00 : w5.cell? ⟨w.heap.size, 0, none⟩ = some (.int .i64 al) := hk5 _ _ _ (p00)
  replace p01 : w5.cell? ⟨w.heap.size, 1, none⟩ = some (.int .i64 ah) := hk5 _ _ _ (p01)
  replace p10 : w5.cell? ⟨w.heap.size + 1, 0, none⟩ = some (.int .i64 bl) := hk5 _ _ _ (p10)
  replace p11 : w5.cell? ⟨w.heap.size + 1, 1, none⟩ = some (.int .i64 bh) := hk5 _ _ _ (p11)
  have bp00 : w.heap.size < w5.heap.size := World.block_lt_of_cell? w5 ⟨w.heap.size, 0, none⟩ p00
  have bp10 : w.heap.size + 1 < w5.heap.size := World.block_lt_of_cell? w5 ⟨w.heap.size + 1, 0, none⟩ p10
  clear hk5
  go_wp2_with fail
  refine useK w (s.out _) (by go_grown) ?_; rintro e w6 rfl hB6 hk6 hs6
  replace p00 : w6.cell? ⟨w.heap.size, 0, none⟩ = some (.int .i64 al) := hk6 _ _ _ ((keepA _ p00))
  replace p01 : w6.cell? ⟨w.heap.size, 1, none⟩ = some (.int .i64 ah) := hk6 _ _ _ ((keepA _ p01))
  replace p10 : w6.cell? ⟨w.heap.size + 1, 0, none⟩ = some (.int .i64 bl) := hk6 _ _ _ ((keepA _ p10))
  replace p11 : w6.cell? ⟨w.heap.size + 1, 1, none⟩ = some (.int .i64 bh) := hk6 _ _ _ ((keepA _ p11))
  replace l500 : w6.cell? ⟨w5.heap.size, 0, none⟩ = some (.int .i64 al) := hk6 _ _ _ (by simp [go_sem])
  replace l501 : w6.cell? ⟨w5.heap.size, 1, none⟩ = some (.int .i64 al) := hk6 _ _ _ (by simp [go_sem])
  have bp00 : w.heap.size < w6.heap.size := World.block_lt_of_cell? w6 ⟨w.heap.size, 0, none⟩ p00
  have bp10 : w.heap.size + 1 < w6.heap.size := World.block_lt_of_cell? w6 ⟨w.heap.size + 1, 0, none⟩ p10
  have bl500 : w5.heap.size < w6.heap.size := World.block_lt_of_cell? w6 ⟨w5.heap.size, 0, none⟩ l500
  clear hk6
  go_wp2_with fail
  refine useK w (a.out _) (by go_grown) ?_; rintro e w7 rfl hB7 hk7 hs7
  replace p00 : w7.cell? ⟨w.heap.size, 0, none⟩ = some (.int .i64 al) := hk7 _ _ _ ((keepA _ p00))
  replace p01 : w7.cell? ⟨w.heap.size, 1, none⟩ = some (.int .i64 ah) := hk7 _ _ _ ((keepA _ p01))
  replace p10 : w7.cell? ⟨w.heap.size + 1, 0, none⟩ = some (.int .i64 bl) := hk7 _ _ _ ((keepA _ p10))
  replace p11 : w7.cell? ⟨w.heap.size + 1, 1, none⟩ = some (.int .i64 bh) := hk7 _ _ _ ((keepA _ p11))
  replace l500 : w7.cell? ⟨w5.heap.size, 0, none⟩ = some (.int .i64 al) := hk7 _ _ _ ((keepA _ l500))
  replace l501 : w7.cell? ⟨w5.heap.size, 1, none⟩ = some (.int .i64 al) := hk7 _ _ _ ((keepA _ l501))
  replace l600 : w7.cell? ⟨w6.heap.size, 0, none⟩ = some (.int .i64 dl) := hk7 _ _ _ (by simp [go_sem])
  replace l601 : w7.cell? ⟨w6.heap.size, 1, none⟩ = some (.int .i64 dh) := hk7 _ _ _ (by simp [go_sem])
  have bp00 : w.heap.size < w7.heap.size := World.block_lt_of_cell? w7 ⟨w.heap.size, 0, none⟩ p00
  have bp10 : w.heap.size + 1 < w7.heap.size := World.block_lt_of_cell? w7 ⟨w.heap.size + 1, 0, none⟩ p10
  have bl500 : w5.heap.size < w7.heap.size := World.block_lt_of_cell? w7 ⟨w5.heap.size, 0, none⟩ l500
  have bl600 : w6.heap.size < w7.heap.size := World.block_lt_of_cell? w7 ⟨w6.heap.size, 0, none⟩ l600
  clear hk7
  go_wp2_with fail
  refine useK w (d.out _) (by go_grown) ?_; rintro e w8 rfl hB8 hk8 hs8
  replace p00 : w8.cell? ⟨w.heap.size, 0, none⟩ = some (.int .i64 al) := hk8 _ _ _ ((keepA _ p00))
  replace p01 : w8.cell? ⟨w.heap.size, 1, none⟩ = some (.int .i64 ah) := hk8 _ _ _ ((keepA _ p01))
  replace p10 : w8.cell? ⟨w.heap.size + 1, 0, none⟩ = some (.int .i64 bl) := hk8 _ _ _ ((keepA _ p10))
  replace p11 : w8.cell? ⟨w.heap.size + 1, 1, none⟩ = some (.int .i64 bh) := hk8 _ _ _ ((keepA _ p11))
  replace l500 : w8.cell? ⟨w5.heap.size, 0, none⟩ = some (.int .i64 al) := hk8 _ _ _ ((keepA _ l500))
  replace l501 : w8.cell? ⟨w5.heap.size, 1, none⟩ = some (.int .i64 al) := hk8 _ _ _ ((keepA _ l501))
  replace l600 : w8.cell? ⟨w6.heap.size, 0, none⟩ = some (.int .i64 dl) := hk8 _ _ _ ((keepA _ l600))
  replace l601 : w8.cell? ⟨w6.heap.size, 1, none⟩ = some (.int .i64 dh) := hk8 _ _ _ ((keepA _ l601))
  replace l700 : w8.cell? ⟨w7.heap.size, 0, none⟩ = some (.int .i64 sl) := hk8 _ _ _ (by simp [go_sem])
  replace l701 : w8.cell? ⟨w7.heap.size, 1, none⟩ = some (.int .i64 sh) := hk8 _ _ _ (by simp [go_sem])
  have bp00 : w.heap.size < w8.heap.size := World.block_lt_of_cell? w8 ⟨w.heap.size, 0, none⟩ p00
  have bp10 : w.heap.size + 1 < w8.heap.size := World.block_lt_of_cell? w8 ⟨w.heap.size + 1, 0, none⟩ p10
  have bl500 : w5.heap.size < w8.heap.size := World.block_lt_of_cell? w8 ⟨w5.heap.size, 0, none⟩ l500
  have bl600 : w6.heap.size < w8.heap.size := World.block_lt_of_cell? w8 ⟨w6.heap.size, 0, none⟩ l600
  have bl700 : w7.heap.size < w8.heap.size := World.block_lt_of_cell? w8 ⟨w7.heap.size, 0, none⟩ l700
  clear hk8
  go_wp2_with fail
  refine useK w (m.out _) (by go_grown) ?_; rintro e w9 rfl hB9 hk9 hs9
  replace p00 : w9.cell? ⟨w.heap.size, 0, none⟩ = some (.int .i64 al) := hk9 _ _ _ ((keepA _ p00))
  replace p01 : w9.cell? ⟨w.heap.size, 1, none⟩ = some (.int .i64 ah) := hk9 _ _ _ ((keepA _ p01))
  replace p10 : w9.cell? ⟨w.heap.size + 1, 0, none⟩ = some (.int .i64 bl) := hk9 _ _ _ ((keepA _ p10))
  replace p11 : w9.cell? ⟨w.heap.size + 1, 1, none⟩ = some (.int .i64 bh) := hk9 _ _ _ ((keepA _ p11))
  replace l500 : w9.cell? ⟨w5.heap.size, 0, none⟩ = some (.int .i64 al) := hk9 _ _ _ ((keepA _ l500))
  replace l501 : w9.cell? ⟨w5.heap.size, 1, none⟩ = some (.int .i64 al) := hk9 _ _ _ ((keepA _ l501))
  replace l600 : w9.cell? ⟨w6.heap.size, 0, none⟩ = some (.int .i64 dl) := hk9 _ _ _ ((keepA _ l600))
  replace l601 : w9.cell? ⟨w6.heap.size, 1, none⟩ = some (.int .i64 dh) := hk9 _ _ _ ((keepA _ l601))
  replace l700 : w9.cell? ⟨w7.heap.size, 0, none⟩ = some (.int .i64 sl) := hk9 _ _ _ ((keepA _ l700))
  replace l701 : w9.cell? ⟨w7.heap.size, 1, none⟩ = some (.int .i64 sh) := hk9 _ _ _ ((keepA _ l701))
  replace l800 : w9.cell? ⟨w8.heap.size, 0, none⟩ = some (.int .i64 ql) := hk9 _ _ _ (by simp [go_sem])
  replace l801 : w9.cell? ⟨w8.heap.size, 1, none⟩ = some (.int .i64 qh) := hk9 _ _ _ (by simp [go_sem])
  have bp00 : w.heap.size < w9.heap.size := World.block_lt_of_cell? w9 ⟨w.heap.size, 0, none⟩ p00
  have bp10 : w.heap.size + 1 < w9.heap.size := World.block_lt_of_cell? w9 ⟨w.heap.size + 1, 0, none⟩ p10
  have bl500 : w5.heap.size < w9.heap.size := World.block_lt_of_cell? w9 ⟨w5.heap.size, 0, none⟩ l500
  have bl600 : w6.heap.size < w9.heap.size := World.block_lt_of_cell? w9 ⟨w6.heap.size, 0, none⟩ l600
  have bl700 : w7.heap.size < w9.heap.size := World.block_lt_of_cell? w9 ⟨w7.heap.size, 0, none⟩ l700
  have bl800 : w8.heap.size < w9.heap.size := World.block_lt_of_cell? w9 ⟨w8.heap.size, 0, none⟩ l800
  clear hk9
  go_wp2_with fail
  refine useK w (wj.out _) (by go_grown) ?_; rintro e w10 rfl hB10 hk10 hs10
  replace p00 : w10.cell? ⟨w.heap.size, 0, none⟩ = some (.int .i64 al) := hk10 _ _ _ ((keepA _ p00))
  replace p01 : w10.cell? ⟨w.heap.size, 1, none⟩ = some (.int .i64 ah) := hk10 _ _ _ ((keepA _ p01))
  replace p10 : w10.cell? ⟨w.heap.size + 1, 0, none⟩ = some (.int .i64 bl) := hk10 _ _ _ ((keepA _ p10))
  replace p11 : w10.cell? ⟨w.heap.size + 1, 1, none⟩ = some (.int .i64 bh) := hk10 _ _ _ ((keepA _ p11))
  replace l500 : w10.cell? ⟨w5.heap.size, 0, none⟩ = some (.int .i64 al) := hk10 _ _ _ ((keepA _ l500))
  replace l501 : w10.cell? ⟨w5.heap.size, 1, none⟩ = some (.int .i64 al) := hk10 _ _ _ ((keepA _ l501))
  replace l600 : w10.cell? ⟨w6.heap.size, 0, none⟩ = some (.int .i64 dl) := hk10 _ _ _ ((keepA _ l600))
  replace l601 : w10.cell? ⟨w6.heap.size, 1, none⟩ = some (.int .i64 dh) := hk10 _ _ _ ((keepA _ l601))
  replace l700 : w10.cell? ⟨w7.heap.size, 0, none⟩ = some (.int .i64 sl) := hk10 _ _ _ ((keepA _ l700))
  replace l701 : w10.cell? ⟨w7.heap.size, 1, none⟩ = some (.int .i64 sh) := hk10 _ _ _ ((keepA _ l701))
  replace l800 : w10.cell? ⟨w8.heap.size, 0, none⟩ = some (.int .i64 ql) := hk10 _ _ _ ((keepA _ l800))
  replace l801 : w10.cell? ⟨w8.heap.size, 1, none⟩ = some (.int .i64 qh) := hk10 _ _ _ ((keepA _ l801))
  replace l900 : w10.cell? ⟨w9.heap.size, 0, none⟩ = some (.int .i64 ml) := hk10 _ _ _ (by simp [go_sem])
  replace l901 : w10.cell? ⟨w9.heap.size, 1, none⟩ = some (.int .i64 mh) := hk10 _ _ _ (by simp [go_sem])
  have bp00 : w.heap.size < w10.heap.size := World.block_lt_of_cell? w10 ⟨w.heap.size, 0, none⟩ p00
  have bp10 : w.heap.size + 1 < w10.heap.size := World.block_lt_of_cell? w10 ⟨w.heap.size + 1, 0, none⟩ p10
  have bl500 : w5.heap.size < w10.heap.size := World.block_lt_of_cell? w10 ⟨w5.heap.size, 0, none⟩ l500
  have bl600 : w6.heap.size < w10.heap.size := World.block_lt_of_cell? w10 ⟨w6.heap.size, 0, none⟩ l600
  have bl700 : w7.heap.size < w10.heap.size := World.block_lt_of_cell? w10 ⟨w7.heap.size, 0, none⟩ l700
  have bl800 : w8.heap.size < w10.heap.size := World.block_lt_of_cell? w10 ⟨w8.heap.size, 0, none⟩ l800
  have bl900 : w9.heap.size < w10.heap.size := World.block_lt_of_cell? w10 ⟨w9.heap.size, 0, none⟩ l900
  clear hk10
  go_wp2_with fail
  go_ret
  exact ⟨rfl, by go_grown⟩
theorem back_0x_0x (al ah bl bh sl sh dl dh ql qh ml mh g i : Int) (T : List UInt8) (w : World) (zg : g ≠ 0) (zi : i ≠ 0)
    (k1 : Hid (∀ w : World, Calls Tryd.prog 31 #[.agg #[.int .i64 al, .int .i64 ah]] w fun e w' => e = .returned (.int .i64 0) ∧ Below w.heap.size w w'))
    (k2 : Hid (∀ w : World, Calls Tryd.prog 31 #[.agg #[.int .i64 bl, .int .i64 bh]] w fun e w' => e = .returned (.int .i64 0) ∧ Below w.heap.size w w'))
    (t : Hid (∀ W : World, Below w.heap.size w W → Calls Tryd.prog 14 #[.int .i64 al] W fun e w' => e = .returned (.string ⟨T.toArray⟩) ∧ Below W.heap.size W w'))
    (r : Hid (∀ w : World, Calls Tryd.prog 12 #[.string ⟨T.toArray⟩] w fun e w' => e = .returned (.tuple #[.agg #[.int .i64 al, .int .i64 al], .int .i64 0]) ∧ Below w.heap.size w w'))
    (s : Hid (∀ w : World, Calls Tryd.prog 33 #[.agg #[.int .i64 al, .int .i64 ah], .agg #[.int .i64 bl, .int .i64 bh]] w fun e w' => e = .returned (.tuple #[.agg #[.int .i64 dl, .int .i64 dh], .int .i64 0]) ∧ Below w.heap.size w w'))
    (a : Hid (∀ w : World, Calls Tryd.prog 28 #[.agg #[.int .i64 dl, .int .i64 dh], .agg #[.int .i64 bl, .int .i64 bh]] w fun e w' => e = .returned (.tuple #[.agg #[.int .i64 sl, .int .i64 sh], .int .i64 g]) ∧ Below w.heap.size w w'))
    (d : Hid (∀ w : World, Calls Tryd.prog 19 #[.agg #[.int .i64 al, .int .i64 ah], .agg #[.int .i64 bl, .int .i64 bh]] w fun e w' => e = .returned (.tuple #[.agg #[.int .i64 ql, .int .i64 qh], .int .i64 0]) ∧ Below w.heap.size w w'))
    (m : Hid (∀ w : World, Calls Tryd.prog 34 #[.agg #[.int .i64 ql, .int .i64 qh], .agg #[.int .i64 bl, .int .i64 bh]] w fun e w' => e = .returned (.tuple #[.agg #[.int .i64 ml, .int .i64 mh], .int .i64 i]) ∧ Below w.heap.size w w'))
    : Calls Tryd.prog 8 #[.agg #[.int .i64 al, .int .i64 ah], .agg #[.int .i64 bl, .int .i64 bh]] w fun e w' => e = .returned (.bool true) ∧ Below w.heap.size w w' := by
  have zg1 : (g == 0) = false := by simpa using zg
  have zi1 : (i != 0) = true := by simpa using zi
  clear zg zi
  go_enter Tryd.func8, Tryd.ntmps8
  go_wp2_with fail
  refine useK w (alive_any _) (by go_grown) ?_; rintro e w1 rfl hB1 hk1 hs1
  replace p00 : w1.cell? ⟨w.heap.size, 0, none⟩ = some (.int .i64 al) := hk1 _ _ _ (by simp [go_sem])
  replace p01 : w1.cell? ⟨w.heap.size, 1, none⟩ = some (.int .i64 ah) := hk1 _ _ _ (by simp [go_sem])
  replace p10 : w1.cell? ⟨w.heap.size + 1, 0, none⟩ = some (.int .i64 bl) := hk1 _ _ _ (by simp [go_sem])
  replace p11 : w1.cell? ⟨w.heap.size + 1, 1, none⟩ = some (.int .i64 bh) := hk1 _ _ _ (by simp [go_sem])
  have bp00 : w.heap.size < w1.heap.size := World.block_lt_of_cell? w1 ⟨w.heap.size, 0, none⟩ p00
  have bp10 : w.heap.size + 1 < w1.heap.size := World.block_lt_of_cell? w1 ⟨w.heap.size + 1, 0, none⟩ p10
  clear hk1
  go_wp2_with fail
  refine useK w (k1.out _) (by go_grown) ?_; rintro e w2 rfl hB2 hk2 hs2
  replace p00 : w2.cell? ⟨w.heap.size, 0, none⟩ = some (.int .i64 al) := hk2 _ _ _ (p00)
  replace p01 : w2.cell? ⟨w.heap.size, 1, none⟩ = some (.int .i64 ah) := hk2 _ _ _ (p01)
  replace p10 : w2.cell? ⟨w.heap.size + 1, 0, none⟩ = some (.int .i64 bl) := hk2 _ _ _ (p10)
  replace p11 : w2.cell? ⟨w.heap.size + 1, 1, none⟩ = some (.int .i64 bh) := hk2 _ _ _ (p11)
  have bp00 : w.heap.size < w2.heap.size := World.block_lt_of_cell? w2 ⟨w.heap.size, 0, none⟩ p00
  have bp10 : w.heap.size + 1 < w2.heap.size := World.block_lt_of_cell? w2 ⟨w.heap.size + 1, 0, none⟩ p10
  clear hk2
  go_wp2_with fail
  refine useK w (k2.out _) (by go_grown) ?_; rintro e w3 rfl hB3 hk3 hs3
  replace p00 : w3.cell? ⟨w.heap.size, 0, none⟩ = some (.int .i64 al) := hk3 _ _ _ (p00)
  replace p01 : w3.cell? ⟨w.heap.size, 1, none⟩ = some (.int .i64 ah) := hk3 _ _ _ (p01)
  replace p10 : w3.cell? ⟨w.heap.size + 1, 0, none⟩ = some (.int .i64 bl) := hk3 _ _ _ (p10)
  replace p11 : w3.cell? ⟨w.heap.size + 1, 1, none⟩ = some (.int .i64 bh) := hk3 _ _ _ (p11)
  have bp00 : w.heap.size < w3.heap.size := World.block_lt_of_cell? w3 ⟨w.heap.size, 0, none⟩ p00
  have bp10 : w.heap.size + 1 < w3.heap.size := World.block_lt_of_cell? w3 ⟨w.heap.size + 1, 0, none⟩ p10
  clear hk3
  go_wp2_with fail
  refine useK w (t.out _ (by go_grown)) (by go_grown) ?_; rintro e w4 rfl hB4 hk4 hs4
  replace p00 : w4.cell? ⟨w.heap.size, 0, none⟩ = some (.int .i64 al) := hk4 _ _ _ (p00)
  replace p01 : w4.cell? ⟨w.heap.size, 1, none⟩ = some (.int .i64 ah) := hk4 _ _ _ (p01)
  replace p10 : w4.cell? ⟨w.heap.size + 1, 0, none⟩ = some (.int .i64 bl) := hk4 _ _ _ (p10)
  replace p11 : w4.cell? ⟨w.heap.size + 1, 1, none⟩ = some (.int .i64 bh) := hk4 _ _ _ (p11)
  have bp00 : w.heap.size < w4.heap.size := World.block_lt_of_cell? w4 ⟨w.heap.size, 0, none⟩ p00
  have bp10 : w.heap.size + 1 < w4.heap.size := World.block_lt_of_cell? w4 ⟨w.heap.size + 1, 0, none⟩ p10
  clear hk4
  go_wp2_with fail
  refine useK w (r.out _) (by go_grown) ?_; rintro e w5 rfl hB5 hk5 hs5
  replace p00 : w5.cell? ⟨w.heap.size, 0, none⟩ = some (.int .i64 al) := hk5 _ _ _ (p00)
  replace p01 : w5.cell? ⟨w.heap.size, 1, none⟩ = some (.int .i64 ah) := hk5 _ _ _ (p01)
  replace p10 : w5.cell? ⟨w.heap.size + 1, 0, none⟩ = some (.int .i64 bl) := hk5 _ _ _ (p10)
  replace p11 : w5.cell? ⟨w.heap.size + 1, 1, none⟩ = some (.int .i64 bh) := hk5 _ _ _ (p11)
  have bp00 : w.heap.size < w5.heap.size := World.block_lt_of_cell? w5 ⟨w.heap.size, 0, none⟩ p00
  have bp10 : w.heap.size + 1 < w5.heap.size := World.block_lt_of_cell? w5 ⟨w.heap.size + 1, 0, none⟩ p10
  clear hk5
  go_wp2_with fail
  refine useK w (s.out _) (by go_grown) ?_; rintro e w6 rfl hB6 hk6 hs6
  replace p00 : w6.cell? ⟨w.heap.size, 0, none⟩ = some (.int .i64 al) := hk6 _ _ _ ((keepA _ p00))
  replace p01 : w6.cell? ⟨w.heap.size, 1, none⟩ = some (.int .i64 ah) := hk6 _ _ _ ((keepA _ p01))
  replace p10 : w6.cell? ⟨w.heap.size + 1, 0, none⟩ = some (.int .i64 bl) := hk6 _ _ _ ((keepA _ p10))
  replace p11 : w6.cell? ⟨w.heap.size + 1, 1, none⟩ = some (.int .i64 bh) := hk6 _ _ _ ((keepA _ p11))
  replace l500 : w6.cell? ⟨w5.heap.size, 0, none⟩ = some (.int .i64 al) := hk6 _ _ _ (by simp [go_sem])
  replace l501 : w6.cell? ⟨w5.heap.size, 1, none⟩ = some (.int .i64 al) := hk6 _ _ _ (by simp [go_sem])
  have bp00 : w.heap.size < w6.heap.size := World.block_lt_of_cell? w6 ⟨w.heap.size, 0, none⟩ p00
  have bp10 : w.heap.size + 1 < w6.heap.size := World.block_lt_of_cell? w6 ⟨w.heap.size + 1, 0, none⟩ p10
  have bl500 : w5.heap.size < w6.heap.size := World.block_lt_of_cell? w6 ⟨w5.heap.size, 0, none⟩ l500
  clear hk6
  go_wp2_with fail
  refine useK w (a.out _) (by go_grown) ?_; rintro e w7 rfl hB7 hk7 hs7
  replace p00 : w7.cell? ⟨w.heap.size, 0, none⟩ = some (.int .i64 al) := hk7 _ _ _ ((keepA _ p00))
  replace p01 : w7.cell? ⟨w.heap.size, 1, none⟩ = some (.int .i64 ah) := hk7 _ _ _ ((keepA _ p01))
  replace p10 : w7.cell? ⟨w.heap.size + 1, 0, none⟩ = some (.int .i64 bl) := hk7 _ _ _ ((keepA _ p10))
  replace p11 : w7.cell? ⟨w.heap.size + 1, 1, none⟩ = some (.int .i64 bh) := hk7 _ _ _ ((keepA _ p11))
  replace l500 : w7.cell? ⟨w5.heap.size, 0, none⟩ = some (.int .i64 al) := hk7 _ _ _ ((keepA _ l500))
  replace l501 : w7.cell? ⟨w5.heap.size, 1, none⟩ = some (.int .i64 al) := hk7 _ _ _ ((keepA _ l501))
  replace l600 : w7.cell? ⟨w6.heap.size, 0, none⟩ = some (.int .i64 dl) := hk7 _ _ _ (by simp [go_sem])
  replace l601 : w7.cell? ⟨w6.heap.size, 1, none⟩ = some (.int .i64 dh) := hk7 _ _ _ (by simp [go_sem])
  have bp00 : w.heap.size < w7.heap.size := World.block_lt_of_cell? w7 ⟨w.heap.size, 0, none⟩ p00
  have bp10 : w.heap.size + 1 < w7.heap.size := World.block_lt_of_cell? w7 ⟨w.heap.size + 1, 0, none⟩ p10
  have bl500 : w5.heap.size < w7.heap.size := World.block_lt_of_cell? w7 ⟨w5.heap.size, 0, none⟩ l500
  have bl600 : w6.heap.size < w7.heap.size := World.block_lt_of_cell? w7 ⟨w6.heap.size, 0, none⟩ l600
  clear hk7
  go_wp2_with fail
  refine useK w (d.out _) (by go_grown) ?_; rintro e w8 rfl hB8 hk8 hs8
  replace p00 : w8.cell? ⟨w.heap.size, 0, none⟩ = some (.int .i64 al) := hk8 _ _ _ ((keepA _ p00))
  replace p01 : w8.cell? ⟨w.heap.size, 1, none⟩ = some (.int .i64 ah) := hk8 _ _ _ ((keepA _ p01))
  replace p10 : w8.cell? ⟨w.heap.size + 1, 0, none⟩ = some (.int .i64 bl) := hk8 _ _ _ ((keepA _ p10))
  replace p11 : w8.cell? ⟨w.heap.size + 1, 1, none⟩ = some (.int .i64 bh) := hk8 _ _ _ ((keepA _ p11))
  replace l500 : w8.cell? ⟨w5.heap.size, 0, none⟩ = some (.int .i64 al) := hk8 _ _ _ ((keepA _ l500))
  replace l501 : w8.cell? ⟨w5.heap.size, 1, none⟩ = some (.int .i64 al) := hk8 _ _ _ ((keepA _ l501))
  replace l600 : w8.cell? ⟨w6.heap.size, 0, none⟩ = some (.int .i64 dl) := hk8 _ _ _ ((keepA _ l600))
  replace l601 : w8.cell? ⟨w6.heap.size, 1, none⟩ = some (.int .i64 dh) := hk8 _ _ _ ((keepA _ l601))
  replace l700 : w8.cell? ⟨w7.heap.size, 0, none⟩ = some (.int .i64 sl) := hk8 _ _ _ (by simp [go_sem])
  replace l701 : w8.cell? ⟨w7.heap.size, 1, none⟩ = some (.int .i64 sh) := hk8 _ _ _ (by simp [go_sem])
  have bp00 : w.heap.size < w8.heap.size := World.block_lt_of_cell? w8 ⟨w.heap.size, 0, none⟩ p00
  have bp10 : w.heap.size + 1 < w8.heap.size := World.block_lt_of_cell? w8 ⟨w.heap.size + 1, 0, none⟩ p10
  have bl500 : w5.heap.size < w8.heap.size := World.block_lt_of_cell? w8 ⟨w5.heap.size, 0, none⟩ l500
  have bl600 : w6.heap.size < w8.heap.size := World.block_lt_of_cell? w8 ⟨w6.heap.size, 0, none⟩ l600
  have bl700 : w7.heap.size < w8.heap.size := World.block_lt_of_cell? w8 ⟨w7.heap.size, 0, none⟩ l700
  clear hk8
  go_wp2_with fail
  refine useK w (m.out _) (by go_grown) ?_; rintro e w9 rfl hB9 hk9 hs9
  replace p00 : w9.cell? ⟨w.heap.size, 0, none⟩ = some (.int .i64 al) := hk9 _ _ _ ((keepA _ p00))
  replace p01 : w9.cell? ⟨w.heap.size, 1, none⟩ = some (.int .i64 ah) := hk9 _ _ _ ((keepA _ p01))
  replace p10 : w9.cell? ⟨w.heap.size + 1, 0, none⟩ = some (.int .i64 bl) := hk9 _ _ _ ((keepA _ p10))
  replace p11 : w9.cell? ⟨w.heap.size + 1, 1, none⟩ = some (.int .i64 bh) := hk9 _ _ _ ((keepA _ p11))
  replace l500 : w9.cell? ⟨w5.heap.size, 0, none⟩ = some (.int .i64 al) := hk9 _ _ _ ((keepA _ l500))
  replace l501 : w9.cell? ⟨w5.heap.size, 1, none⟩ = some (.int .i64 al) := hk9 _ _ _ ((keepA _ l501))
  replace l600 : w9.cell? ⟨w6.heap.size, 0, none⟩ = some (.int .i64 dl) := hk9 _ _ _ ((keepA _ l600))
  replace l601 : w9.cell? ⟨w6.heap.size, 1, none⟩ = some (.int .i64 dh) := hk9 _ _ _ ((keepA _ l601))
  replace l700 : w9.cell? ⟨w7.heap.size, 0, none⟩ = some (.int .i64 sl) := hk9 _ _ _ ((keepA _ l700))
  replace l701 : w9.cell? ⟨w7.heap.size, 1, none⟩ = some (.int .i64 sh) := hk9 _ _ _ ((keepA _ l701))
  replace l800 : w9.cell? ⟨w8.heap.size, 0, none⟩ = some (.int .i64 ql) := hk9 _ _ _ (by simp [go_sem])
  replace l801 : w9.cell? ⟨w8.heap.size, 1, none⟩ = some (.int .i64 qh) := hk9 _ _ _ (by simp [go_sem])
  have bp00 : w.heap.size < w9.heap.size := World.block_lt_of_cell? w9 ⟨w.heap.size, 0, none⟩ p00
  have bp10 : w.heap.size + 1 < w9.heap.size := World.block_lt_of_cell? w9 ⟨w.heap.size + 1, 0, none⟩ p10
  have bl500 : w5.heap.size < w9.heap.size := World.block_lt_of_cell? w9 ⟨w5.heap.size, 0, none⟩ l500
  have bl600 : w6.heap.size < w9.heap.size := World.block_lt_of_cell? w9 ⟨w6.heap.size, 0, none⟩ l600
  have bl700 : w7.heap.size < w9.heap.size := World.block_lt_of_cell? w9 ⟨w7.heap.size, 0, none⟩ l700
  have bl800 : w8.heap.size < w9.heap.size := World.block_lt_of_cell? w9 ⟨w8.heap.size, 0, none⟩ l800
  clear hk9
  go_wp2_with fail
  go_ret
  exact ⟨rfl, by go_grown⟩
theorem back_0x_x (al ah bl bh sl sh dl dh ql qh ml mh g h i : Int) (T : List UInt8) (w : World) (zg : g ≠ 0) (zh : h ≠ 0)
    (k1 : Hid (∀ w : World, Calls Tryd.prog 31 #[.agg #[.int .i64 al, .int .i64 ah]] w fun e w' => e = .returned (.int .i64 0) ∧ Below w.heap.size w w'))
    (k2 : Hid (∀ w : World, Calls Tryd.prog 31 #[.agg #[.int .i64 bl, .int .i64 bh]] w fun e w' => e = .returned (.int .i64 0) ∧ Below w.heap.size w w'))
    (t : Hid (∀ W : World, Below w.heap.size w W → Calls Tryd.prog 14 #[.int .i64 al] W fun e w' => e = .returned (.string ⟨T.toArray⟩) ∧ Below W.heap.size W w'))
    (r : Hid (∀ w : World, Calls Tryd.prog 12 #[.string ⟨T.toArray⟩] w fun e w' => e = .returned (.tuple #[.agg #[.int .i64 al, .int .i64 al], .int .i64 0]) ∧ Below w.heap.size w w'))
    (s : Hid (∀ w : World, Calls Tryd.prog 33 #[.agg #[.int .i64 al, .int .i64 ah], .agg #[.int .i64 bl, .int .i64 bh]] w fun e w' => e = .returned (.tuple #[.agg #[.int .i64 dl, .int .i64 dh], .int .i64 0]) ∧ Below w.heap.size w w'))
    (a : Hid (∀ w : World, Calls Tryd.prog 28 #[.agg #[.int .i64 dl, .int .i64 dh], .agg #[.int .i64 bl, .int .i64 bh]] w fun e w' => e = .returned (.tuple #[.agg #[.int .i64 sl, .int .i64 sh], .int .i64 g]) ∧ Below w.heap.size w w'))
    (d : Hid (∀ w : World, Calls Tryd.prog 19 #[.agg #[.int .i64 al, .int .i64 ah], .agg #[.int .i64 bl, .int .i64 bh]] w fun e w' => e = .returned (.tuple #[.agg #[.int .i64 ql, .int .i64 qh], .int .i64 h]) ∧ Below w.heap.size w w'))
    (m : Hid (∀ w : World, Calls Tryd.prog 34 #[.agg #[.int .i64 ql, .int .i64 qh], .agg #[.int .i64 bl, .int .i64 bh]] w fun e w' => e = .returned (.tuple #[.agg #[.int .i64 ml, .int .i64 mh], .int .i64 i]) ∧ Below w.heap.size w w'))
    : Calls Tryd.prog 8 #[.agg #[.int .i64 al, .int .i64 ah], .agg #[.int .i64 bl, .int .i64 bh]] w fun e w' => e = .returned (.bool true) ∧ Below w.heap.size w w' := by
  have zg1 : (g == 0) = false := by simpa using zg
  have zh1 : (h != 0) = true := by simpa using zh
  clear zg zh
  go_enter Tryd.func8, Tryd.ntmps8
  go_wp2_with fail
  refine useK w (alive_any _) (by go_grown) ?_; rintro e w1 rfl hB1 hk1 hs1
  replace p00 : w1.cell? ⟨w.heap.size, 0, none⟩ = some (.int .i64 al) := hk1 _ _ _ (by simp [go_sem])
  replace p01 : w1.cell? ⟨w.heap.size, 1, none⟩ = some (.int .i64 ah) := hk1 _ _ _ (by simp [go_sem])
  replace p10 : w1.cell? ⟨w.heap.size + 1, 0, none⟩ = some (.int .i64 bl) := hk1 _ _ _ (by simp [go_sem])
  replace p11 : w1.cell? ⟨w.heap.size + 1, 1, none⟩ = some (.int .i64 bh) := hk1 _ _ _ (by simp [go_sem])
  have bp00 : w.heap.size < w1.heap.size := World.block_lt_of_cell? w1 ⟨w.heap.size, 0, none⟩ p00
  have bp10 : w.heap.size + 1 < w1.heap.size := World.block_lt_of_cell? w1 ⟨w.heap.size + 1, 0, none⟩ p10
  clear hk1
  go_wp2_with fail
  refine useK w (k1.out _) (by go_grown) ?_; rintro e w2 rfl hB2 hk2 hs2
  replace p00 : w2.cell? ⟨w.heap.size, 0, none⟩ = some (.int .i64 al) := hk2 _ _ _ (p00)
  replace p01 : w2.cell? ⟨w.heap.size, 1, none⟩ = some (.int .i64 ah) := hk2 _ _ _ (p01)
  replace p10 : w2.cell? ⟨w.heap.size + 1, 0, none⟩ = some (.int .i64 bl) := hk2 _ _ _ (p10)
  replace p11 : w2.cell? ⟨w.heap.size + 1, 1, none⟩ = some (.int .i64 bh) := hk2 _ _ _ (p11)
  have bp00 : w.heap.size < w2.heap.size := World.block_lt_of_cell? w2 ⟨w.heap.size, 0, none⟩ p00
  have bp10 : w.heap.size + 1 < w2.heap.size := World.block_lt_of_cell? w2 ⟨w.heap.size + 1, 0, none⟩ p10
  clear hk2
  go_wp2_with fail
  refine useK w (k2.out _) (by go_grown) ?_; rintro e w3 rfl hB3 hk3 hs3
  replace p00 : w3.cell? ⟨w.heap.size, 0, none⟩ = some (.int .i64 al) := hk3 _ _ _ (p00)
  replace p01 : w3.cell? ⟨w.heap.size, 1, none⟩ = some (.int .i64 ah) := hk3 _ _ _ (p01)
  replace p10 : w3.cell? ⟨w.heap.size + 1, 0, none⟩ = some (.int .i64 bl) := hk3 _ _ _ (p10)
  replace p11 : w3.cell? ⟨w.heap.size + 1, 1, none⟩ = some (.int .i64 bh) := hk3 _ _ _ (p11)
  have bp00 : w.heap.size < w3.heap.size := World.block_lt_of_cell? w3 ⟨w.heap.size, 0, none⟩ p00
  have bp10 : w.heap.size + 1 < w3.heap.size := World.block_lt_of_cell? w3 ⟨w.heap.size + 1, 0, none⟩ p10
  clear hk3
  go_wp2_with fail
  refine useK w (t.out _ (by go_grown)) (by go_grown) ?_; rintro e w4 rfl hB4 hk4 hs4
  replace p00 : w4.cell? ⟨w.heap.size, 0, none⟩ = some (.int .i64 al) := hk4 _ _ _ (p00)
  replace p01 : w4.cell? ⟨w.heap.size, 1, none⟩ = some (.int .i64 ah) := hk4 _ _ _ (p01)
  replace p10 : w4.cell? ⟨w.heap.size + 1, 0, none⟩ = some (.int .i64 bl) := hk4 _ _ _ (p10)
  replace p11 : w4.cell? ⟨w.heap.size + 1, 1, none⟩ = some (.int .i64 bh) := hk4 _ _ _ (p11)
  have bp00 : w.heap.size < w4.heap.size := World.block_lt_of_cell? w4 ⟨w.heap.size, 0, none⟩ p00
  have bp10 : w.heap.size + 1 < w4.heap.size := World.block_lt_of_cell? w4 ⟨w.heap.size + 1, 0, none⟩ p10
  clear hk4
  go_wp2_with fail
  refine useK w (r.out _) (by go_grown) ?_; rintro e w5 rfl hB5 hk5 hs5
  replace p00 : w5.cell? ⟨w.heap.size, 0, none⟩ = some (.int .i64 al) := hk5 _ _ _ (p00)
  replace p01 : w5.cell? ⟨w.heap.size, 1, none⟩ = some (.int .i64 ah) := hk5 _ _ _ (p01)
  replace p10 : w5.cell? ⟨w.heap.size + 1, 0, none⟩ = some (.int .i64 bl) := hk5 _ _ _ (p10)
  replace p11 : w5.cell? ⟨w.heap.size + 1, 1, none⟩ = some (.int .i64 bh) := hk5 _ _ _ (p11)
  have bp00 : w.heap.size < w5.heap.size := World.block_lt_of_cell? w5 ⟨w.heap.size, 0, none⟩ p00
  have bp10 : w.heap.size + 1 < w5.heap.size := World.block_lt_of_cell? w5 ⟨w.heap.size + 1, 0, none⟩ p10
  clear hk5
  go_wp2_with fail
  refine useK w (s.out _) (by go_grown) ?_; rintro e w6 rfl hB6 hk6 hs6
  replace p00 : w6.cell? ⟨w.heap.size, 0, none⟩ = some (.int .i64 al) := hk6 _ _ _ ((keepA _ p00))
  replace p01 : w6.cell? ⟨w.heap.size, 1, none⟩ = some (.int .i64 ah) := hk6 _ _ _ ((keepA _ p01))
  replace p10 : w6.cell? ⟨w.heap.size + 1, 0, none⟩ = some (.int .i64 bl) := hk6 _ _ _ ((keepA _ p10))
  replace p11 : w6.cell? ⟨w.heap.size + 1, 1, none⟩ = some (.int .i64 bh) := hk6 _ _ _ ((keepA _ p11))
  replace l500 : w6.cell? ⟨w5.heap.size, 0, none⟩ = some (.int .i64 al) := hk6 _ _ _ (by simp [go_sem])
  replace l501 : w6.cell? ⟨w5.heap.size, 1, none⟩ = some (.int .i64 al) := hk6 _ _ _ (by simp [go_sem])
  have bp00 : w.heap.size < w6.heap.size := World.block_lt_of_cell? w6 ⟨w.heap.size, 0, none⟩ p00
  have bp10 : w.heap.size + 1 < w6.heap.size := World.block_lt_of_cell? w6 ⟨w.heap.size + 1, 0, none⟩ p10
  have bl500 : w5.heap.size < w6.heap.size := World.block_lt_of_cell? w6 ⟨w5.heap.size, 0, none⟩ l500
  clear hk6
  go_wp2_with fail
  refine useK w (a.out _) (by go_grown) ?_; rintro e w7 rfl hB7 hk7 hs7
  replace p00 : w7.cell? ⟨w.heap.size, 0, none⟩ = some (.int .i64 al) := hk7 _ _ _ ((keepA _ p00))
  replace p01 : w7.cell? ⟨w.heap.size, 1, none⟩ = some (.int .i64 ah) := hk7 _ _ _ ((keepA _ p01))
  replace p10 : w7.cell? ⟨w.heap.size + 1, 0, none⟩ = some (.int .i64 bl) := hk7 _ _ _ ((keepA _ p10))
  replace p11 : w7.cell? ⟨w.heap.size + 1, 1, none⟩ = some (.int .i64 bh) := hk7 _ _ _ ((keepA _ p11))
  replace l500 : w7.cell? ⟨w5.heap.size, 0, none⟩ = some (.int .i64 al) := hk7 _ _ _ ((keepA _ l500))
  replace l501 : w7.cell? ⟨w5.heap.size, 1, none⟩ = some (.int .i64 al) := hk7 _ _ _ ((keepA _ l501))
  replace l600 : w7.cell? ⟨w6.heap.size, 0, none⟩ = some (.int .i64 dl) := hk7 _ _ _ (by simp [go_sem])
  replace l601 : w7.cell? ⟨w6.heap.size, 1, none⟩ = some (.int .i64 dh) := hk7 _ _ _ (by simp [go_sem])
  have bp00 : w.heap.size < w7.heap.size := World.block_lt_of_cell? w7 ⟨w.heap.size, 0, none⟩ p00
  have bp10 : w.heap.size + 1 < w7.heap.size := World.block_lt_of_cell? w7 ⟨w.heap.size + 1, 0, none⟩ p10
  have bl500 : w5.heap.size < w7.heap.size := World.block_lt_of_cell? w7 ⟨w5.heap.size, 0, none⟩ l500
  have bl600 : w6.heap.size < w7.heap.size := World.block_lt_of_cell? w7 ⟨w6.heap.size, 0, none⟩ l600
  clear hk7
  go_wp2_with fail
  refine useK w (d.out _) (by go_grown) ?_; rintro e w8 rfl hB8 hk8 hs8
  replace p00 : w8.cell? ⟨w.heap.size, 0, none⟩ = some (.int .i64 al) := hk8 _ _ _ ((keepA _ p00))
  replace p01 : w8.cell? ⟨w.heap.size, 1, none⟩ = some (.int .i64 ah) := hk8 _ _ _ ((keepA _ p01))
  replace p10 : w8.cell? ⟨w.heap.size + 1, 0, none⟩ = some (.int .i64 bl) := hk8 _ _ _ ((keepA _ p10))
  replace p11 : w8.cell? ⟨w.heap.size + 1, 1, none⟩ = some (.int .i64 bh) := hk8 _ _ _ ((keepA _ p11))
  replace l500 : w8.cell? ⟨w5.heap.size, 0, none⟩ = some (.int .i64 al) := hk8 _ _ _ ((keepA _ l500))
  replace l501 : w8.cell? ⟨w5.heap.size, 1, none⟩ = some (.int .i64 al) := hk8 _ _ _ ((keepA _ l501))
  replace l600 : w8.cell? ⟨w6.heap.size, 0, none⟩ = some (.int .i64 dl) := hk8 _ _ _ ((keepA _ l600))
  replace l601 : w8.cell? ⟨w6.heap.size, 1, none⟩ = some (.int .i64 dh) := hk8 _ _ _ ((keepA _ l601))
  replace l700 : w8.cell? ⟨w7.heap.size, 0, none⟩ = some (.int .i64 sl) := hk8 _ _ _ (by simp [go_sem])
  replace l701 : w8.cell? ⟨w7.heap.size, 1, none⟩ = some (.int .i64 sh) := hk8 _ _ _ (by simp [go_sem])
  have bp00 : w.heap.size < w8.heap.size := World.block_lt_of_cell? w8 ⟨w.heap.size, 0, none⟩ p00
  have bp10 : w.heap.size + 1 < w8.heap.size := World.block_lt_of_cell? w8 ⟨w.heap.size + 1, 0, none⟩ p10
  have bl500 : w5.heap.size < w8.heap.size := World.block_lt_of_cell? w8 ⟨w5.heap.size, 0, none⟩ l500
  have bl600 : w6.heap.size < w8.heap.size := World.block_lt_of_cell? w8 ⟨w6.heap.size, 0, none⟩ l600
  have bl700 : w7.heap.size < w8.heap.size := World.block_lt_of_cell? w8 ⟨w7.heap.size, 0, none⟩ l700
  clear hk8
  go_wp2_with fail
  refine useK w (m.out _) (by go_grown) ?_; rintro e w9 rfl hB9 hk9 hs9
  replace p00 : w9.cell? ⟨w.heap.size, 0, none⟩ = some (.int .i64 al) := hk9 _ _ _ ((keepA _ p00))
  replace p01 : w9.cell? ⟨w.heap.size, 1, none⟩ = some (.int .i64 ah) := hk9 _ _ _ ((keepA _ p01))
  replace p10 : w9.cell? ⟨w.heap.size + 1, 0, none⟩ = some (.int .i64 bl) := hk9 _ _ _ ((keepA _ p10))
  replace p11 : w9.cell? ⟨w.heap.size + 1, 1, none⟩ = some (.int .i64 bh) := hk9 _ _ _ ((keepA _ p11))
  replace l500 : w9.cell? ⟨w5.heap.size, 0, none⟩ = some (.int .i64 al) := hk9 _ _ _ ((keepA _ l500))
  replace l501 : w9.cell? ⟨w5.heap.size, 1, none⟩ = some (.int .i64 al) := hk9 _ _ _ ((keepA _ l501))
  replace l600 : w9.cell? ⟨w6.heap.size, 0, none⟩ = some (.int .i64 dl) := hk9 _ _ _ ((keepA _ l600))
  replace l601 : w9.cell? ⟨w6.heap.size, 1, none⟩ = some (.int .i64 dh) := hk9 _ _ _ ((keepA _ l601))
  replace l700 : w9.cell? ⟨w7.heap.size, 0, none⟩ = some (.int .i64 sl) := hk9 _ _ _ ((keepA _ l700))
  replace l701 : w9.cell? ⟨w7.heap.size, 1, none⟩ = some (.int .i64 sh) := hk9 _ _ _ ((keepA _ l701))
  replace l800 : w9.cell? ⟨w8.heap.size, 0, none⟩ = some (.int .i64 ql) := hk9 _ _ _ (by simp [go_sem])
  replace l801 : w9.cell? ⟨w8.heap.size, 1, none⟩ = some (.int .i64 qh) := hk9 _ _ _ (by simp [go_sem])
  have bp00 : w.heap.size < w9.heap.size := World.block_lt_of_cell? w9 ⟨w.heap.size, 0, none⟩ p00
  have bp10 : w.heap.size + 1 < w9.heap.size := World.block_lt_of_cell? w9 ⟨w.heap.size + 1, 0, none⟩ p10
  have bl500 : w5.heap.size < w9.heap.size := World.block_lt_of_cell? w9 ⟨w5.heap.size, 0, none⟩ l500
  have bl600 : w6.heap.size < w9.heap.size := World.block_lt_of_cell? w9 ⟨w6.heap.size, 0, none⟩ l600
  have bl700 : w7.heap.size < w9.heap.size := World.block_lt_of_cell? w9 ⟨w7.heap.size, 0, none⟩ l700
  have bl800 : w8.heap.size < w9.heap.size := World.block_lt_of_cell? w9 ⟨w8.heap.size, 0, none⟩ l800
  clear hk9
  go_wp2_with fail
  go_ret
  exact ⟨rfl, by go_grown⟩
theorem back_x_00 (al ah bl bh sl sh dl dh ql qh ml mh f g : Int) (T : List UInt8) (w : World) (zf : f ≠ 0)
    (k1 : Hid (∀ w : World, Calls Tryd.prog 31 #[.agg #[.int .i64 al, .int .i64 ah]] w fun e w' => e = .returned (.int .i64 0) ∧ Below w.heap.size w w'))
    (k2 : Hid (∀ w : World, Calls Tryd.prog 31 #[.agg #[.int .i64 bl, .int .i64 bh]] w fun e w' => e = .returned (.int .i64 0) ∧ Below w.heap.size w w'))
    (t : Hid (∀ W : World, Below w.heap.size w W → Calls Tryd.prog 14 #[.int .i64 al] W fun e w' => e = .returned (.string ⟨T.toArray⟩) ∧ Below W.heap.size W w'))
    (r : Hid (∀ w : World, Calls Tryd.prog 12 #[.string ⟨T.toArray⟩] w fun e w' => e = .returned (.tuple #[.agg #[.int .i64 al, .int .i64 al], .int .i64 0]) ∧ Below w.heap.size w w'))
    (s : Hid (∀ w : World, Calls Tryd.prog 33 #[.agg #[.int .i64 al, .int .i64 ah], .agg #[.int .i64 bl, .int .i64 bh]] w fun e w' => e = .returned (.tuple #[.agg #[.int .i64 dl, .int .i64 dh], .int .i64 f]) ∧ Below w.heap.size w w'))
    (a : Hid (∀ w : World, Calls Tryd.prog 28 #[.agg #[.int .i64 dl, .int .i64 dh], .agg #[.int .i64 bl, .int .i64 bh]] w fun e w' => e = .returned (.tuple #[.agg #[.int .i64 sl, .int .i64 sh], .int .i64 g]) ∧ Below w.heap.size w w'))
    (d : Hid (∀ w : World, Calls Tryd.prog 19 #[.agg #[.int .i64 al, .int .i64 ah], .agg #[.int .i64 bl, .int .i64 bh]] w fun e w' => e = .returned (.tuple #[.agg #[.int .i64 ql, .int .i64 qh], .int .i64 0]) ∧ Below w.heap.size w w'))
    (m : Hid (∀ w : World, Calls Tryd.prog 34 #[.agg #[.int .i64 ql, .int .i64 qh], .agg #[.int .i64 bl, .int .i64 bh]] w fun e w' => e = .returned (.tuple #[.agg #[.int .i64 ml, .int .i64 mh], .int .i64 0]) ∧ Below w.heap.size w w'))
    (wj : Hid (∀ w : World, Calls Tryd.prog 48 #[.agg #[.int .i64 al, .int .i64 ah], .agg #[.int .i64 ml, .int .i64 mh]] w fun e w' => e = .returned (.bool true) ∧ Below w.heap.size w w'))
    : Calls Tryd.prog 8 #[.agg #[.int .i64 al, .int .i64 ah], .agg #[.int .i64 bl, .int .i64 bh]] w fun e w' => e = .returned (.bool true) ∧ Below w.heap.size w w' := by
  have zf1 : (f == 0) = false := by simpa using zf
  clear zf
  go_enter Tryd.func8, Tryd.ntmps8
  go_wp2_with fail
  refine useK w (alive_any _) (by go_grown) ?_; rintro e w1 rfl hB1 hk1 hs1
  replace p00 : w1.cell? ⟨w.heap.size, 0, none⟩ = some (.int .i64 al) := hk1 _ _ _ (by simp [go_sem])
  replace p01 : w1.cell? ⟨w.heap.size, 1, none⟩ = some (.int .i64 ah) := hk1 _ _ _ (by simp [go_sem])
  replace p10 : w1.cell? ⟨w.heap.size + 1, 0, none⟩ = some (.int .i64 bl) := hk1 _ _ _ (by simp [go_sem])
  replace p11 : w1.cell? ⟨w.heap.size + 1, 1, none⟩ = some (.int .i64 bh) := hk1 _ _ _ (by simp [go_sem])
  have bp00 : w.heap.size < w1.heap.size := World.block_lt_of_cell? w1 ⟨w.heap.size, 0, none⟩ p00
  have bp10 : w.heap.size + 1 < w1.heap.size := World.block_lt_of_cell? w1 ⟨w.heap.size + 1, 0, none⟩ p10
  clear hk1
  go_wp2_with fail
  refine useK w (k1.out _) (by go_grown) ?_; rintro e w2 rfl hB2 hk2 hs2
  replace p00 : w2.cell? ⟨w.heap.size, 0, none⟩ = some (.int .i64 al) := hk2 _ _ _ (p00)
  replace p01 : w2.cell? ⟨w.heap.size, 1, none⟩ = some (.int .i64 ah) := hk2 _ _ _ (p01)
  replace p10 : w2.cell? ⟨w.heap.size + 1, 0, none⟩ = some (.int .i64 bl) := hk2 _ _ _ (p10)
  replace p11 : w2.cell? ⟨w.heap.size + 1, 1, none⟩ = some (.int .i64 bh) := hk2 _ _ _ (p11)
  have bp00 : w.heap.size < w2.heap.size := World.block_lt_of_cell? w2 ⟨w.heap.size, 0, none⟩ p00
  have bp10 : w.heap.size + 1 < w2.heap.size := World.block_lt_of_cell? w2 ⟨w.heap.size + 1, 0, none⟩ p10
  clear hk2
  go_wp2_with fail
  refine useK w (k2.out _) (by go_grown) ?_; rintro e w3 rfl hB3 hk3 hs3
  replace p00 : w3.cell? ⟨w.heap.size, 0, none⟩ = some (.int .i64 al) := hk3 _ _ _ (p00)
  replace p01 : w3.cell? ⟨w.heap.size, 1, none⟩ = some (.int .i64 ah) := hk3 _ _ _ (p01)
  replace p10 : w3.cell? ⟨w.heap.size + 1, 0, none⟩ = some (.int .i64 bl) := hk3 _ _ _ (p10)
  replace p11 : w3.cell? ⟨w.heap.size + 1, 1, none⟩ = some (.int .i64 bh) := hk3 _ _ _ (p11)
  have bp00 : w.heap.size < w3.heap.size := World.block_lt_of_cell? w3 ⟨w.heap.size, 0, none⟩ p00
  have bp10 : w.heap.size + 1 < w3.heap.size := World.block_lt_of_cell? w3 ⟨w.heap.size + 1, 0, none⟩ p10
  clear hk3
  go_wp2_with fail
  refine useK w (t.out _ (by go_grown)) (by go_grown) ?_; rintro e w4 rfl hB4 hk4 hs4
  replace p00 : w4.cell? ⟨w.heap.size, 0, none⟩ = some (.int .i64 al) := hk4 _ _ _ (p00)
  replace p01 : w4.cell? ⟨w.heap.size, 1, none⟩ = some (.int .i64 ah) := hk4 _ _ _ (p01)
  replace p10 : w4.cell? ⟨w.heap.size + 1, 0, none⟩ = some (.int .i64 bl) := hk4 _ _ _ (p10)
  replace p11 : w4.cell? ⟨w.heap.size + 1, 1, none⟩ = some (.int .i64 bh) := hk4 _ _ _ (p11)
  have bp00 : w.heap.size < w4.heap.size := World.block_lt_of_cell? w4 ⟨w.heap.size, 0, none⟩ p00
  have bp10 : w.heap.size + 1 < w4.heap.size := World.block_lt_of_cell? w4 ⟨w.heap.size + 1, 0, none⟩ p10
  clear hk4
  go_wp2_with fail
  refine useK w (r.out _) (by go_grown) ?_; rintro e w5 rfl hB5 hk5 hs5
  replace p00 : w5.cell? ⟨w.heap.size, 0, none⟩ = some (.int .i64 al) := hk5 _ _ _ (p00)
  replace p01 : w5.cell? ⟨w.heap.size, 1, none⟩ = some (.int .i64 ah) := hk5 _ _ _ (p01)
  replace p10 : w5.cell? ⟨w.heap.size + 1, 0, none⟩ = some (.int .i64 bl) := hk5 _ _ _ (p10)
  replace p11 : w5.cell? ⟨w.heap.size + 1, 1, none⟩ = some (.int .i64 bh) := hk5 _ _ _ (p11)
  have bp00 : w.heap.size < w5.heap.size := World.block_lt_of_cell? w5 ⟨w.heap.size, 0, none⟩ p00
  have bp10 : w.heap.size + 1 < w5.heap.size := World.block_lt_of_cell? w5 ⟨w.heap.size + 1, 0, none⟩ p10
  clear hk5
  go_wp2_with fail
  refine useK w (s.out _) (by go_grown) ?_; rintro e w6 rfl hB6 hk6 hs6
  replace p00 : w6.cell? ⟨w.heap.size, 0, none⟩ = some (.int .i64 al) := hk6 _ _ _ ((keepA _ p00))
  replace p01 : w6.cell? ⟨w.heap.size, 1, none⟩ = some (.int .i64 ah) := hk6 _ _ _ ((keepA _ p01))
  replace p10 : w6.cell? ⟨w.heap.size + 1, 0, none⟩ = some (.int .i64 bl) := hk6 _ _ _ ((keepA _ p10))
  replace p11 : w6.cell? ⟨w.heap.size + 1, 1, none⟩ = some (.int .i64 bh) := hk6 _ _ _ ((keepA _ p11))
  replace l500 : w6.cell? ⟨w5.heap.size, 0, none⟩ = some (.int .i64 al) := hk6 _ _ _ (by simp [go_sem])
  replace l501 : w6.cell? ⟨w5.heap.size, 1, none⟩ = some (.int .i64 al) := hk6 _ _ _ (by simp [go_sem])
  have bp00 : w.heap.size < w6.heap.size := World.block_lt_of_cell? w6 ⟨w.heap.size, 0, none⟩ p00
  have bp10 : w.heap.size + 1 < w6.heap.size := World.block_lt_of_cell? w6 ⟨w.heap.size + 1, 0, none⟩ p10
  have bl500 : w5.heap.size < w6.heap.size := World.block_lt_of_cell? w6 ⟨w5.heap.size, 0, none⟩ l500
  clear hk6
  go_wp2_with fail
  refine useK w (a.out _) (by go_grown) ?_; rintro e w7 rfl hB7 hk7 hs7
  replace p00 : w7.cell? ⟨w.heap.size, 0, none⟩ = some (.int .i64 al) := hk7 _ _ _ ((keepA _ p00))
  replace p01 : w7.cell? ⟨w.heap.size, 1, none⟩ = some (.int .i64 ah) := hk7 _ _ _ ((keepA _ p01))
  replace p10 : w7.cell? ⟨w.heap.size + 1, 0, none⟩ = some (.int .i64 bl) := hk7 _ _ _ ((keepA _ p10))
  replace p11 : w7.cell? ⟨w.heap.size + 1, 1, none⟩ = some (.int .i64 bh) := hk7 _ _ _ ((keepA _ p11))
  replace l500 : w7.cell? ⟨w5.heap.size, 0, none⟩ = some (.int .i64 al) := hk7 _ _ _ ((keepA _ l500))
  replace l501 : w7.cell? ⟨w5.heap.size, 1, none⟩ = some (.int .i64 al) := hk7 _ _ _ ((keepA _ l501))
  replace l600 : w7.cell? ⟨w6.heap.size, 0, none⟩ = some (.int .i64 dl) := hk7 _ _ _ (by simp [go_sem])
  replace l601 : w7.cell? ⟨w6.heap.size, 1, none⟩ = some (.int .i64 dh) := hk7 _ _ _ (by simp [go_sem])
  have bp00 : w.heap.size < w7.heap.size := World.block_lt_of_cell? w7 ⟨w.heap.size, 0, none⟩ p00
  have bp10 : w.heap.size + 1 < w7.heap.size := World.block_lt_of_cell? w7 ⟨w.heap.size + 1, 0, none⟩ p10
  have bl500 : w5.heap.size < w7.heap.size := World.block_lt_of_cell? w7 ⟨w5.heap.size, 0, none⟩ l500
  have bl600 : w6.heap.size < w7.heap.size := World.block_lt_of_cell? w7 ⟨w6.heap.size, 0, none⟩ l600
  clear hk7
  go_wp2_with fail
  refine useK w (d.out _) (by go_grown) ?_; rintro e w8 rfl hB8 hk8 hs8
  replace p00 : w8.cell? ⟨w.heap.size, 0, none⟩ = some (.int .i64 al) := hk8 _ _ _ ((keepA _ p00))
  replace p01 : w8.cell? ⟨w.heap.size, 1, none⟩ = some (.int .i64 ah) := hk8 _ _ _ ((keepA _ p01))
  replace p10 : w8.cell? ⟨w.heap.size + 1, 0, none⟩ = some (.int .i64 bl) := hk8 _ _ _ ((keepA _ p10))
  replace p11 : w8.cell? ⟨w.heap.size + 1, 1, none⟩ = some (.int .i64 bh) := hk8 _ _ _ ((keepA _ p11))
  replace l500 : w8.cell? ⟨w5.heap.size, 0, none⟩ = some (.int .i64 al) := hk8 _ _ _ ((keepA _ l500))
  replace l501 : w8.cell? ⟨w5.heap.size, 1, none⟩ = some (.int .i64 al) := hk8 _ _ _ ((keepA _ l501))
  replace l600 : w8.cell? ⟨w6.heap.size, 0, none⟩ = some (.int .i64 dl) := hk8 _ _ _ ((keepA _ l600))
  replace l601 : w8.cell? ⟨w6.heap.size, 1, none⟩ = some (.int .i64 dh) := hk8 _ _ _ ((keepA _ l601))
  replace l700 : w8.cell? ⟨w7.heap.size, 0, none⟩ = some (.int .i64 sl) := hk8 _ _ _ (by simp [go_sem])
  replace l701 : w8.cell? ⟨w7.heap.size, 1, none⟩ = some (.int .i64 sh) := hk8 _ _ _ (by simp [go_sem])
  have bp00 : w.heap.size < w8.heap.size := World.block_lt_of_cell? w8 ⟨w.heap.size, 0, none⟩ p00
  have bp10 : w.heap.size + 1 < w8.heap.size := World.block_lt_of_cell? w8 ⟨w.heap.size + 1, 0, none⟩ p10
  have bl500 : w5.heap.size < w8.heap.size := World.block_lt_of_cell? w8 ⟨w5.heap.size, 0, none⟩ l500
  have bl600 : w6.heap.size < w8.heap.size := World.block_lt_of_cell? w8 ⟨w6.heap.size, 0, none⟩ l600
  have bl700 : w7.heap.size < w8.heap.size := World.block_lt_of_cell? w8 ⟨w7.heap.size, 0, none⟩ l700
  clear hk8
  go_wp2_with fail
  refine useK w (m.out _) (by go_grown) ?_; rintro e w9 rfl hB9 hk9 hs9
  replace p00 : w9.cell? ⟨w.heap.size, 0, none⟩ = some (.int .i64 al) := hk9 _ _ _ ((keepA _ p00))
  replace p01 : w9.cell? ⟨w.heap.size, 1, none⟩ = some (.int .i64 ah) := hk9 _ _ _ ((keepA _ p01))
  replace p10 : w9.cell? ⟨w.heap.size + 1, 0, none⟩ = some (.int .i64 bl) := hk9 _ _ _ ((keepA _ p10))
  replace p11 : w9.cell? ⟨w.heap.size + 1, 1, none⟩ = some (.int .i64 bh) := hk9 _ _ _ ((keepA _ p11))
  replace l500 : w9.cell? ⟨w5.heap.size, 0, none⟩ = some (.int .i64 al) := hk9 _ _ _ ((keepA _ l500))
  replace l501 : w9.cell? ⟨w5.heap.size, 1, none⟩ = some (.int .i64 al) := hk9 _ _ _ ((keepA _ l501))
  replace l600 : w9.cell? ⟨w6.heap.size, 0, none⟩ = some (.int .i64 dl) := hk9 _ _ _ ((keepA _ l600))
  replace l601 : w9.cell? ⟨w6.heap.size, 1, none⟩ = some (.int .i64 dh) := hk9 _ _ _ ((keepA _ l601))
  replace l700 : w9.cell? ⟨w7.heap.size, 0, none⟩ = some (.int .i64 sl) := hk9 _ _ _ ((keepA _ l700))
  replace l701 : w9.cell? ⟨w7.heap.size, 1, none⟩ = some (.int .i64 sh) := hk9 _ _ _ ((keepA _ l701))
  replace l800 : w9.cell? ⟨w8.heap.size, 0, none⟩ = some (.int .i64 ql) := hk9 _ _ _ (by simp [go_sem])
  replace l801 : w9.cell? ⟨w8.heap.size, 1, none⟩ = some (.int .i64 qh) := hk9 _ _ _ (by simp [go_sem])
  have bp00 : w.heap.size < w9.heap.size := World.block_lt_of_cell? w9 ⟨w.heap.size, 0, none⟩ p00
  have bp10 : w.heap.size + 1 < w9.heap.size := World.block_lt_of_cell? w9 ⟨w.heap.size + 1, 0, none⟩ p10
  have bl500 : w5.heap.size < w9.heap.size := World.block_lt_of_cell? w9 ⟨w5.heap.size, 0, none⟩ l500
  have bl600 : w6.heap.size < w9.heap.size := World.block_lt_of_cell? w9 ⟨w6.heap.size, 0, none⟩ l600
  have bl700 : w7.heap.size < w9.heap.size := World.block_lt_of_cell? w9 ⟨w7.heap.size, 0, none⟩ l700
  have bl800 : w8.heap.size < w9.heap.size := World.block_lt_of_cell? w9 ⟨w8.heap.size, 0, none⟩ l800
  clear hk9
  go_wp2_with fail
  refine useK w (wj.out _) (by go_grown) ?_; rintro e w10 rfl hB10 hk10 hs10
  replace p00 : w10.cell? ⟨w.heap.size, 0, none⟩ = some (.int .i64 al) := hk10 _ _ _ ((keepA _ p00))
  replace p01 : w10.cell? ⟨w.heap.size, 1, none⟩ = some (.int .i64 ah) := hk10 _ _ _ ((keepA _ p01))
  replace p10 : w10.cell? ⟨w.heap.size + 1, 0, none⟩ = some (.int .i64 bl) := hk10 _ _ _ ((keepA _ p10))
  replace p11 : w10.cell? ⟨w.heap.size + 1, 1, none⟩ = some (.int .i64 bh) := hk10 _ _ _ ((keepA _ p11))
  replace l500 : w10.cell? ⟨w5.heap.size, 0, none⟩ = some (.int .i64 al) := hk10 _ _ _ ((keepA _ l500))
  replace l501 : w10.cell? ⟨w5.heap.size, 1, none⟩ = some (.int .i64 al) := hk10 _ _ _ ((keepA _ l501))
  replace l600 : w10.cell? ⟨w6.heap.size, 0, none⟩ = some (.int .i64 dl) := hk10 _ _ _ ((keepA _ l600))
  replace l601 : w10.cell? ⟨w6.heap.size, 1, none⟩ = some (.int .i64 dh) := hk10 _ _ _ ((keepA _ l601))
  replace l700 : w10.cell? ⟨w7.heap.size, 0, none⟩ = some (.int .i64 sl) := hk10 _ _ _ ((keepA _ l700))
  replace l701 : w10.cell? ⟨w7.heap.size, 1, none⟩ = some (.int .i64 sh) := hk10 _ _ _ ((keepA _ l701))
  replace l800 : w10.cell? ⟨w8.heap.size, 0, none⟩ = some (.int .i64 ql) := hk10 _ _ _ ((keepA _ l800))
  replace l801 : w10.cell? ⟨w8.heap.size, 1, none⟩ = some (.int .i64 qh) := hk10 _ _ _ ((keepA _ l801))
  replace l900 : w10.cell? ⟨w9.heap.size, 0, none⟩ = some (.int .i64 ml) := hk10 _ _ _ (by simp [go_sem])
  replace l901 : w10.cell? ⟨w9.heap.size, 1, none⟩ = some (.int .i64 mh) := hk10 _ _ _ (by simp [go_sem])
  have bp00 : w.heap.size < w10.heap.size := World.block_lt_of_cell? w10 ⟨w.heap.size, 0, none⟩ p00
  have bp10 : w.heap.size + 1 < w10.heap.size := World.block_lt_of_cell? w10 ⟨w.heap.size + 1, 0, none⟩ p10
  have bl500 : w5.heap.size < w10.heap.size := World.block_lt_of_cell? w10 ⟨w5.heap.size, 0, none⟩ l500
  have bl600 : w6.heap.size < w10.heap.size := World.block_lt_of_cell? w10 ⟨w6.heap.size, 0, none⟩ l600
  have bl700 : w7.heap.size < w10.heap.size := World.block_lt_of_cell? w10 ⟨w7.heap.size, 0, none⟩ l700
  have bl800 : w8.heap.size < w10.heap.size := World.block_lt_of_cell? w10 ⟨w8.heap.size, 0, none⟩ l800
  have bl900 : w9.heap.size < w10.heap.size := World.block_lt_of_cell? w10 ⟨w9.heap.size, 0, none⟩ l900
  clear hk10
  go_wp2_with fail
  go_ret
  exact ⟨rfl, by go_grown⟩
theorem back_x_0x (al ah bl bh sl sh dl dh ql qh ml mh f g i : Int) (T : List UInt8) (w : World) (zf : f ≠ 0) (zi : i ≠ 0)
    (k1 : Hid (∀ w : World, Calls Tryd.prog 31 #[.agg #[.int .i64 al, .int .i64 ah]] w fun e w' => e = .returned (.int .i64 0) ∧ Below w.heap.size w w'))
    (k2 : Hid (∀ w : World, Calls Tryd.prog 31 #[.agg #[.int .i64 bl, .int .i64 bh]] w fun e w' => e = .returned (.int .i64 0) ∧ Below w.heap.size w w'))
    (t : Hid (∀ W : World, Below w.heap.size w W → Calls Tryd.prog 14 #[.int .i64 al] W fun e w' => e = .returned (.string ⟨T.toArray⟩) ∧ Below W.heap.size W w'))
    (r : Hid (∀ w : World, Calls Tryd.prog 12 #[.string ⟨T.toArray⟩] w fun e w' => e = .returned (.tuple #[.agg #[.int .i64 al, .int .i64 al], .int .i64 0]) ∧ Below w.heap.size w w'))
    (s : Hid (∀ w : World, Calls Tryd.prog 33 #[.agg #[.int .i64 al, .int .i64 ah], .agg #[.int .i64 bl, .int .i64 bh]] w fun e w' => e = .returned (.tuple #[.agg #[.int .i64 dl, .int .i64 dh], .int .i64 f]) ∧ Below w.heap.size w w'))
    (a : Hid (∀ w : World, Calls Tryd.prog 28 #[.agg #[.int .i64 dl, .int .i64 dh], .agg #[.int .i64 bl, .int .i64 bh]] w fun e w' => e = .returned (.tuple #[.agg #[.int .i64 sl, .int .i64 sh], .int .i64 g]) ∧ Below w.heap.size w w'))
    (d : Hid (∀ w : World, Calls Tryd.prog 19 #[.agg #[.int .i64 al, .int .i64 ah], .agg #[.int .i64 bl, .int .i64 bh]] w fun e w' => e = .returned (.tuple #[.agg #[.int .i64 ql, .int .i64 qh], .int .i64 0]) ∧ Below w.heap.size w w'))
    (m : Hid (∀ w : World, Calls Tryd.prog 34 #[.agg #[.int .i64 ql, .int .i64 qh], .agg #[.int .i64 bl, .int .i64 bh]] w fun e w' => e = .returned (.tuple #[.agg #[.int .i64 ml, .int .i64 mh], .int .i64 i]) ∧ Below w.heap.size w w'))
    : Calls Tryd.prog 8 #[.agg #[.int .i64 al, .int .i64 ah], .agg #[.int .i64 bl, .int .i64 bh]] w fun e w' => e = .returned (.bool true) ∧ Below w.heap.size w w' := by
  have zf1 : (f == 0) = false := by simpa using zf
  have zi1 : (i != 0) = true := by simpa using zi
  clear zf zi
  go_enter Tryd.func8, Tryd.ntmps8
  go_wp2_with fail
  refine useK w (alive_any _) (by go_grown) ?_; rintro e w1 rfl hB1 hk1 hs1
  replace p00 : w1.cell? ⟨w.heap.size, 0, none⟩ = some (.int .i64 al) := hk1 _ _ _ (by simp [go_sem])
  replace p01 : w1.cell? ⟨w.heap.size, 1, none⟩ = some (.int .i64 ah) := hk1 _ _ _ (by simp [go_sem])
  replace p10 : w1.cell? ⟨w.heap.size + 1, 0, none⟩ = some (.int .i64 bl) := hk1 _ _ _ (by simp [go_sem])
  replace p11 : w1.cell? ⟨w.heap.size + 1, 1, none⟩ = some (.int .i64 bh) := hk1 _ _ _ (by simp [go_sem])
  have bp00 : w.heap.size < w1.heap.size := World.block_lt_of_cell? w1 ⟨w.heap.size, 0, none⟩ p00
  have bp10 : w.heap.size + 1 < w1.heap.size := World.block_lt_of_cell? w1 ⟨w.heap.size + 1, 0, none⟩ p10
  clear hk1
  go_wp2_with fail
  refine useK w (k1.out _) (by go_grown) ?_; rintro e w2 rfl hB2 hk2 hs2
  replace p00 : w2.cell? ⟨w.heap.size, 0, none⟩ = some (.int .i64 al) := hk2 _ _ _ (p00)
  replace p01 : w2.cell? ⟨w.heap.size, 1, none⟩ = some (.int .i64 ah) := hk2 _ _ _ (p01)
  replace p10 : w2.cell? ⟨w.heap.size + 1, 0, none⟩ = some (.int .i64 bl) := hk2 _ _ _ (p10)
  replace p11 : w2.cell? ⟨w.heap.size + 1, 1, none⟩ = some (.int .i64 bh) := hk2 _ _ _ (p11)
  have bp00 : w.heap.size < w2.heap.size := World.block_lt_of_cell? w2 ⟨w.heap.size, 0, none⟩ p00
  have bp10 : w.heap.size + 1 < w2.heap.size := World.block_lt_of_cell? w2 ⟨w.heap.size + 1, 0, none⟩ p10
  clear hk2
  go_wp2_with fail
  refine useK w (k2.out _) (by go_grown) ?_; rintro e w3 rfl hB3 hk3 hs3
  replace p00 : w3.cell? ⟨w.heap.size, 0, none⟩ = some (.int .i64 al) := hk3 _ _ _ (p00)
  replace p01 : w3.cell? ⟨w.heap.size, 1, none⟩ = some (.int .i64 ah) := hk3 _ _ _ (p01)
  replace p10 : w3.cell? ⟨w.heap.size + 1, 0, none⟩ = some (.int .i64 bl) := hk3 _ _ _ (p10)
  replace p11 : w3.cell? ⟨w.heap.size + 1, 1, none⟩ = some (.int .i64 bh) := hk3 _ _ _ (p11)
  have bp00 : w.heap.size < w3.heap.size := World.block_lt_of_cell? w3 ⟨w.heap.size, 0, none⟩ p00
  have bp10 : w.heap.size + 1 < w3.heap.size := World.block_lt_of_cell? w3 ⟨w.heap.size + 1, 0, none⟩ p10
  clear hk3
  go_wp2_with fail
  refine useK w (t.out _ (by go_grown)) (by go_grown) ?_; rintro e w4 rfl hB4 hk4 hs4
  replace p00 : w4.cell? ⟨w.heap.size, 0, none⟩ = some (.int .i64 al) := hk4 _ _ _ (p00)
  replace p01 : w4.cell? ⟨w.heap.size, 1, none⟩ = some (.int .i64 ah) := hk4 _ _ _ (p01)
  replace p10 : w4.cell? ⟨w.heap.size + 1, 0, none⟩ = some (.int .i64 bl) := hk4 _ _ _ (p10)
  replace p11 : w4.cell? ⟨w.heap.size + 1, 1, none⟩ = some (.int .i64 bh) := hk4 _ _ _ (p11)
  have bp00 : w.heap.size < w4.heap.size := World.block_lt_of_cell? w4 ⟨w.heap.size, 0, none⟩ p00
  have bp10 : w.heap.size + 1 < w4.heap.size := World.block_lt_of_cell? w4 ⟨w.heap.size + 1, 0, none⟩ p10
  clear hk4
  go_wp2_with fail
  refine useK w (r.out _) (by go_grown) ?_; rintro e w5 rfl hB5 hk5 hs5
  replace p00 : w5.cell? ⟨w.heap.size, 0, none⟩ = some (.int .i64 al) := hk5 _ _ _ (p00)
  replace p01 : w5.cell? ⟨w.heap.size, 1, none⟩ = some (.int .i64 ah) := hk5 _ _ _ (p01)
  replace p10 : w5.cell? ⟨w.heap.size + 1, 0, none⟩ = some (.int .i64 bl) := hk5 _ _ _ (p10)
  replace p11 : w5.cell? ⟨w.heap.size + 1, 1, none⟩ = some (.int .i64 bh) := hk5 _ _ _ (p11)
  have bp00 : w.heap.size < w5.heap.size := World.block_lt_of_cell? w5 ⟨w.heap.size, 0, none⟩ p00
  have bp10 : w.heap.size + 1 < w5.heap.size := World.block_lt_of_cell? w5 ⟨w.heap.size + 1, 0, none⟩ p10
  clear hk5
  go_wp2_with fail
  refine useK w (s.out _) (by go_grown) ?_; rintro e w6 rfl hB6 hk6 hs6
  replace p00 : w6.cell? ⟨w.heap.size, 0, none⟩ = some (.int .i64 al) := hk6 _ _ _ ((keepA _ p00))
  replace p01 : w6.cell? ⟨w.heap.size, 1, none⟩ = some (.int .i64 ah) := hk6 _ _ _ ((keepA _ p01))
  replace p10 : w6.cell? ⟨w.heap.size + 1, 0, none⟩ = some (.int .i64 bl) := hk6 _ _ _ ((keepA _ p10))
  replace p11 : w6.cell? ⟨w.heap.size + 1, 1, none⟩ = some (.int .i64 bh) := hk6 _ _ _ ((keepA _ p11))
  replace l500 : w6.cell? ⟨w5.heap.size, 0, none⟩ = some (.int .i64 al) := hk6 _ _ _ (by simp [go_sem])
  replace l501 : w6.cell? ⟨w5.heap.size, 1, none⟩ = some (.int .i64 al) := hk6 _ _ _ (by simp [go_sem])
  have bp00 : w.heap.size < w6.heap.size := World.block_lt_of_cell? w6 ⟨w.heap.size, 0, none⟩ p00
  have bp10 : w.heap.size + 1 < w6.heap.size := World.block_lt_of_cell? w6 ⟨w.heap.size + 1, 0, none⟩ p10
  have bl500 : w5.heap.size < w6.heap.size := World.block_lt_of_cell? w6 ⟨w5.heap.size, 0, none⟩ l500
  clear hk6
  go_wp2_with fail
  refine useK w (a.out _) (by go_grown) ?_; rintro e w7 rfl hB7 hk7 hs7
  replace p00 : w7.cell? ⟨w.heap.size, 0, none⟩ = some (.int .i64 al) := hk7 _ _ _ ((keepA _ p00))
  replace p01 : w7.cell? ⟨w.heap.size, 1, none⟩ = some (.int .i64 ah) := hk7 _ _ _ ((keepA _ p01))
  replace p10 : w7.cell? ⟨w.heap.size + 1, 0, none⟩ = some (.int .i64 bl) := hk7 _ _ _ ((keepA _ p10))
  replace p11 : w7.cell? ⟨w.heap.size + 1, 1, none⟩ = some (.int .i64 bh) := hk7 _ _ _ ((keepA _ p11))
  replace l500 : w7.cell? ⟨w5.heap.size, 0, none⟩ = some (.int .i64 al) := hk7 _ _ _ ((keepA _ l500))
  replace l501 : w7.cell? ⟨w5.heap.size, 1, none⟩ = some (.int .i64 al) := hk7 _ _ _ ((keepA _ l501))
  replace l600 : w7.cell? ⟨w6.heap.size, 0, none⟩ = some (.int .i64 dl) := hk7 _ _ _ (by simp [go_sem])
  replace l601 : w7.cell? ⟨w6.heap.size, 1, none⟩ = some (.int .i64 dh) := hk7 _ _ _ (by simp [go_sem])
  have bp00 : w.heap.size < w7.heap.size := World.block_lt_of_cell? w7 ⟨w.heap.size, 0, none⟩ p00
  have bp10 : w.heap.size + 1 < w7.heap.size := World.block_lt_of_cell? w7 ⟨w.heap.size + 1, 0, none⟩ p10
  have bl500 : w5.heap.size < w7.heap.size := World.block_lt_of_cell? w7 ⟨w5.heap.size, 0, none⟩ l500
  have bl600 : w6.heap.size < w7.heap.size := World.block_lt_of_cell? w7 ⟨w6.heap.size, 0, none⟩ l600
  clear hk7
  go_wp2_with fail
  refine useK w (d.out _) (by go_grown) ?_; rintro e w8 rfl hB8 hk8 hs8
  replace p00 : w8.cell? ⟨w.heap.size, 0, none⟩ = some (.int .i64 al) := hk8 _ _ _ ((keepA _ p00))
  replace p01 : w8.cell? ⟨w.heap.size, 1, none⟩ = some (.int .i64 ah) := hk8 _ _ _ ((keepA _ p01))
  replace p10 : w8.cell? ⟨w.heap.size + 1, 0, none⟩ = some (.int .i64 bl) := hk8 _ _ _ ((keepA _ p10))
  replace p11 : w8.cell? ⟨w.heap.size + 1, 1, none⟩ = some (.int .i64 bh) := hk8 _ _ _ ((keepA _ p11))
  replace l500 : w8.cell? ⟨w5.heap.size, 0, none⟩ = some (.int .i64 al) := hk8 _ _ _ ((keepA _ l500))
  replace l501 : w8.cell? ⟨w5.heap.size, 1, none⟩ = some (.int .i64 al) := hk8 _ _ _ ((keepA _ l501))
  replace l600 : w8.cell? ⟨w6.heap.size, 0, none⟩ = some (.int .i64 dl) := hk8 _ _ _ ((keepA _ l600))
  replace l601 : w8.cell? ⟨w6.heap.size, 1, none⟩ = some (.int .i64 dh) := hk8 _ _ _ ((keepA _ l601))
  replace l700 : w8.cell? ⟨w7.heap.size, 0, none⟩ = some (.int .i64 sl) := hk8 _ _ _ (by simp [go_sem])
  replace l701 : w8.cell? ⟨w7.heap.size, 1, none⟩ = some (.int .i64 sh) := hk8 _ _ _ (by simp [go_sem])
  have bp00 : w.heap.size < w8.heap.size := World.block_lt_of_cell? w8 ⟨w.heap.size, 0, none⟩ p00
  have bp10 : w.heap.size + 1 < w8.heap.size := World.block_lt_of_cell? w8 ⟨w.heap.size + 1, 0, none⟩ p10
  have bl500 : w5.heap.size < w8.heap.size := World.block_lt_of_cell? w8 ⟨w5.heap.size, 0, none⟩ l500
  have bl600 : w6.heap.size < w8.heap.size := World.block_lt_of_cell? w8 ⟨w6.heap.size, 0, none⟩ l600
  have bl700 : w7.heap.size < w8.heap.size := World.block_lt_of_cell? w8 ⟨w7.heap.size, 0, none⟩ l700
  clear hk8
  go_wp2_with fail
  refine useK w (m.out _) (by go_grown) ?_; rintro e w9 rfl hB9 hk9 hs9
  replace p00 : w9.cell? ⟨w.heap.size, 0, none⟩ = some (.int .i64 al) := hk9 _ _ _ ((keepA _ p00))
  replace p01 : w9.cell? ⟨w.heap.size, 1, none⟩ = some (.int .i64 ah) := hk9 _ _ _ ((keepA _ p01))
  replace p10 : w9.cell? ⟨w.heap.size + 1, 0, none⟩ = some (.int .i64 bl) := hk9 _ _ _ ((keepA _ p10))
  replace p11 : w9.cell? ⟨w.heap.size + 1, 1, none⟩ = some (.int .i64 bh) := hk9 _ _ _ ((keepA _ p11))
  replace l500 : w9.cell? ⟨w5.heap.size, 0, none⟩ = some (.int .i64 al) := hk9 _ _ _ ((keepA _ l500))
  replace l501 : w9.cell? ⟨w5.heap.size, 1, none⟩ = some (.int .i64 al) := hk9 _ _ _ ((keepA _ l501))
  replace l600 : w9.cell? ⟨w6.heap.size, 0, none⟩ = some (.int .i64 dl) := hk9 _ _ _ ((keepA _ l600))
  replace l601 : w9.cell? ⟨w6.heap.size, 1, none⟩ = some (.int .i64 dh) := hk9 _ _ _ ((keepA _ l601))
  replace l700 : w9.cell? ⟨w7.heap.size, 0, none⟩ = some (.int .i64 sl) := hk9 _ _ _ ((keepA _ l700))
  replace l701 : w9.cell? ⟨w7.heap.size, 1, none⟩ = some (.int .i64 sh) := hk9 _ _ _ ((keepA _ l701))
  replace l800 : w9.cell? ⟨w8.heap.size, 0, none⟩ = some (.int .i64 ql) := hk9 _ _ _ (by simp [go_sem])
  replace l801 : w9.cell? ⟨w8.heap.size, 1, none⟩ = some (.int .i64 qh) := hk9 _ _ _ (by simp [go_sem])
  have bp00 : w.heap.size < w9.heap.size := World.block_lt_of_cell? w9 ⟨w.heap.size, 0, none⟩ p00
  have bp10 : w.heap.size + 1 < w9.heap.size := World.block_lt_of_cell? w9 ⟨w.heap.size + 1, 0, none⟩ p10
  have bl500 : w5.heap.size < w9.heap.size := World.block_lt_of_cell? w9 ⟨w5.heap.size, 0, none⟩ l500
  have bl600 : w6.heap.size < w9.heap.size := World.block_lt_of_cell? w9 ⟨w6.heap.size, 0, none⟩ l600
  have bl700 : w7.heap.size < w9.heap.size := World.block_lt_of_cell? w9 ⟨w7.heap.size, 0, none⟩ l700
  have bl800 : w8.heap.size < w9.heap.size := World.block_lt_of_cell? w9 ⟨w8.heap.size, 0, none⟩ l800
  clear hk9
  go_wp2_with fail
  go_ret
  exact ⟨rfl, by go_grown⟩
theorem back_x_x (al ah bl bh sl sh dl dh ql qh ml mh f g h i : Int) (T : List UInt8) (w : World) (zf : f ≠ 0) (zh : h ≠ 0)
    (k1 : Hid (∀ w : World, Calls Tryd.prog 31 #[.agg #[.int .i64 al, .int .i64 ah]] w fun e w' => e = .returned (.int .i64 0) ∧ Below w.heap.size w w'))
    (k2 : Hid (∀ w : World, Calls Tryd.prog 31 #[.agg #[.int .i64 bl, .int .i64 bh]] w fun e w' => e = .returned (.int .i64 0) ∧ Below w.heap.size w w'))
    (t : Hid (∀ W : World, Below w.heap.size w W → Calls Tryd.prog 14 #[.int .i64 al] W fun e w' => e = .returned (.string ⟨T.toArray⟩) ∧ Below W.heap.size W w'))
    (r : Hid (∀ w : World, Calls Tryd.prog 12 #[.string ⟨T.toArray⟩] w fun e w' => e = .returned (.tuple #[.agg #[.int .i64 al, .int .i64 al], .int .i64 0]) ∧ Below w.heap.size w w'))
    (s : Hid (∀ w : World, Calls Tryd.prog 33 #[.agg #[.int .i64 al, .int .i64 ah], .agg #[.int .i64 bl, .int .i64 bh]] w fun e w' => e = .returned (.tuple #[.agg #[.int .i64 dl, .int .i64 dh], .int .i64 f]) ∧ Below w.heap.size w w'))
    (a : Hid (∀ w : World, Calls Tryd.prog 28 #[.agg #[.int .i64 dl, .int .i64 dh], .agg #[.int .i64 bl, .int .i64 bh]] w fun e w' => e = .returned (.tuple #[.agg #[.int .i64 sl, .int .i64 sh], .int .i64 g]) ∧ Below w.heap.size w w'))
    (d : Hid (∀ w : World, Calls Tryd.prog 19 #[.agg #[.int .i64 al, .int .i64 ah], .agg #[.int .i64 bl, .int .i64 bh]] w fun e w' => e = .returned (.tuple #[.agg #[.int .i64 ql, .int .i64 qh], .int .i64 h]) ∧ Below w.heap.size w w'))
    (m : Hid (∀ w : World, Calls Tryd.prog 34 #[.agg #[.int .i64 ql, .int .i64 qh], .agg #[.int .i64 bl, .int .i64 bh]] w fun e w' => e = .returned (.tuple #[.agg #[.int .i64 ml, .int .i64 mh], .int .i64 i]) ∧ Below w.heap.size w w'))
    : Calls Tryd.prog 8 #[.agg #[.int .i64 al, .int .i64 ah], .agg #[.int .i64 bl, .int .i64 bh]] w fun e w' => e = .returned (.bool true) ∧ Below w.heap.size w w' := by
  have zf1 : (f == 0) = false := by simpa using zf
  have zh1 : (h != 0) = true := by simpa using zh
  clear zf zh
  go_enter Tryd.func8, Tryd.ntmps8
  go_wp2_with fail
  refine useK w (alive_any _) (by go_grown) ?_; rintro e w1 rfl hB1 hk1 hs1
  replace p00 : w1.cell? ⟨w.heap.size, 0, none⟩ = some (.int .i64 al) := hk1 _ _ _ (by simp [go_sem])
  replace p01 : w1.cell? ⟨w.heap.size, 1, none⟩ = some (.int .i64 ah) := hk1 _ _ _ (by simp [go_sem])
  replace p10 : w1.cell? ⟨w.heap.size + 1, 0, none⟩ = some (.int .i64 bl) := hk1 _ _ _ (by simp [go_sem])
  replace p11 : w1.cell? ⟨w.heap.size + 1, 1, none⟩ = some (.int .i64 bh) := hk1 _ _ _ (by simp [go_sem])
  have bp00 : w.heap.size < w1.heap.size := World.block_lt_of_cell? w1 ⟨w.heap.size, 0, none⟩ p00
  have bp10 : w.heap.size + 1 < w1.heap.size := World.block_lt_of_cell? w1 ⟨w.heap.size + 1, 0, none⟩ p10
  clear hk1
  go_wp2_with fail
  refine useK w (k1.out _) (by go_grown) ?_; rintro e w2 rfl hB2 hk2 hs2
  replace p00 : w2.cell? ⟨w.heap.size, 0, none⟩ = some (.int .i64 al) := hk2 _ _ _ (p00)
  replace p01 : w2.cell? ⟨w.heap.size, 1, none⟩ = some (.int .i64 ah) := hk2 _ _ _ (p01)
  replace p10 : w2.cell? ⟨w.heap.size + 1, 0, none⟩ = some (.int .i64 bl) := hk2 _ _ _ (p10)
  replace p11 : w2.cell? ⟨w.heap.size + 1, 1, none⟩ = some (.int .i64 bh) := hk2 _ _ _ (p11)
  have bp00 : w.heap.size < w2.heap.size := World.block_lt_of_cell? w2 ⟨w.heap.size, 0, none⟩ p00
  have bp10 : w.heap.size + 1 < w2.heap.size := World.block_lt_of_cell? w2 ⟨w.heap.size + 1, 0, none⟩ p10
  clear hk2
  go_wp2_with fail
  refine useK w (k2.out _) (by go_grown) ?_; rintro e w3 rfl hB3 hk3 hs3
  replace p00 : w3.cell? ⟨w.heap.size, 0, none⟩ = some (.int .i64 al) := hk3 _ _ _ (p00)
  replace p01 : w3.cell? ⟨w.heap.size, 1, none⟩ = some (.int .i64 ah) := hk3 _ _ _ (p01)
  replace p10 : w3.cell? ⟨w.heap.size + 1, 0, none⟩ = some (.int .i64 bl) := hk3 _ _ _ (p10)
  replace p11 : w3.cell? ⟨w.heap.size + 1, 1, none⟩ = some (.int .i64 bh) := hk3 _ _ _ (p11)
  have bp00 : w.heap.size < w3.heap.size := World.block_lt_of_cell? w3 ⟨w.heap.size, 0, none⟩ p00
  have bp10 : w.heap.size + 1 < w3.heap.size := World.block_lt_of_cell? w3 ⟨w.heap.size + 1, 0, none⟩ p10
  clear hk3
  go_wp2_with fail
  refine useK w (t.out _ (by go_grown)) (by go_grown) ?_; rintro e w4 rfl hB4 hk4 hs4
  replace p00 : w4.cell? ⟨w.heap.size, 0, none⟩ = some (.int .i64 al) := hk4 _ _ _ (p00)
  replace p01 : w4.cell? ⟨w.heap.size, 1, none⟩ = some (.int .i64 ah) := hk4 _ _ _ (p01)
  replace p10 : w4.cell? ⟨w.heap.size + 1, 0, none⟩ = some (.int .i64 bl) := hk4 _ _ _ (p10)
  replace p11 : w4.cell? ⟨w.heap.size + 1, 1, none⟩ = some (.int .i64 bh) := hk4 _ _ _ (p11)
  have bp00 : w.heap.size < w4.heap.size := World.block_lt_of_cell? w4 ⟨w.heap.size, 0, none⟩ p00
  have bp10 : w.heap.size + 1 < w4.heap.size := World.block_lt_of_cell? w4 ⟨w.heap.size + 1, 0, none⟩ p10
  clear hk4
  go_wp2_with fail
  refine useK w (r.out _) (by go_grown) ?_; rintro e w5 rfl hB5 hk5 hs5
  replace p00 : w5.cell? ⟨w.heap.size, 0, none⟩ = some (.int .i64 al) := hk5 _ _ _ (p00)
  replace p01 : w5.cell? ⟨w.heap.size, 1, none⟩ = some (.int .i64 ah) := hk5 _ _ _ (p01)
  replace p10 : w5.cell? ⟨w.heap.size + 1, 0, none⟩ = some (.int .i64 bl) := hk5 _ _ _ (p10)
  replace p11 : w5.cell? ⟨w.heap.size + 1, 1, none⟩ = some (.int .i64 bh) := hk5 _ _ _ (p11)
  have bp00 : w.heap.size < w5.heap.size := World.block_lt_of_cell? w5 ⟨w.heap.size, 0, none⟩ p00
  have bp10 : w.heap.size + 1 < w5.heap.size := World.block_lt_of_cell? w5 ⟨w.heap.size + 1, 0, none⟩ p10
  clear hk5
  go_wp2_with fail
  refine useK w (s.out _) (by go_grown) ?_; rintro e w6 rfl hB6 hk6 hs6
  replace p00 : w6.cell? ⟨w.heap.size, 0, none⟩ = some (.int .i64 al) := hk6 _ _ _ ((keepA _ p00))
  replace p01 : w6.cell? ⟨w.heap.size, 1, none⟩ = some (.int .i64 ah) := hk6 _ _ _ ((keepA _ p01))
  replace p10 : w6.cell? ⟨w.heap.size + 1, 0, none⟩ = some (.int .i64 bl) := hk6 _ _ _ ((keepA _ p10))
  replace p11 : w6.cell? ⟨w.heap.size + 1, 1, none⟩ = some (.int .i64 bh) := hk6 _ _ _ ((keepA _ p11))
  replace l500 : w6.cell? ⟨w5.heap.size, 0, none⟩ = some (.int .i64 al) := hk6 _ _ _ (by simp [go_sem])
  replace l501 : w6.cell? ⟨w5.heap.size, 1, none⟩ = some (.int .i64 al) := hk6 _ _ _ (by simp [go_sem])
  have bp00 : w.heap.size < w6.heap.size := World.block_lt_of_cell? w6 ⟨w.heap.size, 0, none⟩ p00
  have bp10 : w.heap.size + 1 < w6.heap.size := World.block_lt_of_cell? w6 ⟨w.heap.size + 1, 0, none⟩ p10
  have bl500 : w5.heap.size < w6.heap.size := World.block_lt_of_cell? w6 ⟨w5.heap.size, 0, none⟩ l500
  clear hk6
  go_wp2_with fail
  refine useK w (a.out _) (by go_grown) ?_; rintro e w7 rfl hB7 hk7 hs7
  replace p00 : w7.cell? ⟨w.heap.size, 0, none⟩ = some (.int .i64 al) := hk7 _ _ _ ((keepA _ p00))
  replace p01 : w7.cell? ⟨w.heap.size, 1, none⟩ = some (.int .i64 ah) := hk7 _ _ _ ((keepA _ p01))
  replace p10 : w7.cell? ⟨w.heap.size + 1, 0, none⟩ = some (.int .i64 bl) := hk7 _ _ _ ((keepA _ p10))
  replace p11 : w7.cell? ⟨w.heap.size + 1, 1, none⟩ = some (.int .i64 bh) := hk7 _ _ _ ((keepA _ p11))
  replace l500 : w7.cell? ⟨w5.heap.size, 0, none⟩ = some (.int .i64 al) := hk7 _ _ _ ((keepA _ l500))
  replace l501 : w7.cell? ⟨w5.heap.size, 1, none⟩ = some (.int .i64 al) := hk7 _ _ _ ((keepA _ l501))
  replace l600 : w7.cell? ⟨w6.heap.size, 0, none⟩ = some (.int .i64 dl) := hk7 _ _ _ (by simp [go_sem])
  replace l601 : w7.cell? ⟨w6.heap.size, 1, none⟩ = some (.int .i64 dh) := hk7 _ _ _ (by simp [go_sem])
  have bp00 : w.heap.size < w7.heap.size := World.block_lt_of_cell? w7 ⟨w.heap.size, 0, none⟩ p00
  have bp10 : w.heap.size + 1 < w7.heap.size := World.block_lt_of_cell? w7 ⟨w.heap.size + 1, 0, none⟩ p10
  have bl500 : w5.heap.size < w7.heap.size := World.block_lt_of_cell? w7 ⟨w5.heap.size, 0, none⟩ l500
  have bl600 : w6.heap.size < w7.heap.size := World.block_lt_of_cell? w7 ⟨w6.heap.size, 0, none⟩ l600
  clear hk7
  go_wp2_with fail
  refine useK w (d.out _) (by go_grown) ?_; rintro e w8 rfl hB8 hk8 hs8
  replace p00 : w8.cell? ⟨w.heap.size, 0, none⟩ = some (.int .i64 al) := hk8 _ _ _ ((keepA _ p00))
  replace p01 : w8.cell? ⟨w.heap.size, 1, none⟩ = some (.int .i64 ah) := hk8 _ _ _ ((keepA _ p01))
  replace p10 : w8.cell? ⟨w.heap.size + 1, 0, none⟩ = some (.int .i64 bl) := hk8 _ _ _ ((keepA _ p10))
  replace p11 : w8.cell? ⟨w.heap.size + 1, 1, none⟩ = some (.int .i64 bh) := hk8 _ _ _ ((keepA _ p11))
  replace l500 : w8.cell? ⟨w5.heap.size, 0, none⟩ = some (.int .i64 al) := hk8 _ _ _ ((keepA _ l500))
  replace l501 : w8.cell? ⟨w5.heap.size, 1, none⟩ = some (.int .i64 al) := hk8 _ _ _ ((keepA _ l501))
  replace l600 : w8.cell? ⟨w6.heap.size, 0, none⟩ = some (.int .i64 dl) := hk8 _ _ _ ((keepA _ l600))
  replace l601 : w8.cell? ⟨w6.heap.size, 1, none⟩ = some (.int .i64 dh) := hk8 _ _ _ ((keepA _ l601))
  replace l700 : w8.cell? ⟨w7.heap.size, 0, none⟩ = some (.int .i64 sl) := hk8 _ _ _ (by simp [go_sem])
  replace l701 : w8.cell? ⟨w7.heap.size, 1, none⟩ = some (.int .i64 sh) := hk8 _ _ _ (by simp [go_sem])
  have bp00 : w.heap.size < w8.heap.size := World.block_lt_of_cell? w8 ⟨w.heap.size, 0, none⟩ p00
  have bp10 : w.heap.size + 1 < w8.heap.size := World.block_lt_of_cell? w8 ⟨w.heap.size + 1, 0, none⟩ p10
  have bl500 : w5.heap.size < w8.heap.size := World.block_lt_of_cell? w8 ⟨w5.heap.size, 0, none⟩ l500
  have bl600 : w6.heap.size < w8.heap.size := World.block_lt_of_cell? w8 ⟨w6.heap.size, 0, none⟩ l600
  have bl700 : w7.heap.size < w8.heap.size := World.block_lt_of_cell? w8 ⟨w7.heap.size, 0, none⟩ l700
  clear hk8
  go_wp2_with fail
  refine useK w (m.out _) (by go_grown) ?_; rintro e w9 rfl hB9 hk9 hs9
  replace p00 : w9.cell? ⟨w.heap.size, 0, none⟩ = some (.int .i64 al) := hk9 _ _ _ ((keepA _ p00))
  replace p01 : w9.cell? ⟨w.heap.size, 1, none⟩ = some (.int .i64 ah) := hk9 _ _ _ ((keepA _ p01))
  replace p10 : w9.cell? ⟨w.heap.size + 1, 0, none⟩ = some (.int .i64 bl) := hk9 _ _ _ ((keepA _ p10))
  replace p11 : w9.cell? ⟨w.heap.size + 1, 1, none⟩ = some (.int .i64 bh) := hk9 _ _ _ ((keepA _ p11))
  replace l500 : w9.cell? ⟨w5.heap.size, 0, none⟩ = some (.int .i64 al) := hk9 _ _ _ ((keepA _ l500))
  replace l501 : w9.cell? ⟨w5.heap.size, 1, none⟩ = some (.int .i64 al) := hk9 _ _ _ ((keepA _ l501))
  replace l600 : w9.cell? ⟨w6.heap.size, 0, none⟩ = some (.int .i64 dl) := hk9 _ _ _ ((keepA _ l600))
  replace l601 : w9.cell? ⟨w6.heap.size, 1, none⟩ = some (.int .i64 dh) := hk9 _ _ _ ((keepA _ l601))
  replace l700 : w9.cell? ⟨w7.heap.size, 0, none⟩ = some (.int .i64 sl) := hk9 _ _ _ ((keepA _ l700))
  replace l701 : w9.cell? ⟨w7.heap.size, 1, none⟩ = some (.int .i64 sh) := hk9 _ _ _ ((keepA _ l701))
  replace l800 : w9.cell? ⟨w8.heap.size, 0, none⟩ = some (.int .i64 ql) := hk9 _ _ _ (by simp [go_sem])
  replace l801 : w9.cell? ⟨w8.heap.size, 1, none⟩ = some (.int .i64 qh) := hk9 _ _ _ (by simp [go_sem])
  have bp00 : w.heap.size < w9.heap.size := World.block_lt_of_cell? w9 ⟨w.heap.size, 0, none⟩ p00
  have bp10 : w.heap.size + 1 < w9.heap.size := World.block_lt_of_cell? w9 ⟨w.heap.size + 1, 0, none⟩ p10
  have bl500 : w5.heap.size < w9.heap.size := World.block_lt_of_cell? w9 ⟨w5.heap.size, 0, none⟩ l500
  have bl600 : w6.heap.size < w9.heap.size := World.block_lt_of_cell? w9 ⟨w6.heap.size, 0, none⟩ l600
  have bl700 : w7.heap.size < w9.heap.size := World.block_lt_of_cell? w9 ⟨w7.heap.size, 0, none⟩ l700
  have bl800 : w8.heap.size < w9.heap.size := World.block_lt_of_cell? w9 ⟨w8.heap.size, 0, none⟩ l800
  clear hk9
  go_wp2_with fail
  go_ret
  exact ⟨rfl, by go_grown⟩
theorem vn_box {a b c : Int} (h : (-9223372036854775807 ≤ a ∧ a ≤ 9223372036854775807) ∧ (-9223372036854775807 ≤ b ∧ b ≤ 9223372036854775807)) (hs : a ≤ b) : chk a b = 0 := if_neg (by omega)
theorem within_t {al ah bl bh : Int} (h : -9223372036854775807 ≤ bl ∧ bl ≤ al ∧ al ≤ ah ∧ ah ≤ bh) : withinS al ah bl bh = true := by
  have c1 : chk al ah = 0 := if_neg (by omega)
  have c2 : chk bl bh = 0 := if_neg (by omega)
  exact decide_eq_true ⟨by unfold bothS; rw [if_pos c1]; exact c2, h.2.1, h.2.2.2⟩
theorem add_res (al ah bl bh : Int) : ∃ lo hi e, addS al ah bl bh = (lo, hi, e) := ⟨_, _, _, rfl⟩
theorem mul_res (al ah bl bh : Int) : ∃ lo hi e, mulS al ah bl bh = (lo, hi, e) := ⟨_, _, _, rfl⟩
theorem lawBack_any (al ah bl bh : Int) (w : World) (h : (-9223372036854775808 ≤ al ∧ al ≤ 9223372036854775807) ∧ (-9223372036854775808 ≤ ah ∧ ah ≤ 9223372036854775807) ∧ (-9223372036854775808 ≤ bl ∧ bl ≤ 9223372036854775807) ∧ (-9223372036854775808 ≤ bh ∧ bh ≤ 9223372036854775807)) (ht : Hid (Tab10 w)) :
    Calls Tryd.prog 8 #[.agg #[.int .i64 al, .int .i64 ah], .agg #[.int .i64 bl, .int .i64 bh]] w fun e w' => e = .returned (.bool true) ∧ Below w.heap.size w w' := by
  rcases chk_cases al ah with ⟨e, k1, k2⟩ | ⟨e, k1⟩
  · rcases chk_cases bl bh with ⟨e2, k3, k4⟩ | ⟨e2, k3⟩
    · have hb : bothS al ah bl bh = 0 := by unfold bothS; rw [if_pos e]; exact e2
      obtain ⟨dl, dh, f, q2, v2, r2⟩ := sub_cases al ah bl bh hb
      obtain ⟨sl, sh, g, q1⟩ := add_res dl dh bl bh
      obtain ⟨ql, qh, hh, q4, v4, r4⟩ := div_cases al ah bl bh hb ⟨k2, k4⟩
      obtain ⟨ml, mh, i, q3⟩ := mul_res ql qh bl bh
      have c1 := hid (fun w => by have := check_any al ah w (by omega); rw [e] at this; exact this)
      have c2 := hid (fun w => by have := check_any bl bh w (by omega); rw [e2] at this; exact this)
      have t := hid (fun (W : World) (hW : Below w.heap.size w W) => text_any al W (by omega) (hid (ht.out.on hW)))
      have rd := hid (fun W => by
        have := read_any (textS al) W (by have := text_length al (by omega); omega)
        rw [read_text al (by omega)] at this; exact this)
      have s := hid (fun w => by have := sub_any al ah bl bh w (by omega); rw [q2] at this; exact this)
      have a := hid (fun w => by have := add_any dl dh bl bh w (by omega); rw [q1] at this; exact this)
      have d := hid (fun w => by have := div_any al ah bl bh w (by omega); rw [q4] at this; exact this)
      have m := hid (fun w => by have := mul_any ql qh bl bh w (by omega); rw [q3] at this; exact this)
      have wi : f = 0 → g = 0 → Hid (∀ w : World, Calls Tryd.prog 48 #[.agg #[.int .i64 al, .int .i64 ah], .agg #[.int .i64 sl, .int .i64 sh]] w fun e w' => e = .returned (.bool true) ∧ Below w.heap.size w w') := fun zf zg => by
        have hs : dl = al - bh ∧ dh = ah - bl := by rcases r2 with ⟨_, r⟩ | r; exact r; omega
        have hb2 : bothS dl dh bl bh = 0 := by unfold bothS; rw [if_pos (vn_box (c := 0) (by omega) (by omega))]; exact e2
        obtain ⟨sl', sh', g', q1', v1, r1⟩ := add_cases dl dh bl bh hb2
        rw [q1] at q1'
        simp only [Prod.mk.injEq] at q1'
        obtain ⟨rfl, rfl, rfl⟩ := q1'
        have hr : sl = dl + bl ∧ sh = dh + bh := by rcases r1 with ⟨_, r⟩ | r; exact r; omega
        exact hid (fun w => by have := within_any al ah sl sh w (by omega); rw [within_t (by omega)] at this; exact this)
      have wj : hh = 0 → i = 0 → Hid (∀ w : World, Calls Tryd.prog 48 #[.agg #[.int .i64 al, .int .i64 ah], .agg #[.int .i64 ml, .int .i64 mh]] w fun e w' => e = .returned (.bool true) ∧ Below w.heap.size w w') := fun zh zi => by
        have hd : divP al ah bl bh ql qh := by rcases r4 with ⟨_, r⟩ | r; exact r; omega
        have ho := div_order al ah bl bh ql qh ⟨k2, k4⟩ hd
        have hb2 : bothS ql qh bl bh = 0 := by unfold bothS; rw [if_pos (vn_box (c := 0) (by omega) ho)]; exact e2
        obtain ⟨ml', mh', i', q3', v3, r3⟩ := mul_cases ql qh bl bh hb2
        rw [q3] at q3'
        simp only [Prod.mk.injEq] at q3'
        obtain ⟨rfl, rfl, rfl⟩ := q3'
        have hm : mulP ql qh bl bh ml mh := by rcases r3 with ⟨_, r, _⟩ | r; exact r; omega
        have hw := div_mul_back al ah bl bh ql qh ml mh ⟨k2, k4⟩ hd hm ho
        exact hid (fun w => by have := within_any al ah ml mh w (by omega); rw [within_t (by omega)] at this; exact this)
      clear q1 q2 q3 q4 v2 v4 r2 r4 hb
      by_cases zf : f = 0
      · subst zf
        by_cases zg : g = 0
        · subst zg
          by_cases zh : hh = 0
          · subst zh
            by_cases zi : i = 0
            · subst zi
              exact back_00_00 al ah bl bh sl sh dl dh ql qh ml mh _ w  c1 c2 t rd s a d m (wi rfl rfl) (wj rfl rfl)
            · exact back_00_0x al ah bl bh sl sh dl dh ql qh ml mh i _ w zi c1 c2 t rd s a d m (wi rfl rfl)
          · exact back_00_x al ah bl bh sl sh dl dh ql qh ml mh hh i _ w zh c1 c2 t rd s a d m (wi rfl rfl)
        · have := 0
          by_cases zh : hh = 0
          · subst zh
            by_cases zi : i = 0
            · subst zi
              exact back_0x_00 al ah bl bh sl sh dl dh ql qh ml mh g _ w zg c1 c2 t rd s a d m (wj rfl rfl)
            · exact back_0x_0x al ah bl bh sl sh dl dh ql qh ml mh g i _ w zg zi c1 c2 t rd s a d m
          · exact back_0x_x al ah bl bh sl sh dl dh ql qh ml mh g hh i _ w zg zh c1 c2 t rd s a d m
      · have := 0
        by_cases zh : hh = 0
        · subst zh
          by_cases zi : i = 0
          · subst zi
            exact back_x_00 al ah bl bh sl sh dl dh ql qh ml mh f g _ w zf c1 c2 t rd s a d m (wj rfl rfl)
          · exact back_x_0x al ah bl bh sl sh dl dh ql qh ml mh f g i _ w zf zi c1 c2 t rd s a d m
        · exact back_x_x al ah bl bh sl sh dl dh ql qh ml mh f g hh i _ w zf zh c1 c2 t rd s a d m
    · exact back_bad al ah bl bh w h (by omega)
  · exact back_bad al ah bl bh w h (by omega)
end Go.Proofs.YtjleflfncijnpaaDoor
