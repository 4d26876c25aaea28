/- SpanParts: the walk. -/
import Derived.Test.YtjleflfncijnpaaDoorRows
import Derived.Test.YtjleflfncijnpaaDoorBase
import Derived.Test.YtjleflfncijnpaaDoorFacts
import Derived.Test.YtjleflfncijnpaaDoorTwo
import Derived.Deep.RegionHeld3
import Derived.Deep.RegionWith
import Derived.Deep.QuietTactic
import Derived.BigQuiet
import Derived.Test.YtjleflfncijnpaaDoorAsks
import Derived.Test.YtjleflfncijnpaaDoorSeq
import Derived.Test.YtjleflfncijnpaaDoorTwo
import Derived.Test.YtjleflfncijnpaaDoorPicks
import Derived.Test.YtjleflfncijnpaaDoorSets
import Derived.Test.YtjleflfncijnpaaDoorMid
import Derived.Test.YtjleflfncijnpaaDoorSplit
import Derived.Test.YtjleflfncijnpaaDoorAlive
set_option linter.unusedVariables false
set_option linter.unusedSimpArgs false
set_option maxHeartbeats 4000000
set_option maxRecDepth 100000
namespace Go.Proofs.YtjleflfncijnpaaDoor
open Go Go.RowKit
theorem parts_bad (al ah bl bh : Int) (w : World) (h : (-9223372036854775808 ≤ al ∧ al ≤ 9223372036854775807) ∧ (-9223372036854775808 ≤ ah ∧ ah ≤ 9223372036854775807) ∧ (-9223372036854775808 ≤ bl ∧ bl ≤ 9223372036854775807) ∧ (-9223372036854775808 ≤ bh ∧ bh ≤ 9223372036854775807)) (hc : ¬ (chk al ah = 0 ∧ chk bl bh = 0)) :
    Calls Tryd.prog 9 #[.agg #[.int .i64 al, .int .i64 ah], .agg #[.int .i64 bl, .int .i64 bh]] w fun e w' => e = .returned (.bool true) ∧ Below w.heap.size w w' := by
  obtain ⟨⟨a1, a2⟩, ⟨b1, b2⟩, ⟨c1, c2⟩, d1, d2⟩ := h
  have hq := hid hc
  clear hc
  by_cases e : chk al ah = 0
  · have e2 : (chk bl bh != 0) = true := by have := hq.out; simp [e] at this; simpa using this
    go_enter Tryd.func9, Tryd.ntmps9
    go_wp2_with fail
    refine useK w (alive_any _) (by go_grown) ?_; rintro e w1 rfl hB1 hk1 hs1
    replace p00 : w1.cell? ⟨w.heap.size, 0, none⟩ = some (.int .i64 al) := hk1 _ _ _ (by simp [go_sem])
    replace p01 : w1.cell? ⟨w.heap.size, 1, none⟩ = some (.int .i64 ah) := hk1 _ _ _ (by simp [go_sem])
    replace p10 : w1.cell? ⟨w.heap.size + 1, 0, none⟩ = some (.int .i64 bl) := hk1 _ _ _ (by simp [go_sem])
    replace p11 : w1.cell? ⟨w.heap.size + 1, 1, none⟩ = some (.int .i64 bh) := hk1 _ _ _ (by simp [go_sem])
    have bp00 : w.heap.size < w1.heap.size := World.block_lt_of_cell? w1 ⟨w.heap.size, 0, none⟩ p00
    have bp10 : w.heap.size + 1 < w1.heap.size := World.block_lt_of_cell? w1 ⟨w.heap.size + 1, 0, none⟩ p10
    clear hk1
    go_wp2_with fail
    refine useK w (check_any _ _ _ (by omega)) (by go_grown) ?_; rintro e w2 rfl hB2 hk2 hs2
    replace p00 : w2.cell? ⟨w.heap.size, 0, none⟩ = some (.int .i64 al) := hk2 _ _ _ (p00)
    replace p01 : w2.cell? ⟨w.heap.size, 1, none⟩ = some (.int .i64 ah) := hk2 _ _ _ (p01)
    replace p10 : w2.cell? ⟨w.heap.size + 1, 0, none⟩ = some (.int .i64 bl) := hk2 _ _ _ (p10)
    replace p11 : w2.cell? ⟨w.heap.size + 1, 1, none⟩ = some (.int .i64 bh) := hk2 _ _ _ (p11)
    have bp00 : w.heap.size < w2.heap.size := World.block_lt_of_cell? w2 ⟨w.heap.size, 0, none⟩ p00
    have bp10 : w.heap.size + 1 < w2.heap.size := World.block_lt_of_cell? w2 ⟨w.heap.size + 1, 0, none⟩ p10
    clear hk2
    go_wp2_with fail
    refine useK w (check_any _ _ _ (by omega)) (by go_grown) ?_; rintro e w3 rfl hB3 hk3 hs3
    replace p00 : w3.cell? ⟨w.heap.size, 0, none⟩ = some (.int .i64 al) := hk3 _ _ _ (p00)
    replace p01 : w3.cell? ⟨w.heap.size, 1, none⟩ = some (.int .i64 ah) := hk3 _ _ _ (p01)
    replace p10 : w3.cell? ⟨w.heap.size + 1, 0, none⟩ = some (.int .i64 bl) := hk3 _ _ _ (p10)
    replace p11 : w3.cell? ⟨w.heap.size + 1, 1, none⟩ = some (.int .i64 bh) := hk3 _ _ _ (p11)
    have bp00 : w.heap.size < w3.heap.size := World.block_lt_of_cell? w3 ⟨w.heap.size, 0, none⟩ p00
    have bp10 : w.heap.size + 1 < w3.heap.size := World.block_lt_of_cell? w3 ⟨w.heap.size + 1, 0, none⟩ p10
    clear hk3
    go_wp2_with fail
    go_ret
    exact ⟨rfl, by go_grown⟩
  · have e2 : (chk al ah != 0) = true := by simpa using e
    go_enter Tryd.func9, Tryd.ntmps9
    go_wp2_with fail
    refine useK w (alive_any _) (by go_grown) ?_; rintro e w1 rfl hB1 hk1 hs1
    replace p00 : w1.cell? ⟨w.heap.size, 0, none⟩ = some (.int .i64 al) := hk1 _ _ _ (by simp [go_sem])
    replace p01 : w1.cell? ⟨w.heap.size, 1, none⟩ = some (.int .i64 ah) := hk1 _ _ _ (by simp [go_sem])
    replace p10 : w1.cell? ⟨w.heap.size + 1, 0, none⟩ = some (.int .i64 bl) := hk1 _ _ _ (by simp [go_sem])
    replace p11 : w1.cell? ⟨w.heap.size + 1, 1, none⟩ = some (.int .i64 bh) := hk1 _ _ _ (by simp [go_sem])
    have bp00 : w.heap.size < w1.heap.size := World.block_lt_of_cell? w1 ⟨w.heap.size, 0, none⟩ p00
    have bp10 : w.heap.size + 1 < w1.heap.size := World.block_lt_of_cell? w1 ⟨w.heap.size + 1, 0, none⟩ p10
    clear hk1
    go_wp2_with fail
    refine useK w (check_any _ _ _ (by omega)) (by go_grown) ?_; rintro e w2 rfl hB2 hk2 hs2
    replace p00 : w2.cell? ⟨w.heap.size, 0, none⟩ = some (.int .i64 al) := hk2 _ _ _ (p00)
    replace p01 : w2.cell? ⟨w.heap.size, 1, none⟩ = some (.int .i64 ah) := hk2 _ _ _ (p01)
    replace p10 : w2.cell? ⟨w.heap.size + 1, 0, none⟩ = some (.int .i64 bl) := hk2 _ _ _ (p10)
    replace p11 : w2.cell? ⟨w.heap.size + 1, 1, none⟩ = some (.int .i64 bh) := hk2 _ _ _ (p11)
    have bp00 : w.heap.size < w2.heap.size := World.block_lt_of_cell? w2 ⟨w.heap.size, 0, none⟩ p00
    have bp10 : w.heap.size + 1 < w2.heap.size := World.block_lt_of_cell? w2 ⟨w.heap.size + 1, 0, none⟩ p10
    clear hk2
    go_wp2_with fail
    go_ret
    exact ⟨rfl, by go_grown⟩
theorem within_t {al ah bl bh : Int} (h : -9223372036854775807 ≤ bl ∧ bl ≤ al ∧ al ≤ ah ∧ ah ≤ bh) : withinS al ah bl bh = true := by
  have c1 : chk al ah = 0 := if_neg (by omega)
  have c2 : chk bl bh = 0 := if_neg (by omega)
  exact decide_eq_true ⟨by unfold bothS; rw [if_pos c1]; exact c2, h.2.1, h.2.2.2⟩
theorem parts_common (al ah bl bh : Int) (w : World) (h : (-9223372036854775808 ≤ al ∧ al ≤ 9223372036854775807) ∧ (-9223372036854775808 ≤ ah ∧ ah ≤ 9223372036854775807) ∧ (-9223372036854775808 ≤ bl ∧ bl ≤ 9223372036854775807) ∧ (-9223372036854775808 ≤ bh ∧ bh ≤ 9223372036854775807)) (c : max al bl ≤ min ah bh) (hc : chk al ah = 0 ∧ chk bl bh = 0 ∧ -9223372036854775807 ≤ al ∧ al ≤ ah ∧ -9223372036854775807 ≤ bl ∧ bl ≤ bh) :
    Calls Tryd.prog 9 #[.agg #[.int .i64 al, .int .i64 ah], .agg #[.int .i64 bl, .int .i64 bh]] w fun e w' => e = .returned (.bool true) ∧ Below w.heap.size w w' := by
  obtain ⟨⟨a1, a2⟩, ⟨b1, b2⟩, ⟨c1, c2⟩, d1, d2⟩ := h
  obtain ⟨e1, e2, g1, g2, g3, g4⟩ := hc
  have ck : ∀ x y : Int, -9223372036854775807 ≤ x → x ≤ y → chk x y = 0 := fun x y h1 h2 => if_neg (by omega)
  have bo : ∀ x y u v : Int, chk x y = 0 → chk u v = 0 → bothS x y u v = 0 := fun x y u v h1 h2 => by unfold bothS; rw [if_pos h1]; exact h2
  have hm1 : al ≤ (al + ah) / 2 := by omega
  have hm2 : (al + ah) / 2 ≤ ah := by omega
  have hsp : splitS al ah = (al, (al + ah) / 2, (al + ah) / 2, ah, 0) := if_pos e1
  have hmid : midN al ah = ((al + ah) / 2, 0) := if_pos e1
  have hw : hullS al ((al + ah) / 2) ((al + ah) / 2) ah = (al, ah, 0) := by
    unfold hullS
    rw [if_pos (bo _ _ _ _ (ck _ _ g1 hm1) (ck _ _ (by omega) hm2)), show min al ((al + ah) / 2) = al by omega, show max ((al + ah) / 2) ah = ah by omega]
  have hh : hullS al ah bl bh = (min al bl, max ah bh, 0) := if_pos (bo _ _ _ _ e1 e2)
  have hme : meetS al ah bl bh = if max al bl ≤ min ah bh then (max al bl, min ah bh, 0) else (0, 0, 7) := if_pos (bo _ _ _ _ e1 e2)
  have ho1 : orderS al ah bl bh = if ah < bl then -1 else if bh < al then 1 else 0 := if_pos (bo _ _ _ _ e1 e2)
  have ho2 : orderS bl bh al ah = if bh < al then -1 else if ah < bl then 1 else 0 := if_pos (bo _ _ _ _ e2 e1)
  have w1' := within_t (al := al) (ah := ah) (bl := min al bl) (bh := max ah bh) (by omega)
  have w2' := within_t (al := bl) (ah := bh) (bl := min al bl) (bh := max ah bh) (by omega)
  have s1 := hid (fun W => split_any al ah W (by omega))
  have s2 := hid (fun W => mid_any al ah W (by omega))
  have s3 := hid (fun W => hull_any al ((al + ah) / 2) ((al + ah) / 2) ah W (by omega))
  have s4 := hid (fun W => hull_any al ah bl bh W (by omega))
  have s5 := hid (fun W => meet_any al ah bl bh W (by omega))
  have s6 := hid (fun W => order_any al ah bl bh W (by omega))
  have s7 := hid (fun W => order_any bl bh al ah W (by omega))
  have s8 := hid (fun W => within_any al ah (min al bl) (max ah bh) W (by omega))
  have s9 := hid (fun W => within_any bl bh (min al bl) (max ah bh) W (by omega))
  rw [hsp] at s1
  rw [hmid] at s2
  rw [hw] at s3
  rw [hh] at s4
  rw [w1'] at s8
  rw [w2'] at s9
  clear hsp hmid hw hh w1' w2' hm1 hm2 bo ck
  rw [if_pos c] at hme
  rw [hme] at s5
  rw [show orderS al ah bl bh = 0 by rw [ho1, if_neg (by omega), if_neg (by omega)]] at s6
  rw [show orderS bl bh al ah = 0 by rw [ho2, if_neg (by omega), if_neg (by omega)]] at s7
  have w3' := within_t (al := max al bl) (ah := min ah bh) (bl := al) (bh := ah) (by omega)
  have w4' := within_t (al := max al bl) (ah := min ah bh) (bl := bl) (bh := bh) (by omega)
  have s10 := hid (fun W => within_any (max al bl) (min ah bh) al ah W (by omega))
  have s11 := hid (fun W => within_any (max al bl) (min ah bh) bl bh W (by omega))
  rw [w3'] at s10
  rw [w4'] at s11
  have k1 := hid (fun W => check_any al ah W (by omega))
  have k2 := hid (fun W => check_any bl bh W (by omega))
  clear hme ho1 ho2 w3' w4' c
  go_enter Tryd.func9, Tryd.ntmps9
  go_wp2_with fail
  refine useK w (alive_any _) (by go_grown) ?_; rintro e w1 rfl hB1 hk1 hs1
  replace p00 : w1.cell? ⟨w.heap.size, 0, none⟩ = some (.int .i64 al) := hk1 _ _ _ (by simp [go_sem])
  replace p01 : w1.cell? ⟨w.heap.size, 1, none⟩ = some (.int .i64 ah) := hk1 _ _ _ (by simp [go_sem])
  replace p10 : w1.cell? ⟨w.heap.size + 1, 0, none⟩ = some (.int .i64 bl) := hk1 _ _ _ (by simp [go_sem])
  replace p11 : w1.cell? ⟨w.heap.size + 1, 1, none⟩ = some (.int .i64 bh) := hk1 _ _ _ (by simp [go_sem])
  have bp00 : w.heap.size < w1.heap.size := World.block_lt_of_cell? w1 ⟨w.heap.size, 0, none⟩ p00
  have bp10 : w.heap.size + 1 < w1.heap.size := World.block_lt_of_cell? w1 ⟨w.heap.size + 1, 0, none⟩ p10
  clear hk1
  go_wp2_with fail
  refine useK w (k1.out _) (by go_grown) ?_; rintro e w2 rfl hB2 hk2 hs2
  replace p00 : w2.cell? ⟨w.heap.size, 0, none⟩ = some (.int .i64 al) := hk2 _ _ _ (p00)
  replace p01 : w2.cell? ⟨w.heap.size, 1, none⟩ = some (.int .i64 ah) := hk2 _ _ _ (p01)
  replace p10 : w2.cell? ⟨w.heap.size + 1, 0, none⟩ = some (.int .i64 bl) := hk2 _ _ _ (p10)
  replace p11 : w2.cell? ⟨w.heap.size + 1, 1, none⟩ = some (.int .i64 bh) := hk2 _ _ _ (p11)
  have bp00 : w.heap.size < w2.heap.size := World.block_lt_of_cell? w2 ⟨w.heap.size, 0, none⟩ p00
  have bp10 : w.heap.size + 1 < w2.heap.size := World.block_lt_of_cell? w2 ⟨w.heap.size + 1, 0, none⟩ p10
  clear hk2
  go_wp2_with fail
  refine useK w (k2.out _) (by go_grown) ?_; rintro e w3 rfl hB3 hk3 hs3
  replace p00 : w3.cell? ⟨w.heap.size, 0, none⟩ = some (.int .i64 al) := hk3 _ _ _ (p00)
  replace p01 : w3.cell? ⟨w.heap.size, 1, none⟩ = some (.int .i64 ah) := hk3 _ _ _ (p01)
  replace p10 : w3.cell? ⟨w.heap.size + 1, 0, none⟩ = some (.int .i64 bl) := hk3 _ _ _ (p10)
  replace p11 : w3.cell? ⟨w.heap.size + 1, 1, none⟩ = some (.int .i64 bh) := hk3 _ _ _ (p11)
  have bp00 : w.heap.size < w3.heap.size := World.block_lt_of_cell? w3 ⟨w.heap.size, 0, none⟩ p00
  have bp10 : w.heap.size + 1 < w3.heap.size := World.block_lt_of_cell? w3 ⟨w.heap.size + 1, 0, none⟩ p10
  clear hk3
  go_wp2_with fail
  refine useK w (s1.out _) (by go_grown) ?_; rintro e w4 rfl hB4 hk4 hs4
  replace p00 : w4.cell? ⟨w.heap.size, 0, none⟩ = some (.int .i64 al) := hk4 _ _ _ (p00)
  replace p01 : w4.cell? ⟨w.heap.size, 1, none⟩ = some (.int .i64 ah) := hk4 _ _ _ (p01)
  replace p10 : w4.cell? ⟨w.heap.size + 1, 0, none⟩ = some (.int .i64 bl) := hk4 _ _ _ (p10)
  replace p11 : w4.cell? ⟨w.heap.size + 1, 1, none⟩ = some (.int .i64 bh) := hk4 _ _ _ (p11)
  have bp00 : w.heap.size < w4.heap.size := World.block_lt_of_cell? w4 ⟨w.heap.size, 0, none⟩ p00
  have bp10 : w.heap.size + 1 < w4.heap.size := World.block_lt_of_cell? w4 ⟨w.heap.size + 1, 0, none⟩ p10
  clear hk4
  go_wp2_with fail
  refine useK w (s3.out _) (by go_grown) ?_; rintro e w5 rfl hB5 hk5 hs5
  replace p00 : w5.cell? ⟨w.heap.size, 0, none⟩ = some (.int .i64 al) := hk5 _ _ _ ((keepA _ (keepA _ p00)))
  replace p01 : w5.cell? ⟨w.heap.size, 1, none⟩ = some (.int .i64 ah) := hk5 _ _ _ ((keepA _ (keepA _ p01)))
  replace p10 : w5.cell? ⟨w.heap.size + 1, 0, none⟩ = some (.int .i64 bl) := hk5 _ _ _ ((keepA _ (keepA _ p10)))
  replace p11 : w5.cell? ⟨w.heap.size + 1, 1, none⟩ = some (.int .i64 bh) := hk5 _ _ _ ((keepA _ (keepA _ p11)))
  replace l400 : w5.cell? ⟨w4.heap.size, 0, none⟩ = some (.int .i64 al) := hk5 _ _ _ (by simp [go_sem])
  replace l401 : w5.cell? ⟨w4.heap.size, 1, none⟩ = some (.int .i64 ((al + ah) / 2)) := hk5 _ _ _ (by simp [go_sem])
  replace l410 : w5.cell? ⟨w4.heap.size + 1, 0, none⟩ = some (.int .i64 ((al + ah) / 2)) := hk5 _ _ _ (by simp [go_sem])
  replace l411 : w5.cell? ⟨w4.heap.size + 1, 1, none⟩ = some (.int .i64 ah) := hk5 _ _ _ (by simp [go_sem])
  have bp00 : w.heap.size < w5.heap.size := World.block_lt_of_cell? w5 ⟨w.heap.size, 0, none⟩ p00
  have bp10 : w.heap.size + 1 < w5.heap.size := World.block_lt_of_cell? w5 ⟨w.heap.size + 1, 0, none⟩ p10
  have bl400 : w4.heap.size < w5.heap.size := World.block_lt_of_cell? w5 ⟨w4.heap.size, 0, none⟩ l400
  have bl410 : w4.heap.size + 1 < w5.heap.size := World.block_lt_of_cell? w5 ⟨w4.heap.size + 1, 0, none⟩ l410
  clear hk5
  go_wp2_with fail
  refine useK w (s2.out _) (by go_grown) ?_; rintro e w6 rfl hB6 hk6 hs6
  replace p00 : w6.cell? ⟨w.heap.size, 0, none⟩ = some (.int .i64 al) := hk6 _ _ _ ((keepA _ p00))
  replace p01 : w6.cell? ⟨w.heap.size, 1, none⟩ = some (.int .i64 ah) := hk6 _ _ _ ((keepA _ p01))
  replace p10 : w6.cell? ⟨w.heap.size + 1, 0, none⟩ = some (.int .i64 bl) := hk6 _ _ _ ((keepA _ p10))
  replace p11 : w6.cell? ⟨w.heap.size + 1, 1, none⟩ = some (.int .i64 bh) := hk6 _ _ _ ((keepA _ p11))
  replace l400 : w6.cell? ⟨w4.heap.size, 0, none⟩ = some (.int .i64 al) := hk6 _ _ _ ((keepA _ l400))
  replace l401 : w6.cell? ⟨w4.heap.size, 1, none⟩ = some (.int .i64 ((al + ah) / 2)) := hk6 _ _ _ ((keepA _ l401))
  replace l410 : w6.cell? ⟨w4.heap.size + 1, 0, none⟩ = some (.int .i64 ((al + ah) / 2)) := hk6 _ _ _ ((keepA _ l410))
  replace l411 : w6.cell? ⟨w4.heap.size + 1, 1, none⟩ = some (.int .i64 ah) := hk6 _ _ _ ((keepA _ l411))
  replace l500 : w6.cell? ⟨w5.heap.size, 0, none⟩ = some (.int .i64 al) := hk6 _ _ _ (by simp [go_sem])
  replace l501 : w6.cell? ⟨w5.heap.size, 1, none⟩ = some (.int .i64 ah) := hk6 _ _ _ (by simp [go_sem])
  have bp00 : w.heap.size < w6.heap.size := World.block_lt_of_cell? w6 ⟨w.heap.size, 0, none⟩ p00
  have bp10 : w.heap.size + 1 < w6.heap.size := World.block_lt_of_cell? w6 ⟨w.heap.size + 1, 0, none⟩ p10
  have bl400 : w4.heap.size < w6.heap.size := World.block_lt_of_cell? w6 ⟨w4.heap.size, 0, none⟩ l400
  have bl410 : w4.heap.size + 1 < w6.heap.size := World.block_lt_of_cell? w6 ⟨w4.heap.size + 1, 0, none⟩ l410
  have bl500 : w5.heap.size < w6.heap.size := World.block_lt_of_cell? w6 ⟨w5.heap.size, 0, none⟩ l500
  clear hk6
  go_wp2_with fail
  refine useK w (s4.out _) (by go_grown) ?_; rintro e w7 rfl hB7 hk7 hs7
  replace p00 : w7.cell? ⟨w.heap.size, 0, none⟩ = some (.int .i64 al) := hk7 _ _ _ (p00)
  replace p01 : w7.cell? ⟨w.heap.size, 1, none⟩ = some (.int .i64 ah) := hk7 _ _ _ (p01)
  replace p10 : w7.cell? ⟨w.heap.size + 1, 0, none⟩ = some (.int .i64 bl) := hk7 _ _ _ (p10)
  replace p11 : w7.cell? ⟨w.heap.size + 1, 1, none⟩ = some (.int .i64 bh) := hk7 _ _ _ (p11)
  replace l400 : w7.cell? ⟨w4.heap.size, 0, none⟩ = some (.int .i64 al) := hk7 _ _ _ (l400)
  replace l401 : w7.cell? ⟨w4.heap.size, 1, none⟩ = some (.int .i64 ((al + ah) / 2)) := hk7 _ _ _ (l401)
  replace l410 : w7.cell? ⟨w4.heap.size + 1, 0, none⟩ = some (.int .i64 ((al + ah) / 2)) := hk7 _ _ _ (l410)
  replace l411 : w7.cell? ⟨w4.heap.size + 1, 1, none⟩ = some (.int .i64 ah) := hk7 _ _ _ (l411)
  replace l500 : w7.cell? ⟨w5.heap.size, 0, none⟩ = some (.int .i64 al) := hk7 _ _ _ (l500)
  replace l501 : w7.cell? ⟨w5.heap.size, 1, none⟩ = some (.int .i64 ah) := hk7 _ _ _ (l501)
  have bp00 : w.heap.size < w7.heap.size := World.block_lt_of_cell? w7 ⟨w.heap.size, 0, none⟩ p00
  have bp10 : w.heap.size + 1 < w7.heap.size := World.block_lt_of_cell? w7 ⟨w.heap.size + 1, 0, none⟩ p10
  have bl400 : w4.heap.size < w7.heap.size := World.block_lt_of_cell? w7 ⟨w4.heap.size, 0, none⟩ l400
  have bl410 : w4.heap.size + 1 < w7.heap.size := World.block_lt_of_cell? w7 ⟨w4.heap.size + 1, 0, none⟩ l410
  have bl500 : w5.heap.size < w7.heap.size := World.block_lt_of_cell? w7 ⟨w5.heap.size, 0, none⟩ l500
  clear hk7
  go_wp2_with fail
  refine useK w (s5.out _) (by go_grown) ?_; rintro e w8 rfl hB8 hk8 hs8
  replace p00 : w8.cell? ⟨w.heap.size, 0, none⟩ = some (.int .i64 al) := hk8 _ _ _ ((keepA _ p00))
  replace p01 : w8.cell? ⟨w.heap.size, 1, none⟩ = some (.int .i64 ah) := hk8 _ _ _ ((keepA _ p01))
  replace p10 : w8.cell? ⟨w.heap.size + 1, 0, none⟩ = some (.int .i64 bl) := hk8 _ _ _ ((keepA _ p10))
  replace p11 : w8.cell? ⟨w.heap.size + 1, 1, none⟩ = some (.int .i64 bh) := hk8 _ _ _ ((keepA _ p11))
  replace l400 : w8.cell? ⟨w4.heap.size, 0, none⟩ = some (.int .i64 al) := hk8 _ _ _ ((keepA _ l400))
  replace l401 : w8.cell? ⟨w4.heap.size, 1, none⟩ = some (.int .i64 ((al + ah) / 2)) := hk8 _ _ _ ((keepA _ l401))
  replace l410 : w8.cell? ⟨w4.heap.size + 1, 0, none⟩ = some (.int .i64 ((al + ah) / 2)) := hk8 _ _ _ ((keepA _ l410))
  replace l411 : w8.cell? ⟨w4.heap.size + 1, 1, none⟩ = some (.int .i64 ah) := hk8 _ _ _ ((keepA _ l411))
  replace l500 : w8.cell? ⟨w5.heap.size, 0, none⟩ = some (.int .i64 al) := hk8 _ _ _ ((keepA _ l500))
  replace l501 : w8.cell? ⟨w5.heap.size, 1, none⟩ = some (.int .i64 ah) := hk8 _ _ _ ((keepA _ l501))
  replace l700 : w8.cell? ⟨w7.heap.size, 0, none⟩ = some (.int .i64 (min al bl)) := hk8 _ _ _ (by simp [go_sem])
  replace l701 : w8.cell? ⟨w7.heap.size, 1, none⟩ = some (.int .i64 (max ah bh)) := hk8 _ _ _ (by simp [go_sem])
  have bp00 : w.heap.size < w8.heap.size := World.block_lt_of_cell? w8 ⟨w.heap.size, 0, none⟩ p00
  have bp10 : w.heap.size + 1 < w8.heap.size := World.block_lt_of_cell? w8 ⟨w.heap.size + 1, 0, none⟩ p10
  have bl400 : w4.heap.size < w8.heap.size := World.block_lt_of_cell? w8 ⟨w4.heap.size, 0, none⟩ l400
  have bl410 : w4.heap.size + 1 < w8.heap.size := World.block_lt_of_cell? w8 ⟨w4.heap.size + 1, 0, none⟩ l410
  have bl500 : w5.heap.size < w8.heap.size := World.block_lt_of_cell? w8 ⟨w5.heap.size, 0, none⟩ l500
  have bl700 : w7.heap.size < w8.heap.size := World.block_lt_of_cell? w8 ⟨w7.heap.size, 0, none⟩ l700
  clear hk8
  go_wp2_with fail
  refine useK w (s10.out _) (by go_grown) ?_; rintro e w9 rfl hB9 hk9 hs9
  replace p00 : w9.cell? ⟨w.heap.size, 0, none⟩ = some (.int .i64 al) := hk9 _ _ _ ((keepA _ p00))
  replace p01 : w9.cell? ⟨w.heap.size, 1, none⟩ = some (.int .i64 ah) := hk9 _ _ _ ((keepA _ p01))
  replace p10 : w9.cell? ⟨w.heap.size + 1, 0, none⟩ = some (.int .i64 bl) := hk9 _ _ _ ((keepA _ p10))
  replace p11 : w9.cell? ⟨w.heap.size + 1, 1, none⟩ = some (.int .i64 bh) := hk9 _ _ _ ((keepA _ p11))
  replace l400 : w9.cell? ⟨w4.heap.size, 0, none⟩ = some (.int .i64 al) := hk9 _ _ _ ((keepA _ l400))
  replace l401 : w9.cell? ⟨w4.heap.size, 1, none⟩ = some (.int .i64 ((al + ah) / 2)) := hk9 _ _ _ ((keepA _ l401))
  replace l410 : w9.cell? ⟨w4.heap.size + 1, 0, none⟩ = some (.int .i64 ((al + ah) / 2)) := hk9 _ _ _ ((keepA _ l410))
  replace l411 : w9.cell? ⟨w4.heap.size + 1, 1, none⟩ = some (.int .i64 ah) := hk9 _ _ _ ((keepA _ l411))
  replace l500 : w9.cell? ⟨w5.heap.size, 0, none⟩ = some (.int .i64 al) := hk9 _ _ _ ((keepA _ l500))
  replace l501 : w9.cell? ⟨w5.heap.size, 1, none⟩ = some (.int .i64 ah) := hk9 _ _ _ ((keepA _ l501))
  replace l700 : w9.cell? ⟨w7.heap.size, 0, none⟩ = some (.int .i64 (min al bl)) := hk9 _ _ _ ((keepA _ l700))
  replace l701 : w9.cell? ⟨w7.heap.size, 1, none⟩ = some (.int .i64 (max ah bh)) := hk9 _ _ _ ((keepA _ l701))
  replace l800 : w9.cell? ⟨w8.heap.size, 0, none⟩ = some (.int .i64 (max al bl)) := hk9 _ _ _ (by simp [go_sem])
  replace l801 : w9.cell? ⟨w8.heap.size, 1, none⟩ = some (.int .i64 (min ah bh)) := hk9 _ _ _ (by simp [go_sem])
  have bp00 : w.heap.size < w9.heap.size := World.block_lt_of_cell? w9 ⟨w.heap.size, 0, none⟩ p00
  have bp10 : w.heap.size + 1 < w9.heap.size := World.block_lt_of_cell? w9 ⟨w.heap.size + 1, 0, none⟩ p10
  have bl400 : w4.heap.size < w9.heap.size := World.block_lt_of_cell? w9 ⟨w4.heap.size, 0, none⟩ l400
  have bl410 : w4.heap.size + 1 < w9.heap.size := World.block_lt_of_cell? w9 ⟨w4.heap.size + 1, 0, none⟩ l410
  have bl500 : w5.heap.size < w9.heap.size := World.block_lt_of_cell? w9 ⟨w5.heap.size, 0, none⟩ l500
  have bl700 : w7.heap.size < w9.heap.size := World.block_lt_of_cell? w9 ⟨w7.heap.size, 0, none⟩ l700
  have bl800 : w8.heap.size < w9.heap.size := World.block_lt_of_cell? w9 ⟨w8.heap.size, 0, none⟩ l800
  clear hk9
  go_wp2_with fail
  refine useK w (s11.out _) (by go_grown) ?_; rintro e w10 rfl hB10 hk10 hs10
  replace p00 : w10.cell? ⟨w.heap.size, 0, none⟩ = some (.int .i64 al) := hk10 _ _ _ (p00)
  replace p01 : w10.cell? ⟨w.heap.size, 1, none⟩ = some (.int .i64 ah) := hk10 _ _ _ (p01)
  replace p10 : w10.cell? ⟨w.heap.size + 1, 0, none⟩ = some (.int .i64 bl) := hk10 _ _ _ (p10)
  replace p11 : w10.cell? ⟨w.heap.size + 1, 1, none⟩ = some (.int .i64 bh) := hk10 _ _ _ (p11)
  replace l400 : w10.cell? ⟨w4.heap.size, 0, none⟩ = some (.int .i64 al) := hk10 _ _ _ (l400)
  replace l401 : w10.cell? ⟨w4.heap.size, 1, none⟩ = some (.int .i64 ((al + ah) / 2)) := hk10 _ _ _ (l401)
  replace l410 : w10.cell? ⟨w4.heap.size + 1, 0, none⟩ = some (.int .i64 ((al + ah) / 2)) := hk10 _ _ _ (l410)
  replace l411 : w10.cell? ⟨w4.heap.size + 1, 1, none⟩ = some (.int .i64 ah) := hk10 _ _ _ (l411)
  replace l500 : w10.cell? ⟨w5.heap.size, 0, none⟩ = some (.int .i64 al) := hk10 _ _ _ (l500)
  replace l501 : w10.cell? ⟨w5.heap.size, 1, none⟩ = some (.int .i64 ah) := hk10 _ _ _ (l501)
  replace l700 : w10.cell? ⟨w7.heap.size, 0, none⟩ = some (.int .i64 (min al bl)) := hk10 _ _ _ (l700)
  replace l701 : w10.cell? ⟨w7.heap.size, 1, none⟩ = some (.int .i64 (max ah bh)) := hk10 _ _ _ (l701)
  replace l800 : w10.cell? ⟨w8.heap.size, 0, none⟩ = some (.int .i64 (max al bl)) := hk10 _ _ _ (l800)
  replace l801 : w10.cell? ⟨w8.heap.size, 1, none⟩ = some (.int .i64 (min ah bh)) := hk10 _ _ _ (l801)
  have bp00 : w.heap.size < w10.heap.size := World.block_lt_of_cell? w10 ⟨w.heap.size, 0, none⟩ p00
  have bp10 : w.heap.size + 1 < w10.heap.size := World.block_lt_of_cell? w10 ⟨w.heap.size + 1, 0, none⟩ p10
  have bl400 : w4.heap.size < w10.heap.size := World.block_lt_of_cell? w10 ⟨w4.heap.size, 0, none⟩ l400
  have bl410 : w4.heap.size + 1 < w10.heap.size := World.block_lt_of_cell? w10 ⟨w4.heap.size + 1, 0, none⟩ l410
  have bl500 : w5.heap.size < w10.heap.size := World.block_lt_of_cell? w10 ⟨w5.heap.size, 0, none⟩ l500
  have bl700 : w7.heap.size < w10.heap.size := World.block_lt_of_cell? w10 ⟨w7.heap.size, 0, none⟩ l700
  have bl800 : w8.heap.size < w10.heap.size := World.block_lt_of_cell? w10 ⟨w8.heap.size, 0, none⟩ l800
  clear hk10
  go_wp2_with fail
  refine useK w (s6.out _) (by go_grown) ?_; rintro e w11 rfl hB11 hk11 hs11
  replace p00 : w11.cell? ⟨w.heap.size, 0, none⟩ = some (.int .i64 al) := hk11 _ _ _ (p00)
  replace p01 : w11.cell? ⟨w.heap.size, 1, none⟩ = some (.int .i64 ah) := hk11 _ _ _ (p01)
  replace p10 : w11.cell? ⟨w.heap.size + 1, 0, none⟩ = some (.int .i64 bl) := hk11 _ _ _ (p10)
  replace p11 : w11.cell? ⟨w.heap.size + 1, 1, none⟩ = some (.int .i64 bh) := hk11 _ _ _ (p11)
  replace l400 : w11.cell? ⟨w4.heap.size, 0, none⟩ = some (.int .i64 al) := hk11 _ _ _ (l400)
  replace l401 : w11.cell? ⟨w4.heap.size, 1, none⟩ = some (.int .i64 ((al + ah) / 2)) := hk11 _ _ _ (l401)
  replace l410 : w11.cell? ⟨w4.heap.size + 1, 0, none⟩ = some (.int .i64 ((al + ah) / 2)) := hk11 _ _ _ (l410)
  replace l411 : w11.cell? ⟨w4.heap.size + 1, 1, none⟩ = some (.int .i64 ah) := hk11 _ _ _ (l411)
  replace l500 : w11.cell? ⟨w5.heap.size, 0, none⟩ = some (.int .i64 al) := hk11 _ _ _ (l500)
  replace l501 : w11.cell? ⟨w5.heap.size, 1, none⟩ = some (.int .i64 ah) := hk11 _ _ _ (l501)
  replace l700 : w11.cell? ⟨w7.heap.size, 0, none⟩ = some (.int .i64 (min al bl)) := hk11 _ _ _ (l700)
  replace l701 : w11.cell? ⟨w7.heap.size, 1, none⟩ = some (.int .i64 (max ah bh)) := hk11 _ _ _ (l701)
  replace l800 : w11.cell? ⟨w8.heap.size, 0, none⟩ = some (.int .i64 (max al bl)) := hk11 _ _ _ (l800)
  replace l801 : w11.cell? ⟨w8.heap.size, 1, none⟩ = some (.int .i64 (min ah bh)) := hk11 _ _ _ (l801)
  have bp00 : w.heap.size < w11.heap.size := World.block_lt_of_cell? w11 ⟨w.heap.size, 0, none⟩ p00
  have bp10 : w.heap.size + 1 < w11.heap.size := World.block_lt_of_cell? w11 ⟨w.heap.size + 1, 0, none⟩ p10
  have bl400 : w4.heap.size < w11.heap.size := World.block_lt_of_cell? w11 ⟨w4.heap.size, 0, none⟩ l400
  have bl410 : w4.heap.size + 1 < w11.heap.size := World.block_lt_of_cell? w11 ⟨w4.heap.size + 1, 0, none⟩ l410
  have bl500 : w5.heap.size < w11.heap.size := World.block_lt_of_cell? w11 ⟨w5.heap.size, 0, none⟩ l500
  have bl700 : w7.heap.size < w11.heap.size := World.block_lt_of_cell? w11 ⟨w7.heap.size, 0, none⟩ l700
  have bl800 : w8.heap.size < w11.heap.size := World.block_lt_of_cell? w11 ⟨w8.heap.size, 0, none⟩ l800
  clear hk11
  go_wp2_with fail
  refine useK w (s7.out _) (by go_grown) ?_; rintro e w12 rfl hB12 hk12 hs12
  replace p00 : w12.cell? ⟨w.heap.size, 0, none⟩ = some (.int .i64 al) := hk12 _ _ _ (p00)
  replace p01 : w12.cell? ⟨w.heap.size, 1, none⟩ = some (.int .i64 ah) := hk12 _ _ _ (p01)
  replace p10 : w12.cell? ⟨w.heap.size + 1, 0, none⟩ = some (.int .i64 bl) := hk12 _ _ _ (p10)
  replace p11 : w12.cell? ⟨w.heap.size + 1, 1, none⟩ = some (.int .i64 bh) := hk12 _ _ _ (p11)
  replace l400 : w12.cell? ⟨w4.heap.size, 0, none⟩ = some (.int .i64 al) := hk12 _ _ _ (l400)
  replace l401 : w12.cell? ⟨w4.heap.size, 1, none⟩ = some (.int .i64 ((al + ah) / 2)) := hk12 _ _ _ (l401)
  replace l410 : w12.cell? ⟨w4.heap.size + 1, 0, none⟩ = some (.int .i64 ((al + ah) / 2)) := hk12 _ _ _ (l410)
  replace l411 : w12.cell? ⟨w4.heap.size + 1, 1, none⟩ = some (.int .i64 ah) := hk12 _ _ _ (l411)
  replace l500 : w12.cell? ⟨w5.heap.size, 0, none⟩ = some (.int .i64 al) := hk12 _ _ _ (l500)
  replace l501 : w12.cell? ⟨w5.heap.size, 1, none⟩ = some (.int .i64 ah) := hk12 _ _ _ (l501)
  replace l700 : w12.cell? ⟨w7.heap.size, 0, none⟩ = some (.int .i64 (min al bl)) := hk12 _ _ _ (l700)
  replace l701 : w12.cell? ⟨w7.heap.size, 1, none⟩ = some (.int .i64 (max ah bh)) := hk12 _ _ _ (l701)
  replace l800 : w12.cell? ⟨w8.heap.size, 0, none⟩ = some (.int .i64 (max al bl)) := hk12 _ _ _ (l800)
  replace l801 : w12.cell? ⟨w8.heap.size, 1, none⟩ = some (.int .i64 (min ah bh)) := hk12 _ _ _ (l801)
  have bp00 : w.heap.size < w12.heap.size := World.block_lt_of_cell? w12 ⟨w.heap.size, 0, none⟩ p00
  have bp10 : w.heap.size + 1 < w12.heap.size := World.block_lt_of_cell? w12 ⟨w.heap.size + 1, 0, none⟩ p10
  have bl400 : w4.heap.size < w12.heap.size := World.block_lt_of_cell? w12 ⟨w4.heap.size, 0, none⟩ l400
  have bl410 : w4.heap.size + 1 < w12.heap.size := World.block_lt_of_cell? w12 ⟨w4.heap.size + 1, 0, none⟩ l410
  have bl500 : w5.heap.size < w12.heap.size := World.block_lt_of_cell? w12 ⟨w5.heap.size, 0, none⟩ l500
  have bl700 : w7.heap.size < w12.heap.size := World.block_lt_of_cell? w12 ⟨w7.heap.size, 0, none⟩ l700
  have bl800 : w8.heap.size < w12.heap.size := World.block_lt_of_cell? w12 ⟨w8.heap.size, 0, none⟩ l800
  clear hk12
  go_wp2_with fail
  refine wp_region_held_drew (S := (fun w' => w'.cell? ⟨w.heap.size, 0, none⟩ = some (.int .i64 al) ∧ w'.cell? ⟨w.heap.size, 1, none⟩ = some (.int .i64 ah) ∧ w'.cell? ⟨w.heap.size + 1, 0, none⟩ = some (.int .i64 bl) ∧ w'.cell? ⟨w.heap.size + 1, 1, none⟩ = some (.int .i64 bh) ∧ w'.cell? ⟨w7.heap.size, 0, none⟩ = some (.int .i64 (min al bl)) ∧ w'.cell? ⟨w7.heap.size, 1, none⟩ = some (.int .i64 (max ah bh)))) (by kernel_rfl) (by (try dsimp only); (first | (exact ⟨hk1 _ _ _ (hOld.1), hk1 _ _ _ (hOld.2.1), hk1 _ _ _ (hOld.2.2.1), hk1 _ _ _ (hOld.2.2.2.1), hk1 _ _ _ (hOld.2.2.2.2.1), hk1 _ _ _ (hOld.2.2.2.2.2)⟩) | ((try simp only [World.cell?_drew, World.frozen?_drew]); (repeat' apply And.intro) <;> (first | (with_reducible assumption) | (with_reducible exact ⟨_, by assumption⟩) | (with_reducible exact ⟨_, two_other (by assumption) (by omega)⟩) | (with_reducible exact two_0 (by assumption)) | (with_reducible exact two_1 (by assumption)) | (with_reducible exact two_other (by assumption) (by omega)) | (with_reducible exact two_fz (by assumption)) | (with_reducible exact keepA _ (by assumption)) | (with_reducible exact keepA _ (keepA _ (keepA _ (by assumption)))) | (simp (maxDischargeDepth := 8) [*, go_sem, World.cell?_alloc_some, World.cell?_setCell_far]; done))) | (go_keep; done) | (simp (maxDischargeDepth := 8) [*, go_sem, World.cell?_alloc_some, World.cell?_setCell_far]; done))) (fun hHeld => ?_)
  (refine wpAnyH_take (i := 0) (oi := ⟨some 114, _, _, _, _, none⟩) (v := ?_) rfl (by kernel_rfl) (by kernel_rfl) (by kernel_rfl) (fun _ _ _ h => h) (Or.inl ⟨by rfl, ?_⟩) hHeld ?_; rotate_left; (· (intro w9 hSw; (try dsimp only at hSw); go_simp; (try with_reducible rfl))))
  (try simp only [Act.put, List.setIfInBounds_toArray, List.set_cons_zero, List.set_cons_succ])
  (refine wpAnyH_take (i := 1) (oi := ⟨some 115, _, _, _, _, none⟩) (v := ?_) rfl (by kernel_rfl) (by kernel_rfl) (by kernel_rfl) (fun _ _ _ h => h) (Or.inl ⟨by rfl, ?_⟩) hHeld ?_; rotate_left; (· (intro w9 hSw; (try dsimp only at hSw); go_simp; (try with_reducible rfl))))
  (try simp only [Act.put, List.setIfInBounds_toArray, List.set_cons_zero, List.set_cons_succ])
  (refine wpAnyH_take (i := 2) (oi := ⟨some 116, _, _, _, _, none⟩) (v := ?_) rfl (by kernel_rfl) (by kernel_rfl) (by kernel_rfl) (fun _ _ _ h => h) (Or.inl ⟨by rfl, ?_⟩) hHeld ?_; rotate_left; (· (intro w9 hSw; (try dsimp only at hSw); go_simp; (try with_reducible rfl))))
  (try simp only [Act.put, List.setIfInBounds_toArray, List.set_cons_zero, List.set_cons_succ])
  (first | (refine wpAnyH_take (i := 3) (oi := ⟨some 117, _, _, _, _, some (2, true)⟩) (v := ?_) rfl (by kernel_rfl) (by kernel_rfl) (by kernel_rfl) (fun _ _ _ h => h) (Or.inl ⟨by rfl, ?_⟩) hHeld ?_; rotate_left; (· (intro w9 hSw; (try dsimp only at hSw); go_simp; (try with_reducible rfl)))) | (refine wpAnyH_take (i := 3) (oi := ⟨some 117, _, _, _, _, some (2, true)⟩) (v := undef) rfl (by kernel_rfl) (by kernel_rfl) (by kernel_rfl) (fun _ _ _ h => h) (Or.inr ⟨by rfl, rfl⟩) hHeld ?_))
  (try simp only [Act.put, List.setIfInBounds_toArray, List.set_cons_zero, List.set_cons_succ])
  (first | (refine wpAnyH_take (i := 4) (oi := ⟨some 118, _, _, _, _, some (2, true)⟩) (v := ?_) rfl (by kernel_rfl) (by kernel_rfl) (by kernel_rfl) (fun _ _ _ h => h) (Or.inl ⟨by rfl, ?_⟩) hHeld ?_; rotate_left; (· (intro w9 hSw; (try dsimp only at hSw); go_simp; (try with_reducible rfl)))) | (refine wpAnyH_take (i := 4) (oi := ⟨some 118, _, _, _, _, some (2, true)⟩) (v := undef) rfl (by kernel_rfl) (by kernel_rfl) (by kernel_rfl) (fun _ _ _ h => h) (Or.inr ⟨by rfl, rfl⟩) hHeld ?_))
  (try simp only [Act.put, List.setIfInBounds_toArray, List.set_cons_zero, List.set_cons_succ])
  (first | (refine wpAnyH_take (i := 6) (oi := ⟨some 120, _, _, _, _, some (2, true)⟩) (v := ?_) rfl (by kernel_rfl) (by kernel_rfl) (by kernel_rfl) (fun _ _ _ h => h) (Or.inl ⟨by rfl, ?_⟩) hHeld ?_; rotate_left; (· (intro w9 hSw; (try dsimp only at hSw); go_simp; (try with_reducible rfl)))) | (refine wpAnyH_take (i := 6) (oi := ⟨some 120, _, _, _, _, some (2, true)⟩) (v := undef) rfl (by kernel_rfl) (by kernel_rfl) (by kernel_rfl) (fun _ _ _ h => h) (Or.inr ⟨by rfl, rfl⟩) hHeld ?_))
  (try simp only [Act.put, List.setIfInBounds_toArray, List.set_cons_zero, List.set_cons_succ])
  (first | (refine wpAnyH_take (i := 7) (oi := ⟨some 121, _, _, _, _, some (2, true)⟩) (v := ?_) rfl (by kernel_rfl) (by kernel_rfl) (by kernel_rfl) (fun _ _ _ h => h) (Or.inl ⟨by rfl, ?_⟩) hHeld ?_; rotate_left; (· (intro w9 hSw; (try dsimp only at hSw); go_simp; (try with_reducible rfl)))) | (refine wpAnyH_take (i := 7) (oi := ⟨some 121, _, _, _, _, some (2, true)⟩) (v := undef) rfl (by kernel_rfl) (by kernel_rfl) (by kernel_rfl) (fun _ _ _ h => h) (Or.inr ⟨by rfl, rfl⟩) hHeld ?_))
  (try simp only [Act.put, List.setIfInBounds_toArray, List.set_cons_zero, List.set_cons_succ])
  (first | (refine wpAnyH_ready (rs := [5]) (by kernel_rfl) (by simp) ?_; refine AllReadyH.cons (o := ⟨some 119, _, _, _, _, some (2, true)⟩) rfl (fun K hK => ?_) AllReadyH.nil; go_simp; (first | fail); have hOld := hHeld; clear hHeld; refine hK.out _ _ ?_ (fun hHeld => ?_); (· ((try dsimp only); (first | (exact ⟨hk1 _ _ _ (hOld.1), hk1 _ _ _ (hOld.2.1), hk1 _ _ _ (hOld.2.2.1), hk1 _ _ _ (hOld.2.2.2.1), hk1 _ _ _ (hOld.2.2.2.2.1), hk1 _ _ _ (hOld.2.2.2.2.2)⟩) | ((try simp only [World.cell?_drew, World.frozen?_drew]); (repeat' apply And.intro) <;> (first | (with_reducible assumption) | (with_reducible exact ⟨_, by assumption⟩) | (with_reducible exact ⟨_, two_other (by assumption) (by omega)⟩) | (with_reducible exact two_0 (by assumption)) | (with_reducible exact two_1 (by assumption)) | (with_reducible exact two_other (by assumption) (by omega)) | (with_reducible exact two_fz (by assumption)) | (with_reducible exact keepA _ (by assumption)) | (with_reducible exact keepA _ (keepA _ (keepA _ (by assumption)))) | (simp (maxDischargeDepth := 8) [*, go_sem, World.cell?_alloc_some, World.cell?_setCell_far]; done))) | (go_keep; done) | (simp (maxDischargeDepth := 8) [*, go_sem, World.cell?_alloc_some, World.cell?_setCell_far]; done)))); clear hK K hOld; (try clear hc1 hf1); (try clear hk1 hf1)) | (refine wpAnyH_take (i := 5) (oi := ⟨some 119, _, _, _, _, some (2, true)⟩) (v := undef) rfl (by kernel_rfl) (by kernel_rfl) (by kernel_rfl) (fun _ _ _ h => h) (Or.inr ⟨by rfl, rfl⟩) hHeld ?_))
  (try simp only [Act.put, List.setIfInBounds_toArray, List.set_cons_zero, List.set_cons_succ])
  (first | (refine wpAnyH_ready (rs := [8]) (by kernel_rfl) (by simp) ?_; refine AllReadyH.cons (o := ⟨some 122, _, _, _, _, some (2, true)⟩) rfl (fun K hK => ?_) AllReadyH.nil; go_simp; (first | fail); have hOld := hHeld; clear hHeld; refine hK.out _ _ ?_ (fun hHeld => ?_); (· ((try dsimp only); (first | (exact ⟨hk1 _ _ _ (hOld.1), hk1 _ _ _ (hOld.2.1), hk1 _ _ _ (hOld.2.2.1), hk1 _ _ _ (hOld.2.2.2.1), hk1 _ _ _ (hOld.2.2.2.2.1), hk1 _ _ _ (hOld.2.2.2.2.2)⟩) | ((try simp only [World.cell?_drew, World.frozen?_drew]); (repeat' apply And.intro) <;> (first | (with_reducible assumption) | (with_reducible exact ⟨_, by assumption⟩) | (with_reducible exact ⟨_, two_other (by assumption) (by omega)⟩) | (with_reducible exact two_0 (by assumption)) | (with_reducible exact two_1 (by assumption)) | (with_reducible exact two_other (by assumption) (by omega)) | (with_reducible exact two_fz (by assumption)) | (with_reducible exact keepA _ (by assumption)) | (with_reducible exact keepA _ (keepA _ (keepA _ (by assumption)))) | (simp (maxDischargeDepth := 8) [*, go_sem, World.cell?_alloc_some, World.cell?_setCell_far]; done))) | (go_keep; done) | (simp (maxDischargeDepth := 8) [*, go_sem, World.cell?_alloc_some, World.cell?_setCell_far]; done)))); clear hK K hOld; (try clear hc1 hf1); (try clear hk1 hf1)) | (refine wpAnyH_take (i := 8) (oi := ⟨some 122, _, _, _, _, some (2, true)⟩) (v := undef) rfl (by kernel_rfl) (by kernel_rfl) (by kernel_rfl) (fun _ _ _ h => h) (Or.inr ⟨by rfl, rfl⟩) hHeld ?_))
  (try simp only [Act.put, List.setIfInBounds_toArray, List.set_cons_zero, List.set_cons_succ])
  (first | (refine wpAnyH_take (i := 9) (oi := ⟨some 123, _, _, _, _, some (2, true)⟩) (v := ?_) rfl (by kernel_rfl) (by kernel_rfl) (by kernel_rfl) (fun _ _ _ h => h) (Or.inl ⟨by rfl, ?_⟩) hHeld ?_; rotate_left; (· (intro w9 hSw; (try dsimp only at hSw); go_simp; (try with_reducible rfl)))) | (refine wpAnyH_take (i := 9) (oi := ⟨some 123, _, _, _, _, some (2, true)⟩) (v := undef) rfl (by kernel_rfl) (by kernel_rfl) (by kernel_rfl) (fun _ _ _ h => h) (Or.inr ⟨by rfl, rfl⟩) hHeld ?_))
  (try simp only [Act.put, List.setIfInBounds_toArray, List.set_cons_zero, List.set_cons_succ])
  (first | (refine wpAnyH_take (i := 10) (oi := ⟨some 124, _, _, _, _, some (2, true)⟩) (v := ?_) rfl (by kernel_rfl) (by kernel_rfl) (by kernel_rfl) (fun _ _ _ h => h) (Or.inl ⟨by rfl, ?_⟩) hHeld ?_; rotate_left; (· (intro w9 hSw; (try dsimp only at hSw); go_simp; (try with_reducible rfl)))) | (refine wpAnyH_take (i := 10) (oi := ⟨some 124, _, _, _, _, some (2, true)⟩) (v := undef) rfl (by kernel_rfl) (by kernel_rfl) (by kernel_rfl) (fun _ _ _ h => h) (Or.inr ⟨by rfl, rfl⟩) hHeld ?_))
  (try simp only [Act.put, List.setIfInBounds_toArray, List.set_cons_zero, List.set_cons_succ])
  (refine wpAnyH_take (i := 11) (oi := ⟨some 125, _, _, _, _, none⟩) (v := ?_) rfl (by kernel_rfl) (by kernel_rfl) (by kernel_rfl) (fun _ _ _ h => h) (Or.inl ⟨by rfl, ?_⟩) hHeld ?_; rotate_left; (· (intro w9 hSw; (try dsimp only at hSw); go_simp; (try with_reducible rfl))))
  (try simp only [Act.put, List.setIfInBounds_toArray, List.set_cons_zero, List.set_cons_succ])
  (refine wpAnyH_take (i := 12) (oi := ⟨some 126, _, _, _, _, none⟩) (v := ?_) rfl (by kernel_rfl) (by kernel_rfl) (by kernel_rfl) (fun _ _ _ h => h) (Or.inl ⟨by rfl, ?_⟩) hHeld ?_; rotate_left; (· (intro w9 hSw; (try dsimp only at hSw); go_simp; (try with_reducible rfl))))
  (try simp only [Act.put, List.setIfInBounds_toArray, List.set_cons_zero, List.set_cons_succ])
  (first | (refine wpAnyH_take (i := 13) (oi := ⟨some 127, _, _, _, _, some (12, true)⟩) (v := ?_) rfl (by kernel_rfl) (by kernel_rfl) (by kernel_rfl) (fun _ _ _ h => h) (Or.inl ⟨by rfl, ?_⟩) hHeld ?_; rotate_left; (· (intro w9 hSw; (try dsimp only at hSw); go_simp; (try with_reducible rfl)))) | (refine wpAnyH_take (i := 13) (oi := ⟨some 127, _, _, _, _, some (12, true)⟩) (v := undef) rfl (by kernel_rfl) (by kernel_rfl) (by kernel_rfl) (fun _ _ _ h => h) (Or.inr ⟨by rfl, rfl⟩) hHeld ?_))
  (try simp only [Act.put, List.setIfInBounds_toArray, List.set_cons_zero, List.set_cons_succ])
  (first | (refine wpAnyH_take (i := 14) (oi := ⟨some 128, _, _, _, _, some (12, true)⟩) (v := ?_) rfl (by kernel_rfl) (by kernel_rfl) (by kernel_rfl) (fun _ _ _ h => h) (Or.inl ⟨by rfl, ?_⟩) hHeld ?_; rotate_left; (· (intro w9 hSw; (try dsimp only at hSw); go_simp; (try with_reducible rfl)))) | (refine wpAnyH_take (i := 14) (oi := ⟨some 128, _, _, _, _, some (12, true)⟩) (v := undef) rfl (by kernel_rfl) (by kernel_rfl) (by kernel_rfl) (fun _ _ _ h => h) (Or.inr ⟨by rfl, rfl⟩) hHeld ?_))
  (try simp only [Act.put, List.setIfInBounds_toArray, List.set_cons_zero, List.set_cons_succ])
  (first | (refine wpAnyH_ready (rs := [15]) (by kernel_rfl) (by simp) ?_; refine AllReadyH.cons (o := ⟨some 129, _, _, _, _, some (12, true)⟩) rfl (fun K hK => ?_) AllReadyH.nil; go_simp; (first | fail); have hOld := hHeld; clear hHeld; refine hK.out _ _ ?_ (fun hHeld => ?_); (· ((try dsimp only); (first | (exact ⟨hk1 _ _ _ (hOld.1), hk1 _ _ _ (hOld.2.1), hk1 _ _ _ (hOld.2.2.1), hk1 _ _ _ (hOld.2.2.2.1), hk1 _ _ _ (hOld.2.2.2.2.1), hk1 _ _ _ (hOld.2.2.2.2.2)⟩) | ((try simp only [World.cell?_drew, World.frozen?_drew]); (repeat' apply And.intro) <;> (first | (with_reducible assumption) | (with_reducible exact ⟨_, by assumption⟩) | (with_reducible exact ⟨_, two_other (by assumption) (by omega)⟩) | (with_reducible exact two_0 (by assumption)) | (with_reducible exact two_1 (by assumption)) | (with_reducible exact two_other (by assumption) (by omega)) | (with_reducible exact two_fz (by assumption)) | (with_reducible exact keepA _ (by assumption)) | (with_reducible exact keepA _ (keepA _ (keepA _ (by assumption)))) | (simp (maxDischargeDepth := 8) [*, go_sem, World.cell?_alloc_some, World.cell?_setCell_far]; done))) | (go_keep; done) | (simp (maxDischargeDepth := 8) [*, go_sem, World.cell?_alloc_some, World.cell?_setCell_far]; done)))); clear hK K hOld; (try clear hc1 hf1); (try clear hk1 hf1)) | (refine wpAnyH_take (i := 15) (oi := ⟨some 129, _, _, _, _, some (12, true)⟩) (v := undef) rfl (by kernel_rfl) (by kernel_rfl) (by kernel_rfl) (fun _ _ _ h => h) (Or.inr ⟨by rfl, rfl⟩) hHeld ?_))
  (try simp only [Act.put, List.setIfInBounds_toArray, List.set_cons_zero, List.set_cons_succ])
  (first | (refine wpAnyH_take (i := 16) (oi := ⟨some 130, _, _, _, _, some (12, true)⟩) (v := ?_) rfl (by kernel_rfl) (by kernel_rfl) (by kernel_rfl) (fun _ _ _ h => h) (Or.inl ⟨by rfl, ?_⟩) hHeld ?_; rotate_left; (· (intro w9 hSw; (try dsimp only at hSw); go_simp; (try with_reducible rfl)))) | (refine wpAnyH_take (i := 16) (oi := ⟨some 130, _, _, _, _, some (12, true)⟩) (v := undef) rfl (by kernel_rfl) (by kernel_rfl) (by kernel_rfl) (fun _ _ _ h => h) (Or.inr ⟨by rfl, rfl⟩) hHeld ?_))
  (try simp only [Act.put, List.setIfInBounds_toArray, List.set_cons_zero, List.set_cons_succ])
  (refine wpAnyH_take (i := 17) (oi := ⟨some 131, _, _, _, _, none⟩) (v := ?_) rfl (by kernel_rfl) (by kernel_rfl) (by kernel_rfl) (fun _ _ _ h => h) (Or.inl ⟨by rfl, ?_⟩) hHeld ?_; rotate_left; (· (intro w9 hSw; (try dsimp only at hSw); go_simp; (try with_reducible rfl))))
  (try simp only [Act.put, List.setIfInBounds_toArray, List.set_cons_zero, List.set_cons_succ])
  (refine wpAnyH_take (i := 18) (oi := ⟨some 19, _, _, _, _, none⟩) (v := ?_) rfl (by kernel_rfl) (by kernel_rfl) (by kernel_rfl) (fun _ _ _ h => h) (Or.inl ⟨by rfl, ?_⟩) hHeld ?_; rotate_left; (· (intro w9 hSw; (try dsimp only at hSw); go_simp; (try with_reducible rfl))))
  (try simp only [Act.put, List.setIfInBounds_toArray, List.set_cons_zero, List.set_cons_succ])
  refine wpAnyH_done (by kernel_rfl) ?_ _
  obtain ⟨x0, x1, y0, y1, h0, h1⟩ := hHeld
  go_wp2_with fail
  refine useF w (s8.out _) (by go_grown) ?_; rintro e w103 rfl hB103 hk103 hf103 hs103; clear hs103
  replace x0 : w103.cell? ⟨w.heap.size, 0, none⟩ = some (.int .i64 al) := hk103 _ _ _ (x0)
  replace x1 : w103.cell? ⟨w.heap.size, 1, none⟩ = some (.int .i64 ah) := hk103 _ _ _ (x1)
  replace y0 : w103.cell? ⟨w.heap.size + 1, 0, none⟩ = some (.int .i64 bl) := hk103 _ _ _ (y0)
  replace y1 : w103.cell? ⟨w.heap.size + 1, 1, none⟩ = some (.int .i64 bh) := hk103 _ _ _ (y1)
  replace h0 : w103.cell? ⟨w7.heap.size, 0, none⟩ = some (.int .i64 (min al bl)) := hk103 _ _ _ (h0)
  replace h1 : w103.cell? ⟨w7.heap.size, 1, none⟩ = some (.int .i64 (max ah bh)) := hk103 _ _ _ (h1)
  (try clear xb); have xb : w.heap.size < w103.heap.size := World.block_lt_of_cell? w103 ⟨w.heap.size, 0, none⟩ x0
  (try clear yb); have yb : w.heap.size + 1 < w103.heap.size := World.block_lt_of_cell? w103 ⟨w.heap.size + 1, 0, none⟩ y0
  (try clear hb); have hb : w7.heap.size < w103.heap.size := World.block_lt_of_cell? w103 ⟨w7.heap.size, 0, none⟩ h0
  clear hk103 hf103
  go_wp2_with fail
  refine useF w (s9.out _) (by go_grown) ?_; rintro e w104 rfl hB104 hk104 hf104 hs104; clear hs104
  replace x0 : w104.cell? ⟨w.heap.size, 0, none⟩ = some (.int .i64 al) := hk104 _ _ _ (x0)
  replace x1 : w104.cell? ⟨w.heap.size, 1, none⟩ = some (.int .i64 ah) := hk104 _ _ _ (x1)
  replace y0 : w104.cell? ⟨w.heap.size + 1, 0, none⟩ = some (.int .i64 bl) := hk104 _ _ _ (y0)
  replace y1 : w104.cell? ⟨w.heap.size + 1, 1, none⟩ = some (.int .i64 bh) := hk104 _ _ _ (y1)
  replace h0 : w104.cell? ⟨w7.heap.size, 0, none⟩ = some (.int .i64 (min al bl)) := hk104 _ _ _ (h0)
  replace h1 : w104.cell? ⟨w7.heap.size, 1, none⟩ = some (.int .i64 (max ah bh)) := hk104 _ _ _ (h1)
  (try clear xb); have xb : w.heap.size < w104.heap.size := World.block_lt_of_cell? w104 ⟨w.heap.size, 0, none⟩ x0
  (try clear yb); have yb : w.heap.size + 1 < w104.heap.size := World.block_lt_of_cell? w104 ⟨w.heap.size + 1, 0, none⟩ y0
  (try clear hb); have hb : w7.heap.size < w104.heap.size := World.block_lt_of_cell? w104 ⟨w7.heap.size, 0, none⟩ h0
  clear hk104 hf104
  go_wp2_with fail
  go_ret
  exact ⟨rfl, by go_grown⟩

theorem parts_apart (al ah bl bh : Int) (w : World) (h : (-9223372036854775808 ≤ al ∧ al ≤ 9223372036854775807) ∧ (-9223372036854775808 ≤ ah ∧ ah ≤ 9223372036854775807) ∧ (-9223372036854775808 ≤ bl ∧ bl ≤ 9223372036854775807) ∧ (-9223372036854775808 ≤ bh ∧ bh ≤ 9223372036854775807)) (o1 o2 : Int) (c : ¬ max al bl ≤ min ah bh) (ho : (ah < bl ∧ o1 = -1 ∧ o2 = 1) ∨ (bh < al ∧ o1 = 1 ∧ o2 = -1)) (hc : chk al ah = 0 ∧ chk bl bh = 0 ∧ -9223372036854775807 ≤ al ∧ al ≤ ah ∧ -9223372036854775807 ≤ bl ∧ bl ≤ bh) :
    Calls Tryd.prog 9 #[.agg #[.int .i64 al, .int .i64 ah], .agg #[.int .i64 bl, .int .i64 bh]] w fun e w' => e = .returned (.bool true) ∧ Below w.heap.size w w' := by
  obtain ⟨⟨a1, a2⟩, ⟨b1, b2⟩, ⟨c1, c2⟩, d1, d2⟩ := h
  obtain ⟨e1, e2, g1, g2, g3, g4⟩ := hc
  have ck : ∀ x y : Int, -9223372036854775807 ≤ x → x ≤ y → chk x y = 0 := fun x y h1 h2 => if_neg (by omega)
  have bo : ∀ x y u v : Int, chk x y = 0 → chk u v = 0 → bothS x y u v = 0 := fun x y u v h1 h2 => by unfold bothS; rw [if_pos h1]; exact h2
  have hm1 : al ≤ (al + ah) / 2 := by omega
  have hm2 : (al + ah) / 2 ≤ ah := by omega
  have hsp : splitS al ah = (al, (al + ah) / 2, (al + ah) / 2, ah, 0) := if_pos e1
  have hmid : midN al ah = ((al + ah) / 2, 0) := if_pos e1
  have hw : hullS al ((al + ah) / 2) ((al + ah) / 2) ah = (al, ah, 0) := by
    unfold hullS
    rw [if_pos (bo _ _ _ _ (ck _ _ g1 hm1) (ck _ _ (by omega) hm2)), show min al ((al + ah) / 2) = al by omega, show max ((al + ah) / 2) ah = ah by omega]
  have hh : hullS al ah bl bh = (min al bl, max ah bh, 0) := if_pos (bo _ _ _ _ e1 e2)
  have hme : meetS al ah bl bh = if max al bl ≤ min ah bh then (max al bl, min ah bh, 0) else (0, 0, 7) := if_pos (bo _ _ _ _ e1 e2)
  have ho1 : orderS al ah bl bh = if ah < bl then -1 else if bh < al then 1 else 0 := if_pos (bo _ _ _ _ e1 e2)
  have ho2 : orderS bl bh al ah = if bh < al then -1 else if ah < bl then 1 else 0 := if_pos (bo _ _ _ _ e2 e1)
  have w1' := within_t (al := al) (ah := ah) (bl := min al bl) (bh := max ah bh) (by omega)
  have w2' := within_t (al := bl) (ah := bh) (bl := min al bl) (bh := max ah bh) (by omega)
  have s1 := hid (fun W => split_any al ah W (by omega))
  have s2 := hid (fun W => mid_any al ah W (by omega))
  have s3 := hid (fun W => hull_any al ((al + ah) / 2) ((al + ah) / 2) ah W (by omega))
  have s4 := hid (fun W => hull_any al ah bl bh W (by omega))
  have s5 := hid (fun W => meet_any al ah bl bh W (by omega))
  have s6 := hid (fun W => order_any al ah bl bh W (by omega))
  have s7 := hid (fun W => order_any bl bh al ah W (by omega))
  have s8 := hid (fun W => within_any al ah (min al bl) (max ah bh) W (by omega))
  have s9 := hid (fun W => within_any bl bh (min al bl) (max ah bh) W (by omega))
  rw [hsp] at s1
  rw [hmid] at s2
  rw [hw] at s3
  rw [hh] at s4
  rw [w1'] at s8
  rw [w2'] at s9
  clear hsp hmid hw hh w1' w2' hm1 hm2 bo ck
  rw [if_neg c] at hme
  rw [hme] at s5
  have k1 := hid (fun W => check_any al ah W (by omega))
  have k2 := hid (fun W => check_any bl bh W (by omega))
  have e1' : orderS al ah bl bh = o1 := by rw [ho1]; rcases ho with ⟨d, rfl, _⟩ | ⟨d, rfl, _⟩ <;> (repeat' split) <;> omega
  have e2' : orderS bl bh al ah = o2 := by rw [ho2]; rcases ho with ⟨d, _, rfl⟩ | ⟨d, _, rfl⟩ <;> (repeat' split) <;> omega
  rw [e1'] at s6
  rw [e2'] at s7
  clear hme ho1 ho2 c e1' e2'
  have ew1 : IntKind.i64.wrap (-1) = -1 := by decide
  have ew2 : IntKind.i64.wrap 1 = 1 := by decide
  rcases ho with ⟨_, rfl, rfl⟩ | ⟨_, rfl, rfl⟩
  all_goals
    go_enter Tryd.func9, Tryd.ntmps9
    go_wp2_with fail
    refine useK w (alive_any _) (by go_grown) ?_; rintro e w1 rfl hB1 hk1 hs1
    replace p00 : w1.cell? ⟨w.heap.size, 0, none⟩ = some (.int .i64 al) := hk1 _ _ _ (by simp [go_sem])
    replace p01 : w1.cell? ⟨w.heap.size, 1, none⟩ = some (.int .i64 ah) := hk1 _ _ _ (by simp [go_sem])
    replace p10 : w1.cell? ⟨w.heap.size + 1, 0, none⟩ = some (.int .i64 bl) := hk1 _ _ _ (by simp [go_sem])
    replace p11 : w1.cell? ⟨w.heap.size + 1, 1, none⟩ = some (.int .i64 bh) := hk1 _ _ _ (by simp [go_sem])
    have bp00 : w.heap.size < w1.heap.size := World.block_lt_of_cell? w1 ⟨w.heap.size, 0, none⟩ p00
    have bp10 : w.heap.size + 1 < w1.heap.size := World.block_lt_of_cell? w1 ⟨w.heap.size + 1, 0, none⟩ p10
    clear hk1
    go_wp2_with fail
    refine useK w (k1.out _) (by go_grown) ?_; rintro e w2 rfl hB2 hk2 hs2
    replace p00 : w2.cell? ⟨w.heap.size, 0, none⟩ = some (.int .i64 al) := hk2 _ _ _ (p00)
    replace p01 : w2.cell? ⟨w.heap.size, 1, none⟩ = some (.int .i64 ah) := hk2 _ _ _ (p01)
    replace p10 : w2.cell? ⟨w.heap.size + 1, 0, none⟩ = some (.int .i64 bl) := hk2 _ _ _ (p10)
    replace p11 : w2.cell? ⟨w.heap.size + 1, 1, none⟩ = some (.int .i64 bh) := hk2 _ _ _ (p11)
    have bp00 : w.heap.size < w2.heap.size := World.block_lt_of_cell? w2 ⟨w.heap.size, 0, none⟩ p00
    have bp10 : w.heap.size + 1 < w2.heap.size := World.block_lt_of_cell? w2 ⟨w.heap.size + 1, 0, none⟩ p10
    clear hk2
    go_wp2_with fail
    refine useK w (k2.out _) (by go_grown) ?_; rintro e w3 rfl hB3 hk3 hs3
    replace p00 : w3.cell? ⟨w.heap.size, 0, none⟩ = some (.int .i64 al) := hk3 _ _ _ (p00)
    replace p01 : w3.cell? ⟨w.heap.size, 1, none⟩ = some (.int .i64 ah) := hk3 _ _ _ (p01)
    replace p10 : w3.cell? ⟨w.heap.size + 1, 0, none⟩ = some (.int .i64 bl) := hk3 _ _ _ (p10)
    replace p11 : w3.cell? ⟨w.heap.size + 1, 1, none⟩ = some (.int .i64 bh) := hk3 _ _ _ (p11)
    have bp00 : w.heap.size < w3.heap.size := World.block_lt_of_cell? w3 ⟨w.heap.size, 0, none⟩ p00
    have bp10 : w.heap.size + 1 < w3.heap.size := World.block_lt_of_cell? w3 ⟨w.heap.size + 1, 0, none⟩ p10
    clear hk3
    go_wp2_with fail
    refine useK w (s1.out _) (by go_grown) ?_; rintro e w4 rfl hB4 hk4 hs4
    replace p00 : w4.cell? ⟨w.heap.size, 0, none⟩ = some (.int .i64 al) := hk4 _ _ _ (p00)
    replace p01 : w4.cell? ⟨w.heap.size, 1, none⟩ = some (.int .i64 ah) := hk4 _ _ _ (p01)
    replace p10 : w4.cell? ⟨w.heap.size + 1, 0, none⟩ = some (.int .i64 bl) := hk4 _ _ _ (p10)
    replace p11 : w4.cell? ⟨w.heap.size + 1, 1, none⟩ = some (.int .i64 bh) := hk4 _ _ _ (p11)
    have bp00 : w.heap.size < w4.heap.size := World.block_lt_of_cell? w4 ⟨w.heap.size, 0, none⟩ p00
    have bp10 : w.heap.size + 1 < w4.heap.size := World.block_lt_of_cell? w4 ⟨w.heap.size + 1, 0, none⟩ p10
    clear hk4
    go_wp2_with fail
    refine useK w (s3.out _) (by go_grown) ?_; rintro e w5 rfl hB5 hk5 hs5
    replace p00 : w5.cell? ⟨w.heap.size, 0, none⟩ = some (.int .i64 al) := hk5 _ _ _ ((keepA _ (keepA _ p00)))
    replace p01 : w5.cell? ⟨w.heap.size, 1, none⟩ = some (.int .i64 ah) := hk5 _ _ _ ((keepA _ (keepA _ p01)))
    replace p10 : w5.cell? ⟨w.heap.size + 1, 0, none⟩ = some (.int .i64 bl) := hk5 _ _ _ ((keepA _ (keepA _ p10)))
    replace p11 : w5.cell? ⟨w.heap.size + 1, 1, none⟩ = some (.int .i64 bh) := hk5 _ _ _ ((keepA _ (keepA _ p11)))
    replace l400 : w5.cell? ⟨w4.heap.size, 0, none⟩ = some (.int .i64 al) := hk5 _ _ _ (by simp [go_sem])
    replace l401 : w5.cell? ⟨w4.heap.size, 1, none⟩ = some (.int .i64 ((al + ah) / 2)) := hk5 _ _ _ (by simp [go_sem])
    replace l410 : w5.cell? ⟨w4.heap.size + 1, 0, none⟩ = some (.int .i64 ((al + ah) / 2)) := hk5 _ _ _ (by simp [go_sem])
    replace l411 : w5.cell? ⟨w4.heap.size + 1, 1, none⟩ = some (.int .i64 ah) := hk5 _ _ _ (by simp [go_sem])
    have bp00 : w.heap.size < w5.heap.size := World.block_lt_of_cell? w5 ⟨w.heap.size, 0, none⟩ p00
    have bp10 : w.heap.size + 1 < w5.heap.size := World.block_lt_of_cell? w5 ⟨w.heap.size + 1, 0, none⟩ p10
    have bl400 : w4.heap.size < w5.heap.size := World.block_lt_of_cell? w5 ⟨w4.heap.size, 0, none⟩ l400
    have bl410 : w4.heap.size + 1 < w5.heap.size := World.block_lt_of_cell? w5 ⟨w4.heap.size + 1, 0, none⟩ l410
    clear hk5
    go_wp2_with fail
    refine useK w (s2.out _) (by go_grown) ?_; rintro e w6 rfl hB6 hk6 hs6
    replace p00 : w6.cell? ⟨w.heap.size, 0, none⟩ = some (.int .i64 al) := hk6 _ _ _ ((keepA _ p00))
    replace p01 : w6.cell? ⟨w.heap.size, 1, none⟩ = some (.int .i64 ah) := hk6 _ _ _ ((keepA _ p01))
    replace p10 : w6.cell? ⟨w.heap.size + 1, 0, none⟩ = some (.int .i64 bl) := hk6 _ _ _ ((keepA _ p10))
    replace p11 : w6.cell? ⟨w.heap.size + 1, 1, none⟩ = some (.int .i64 bh) := hk6 _ _ _ ((keepA _ p11))
    replace l400 : w6.cell? ⟨w4.heap.size, 0, none⟩ = some (.int .i64 al) := hk6 _ _ _ ((keepA _ l400))
    replace l401 : w6.cell? ⟨w4.heap.size, 1, none⟩ = some (.int .i64 ((al + ah) / 2)) := hk6 _ _ _ ((keepA _ l401))
    replace l410 : w6.cell? ⟨w4.heap.size + 1, 0, none⟩ = some (.int .i64 ((al + ah) / 2)) := hk6 _ _ _ ((keepA _ l410))
    replace l411 : w6.cell? ⟨w4.heap.size + 1, 1, none⟩ = some (.int .i64 ah) := hk6 _ _ _ ((keepA _ l411))
    replace l500 : w6.cell? ⟨w5.heap.size, 0, none⟩ = some (.int .i64 al) := hk6 _ _ _ (by simp [go_sem])
    replace l501 : w6.cell? ⟨w5.heap.size, 1, none⟩ = some (.int .i64 ah) := hk6 _ _ _ (by simp [go_sem])
    have bp00 : w.heap.size < w6.heap.size := World.block_lt_of_cell? w6 ⟨w.heap.size, 0, none⟩ p00
    have bp10 : w.heap.size + 1 < w6.heap.size := World.block_lt_of_cell? w6 ⟨w.heap.size + 1, 0, none⟩ p10
    have bl400 : w4.heap.size < w6.heap.size := World.block_lt_of_cell? w6 ⟨w4.heap.size, 0, none⟩ l400
    have bl410 : w4.heap.size + 1 < w6.heap.size := World.block_lt_of_cell? w6 ⟨w4.heap.size + 1, 0, none⟩ l410
    have bl500 : w5.heap.size < w6.heap.size := World.block_lt_of_cell? w6 ⟨w5.heap.size, 0, none⟩ l500
    clear hk6
    go_wp2_with fail
    refine useK w (s4.out _) (by go_grown) ?_; rintro e w7 rfl hB7 hk7 hs7
    replace p00 : w7.cell? ⟨w.heap.size, 0, none⟩ = some (.int .i64 al) := hk7 _ _ _ (p00)
    replace p01 : w7.cell? ⟨w.heap.size, 1, none⟩ = some (.int .i64 ah) := hk7 _ _ _ (p01)
    replace p10 : w7.cell? ⟨w.heap.size + 1, 0, none⟩ = some (.int .i64 bl) := hk7 _ _ _ (p10)
    replace p11 : w7.cell? ⟨w.heap.size + 1, 1, none⟩ = some (.int .i64 bh) := hk7 _ _ _ (p11)
    replace l400 : w7.cell? ⟨w4.heap.size, 0, none⟩ = some (.int .i64 al) := hk7 _ _ _ (l400)
    replace l401 : w7.cell? ⟨w4.heap.size, 1, none⟩ = some (.int .i64 ((al + ah) / 2)) := hk7 _ _ _ (l401)
    replace l410 : w7.cell? ⟨w4.heap.size + 1, 0, none⟩ = some (.int .i64 ((al + ah) / 2)) := hk7 _ _ _ (l410)
    replace l411 : w7.cell? ⟨w4.heap.size + 1, 1, none⟩ = some (.int .i64 ah) := hk7 _ _ _ (l411)
    replace l500 : w7.cell? ⟨w5.heap.size, 0, none⟩ = some (.int .i64 al) := hk7 _ _ _ (l500)
    replace l501 : w7.cell? ⟨w5.heap.size, 1, none⟩ = some (.int .i64 ah) := hk7 _ _ _ (l501)
    have bp00 : w.heap.size < w7.heap.size := World.block_lt_of_cell? w7 ⟨w.heap.size, 0, none⟩ p00
    have bp10 : w.heap.size + 1 < w7.heap.size := World.block_lt_of_cell? w7 ⟨w.heap.size + 1, 0, none⟩ p10
    have bl400 : w4.heap.size < w7.heap.size := World.block_lt_of_cell? w7 ⟨w4.heap.size, 0, none⟩ l400
    have bl410 : w4.heap.size + 1 < w7.heap.size := World.block_lt_of_cell? w7 ⟨w4.heap.size + 1, 0, none⟩ l410
    have bl500 : w5.heap.size < w7.heap.size := World.block_lt_of_cell? w7 ⟨w5.heap.size, 0, none⟩ l500
    clear hk7
    go_wp2_with fail
    refine useK w (s5.out _) (by go_grown) ?_; rintro e w8 rfl hB8 hk8 hs8
    replace p00 : w8.cell? ⟨w.heap.size, 0, none⟩ = some (.int .i64 al) := hk8 _ _ _ ((keepA _ p00))
    replace p01 : w8.cell? ⟨w.heap.size, 1, none⟩ = some (.int .i64 ah) := hk8 _ _ _ ((keepA _ p01))
    replace p10 : w8.cell? ⟨w.heap.size + 1, 0, none⟩ = some (.int .i64 bl) := hk8 _ _ _ ((keepA _ p10))
    replace p11 : w8.cell? ⟨w.heap.size + 1, 1, none⟩ = some (.int .i64 bh) := hk8 _ _ _ ((keepA _ p11))
    replace l400 : w8.cell? ⟨w4.heap.size, 0, none⟩ = some (.int .i64 al) := hk8 _ _ _ ((keepA _ l400))
    replace l401 : w8.cell? ⟨w4.heap.size, 1, none⟩ = some (.int .i64 ((al + ah) / 2)) := hk8 _ _ _ ((keepA _ l401))
    replace l410 : w8.cell? ⟨w4.heap.size + 1, 0, none⟩ = some (.int .i64 ((al + ah) / 2)) := hk8 _ _ _ ((keepA _ l410))
    replace l411 : w8.cell? ⟨w4.heap.size + 1, 1, none⟩ = some (.int .i64 ah) := hk8 _ _ _ ((keepA _ l411))
    replace l500 : w8.cell? ⟨w5.heap.size, 0, none⟩ = some (.int .i64 al) := hk8 _ _ _ ((keepA _ l500))
    replace l501 : w8.cell? ⟨w5.heap.size, 1, none⟩ = some (.int .i64 ah) := hk8 _ _ _ ((keepA _ l501))
    replace l700 : w8.cell? ⟨w7.heap.size, 0, none⟩ = some (.int .i64 (min al bl)) := hk8 _ _ _ (by simp [go_sem])
    replace l701 : w8.cell? ⟨w7.heap.size, 1, none⟩ = some (.int .i64 (max ah bh)) := hk8 _ _ _ (by simp [go_sem])
    have bp00 : w.heap.size < w8.heap.size := World.block_lt_of_cell? w8 ⟨w.heap.size, 0, none⟩ p00
    have bp10 : w.heap.size + 1 < w8.heap.size := World.block_lt_of_cell? w8 ⟨w.heap.size + 1, 0, none⟩ p10
    have bl400 : w4.heap.size < w8.heap.size := World.block_lt_of_cell? w8 ⟨w4.heap.size, 0, none⟩ l400
    have bl410 : w4.heap.size + 1 < w8.heap.size := World.block_lt_of_cell? w8 ⟨w4.heap.size + 1, 0, none⟩ l410
    have bl500 : w5.heap.size < w8.heap.size := World.block_lt_of_cell? w8 ⟨w5.heap.size, 0, none⟩ l500
    have bl700 : w7.heap.size < w8.heap.size := World.block_lt_of_cell? w8 ⟨w7.heap.size, 0, none⟩ l700
    clear hk8
    go_wp2_with fail
    refine wp_region_held_drew (S := (fun w' => w'.cell? ⟨w.heap.size, 0, none⟩ = some (.int .i64 al) ∧ w'.cell? ⟨w.heap.size, 1, none⟩ = some (.int .i64 ah) ∧ w'.cell? ⟨w.heap.size + 1, 0, none⟩ = some (.int .i64 bl) ∧ w'.cell? ⟨w.heap.size + 1, 1, none⟩ = some (.int .i64 bh) ∧ w'.cell? ⟨w7.heap.size, 0, none⟩ = some (.int .i64 (min al bl)) ∧ w'.cell? ⟨w7.heap.size, 1, none⟩ = some (.int .i64 (max ah bh)))) (by kernel_rfl) (by (try dsimp only); (first | (exact ⟨hk1 _ _ _ (hOld.1), hk1 _ _ _ (hOld.2.1), hk1 _ _ _ (hOld.2.2.1), hk1 _ _ _ (hOld.2.2.2.1), hk1 _ _ _ (hOld.2.2.2.2.1), hk1 _ _ _ (hOld.2.2.2.2.2)⟩) | ((try simp only [World.cell?_drew, World.frozen?_drew]); (repeat' apply And.intro) <;> (first | (with_reducible assumption) | (with_reducible exact ⟨_, by assumption⟩) | (with_reducible exact ⟨_, two_other (by assumption) (by omega)⟩) | (with_reducible exact two_0 (by assumption)) | (with_reducible exact two_1 (by assumption)) | (with_reducible exact two_other (by assumption) (by omega)) | (with_reducible exact two_fz (by assumption)) | (with_reducible exact keepA _ (by assumption)) | (with_reducible exact keepA _ (keepA _ (keepA _ (by assumption)))) | (simp (maxDischargeDepth := 8) [*, go_sem, World.cell?_alloc_some, World.cell?_setCell_far]; done))) | (go_keep; done) | (simp (maxDischargeDepth := 8) [*, go_sem, World.cell?_alloc_some, World.cell?_setCell_far]; done))) (fun hHeld => ?_)
    (refine wpAnyH_take (i := 0) (oi := ⟨some 114, _, _, _, _, none⟩) (v := ?_) rfl (by kernel_rfl) (by kernel_rfl) (by kernel_rfl) (fun _ _ _ h => h) (Or.inl ⟨by rfl, ?_⟩) hHeld ?_; rotate_left; (· (intro w9 hSw; (try dsimp only at hSw); go_simp; (try with_reducible rfl))))
    (try simp only [Act.put, List.setIfInBounds_toArray, List.set_cons_zero, List.set_cons_succ])
    (refine wpAnyH_take (i := 1) (oi := ⟨some 115, _, _, _, _, none⟩) (v := ?_) rfl (by kernel_rfl) (by kernel_rfl) (by kernel_rfl) (fun _ _ _ h => h) (Or.inl ⟨by rfl, ?_⟩) hHeld ?_; rotate_left; (· (intro w9 hSw; (try dsimp only at hSw); go_simp; (try with_reducible rfl))))
    (try simp only [Act.put, List.setIfInBounds_toArray, List.set_cons_zero, List.set_cons_succ])
    (refine wpAnyH_take (i := 2) (oi := ⟨some 116, _, _, _, _, none⟩) (v := ?_) rfl (by kernel_rfl) (by kernel_rfl) (by kernel_rfl) (fun _ _ _ h => h) (Or.inl ⟨by rfl, ?_⟩) hHeld ?_; rotate_left; (· (intro w9 hSw; (try dsimp only at hSw); go_simp; (try with_reducible rfl))))
    (try simp only [Act.put, List.setIfInBounds_toArray, List.set_cons_zero, List.set_cons_succ])
    (first | (refine wpAnyH_take (i := 3) (oi := ⟨some 117, _, _, _, _, some (2, true)⟩) (v := ?_) rfl (by kernel_rfl) (by kernel_rfl) (by kernel_rfl) (fun _ _ _ h => h) (Or.inl ⟨by rfl, ?_⟩) hHeld ?_; rotate_left; (· (intro w9 hSw; (try dsimp only at hSw); go_simp; (try with_reducible rfl)))) | (refine wpAnyH_take (i := 3) (oi := ⟨some 117, _, _, _, _, some (2, true)⟩) (v := undef) rfl (by kernel_rfl) (by kernel_rfl) (by kernel_rfl) (fun _ _ _ h => h) (Or.inr ⟨by rfl, rfl⟩) hHeld ?_))
    (try simp only [Act.put, List.setIfInBounds_toArray, List.set_cons_zero, List.set_cons_succ])
    (first | (refine wpAnyH_take (i := 4) (oi := ⟨some 118, _, _, _, _, some (2, true)⟩) (v := ?_) rfl (by kernel_rfl) (by kernel_rfl) (by kernel_rfl) (fun _ _ _ h => h) (Or.inl ⟨by rfl, ?_⟩) hHeld ?_; rotate_left; (· (intro w9 hSw; (try dsimp only at hSw); go_simp; (try with_reducible rfl)))) | (refine wpAnyH_take (i := 4) (oi := ⟨some 118, _, _, _, _, some (2, true)⟩) (v := undef) rfl (by kernel_rfl) (by kernel_rfl) (by kernel_rfl) (fun _ _ _ h => h) (Or.inr ⟨by rfl, rfl⟩) hHeld ?_))
    (try simp only [Act.put, List.setIfInBounds_toArray, List.set_cons_zero, List.set_cons_succ])
    (first | (refine wpAnyH_take (i := 6) (oi := ⟨some 120, _, _, _, _, some (2, true)⟩) (v := ?_) rfl (by kernel_rfl) (by kernel_rfl) (by kernel_rfl) (fun _ _ _ h => h) (Or.inl ⟨by rfl, ?_⟩) hHeld ?_; rotate_left; (· (intro w9 hSw; (try dsimp only at hSw); go_simp; (try with_reducible rfl)))) | (refine wpAnyH_take (i := 6) (oi := ⟨some 120, _, _, _, _, some (2, true)⟩) (v := undef) rfl (by kernel_rfl) (by kernel_rfl) (by kernel_rfl) (fun _ _ _ h => h) (Or.inr ⟨by rfl, rfl⟩) hHeld ?_))
    (try simp only [Act.put, List.setIfInBounds_toArray, List.set_cons_zero, List.set_cons_succ])
    (first | (refine wpAnyH_take (i := 7) (oi := ⟨some 121, _, _, _, _, some (2, true)⟩) (v := ?_) rfl (by kernel_rfl) (by kernel_rfl) (by kernel_rfl) (fun _ _ _ h => h) (Or.inl ⟨by rfl, ?_⟩) hHeld ?_; rotate_left; (· (intro w9 hSw; (try dsimp only at hSw); go_simp; (try with_reducible rfl)))) | (refine wpAnyH_take (i := 7) (oi := ⟨some 121, _, _, _, _, some (2, true)⟩) (v := undef) rfl (by kernel_rfl) (by kernel_rfl) (by kernel_rfl) (fun _ _ _ h => h) (Or.inr ⟨by rfl, rfl⟩) hHeld ?_))
    (try simp only [Act.put, List.setIfInBounds_toArray, List.set_cons_zero, List.set_cons_succ])
    (first | (refine wpAnyH_ready (rs := [5]) (by kernel_rfl) (by simp) ?_; refine AllReadyH.cons (o := ⟨some 119, _, _, _, _, some (2, true)⟩) rfl (fun K hK => ?_) AllReadyH.nil; go_simp; (first | (go_at_call 50; ((with_reducible refine useF w (s6.out _) ?_ ?_); (· go_grown); rintro e w1 rfl hB1 hk1 hf1 hs1; have hz1 := hB1.size)) | (go_at_call 50; ((with_reducible refine useF w (s7.out _) ?_ ?_); (· go_grown); rintro e w1 rfl hB1 hk1 hf1 hs1; have hz1 := hB1.size))); have hOld := hHeld; clear hHeld; refine hK.out _ _ ?_ (fun hHeld => ?_); (· ((try dsimp only); (first | (exact ⟨hk1 _ _ _ (hOld.1), hk1 _ _ _ (hOld.2.1), hk1 _ _ _ (hOld.2.2.1), hk1 _ _ _ (hOld.2.2.2.1), hk1 _ _ _ (hOld.2.2.2.2.1), hk1 _ _ _ (hOld.2.2.2.2.2)⟩) | ((try simp only [World.cell?_drew, World.frozen?_drew]); (repeat' apply And.intro) <;> (first | (with_reducible assumption) | (with_reducible exact ⟨_, by assumption⟩) | (with_reducible exact ⟨_, two_other (by assumption) (by omega)⟩) | (with_reducible exact two_0 (by assumption)) | (with_reducible exact two_1 (by assumption)) | (with_reducible exact two_other (by assumption) (by omega)) | (with_reducible exact two_fz (by assumption)) | (with_reducible exact keepA _ (by assumption)) | (with_reducible exact keepA _ (keepA _ (keepA _ (by assumption)))) | (simp (maxDischargeDepth := 8) [*, go_sem, World.cell?_alloc_some, World.cell?_setCell_far]; done))) | (go_keep; done) | (simp (maxDischargeDepth := 8) [*, go_sem, World.cell?_alloc_some, World.cell?_setCell_far]; done)))); clear hK K hOld; (try clear hc1 hf1); (try clear hk1 hf1)) | (refine wpAnyH_take (i := 5) (oi := ⟨some 119, _, _, _, _, some (2, true)⟩) (v := undef) rfl (by kernel_rfl) (by kernel_rfl) (by kernel_rfl) (fun _ _ _ h => h) (Or.inr ⟨by rfl, rfl⟩) hHeld ?_))
    (try simp only [Act.put, List.setIfInBounds_toArray, List.set_cons_zero, List.set_cons_succ])
    (first | (refine wpAnyH_ready (rs := [8]) (by kernel_rfl) (by simp) ?_; refine AllReadyH.cons (o := ⟨some 122, _, _, _, _, some (2, true)⟩) rfl (fun K hK => ?_) AllReadyH.nil; go_simp; (first | (go_at_call 50; ((with_reducible refine useF w (s6.out _) ?_ ?_); (· go_grown); rintro e w1 rfl hB1 hk1 hf1 hs1; have hz1 := hB1.size)) | (go_at_call 50; ((with_reducible refine useF w (s7.out _) ?_ ?_); (· go_grown); rintro e w1 rfl hB1 hk1 hf1 hs1; have hz1 := hB1.size))); have hOld := hHeld; clear hHeld; refine hK.out _ _ ?_ (fun hHeld => ?_); (· ((try dsimp only); (first | (exact ⟨hk1 _ _ _ (hOld.1), hk1 _ _ _ (hOld.2.1), hk1 _ _ _ (hOld.2.2.1), hk1 _ _ _ (hOld.2.2.2.1), hk1 _ _ _ (hOld.2.2.2.2.1), hk1 _ _ _ (hOld.2.2.2.2.2)⟩) | ((try simp only [World.cell?_drew, World.frozen?_drew]); (repeat' apply And.intro) <;> (first | (with_reducible assumption) | (with_reducible exact ⟨_, by assumption⟩) | (with_reducible exact ⟨_, two_other (by assumption) (by omega)⟩) | (with_reducible exact two_0 (by assumption)) | (with_reducible exact two_1 (by assumption)) | (with_reducible exact two_other (by assumption) (by omega)) | (with_reducible exact two_fz (by assumption)) | (with_reducible exact keepA _ (by assumption)) | (with_reducible exact keepA _ (keepA _ (keepA _ (by assumption)))) | (simp (maxDischargeDepth := 8) [*, go_sem, World.cell?_alloc_some, World.cell?_setCell_far]; done))) | (go_keep; done) | (simp (maxDischargeDepth := 8) [*, go_sem, World.cell?_alloc_some, World.cell?_setCell_far]; done)))); clear hK K hOld; (try clear hc1 hf1); (try clear hk1 hf1)) | (refine wpAnyH_take (i := 8) (oi := ⟨some 122, _, _, _, _, some (2, true)⟩) (v := undef) rfl (by kernel_rfl) (by kernel_rfl) (by kernel_rfl) (fun _ _ _ h => h) (Or.inr ⟨by rfl, rfl⟩) hHeld ?_))
    (try simp only [Act.put, List.setIfInBounds_toArray, List.set_cons_zero, List.set_cons_succ])
    (first | (refine wpAnyH_take (i := 9) (oi := ⟨some 123, _, _, _, _, some (2, true)⟩) (v := ?_) rfl (by kernel_rfl) (by kernel_rfl) (by kernel_rfl) (fun _ _ _ h => h) (Or.inl ⟨by rfl, ?_⟩) hHeld ?_; rotate_left; (· (intro w9 hSw; (try dsimp only at hSw); go_simp; (try with_reducible rfl)))) | (refine wpAnyH_take (i := 9) (oi := ⟨some 123, _, _, _, _, some (2, true)⟩) (v := undef) rfl (by kernel_rfl) (by kernel_rfl) (by kernel_rfl) (fun _ _ _ h => h) (Or.inr ⟨by rfl, rfl⟩) hHeld ?_))
    (try simp only [Act.put, List.setIfInBounds_toArray, List.set_cons_zero, List.set_cons_succ])
    (first | (refine wpAnyH_take (i := 10) (oi := ⟨some 124, _, _, _, _, some (2, true)⟩) (v := ?_) rfl (by kernel_rfl) (by kernel_rfl) (by kernel_rfl) (fun _ _ _ h => h) (Or.inl ⟨by rfl, ?_⟩) hHeld ?_; rotate_left; (· (intro w9 hSw; (try dsimp only at hSw); go_simp; (try with_reducible rfl)))) | (refine wpAnyH_take (i := 10) (oi := ⟨some 124, _, _, _, _, some (2, true)⟩) (v := undef) rfl (by kernel_rfl) (by kernel_rfl) (by kernel_rfl) (fun _ _ _ h => h) (Or.inr ⟨by rfl, rfl⟩) hHeld ?_))
    (try simp only [Act.put, List.setIfInBounds_toArray, List.set_cons_zero, List.set_cons_succ])
    (refine wpAnyH_take (i := 11) (oi := ⟨some 125, _, _, _, _, none⟩) (v := ?_) rfl (by kernel_rfl) (by kernel_rfl) (by kernel_rfl) (fun _ _ _ h => h) (Or.inl ⟨by rfl, ?_⟩) hHeld ?_; rotate_left; (· (intro w9 hSw; (try dsimp only at hSw); go_simp; (try with_reducible rfl))))
    (try simp only [Act.put, List.setIfInBounds_toArray, List.set_cons_zero, List.set_cons_succ])
    (refine wpAnyH_take (i := 12) (oi := ⟨some 126, _, _, _, _, none⟩) (v := ?_) rfl (by kernel_rfl) (by kernel_rfl) (by kernel_rfl) (fun _ _ _ h => h) (Or.inl ⟨by rfl, ?_⟩) hHeld ?_; rotate_left; (· (intro w9 hSw; (try dsimp only at hSw); go_simp; (try with_reducible rfl))))
    (try simp only [Act.put, List.setIfInBounds_toArray, List.set_cons_zero, List.set_cons_succ])
    (first | (refine wpAnyH_take (i := 13) (oi := ⟨some 127, _, _, _, _, some (12, true)⟩) (v := ?_) rfl (by kernel_rfl) (by kernel_rfl) (by kernel_rfl) (fun _ _ _ h => h) (Or.inl ⟨by rfl, ?_⟩) hHeld ?_; rotate_left; (· (intro w9 hSw; (try dsimp only at hSw); go_simp; (try with_reducible rfl)))) | (refine wpAnyH_take (i := 13) (oi := ⟨some 127, _, _, _, _, some (12, true)⟩) (v := undef) rfl (by kernel_rfl) (by kernel_rfl) (by kernel_rfl) (fun _ _ _ h => h) (Or.inr ⟨by rfl, rfl⟩) hHeld ?_))
    (try simp only [Act.put, List.setIfInBounds_toArray, List.set_cons_zero, List.set_cons_succ])
    (first | (refine wpAnyH_take (i := 14) (oi := ⟨some 128, _, _, _, _, some (12, true)⟩) (v := ?_) rfl (by kernel_rfl) (by kernel_rfl) (by kernel_rfl) (fun _ _ _ h => h) (Or.inl ⟨by rfl, ?_⟩) hHeld ?_; rotate_left; (· (intro w9 hSw; (try dsimp only at hSw); go_simp; (try with_reducible rfl)))) | (refine wpAnyH_take (i := 14) (oi := ⟨some 128, _, _, _, _, some (12, true)⟩) (v := undef) rfl (by kernel_rfl) (by kernel_rfl) (by kernel_rfl) (fun _ _ _ h => h) (Or.inr ⟨by rfl, rfl⟩) hHeld ?_))
    (try simp only [Act.put, List.setIfInBounds_toArray, List.set_cons_zero, List.set_cons_succ])
    (first | (refine wpAnyH_ready (rs := [15]) (by kernel_rfl) (by simp) ?_; refine AllReadyH.cons (o := ⟨some 129, _, _, _, _, some (12, true)⟩) rfl (fun K hK => ?_) AllReadyH.nil; go_simp; (first | (go_at_call 50; ((with_reducible refine useF w (s6.out _) ?_ ?_); (· go_grown); rintro e w1 rfl hB1 hk1 hf1 hs1; have hz1 := hB1.size)) | (go_at_call 50; ((with_reducible refine useF w (s7.out _) ?_ ?_); (· go_grown); rintro e w1 rfl hB1 hk1 hf1 hs1; have hz1 := hB1.size))); have hOld := hHeld; clear hHeld; refine hK.out _ _ ?_ (fun hHeld => ?_); (· ((try dsimp only); (first | (exact ⟨hk1 _ _ _ (hOld.1), hk1 _ _ _ (hOld.2.1), hk1 _ _ _ (hOld.2.2.1), hk1 _ _ _ (hOld.2.2.2.1), hk1 _ _ _ (hOld.2.2.2.2.1), hk1 _ _ _ (hOld.2.2.2.2.2)⟩) | ((try simp only [World.cell?_drew, World.frozen?_drew]); (repeat' apply And.intro) <;> (first | (with_reducible assumption) | (with_reducible exact ⟨_, by assumption⟩) | (with_reducible exact ⟨_, two_other (by assumption) (by omega)⟩) | (with_reducible exact two_0 (by assumption)) | (with_reducible exact two_1 (by assumption)) | (with_reducible exact two_other (by assumption) (by omega)) | (with_reducible exact two_fz (by assumption)) | (with_reducible exact keepA _ (by assumption)) | (with_reducible exact keepA _ (keepA _ (keepA _ (by assumption)))) | (simp (maxDischargeDepth := 8) [*, go_sem, World.cell?_alloc_some, World.cell?_setCell_far]; done))) | (go_keep; done) | (simp (maxDischargeDepth := 8) [*, go_sem, World.cell?_alloc_some, World.cell?_setCell_far]; done)))); clear hK K hOld; (try clear hc1 hf1); (try clear hk1 hf1)) | (refine wpAnyH_take (i := 15) (oi := ⟨some 129, _, _, _, _, some (12, true)⟩) (v := undef) rfl (by kernel_rfl) (by kernel_rfl) (by kernel_rfl) (fun _ _ _ h => h) (Or.inr ⟨by rfl, rfl⟩) hHeld ?_))
    (try simp only [Act.put, List.setIfInBounds_toArray, List.set_cons_zero, List.set_cons_succ])
    (first | (refine wpAnyH_take (i := 16) (oi := ⟨some 130, _, _, _, _, some (12, true)⟩) (v := ?_) rfl (by kernel_rfl) (by kernel_rfl) (by kernel_rfl) (fun _ _ _ h => h) (Or.inl ⟨by rfl, ?_⟩) hHeld ?_; rotate_left; (· (intro w9 hSw; (try dsimp only at hSw); go_simp; (try with_reducible rfl)))) | (refine wpAnyH_take (i := 16) (oi := ⟨some 130, _, _, _, _, some (12, true)⟩) (v := undef) rfl (by kernel_rfl) (by kernel_rfl) (by kernel_rfl) (fun _ _ _ h => h) (Or.inr ⟨by rfl, rfl⟩) hHeld ?_))
    (try simp only [Act.put, List.setIfInBounds_toArray, List.set_cons_zero, List.set_cons_succ])
    (refine wpAnyH_take (i := 17) (oi := ⟨some 131, _, _, _, _, none⟩) (v := ?_) rfl (by kernel_rfl) (by kernel_rfl) (by kernel_rfl) (fun _ _ _ h => h) (Or.inl ⟨by rfl, ?_⟩) hHeld ?_; rotate_left; (· (intro w9 hSw; (try dsimp only at hSw); go_simp; (try with_reducible rfl))))
    (try simp only [Act.put, List.setIfInBounds_toArray, List.set_cons_zero, List.set_cons_succ])
    (refine wpAnyH_take (i := 18) (oi := ⟨some 19, _, _, _, _, none⟩) (v := ?_) rfl (by kernel_rfl) (by kernel_rfl) (by kernel_rfl) (fun _ _ _ h => h) (Or.inl ⟨by rfl, ?_⟩) hHeld ?_; rotate_left; (· (intro w9 hSw; (try dsimp only at hSw); go_simp; (try with_reducible rfl))))
    (try simp only [Act.put, List.setIfInBounds_toArray, List.set_cons_zero, List.set_cons_succ])
    refine wpAnyH_done (by kernel_rfl) ?_ _
    obtain ⟨x0, x1, y0, y1, h0, h1⟩ := hHeld
    go_wp2_with fail
    refine useF w (s8.out _) (by go_grown) ?_; rintro e w101 rfl hB101 hk101 hf101 hs101; clear hs101
    replace x0 : w101.cell? ⟨w.heap.size, 0, none⟩ = some (.int .i64 al) := hk101 _ _ _ (x0)
    replace x1 : w101.cell? ⟨w.heap.size, 1, none⟩ = some (.int .i64 ah) := hk101 _ _ _ (x1)
    replace y0 : w101.cell? ⟨w.heap.size + 1, 0, none⟩ = some (.int .i64 bl) := hk101 _ _ _ (y0)
    replace y1 : w101.cell? ⟨w.heap.size + 1, 1, none⟩ = some (.int .i64 bh) := hk101 _ _ _ (y1)
    replace h0 : w101.cell? ⟨w7.heap.size, 0, none⟩ = some (.int .i64 (min al bl)) := hk101 _ _ _ (h0)
    replace h1 : w101.cell? ⟨w7.heap.size, 1, none⟩ = some (.int .i64 (max ah bh)) := hk101 _ _ _ (h1)
    (try clear xb); have xb : w.heap.size < w101.heap.size := World.block_lt_of_cell? w101 ⟨w.heap.size, 0, none⟩ x0
    (try clear yb); have yb : w.heap.size + 1 < w101.heap.size := World.block_lt_of_cell? w101 ⟨w.heap.size + 1, 0, none⟩ y0
    (try clear hb); have hb : w7.heap.size < w101.heap.size := World.block_lt_of_cell? w101 ⟨w7.heap.size, 0, none⟩ h0
    clear hk101 hf101
    go_wp2_with fail
    refine useF w (s9.out _) (by go_grown) ?_; rintro e w102 rfl hB102 hk102 hf102 hs102; clear hs102
    replace x0 : w102.cell? ⟨w.heap.size, 0, none⟩ = some (.int .i64 al) := hk102 _ _ _ (x0)
    replace x1 : w102.cell? ⟨w.heap.size, 1, none⟩ = some (.int .i64 ah) := hk102 _ _ _ (x1)
    replace y0 : w102.cell? ⟨w.heap.size + 1, 0, none⟩ = some (.int .i64 bl) := hk102 _ _ _ (y0)
    replace y1 : w102.cell? ⟨w.heap.size + 1, 1, none⟩ = some (.int .i64 bh) := hk102 _ _ _ (y1)
    replace h0 : w102.cell? ⟨w7.heap.size, 0, none⟩ = some (.int .i64 (min al bl)) := hk102 _ _ _ (h0)
    replace h1 : w102.cell? ⟨w7.heap.size, 1, none⟩ = some (.int .i64 (max ah bh)) := hk102 _ _ _ (h1)
    (try clear xb); have xb : w.heap.size < w102.heap.size := World.block_lt_of_cell? w102 ⟨w.heap.size, 0, none⟩ x0
    (try clear yb); have yb : w.heap.size + 1 < w102.heap.size := World.block_lt_of_cell? w102 ⟨w.heap.size + 1, 0, none⟩ y0
    (try clear hb); have hb : w7.heap.size < w102.heap.size := World.block_lt_of_cell? w102 ⟨w7.heap.size, 0, none⟩ h0
    clear hk102 hf102
    go_wp2_with fail
    go_ret
    exact ⟨rfl, by go_grown⟩

theorem parts_good (al ah bl bh : Int) (w : World) (h : (-9223372036854775808 ≤ al ∧ al ≤ 9223372036854775807) ∧ (-9223372036854775808 ≤ ah ∧ ah ≤ 9223372036854775807) ∧ (-9223372036854775808 ≤ bl ∧ bl ≤ 9223372036854775807) ∧ (-9223372036854775808 ≤ bh ∧ bh ≤ 9223372036854775807)) (hc : chk al ah = 0 ∧ chk bl bh = 0 ∧ -9223372036854775807 ≤ al ∧ al ≤ ah ∧ -9223372036854775807 ≤ bl ∧ bl ≤ bh) :
    Calls Tryd.prog 9 #[.agg #[.int .i64 al, .int .i64 ah], .agg #[.int .i64 bl, .int .i64 bh]] w fun e w' => e = .returned (.bool true) ∧ Below w.heap.size w w' := by
  by_cases c : max al bl ≤ min ah bh
  · exact parts_common al ah bl bh w h c hc
  · rcases (by omega : ah < bl ∨ bh < al) with d | d
    · exact parts_apart al ah bl bh w h (-1) 1 c (Or.inl ⟨d, rfl, rfl⟩) hc
    · exact parts_apart al ah bl bh w h 1 (-1) c (Or.inr ⟨d, rfl, rfl⟩) hc
theorem lawParts_any (al ah bl bh : Int) (w : World) (h : (-9223372036854775808 ≤ al ∧ al ≤ 9223372036854775807) ∧ (-9223372036854775808 ≤ ah ∧ ah ≤ 9223372036854775807) ∧ (-9223372036854775808 ≤ bl ∧ bl ≤ 9223372036854775807) ∧ (-9223372036854775808 ≤ bh ∧ bh ≤ 9223372036854775807)) :
    Calls Tryd.prog 9 #[.agg #[.int .i64 al, .int .i64 ah], .agg #[.int .i64 bl, .int .i64 bh]] w fun e w' => e = .returned (.bool true) ∧ Below w.heap.size w w' := by
  rcases chk_cases al ah with ⟨e, k1, k2⟩ | ⟨e, k1⟩
  · rcases chk_cases bl bh with ⟨e2, k3, k4⟩ | ⟨e2, k3⟩
    · exact parts_good al ah bl bh w h ⟨e, e2, k1, k2, k3, k4⟩
    · exact parts_bad al ah bl bh w h (by omega)
  · exact parts_bad al ah bl bh w h (by omega)
end Go.Proofs.YtjleflfncijnpaaDoor
