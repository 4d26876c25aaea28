/- Whether planets and states are valid, by package flight and the document. -/
import Derived.Test.YtepcifijhnelcaaRows
import Derived.Test.YtepcifijhnelcaaBase
import Derived.Test.YtepcifijhnelcaaFacts
import Derived.Test.YtepcifijhnelcaaTwo
import Derived.Deep.RegionHeld3
import Derived.Deep.RegionWith
import Derived.Deep.QuietTactic
import Derived.BigQuiet
import Derived.Test.YtepcifijhnelcaaSeq
import Derived.Test.YtepcifijhnelcaaW
import Derived.Test.YtepcifijhnelcaaAsks
import Derived.Test.YtepcifijhnelcaaFlyF
import Derived.Test.YtepcifijhnelcaaFlyG
set_option linter.unusedVariables false
set_option linter.unusedSimpArgs false
set_option maxHeartbeats 4000000
set_option maxRecDepth 100000
namespace Go.Proofs.Ytepcifijhnelcaa
open Go Go.RowKit
def errB (b : Bool) : Int := if b then 0 else 2
theorem errB_t : errB true = 0 := rfl
theorem errB_f : errB false = 2 := rfl
def planetB (m1 m2 r1 r2 o1 o2 s1 s2 a b c d p q : Int) : Bool := boxB a b c d p q && leastB m1 m2 0 && leastB r1 r2 0 && vldB o1 o2 && vldB s1 s2
theorem planet_all (m1 m2 r1 r2 o1 o2 s1 s2 a b c d p q : Int) : planetB m1 m2 r1 r2 o1 o2 s1 s2 a b c d p q = (allB [(m1, m2), (r1, r2), (o1, o2), (s1, s2)] && boxB a b c d p q && decide (0 ≤ m1) && decide (0 ≤ r1)) := by
  unfold planetB leastB vldB allB
  simp only [List.all_cons, List.all_nil, Bool.and_true]
  generalize boxB a b c d p q = x1; generalize decide (chk m1 m2 = 0) = x2; generalize decide (0 ≤ m1) = x3; generalize decide (chk r1 r2 = 0) = x4; generalize decide (0 ≤ r1) = x5; generalize decide (chk o1 o2 = 0) = x6; generalize decide (chk s1 s2 = 0) = x7
  cases x1 <;> cases x2 <;> cases x3 <;> cases x4 <;> cases x5 <;> cases x6 <;> cases x7 <;> rfl
theorem checkplanet_any (m1 m2 r1 r2 o1 o2 s1 s2 a b c d p q : Int) (w : World) (h : (-9223372036854775808 ≤ m1 ∧ m1 ≤ 9223372036854775807) ∧ (-9223372036854775808 ≤ m2 ∧ m2 ≤ 9223372036854775807) ∧ (-9223372036854775808 ≤ r1 ∧ r1 ≤ 9223372036854775807) ∧ (-9223372036854775808 ≤ r2 ∧ r2 ≤ 9223372036854775807) ∧ (-9223372036854775808 ≤ o1 ∧ o1 ≤ 9223372036854775807) ∧ (-9223372036854775808 ≤ o2 ∧ o2 ≤ 9223372036854775807) ∧ (-9223372036854775808 ≤ s1 ∧ s1 ≤ 9223372036854775807) ∧ (-9223372036854775808 ≤ s2 ∧ s2 ≤ 9223372036854775807) ∧ (-9223372036854775808 ≤ a ∧ a ≤ 9223372036854775807) ∧ (-9223372036854775808 ≤ b ∧ b ≤ 9223372036854775807) ∧ (-9223372036854775808 ≤ c ∧ c ≤ 9223372036854775807) ∧ (-9223372036854775808 ≤ d ∧ d ≤ 9223372036854775807) ∧ (-9223372036854775808 ≤ p ∧ p ≤ 9223372036854775807) ∧ (-9223372036854775808 ≤ q ∧ q ≤ 9223372036854775807)) :
    Calls Try.prog 9 #[.agg #[.int .i64 m1, .int .i64 m2, .int .i64 r1, .int .i64 r2, .int .i64 o1, .int .i64 o2, .int .i64 s1, .int .i64 s2, .int .i64 a, .int .i64 b, .int .i64 c, .int .i64 d, .int .i64 p, .int .i64 q]] w fun e w' => e = .returned (.int .i64 (errB (planetB m1 m2 r1 r2 o1 o2 s1 s2 a b c d p q))) ∧ Below w.heap.size w w' := by
  have h4 := hid (bd4 (a := m1) (b := m2) (c := r1) (d := r2) (p := o1) (q := o2) (x := s1) (y := s2) (by omega))
  have h3 := hid (bd3 (a := a) (b := b) (c := c) (d := d) (p := p) (q := q) (by omega))
  have k4 := hid (fun B cap W hs => arevalid_any B 0 cap [(m1, m2), (r1, r2), (o1, o2), (s1, s2)] W (by simp) hs h4)
  have k3 := hid (fun B cap W hs => arevalid_any B 8 cap [(a, b), (c, d), (p, q)] W (by simp) hs h3)
  rw [all3] at k3
  rw [planet_all]
  clear h h4 h3
  cases e1 : allB [(m1, m2), (r1, r2), (o1, o2), (s1, s2)]
  · rw [e1] at k4
    have hT := hid (show errB (false && boxB a b c d p q && decide (0 ≤ m1) && decide (0 ≤ r1)) = 2 by rw [Bool.false_and]; rfl)
    go_enter Try.func9, Try.ntmps9
    go_wp2_with fail
    refine useK w ((k4.out _ _ _ (spn4 (by simp [*, go_sem]) (by simp [*, go_sem]) (by simp [*, go_sem]) (by simp [*, go_sem]) (by simp [*, go_sem]) (by simp [*, go_sem]) (by simp [*, go_sem]) (by simp [*, go_sem])))) (by go_grown) ?_; rintro e w1 rfl hB1 hk1 hs1
    replace p00 : w1.cell? ⟨w.heap.size, 0, none⟩ = some (.int .i64 m1) := hk1 _ _ _ (by simp [go_sem])
    replace p01 : w1.cell? ⟨w.heap.size, 1, none⟩ = some (.int .i64 m2) := hk1 _ _ _ (by simp [go_sem])
    replace p02 : w1.cell? ⟨w.heap.size, 2, none⟩ = some (.int .i64 r1) := hk1 _ _ _ (by simp [go_sem])
    replace p03 : w1.cell? ⟨w.heap.size, 3, none⟩ = some (.int .i64 r2) := hk1 _ _ _ (by simp [go_sem])
    replace p04 : w1.cell? ⟨w.heap.size, 4, none⟩ = some (.int .i64 o1) := hk1 _ _ _ (by simp [go_sem])
    replace p05 : w1.cell? ⟨w.heap.size, 5, none⟩ = some (.int .i64 o2) := hk1 _ _ _ (by simp [go_sem])
    replace p06 : w1.cell? ⟨w.heap.size, 6, none⟩ = some (.int .i64 s1) := hk1 _ _ _ (by simp [go_sem])
    replace p07 : w1.cell? ⟨w.heap.size, 7, none⟩ = some (.int .i64 s2) := hk1 _ _ _ (by simp [go_sem])
    replace p08 : w1.cell? ⟨w.heap.size, 8, none⟩ = some (.int .i64 a) := hk1 _ _ _ (by simp [go_sem])
    replace p09 : w1.cell? ⟨w.heap.size, 9, none⟩ = some (.int .i64 b) := hk1 _ _ _ (by simp [go_sem])
    replace p010 : w1.cell? ⟨w.heap.size, 10, none⟩ = some (.int .i64 c) := hk1 _ _ _ (by simp [go_sem])
    replace p011 : w1.cell? ⟨w.heap.size, 11, none⟩ = some (.int .i64 d) := hk1 _ _ _ (by simp [go_sem])
    replace p012 : w1.cell? ⟨w.heap.size, 12, none⟩ = some (.int .i64 p) := hk1 _ _ _ (by simp [go_sem])
    replace p013 : w1.cell? ⟨w.heap.size, 13, none⟩ = some (.int .i64 q) := hk1 _ _ _ (by simp [go_sem])
    have bp00 : w.heap.size < w1.heap.size := World.block_lt_of_cell? w1 ⟨w.heap.size, 0, none⟩ p00
    clear hk1
    go_wp2_with fail
    go_ret
    exact ⟨ret_int hT.out.symm, by go_grown⟩
  rw [e1] at k4
  cases e2 : boxB a b c d p q
  · rw [e2] at k3
    have hT := hid (show errB (true && false && decide (0 ≤ m1) && decide (0 ≤ r1)) = 2 by simp [errB])
    go_enter Try.func9, Try.ntmps9
    go_wp2_with fail
    refine useK w ((k4.out _ _ _ (spn4 (by simp [*, go_sem]) (by simp [*, go_sem]) (by simp [*, go_sem]) (by simp [*, go_sem]) (by simp [*, go_sem]) (by simp [*, go_sem]) (by simp [*, go_sem]) (by simp [*, go_sem])))) (by go_grown) ?_; rintro e w1 rfl hB1 hk1 hs1
    replace p00 : w1.cell? ⟨w.heap.size, 0, none⟩ = some (.int .i64 m1) := hk1 _ _ _ (by simp [go_sem])
    replace p01 : w1.cell? ⟨w.heap.size, 1, none⟩ = some (.int .i64 m2) := hk1 _ _ _ (by simp [go_sem])
    replace p02 : w1.cell? ⟨w.heap.size, 2, none⟩ = some (.int .i64 r1) := hk1 _ _ _ (by simp [go_sem])
    replace p03 : w1.cell? ⟨w.heap.size, 3, none⟩ = some (.int .i64 r2) := hk1 _ _ _ (by simp [go_sem])
    replace p04 : w1.cell? ⟨w.heap.size, 4, none⟩ = some (.int .i64 o1) := hk1 _ _ _ (by simp [go_sem])
    replace p05 : w1.cell? ⟨w.heap.size, 5, none⟩ = some (.int .i64 o2) := hk1 _ _ _ (by simp [go_sem])
    replace p06 : w1.cell? ⟨w.heap.size, 6, none⟩ = some (.int .i64 s1) := hk1 _ _ _ (by simp [go_sem])
    replace p07 : w1.cell? ⟨w.heap.size, 7, none⟩ = some (.int .i64 s2) := hk1 _ _ _ (by simp [go_sem])
    replace p08 : w1.cell? ⟨w.heap.size, 8, none⟩ = some (.int .i64 a) := hk1 _ _ _ (by simp [go_sem])
    replace p09 : w1.cell? ⟨w.heap.size, 9, none⟩ = some (.int .i64 b) := hk1 _ _ _ (by simp [go_sem])
    replace p010 : w1.cell? ⟨w.heap.size, 10, none⟩ = some (.int .i64 c) := hk1 _ _ _ (by simp [go_sem])
    replace p011 : w1.cell? ⟨w.heap.size, 11, none⟩ = some (.int .i64 d) := hk1 _ _ _ (by simp [go_sem])
    replace p012 : w1.cell? ⟨w.heap.size, 12, none⟩ = some (.int .i64 p) := hk1 _ _ _ (by simp [go_sem])
    replace p013 : w1.cell? ⟨w.heap.size, 13, none⟩ = some (.int .i64 q) := hk1 _ _ _ (by simp [go_sem])
    have bp00 : w.heap.size < w1.heap.size := World.block_lt_of_cell? w1 ⟨w.heap.size, 0, none⟩ p00
    clear hk1
    go_wp2_with fail
    refine useK w ((k3.out _ _ _ (spn3 _ 8 (by simp [*, go_sem]) (by simp [*, go_sem]) (by simp [*, go_sem]) (by simp [*, go_sem]) (by simp [*, go_sem]) (by simp [*, go_sem])))) (by go_grown) ?_; rintro e w2 rfl hB2 hk2 hs2
    replace p00 : w2.cell? ⟨w.heap.size, 0, none⟩ = some (.int .i64 m1) := hk2 _ _ _ (p00)
    replace p01 : w2.cell? ⟨w.heap.size, 1, none⟩ = some (.int .i64 m2) := hk2 _ _ _ (p01)
    replace p02 : w2.cell? ⟨w.heap.size, 2, none⟩ = some (.int .i64 r1) := hk2 _ _ _ (p02)
    replace p03 : w2.cell? ⟨w.heap.size, 3, none⟩ = some (.int .i64 r2) := hk2 _ _ _ (p03)
    replace p04 : w2.cell? ⟨w.heap.size, 4, none⟩ = some (.int .i64 o1) := hk2 _ _ _ (p04)
    replace p05 : w2.cell? ⟨w.heap.size, 5, none⟩ = some (.int .i64 o2) := hk2 _ _ _ (p05)
    replace p06 : w2.cell? ⟨w.heap.size, 6, none⟩ = some (.int .i64 s1) := hk2 _ _ _ (p06)
    replace p07 : w2.cell? ⟨w.heap.size, 7, none⟩ = some (.int .i64 s2) := hk2 _ _ _ (p07)
    replace p08 : w2.cell? ⟨w.heap.size, 8, none⟩ = some (.int .i64 a) := hk2 _ _ _ (p08)
    replace p09 : w2.cell? ⟨w.heap.size, 9, none⟩ = some (.int .i64 b) := hk2 _ _ _ (p09)
    replace p010 : w2.cell? ⟨w.heap.size, 10, none⟩ = some (.int .i64 c) := hk2 _ _ _ (p010)
    replace p011 : w2.cell? ⟨w.heap.size, 11, none⟩ = some (.int .i64 d) := hk2 _ _ _ (p011)
    replace p012 : w2.cell? ⟨w.heap.size, 12, none⟩ = some (.int .i64 p) := hk2 _ _ _ (p012)
    replace p013 : w2.cell? ⟨w.heap.size, 13, none⟩ = some (.int .i64 q) := hk2 _ _ _ (p013)
    have bp00 : w.heap.size < w2.heap.size := World.block_lt_of_cell? w2 ⟨w.heap.size, 0, none⟩ p00
    clear hk2
    go_wp2_with fail
    go_ret
    exact ⟨ret_int hT.out.symm, by go_grown⟩
  rw [e2] at k3
  by_cases e3 : m1 < 0
  · have hT := hid (show errB (true && true && decide (0 ≤ m1) && decide (0 ≤ r1)) = 2 by rw [decide_eq_false (show ¬ 0 ≤ m1 by omega)]; simp [errB])
    go_enter Try.func9, Try.ntmps9
    go_wp2_with fail
    refine useK w ((k4.out _ _ _ (spn4 (by simp [*, go_sem]) (by simp [*, go_sem]) (by simp [*, go_sem]) (by simp [*, go_sem]) (by simp [*, go_sem]) (by simp [*, go_sem]) (by simp [*, go_sem]) (by simp [*, go_sem])))) (by go_grown) ?_; rintro e w1 rfl hB1 hk1 hs1
    replace p00 : w1.cell? ⟨w.heap.size, 0, none⟩ = some (.int .i64 m1) := hk1 _ _ _ (by simp [go_sem])
    replace p01 : w1.cell? ⟨w.heap.size, 1, none⟩ = some (.int .i64 m2) := hk1 _ _ _ (by simp [go_sem])
    replace p02 : w1.cell? ⟨w.heap.size, 2, none⟩ = some (.int .i64 r1) := hk1 _ _ _ (by simp [go_sem])
    replace p03 : w1.cell? ⟨w.heap.size, 3, none⟩ = some (.int .i64 r2) := hk1 _ _ _ (by simp [go_sem])
    replace p04 : w1.cell? ⟨w.heap.size, 4, none⟩ = some (.int .i64 o1) := hk1 _ _ _ (by simp [go_sem])
    replace p05 : w1.cell? ⟨w.heap.size, 5, none⟩ = some (.int .i64 o2) := hk1 _ _ _ (by simp [go_sem])
    replace p06 : w1.cell? ⟨w.heap.size, 6, none⟩ = some (.int .i64 s1) := hk1 _ _ _ (by simp [go_sem])
    replace p07 : w1.cell? ⟨w.heap.size, 7, none⟩ = some (.int .i64 s2) := hk1 _ _ _ (by simp [go_sem])
    replace p08 : w1.cell? ⟨w.heap.size, 8, none⟩ = some (.int .i64 a) := hk1 _ _ _ (by simp [go_sem])
    replace p09 : w1.cell? ⟨w.heap.size, 9, none⟩ = some (.int .i64 b) := hk1 _ _ _ (by simp [go_sem])
    replace p010 : w1.cell? ⟨w.heap.size, 10, none⟩ = some (.int .i64 c) := hk1 _ _ _ (by simp [go_sem])
    replace p011 : w1.cell? ⟨w.heap.size, 11, none⟩ = some (.int .i64 d) := hk1 _ _ _ (by simp [go_sem])
    replace p012 : w1.cell? ⟨w.heap.size, 12, none⟩ = some (.int .i64 p) := hk1 _ _ _ (by simp [go_sem])
    replace p013 : w1.cell? ⟨w.heap.size, 13, none⟩ = some (.int .i64 q) := hk1 _ _ _ (by simp [go_sem])
    have bp00 : w.heap.size < w1.heap.size := World.block_lt_of_cell? w1 ⟨w.heap.size, 0, none⟩ p00
    clear hk1
    go_wp2_with fail
    refine useK w ((k3.out _ _ _ (spn3 _ 8 (by simp [*, go_sem]) (by simp [*, go_sem]) (by simp [*, go_sem]) (by simp [*, go_sem]) (by simp [*, go_sem]) (by simp [*, go_sem])))) (by go_grown) ?_; rintro e w2 rfl hB2 hk2 hs2
    replace p00 : w2.cell? ⟨w.heap.size, 0, none⟩ = some (.int .i64 m1) := hk2 _ _ _ (p00)
    replace p01 : w2.cell? ⟨w.heap.size, 1, none⟩ = some (.int .i64 m2) := hk2 _ _ _ (p01)
    replace p02 : w2.cell? ⟨w.heap.size, 2, none⟩ = some (.int .i64 r1) := hk2 _ _ _ (p02)
    replace p03 : w2.cell? ⟨w.heap.size, 3, none⟩ = some (.int .i64 r2) := hk2 _ _ _ (p03)
    replace p04 : w2.cell? ⟨w.heap.size, 4, none⟩ = some (.int .i64 o1) := hk2 _ _ _ (p04)
    replace p05 : w2.cell? ⟨w.heap.size, 5, none⟩ = some (.int .i64 o2) := hk2 _ _ _ (p05)
    replace p06 : w2.cell? ⟨w.heap.size, 6, none⟩ = some (.int .i64 s1) := hk2 _ _ _ (p06)
    replace p07 : w2.cell? ⟨w.heap.size, 7, none⟩ = some (.int .i64 s2) := hk2 _ _ _ (p07)
    replace p08 : w2.cell? ⟨w.heap.size, 8, none⟩ = some (.int .i64 a) := hk2 _ _ _ (p08)
    replace p09 : w2.cell? ⟨w.heap.size, 9, none⟩ = some (.int .i64 b) := hk2 _ _ _ (p09)
    replace p010 : w2.cell? ⟨w.heap.size, 10, none⟩ = some (.int .i64 c) := hk2 _ _ _ (p010)
    replace p011 : w2.cell? ⟨w.heap.size, 11, none⟩ = some (.int .i64 d) := hk2 _ _ _ (p011)
    replace p012 : w2.cell? ⟨w.heap.size, 12, none⟩ = some (.int .i64 p) := hk2 _ _ _ (p012)
    replace p013 : w2.cell? ⟨w.heap.size, 13, none⟩ = some (.int .i64 q) := hk2 _ _ _ (p013)
    have bp00 : w.heap.size < w2.heap.size := World.block_lt_of_cell? w2 ⟨w.heap.size, 0, none⟩ p00
    clear hk2
    go_wp2_with fail
    go_ret
    exact ⟨ret_int hT.out.symm, by go_grown⟩
  by_cases e4 : r1 < 0
  · have hT := hid (show errB (true && true && decide (0 ≤ m1) && decide (0 ≤ r1)) = 2 by rw [decide_eq_false (show ¬ 0 ≤ r1 by omega)]; simp [errB])
    go_enter Try.func9, Try.ntmps9
    go_wp2_with fail
    refine useK w ((k4.out _ _ _ (spn4 (by simp [*, go_sem]) (by simp [*, go_sem]) (by simp [*, go_sem]) (by simp [*, go_sem]) (by simp [*, go_sem]) (by simp [*, go_sem]) (by simp [*, go_sem]) (by simp [*, go_sem])))) (by go_grown) ?_; rintro e w1 rfl hB1 hk1 hs1
    replace p00 : w1.cell? ⟨w.heap.size, 0, none⟩ = some (.int .i64 m1) := hk1 _ _ _ (by simp [go_sem])
    replace p01 : w1.cell? ⟨w.heap.size, 1, none⟩ = some (.int .i64 m2) := hk1 _ _ _ (by simp [go_sem])
    replace p02 : w1.cell? ⟨w.heap.size, 2, none⟩ = some (.int .i64 r1) := hk1 _ _ _ (by simp [go_sem])
    replace p03 : w1.cell? ⟨w.heap.size, 3, none⟩ = some (.int .i64 r2) := hk1 _ _ _ (by simp [go_sem])
    replace p04 : w1.cell? ⟨w.heap.size, 4, none⟩ = some (.int .i64 o1) := hk1 _ _ _ (by simp [go_sem])
    replace p05 : w1.cell? ⟨w.heap.size, 5, none⟩ = some (.int .i64 o2) := hk1 _ _ _ (by simp [go_sem])
    replace p06 : w1.cell? ⟨w.heap.size, 6, none⟩ = some (.int .i64 s1) := hk1 _ _ _ (by simp [go_sem])
    replace p07 : w1.cell? ⟨w.heap.size, 7, none⟩ = some (.int .i64 s2) := hk1 _ _ _ (by simp [go_sem])
    replace p08 : w1.cell? ⟨w.heap.size, 8, none⟩ = some (.int .i64 a) := hk1 _ _ _ (by simp [go_sem])
    replace p09 : w1.cell? ⟨w.heap.size, 9, none⟩ = some (.int .i64 b) := hk1 _ _ _ (by simp [go_sem])
    replace p010 : w1.cell? ⟨w.heap.size, 10, none⟩ = some (.int .i64 c) := hk1 _ _ _ (by simp [go_sem])
    replace p011 : w1.cell? ⟨w.heap.size, 11, none⟩ = some (.int .i64 d) := hk1 _ _ _ (by simp [go_sem])
    replace p012 : w1.cell? ⟨w.heap.size, 12, none⟩ = some (.int .i64 p) := hk1 _ _ _ (by simp [go_sem])
    replace p013 : w1.cell? ⟨w.heap.size, 13, none⟩ = some (.int .i64 q) := hk1 _ _ _ (by simp [go_sem])
    have bp00 : w.heap.size < w1.heap.size := World.block_lt_of_cell? w1 ⟨w.heap.size, 0, none⟩ p00
    clear hk1
    go_wp2_with fail
    refine useK w ((k3.out _ _ _ (spn3 _ 8 (by simp [*, go_sem]) (by simp [*, go_sem]) (by simp [*, go_sem]) (by simp [*, go_sem]) (by simp [*, go_sem]) (by simp [*, go_sem])))) (by go_grown) ?_; rintro e w2 rfl hB2 hk2 hs2
    replace p00 : w2.cell? ⟨w.heap.size, 0, none⟩ = some (.int .i64 m1) := hk2 _ _ _ (p00)
    replace p01 : w2.cell? ⟨w.heap.size, 1, none⟩ = some (.int .i64 m2) := hk2 _ _ _ (p01)
    replace p02 : w2.cell? ⟨w.heap.size, 2, none⟩ = some (.int .i64 r1) := hk2 _ _ _ (p02)
    replace p03 : w2.cell? ⟨w.heap.size, 3, none⟩ = some (.int .i64 r2) := hk2 _ _ _ (p03)
    replace p04 : w2.cell? ⟨w.heap.size, 4, none⟩ = some (.int .i64 o1) := hk2 _ _ _ (p04)
    replace p05 : w2.cell? ⟨w.heap.size, 5, none⟩ = some (.int .i64 o2) := hk2 _ _ _ (p05)
    replace p06 : w2.cell? ⟨w.heap.size, 6, none⟩ = some (.int .i64 s1) := hk2 _ _ _ (p06)
    replace p07 : w2.cell? ⟨w.heap.size, 7, none⟩ = some (.int .i64 s2) := hk2 _ _ _ (p07)
    replace p08 : w2.cell? ⟨w.heap.size, 8, none⟩ = some (.int .i64 a) := hk2 _ _ _ (p08)
    replace p09 : w2.cell? ⟨w.heap.size, 9, none⟩ = some (.int .i64 b) := hk2 _ _ _ (p09)
    replace p010 : w2.cell? ⟨w.heap.size, 10, none⟩ = some (.int .i64 c) := hk2 _ _ _ (p010)
    replace p011 : w2.cell? ⟨w.heap.size, 11, none⟩ = some (.int .i64 d) := hk2 _ _ _ (p011)
    replace p012 : w2.cell? ⟨w.heap.size, 12, none⟩ = some (.int .i64 p) := hk2 _ _ _ (p012)
    replace p013 : w2.cell? ⟨w.heap.size, 13, none⟩ = some (.int .i64 q) := hk2 _ _ _ (p013)
    have bp00 : w.heap.size < w2.heap.size := World.block_lt_of_cell? w2 ⟨w.heap.size, 0, none⟩ p00
    clear hk2
    go_wp2_with fail
    go_ret
    exact ⟨ret_int hT.out.symm, by go_grown⟩
  have hT := hid (show errB (true && true && decide (0 ≤ m1) && decide (0 ≤ r1)) = 0 by rw [decide_eq_true (show 0 ≤ m1 by omega), decide_eq_true (show 0 ≤ r1 by omega)]; rfl)
  go_enter Try.func9, Try.ntmps9
  go_wp2_with fail
  refine useK w ((k4.out _ _ _ (spn4 (by simp [*, go_sem]) (by simp [*, go_sem]) (by simp [*, go_sem]) (by simp [*, go_sem]) (by simp [*, go_sem]) (by simp [*, go_sem]) (by simp [*, go_sem]) (by simp [*, go_sem])))) (by go_grown) ?_; rintro e w1 rfl hB1 hk1 hs1
  replace p00 : w1.cell? ⟨w.heap.size, 0, none⟩ = some (.int .i64 m1) := hk1 _ _ _ (by simp [go_sem])
  replace p01 : w1.cell? ⟨w.heap.size, 1, none⟩ = some (.int .i64 m2) := hk1 _ _ _ (by simp [go_sem])
  replace p02 : w1.cell? ⟨w.heap.size, 2, none⟩ = some (.int .i64 r1) := hk1 _ _ _ (by simp [go_sem])
  replace p03 : w1.cell? ⟨w.heap.size, 3, none⟩ = some (.int .i64 r2) := hk1 _ _ _ (by simp [go_sem])
  replace p04 : w1.cell? ⟨w.heap.size, 4, none⟩ = some (.int .i64 o1) := hk1 _ _ _ (by simp [go_sem])
  replace p05 : w1.cell? ⟨w.heap.size, 5, none⟩ = some (.int .i64 o2) := hk1 _ _ _ (by simp [go_sem])
  replace p06 : w1.cell? ⟨w.heap.size, 6, none⟩ = some (.int .i64 s1) := hk1 _ _ _ (by simp [go_sem])
  replace p07 : w1.cell? ⟨w.heap.size, 7, none⟩ = some (.int .i64 s2) := hk1 _ _ _ (by simp [go_sem])
  replace p08 : w1.cell? ⟨w.heap.size, 8, none⟩ = some (.int .i64 a) := hk1 _ _ _ (by simp [go_sem])
  replace p09 : w1.cell? ⟨w.heap.size, 9, none⟩ = some (.int .i64 b) := hk1 _ _ _ (by simp [go_sem])
  replace p010 : w1.cell? ⟨w.heap.size, 10, none⟩ = some (.int .i64 c) := hk1 _ _ _ (by simp [go_sem])
  replace p011 : w1.cell? ⟨w.heap.size, 11, none⟩ = some (.int .i64 d) := hk1 _ _ _ (by simp [go_sem])
  replace p012 : w1.cell? ⟨w.heap.size, 12, none⟩ = some (.int .i64 p) := hk1 _ _ _ (by simp [go_sem])
  replace p013 : w1.cell? ⟨w.heap.size, 13, none⟩ = some (.int .i64 q) := hk1 _ _ _ (by simp [go_sem])
  have bp00 : w.heap.size < w1.heap.size := World.block_lt_of_cell? w1 ⟨w.heap.size, 0, none⟩ p00
  clear hk1
  go_wp2_with fail
  refine useK w ((k3.out _ _ _ (spn3 _ 8 (by simp [*, go_sem]) (by simp [*, go_sem]) (by simp [*, go_sem]) (by simp [*, go_sem]) (by simp [*, go_sem]) (by simp [*, go_sem])))) (by go_grown) ?_; rintro e w2 rfl hB2 hk2 hs2
  replace p00 : w2.cell? ⟨w.heap.size, 0, none⟩ = some (.int .i64 m1) := hk2 _ _ _ (p00)
  replace p01 : w2.cell? ⟨w.heap.size, 1, none⟩ = some (.int .i64 m2) := hk2 _ _ _ (p01)
  replace p02 : w2.cell? ⟨w.heap.size, 2, none⟩ = some (.int .i64 r1) := hk2 _ _ _ (p02)
  replace p03 : w2.cell? ⟨w.heap.size, 3, none⟩ = some (.int .i64 r2) := hk2 _ _ _ (p03)
  replace p04 : w2.cell? ⟨w.heap.size, 4, none⟩ = some (.int .i64 o1) := hk2 _ _ _ (p04)
  replace p05 : w2.cell? ⟨w.heap.size, 5, none⟩ = some (.int .i64 o2) := hk2 _ _ _ (p05)
  replace p06 : w2.cell? ⟨w.heap.size, 6, none⟩ = some (.int .i64 s1) := hk2 _ _ _ (p06)
  replace p07 : w2.cell? ⟨w.heap.size, 7, none⟩ = some (.int .i64 s2) := hk2 _ _ _ (p07)
  replace p08 : w2.cell? ⟨w.heap.size, 8, none⟩ = some (.int .i64 a) := hk2 _ _ _ (p08)
  replace p09 : w2.cell? ⟨w.heap.size, 9, none⟩ = some (.int .i64 b) := hk2 _ _ _ (p09)
  replace p010 : w2.cell? ⟨w.heap.size, 10, none⟩ = some (.int .i64 c) := hk2 _ _ _ (p010)
  replace p011 : w2.cell? ⟨w.heap.size, 11, none⟩ = some (.int .i64 d) := hk2 _ _ _ (p011)
  replace p012 : w2.cell? ⟨w.heap.size, 12, none⟩ = some (.int .i64 p) := hk2 _ _ _ (p012)
  replace p013 : w2.cell? ⟨w.heap.size, 13, none⟩ = some (.int .i64 q) := hk2 _ _ _ (p013)
  have bp00 : w.heap.size < w2.heap.size := World.block_lt_of_cell? w2 ⟨w.heap.size, 0, none⟩ p00
  clear hk2
  go_wp2_with fail
  go_ret
  exact ⟨ret_int hT.out.symm, by go_grown⟩
theorem rcheckplanet_any (m1 m2 r1 r2 o1 o2 s1 s2 a b c d p q : Int) (w : World) (h : (-9223372036854775808 ≤ m1 ∧ m1 ≤ 9223372036854775807) ∧ (-9223372036854775808 ≤ m2 ∧ m2 ≤ 9223372036854775807) ∧ (-9223372036854775808 ≤ r1 ∧ r1 ≤ 9223372036854775807) ∧ (-9223372036854775808 ≤ r2 ∧ r2 ≤ 9223372036854775807) ∧ (-9223372036854775808 ≤ o1 ∧ o1 ≤ 9223372036854775807) ∧ (-9223372036854775808 ≤ o2 ∧ o2 ≤ 9223372036854775807) ∧ (-9223372036854775808 ≤ s1 ∧ s1 ≤ 9223372036854775807) ∧ (-9223372036854775808 ≤ s2 ∧ s2 ≤ 9223372036854775807) ∧ (-9223372036854775808 ≤ a ∧ a ≤ 9223372036854775807) ∧ (-9223372036854775808 ≤ b ∧ b ≤ 9223372036854775807) ∧ (-9223372036854775808 ≤ c ∧ c ≤ 9223372036854775807) ∧ (-9223372036854775808 ≤ d ∧ d ≤ 9223372036854775807) ∧ (-9223372036854775808 ≤ p ∧ p ≤ 9223372036854775807) ∧ (-9223372036854775808 ≤ q ∧ q ≤ 9223372036854775807)) :
    Calls Try.prog 10 #[.agg #[.int .i64 m1, .int .i64 m2, .int .i64 r1, .int .i64 r2, .int .i64 o1, .int .i64 o2, .int .i64 s1, .int .i64 s2, .int .i64 a, .int .i64 b, .int .i64 c, .int .i64 d, .int .i64 p, .int .i64 q]] w fun e w' => e = .returned (.int .i64 (errB (planetB m1 m2 r1 r2 o1 o2 s1 s2 a b c d p q))) ∧ Below w.heap.size w w' := by
  have k1 := hid (fun W => rbox_any a b c d p q W (by omega))
  have k2 := hid (fun W => rleast_any m1 m2 0 W (by omega))
  have k3 := hid (fun W => rleast_any r1 r2 0 W (by omega))
  have k4 := hid (fun W => rvalid_any o1 o2 W (by omega))
  have k5 := hid (fun W => rvalid_any s1 s2 W (by omega))
  unfold planetB
  generalize boxB a b c d p q = x1 at *; generalize leastB m1 m2 0 = x2 at *; generalize leastB r1 r2 0 = x3 at *; generalize vldB o1 o2 = x4 at *; generalize vldB s1 s2 = x5 at *
  clear h
  cases x4
  · cases x1 <;> cases x2 <;> cases x3
    all_goals
      go_enter Try.func10, Try.ntmps10
      go_wp2_with fail
      refine useK w (k1.out _) (by go_grown) ?_; rintro e w1 rfl hB1 hk1 hs1
      replace p00 : w1.cell? ⟨w.heap.size, 0, none⟩ = some (.int .i64 m1) := hk1 _ _ _ (by simp [go_sem])
      replace p01 : w1.cell? ⟨w.heap.size, 1, none⟩ = some (.int .i64 m2) := hk1 _ _ _ (by simp [go_sem])
      replace p02 : w1.cell? ⟨w.heap.size, 2, none⟩ = some (.int .i64 r1) := hk1 _ _ _ (by simp [go_sem])
      replace p03 : w1.cell? ⟨w.heap.size, 3, none⟩ = some (.int .i64 r2) := hk1 _ _ _ (by simp [go_sem])
      replace p04 : w1.cell? ⟨w.heap.size, 4, none⟩ = some (.int .i64 o1) := hk1 _ _ _ (by simp [go_sem])
      replace p05 : w1.cell? ⟨w.heap.size, 5, none⟩ = some (.int .i64 o2) := hk1 _ _ _ (by simp [go_sem])
      replace p06 : w1.cell? ⟨w.heap.size, 6, none⟩ = some (.int .i64 s1) := hk1 _ _ _ (by simp [go_sem])
      replace p07 : w1.cell? ⟨w.heap.size, 7, none⟩ = some (.int .i64 s2) := hk1 _ _ _ (by simp [go_sem])
      replace p08 : w1.cell? ⟨w.heap.size, 8, none⟩ = some (.int .i64 a) := hk1 _ _ _ (by simp [go_sem])
      replace p09 : w1.cell? ⟨w.heap.size, 9, none⟩ = some (.int .i64 b) := hk1 _ _ _ (by simp [go_sem])
      replace p010 : w1.cell? ⟨w.heap.size, 10, none⟩ = some (.int .i64 c) := hk1 _ _ _ (by simp [go_sem])
      replace p011 : w1.cell? ⟨w.heap.size, 11, none⟩ = some (.int .i64 d) := hk1 _ _ _ (by simp [go_sem])
      replace p012 : w1.cell? ⟨w.heap.size, 12, none⟩ = some (.int .i64 p) := hk1 _ _ _ (by simp [go_sem])
      replace p013 : w1.cell? ⟨w.heap.size, 13, none⟩ = some (.int .i64 q) := hk1 _ _ _ (by simp [go_sem])
      have bp00 : w.heap.size < w1.heap.size := World.block_lt_of_cell? w1 ⟨w.heap.size, 0, none⟩ p00
      clear hk1
      go_wp2_with fail
      refine useK w (k2.out _) (by go_grown) ?_; rintro e w2 rfl hB2 hk2 hs2
      replace p00 : w2.cell? ⟨w.heap.size, 0, none⟩ = some (.int .i64 m1) := hk2 _ _ _ (p00)
      replace p01 : w2.cell? ⟨w.heap.size, 1, none⟩ = some (.int .i64 m2) := hk2 _ _ _ (p01)
      replace p02 : w2.cell? ⟨w.heap.size, 2, none⟩ = some (.int .i64 r1) := hk2 _ _ _ (p02)
      replace p03 : w2.cell? ⟨w.heap.size, 3, none⟩ = some (.int .i64 r2) := hk2 _ _ _ (p03)
      replace p04 : w2.cell? ⟨w.heap.size, 4, none⟩ = some (.int .i64 o1) := hk2 _ _ _ (p04)
      replace p05 : w2.cell? ⟨w.heap.size, 5, none⟩ = some (.int .i64 o2) := hk2 _ _ _ (p05)
      replace p06 : w2.cell? ⟨w.heap.size, 6, none⟩ = some (.int .i64 s1) := hk2 _ _ _ (p06)
      replace p07 : w2.cell? ⟨w.heap.size, 7, none⟩ = some (.int .i64 s2) := hk2 _ _ _ (p07)
      replace p08 : w2.cell? ⟨w.heap.size, 8, none⟩ = some (.int .i64 a) := hk2 _ _ _ (p08)
      replace p09 : w2.cell? ⟨w.heap.size, 9, none⟩ = some (.int .i64 b) := hk2 _ _ _ (p09)
      replace p010 : w2.cell? ⟨w.heap.size, 10, none⟩ = some (.int .i64 c) := hk2 _ _ _ (p010)
      replace p011 : w2.cell? ⟨w.heap.size, 11, none⟩ = some (.int .i64 d) := hk2 _ _ _ (p011)
      replace p012 : w2.cell? ⟨w.heap.size, 12, none⟩ = some (.int .i64 p) := hk2 _ _ _ (p012)
      replace p013 : w2.cell? ⟨w.heap.size, 13, none⟩ = some (.int .i64 q) := hk2 _ _ _ (p013)
      have bp00 : w.heap.size < w2.heap.size := World.block_lt_of_cell? w2 ⟨w.heap.size, 0, none⟩ p00
      clear hk2
      go_wp2_with fail
      refine useK w (k3.out _) (by go_grown) ?_; rintro e w3 rfl hB3 hk3 hs3
      replace p00 : w3.cell? ⟨w.heap.size, 0, none⟩ = some (.int .i64 m1) := hk3 _ _ _ (p00)
      replace p01 : w3.cell? ⟨w.heap.size, 1, none⟩ = some (.int .i64 m2) := hk3 _ _ _ (p01)
      replace p02 : w3.cell? ⟨w.heap.size, 2, none⟩ = some (.int .i64 r1) := hk3 _ _ _ (p02)
      replace p03 : w3.cell? ⟨w.heap.size, 3, none⟩ = some (.int .i64 r2) := hk3 _ _ _ (p03)
      replace p04 : w3.cell? ⟨w.heap.size, 4, none⟩ = some (.int .i64 o1) := hk3 _ _ _ (p04)
      replace p05 : w3.cell? ⟨w.heap.size, 5, none⟩ = some (.int .i64 o2) := hk3 _ _ _ (p05)
      replace p06 : w3.cell? ⟨w.heap.size, 6, none⟩ = some (.int .i64 s1) := hk3 _ _ _ (p06)
      replace p07 : w3.cell? ⟨w.heap.size, 7, none⟩ = some (.int .i64 s2) := hk3 _ _ _ (p07)
      replace p08 : w3.cell? ⟨w.heap.size, 8, none⟩ = some (.int .i64 a) := hk3 _ _ _ (p08)
      replace p09 : w3.cell? ⟨w.heap.size, 9, none⟩ = some (.int .i64 b) := hk3 _ _ _ (p09)
      replace p010 : w3.cell? ⟨w.heap.size, 10, none⟩ = some (.int .i64 c) := hk3 _ _ _ (p010)
      replace p011 : w3.cell? ⟨w.heap.size, 11, none⟩ = some (.int .i64 d) := hk3 _ _ _ (p011)
      replace p012 : w3.cell? ⟨w.heap.size, 12, none⟩ = some (.int .i64 p) := hk3 _ _ _ (p012)
      replace p013 : w3.cell? ⟨w.heap.size, 13, none⟩ = some (.int .i64 q) := hk3 _ _ _ (p013)
      have bp00 : w.heap.size < w3.heap.size := World.block_lt_of_cell? w3 ⟨w.heap.size, 0, none⟩ p00
      clear hk3
      go_wp2_with fail
      refine useK w (k4.out _) (by go_grown) ?_; rintro e w4 rfl hB4 hk4 hs4
      replace p00 : w4.cell? ⟨w.heap.size, 0, none⟩ = some (.int .i64 m1) := hk4 _ _ _ (p00)
      replace p01 : w4.cell? ⟨w.heap.size, 1, none⟩ = some (.int .i64 m2) := hk4 _ _ _ (p01)
      replace p02 : w4.cell? ⟨w.heap.size, 2, none⟩ = some (.int .i64 r1) := hk4 _ _ _ (p02)
      replace p03 : w4.cell? ⟨w.heap.size, 3, none⟩ = some (.int .i64 r2) := hk4 _ _ _ (p03)
      replace p04 : w4.cell? ⟨w.heap.size, 4, none⟩ = some (.int .i64 o1) := hk4 _ _ _ (p04)
      replace p05 : w4.cell? ⟨w.heap.size, 5, none⟩ = some (.int .i64 o2) := hk4 _ _ _ (p05)
      replace p06 : w4.cell? ⟨w.heap.size, 6, none⟩ = some (.int .i64 s1) := hk4 _ _ _ (p06)
      replace p07 : w4.cell? ⟨w.heap.size, 7, none⟩ = some (.int .i64 s2) := hk4 _ _ _ (p07)
      replace p08 : w4.cell? ⟨w.heap.size, 8, none⟩ = some (.int .i64 a) := hk4 _ _ _ (p08)
      replace p09 : w4.cell? ⟨w.heap.size, 9, none⟩ = some (.int .i64 b) := hk4 _ _ _ (p09)
      replace p010 : w4.cell? ⟨w.heap.size, 10, none⟩ = some (.int .i64 c) := hk4 _ _ _ (p010)
      replace p011 : w4.cell? ⟨w.heap.size, 11, none⟩ = some (.int .i64 d) := hk4 _ _ _ (p011)
      replace p012 : w4.cell? ⟨w.heap.size, 12, none⟩ = some (.int .i64 p) := hk4 _ _ _ (p012)
      replace p013 : w4.cell? ⟨w.heap.size, 13, none⟩ = some (.int .i64 q) := hk4 _ _ _ (p013)
      have bp00 : w.heap.size < w4.heap.size := World.block_lt_of_cell? w4 ⟨w.heap.size, 0, none⟩ p00
      clear hk4
      go_wp2_with fail
      go_ret
      exact ⟨ret_int (by rfl), by go_grown⟩
  · cases x1 <;> cases x2 <;> cases x3 <;> cases x5
    all_goals
      go_enter Try.func10, Try.ntmps10
      go_wp2_with fail
      refine useK w (k1.out _) (by go_grown) ?_; rintro e w1 rfl hB1 hk1 hs1
      replace p00 : w1.cell? ⟨w.heap.size, 0, none⟩ = some (.int .i64 m1) := hk1 _ _ _ (by simp [go_sem])
      replace p01 : w1.cell? ⟨w.heap.size, 1, none⟩ = some (.int .i64 m2) := hk1 _ _ _ (by simp [go_sem])
      replace p02 : w1.cell? ⟨w.heap.size, 2, none⟩ = some (.int .i64 r1) := hk1 _ _ _ (by simp [go_sem])
      replace p03 : w1.cell? ⟨w.heap.size, 3, none⟩ = some (.int .i64 r2) := hk1 _ _ _ (by simp [go_sem])
      replace p04 : w1.cell? ⟨w.heap.size, 4, none⟩ = some (.int .i64 o1) := hk1 _ _ _ (by simp [go_sem])
      replace p05 : w1.cell? ⟨w.heap.size, 5, none⟩ = some (.int .i64 o2) := hk1 _ _ _ (by simp [go_sem])
      replace p06 : w1.cell? ⟨w.heap.size, 6, none⟩ = some (.int .i64 s1) := hk1 _ _ _ (by simp [go_sem])
      replace p07 : w1.cell? ⟨w.heap.size, 7, none⟩ = some (.int .i64 s2) := hk1 _ _ _ (by simp [go_sem])
      replace p08 : w1.cell? ⟨w.heap.size, 8, none⟩ = some (.int .i64 a) := hk1 _ _ _ (by simp [go_sem])
      replace p09 : w1.cell? ⟨w.heap.size, 9, none⟩ = some (.int .i64 b) := hk1 _ _ _ (by simp [go_sem])
      replace p010 : w1.cell? ⟨w.heap.size, 10, none⟩ = some (.int .i64 c) := hk1 _ _ _ (by simp [go_sem])
      replace p011 : w1.cell? ⟨w.heap.size, 11, none⟩ = some (.int .i64 d) := hk1 _ _ _ (by simp [go_sem])
      replace p012 : w1.cell? ⟨w.heap.size, 12, none⟩ = some (.int .i64 p) := hk1 _ _ _ (by simp [go_sem])
      replace p013 : w1.cell? ⟨w.heap.size, 13, none⟩ = some (.int .i64 q) := hk1 _ _ _ (by simp [go_sem])
      have bp00 : w.heap.size < w1.heap.size := World.block_lt_of_cell? w1 ⟨w.heap.size, 0, none⟩ p00
      clear hk1
      go_wp2_with fail
      refine useK w (k2.out _) (by go_grown) ?_; rintro e w2 rfl hB2 hk2 hs2
      replace p00 : w2.cell? ⟨w.heap.size, 0, none⟩ = some (.int .i64 m1) := hk2 _ _ _ (p00)
      replace p01 : w2.cell? ⟨w.heap.size, 1, none⟩ = some (.int .i64 m2) := hk2 _ _ _ (p01)
      replace p02 : w2.cell? ⟨w.heap.size, 2, none⟩ = some (.int .i64 r1) := hk2 _ _ _ (p02)
      replace p03 : w2.cell? ⟨w.heap.size, 3, none⟩ = some (.int .i64 r2) := hk2 _ _ _ (p03)
      replace p04 : w2.cell? ⟨w.heap.size, 4, none⟩ = some (.int .i64 o1) := hk2 _ _ _ (p04)
      replace p05 : w2.cell? ⟨w.heap.size, 5, none⟩ = some (.int .i64 o2) := hk2 _ _ _ (p05)
      replace p06 : w2.cell? ⟨w.heap.size, 6, none⟩ = some (.int .i64 s1) := hk2 _ _ _ (p06)
      replace p07 : w2.cell? ⟨w.heap.size, 7, none⟩ = some (.int .i64 s2) := hk2 _ _ _ (p07)
      replace p08 : w2.cell? ⟨w.heap.size, 8, none⟩ = some (.int .i64 a) := hk2 _ _ _ (p08)
      replace p09 : w2.cell? ⟨w.heap.size, 9, none⟩ = some (.int .i64 b) := hk2 _ _ _ (p09)
      replace p010 : w2.cell? ⟨w.heap.size, 10, none⟩ = some (.int .i64 c) := hk2 _ _ _ (p010)
      replace p011 : w2.cell? ⟨w.heap.size, 11, none⟩ = some (.int .i64 d) := hk2 _ _ _ (p011)
      replace p012 : w2.cell? ⟨w.heap.size, 12, none⟩ = some (.int .i64 p) := hk2 _ _ _ (p012)
      replace p013 : w2.cell? ⟨w.heap.size, 13, none⟩ = some (.int .i64 q) := hk2 _ _ _ (p013)
      have bp00 : w.heap.size < w2.heap.size := World.block_lt_of_cell? w2 ⟨w.heap.size, 0, none⟩ p00
      clear hk2
      go_wp2_with fail
      refine useK w (k3.out _) (by go_grown) ?_; rintro e w3 rfl hB3 hk3 hs3
      replace p00 : w3.cell? ⟨w.heap.size, 0, none⟩ = some (.int .i64 m1) := hk3 _ _ _ (p00)
      replace p01 : w3.cell? ⟨w.heap.size, 1, none⟩ = some (.int .i64 m2) := hk3 _ _ _ (p01)
      replace p02 : w3.cell? ⟨w.heap.size, 2, none⟩ = some (.int .i64 r1) := hk3 _ _ _ (p02)
      replace p03 : w3.cell? ⟨w.heap.size, 3, none⟩ = some (.int .i64 r2) := hk3 _ _ _ (p03)
      replace p04 : w3.cell? ⟨w.heap.size, 4, none⟩ = some (.int .i64 o1) := hk3 _ _ _ (p04)
      replace p05 : w3.cell? ⟨w.heap.size, 5, none⟩ = some (.int .i64 o2) := hk3 _ _ _ (p05)
      replace p06 : w3.cell? ⟨w.heap.size, 6, none⟩ = some (.int .i64 s1) := hk3 _ _ _ (p06)
      replace p07 : w3.cell? ⟨w.heap.size, 7, none⟩ = some (.int .i64 s2) := hk3 _ _ _ (p07)
      replace p08 : w3.cell? ⟨w.heap.size, 8, none⟩ = some (.int .i64 a) := hk3 _ _ _ (p08)
      replace p09 : w3.cell? ⟨w.heap.size, 9, none⟩ = some (.int .i64 b) := hk3 _ _ _ (p09)
      replace p010 : w3.cell? ⟨w.heap.size, 10, none⟩ = some (.int .i64 c) := hk3 _ _ _ (p010)
      replace p011 : w3.cell? ⟨w.heap.size, 11, none⟩ = some (.int .i64 d) := hk3 _ _ _ (p011)
      replace p012 : w3.cell? ⟨w.heap.size, 12, none⟩ = some (.int .i64 p) := hk3 _ _ _ (p012)
      replace p013 : w3.cell? ⟨w.heap.size, 13, none⟩ = some (.int .i64 q) := hk3 _ _ _ (p013)
      have bp00 : w.heap.size < w3.heap.size := World.block_lt_of_cell? w3 ⟨w.heap.size, 0, none⟩ p00
      clear hk3
      go_wp2_with fail
      refine useK w (k4.out _) (by go_grown) ?_; rintro e w4 rfl hB4 hk4 hs4
      replace p00 : w4.cell? ⟨w.heap.size, 0, none⟩ = some (.int .i64 m1) := hk4 _ _ _ (p00)
      replace p01 : w4.cell? ⟨w.heap.size, 1, none⟩ = some (.int .i64 m2) := hk4 _ _ _ (p01)
      replace p02 : w4.cell? ⟨w.heap.size, 2, none⟩ = some (.int .i64 r1) := hk4 _ _ _ (p02)
      replace p03 : w4.cell? ⟨w.heap.size, 3, none⟩ = some (.int .i64 r2) := hk4 _ _ _ (p03)
      replace p04 : w4.cell? ⟨w.heap.size, 4, none⟩ = some (.int .i64 o1) := hk4 _ _ _ (p04)
      replace p05 : w4.cell? ⟨w.heap.size, 5, none⟩ = some (.int .i64 o2) := hk4 _ _ _ (p05)
      replace p06 : w4.cell? ⟨w.heap.size, 6, none⟩ = some (.int .i64 s1) := hk4 _ _ _ (p06)
      replace p07 : w4.cell? ⟨w.heap.size, 7, none⟩ = some (.int .i64 s2) := hk4 _ _ _ (p07)
      replace p08 : w4.cell? ⟨w.heap.size, 8, none⟩ = some (.int .i64 a) := hk4 _ _ _ (p08)
      replace p09 : w4.cell? ⟨w.heap.size, 9, none⟩ = some (.int .i64 b) := hk4 _ _ _ (p09)
      replace p010 : w4.cell? ⟨w.heap.size, 10, none⟩ = some (.int .i64 c) := hk4 _ _ _ (p010)
      replace p011 : w4.cell? ⟨w.heap.size, 11, none⟩ = some (.int .i64 d) := hk4 _ _ _ (p011)
      replace p012 : w4.cell? ⟨w.heap.size, 12, none⟩ = some (.int .i64 p) := hk4 _ _ _ (p012)
      replace p013 : w4.cell? ⟨w.heap.size, 13, none⟩ = some (.int .i64 q) := hk4 _ _ _ (p013)
      have bp00 : w.heap.size < w4.heap.size := World.block_lt_of_cell? w4 ⟨w.heap.size, 0, none⟩ p00
      clear hk4
      go_wp2_with fail
      refine useK w (k5.out _) (by go_grown) ?_; rintro e w5 rfl hB5 hk5 hs5
      replace p00 : w5.cell? ⟨w.heap.size, 0, none⟩ = some (.int .i64 m1) := hk5 _ _ _ (p00)
      replace p01 : w5.cell? ⟨w.heap.size, 1, none⟩ = some (.int .i64 m2) := hk5 _ _ _ (p01)
      replace p02 : w5.cell? ⟨w.heap.size, 2, none⟩ = some (.int .i64 r1) := hk5 _ _ _ (p02)
      replace p03 : w5.cell? ⟨w.heap.size, 3, none⟩ = some (.int .i64 r2) := hk5 _ _ _ (p03)
      replace p04 : w5.cell? ⟨w.heap.size, 4, none⟩ = some (.int .i64 o1) := hk5 _ _ _ (p04)
      replace p05 : w5.cell? ⟨w.heap.size, 5, none⟩ = some (.int .i64 o2) := hk5 _ _ _ (p05)
      replace p06 : w5.cell? ⟨w.heap.size, 6, none⟩ = some (.int .i64 s1) := hk5 _ _ _ (p06)
      replace p07 : w5.cell? ⟨w.heap.size, 7, none⟩ = some (.int .i64 s2) := hk5 _ _ _ (p07)
      replace p08 : w5.cell? ⟨w.heap.size, 8, none⟩ = some (.int .i64 a) := hk5 _ _ _ (p08)
      replace p09 : w5.cell? ⟨w.heap.size, 9, none⟩ = some (.int .i64 b) := hk5 _ _ _ (p09)
      replace p010 : w5.cell? ⟨w.heap.size, 10, none⟩ = some (.int .i64 c) := hk5 _ _ _ (p010)
      replace p011 : w5.cell? ⟨w.heap.size, 11, none⟩ = some (.int .i64 d) := hk5 _ _ _ (p011)
      replace p012 : w5.cell? ⟨w.heap.size, 12, none⟩ = some (.int .i64 p) := hk5 _ _ _ (p012)
      replace p013 : w5.cell? ⟨w.heap.size, 13, none⟩ = some (.int .i64 q) := hk5 _ _ _ (p013)
      have bp00 : w.heap.size < w5.heap.size := World.block_lt_of_cell? w5 ⟨w.heap.size, 0, none⟩ p00
      clear hk5
      go_wp2_with fail
      go_ret
      exact ⟨ret_int (by rfl), by go_grown⟩
def stateB (T P1 P2 P3 P4 P5 P6 V1 V2 V3 V4 V5 V6 M1 M2 : Int) : Bool := numB T && bodyB P1 P2 P3 P4 P5 P6 V1 V2 V3 V4 V5 V6 M1 M2
theorem checkstate_any (T P1 P2 P3 P4 P5 P6 V1 V2 V3 V4 V5 V6 M1 M2 : Int) (w : World) (h : (-9223372036854775808 ≤ T ∧ T ≤ 9223372036854775807) ∧ (-9223372036854775808 ≤ P1 ∧ P1 ≤ 9223372036854775807) ∧ (-9223372036854775808 ≤ P2 ∧ P2 ≤ 9223372036854775807) ∧ (-9223372036854775808 ≤ P3 ∧ P3 ≤ 9223372036854775807) ∧ (-9223372036854775808 ≤ P4 ∧ P4 ≤ 9223372036854775807) ∧ (-9223372036854775808 ≤ P5 ∧ P5 ≤ 9223372036854775807) ∧ (-9223372036854775808 ≤ P6 ∧ P6 ≤ 9223372036854775807) ∧ (-9223372036854775808 ≤ V1 ∧ V1 ≤ 9223372036854775807) ∧ (-9223372036854775808 ≤ V2 ∧ V2 ≤ 9223372036854775807) ∧ (-9223372036854775808 ≤ V3 ∧ V3 ≤ 9223372036854775807) ∧ (-9223372036854775808 ≤ V4 ∧ V4 ≤ 9223372036854775807) ∧ (-9223372036854775808 ≤ V5 ∧ V5 ≤ 9223372036854775807) ∧ (-9223372036854775808 ≤ V6 ∧ V6 ≤ 9223372036854775807) ∧ (-9223372036854775808 ≤ M1 ∧ M1 ≤ 9223372036854775807) ∧ (-9223372036854775808 ≤ M2 ∧ M2 ≤ 9223372036854775807)) :
    Calls Try.prog 11 #[.agg #[.int .i64 T, .int .i64 P1, .int .i64 P2, .int .i64 P3, .int .i64 P4, .int .i64 P5, .int .i64 P6, .int .i64 V1, .int .i64 V2, .int .i64 V3, .int .i64 V4, .int .i64 V5, .int .i64 V6, .int .i64 M1, .int .i64 M2]] w fun e w' => e = .returned (.int .i64 (errB (stateB T P1 P2 P3 P4 P5 P6 V1 V2 V3 V4 V5 V6 M1 M2))) ∧ Below w.heap.size w w' := by
  have k1 := hid (fun W => isnumber_any T W (by omega))
  have k2 := hid (fun W => isbody_any P1 P2 P3 P4 P5 P6 V1 V2 V3 V4 V5 V6 M1 M2 W (by omega))
  unfold stateB
  generalize numB T = x1 at *; generalize bodyB P1 P2 P3 P4 P5 P6 V1 V2 V3 V4 V5 V6 M1 M2 = x2 at *
  clear h
  cases x1
  · have hT := hid (show errB (false && x2) = 2 by rw [Bool.false_and]; rfl)
    go_enter Try.func11, Try.ntmps11
    go_wp2_with fail
    refine useK w (k1.out _) (by go_grown) ?_; rintro e w1 rfl hB1 hk1 hs1
    replace p00 : w1.cell? ⟨w.heap.size, 0, none⟩ = some (.int .i64 T) := hk1 _ _ _ (by simp [go_sem])
    replace p01 : w1.cell? ⟨w.heap.size, 1, none⟩ = some (.int .i64 P1) := hk1 _ _ _ (by simp [go_sem])
    replace p02 : w1.cell? ⟨w.heap.size, 2, none⟩ = some (.int .i64 P2) := hk1 _ _ _ (by simp [go_sem])
    replace p03 : w1.cell? ⟨w.heap.size, 3, none⟩ = some (.int .i64 P3) := hk1 _ _ _ (by simp [go_sem])
    replace p04 : w1.cell? ⟨w.heap.size, 4, none⟩ = some (.int .i64 P4) := hk1 _ _ _ (by simp [go_sem])
    replace p05 : w1.cell? ⟨w.heap.size, 5, none⟩ = some (.int .i64 P5) := hk1 _ _ _ (by simp [go_sem])
    replace p06 : w1.cell? ⟨w.heap.size, 6, none⟩ = some (.int .i64 P6) := hk1 _ _ _ (by simp [go_sem])
    replace p07 : w1.cell? ⟨w.heap.size, 7, none⟩ = some (.int .i64 V1) := hk1 _ _ _ (by simp [go_sem])
    replace p08 : w1.cell? ⟨w.heap.size, 8, none⟩ = some (.int .i64 V2) := hk1 _ _ _ (by simp [go_sem])
    replace p09 : w1.cell? ⟨w.heap.size, 9, none⟩ = some (.int .i64 V3) := hk1 _ _ _ (by simp [go_sem])
    replace p010 : w1.cell? ⟨w.heap.size, 10, none⟩ = some (.int .i64 V4) := hk1 _ _ _ (by simp [go_sem])
    replace p011 : w1.cell? ⟨w.heap.size, 11, none⟩ = some (.int .i64 V5) := hk1 _ _ _ (by simp [go_sem])
    replace p012 : w1.cell? ⟨w.heap.size, 12, none⟩ = some (.int .i64 V6) := hk1 _ _ _ (by simp [go_sem])
    replace p013 : w1.cell? ⟨w.heap.size, 13, none⟩ = some (.int .i64 M1) := hk1 _ _ _ (by simp [go_sem])
    replace p014 : w1.cell? ⟨w.heap.size, 14, none⟩ = some (.int .i64 M2) := hk1 _ _ _ (by simp [go_sem])
    have bp00 : w.heap.size < w1.heap.size := World.block_lt_of_cell? w1 ⟨w.heap.size, 0, none⟩ p00
    clear hk1
    go_wp2_with fail
    go_ret
    exact ⟨ret_int hT.out.symm, by go_grown⟩
  · cases x2
    all_goals
      go_enter Try.func11, Try.ntmps11
      go_wp2_with fail
      refine useK w (k1.out _) (by go_grown) ?_; rintro e w1 rfl hB1 hk1 hs1
      replace p00 : w1.cell? ⟨w.heap.size, 0, none⟩ = some (.int .i64 T) := hk1 _ _ _ (by simp [go_sem])
      replace p01 : w1.cell? ⟨w.heap.size, 1, none⟩ = some (.int .i64 P1) := hk1 _ _ _ (by simp [go_sem])
      replace p02 : w1.cell? ⟨w.heap.size, 2, none⟩ = some (.int .i64 P2) := hk1 _ _ _ (by simp [go_sem])
      replace p03 : w1.cell? ⟨w.heap.size, 3, none⟩ = some (.int .i64 P3) := hk1 _ _ _ (by simp [go_sem])
      replace p04 : w1.cell? ⟨w.heap.size, 4, none⟩ = some (.int .i64 P4) := hk1 _ _ _ (by simp [go_sem])
      replace p05 : w1.cell? ⟨w.heap.size, 5, none⟩ = some (.int .i64 P5) := hk1 _ _ _ (by simp [go_sem])
      replace p06 : w1.cell? ⟨w.heap.size, 6, none⟩ = some (.int .i64 P6) := hk1 _ _ _ (by simp [go_sem])
      replace p07 : w1.cell? ⟨w.heap.size, 7, none⟩ = some (.int .i64 V1) := hk1 _ _ _ (by simp [go_sem])
      replace p08 : w1.cell? ⟨w.heap.size, 8, none⟩ = some (.int .i64 V2) := hk1 _ _ _ (by simp [go_sem])
      replace p09 : w1.cell? ⟨w.heap.size, 9, none⟩ = some (.int .i64 V3) := hk1 _ _ _ (by simp [go_sem])
      replace p010 : w1.cell? ⟨w.heap.size, 10, none⟩ = some (.int .i64 V4) := hk1 _ _ _ (by simp [go_sem])
      replace p011 : w1.cell? ⟨w.heap.size, 11, none⟩ = some (.int .i64 V5) := hk1 _ _ _ (by simp [go_sem])
      replace p012 : w1.cell? ⟨w.heap.size, 12, none⟩ = some (.int .i64 V6) := hk1 _ _ _ (by simp [go_sem])
      replace p013 : w1.cell? ⟨w.heap.size, 13, none⟩ = some (.int .i64 M1) := hk1 _ _ _ (by simp [go_sem])
      replace p014 : w1.cell? ⟨w.heap.size, 14, none⟩ = some (.int .i64 M2) := hk1 _ _ _ (by simp [go_sem])
      have bp00 : w.heap.size < w1.heap.size := World.block_lt_of_cell? w1 ⟨w.heap.size, 0, none⟩ p00
      clear hk1
      go_wp2_with fail
      refine useK w (k2.out _) (by go_grown) ?_; rintro e w2 rfl hB2 hk2 hs2
      replace p00 : w2.cell? ⟨w.heap.size, 0, none⟩ = some (.int .i64 T) := hk2 _ _ _ (p00)
      replace p01 : w2.cell? ⟨w.heap.size, 1, none⟩ = some (.int .i64 P1) := hk2 _ _ _ (p01)
      replace p02 : w2.cell? ⟨w.heap.size, 2, none⟩ = some (.int .i64 P2) := hk2 _ _ _ (p02)
      replace p03 : w2.cell? ⟨w.heap.size, 3, none⟩ = some (.int .i64 P3) := hk2 _ _ _ (p03)
      replace p04 : w2.cell? ⟨w.heap.size, 4, none⟩ = some (.int .i64 P4) := hk2 _ _ _ (p04)
      replace p05 : w2.cell? ⟨w.heap.size, 5, none⟩ = some (.int .i64 P5) := hk2 _ _ _ (p05)
      replace p06 : w2.cell? ⟨w.heap.size, 6, none⟩ = some (.int .i64 P6) := hk2 _ _ _ (p06)
      replace p07 : w2.cell? ⟨w.heap.size, 7, none⟩ = some (.int .i64 V1) := hk2 _ _ _ (p07)
      replace p08 : w2.cell? ⟨w.heap.size, 8, none⟩ = some (.int .i64 V2) := hk2 _ _ _ (p08)
      replace p09 : w2.cell? ⟨w.heap.size, 9, none⟩ = some (.int .i64 V3) := hk2 _ _ _ (p09)
      replace p010 : w2.cell? ⟨w.heap.size, 10, none⟩ = some (.int .i64 V4) := hk2 _ _ _ (p010)
      replace p011 : w2.cell? ⟨w.heap.size, 11, none⟩ = some (.int .i64 V5) := hk2 _ _ _ (p011)
      replace p012 : w2.cell? ⟨w.heap.size, 12, none⟩ = some (.int .i64 V6) := hk2 _ _ _ (p012)
      replace p013 : w2.cell? ⟨w.heap.size, 13, none⟩ = some (.int .i64 M1) := hk2 _ _ _ (p013)
      replace p014 : w2.cell? ⟨w.heap.size, 14, none⟩ = some (.int .i64 M2) := hk2 _ _ _ (p014)
      have bp00 : w.heap.size < w2.heap.size := World.block_lt_of_cell? w2 ⟨w.heap.size, 0, none⟩ p00
      clear hk2
      go_wp2_with fail
      go_ret
      exact ⟨ret_int (by rfl), by go_grown⟩
theorem rcheckstate_any (T P1 P2 P3 P4 P5 P6 V1 V2 V3 V4 V5 V6 M1 M2 : Int) (w : World) (h : (-9223372036854775808 ≤ T ∧ T ≤ 9223372036854775807) ∧ (-9223372036854775808 ≤ P1 ∧ P1 ≤ 9223372036854775807) ∧ (-9223372036854775808 ≤ P2 ∧ P2 ≤ 9223372036854775807) ∧ (-9223372036854775808 ≤ P3 ∧ P3 ≤ 9223372036854775807) ∧ (-9223372036854775808 ≤ P4 ∧ P4 ≤ 9223372036854775807) ∧ (-9223372036854775808 ≤ P5 ∧ P5 ≤ 9223372036854775807) ∧ (-9223372036854775808 ≤ P6 ∧ P6 ≤ 9223372036854775807) ∧ (-9223372036854775808 ≤ V1 ∧ V1 ≤ 9223372036854775807) ∧ (-9223372036854775808 ≤ V2 ∧ V2 ≤ 9223372036854775807) ∧ (-9223372036854775808 ≤ V3 ∧ V3 ≤ 9223372036854775807) ∧ (-9223372036854775808 ≤ V4 ∧ V4 ≤ 9223372036854775807) ∧ (-9223372036854775808 ≤ V5 ∧ V5 ≤ 9223372036854775807) ∧ (-9223372036854775808 ≤ V6 ∧ V6 ≤ 9223372036854775807) ∧ (-9223372036854775808 ≤ M1 ∧ M1 ≤ 9223372036854775807) ∧ (-9223372036854775808 ≤ M2 ∧ M2 ≤ 9223372036854775807)) :
    Calls Try.prog 12 #[.agg #[.int .i64 T, .int .i64 P1, .int .i64 P2, .int .i64 P3, .int .i64 P4, .int .i64 P5, .int .i64 P6, .int .i64 V1, .int .i64 V2, .int .i64 V3, .int .i64 V4, .int .i64 V5, .int .i64 V6, .int .i64 M1, .int .i64 M2]] w fun e w' => e = .returned (.int .i64 (errB (stateB T P1 P2 P3 P4 P5 P6 V1 V2 V3 V4 V5 V6 M1 M2))) ∧ Below w.heap.size w w' := by
  have k1 := hid (fun W => number_any T W (by omega))
  have k2 := hid (fun W => rbox_any P1 P2 P3 P4 P5 P6 W (by omega))
  have k3 := hid (fun W => rbox_any V1 V2 V3 V4 V5 V6 W (by omega))
  have k4 := hid (fun W => rleast_any M1 M2 1 W (by omega))
  rw [show stateB T P1 P2 P3 P4 P5 P6 V1 V2 V3 V4 V5 V6 M1 M2 = (numB T && boxB P1 P2 P3 P4 P5 P6 && boxB V1 V2 V3 V4 V5 V6 && leastB M1 M2 1) by unfold stateB bodyB leastB; rw [show decide (0 < M1) = decide (1 ≤ M1) by rw [decide_eq_decide]; omega]; simp only [Bool.and_assoc] ]
  generalize numB T = x1 at *; generalize boxB P1 P2 P3 P4 P5 P6 = x2 at *; generalize boxB V1 V2 V3 V4 V5 V6 = x3 at *; generalize leastB M1 M2 1 = x4 at *
  clear h
  cases x1 <;> cases x2 <;> cases x3 <;> cases x4
  all_goals
    go_enter Try.func12, Try.ntmps12
    go_wp2_with fail
    refine useK w (k1.out _) (by go_grown) ?_; rintro e w1 rfl hB1 hk1 hs1
    replace p00 : w1.cell? ⟨w.heap.size, 0, none⟩ = some (.int .i64 T) := hk1 _ _ _ (by simp [go_sem])
    replace p01 : w1.cell? ⟨w.heap.size, 1, none⟩ = some (.int .i64 P1) := hk1 _ _ _ (by simp [go_sem])
    replace p02 : w1.cell? ⟨w.heap.size, 2, none⟩ = some (.int .i64 P2) := hk1 _ _ _ (by simp [go_sem])
    replace p03 : w1.cell? ⟨w.heap.size, 3, none⟩ = some (.int .i64 P3) := hk1 _ _ _ (by simp [go_sem])
    replace p04 : w1.cell? ⟨w.heap.size, 4, none⟩ = some (.int .i64 P4) := hk1 _ _ _ (by simp [go_sem])
    replace p05 : w1.cell? ⟨w.heap.size, 5, none⟩ = some (.int .i64 P5) := hk1 _ _ _ (by simp [go_sem])
    replace p06 : w1.cell? ⟨w.heap.size, 6, none⟩ = some (.int .i64 P6) := hk1 _ _ _ (by simp [go_sem])
    replace p07 : w1.cell? ⟨w.heap.size, 7, none⟩ = some (.int .i64 V1) := hk1 _ _ _ (by simp [go_sem])
    replace p08 : w1.cell? ⟨w.heap.size, 8, none⟩ = some (.int .i64 V2) := hk1 _ _ _ (by simp [go_sem])
    replace p09 : w1.cell? ⟨w.heap.size, 9, none⟩ = some (.int .i64 V3) := hk1 _ _ _ (by simp [go_sem])
    replace p010 : w1.cell? ⟨w.heap.size, 10, none⟩ = some (.int .i64 V4) := hk1 _ _ _ (by simp [go_sem])
    replace p011 : w1.cell? ⟨w.heap.size, 11, none⟩ = some (.int .i64 V5) := hk1 _ _ _ (by simp [go_sem])
    replace p012 : w1.cell? ⟨w.heap.size, 12, none⟩ = some (.int .i64 V6) := hk1 _ _ _ (by simp [go_sem])
    replace p013 : w1.cell? ⟨w.heap.size, 13, none⟩ = some (.int .i64 M1) := hk1 _ _ _ (by simp [go_sem])
    replace p014 : w1.cell? ⟨w.heap.size, 14, none⟩ = some (.int .i64 M2) := hk1 _ _ _ (by simp [go_sem])
    have bp00 : w.heap.size < w1.heap.size := World.block_lt_of_cell? w1 ⟨w.heap.size, 0, none⟩ p00
    clear hk1
    go_wp2_with fail
    refine useK w (k2.out _) (by go_grown) ?_; rintro e w2 rfl hB2 hk2 hs2
    replace p00 : w2.cell? ⟨w.heap.size, 0, none⟩ = some (.int .i64 T) := hk2 _ _ _ (p00)
    replace p01 : w2.cell? ⟨w.heap.size, 1, none⟩ = some (.int .i64 P1) := hk2 _ _ _ (p01)
    replace p02 : w2.cell? ⟨w.heap.size, 2, none⟩ = some (.int .i64 P2) := hk2 _ _ _ (p02)
    replace p03 : w2.cell? ⟨w.heap.size, 3, none⟩ = some (.int .i64 P3) := hk2 _ _ _ (p03)
    replace p04 : w2.cell? ⟨w.heap.size, 4, none⟩ = some (.int .i64 P4) := hk2 _ _ _ (p04)
    replace p05 : w2.cell? ⟨w.heap.size, 5, none⟩ = some (.int .i64 P5) := hk2 _ _ _ (p05)
    replace p06 : w2.cell? ⟨w.heap.size, 6, none⟩ = some (.int .i64 P6) := hk2 _ _ _ (p06)
    replace p07 : w2.cell? ⟨w.heap.size, 7, none⟩ = some (.int .i64 V1) := hk2 _ _ _ (p07)
    replace p08 : w2.cell? ⟨w.heap.size, 8, none⟩ = some (.int .i64 V2) := hk2 _ _ _ (p08)
    replace p09 : w2.cell? ⟨w.heap.size, 9, none⟩ = some (.int .i64 V3) := hk2 _ _ _ (p09)
    replace p010 : w2.cell? ⟨w.heap.size, 10, none⟩ = some (.int .i64 V4) := hk2 _ _ _ (p010)
    replace p011 : w2.cell? ⟨w.heap.size, 11, none⟩ = some (.int .i64 V5) := hk2 _ _ _ (p011)
    replace p012 : w2.cell? ⟨w.heap.size, 12, none⟩ = some (.int .i64 V6) := hk2 _ _ _ (p012)
    replace p013 : w2.cell? ⟨w.heap.size, 13, none⟩ = some (.int .i64 M1) := hk2 _ _ _ (p013)
    replace p014 : w2.cell? ⟨w.heap.size, 14, none⟩ = some (.int .i64 M2) := hk2 _ _ _ (p014)
    have bp00 : w.heap.size < w2.heap.size := World.block_lt_of_cell? w2 ⟨w.heap.size, 0, none⟩ p00
    clear hk2
    go_wp2_with fail
    refine useK w (k3.out _) (by go_grown) ?_; rintro e w3 rfl hB3 hk3 hs3
    replace p00 : w3.cell? ⟨w.heap.size, 0, none⟩ = some (.int .i64 T) := hk3 _ _ _ (p00)
    replace p01 : w3.cell? ⟨w.heap.size, 1, none⟩ = some (.int .i64 P1) := hk3 _ _ _ (p01)
    replace p02 : w3.cell? ⟨w.heap.size, 2, none⟩ = some (.int .i64 P2) := hk3 _ _ _ (p02)
    replace p03 : w3.cell? ⟨w.heap.size, 3, none⟩ = some (.int .i64 P3) := hk3 _ _ _ (p03)
    replace p04 : w3.cell? ⟨w.heap.size, 4, none⟩ = some (.int .i64 P4) := hk3 _ _ _ (p04)
    replace p05 : w3.cell? ⟨w.heap.size, 5, none⟩ = some (.int .i64 P5) := hk3 _ _ _ (p05)
    replace p06 : w3.cell? ⟨w.heap.size, 6, none⟩ = some (.int .i64 P6) := hk3 _ _ _ (p06)
    replace p07 : w3.cell? ⟨w.heap.size, 7, none⟩ = some (.int .i64 V1) := hk3 _ _ _ (p07)
    replace p08 : w3.cell? ⟨w.heap.size, 8, none⟩ = some (.int .i64 V2) := hk3 _ _ _ (p08)
    replace p09 : w3.cell? ⟨w.heap.size, 9, none⟩ = some (.int .i64 V3) := hk3 _ _ _ (p09)
    replace p010 : w3.cell? ⟨w.heap.size, 10, none⟩ = some (.int .i64 V4) := hk3 _ _ _ (p010)
    replace p011 : w3.cell? ⟨w.heap.size, 11, none⟩ = some (.int .i64 V5) := hk3 _ _ _ (p011)
    replace p012 : w3.cell? ⟨w.heap.size, 12, none⟩ = some (.int .i64 V6) := hk3 _ _ _ (p012)
    replace p013 : w3.cell? ⟨w.heap.size, 13, none⟩ = some (.int .i64 M1) := hk3 _ _ _ (p013)
    replace p014 : w3.cell? ⟨w.heap.size, 14, none⟩ = some (.int .i64 M2) := hk3 _ _ _ (p014)
    have bp00 : w.heap.size < w3.heap.size := World.block_lt_of_cell? w3 ⟨w.heap.size, 0, none⟩ p00
    clear hk3
    go_wp2_with fail
    refine useK w (k4.out _) (by go_grown) ?_; rintro e w4 rfl hB4 hk4 hs4
    replace p00 : w4.cell? ⟨w.heap.size, 0, none⟩ = some (.int .i64 T) := hk4 _ _ _ (p00)
    replace p01 : w4.cell? ⟨w.heap.size, 1, none⟩ = some (.int .i64 P1) := hk4 _ _ _ (p01)
    replace p02 : w4.cell? ⟨w.heap.size, 2, none⟩ = some (.int .i64 P2) := hk4 _ _ _ (p02)
    replace p03 : w4.cell? ⟨w.heap.size, 3, none⟩ = some (.int .i64 P3) := hk4 _ _ _ (p03)
    replace p04 : w4.cell? ⟨w.heap.size, 4, none⟩ = some (.int .i64 P4) := hk4 _ _ _ (p04)
    replace p05 : w4.cell? ⟨w.heap.size, 5, none⟩ = some (.int .i64 P5) := hk4 _ _ _ (p05)
    replace p06 : w4.cell? ⟨w.heap.size, 6, none⟩ = some (.int .i64 P6) := hk4 _ _ _ (p06)
    replace p07 : w4.cell? ⟨w.heap.size, 7, none⟩ = some (.int .i64 V1) := hk4 _ _ _ (p07)
    replace p08 : w4.cell? ⟨w.heap.size, 8, none⟩ = some (.int .i64 V2) := hk4 _ _ _ (p08)
    replace p09 : w4.cell? ⟨w.heap.size, 9, none⟩ = some (.int .i64 V3) := hk4 _ _ _ (p09)
    replace p010 : w4.cell? ⟨w.heap.size, 10, none⟩ = some (.int .i64 V4) := hk4 _ _ _ (p010)
    replace p011 : w4.cell? ⟨w.heap.size, 11, none⟩ = some (.int .i64 V5) := hk4 _ _ _ (p011)
    replace p012 : w4.cell? ⟨w.heap.size, 12, none⟩ = some (.int .i64 V6) := hk4 _ _ _ (p012)
    replace p013 : w4.cell? ⟨w.heap.size, 13, none⟩ = some (.int .i64 M1) := hk4 _ _ _ (p013)
    replace p014 : w4.cell? ⟨w.heap.size, 14, none⟩ = some (.int .i64 M2) := hk4 _ _ _ (p014)
    have bp00 : w.heap.size < w4.heap.size := World.block_lt_of_cell? w4 ⟨w.heap.size, 0, none⟩ p00
    clear hk4
    go_wp2_with fail
    go_ret
    exact ⟨ret_int (by rfl), by go_grown⟩
end Go.Proofs.Ytepcifijhnelcaa
