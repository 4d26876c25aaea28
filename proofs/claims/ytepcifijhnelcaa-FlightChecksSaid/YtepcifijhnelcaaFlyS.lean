/- How many steps an arc has, by package flight and the document; is a table too long? -/
import Derived.WalkMore
import Derived.Test.YtepcifijhnelcaaRows
import Derived.Test.YtepcifijhnelcaaBase
import Derived.Test.YtepcifijhnelcaaFacts
import Derived.Test.YtepcifijhnelcaaTwo
import Derived.Deep.RegionHeld3
import Derived.Deep.RegionWith
import Derived.Deep.QuietTactic
import Derived.BigQuiet
import Derived.Test.YtepcifijhnelcaaSeq
import Derived.Test.YtepcifijhnelcaaW
import Derived.Test.YtepcifijhnelcaaAsks
import Derived.Test.YtepcifijhnelcaaTabM
import Derived.Test.YtepcifijhnelcaaTable
import Derived.Test.YtepcifijhnelcaaRTable
import Derived.Test.YtepcifijhnelcaaFlyF
import Derived.Test.YtepcifijhnelcaaFlyG
import Derived.Test.YtepcifijhnelcaaFlyH
import Derived.Test.YtepcifijhnelcaaFlyA
import Derived.Test.YtepcifijhnelcaaFlyB
set_option linter.unusedVariables false
set_option linter.unusedSimpArgs false
set_option maxHeartbeats 4000000
set_option maxRecDepth 100000
namespace Go.Proofs.Ytepcifijhnelcaa
open Go Go.RowKit
def cntI (T S : Int) : Int := T / S + (if T % S = 0 then 0 else 1)
def stepsS (ok : Bool) (T S : Int) : Int × Int := if ok = true then (if 4096 < cntI T S then (0, 3) else (cntI T S, 0)) else (0, 2)
theorem cnt_bd {T S : Int} (h : 0 < T ∧ T ≤ 9223372036854775807) (hS : 0 < S) : 0 ≤ T / S ∧ T / S ≤ 9223372036854775807 ∧ (T % S ≠ 0 → T / S + 1 ≤ 9223372036854775807) := by
  have h1 := Int.ediv_nonneg (show 0 ≤ T by omega) (show 0 ≤ S by omega)
  have h2 : T / S ≤ T := Int.ediv_le_self S (by omega)
  refine ⟨h1, by omega, fun hne => ?_⟩
  have h3 : 2 ≤ S := by
    rcases (by omega : S = 1 ∨ 2 ≤ S) with c | c
    · subst c; exact absurd (Int.emod_one T) hne
    · exact c
  have h4 : T / S ≤ T / 2 := by
    have e1 := Int.ediv_mul_le T (show S ≠ 0 by omega)
    have e2 := Int.mul_le_mul_of_nonneg_left h3 h1
    omega
  omega
theorem count_any (q : Option Addr) (cap : Nat) (T S t1 t2 f1 f2 d1 d2 d3 d4 d5 d6 p1 p2 : Int) (l : List (Int × Int × Int)) (w : World) (hT : 0 < T ∧ T ≤ 9223372036854775807) (hS : 0 < S ∧ S ≤ 9223372036854775807) :
    Calls Try.prog 26 #[.agg #[.int .i64 T, .int .i64 S, .int .i64 t1, .int .i64 t2, .int .i64 f1, .int .i64 f2, .int .i64 d1, .int .i64 d2, .int .i64 d3, .int .i64 d4, .int .i64 d5, .int .i64 d6, Value.slice q l.length cap, .int .i64 p1, .int .i64 p2]] w fun e w' => e = .returned (.int .i64 (cntI T S)) ∧ Below w.heap.size w w' := by
  obtain ⟨b1, b2, b3⟩ := cnt_bd hT hS.1
  obtain ⟨t1', t2'⟩ := hT
  obtain ⟨s1', s2'⟩ := hS
  have m1 := Int.emod_nonneg T (show S ≠ 0 by omega)
  have z0 : ¬ S = 0 := by omega
  have z1 : (S == 0) = false := by rw [beq_eq_false_iff_ne]; exact z0
  by_cases c : T % S = 0
  · have hv := hid (show cntI T S = T / S by unfold cntI; rw [if_pos c, Int.add_zero])
    have c1 : (T % S != 0) = false := by rw [c]; rfl
    clear b3 c
    go_enter Try.func26, Try.ntmps26
    go_wp2
    all_goals (go_ret; exact ⟨ret_int (by (try simp only [Array.getD_eq_getD_getElem?, List.getElem?_toArray, List.getElem?_cons_succ, List.getElem?_cons_zero, Option.getD_some]) <;> (exact hv.out.symm)), by go_grown⟩)
  · have hv := hid (show cntI T S = T / S + 1 by unfold cntI; rw [if_neg c])
    have c1 : (T % S != 0) = true := by rw [bne_iff_ne]; exact c
    replace b3 := b3 c
    clear c
    go_enter Try.func26, Try.ntmps26
    go_wp2
    all_goals (go_ret; exact ⟨ret_int (by (try simp only [Array.getD_eq_getD_getElem?, List.getElem?_toArray, List.getElem?_cons_succ, List.getElem?_cons_zero, Option.getD_some]) <;> (exact hv.out.symm)), by go_grown⟩)
theorem arc_pos {T S t1 t2 f1 f2 d1 d2 d3 d4 d5 d6 p1 p2 : Int} {l : List (Int × Int × Int)} (h : arcB T S t1 t2 f1 f2 d1 d2 d3 d4 d5 d6 p1 p2 l = true) : 0 < T ∧ 0 < S := by
  unfold arcB at h
  simp only [Bool.and_eq_true, decide_eq_true_eq] at h
  exact ⟨h.1.1.1.1.1.1, h.1.1.1.1.1.2⟩
theorem steps_any (q : Option Addr) (cap : Nat) (T S t1 t2 f1 f2 d1 d2 d3 d4 d5 d6 p1 p2 : Int) (l : List (Int × Int × Int)) (w : World) (h : (-9223372036854775808 ≤ T ∧ T ≤ 9223372036854775807) ∧ (-9223372036854775808 ≤ S ∧ S ≤ 9223372036854775807) ∧ (-9223372036854775808 ≤ t1 ∧ t1 ≤ 9223372036854775807) ∧ (-9223372036854775808 ≤ t2 ∧ t2 ≤ 9223372036854775807) ∧ (-9223372036854775808 ≤ f1 ∧ f1 ≤ 9223372036854775807) ∧ (-9223372036854775808 ≤ f2 ∧ f2 ≤ 9223372036854775807) ∧ (-9223372036854775808 ≤ d1 ∧ d1 ≤ 9223372036854775807) ∧ (-9223372036854775808 ≤ d2 ∧ d2 ≤ 9223372036854775807) ∧ (-9223372036854775808 ≤ d3 ∧ d3 ≤ 9223372036854775807) ∧ (-9223372036854775808 ≤ d4 ∧ d4 ≤ 9223372036854775807) ∧ (-9223372036854775808 ≤ d5 ∧ d5 ≤ 9223372036854775807) ∧ (-9223372036854775808 ≤ d6 ∧ d6 ≤ 9223372036854775807) ∧ (-9223372036854775808 ≤ p1 ∧ p1 ≤ 9223372036854775807) ∧ (-9223372036854775808 ≤ p2 ∧ p2 ≤ 9223372036854775807)) (hl : l.length ≤ 70) (ht : TabIn q l w) (hb : Hid (∀ p ∈ l, (-9223372036854775808 ≤ p.1 ∧ p.1 ≤ 9223372036854775807) ∧ (-9223372036854775808 ≤ p.2.1 ∧ p.2.1 ≤ 9223372036854775807) ∧ (-9223372036854775808 ≤ p.2.2 ∧ p.2.2 ≤ 9223372036854775807))) :
    Calls Try.prog 7 #[.agg #[.int .i64 T, .int .i64 S, .int .i64 t1, .int .i64 t2, .int .i64 f1, .int .i64 f2, .int .i64 d1, .int .i64 d2, .int .i64 d3, .int .i64 d4, .int .i64 d5, .int .i64 d6, Value.slice q l.length cap, .int .i64 p1, .int .i64 p2]] w fun e w' => e = .returned (.tuple #[.int .i64 ((stepsS (arcB T S t1 t2 f1 f2 d1 d2 d3 d4 d5 d6 p1 p2 l) T S).1), .int .i64 ((stepsS (arcB T S t1 t2 f1 f2 d1 d2 d3 d4 d5 d6 p1 p2 l) T S).2)]) ∧ Below w.heap.size w w' := by
  have ka := hid (fun W (hW : Below w.heap.size w W) => checkarc_any q cap T S t1 t2 f1 f2 d1 d2 d3 d4 d5 d6 p1 p2 l W h hl (ht.on hW) hb)
  cases e : arcB T S t1 t2 f1 f2 d1 d2 d3 d4 d5 d6 p1 p2 l
  · rw [e] at ka
    have hv := hid (show stepsS false T S = (0, 2) from rfl)
    clear h ht hb e
    go_enter Try.func7, Try.ntmps7
    go_wp2_with fail
    refine useK w (ka.out _ (by go_grown)) (by go_grown) ?_; rintro e w1 rfl hB1 hk1 hs1
    replace p00 : w1.cell? ⟨w.heap.size, 0, none⟩ = some (.int .i64 T) := hk1 _ _ _ (by simp [go_sem])
    replace p01 : w1.cell? ⟨w.heap.size, 1, none⟩ = some (.int .i64 S) := hk1 _ _ _ (by simp [go_sem])
    replace p02 : w1.cell? ⟨w.heap.size, 2, none⟩ = some (.int .i64 t1) := hk1 _ _ _ (by simp [go_sem])
    replace p03 : w1.cell? ⟨w.heap.size, 3, none⟩ = some (.int .i64 t2) := hk1 _ _ _ (by simp [go_sem])
    replace p04 : w1.cell? ⟨w.heap.size, 4, none⟩ = some (.int .i64 f1) := hk1 _ _ _ (by simp [go_sem])
    replace p05 : w1.cell? ⟨w.heap.size, 5, none⟩ = some (.int .i64 f2) := hk1 _ _ _ (by simp [go_sem])
    replace p06 : w1.cell? ⟨w.heap.size, 6, none⟩ = some (.int .i64 d1) := hk1 _ _ _ (by simp [go_sem])
    replace p07 : w1.cell? ⟨w.heap.size, 7, none⟩ = some (.int .i64 d2) := hk1 _ _ _ (by simp [go_sem])
    replace p08 : w1.cell? ⟨w.heap.size, 8, none⟩ = some (.int .i64 d3) := hk1 _ _ _ (by simp [go_sem])
    replace p09 : w1.cell? ⟨w.heap.size, 9, none⟩ = some (.int .i64 d4) := hk1 _ _ _ (by simp [go_sem])
    replace p010 : w1.cell? ⟨w.heap.size, 10, none⟩ = some (.int .i64 d5) := hk1 _ _ _ (by simp [go_sem])
    replace p011 : w1.cell? ⟨w.heap.size, 11, none⟩ = some (.int .i64 d6) := hk1 _ _ _ (by simp [go_sem])
    replace p012 : w1.cell? ⟨w.heap.size, 12, none⟩ = some (Value.slice q l.length cap) := hk1 _ _ _ (by simp [go_sem])
    replace p013 : w1.cell? ⟨w.heap.size, 13, none⟩ = some (.int .i64 p1) := hk1 _ _ _ (by simp [go_sem])
    replace p014 : w1.cell? ⟨w.heap.size, 14, none⟩ = some (.int .i64 p2) := hk1 _ _ _ (by simp [go_sem])
    have bp00 : w.heap.size < w1.heap.size := World.block_lt_of_cell? w1 ⟨w.heap.size, 0, none⟩ p00
    clear hk1
    go_wp2_with fail
    go_ret2
    exact ⟨ret_rn hv.out.symm, by go_grown⟩
  · obtain ⟨hp1, hp2⟩ := arc_pos e
    rw [e] at ka
    have kc := hid (fun W => count_any q cap T S t1 t2 f1 f2 d1 d2 d3 d4 d5 d6 p1 p2 l W (by omega) (by omega))
    by_cases c : 4096 < cntI T S
    · have hv := hid (show stepsS true T S = (0, 3) by unfold stepsS; rw [if_pos rfl, if_pos c])
      have hc := cnt_bd (T := T) (S := S) (by omega) hp2
      have hcb : 0 ≤ cntI T S ∧ cntI T S ≤ 9223372036854775807 := by unfold cntI; split; omega; (have := hc.2.2 (by assumption); omega)
      clear hc h ht hb e
      generalize cntI T S = n at *
      obtain ⟨n1, n2⟩ := hcb
      go_enter Try.func7, Try.ntmps7
      go_wp2_with fail
      refine useK w (ka.out _ (by go_grown)) (by go_grown) ?_; rintro e w1 rfl hB1 hk1 hs1
      replace p00 : w1.cell? ⟨w.heap.size, 0, none⟩ = some (.int .i64 T) := hk1 _ _ _ (by simp [go_sem])
      replace p01 : w1.cell? ⟨w.heap.size, 1, none⟩ = some (.int .i64 S) := hk1 _ _ _ (by simp [go_sem])
      replace p02 : w1.cell? ⟨w.heap.size, 2, none⟩ = some (.int .i64 t1) := hk1 _ _ _ (by simp [go_sem])
      replace p03 : w1.cell? ⟨w.heap.size, 3, none⟩ = some (.int .i64 t2) := hk1 _ _ _ (by simp [go_sem])
      replace p04 : w1.cell? ⟨w.heap.size, 4, none⟩ = some (.int .i64 f1) := hk1 _ _ _ (by simp [go_sem])
      replace p05 : w1.cell? ⟨w.heap.size, 5, none⟩ = some (.int .i64 f2) := hk1 _ _ _ (by simp [go_sem])
      replace p06 : w1.cell? ⟨w.heap.size, 6, none⟩ = some (.int .i64 d1) := hk1 _ _ _ (by simp [go_sem])
      replace p07 : w1.cell? ⟨w.heap.size, 7, none⟩ = some (.int .i64 d2) := hk1 _ _ _ (by simp [go_sem])
      replace p08 : w1.cell? ⟨w.heap.size, 8, none⟩ = some (.int .i64 d3) := hk1 _ _ _ (by simp [go_sem])
      replace p09 : w1.cell? ⟨w.heap.size, 9, none⟩ = some (.int .i64 d4) := hk1 _ _ _ (by simp [go_sem])
      replace p010 : w1.cell? ⟨w.heap.size, 10, none⟩ = some (.int .i64 d5) := hk1 _ _ _ (by simp [go_sem])
      replace p011 : w1.cell? ⟨w.heap.size, 11, none⟩ = some (.int .i64 d6) := hk1 _ _ _ (by simp [go_sem])
      replace p012 : w1.cell? ⟨w.heap.size, 12, none⟩ = some (Value.slice q l.length cap) := hk1 _ _ _ (by simp [go_sem])
      replace p013 : w1.cell? ⟨w.heap.size, 13, none⟩ = some (.int .i64 p1) := hk1 _ _ _ (by simp [go_sem])
      replace p014 : w1.cell? ⟨w.heap.size, 14, none⟩ = some (.int .i64 p2) := hk1 _ _ _ (by simp [go_sem])
      have bp00 : w.heap.size < w1.heap.size := World.block_lt_of_cell? w1 ⟨w.heap.size, 0, none⟩ p00
      clear hk1
      go_wp2_with fail
      refine useK w (kc.out _) (by go_grown) ?_; rintro e w2 rfl hB2 hk2 hs2
      replace p00 : w2.cell? ⟨w.heap.size, 0, none⟩ = some (.int .i64 T) := hk2 _ _ _ (p00)
      replace p01 : w2.cell? ⟨w.heap.size, 1, none⟩ = some (.int .i64 S) := hk2 _ _ _ (p01)
      replace p02 : w2.cell? ⟨w.heap.size, 2, none⟩ = some (.int .i64 t1) := hk2 _ _ _ (p02)
      replace p03 : w2.cell? ⟨w.heap.size, 3, none⟩ = some (.int .i64 t2) := hk2 _ _ _ (p03)
      replace p04 : w2.cell? ⟨w.heap.size, 4, none⟩ = some (.int .i64 f1) := hk2 _ _ _ (p04)
      replace p05 : w2.cell? ⟨w.heap.size, 5, none⟩ = some (.int .i64 f2) := hk2 _ _ _ (p05)
      replace p06 : w2.cell? ⟨w.heap.size, 6, none⟩ = some (.int .i64 d1) := hk2 _ _ _ (p06)
      replace p07 : w2.cell? ⟨w.heap.size, 7, none⟩ = some (.int .i64 d2) := hk2 _ _ _ (p07)
      replace p08 : w2.cell? ⟨w.heap.size, 8, none⟩ = some (.int .i64 d3) := hk2 _ _ _ (p08)
      replace p09 : w2.cell? ⟨w.heap.size, 9, none⟩ = some (.int .i64 d4) := hk2 _ _ _ (p09)
      replace p010 : w2.cell? ⟨w.heap.size, 10, none⟩ = some (.int .i64 d5) := hk2 _ _ _ (p010)
      replace p011 : w2.cell? ⟨w.heap.size, 11, none⟩ = some (.int .i64 d6) := hk2 _ _ _ (p011)
      replace p012 : w2.cell? ⟨w.heap.size, 12, none⟩ = some (Value.slice q l.length cap) := hk2 _ _ _ (p012)
      replace p013 : w2.cell? ⟨w.heap.size, 13, none⟩ = some (.int .i64 p1) := hk2 _ _ _ (p013)
      replace p014 : w2.cell? ⟨w.heap.size, 14, none⟩ = some (.int .i64 p2) := hk2 _ _ _ (p014)
      have bp00 : w.heap.size < w2.heap.size := World.block_lt_of_cell? w2 ⟨w.heap.size, 0, none⟩ p00
      clear hk2
      go_wp2_with fail
      go_ret2
      exact ⟨ret_rn hv.out.symm, by go_grown⟩
    · have hv := hid (show stepsS true T S = (cntI T S, 0) by unfold stepsS; rw [if_pos rfl, if_neg c])
      have hc := cnt_bd (T := T) (S := S) (by omega) hp2
      have hcb : 0 ≤ cntI T S ∧ cntI T S ≤ 9223372036854775807 := by unfold cntI; split; omega; (have := hc.2.2 (by assumption); omega)
      clear hc h ht hb e
      generalize cntI T S = n at *
      obtain ⟨n1, n2⟩ := hcb
      go_enter Try.func7, Try.ntmps7
      go_wp2_with fail
      refine useK w (ka.out _ (by go_grown)) (by go_grown) ?_; rintro e w1 rfl hB1 hk1 hs1
      replace p00 : w1.cell? ⟨w.heap.size, 0, none⟩ = some (.int .i64 T) := hk1 _ _ _ (by simp [go_sem])
      replace p01 : w1.cell? ⟨w.heap.size, 1, none⟩ = some (.int .i64 S) := hk1 _ _ _ (by simp [go_sem])
      replace p02 : w1.cell? ⟨w.heap.size, 2, none⟩ = some (.int .i64 t1) := hk1 _ _ _ (by simp [go_sem])
      replace p03 : w1.cell? ⟨w.heap.size, 3, none⟩ = some (.int .i64 t2) := hk1 _ _ _ (by simp [go_sem])
      replace p04 : w1.cell? ⟨w.heap.size, 4, none⟩ = some (.int .i64 f1) := hk1 _ _ _ (by simp [go_sem])
      replace p05 : w1.cell? ⟨w.heap.size, 5, none⟩ = some (.int .i64 f2) := hk1 _ _ _ (by simp [go_sem])
      replace p06 : w1.cell? ⟨w.heap.size, 6, none⟩ = some (.int .i64 d1) := hk1 _ _ _ (by simp [go_sem])
      replace p07 : w1.cell? ⟨w.heap.size, 7, none⟩ = some (.int .i64 d2) := hk1 _ _ _ (by simp [go_sem])
      replace p08 : w1.cell? ⟨w.heap.size, 8, none⟩ = some (.int .i64 d3) := hk1 _ _ _ (by simp [go_sem])
      replace p09 : w1.cell? ⟨w.heap.size, 9, none⟩ = some (.int .i64 d4) := hk1 _ _ _ (by simp [go_sem])
      replace p010 : w1.cell? ⟨w.heap.size, 10, none⟩ = some (.int .i64 d5) := hk1 _ _ _ (by simp [go_sem])
      replace p011 : w1.cell? ⟨w.heap.size, 11, none⟩ = some (.int .i64 d6) := hk1 _ _ _ (by simp [go_sem])
      replace p012 : w1.cell? ⟨w.heap.size, 12, none⟩ = some (Value.slice q l.length cap) := hk1 _ _ _ (by simp [go_sem])
      replace p013 : w1.cell? ⟨w.heap.size, 13, none⟩ = some (.int .i64 p1) := hk1 _ _ _ (by simp [go_sem])
      replace p014 : w1.cell? ⟨w.heap.size, 14, none⟩ = some (.int .i64 p2) := hk1 _ _ _ (by simp [go_sem])
      have bp00 : w.heap.size < w1.heap.size := World.block_lt_of_cell? w1 ⟨w.heap.size, 0, none⟩ p00
      clear hk1
      go_wp2_with fail
      refine useK w (kc.out _) (by go_grown) ?_; rintro e w2 rfl hB2 hk2 hs2
      replace p00 : w2.cell? ⟨w.heap.size, 0, none⟩ = some (.int .i64 T) := hk2 _ _ _ (p00)
      replace p01 : w2.cell? ⟨w.heap.size, 1, none⟩ = some (.int .i64 S) := hk2 _ _ _ (p01)
      replace p02 : w2.cell? ⟨w.heap.size, 2, none⟩ = some (.int .i64 t1) := hk2 _ _ _ (p02)
      replace p03 : w2.cell? ⟨w.heap.size, 3, none⟩ = some (.int .i64 t2) := hk2 _ _ _ (p03)
      replace p04 : w2.cell? ⟨w.heap.size, 4, none⟩ = some (.int .i64 f1) := hk2 _ _ _ (p04)
      replace p05 : w2.cell? ⟨w.heap.size, 5, none⟩ = some (.int .i64 f2) := hk2 _ _ _ (p05)
      replace p06 : w2.cell? ⟨w.heap.size, 6, none⟩ = some (.int .i64 d1) := hk2 _ _ _ (p06)
      replace p07 : w2.cell? ⟨w.heap.size, 7, none⟩ = some (.int .i64 d2) := hk2 _ _ _ (p07)
      replace p08 : w2.cell? ⟨w.heap.size, 8, none⟩ = some (.int .i64 d3) := hk2 _ _ _ (p08)
      replace p09 : w2.cell? ⟨w.heap.size, 9, none⟩ = some (.int .i64 d4) := hk2 _ _ _ (p09)
      replace p010 : w2.cell? ⟨w.heap.size, 10, none⟩ = some (.int .i64 d5) := hk2 _ _ _ (p010)
      replace p011 : w2.cell? ⟨w.heap.size, 11, none⟩ = some (.int .i64 d6) := hk2 _ _ _ (p011)
      replace p012 : w2.cell? ⟨w.heap.size, 12, none⟩ = some (Value.slice q l.length cap) := hk2 _ _ _ (p012)
      replace p013 : w2.cell? ⟨w.heap.size, 13, none⟩ = some (.int .i64 p1) := hk2 _ _ _ (p013)
      replace p014 : w2.cell? ⟨w.heap.size, 14, none⟩ = some (.int .i64 p2) := hk2 _ _ _ (p014)
      have bp00 : w.heap.size < w2.heap.size := World.block_lt_of_cell? w2 ⟨w.heap.size, 0, none⟩ p00
      clear hk2
      go_wp2_with fail
      go_ret2
      exact ⟨ret_rn hv.out.symm, by go_grown⟩
theorem rsteps_any (q : Option Addr) (cap : Nat) (T S t1 t2 f1 f2 d1 d2 d3 d4 d5 d6 p1 p2 : Int) (l : List (Int × Int × Int)) (w : World) (h : (-9223372036854775808 ≤ T ∧ T ≤ 9223372036854775807) ∧ (-9223372036854775808 ≤ S ∧ S ≤ 9223372036854775807) ∧ (-9223372036854775808 ≤ t1 ∧ t1 ≤ 9223372036854775807) ∧ (-9223372036854775808 ≤ t2 ∧ t2 ≤ 9223372036854775807) ∧ (-9223372036854775808 ≤ f1 ∧ f1 ≤ 9223372036854775807) ∧ (-9223372036854775808 ≤ f2 ∧ f2 ≤ 9223372036854775807) ∧ (-9223372036854775808 ≤ d1 ∧ d1 ≤ 9223372036854775807) ∧ (-9223372036854775808 ≤ d2 ∧ d2 ≤ 9223372036854775807) ∧ (-9223372036854775808 ≤ d3 ∧ d3 ≤ 9223372036854775807) ∧ (-9223372036854775808 ≤ d4 ∧ d4 ≤ 9223372036854775807) ∧ (-9223372036854775808 ≤ d5 ∧ d5 ≤ 9223372036854775807) ∧ (-9223372036854775808 ≤ d6 ∧ d6 ≤ 9223372036854775807) ∧ (-9223372036854775808 ≤ p1 ∧ p1 ≤ 9223372036854775807) ∧ (-9223372036854775808 ≤ p2 ∧ p2 ≤ 9223372036854775807)) (hl : l.length ≤ 70) (ht : TabIn q l w) (hb : Hid (∀ p ∈ l, (-9223372036854775808 ≤ p.1 ∧ p.1 ≤ 9223372036854775807) ∧ (-9223372036854775808 ≤ p.2.1 ∧ p.2.1 ≤ 9223372036854775807) ∧ (-9223372036854775808 ≤ p.2.2 ∧ p.2.2 ≤ 9223372036854775807))) :
    Calls Try.prog 8 #[.agg #[.int .i64 T, .int .i64 S, .int .i64 t1, .int .i64 t2, .int .i64 f1, .int .i64 f2, .int .i64 d1, .int .i64 d2, .int .i64 d3, .int .i64 d4, .int .i64 d5, .int .i64 d6, Value.slice q l.length cap, .int .i64 p1, .int .i64 p2]] w fun e w' => e = .returned (.tuple #[.int .i64 ((stepsS (arcB T S t1 t2 f1 f2 d1 d2 d3 d4 d5 d6 p1 p2 l) T S).1), .int .i64 ((stepsS (arcB T S t1 t2 f1 f2 d1 d2 d3 d4 d5 d6 p1 p2 l) T S).2)]) ∧ Below w.heap.size w w' := by
  have ka := hid (fun W (hW : Below w.heap.size w W) => rcheckarc_any q cap T S t1 t2 f1 f2 d1 d2 d3 d4 d5 d6 p1 p2 l W h hl (ht.on hW) hb)
  cases e : arcB T S t1 t2 f1 f2 d1 d2 d3 d4 d5 d6 p1 p2 l
  · rw [e] at ka
    have hv := hid (show stepsS false T S = (0, 2) from rfl)
    clear h ht hb e
    go_enter Try.func8, Try.ntmps8
    go_wp2_with fail
    refine useK w (ka.out _ (by go_grown)) (by go_grown) ?_; rintro e w1 rfl hB1 hk1 hs1
    replace p00 : w1.cell? ⟨w.heap.size, 0, none⟩ = some (.int .i64 T) := hk1 _ _ _ (by simp [go_sem])
    replace p01 : w1.cell? ⟨w.heap.size, 1, none⟩ = some (.int .i64 S) := hk1 _ _ _ (by simp [go_sem])
    replace p02 : w1.cell? ⟨w.heap.size, 2, none⟩ = some (.int .i64 t1) := hk1 _ _ _ (by simp [go_sem])
    replace p03 : w1.cell? ⟨w.heap.size, 3, none⟩ = some (.int .i64 t2) := hk1 _ _ _ (by simp [go_sem])
    replace p04 : w1.cell? ⟨w.heap.size, 4, none⟩ = some (.int .i64 f1) := hk1 _ _ _ (by simp [go_sem])
    replace p05 : w1.cell? ⟨w.heap.size, 5, none⟩ = some (.int .i64 f2) := hk1 _ _ _ (by simp [go_sem])
    replace p06 : w1.cell? ⟨w.heap.size, 6, none⟩ = some (.int .i64 d1) := hk1 _ _ _ (by simp [go_sem])
    replace p07 : w1.cell? ⟨w.heap.size, 7, none⟩ = some (.int .i64 d2) := hk1 _ _ _ (by simp [go_sem])
    replace p08 : w1.cell? ⟨w.heap.size, 8, none⟩ = some (.int .i64 d3) := hk1 _ _ _ (by simp [go_sem])
    replace p09 : w1.cell? ⟨w.heap.size, 9, none⟩ = some (.int .i64 d4) := hk1 _ _ _ (by simp [go_sem])
    replace p010 : w1.cell? ⟨w.heap.size, 10, none⟩ = some (.int .i64 d5) := hk1 _ _ _ (by simp [go_sem])
    replace p011 : w1.cell? ⟨w.heap.size, 11, none⟩ = some (.int .i64 d6) := hk1 _ _ _ (by simp [go_sem])
    replace p012 : w1.cell? ⟨w.heap.size, 12, none⟩ = some (Value.slice q l.length cap) := hk1 _ _ _ (by simp [go_sem])
    replace p013 : w1.cell? ⟨w.heap.size, 13, none⟩ = some (.int .i64 p1) := hk1 _ _ _ (by simp [go_sem])
    replace p014 : w1.cell? ⟨w.heap.size, 14, none⟩ = some (.int .i64 p2) := hk1 _ _ _ (by simp [go_sem])
    have bp00 : w.heap.size < w1.heap.size := World.block_lt_of_cell? w1 ⟨w.heap.size, 0, none⟩ p00
    clear hk1
    go_wp2_with fail
    go_ret2
    exact ⟨ret_rn hv.out.symm, by go_grown⟩
  · obtain ⟨hp1, hp2⟩ := arc_pos e
    rw [e] at ka
    obtain ⟨b1, b2, b3⟩ := cnt_bd (T := T) (S := S) (by omega) hp2
    have z0 : ¬ S = 0 := by omega
    have z1 : (S == 0) = false := by rw [beq_eq_false_iff_ne]; exact z0
    have m1 := Int.emod_nonneg T z0
    have s2' : S ≤ 9223372036854775807 := by omega
    have t2' : T ≤ 9223372036854775807 := by omega
    by_cases c0 : T % S = 0
    · have hn : cntI T S = T / S := by unfold cntI; rw [if_pos c0, Int.add_zero]
      have c1 : (T % S != 0) = false := by rw [c0]; rfl
      clear b3
      by_cases c : 4096 < T / S
      · have hv := hid (show stepsS true T S = (0, 3) by unfold stepsS; rw [if_pos rfl, hn, if_pos c])
        clear hn c0 h ht hb e
        go_enter Try.func8, Try.ntmps8
        go_wp2_with fail
        refine useK w (ka.out _ (by go_grown)) (by go_grown) ?_; rintro e w1 rfl hB1 hk1 hs1
        replace p00 : w1.cell? ⟨w.heap.size, 0, none⟩ = some (.int .i64 T) := hk1 _ _ _ (by simp [go_sem])
        replace p01 : w1.cell? ⟨w.heap.size, 1, none⟩ = some (.int .i64 S) := hk1 _ _ _ (by simp [go_sem])
        replace p02 : w1.cell? ⟨w.heap.size, 2, none⟩ = some (.int .i64 t1) := hk1 _ _ _ (by simp [go_sem])
        replace p03 : w1.cell? ⟨w.heap.size, 3, none⟩ = some (.int .i64 t2) := hk1 _ _ _ (by simp [go_sem])
        replace p04 : w1.cell? ⟨w.heap.size, 4, none⟩ = some (.int .i64 f1) := hk1 _ _ _ (by simp [go_sem])
        replace p05 : w1.cell? ⟨w.heap.size, 5, none⟩ = some (.int .i64 f2) := hk1 _ _ _ (by simp [go_sem])
        replace p06 : w1.cell? ⟨w.heap.size, 6, none⟩ = some (.int .i64 d1) := hk1 _ _ _ (by simp [go_sem])
        replace p07 : w1.cell? ⟨w.heap.size, 7, none⟩ = some (.int .i64 d2) := hk1 _ _ _ (by simp [go_sem])
        replace p08 : w1.cell? ⟨w.heap.size, 8, none⟩ = some (.int .i64 d3) := hk1 _ _ _ (by simp [go_sem])
        replace p09 : w1.cell? ⟨w.heap.size, 9, none⟩ = some (.int .i64 d4) := hk1 _ _ _ (by simp [go_sem])
        replace p010 : w1.cell? ⟨w.heap.size, 10, none⟩ = some (.int .i64 d5) := hk1 _ _ _ (by simp [go_sem])
        replace p011 : w1.cell? ⟨w.heap.size, 11, none⟩ = some (.int .i64 d6) := hk1 _ _ _ (by simp [go_sem])
        replace p012 : w1.cell? ⟨w.heap.size, 12, none⟩ = some (Value.slice q l.length cap) := hk1 _ _ _ (by simp [go_sem])
        replace p013 : w1.cell? ⟨w.heap.size, 13, none⟩ = some (.int .i64 p1) := hk1 _ _ _ (by simp [go_sem])
        replace p014 : w1.cell? ⟨w.heap.size, 14, none⟩ = some (.int .i64 p2) := hk1 _ _ _ (by simp [go_sem])
        have bp00 : w.heap.size < w1.heap.size := World.block_lt_of_cell? w1 ⟨w.heap.size, 0, none⟩ p00
        clear hk1
        go_wp2_with fail
        go_ret2
        exact ⟨ret_rn hv.out.symm, by go_grown⟩
      · have hv := hid (show stepsS true T S = (T / S, 0) by unfold stepsS; rw [if_pos rfl, hn, if_neg c])
        clear hn c0 h ht hb e
        go_enter Try.func8, Try.ntmps8
        go_wp2_with fail
        refine useK w (ka.out _ (by go_grown)) (by go_grown) ?_; rintro e w1 rfl hB1 hk1 hs1
        replace p00 : w1.cell? ⟨w.heap.size, 0, none⟩ = some (.int .i64 T) := hk1 _ _ _ (by simp [go_sem])
        replace p01 : w1.cell? ⟨w.heap.size, 1, none⟩ = some (.int .i64 S) := hk1 _ _ _ (by simp [go_sem])
        replace p02 : w1.cell? ⟨w.heap.size, 2, none⟩ = some (.int .i64 t1) := hk1 _ _ _ (by simp [go_sem])
        replace p03 : w1.cell? ⟨w.heap.size, 3, none⟩ = some (.int .i64 t2) := hk1 _ _ _ (by simp [go_sem])
        replace p04 : w1.cell? ⟨w.heap.size, 4, none⟩ = some (.int .i64 f1) := hk1 _ _ _ (by simp [go_sem])
        replace p05 : w1.cell? ⟨w.heap.size, 5, none⟩ = some (.int .i64 f2) := hk1 _ _ _ (by simp [go_sem])
        replace p06 : w1.cell? ⟨w.heap.size, 6, none⟩ = some (.int .i64 d1) := hk1 _ _ _ (by simp [go_sem])
        replace p07 : w1.cell? ⟨w.heap.size, 7, none⟩ = some (.int .i64 d2) := hk1 _ _ _ (by simp [go_sem])
        replace p08 : w1.cell? ⟨w.heap.size, 8, none⟩ = some (.int .i64 d3) := hk1 _ _ _ (by simp [go_sem])
        replace p09 : w1.cell? ⟨w.heap.size, 9, none⟩ = some (.int .i64 d4) := hk1 _ _ _ (by simp [go_sem])
        replace p010 : w1.cell? ⟨w.heap.size, 10, none⟩ = some (.int .i64 d5) := hk1 _ _ _ (by simp [go_sem])
        replace p011 : w1.cell? ⟨w.heap.size, 11, none⟩ = some (.int .i64 d6) := hk1 _ _ _ (by simp [go_sem])
        replace p012 : w1.cell? ⟨w.heap.size, 12, none⟩ = some (Value.slice q l.length cap) := hk1 _ _ _ (by simp [go_sem])
        replace p013 : w1.cell? ⟨w.heap.size, 13, none⟩ = some (.int .i64 p1) := hk1 _ _ _ (by simp [go_sem])
        replace p014 : w1.cell? ⟨w.heap.size, 14, none⟩ = some (.int .i64 p2) := hk1 _ _ _ (by simp [go_sem])
        have bp00 : w.heap.size < w1.heap.size := World.block_lt_of_cell? w1 ⟨w.heap.size, 0, none⟩ p00
        clear hk1
        go_wp2_with fail
        go_ret2
        exact ⟨ret_rn hv.out.symm, by go_grown⟩
    · have hn : cntI T S = T / S + 1 := by unfold cntI; rw [if_neg c0]
      have c1 : (T % S != 0) = true := by rw [bne_iff_ne]; exact c0
      replace b3 := b3 c0
      by_cases c : 4096 < T / S + 1
      · have hv := hid (show stepsS true T S = (0, 3) by unfold stepsS; rw [if_pos rfl, hn, if_pos c])
        clear hn c0 h ht hb e
        go_enter Try.func8, Try.ntmps8
        go_wp2_with fail
        refine useK w (ka.out _ (by go_grown)) (by go_grown) ?_; rintro e w1 rfl hB1 hk1 hs1
        replace p00 : w1.cell? ⟨w.heap.size, 0, none⟩ = some (.int .i64 T) := hk1 _ _ _ (by simp [go_sem])
        replace p01 : w1.cell? ⟨w.heap.size, 1, none⟩ = some (.int .i64 S) := hk1 _ _ _ (by simp [go_sem])
        replace p02 : w1.cell? ⟨w.heap.size, 2, none⟩ = some (.int .i64 t1) := hk1 _ _ _ (by simp [go_sem])
        replace p03 : w1.cell? ⟨w.heap.size, 3, none⟩ = some (.int .i64 t2) := hk1 _ _ _ (by simp [go_sem])
        replace p04 : w1.cell? ⟨w.heap.size, 4, none⟩ = some (.int .i64 f1) := hk1 _ _ _ (by simp [go_sem])
        replace p05 : w1.cell? ⟨w.heap.size, 5, none⟩ = some (.int .i64 f2) := hk1 _ _ _ (by simp [go_sem])
        replace p06 : w1.cell? ⟨w.heap.size, 6, none⟩ = some (.int .i64 d1) := hk1 _ _ _ (by simp [go_sem])
        replace p07 : w1.cell? ⟨w.heap.size, 7, none⟩ = some (.int .i64 d2) := hk1 _ _ _ (by simp [go_sem])
        replace p08 : w1.cell? ⟨w.heap.size, 8, none⟩ = some (.int .i64 d3) := hk1 _ _ _ (by simp [go_sem])
        replace p09 : w1.cell? ⟨w.heap.size, 9, none⟩ = some (.int .i64 d4) := hk1 _ _ _ (by simp [go_sem])
        replace p010 : w1.cell? ⟨w.heap.size, 10, none⟩ = some (.int .i64 d5) := hk1 _ _ _ (by simp [go_sem])
        replace p011 : w1.cell? ⟨w.heap.size, 11, none⟩ = some (.int .i64 d6) := hk1 _ _ _ (by simp [go_sem])
        replace p012 : w1.cell? ⟨w.heap.size, 12, none⟩ = some (Value.slice q l.length cap) := hk1 _ _ _ (by simp [go_sem])
        replace p013 : w1.cell? ⟨w.heap.size, 13, none⟩ = some (.int .i64 p1) := hk1 _ _ _ (by simp [go_sem])
        replace p014 : w1.cell? ⟨w.heap.size, 14, none⟩ = some (.int .i64 p2) := hk1 _ _ _ (by simp [go_sem])
        have bp00 : w.heap.size < w1.heap.size := World.block_lt_of_cell? w1 ⟨w.heap.size, 0, none⟩ p00
        clear hk1
        go_wp2_with fail
        go_ret2
        exact ⟨ret_rn hv.out.symm, by go_grown⟩
      · have hv := hid (show stepsS true T S = (T / S + 1, 0) by unfold stepsS; rw [if_pos rfl, hn, if_neg c])
        clear hn c0 h ht hb e
        go_enter Try.func8, Try.ntmps8
        go_wp2_with fail
        refine useK w (ka.out _ (by go_grown)) (by go_grown) ?_; rintro e w1 rfl hB1 hk1 hs1
        replace p00 : w1.cell? ⟨w.heap.size, 0, none⟩ = some (.int .i64 T) := hk1 _ _ _ (by simp [go_sem])
        replace p01 : w1.cell? ⟨w.heap.size, 1, none⟩ = some (.int .i64 S) := hk1 _ _ _ (by simp [go_sem])
        replace p02 : w1.cell? ⟨w.heap.size, 2, none⟩ = some (.int .i64 t1) := hk1 _ _ _ (by simp [go_sem])
        replace p03 : w1.cell? ⟨w.heap.size, 3, none⟩ = some (.int .i64 t2) := hk1 _ _ _ (by simp [go_sem])
        replace p04 : w1.cell? ⟨w.heap.size, 4, none⟩ = some (.int .i64 f1) := hk1 _ _ _ (by simp [go_sem])
        replace p05 : w1.cell? ⟨w.heap.size, 5, none⟩ = some (.int .i64 f2) := hk1 _ _ _ (by simp [go_sem])
        replace p06 : w1.cell? ⟨w.heap.size, 6, none⟩ = some (.int .i64 d1) := hk1 _ _ _ (by simp [go_sem])
        replace p07 : w1.cell? ⟨w.heap.size, 7, none⟩ = some (.int .i64 d2) := hk1 _ _ _ (by simp [go_sem])
        replace p08 : w1.cell? ⟨w.heap.size, 8, none⟩ = some (.int .i64 d3) := hk1 _ _ _ (by simp [go_sem])
        replace p09 : w1.cell? ⟨w.heap.size, 9, none⟩ = some (.int .i64 d4) := hk1 _ _ _ (by simp [go_sem])
        replace p010 : w1.cell? ⟨w.heap.size, 10, none⟩ = some (.int .i64 d5) := hk1 _ _ _ (by simp [go_sem])
        replace p011 : w1.cell? ⟨w.heap.size, 11, none⟩ = some (.int .i64 d6) := hk1 _ _ _ (by simp [go_sem])
        replace p012 : w1.cell? ⟨w.heap.size, 12, none⟩ = some (Value.slice q l.length cap) := hk1 _ _ _ (by simp [go_sem])
        replace p013 : w1.cell? ⟨w.heap.size, 13, none⟩ = some (.int .i64 p1) := hk1 _ _ _ (by simp [go_sem])
        replace p014 : w1.cell? ⟨w.heap.size, 14, none⟩ = some (.int .i64 p2) := hk1 _ _ _ (by simp [go_sem])
        have bp00 : w.heap.size < w1.heap.size := World.block_lt_of_cell? w1 ⟨w.heap.size, 0, none⟩ p00
        clear hk1
        go_wp2_with fail
        go_ret2
        exact ⟨ret_rn hv.out.symm, by go_grown⟩
theorem long_any (B : Nat) (q : Option Addr) (n cap : Nat) (w : World) (h : w.cell? ⟨B, 12, none⟩ = some (.slice q n cap)) (hn : n ≤ 9223372036854775807) :
    Calls Try.prog 6 #[.slice (some ⟨B, 0, none⟩) 1 1] w fun e w' => e = .returned (.bool (decide (70 < n))) ∧ Below w.heap.size w w' := by
  have hB := World.block_lt_of_cell? _ _ h
  dsimp only at hB
  by_cases c : 70 < n
  · rw [decide_eq_true c]
    have c1 : (70 : Int) < n := by omega
    clear c
    go_enter Try.func6, Try.ntmps6
    go_wp2_with fail
    refine wp_loop_rounds 2 ?_; rw [rounds_succ]
    go_wp2_with fail
    all_goals (go_ret; exact ⟨rfl, by go_grown⟩)
  · rw [decide_eq_false c]
    have c1 : ¬ (70 : Int) < n := by omega
    clear c
    go_enter Try.func6, Try.ntmps6
    go_wp2_with fail
    refine wp_loop_rounds 2 ?_; rw [rounds_succ]
    go_wp2_with fail
    rw [rounds_succ]
    go_wp2_with fail
    all_goals (go_ret; exact ⟨rfl, by go_grown⟩)
end Go.Proofs.Ytepcifijhnelcaa
