/- Whether arcs are valid, by package flight and the document. -/
import Derived.WalkMore
import Derived.Test.YtepcifijhnelcaaRows
import Derived.Test.YtepcifijhnelcaaBase
import Derived.Test.YtepcifijhnelcaaFacts
import Derived.Test.YtepcifijhnelcaaTwo
import Derived.Deep.RegionHeld3
import Derived.Deep.RegionWith
import Derived.Deep.QuietTactic
import Derived.BigQuiet
import Derived.Test.YtepcifijhnelcaaSeq
import Derived.Test.YtepcifijhnelcaaW
import Derived.Test.YtepcifijhnelcaaAsks
import Derived.Test.YtepcifijhnelcaaTabM
import Derived.Test.YtepcifijhnelcaaTable
import Derived.Test.YtepcifijhnelcaaRTable
import Derived.Test.YtepcifijhnelcaaFlyF
import Derived.Test.YtepcifijhnelcaaFlyG
import Derived.Test.YtepcifijhnelcaaFlyH
set_option linter.unusedVariables false
set_option linter.unusedSimpArgs false
set_option maxHeartbeats 4000000
set_option maxRecDepth 100000
namespace Go.Proofs.Ytepcifijhnelcaa
open Go Go.RowKit

theorem Tab.on {B o : Nat} {l : List (Int × Int × Int)} {w W : World} (h : Tab B o l w) (hb : Below w.heap.size w W) : Tab B o l W := fun i p hp => by
  obtain ⟨h0, h1, h2⟩ := h i p hp
  have hlt := World.block_lt_of_cell? _ _ h0
  exact ⟨(hb.cell (p := ⟨B, o + i * 3, none⟩) hlt).trans h0, (hb.cell (p := ⟨B, o + i * 3 + 1, none⟩) hlt).trans h1, (hb.cell (p := ⟨B, o + i * 3 + 2, none⟩) hlt).trans h2⟩
/-- A table's value and its points. -/
def TabIn (q : Option Addr) (l : List (Int × Int × Int)) (w : World) : Prop := l = [] ∨ ∃ B o, q = some ⟨B, o, none⟩ ∧ Tab B o l w
theorem TabIn.on {q : Option Addr} {l : List (Int × Int × Int)} {w W : World} (h : TabIn q l w) (hb : Below w.heap.size w W) : TabIn q l W := by
  rcases h with h | ⟨B, o, e, ht⟩
  · exact Or.inl h
  · exact Or.inr ⟨B, o, e, ht.on hb⟩
def tabB (l : List (Int × Int × Int)) : Bool := decide (l.length ≤ 64) && goodU l l.length
theorem checktable_any (q : Option Addr) (cap : Nat) (l : List (Int × Int × Int)) (w : World) (h1 : 1 ≤ l.length ∧ l.length ≤ 70) (ht : TabIn q l w) (hb : Hid (∀ p ∈ l, (-9223372036854775808 ≤ p.1 ∧ p.1 ≤ 9223372036854775807) ∧ (-9223372036854775808 ≤ p.2.1 ∧ p.2.1 ≤ 9223372036854775807) ∧ (-9223372036854775808 ≤ p.2.2 ∧ p.2.2 ≤ 9223372036854775807))) :
    Calls Try.prog 35 #[.slice q l.length cap] w fun e w' => e = .returned (.int .i64 (errB (tabB l))) ∧ Below w.heap.size w w' := by
  rcases ht with rfl | ⟨B, o, rfl, ht⟩
  · simp at h1
  by_cases c : l.length ≤ 64
  · refine checkTable_go l B o cap w ht ⟨h1.1, c⟩ hb _ (hid ?_)
    unfold tabB errB
    rw [decide_eq_true c, Bool.true_and]
  · have hT := hid (show errB (tabB l) = 2 by unfold tabB; rw [decide_eq_false c, Bool.false_and]; rfl)
    have z1 : ¬ (l.length : Int) < 1 := by omega
    have z2 : (64 : Int) < l.length := by omega
    have d1 : decide ((l.length : Int) < 1) = false := decide_eq_false z1
    have d2 : decide ((64 : Int) < l.length) = true := decide_eq_true z2
    clear c
    go_enter Try.func35, Try.ntmps35
    go_wp2_with fail
    go_ret
    exact ⟨ret_int hT.out.symm, by go_grown⟩
theorem rchecktable_any (q : Option Addr) (cap : Nat) (l : List (Int × Int × Int)) (w : World) (h1 : 1 ≤ l.length ∧ l.length ≤ 70) (ht : TabIn q l w) (hb : Hid (∀ p ∈ l, (-9223372036854775808 ≤ p.1 ∧ p.1 ≤ 9223372036854775807) ∧ (-9223372036854775808 ≤ p.2.1 ∧ p.2.1 ≤ 9223372036854775807) ∧ (-9223372036854775808 ≤ p.2.2 ∧ p.2.2 ≤ 9223372036854775807))) :
    Calls Try.prog 37 #[.slice q l.length cap] w fun e w' => e = .returned (.int .i64 (errB (tabB l))) ∧ Below w.heap.size w w' := by
  rcases ht with rfl | ⟨B, o, rfl, ht⟩
  · simp at h1
  by_cases c : l.length ≤ 64
  · refine rcheckTable_go l B o cap w ht ⟨h1.1, c⟩ hb _ (hid ?_)
    unfold tabB errB
    rw [decide_eq_true c, Bool.true_and]
  · have hT := hid (show errB (tabB l) = 2 by unfold tabB; rw [decide_eq_false c, Bool.false_and]; rfl)
    have z0 : ((l.length : Int) == 0) = false := by rw [beq_eq_false_iff_ne]; omega
    have z2 : (64 : Int) < l.length := by omega
    have d2 : decide ((64 : Int) < l.length) = true := decide_eq_true z2
    clear c
    go_enter Try.func37, Try.ntmps37
    go_wp2_with fail
    go_ret
    exact ⟨ret_int hT.out.symm, by go_grown⟩
theorem ix0 (a b c d p q : Int) (W : World) : (Instr.index 26 (.agg #[.int .i64 a, .int .i64 b, .int .i64 c, .int .i64 d, .int .i64 p, .int .i64 q]) (.int .i64 0)).run Try.prog W = .ok (.agg #[.int .i64 a, .int .i64 b]) W := by kernel_rfl
theorem ix1 (a b c d p q : Int) (W : World) : (Instr.index 26 (.agg #[.int .i64 a, .int .i64 b, .int .i64 c, .int .i64 d, .int .i64 p, .int .i64 q]) (.int .i64 1)).run Try.prog W = .ok (.agg #[.int .i64 c, .int .i64 d]) W := by kernel_rfl
theorem ix2 (a b c d p q : Int) (W : World) : (Instr.index 26 (.agg #[.int .i64 a, .int .i64 b, .int .i64 c, .int .i64 d, .int .i64 p, .int .i64 q]) (.int .i64 2)).run Try.prog W = .ok (.agg #[.int .i64 p, .int .i64 q]) W := by kernel_rfl
def dirB (d1 d2 d3 d4 d5 d6 : Int) : Bool := withinS d1 d2 (-4294967296) 4294967296 && withinS d3 d4 (-4294967296) 4294967296 && withinS d5 d6 (-4294967296) 4294967296
def dragB (l : List (Int × Int × Int)) : Bool := decide (l.length = 0) || tabB l
def arcB (T S t1 t2 f1 f2 d1 d2 d3 d4 d5 d6 p1 p2 : Int) (l : List (Int × Int × Int)) : Bool := decide (0 < T) && decide (0 < S) && leastB t1 t2 0 && leastB f1 f2 0 && leastB p1 p2 0 && dirB d1 d2 d3 d4 d5 d6 && dragB l
theorem arc_all (T S t1 t2 f1 f2 d1 d2 d3 d4 d5 d6 p1 p2 : Int) (l : List (Int × Int × Int)) : arcB T S t1 t2 f1 f2 d1 d2 d3 d4 d5 d6 p1 p2 l = (decide (0 < T) && decide (0 < S) && boxB t1 t2 f1 f2 p1 p2 && decide (0 ≤ t1) && decide (0 ≤ f1) && decide (0 ≤ p1) && withinS d1 d2 (-4294967296) 4294967296 && withinS d3 d4 (-4294967296) 4294967296 && withinS d5 d6 (-4294967296) 4294967296 && dragB l) := by
  rw [← all3]; unfold arcB leastB vldB allB dirB
  simp only [List.all_cons, List.all_nil, Bool.and_true]
  generalize decide (0 < T) = x1; generalize decide (0 < S) = x2; generalize decide (chk t1 t2 = 0) = x3; generalize decide (0 ≤ t1) = x4; generalize decide (chk f1 f2 = 0) = x5; generalize decide (0 ≤ f1) = x6; generalize decide (chk p1 p2 = 0) = x7; generalize decide (0 ≤ p1) = x8; generalize withinS d1 d2 (-4294967296) 4294967296 = x9; generalize withinS d3 d4 (-4294967296) 4294967296 = y1; generalize withinS d5 d6 (-4294967296) 4294967296 = y2; generalize dragB l = y3
  cases x1 <;> cases x2 <;> cases x3 <;> cases x4 <;> cases x5 <;> cases x6 <;> cases x7 <;> cases x8 <;> first | rfl | (cases x9 <;> cases y1 <;> cases y2 <;> cases y3 <;> rfl)
set_option maxRecDepth 100000 in
theorem checkarc_any (q : Option Addr) (cap : Nat) (T S t1 t2 f1 f2 d1 d2 d3 d4 d5 d6 p1 p2 : Int) (l : List (Int × Int × Int)) (w : World) (h : (-9223372036854775808 ≤ T ∧ T ≤ 9223372036854775807) ∧ (-9223372036854775808 ≤ S ∧ S ≤ 9223372036854775807) ∧ (-9223372036854775808 ≤ t1 ∧ t1 ≤ 9223372036854775807) ∧ (-9223372036854775808 ≤ t2 ∧ t2 ≤ 9223372036854775807) ∧ (-9223372036854775808 ≤ f1 ∧ f1 ≤ 9223372036854775807) ∧ (-9223372036854775808 ≤ f2 ∧ f2 ≤ 9223372036854775807) ∧ (-9223372036854775808 ≤ d1 ∧ d1 ≤ 9223372036854775807) ∧ (-9223372036854775808 ≤ d2 ∧ d2 ≤ 9223372036854775807) ∧ (-9223372036854775808 ≤ d3 ∧ d3 ≤ 9223372036854775807) ∧ (-9223372036854775808 ≤ d4 ∧ d4 ≤ 9223372036854775807) ∧ (-9223372036854775808 ≤ d5 ∧ d5 ≤ 9223372036854775807) ∧ (-9223372036854775808 ≤ d6 ∧ d6 ≤ 9223372036854775807) ∧ (-9223372036854775808 ≤ p1 ∧ p1 ≤ 9223372036854775807) ∧ (-9223372036854775808 ≤ p2 ∧ p2 ≤ 9223372036854775807)) (hl : l.length ≤ 70) (ht : TabIn q l w) (hb : Hid (∀ p ∈ l, (-9223372036854775808 ≤ p.1 ∧ p.1 ≤ 9223372036854775807) ∧ (-9223372036854775808 ≤ p.2.1 ∧ p.2.1 ≤ 9223372036854775807) ∧ (-9223372036854775808 ≤ p.2.2 ∧ p.2.2 ≤ 9223372036854775807))) :
    Calls Try.prog 13 #[.agg #[.int .i64 T, .int .i64 S, .int .i64 t1, .int .i64 t2, .int .i64 f1, .int .i64 f2, .int .i64 d1, .int .i64 d2, .int .i64 d3, .int .i64 d4, .int .i64 d5, .int .i64 d6, Value.slice q l.length cap, .int .i64 p1, .int .i64 p2]] w fun e w' => e = .returned (.int .i64 (errB (arcB T S t1 t2 f1 f2 d1 d2 d3 d4 d5 d6 p1 p2 l))) ∧ Below w.heap.size w w' := by
  have h3 := hid (bd3 (a := t1) (b := t2) (c := f1) (d := f2) (p := p1) (q := p2) (by omega))
  have k3 := hid (fun B cap W hs => arevalid_any B 0 cap [(t1, t2), (f1, f2), (p1, p2)] W (by simp) hs h3)
  have w1c := hid (fun W => within_any d1 d2 (-4294967296) 4294967296 W (by omega))
  have w2c := hid (fun W => within_any d3 d4 (-4294967296) 4294967296 W (by omega))
  have w3c := hid (fun W => within_any d5 d6 (-4294967296) 4294967296 W (by omega))
  have kt := hid (fun (h1 : 1 ≤ l.length) W (hW : Below w.heap.size w W) => checktable_any q cap l W ⟨h1, hl⟩ (ht.on hW) hb)
  rw [all3] at k3
  have i0 := fun W => ix0 d1 d2 d3 d4 d5 d6 W
  have i1 := fun W => ix1 d1 d2 d3 d4 d5 d6 W
  have i2 := fun W => ix2 d1 d2 d3 d4 d5 d6 W
  rw [arc_all]
  clear h3 ht hb h
  by_cases e1 : T ≤ 0
  · have hT := hid (show errB _ = 2 from congrArg errB (show (decide (0 < T) && decide (0 < S) && boxB t1 t2 f1 f2 p1 p2 && decide (0 ≤ t1) && decide (0 ≤ f1) && decide (0 ≤ p1) && withinS d1 d2 (-4294967296) 4294967296 && withinS d3 d4 (-4294967296) 4294967296 && withinS d5 d6 (-4294967296) 4294967296 && dragB l) = false by rw [decide_eq_false (show ¬ 0 < T by omega)]; simp))
    go_enter Try.func13, Try.ntmps13
    go_wp2_with fail
    go_ret
    exact ⟨ret_int hT.out.symm, by go_grown⟩
  rw [decide_eq_true (show 0 < T by omega), Bool.true_and]
  by_cases e2 : S ≤ 0
  · rw [decide_eq_false (show ¬ 0 < S by omega)]; simp only [Bool.false_and]
    go_enter Try.func13, Try.ntmps13
    go_wp2_with fail
    go_ret
    exact ⟨ret_int (by rfl), by go_grown⟩
  rw [decide_eq_true (show 0 < S by omega), Bool.true_and]
  cases e3 : boxB t1 t2 f1 f2 p1 p2
  · rw [e3] at k3; simp only [Bool.false_and]
    go_enter Try.func13, Try.ntmps13
    go_wp2_with fail
    refine useK w ((k3.out _ _ _ (spn3 _ 0 (by simp [*, go_sem]) (by simp [*, go_sem]) (by simp [*, go_sem]) (by simp [*, go_sem]) (by simp [*, go_sem]) (by simp [*, go_sem])))) (by go_grown) ?_; rintro e w1 rfl hB1 hk1 hs1
    replace p00 : w1.cell? ⟨w.heap.size, 0, none⟩ = some (.int .i64 T) := hk1 _ _ _ (by simp [go_sem])
    replace p01 : w1.cell? ⟨w.heap.size, 1, none⟩ = some (.int .i64 S) := hk1 _ _ _ (by simp [go_sem])
    replace p02 : w1.cell? ⟨w.heap.size, 2, none⟩ = some (.int .i64 t1) := hk1 _ _ _ (by simp [go_sem])
    replace p03 : w1.cell? ⟨w.heap.size, 3, none⟩ = some (.int .i64 t2) := hk1 _ _ _ (by simp [go_sem])
    replace p04 : w1.cell? ⟨w.heap.size, 4, none⟩ = some (.int .i64 f1) := hk1 _ _ _ (by simp [go_sem])
    replace p05 : w1.cell? ⟨w.heap.size, 5, none⟩ = some (.int .i64 f2) := hk1 _ _ _ (by simp [go_sem])
    replace p06 : w1.cell? ⟨w.heap.size, 6, none⟩ = some (.int .i64 d1) := hk1 _ _ _ (by simp [go_sem])
    replace p07 : w1.cell? ⟨w.heap.size, 7, none⟩ = some (.int .i64 d2) := hk1 _ _ _ (by simp [go_sem])
    replace p08 : w1.cell? ⟨w.heap.size, 8, none⟩ = some (.int .i64 d3) := hk1 _ _ _ (by simp [go_sem])
    replace p09 : w1.cell? ⟨w.heap.size, 9, none⟩ = some (.int .i64 d4) := hk1 _ _ _ (by simp [go_sem])
    replace p010 : w1.cell? ⟨w.heap.size, 10, none⟩ = some (.int .i64 d5) := hk1 _ _ _ (by simp [go_sem])
    replace p011 : w1.cell? ⟨w.heap.size, 11, none⟩ = some (.int .i64 d6) := hk1 _ _ _ (by simp [go_sem])
    replace p012 : w1.cell? ⟨w.heap.size, 12, none⟩ = some (Value.slice q l.length cap) := hk1 _ _ _ (by simp [go_sem])
    replace p013 : w1.cell? ⟨w.heap.size, 13, none⟩ = some (.int .i64 p1) := hk1 _ _ _ (by simp [go_sem])
    replace p014 : w1.cell? ⟨w.heap.size, 14, none⟩ = some (.int .i64 p2) := hk1 _ _ _ (by simp [go_sem])
    have bp00 : w.heap.size < w1.heap.size := World.block_lt_of_cell? w1 ⟨w.heap.size, 0, none⟩ p00
    clear hk1
    go_wp2_with fail
    have bp00 := World.block_lt_of_cell? _ _ p00
    dsimp only at bp00
    go_ret
    exact ⟨ret_int (by rfl), by go_grown⟩
  rw [e3] at k3; rw [Bool.true_and]
  by_cases e4 : t1 < 0
  · rw [decide_eq_false (show ¬ 0 ≤ t1 by omega)]; simp only [Bool.false_and]
    go_enter Try.func13, Try.ntmps13
    go_wp2_with fail
    refine useK w ((k3.out _ _ _ (spn3 _ 0 (by simp [*, go_sem]) (by simp [*, go_sem]) (by simp [*, go_sem]) (by simp [*, go_sem]) (by simp [*, go_sem]) (by simp [*, go_sem])))) (by go_grown) ?_; rintro e w1 rfl hB1 hk1 hs1
    replace p00 : w1.cell? ⟨w.heap.size, 0, none⟩ = some (.int .i64 T) := hk1 _ _ _ (by simp [go_sem])
    replace p01 : w1.cell? ⟨w.heap.size, 1, none⟩ = some (.int .i64 S) := hk1 _ _ _ (by simp [go_sem])
    replace p02 : w1.cell? ⟨w.heap.size, 2, none⟩ = some (.int .i64 t1) := hk1 _ _ _ (by simp [go_sem])
    replace p03 : w1.cell? ⟨w.heap.size, 3, none⟩ = some (.int .i64 t2) := hk1 _ _ _ (by simp [go_sem])
    replace p04 : w1.cell? ⟨w.heap.size, 4, none⟩ = some (.int .i64 f1) := hk1 _ _ _ (by simp [go_sem])
    replace p05 : w1.cell? ⟨w.heap.size, 5, none⟩ = some (.int .i64 f2) := hk1 _ _ _ (by simp [go_sem])
    replace p06 : w1.cell? ⟨w.heap.size, 6, none⟩ = some (.int .i64 d1) := hk1 _ _ _ (by simp [go_sem])
    replace p07 : w1.cell? ⟨w.heap.size, 7, none⟩ = some (.int .i64 d2) := hk1 _ _ _ (by simp [go_sem])
    replace p08 : w1.cell? ⟨w.heap.size, 8, none⟩ = some (.int .i64 d3) := hk1 _ _ _ (by simp [go_sem])
    replace p09 : w1.cell? ⟨w.heap.size, 9, none⟩ = some (.int .i64 d4) := hk1 _ _ _ (by simp [go_sem])
    replace p010 : w1.cell? ⟨w.heap.size, 10, none⟩ = some (.int .i64 d5) := hk1 _ _ _ (by simp [go_sem])
    replace p011 : w1.cell? ⟨w.heap.size, 11, none⟩ = some (.int .i64 d6) := hk1 _ _ _ (by simp [go_sem])
    replace p012 : w1.cell? ⟨w.heap.size, 12, none⟩ = some (Value.slice q l.length cap) := hk1 _ _ _ (by simp [go_sem])
    replace p013 : w1.cell? ⟨w.heap.size, 13, none⟩ = some (.int .i64 p1) := hk1 _ _ _ (by simp [go_sem])
    replace p014 : w1.cell? ⟨w.heap.size, 14, none⟩ = some (.int .i64 p2) := hk1 _ _ _ (by simp [go_sem])
    have bp00 : w.heap.size < w1.heap.size := World.block_lt_of_cell? w1 ⟨w.heap.size, 0, none⟩ p00
    clear hk1
    go_wp2_with fail
    have bp00 := World.block_lt_of_cell? _ _ p00
    dsimp only at bp00
    go_ret
    exact ⟨ret_int (by rfl), by go_grown⟩
  rw [decide_eq_true (show 0 ≤ t1 by omega)]; (try rw [Bool.true_and])
  by_cases e5 : f1 < 0
  · rw [decide_eq_false (show ¬ 0 ≤ f1 by omega)]; simp only [Bool.false_and]
    go_enter Try.func13, Try.ntmps13
    go_wp2_with fail
    refine useK w ((k3.out _ _ _ (spn3 _ 0 (by simp [*, go_sem]) (by simp [*, go_sem]) (by simp [*, go_sem]) (by simp [*, go_sem]) (by simp [*, go_sem]) (by simp [*, go_sem])))) (by go_grown) ?_; rintro e w1 rfl hB1 hk1 hs1
    replace p00 : w1.cell? ⟨w.heap.size, 0, none⟩ = some (.int .i64 T) := hk1 _ _ _ (by simp [go_sem])
    replace p01 : w1.cell? ⟨w.heap.size, 1, none⟩ = some (.int .i64 S) := hk1 _ _ _ (by simp [go_sem])
    replace p02 : w1.cell? ⟨w.heap.size, 2, none⟩ = some (.int .i64 t1) := hk1 _ _ _ (by simp [go_sem])
    replace p03 : w1.cell? ⟨w.heap.size, 3, none⟩ = some (.int .i64 t2) := hk1 _ _ _ (by simp [go_sem])
    replace p04 : w1.cell? ⟨w.heap.size, 4, none⟩ = some (.int .i64 f1) := hk1 _ _ _ (by simp [go_sem])
    replace p05 : w1.cell? ⟨w.heap.size, 5, none⟩ = some (.int .i64 f2) := hk1 _ _ _ (by simp [go_sem])
    replace p06 : w1.cell? ⟨w.heap.size, 6, none⟩ = some (.int .i64 d1) := hk1 _ _ _ (by simp [go_sem])
    replace p07 : w1.cell? ⟨w.heap.size, 7, none⟩ = some (.int .i64 d2) := hk1 _ _ _ (by simp [go_sem])
    replace p08 : w1.cell? ⟨w.heap.size, 8, none⟩ = some (.int .i64 d3) := hk1 _ _ _ (by simp [go_sem])
    replace p09 : w1.cell? ⟨w.heap.size, 9, none⟩ = some (.int .i64 d4) := hk1 _ _ _ (by simp [go_sem])
    replace p010 : w1.cell? ⟨w.heap.size, 10, none⟩ = some (.int .i64 d5) := hk1 _ _ _ (by simp [go_sem])
    replace p011 : w1.cell? ⟨w.heap.size, 11, none⟩ = some (.int .i64 d6) := hk1 _ _ _ (by simp [go_sem])
    replace p012 : w1.cell? ⟨w.heap.size, 12, none⟩ = some (Value.slice q l.length cap) := hk1 _ _ _ (by simp [go_sem])
    replace p013 : w1.cell? ⟨w.heap.size, 13, none⟩ = some (.int .i64 p1) := hk1 _ _ _ (by simp [go_sem])
    replace p014 : w1.cell? ⟨w.heap.size, 14, none⟩ = some (.int .i64 p2) := hk1 _ _ _ (by simp [go_sem])
    have bp00 : w.heap.size < w1.heap.size := World.block_lt_of_cell? w1 ⟨w.heap.size, 0, none⟩ p00
    clear hk1
    go_wp2_with fail
    have bp00 := World.block_lt_of_cell? _ _ p00
    dsimp only at bp00
    go_ret
    exact ⟨ret_int (by rfl), by go_grown⟩
  rw [decide_eq_true (show 0 ≤ f1 by omega)]; (try rw [Bool.true_and])
  by_cases e6 : p1 < 0
  · rw [decide_eq_false (show ¬ 0 ≤ p1 by omega)]; simp only [Bool.false_and]
    go_enter Try.func13, Try.ntmps13
    go_wp2_with fail
    refine useK w ((k3.out _ _ _ (spn3 _ 0 (by simp [*, go_sem]) (by simp [*, go_sem]) (by simp [*, go_sem]) (by simp [*, go_sem]) (by simp [*, go_sem]) (by simp [*, go_sem])))) (by go_grown) ?_; rintro e w1 rfl hB1 hk1 hs1
    replace p00 : w1.cell? ⟨w.heap.size, 0, none⟩ = some (.int .i64 T) := hk1 _ _ _ (by simp [go_sem])
    replace p01 : w1.cell? ⟨w.heap.size, 1, none⟩ = some (.int .i64 S) := hk1 _ _ _ (by simp [go_sem])
    replace p02 : w1.cell? ⟨w.heap.size, 2, none⟩ = some (.int .i64 t1) := hk1 _ _ _ (by simp [go_sem])
    replace p03 : w1.cell? ⟨w.heap.size, 3, none⟩ = some (.int .i64 t2) := hk1 _ _ _ (by simp [go_sem])
    replace p04 : w1.cell? ⟨w.heap.size, 4, none⟩ = some (.int .i64 f1) := hk1 _ _ _ (by simp [go_sem])
    replace p05 : w1.cell? ⟨w.heap.size, 5, none⟩ = some (.int .i64 f2) := hk1 _ _ _ (by simp [go_sem])
    replace p06 : w1.cell? ⟨w.heap.size, 6, none⟩ = some (.int .i64 d1) := hk1 _ _ _ (by simp [go_sem])
    replace p07 : w1.cell? ⟨w.heap.size, 7, none⟩ = some (.int .i64 d2) := hk1 _ _ _ (by simp [go_sem])
    replace p08 : w1.cell? ⟨w.heap.size, 8, none⟩ = some (.int .i64 d3) := hk1 _ _ _ (by simp [go_sem])
    replace p09 : w1.cell? ⟨w.heap.size, 9, none⟩ = some (.int .i64 d4) := hk1 _ _ _ (by simp [go_sem])
    replace p010 : w1.cell? ⟨w.heap.size, 10, none⟩ = some (.int .i64 d5) := hk1 _ _ _ (by simp [go_sem])
    replace p011 : w1.cell? ⟨w.heap.size, 11, none⟩ = some (.int .i64 d6) := hk1 _ _ _ (by simp [go_sem])
    replace p012 : w1.cell? ⟨w.heap.size, 12, none⟩ = some (Value.slice q l.length cap) := hk1 _ _ _ (by simp [go_sem])
    replace p013 : w1.cell? ⟨w.heap.size, 13, none⟩ = some (.int .i64 p1) := hk1 _ _ _ (by simp [go_sem])
    replace p014 : w1.cell? ⟨w.heap.size, 14, none⟩ = some (.int .i64 p2) := hk1 _ _ _ (by simp [go_sem])
    have bp00 : w.heap.size < w1.heap.size := World.block_lt_of_cell? w1 ⟨w.heap.size, 0, none⟩ p00
    clear hk1
    go_wp2_with fail
    have bp00 := World.block_lt_of_cell? _ _ p00
    dsimp only at bp00
    go_ret
    exact ⟨ret_int (by rfl), by go_grown⟩
  rw [decide_eq_true (show 0 ≤ p1 by omega)]; (try rw [Bool.true_and])
  cases g1 : withinS d1 d2 (-4294967296) 4294967296
  · rw [g1] at w1c; simp only [Bool.false_and, Bool.and_false]
    go_enter Try.func13, Try.ntmps13
    go_wp2_with fail
    refine useK w ((k3.out _ _ _ (spn3 _ 0 (by simp [*, go_sem]) (by simp [*, go_sem]) (by simp [*, go_sem]) (by simp [*, go_sem]) (by simp [*, go_sem]) (by simp [*, go_sem])))) (by go_grown) ?_; rintro e w1 rfl hB1 hk1 hs1
    replace p00 : w1.cell? ⟨w.heap.size, 0, none⟩ = some (.int .i64 T) := hk1 _ _ _ (by simp [go_sem])
    replace p01 : w1.cell? ⟨w.heap.size, 1, none⟩ = some (.int .i64 S) := hk1 _ _ _ (by simp [go_sem])
    replace p02 : w1.cell? ⟨w.heap.size, 2, none⟩ = some (.int .i64 t1) := hk1 _ _ _ (by simp [go_sem])
    replace p03 : w1.cell? ⟨w.heap.size, 3, none⟩ = some (.int .i64 t2) := hk1 _ _ _ (by simp [go_sem])
    replace p04 : w1.cell? ⟨w.heap.size, 4, none⟩ = some (.int .i64 f1) := hk1 _ _ _ (by simp [go_sem])
    replace p05 : w1.cell? ⟨w.heap.size, 5, none⟩ = some (.int .i64 f2) := hk1 _ _ _ (by simp [go_sem])
    replace p06 : w1.cell? ⟨w.heap.size, 6, none⟩ = some (.int .i64 d1) := hk1 _ _ _ (by simp [go_sem])
    replace p07 : w1.cell? ⟨w.heap.size, 7, none⟩ = some (.int .i64 d2) := hk1 _ _ _ (by simp [go_sem])
    replace p08 : w1.cell? ⟨w.heap.size, 8, none⟩ = some (.int .i64 d3) := hk1 _ _ _ (by simp [go_sem])
    replace p09 : w1.cell? ⟨w.heap.size, 9, none⟩ = some (.int .i64 d4) := hk1 _ _ _ (by simp [go_sem])
    replace p010 : w1.cell? ⟨w.heap.size, 10, none⟩ = some (.int .i64 d5) := hk1 _ _ _ (by simp [go_sem])
    replace p011 : w1.cell? ⟨w.heap.size, 11, none⟩ = some (.int .i64 d6) := hk1 _ _ _ (by simp [go_sem])
    replace p012 : w1.cell? ⟨w.heap.size, 12, none⟩ = some (Value.slice q l.length cap) := hk1 _ _ _ (by simp [go_sem])
    replace p013 : w1.cell? ⟨w.heap.size, 13, none⟩ = some (.int .i64 p1) := hk1 _ _ _ (by simp [go_sem])
    replace p014 : w1.cell? ⟨w.heap.size, 14, none⟩ = some (.int .i64 p2) := hk1 _ _ _ (by simp [go_sem])
    have bp00 : w.heap.size < w1.heap.size := World.block_lt_of_cell? w1 ⟨w.heap.size, 0, none⟩ p00
    clear hk1
    go_wp2_with fail
    have bp00 := World.block_lt_of_cell? _ _ p00
    dsimp only at bp00
    refine wp_loop_rounds 4 ?_
    rw [rounds_succ]
    go_wp2_with fail
    refine useK w (w1c.out _) (by go_grown) ?_; rintro e w11 rfl hB11 hk11 hs11
    replace p00 := hk11 _ _ _ ((keepA _ p00)); replace p01 := hk11 _ _ _ ((keepA _ p01)); replace p02 := hk11 _ _ _ ((keepA _ p02)); replace p03 := hk11 _ _ _ ((keepA _ p03)); replace p04 := hk11 _ _ _ ((keepA _ p04)); replace p05 := hk11 _ _ _ ((keepA _ p05)); replace p06 := hk11 _ _ _ ((keepA _ p06)); replace p07 := hk11 _ _ _ ((keepA _ p07)); replace p08 := hk11 _ _ _ ((keepA _ p08)); replace p09 := hk11 _ _ _ ((keepA _ p09)); replace p010 := hk11 _ _ _ ((keepA _ p010)); replace p011 := hk11 _ _ _ ((keepA _ p011)); replace p012 := hk11 _ _ _ ((keepA _ p012)); replace p013 := hk11 _ _ _ ((keepA _ p013)); replace p014 := hk11 _ _ _ ((keepA _ p014))
    clear hk11 bp00
    have bp00 := World.block_lt_of_cell? _ _ p00
    dsimp only at bp00
    go_wp2_with fail
    go_ret
    exact ⟨ret_int (by rfl), by go_grown⟩
  rw [g1] at w1c; (try rw [Bool.true_and])
  cases g2 : withinS d3 d4 (-4294967296) 4294967296
  · rw [g2] at w2c; simp only [Bool.false_and, Bool.and_false]
    go_enter Try.func13, Try.ntmps13
    go_wp2_with fail
    refine useK w ((k3.out _ _ _ (spn3 _ 0 (by simp [*, go_sem]) (by simp [*, go_sem]) (by simp [*, go_sem]) (by simp [*, go_sem]) (by simp [*, go_sem]) (by simp [*, go_sem])))) (by go_grown) ?_; rintro e w1 rfl hB1 hk1 hs1
    replace p00 : w1.cell? ⟨w.heap.size, 0, none⟩ = some (.int .i64 T) := hk1 _ _ _ (by simp [go_sem])
    replace p01 : w1.cell? ⟨w.heap.size, 1, none⟩ = some (.int .i64 S) := hk1 _ _ _ (by simp [go_sem])
    replace p02 : w1.cell? ⟨w.heap.size, 2, none⟩ = some (.int .i64 t1) := hk1 _ _ _ (by simp [go_sem])
    replace p03 : w1.cell? ⟨w.heap.size, 3, none⟩ = some (.int .i64 t2) := hk1 _ _ _ (by simp [go_sem])
    replace p04 : w1.cell? ⟨w.heap.size, 4, none⟩ = some (.int .i64 f1) := hk1 _ _ _ (by simp [go_sem])
    replace p05 : w1.cell? ⟨w.heap.size, 5, none⟩ = some (.int .i64 f2) := hk1 _ _ _ (by simp [go_sem])
    replace p06 : w1.cell? ⟨w.heap.size, 6, none⟩ = some (.int .i64 d1) := hk1 _ _ _ (by simp [go_sem])
    replace p07 : w1.cell? ⟨w.heap.size, 7, none⟩ = some (.int .i64 d2) := hk1 _ _ _ (by simp [go_sem])
    replace p08 : w1.cell? ⟨w.heap.size, 8, none⟩ = some (.int .i64 d3) := hk1 _ _ _ (by simp [go_sem])
    replace p09 : w1.cell? ⟨w.heap.size, 9, none⟩ = some (.int .i64 d4) := hk1 _ _ _ (by simp [go_sem])
    replace p010 : w1.cell? ⟨w.heap.size, 10, none⟩ = some (.int .i64 d5) := hk1 _ _ _ (by simp [go_sem])
    replace p011 : w1.cell? ⟨w.heap.size, 11, none⟩ = some (.int .i64 d6) := hk1 _ _ _ (by simp [go_sem])
    replace p012 : w1.cell? ⟨w.heap.size, 12, none⟩ = some (Value.slice q l.length cap) := hk1 _ _ _ (by simp [go_sem])
    replace p013 : w1.cell? ⟨w.heap.size, 13, none⟩ = some (.int .i64 p1) := hk1 _ _ _ (by simp [go_sem])
    replace p014 : w1.cell? ⟨w.heap.size, 14, none⟩ = some (.int .i64 p2) := hk1 _ _ _ (by simp [go_sem])
    have bp00 : w.heap.size < w1.heap.size := World.block_lt_of_cell? w1 ⟨w.heap.size, 0, none⟩ p00
    clear hk1
    go_wp2_with fail
    have bp00 := World.block_lt_of_cell? _ _ p00
    dsimp only at bp00
    refine wp_loop_rounds 4 ?_
    rw [rounds_succ]
    go_wp2_with fail
    refine useK w (w1c.out _) (by go_grown) ?_; rintro e w11 rfl hB11 hk11 hs11
    replace p00 := hk11 _ _ _ ((keepA _ p00)); replace p01 := hk11 _ _ _ ((keepA _ p01)); replace p02 := hk11 _ _ _ ((keepA _ p02)); replace p03 := hk11 _ _ _ ((keepA _ p03)); replace p04 := hk11 _ _ _ ((keepA _ p04)); replace p05 := hk11 _ _ _ ((keepA _ p05)); replace p06 := hk11 _ _ _ ((keepA _ p06)); replace p07 := hk11 _ _ _ ((keepA _ p07)); replace p08 := hk11 _ _ _ ((keepA _ p08)); replace p09 := hk11 _ _ _ ((keepA _ p09)); replace p010 := hk11 _ _ _ ((keepA _ p010)); replace p011 := hk11 _ _ _ ((keepA _ p011)); replace p012 := hk11 _ _ _ ((keepA _ p012)); replace p013 := hk11 _ _ _ ((keepA _ p013)); replace p014 := hk11 _ _ _ ((keepA _ p014))
    clear hk11 bp00
    have bp00 := World.block_lt_of_cell? _ _ p00
    dsimp only at bp00
    go_wp2_with fail
    rw [rounds_succ]
    go_wp2_with fail
    refine useK w (w2c.out _) (by go_grown) ?_; rintro e w12 rfl hB12 hk12 hs12
    replace p00 := hk12 _ _ _ ((keepA _ p00)); replace p01 := hk12 _ _ _ ((keepA _ p01)); replace p02 := hk12 _ _ _ ((keepA _ p02)); replace p03 := hk12 _ _ _ ((keepA _ p03)); replace p04 := hk12 _ _ _ ((keepA _ p04)); replace p05 := hk12 _ _ _ ((keepA _ p05)); replace p06 := hk12 _ _ _ ((keepA _ p06)); replace p07 := hk12 _ _ _ ((keepA _ p07)); replace p08 := hk12 _ _ _ ((keepA _ p08)); replace p09 := hk12 _ _ _ ((keepA _ p09)); replace p010 := hk12 _ _ _ ((keepA _ p010)); replace p011 := hk12 _ _ _ ((keepA _ p011)); replace p012 := hk12 _ _ _ ((keepA _ p012)); replace p013 := hk12 _ _ _ ((keepA _ p013)); replace p014 := hk12 _ _ _ ((keepA _ p014))
    clear hk12 bp00
    have bp00 := World.block_lt_of_cell? _ _ p00
    dsimp only at bp00
    go_wp2_with fail
    go_ret
    exact ⟨ret_int (by rfl), by go_grown⟩
  rw [g2] at w2c; (try rw [Bool.true_and])
  cases g3 : withinS d5 d6 (-4294967296) 4294967296
  · rw [g3] at w3c; simp only [Bool.false_and, Bool.and_false]
    go_enter Try.func13, Try.ntmps13
    go_wp2_with fail
    refine useK w ((k3.out _ _ _ (spn3 _ 0 (by simp [*, go_sem]) (by simp [*, go_sem]) (by simp [*, go_sem]) (by simp [*, go_sem]) (by simp [*, go_sem]) (by simp [*, go_sem])))) (by go_grown) ?_; rintro e w1 rfl hB1 hk1 hs1
    replace p00 : w1.cell? ⟨w.heap.size, 0, none⟩ = some (.int .i64 T) := hk1 _ _ _ (by simp [go_sem])
    replace p01 : w1.cell? ⟨w.heap.size, 1, none⟩ = some (.int .i64 S) := hk1 _ _ _ (by simp [go_sem])
    replace p02 : w1.cell? ⟨w.heap.size, 2, none⟩ = some (.int .i64 t1) := hk1 _ _ _ (by simp [go_sem])
    replace p03 : w1.cell? ⟨w.heap.size, 3, none⟩ = some (.int .i64 t2) := hk1 _ _ _ (by simp [go_sem])
    replace p04 : w1.cell? ⟨w.heap.size, 4, none⟩ = some (.int .i64 f1) := hk1 _ _ _ (by simp [go_sem])
    replace p05 : w1.cell? ⟨w.heap.size, 5, none⟩ = some (.int .i64 f2) := hk1 _ _ _ (by simp [go_sem])
    replace p06 : w1.cell? ⟨w.heap.size, 6, none⟩ = some (.int .i64 d1) := hk1 _ _ _ (by simp [go_sem])
    replace p07 : w1.cell? ⟨w.heap.size, 7, none⟩ = some (.int .i64 d2) := hk1 _ _ _ (by simp [go_sem])
    replace p08 : w1.cell? ⟨w.heap.size, 8, none⟩ = some (.int .i64 d3) := hk1 _ _ _ (by simp [go_sem])
    replace p09 : w1.cell? ⟨w.heap.size, 9, none⟩ = some (.int .i64 d4) := hk1 _ _ _ (by simp [go_sem])
    replace p010 : w1.cell? ⟨w.heap.size, 10, none⟩ = some (.int .i64 d5) := hk1 _ _ _ (by simp [go_sem])
    replace p011 : w1.cell? ⟨w.heap.size, 11, none⟩ = some (.int .i64 d6) := hk1 _ _ _ (by simp [go_sem])
    replace p012 : w1.cell? ⟨w.heap.size, 12, none⟩ = some (Value.slice q l.length cap) := hk1 _ _ _ (by simp [go_sem])
    replace p013 : w1.cell? ⟨w.heap.size, 13, none⟩ = some (.int .i64 p1) := hk1 _ _ _ (by simp [go_sem])
    replace p014 : w1.cell? ⟨w.heap.size, 14, none⟩ = some (.int .i64 p2) := hk1 _ _ _ (by simp [go_sem])
    have bp00 : w.heap.size < w1.heap.size := World.block_lt_of_cell? w1 ⟨w.heap.size, 0, none⟩ p00
    clear hk1
    go_wp2_with fail
    have bp00 := World.block_lt_of_cell? _ _ p00
    dsimp only at bp00
    refine wp_loop_rounds 4 ?_
    rw [rounds_succ]
    go_wp2_with fail
    refine useK w (w1c.out _) (by go_grown) ?_; rintro e w11 rfl hB11 hk11 hs11
    replace p00 := hk11 _ _ _ ((keepA _ p00)); replace p01 := hk11 _ _ _ ((keepA _ p01)); replace p02 := hk11 _ _ _ ((keepA _ p02)); replace p03 := hk11 _ _ _ ((keepA _ p03)); replace p04 := hk11 _ _ _ ((keepA _ p04)); replace p05 := hk11 _ _ _ ((keepA _ p05)); replace p06 := hk11 _ _ _ ((keepA _ p06)); replace p07 := hk11 _ _ _ ((keepA _ p07)); replace p08 := hk11 _ _ _ ((keepA _ p08)); replace p09 := hk11 _ _ _ ((keepA _ p09)); replace p010 := hk11 _ _ _ ((keepA _ p010)); replace p011 := hk11 _ _ _ ((keepA _ p011)); replace p012 := hk11 _ _ _ ((keepA _ p012)); replace p013 := hk11 _ _ _ ((keepA _ p013)); replace p014 := hk11 _ _ _ ((keepA _ p014))
    clear hk11 bp00
    have bp00 := World.block_lt_of_cell? _ _ p00
    dsimp only at bp00
    go_wp2_with fail
    rw [rounds_succ]
    go_wp2_with fail
    refine useK w (w2c.out _) (by go_grown) ?_; rintro e w12 rfl hB12 hk12 hs12
    replace p00 := hk12 _ _ _ ((keepA _ p00)); replace p01 := hk12 _ _ _ ((keepA _ p01)); replace p02 := hk12 _ _ _ ((keepA _ p02)); replace p03 := hk12 _ _ _ ((keepA _ p03)); replace p04 := hk12 _ _ _ ((keepA _ p04)); replace p05 := hk12 _ _ _ ((keepA _ p05)); replace p06 := hk12 _ _ _ ((keepA _ p06)); replace p07 := hk12 _ _ _ ((keepA _ p07)); replace p08 := hk12 _ _ _ ((keepA _ p08)); replace p09 := hk12 _ _ _ ((keepA _ p09)); replace p010 := hk12 _ _ _ ((keepA _ p010)); replace p011 := hk12 _ _ _ ((keepA _ p011)); replace p012 := hk12 _ _ _ ((keepA _ p012)); replace p013 := hk12 _ _ _ ((keepA _ p013)); replace p014 := hk12 _ _ _ ((keepA _ p014))
    clear hk12 bp00
    have bp00 := World.block_lt_of_cell? _ _ p00
    dsimp only at bp00
    go_wp2_with fail
    rw [rounds_succ]
    go_wp2_with fail
    refine useK w (w3c.out _) (by go_grown) ?_; rintro e w13 rfl hB13 hk13 hs13
    replace p00 := hk13 _ _ _ ((keepA _ p00)); replace p01 := hk13 _ _ _ ((keepA _ p01)); replace p02 := hk13 _ _ _ ((keepA _ p02)); replace p03 := hk13 _ _ _ ((keepA _ p03)); replace p04 := hk13 _ _ _ ((keepA _ p04)); replace p05 := hk13 _ _ _ ((keepA _ p05)); replace p06 := hk13 _ _ _ ((keepA _ p06)); replace p07 := hk13 _ _ _ ((keepA _ p07)); replace p08 := hk13 _ _ _ ((keepA _ p08)); replace p09 := hk13 _ _ _ ((keepA _ p09)); replace p010 := hk13 _ _ _ ((keepA _ p010)); replace p011 := hk13 _ _ _ ((keepA _ p011)); replace p012 := hk13 _ _ _ ((keepA _ p012)); replace p013 := hk13 _ _ _ ((keepA _ p013)); replace p014 := hk13 _ _ _ ((keepA _ p014))
    clear hk13 bp00
    have bp00 := World.block_lt_of_cell? _ _ p00
    dsimp only at bp00
    go_wp2_with fail
    go_ret
    exact ⟨ret_int (by rfl), by go_grown⟩
  rw [g3] at w3c; (try rw [Bool.true_and])
  by_cases g4 : l.length = 0
  · have hT := hid (show errB (true && dragB l) = 0 by unfold dragB; rw [decide_eq_true g4]; rfl)
    have z1 : ¬ (0 : Int) < l.length := by omega
    clear g4 kt
    go_enter Try.func13, Try.ntmps13
    go_wp2_with fail
    refine useK w ((k3.out _ _ _ (spn3 _ 0 (by simp [*, go_sem]) (by simp [*, go_sem]) (by simp [*, go_sem]) (by simp [*, go_sem]) (by simp [*, go_sem]) (by simp [*, go_sem])))) (by go_grown) ?_; rintro e w1 rfl hB1 hk1 hs1
    replace p00 : w1.cell? ⟨w.heap.size, 0, none⟩ = some (.int .i64 T) := hk1 _ _ _ (by simp [go_sem])
    replace p01 : w1.cell? ⟨w.heap.size, 1, none⟩ = some (.int .i64 S) := hk1 _ _ _ (by simp [go_sem])
    replace p02 : w1.cell? ⟨w.heap.size, 2, none⟩ = some (.int .i64 t1) := hk1 _ _ _ (by simp [go_sem])
    replace p03 : w1.cell? ⟨w.heap.size, 3, none⟩ = some (.int .i64 t2) := hk1 _ _ _ (by simp [go_sem])
    replace p04 : w1.cell? ⟨w.heap.size, 4, none⟩ = some (.int .i64 f1) := hk1 _ _ _ (by simp [go_sem])
    replace p05 : w1.cell? ⟨w.heap.size, 5, none⟩ = some (.int .i64 f2) := hk1 _ _ _ (by simp [go_sem])
    replace p06 : w1.cell? ⟨w.heap.size, 6, none⟩ = some (.int .i64 d1) := hk1 _ _ _ (by simp [go_sem])
    replace p07 : w1.cell? ⟨w.heap.size, 7, none⟩ = some (.int .i64 d2) := hk1 _ _ _ (by simp [go_sem])
    replace p08 : w1.cell? ⟨w.heap.size, 8, none⟩ = some (.int .i64 d3) := hk1 _ _ _ (by simp [go_sem])
    replace p09 : w1.cell? ⟨w.heap.size, 9, none⟩ = some (.int .i64 d4) := hk1 _ _ _ (by simp [go_sem])
    replace p010 : w1.cell? ⟨w.heap.size, 10, none⟩ = some (.int .i64 d5) := hk1 _ _ _ (by simp [go_sem])
    replace p011 : w1.cell? ⟨w.heap.size, 11, none⟩ = some (.int .i64 d6) := hk1 _ _ _ (by simp [go_sem])
    replace p012 : w1.cell? ⟨w.heap.size, 12, none⟩ = some (Value.slice q l.length cap) := hk1 _ _ _ (by simp [go_sem])
    replace p013 : w1.cell? ⟨w.heap.size, 13, none⟩ = some (.int .i64 p1) := hk1 _ _ _ (by simp [go_sem])
    replace p014 : w1.cell? ⟨w.heap.size, 14, none⟩ = some (.int .i64 p2) := hk1 _ _ _ (by simp [go_sem])
    have bp00 : w.heap.size < w1.heap.size := World.block_lt_of_cell? w1 ⟨w.heap.size, 0, none⟩ p00
    clear hk1
    go_wp2_with fail
    have bp00 := World.block_lt_of_cell? _ _ p00
    dsimp only at bp00
    refine wp_loop_rounds 4 ?_
    rw [rounds_succ]
    go_wp2_with fail
    refine useK w (w1c.out _) (by go_grown) ?_; rintro e w11 rfl hB11 hk11 hs11
    replace p00 := hk11 _ _ _ ((keepA _ p00)); replace p01 := hk11 _ _ _ ((keepA _ p01)); replace p02 := hk11 _ _ _ ((keepA _ p02)); replace p03 := hk11 _ _ _ ((keepA _ p03)); replace p04 := hk11 _ _ _ ((keepA _ p04)); replace p05 := hk11 _ _ _ ((keepA _ p05)); replace p06 := hk11 _ _ _ ((keepA _ p06)); replace p07 := hk11 _ _ _ ((keepA _ p07)); replace p08 := hk11 _ _ _ ((keepA _ p08)); replace p09 := hk11 _ _ _ ((keepA _ p09)); replace p010 := hk11 _ _ _ ((keepA _ p010)); replace p011 := hk11 _ _ _ ((keepA _ p011)); replace p012 := hk11 _ _ _ ((keepA _ p012)); replace p013 := hk11 _ _ _ ((keepA _ p013)); replace p014 := hk11 _ _ _ ((keepA _ p014))
    clear hk11 bp00
    have bp00 := World.block_lt_of_cell? _ _ p00
    dsimp only at bp00
    go_wp2_with fail
    rw [rounds_succ]
    go_wp2_with fail
    refine useK w (w2c.out _) (by go_grown) ?_; rintro e w12 rfl hB12 hk12 hs12
    replace p00 := hk12 _ _ _ ((keepA _ p00)); replace p01 := hk12 _ _ _ ((keepA _ p01)); replace p02 := hk12 _ _ _ ((keepA _ p02)); replace p03 := hk12 _ _ _ ((keepA _ p03)); replace p04 := hk12 _ _ _ ((keepA _ p04)); replace p05 := hk12 _ _ _ ((keepA _ p05)); replace p06 := hk12 _ _ _ ((keepA _ p06)); replace p07 := hk12 _ _ _ ((keepA _ p07)); replace p08 := hk12 _ _ _ ((keepA _ p08)); replace p09 := hk12 _ _ _ ((keepA _ p09)); replace p010 := hk12 _ _ _ ((keepA _ p010)); replace p011 := hk12 _ _ _ ((keepA _ p011)); replace p012 := hk12 _ _ _ ((keepA _ p012)); replace p013 := hk12 _ _ _ ((keepA _ p013)); replace p014 := hk12 _ _ _ ((keepA _ p014))
    clear hk12 bp00
    have bp00 := World.block_lt_of_cell? _ _ p00
    dsimp only at bp00
    go_wp2_with fail
    rw [rounds_succ]
    go_wp2_with fail
    refine useK w (w3c.out _) (by go_grown) ?_; rintro e w13 rfl hB13 hk13 hs13
    replace p00 := hk13 _ _ _ ((keepA _ p00)); replace p01 := hk13 _ _ _ ((keepA _ p01)); replace p02 := hk13 _ _ _ ((keepA _ p02)); replace p03 := hk13 _ _ _ ((keepA _ p03)); replace p04 := hk13 _ _ _ ((keepA _ p04)); replace p05 := hk13 _ _ _ ((keepA _ p05)); replace p06 := hk13 _ _ _ ((keepA _ p06)); replace p07 := hk13 _ _ _ ((keepA _ p07)); replace p08 := hk13 _ _ _ ((keepA _ p08)); replace p09 := hk13 _ _ _ ((keepA _ p09)); replace p010 := hk13 _ _ _ ((keepA _ p010)); replace p011 := hk13 _ _ _ ((keepA _ p011)); replace p012 := hk13 _ _ _ ((keepA _ p012)); replace p013 := hk13 _ _ _ ((keepA _ p013)); replace p014 := hk13 _ _ _ ((keepA _ p014))
    clear hk13 bp00
    have bp00 := World.block_lt_of_cell? _ _ p00
    dsimp only at bp00
    go_wp2_with fail
    rw [rounds_succ]
    go_wp2_with fail
    go_ret
    exact ⟨ret_int (by first | exact hT.out.symm | (have := hT.out; rw [Bool.true_and] at this; exact this.symm)), by go_grown⟩
  have hT := hid (show errB (true && dragB l) = errB (tabB l) by rw [Bool.true_and]; unfold dragB; rw [decide_eq_false g4, Bool.false_or])
  have z1 : (0 : Int) < l.length := by omega
  replace kt := hid (kt.out (by omega))
  clear g4
  go_enter Try.func13, Try.ntmps13
  go_wp2_with fail
  refine useK w ((k3.out _ _ _ (spn3 _ 0 (by simp [*, go_sem]) (by simp [*, go_sem]) (by simp [*, go_sem]) (by simp [*, go_sem]) (by simp [*, go_sem]) (by simp [*, go_sem])))) (by go_grown) ?_; rintro e w1 rfl hB1 hk1 hs1
  replace p00 : w1.cell? ⟨w.heap.size, 0, none⟩ = some (.int .i64 T) := hk1 _ _ _ (by simp [go_sem])
  replace p01 : w1.cell? ⟨w.heap.size, 1, none⟩ = some (.int .i64 S) := hk1 _ _ _ (by simp [go_sem])
  replace p02 : w1.cell? ⟨w.heap.size, 2, none⟩ = some (.int .i64 t1) := hk1 _ _ _ (by simp [go_sem])
  replace p03 : w1.cell? ⟨w.heap.size, 3, none⟩ = some (.int .i64 t2) := hk1 _ _ _ (by simp [go_sem])
  replace p04 : w1.cell? ⟨w.heap.size, 4, none⟩ = some (.int .i64 f1) := hk1 _ _ _ (by simp [go_sem])
  replace p05 : w1.cell? ⟨w.heap.size, 5, none⟩ = some (.int .i64 f2) := hk1 _ _ _ (by simp [go_sem])
  replace p06 : w1.cell? ⟨w.heap.size, 6, none⟩ = some (.int .i64 d1) := hk1 _ _ _ (by simp [go_sem])
  replace p07 : w1.cell? ⟨w.heap.size, 7, none⟩ = some (.int .i64 d2) := hk1 _ _ _ (by simp [go_sem])
  replace p08 : w1.cell? ⟨w.heap.size, 8, none⟩ = some (.int .i64 d3) := hk1 _ _ _ (by simp [go_sem])
  replace p09 : w1.cell? ⟨w.heap.size, 9, none⟩ = some (.int .i64 d4) := hk1 _ _ _ (by simp [go_sem])
  replace p010 : w1.cell? ⟨w.heap.size, 10, none⟩ = some (.int .i64 d5) := hk1 _ _ _ (by simp [go_sem])
  replace p011 : w1.cell? ⟨w.heap.size, 11, none⟩ = some (.int .i64 d6) := hk1 _ _ _ (by simp [go_sem])
  replace p012 : w1.cell? ⟨w.heap.size, 12, none⟩ = some (Value.slice q l.length cap) := hk1 _ _ _ (by simp [go_sem])
  replace p013 : w1.cell? ⟨w.heap.size, 13, none⟩ = some (.int .i64 p1) := hk1 _ _ _ (by simp [go_sem])
  replace p014 : w1.cell? ⟨w.heap.size, 14, none⟩ = some (.int .i64 p2) := hk1 _ _ _ (by simp [go_sem])
  have bp00 : w.heap.size < w1.heap.size := World.block_lt_of_cell? w1 ⟨w.heap.size, 0, none⟩ p00
  clear hk1
  go_wp2_with fail
  have bp00 := World.block_lt_of_cell? _ _ p00
  dsimp only at bp00
  refine wp_loop_rounds 4 ?_
  rw [rounds_succ]
  go_wp2_with fail
  refine useK w (w1c.out _) (by go_grown) ?_; rintro e w11 rfl hB11 hk11 hs11
  replace p00 := hk11 _ _ _ ((keepA _ p00)); replace p01 := hk11 _ _ _ ((keepA _ p01)); replace p02 := hk11 _ _ _ ((keepA _ p02)); replace p03 := hk11 _ _ _ ((keepA _ p03)); replace p04 := hk11 _ _ _ ((keepA _ p04)); replace p05 := hk11 _ _ _ ((keepA _ p05)); replace p06 := hk11 _ _ _ ((keepA _ p06)); replace p07 := hk11 _ _ _ ((keepA _ p07)); replace p08 := hk11 _ _ _ ((keepA _ p08)); replace p09 := hk11 _ _ _ ((keepA _ p09)); replace p010 := hk11 _ _ _ ((keepA _ p010)); replace p011 := hk11 _ _ _ ((keepA _ p011)); replace p012 := hk11 _ _ _ ((keepA _ p012)); replace p013 := hk11 _ _ _ ((keepA _ p013)); replace p014 := hk11 _ _ _ ((keepA _ p014))
  clear hk11 bp00
  have bp00 := World.block_lt_of_cell? _ _ p00
  dsimp only at bp00
  go_wp2_with fail
  rw [rounds_succ]
  go_wp2_with fail
  refine useK w (w2c.out _) (by go_grown) ?_; rintro e w12 rfl hB12 hk12 hs12
  replace p00 := hk12 _ _ _ ((keepA _ p00)); replace p01 := hk12 _ _ _ ((keepA _ p01)); replace p02 := hk12 _ _ _ ((keepA _ p02)); replace p03 := hk12 _ _ _ ((keepA _ p03)); replace p04 := hk12 _ _ _ ((keepA _ p04)); replace p05 := hk12 _ _ _ ((keepA _ p05)); replace p06 := hk12 _ _ _ ((keepA _ p06)); replace p07 := hk12 _ _ _ ((keepA _ p07)); replace p08 := hk12 _ _ _ ((keepA _ p08)); replace p09 := hk12 _ _ _ ((keepA _ p09)); replace p010 := hk12 _ _ _ ((keepA _ p010)); replace p011 := hk12 _ _ _ ((keepA _ p011)); replace p012 := hk12 _ _ _ ((keepA _ p012)); replace p013 := hk12 _ _ _ ((keepA _ p013)); replace p014 := hk12 _ _ _ ((keepA _ p014))
  clear hk12 bp00
  have bp00 := World.block_lt_of_cell? _ _ p00
  dsimp only at bp00
  go_wp2_with fail
  rw [rounds_succ]
  go_wp2_with fail
  refine useK w (w3c.out _) (by go_grown) ?_; rintro e w13 rfl hB13 hk13 hs13
  replace p00 := hk13 _ _ _ ((keepA _ p00)); replace p01 := hk13 _ _ _ ((keepA _ p01)); replace p02 := hk13 _ _ _ ((keepA _ p02)); replace p03 := hk13 _ _ _ ((keepA _ p03)); replace p04 := hk13 _ _ _ ((keepA _ p04)); replace p05 := hk13 _ _ _ ((keepA _ p05)); replace p06 := hk13 _ _ _ ((keepA _ p06)); replace p07 := hk13 _ _ _ ((keepA _ p07)); replace p08 := hk13 _ _ _ ((keepA _ p08)); replace p09 := hk13 _ _ _ ((keepA _ p09)); replace p010 := hk13 _ _ _ ((keepA _ p010)); replace p011 := hk13 _ _ _ ((keepA _ p011)); replace p012 := hk13 _ _ _ ((keepA _ p012)); replace p013 := hk13 _ _ _ ((keepA _ p013)); replace p014 := hk13 _ _ _ ((keepA _ p014))
  clear hk13 bp00
  have bp00 := World.block_lt_of_cell? _ _ p00
  dsimp only at bp00
  go_wp2_with fail
  rw [rounds_succ]
  go_wp2_with fail
  refine useK w (kt.out _ (by go_grown)) (by go_grown) ?_; rintro e w14 rfl hB14 hk14 hs14
  replace p00 := hk14 _ _ _ (p00); replace p01 := hk14 _ _ _ (p01); replace p02 := hk14 _ _ _ (p02); replace p03 := hk14 _ _ _ (p03); replace p04 := hk14 _ _ _ (p04); replace p05 := hk14 _ _ _ (p05); replace p06 := hk14 _ _ _ (p06); replace p07 := hk14 _ _ _ (p07); replace p08 := hk14 _ _ _ (p08); replace p09 := hk14 _ _ _ (p09); replace p010 := hk14 _ _ _ (p010); replace p011 := hk14 _ _ _ (p011); replace p012 := hk14 _ _ _ (p012); replace p013 := hk14 _ _ _ (p013); replace p014 := hk14 _ _ _ (p014)
  clear hk14 bp00
  have bp00 := World.block_lt_of_cell? _ _ p00
  dsimp only at bp00
  go_wp2_with fail
  go_ret
  exact ⟨ret_int (by first | exact hT.out.symm | (have := hT.out; rw [Bool.true_and] at this; exact this.symm)), by go_grown⟩
end Go.Proofs.Ytepcifijhnelcaa
