/- Whether spans, boxes and numbers are valid, by package flight and the document. -/
import Derived.WalkMore
import Derived.Test.YtepcifijhnelcaaRows
import Derived.Test.YtepcifijhnelcaaBase
import Derived.Test.YtepcifijhnelcaaFacts
import Derived.Test.YtepcifijhnelcaaTwo
import Derived.Deep.RegionHeld3
import Derived.Deep.RegionWith
import Derived.Deep.QuietTactic
import Derived.BigQuiet
import Derived.Test.YtepcifijhnelcaaSeq
import Derived.Test.YtepcifijhnelcaaW
import Derived.Test.YtepcifijhnelcaaAsks
set_option linter.unusedVariables false
set_option linter.unusedSimpArgs false
set_option maxHeartbeats 4000000
set_option maxRecDepth 100000
namespace Go.Proofs.Ytepcifijhnelcaa
open Go Go.RowKit
def Spn (B o : Nat) (l : List (Int × Int)) (w : World) : Prop := ∀ (i : Nat) (p : Int × Int), l[i]? = some p → w.cell? ⟨B, o + i * 2, none⟩ = some (.int .i64 p.1) ∧ w.cell? ⟨B, o + i * 2 + 1, none⟩ = some (.int .i64 p.2)
theorem Spn.keep {B o : Nat} {l : List (Int × Int)} {w w1 : World} (h : Spn B o l w) (hk : ∀ b o v, w.cell? ⟨b, o, none⟩ = some v → w1.cell? ⟨b, o, none⟩ = some v) : Spn B o l w1 :=
  fun i p hp => let ⟨h0, h1⟩ := h i p hp; ⟨hk _ _ _ h0, hk _ _ _ h1⟩
theorem Spn.alloc {B o : Nat} {l : List (Int × Int)} {w : World} (h : Spn B o l w) (x : Obj) : Spn B o l (w.alloc x) := h.keep fun _ _ _ h => keepA _ h
def allB (l : List (Int × Int)) : Bool := l.all fun p => decide (chk p.1 p.2 = 0)
theorem spn_some {l : List (Int × Int)} {k : Nat} (h : k < l.length) : ∃ p, l[k]? = some p := ⟨l[k], List.getElem?_eq_getElem h⟩
theorem allB_bad {l : List (Int × Int)} {k : Nat} {p : Int × Int} (h : l[k]? = some p) (hb : chk p.1 p.2 ≠ 0) : allB l = false := by
  unfold allB; rw [List.all_eq_false]
  exact ⟨p, List.mem_of_getElem? h, by rw [decide_eq_false hb]; simp⟩
theorem allB_good {l : List (Int × Int)} (h : ∀ (k : Nat) (p : Int × Int), l[k]? = some p → chk p.1 p.2 = 0) : allB l = true := by
  unfold allB; rw [List.all_eq_true]
  intro x hx
  obtain ⟨j, hj⟩ := List.mem_iff_getElem?.1 hx
  exact decide_eq_true (h j x hj)
theorem arevalid_any (B o cap : Nat) (l : List (Int × Int)) (w : World) (hl : l.length ≤ 8) (h : Spn B o l w) (hb : Hid (∀ p ∈ l, (-9223372036854775808 ≤ p.1 ∧ p.1 ≤ 9223372036854775807) ∧ (-9223372036854775808 ≤ p.2 ∧ p.2 ≤ 9223372036854775807))) :
    Calls Try.prog 27 #[.slice (some ⟨B, o, none⟩) l.length cap] w fun e w' => e = .returned (.bool (allB l)) ∧ Below w.heap.size w w' := by
  go_enter Try.func27, Try.ntmps27
  go_wp2_with fail
  go_loopw [7] (fun s wx => ∃ k : Nat, s = .int .i64 k ∧ k ≤ l.length ∧ Hid (∀ (j : Nat) (p : Int × Int), j < k → l[j]? = some p → chk p.1 p.2 = 0) ∧ Spn B o l wx ∧ Below w.heap.size w wx) (fun s _ => (l.length - intOf s).toNat)
  case atStart => exact ⟨0, rfl, Nat.zero_le _, hid (fun j _ h => absurd h (by omega)), h, Below.refl _ _⟩
  case round =>
    clear h
    obtain ⟨k, rfl, hk, hg, hs, hB⟩ := hrel
    have hzB := hB.size
    by_cases c : k = l.length
    · have c1 : ¬ (k : Int) < l.length := by omega
      have hT := hid (show allB l = true from allB_good fun j p hj => hg.out j p (by have := (List.getElem?_eq_some_iff.1 hj).1; omega) hj)
      clear hs hg
      go_wp2_with fail
      go_ret
      exact ⟨ret_bool (by rw [hT.out]), by go_grown⟩
    · obtain ⟨⟨x, y⟩, hp⟩ := spn_some (show k < l.length by omega)
      obtain ⟨c0, c1⟩ := hs k _ hp
      dsimp only at c0 c1
      have hkc : (k : Int) < l.length := by omega
      have hbd := hb.out _ (List.mem_of_getElem? hp)
      dsimp only at hbd
      have kc := hid (fun W => check_any x y W hbd)
      have hz := World.block_lt_of_cell? _ _ c0
      dsimp only at hz
      by_cases e : chk x y = 0
      · rw [e] at kc
        have hg2 := hid (show ∀ (j : Nat) (p : Int × Int), j < k + 1 → l[j]? = some p → chk p.1 p.2 = 0 from fun j p hj hq => by
          by_cases ej : j = k
          · subst ej; rw [hp] at hq; cases hq; exact e
          · exact hg.out j p (by omega) hq)
        clear hg hp e hbd c
        go_wp2_with fail
        refine useF w (kc.out _) (by go_grown) ?_; rintro e w1 rfl hB1 hk1 hf1 hs1
        have hs2 := (hs.alloc (.cells #[.int .i64 x, .int .i64 y] 24)).keep hk1
        clear hk1 hf1 hs
        go_wp2_with fail
        go_roundw
        case rel => exact ⟨k + 1, by go_num, by omega, hg2, hs2, by go_grown⟩
        case measure => first | (simp [intOf]; done) | (simp [intOf]; omega)
      · have hT := hid (allB_bad hp e)
        have e2 : (chk x y != 0) = true := by simpa using e
        clear hg hp e hbd c
        go_wp2_with fail
        refine useF w (kc.out _) (by go_grown) ?_; rintro e w1 rfl hB1 hk1 hf1 hs1
        clear hk1 hf1 hs
        go_wp2_with fail
        go_ret
        exact ⟨ret_bool (by rw [hT.out]), by go_grown⟩
def boxB (a b c d p q : Int) : Bool := decide (chk a b = 0 ∧ chk c d = 0 ∧ chk p q = 0)
theorem rbox_any (a b c d p q : Int) (w : World) (h : (-9223372036854775808 ≤ a ∧ a ≤ 9223372036854775807) ∧ (-9223372036854775808 ≤ b ∧ b ≤ 9223372036854775807) ∧ (-9223372036854775808 ≤ c ∧ c ≤ 9223372036854775807) ∧ (-9223372036854775808 ≤ d ∧ d ≤ 9223372036854775807) ∧ (-9223372036854775808 ≤ p ∧ p ≤ 9223372036854775807) ∧ (-9223372036854775808 ≤ q ∧ q ≤ 9223372036854775807)) :
    Calls Try.prog 28 #[.agg #[.int .i64 a, .int .i64 b, .int .i64 c, .int .i64 d, .int .i64 p, .int .i64 q]] w fun e w' => e = .returned (.bool (boxB a b c d p q)) ∧ Below w.heap.size w w' := by
  have k1 := hid (fun W => rcheck_any a b W (by omega))
  have k2 := hid (fun W => rcheck_any c d W (by omega))
  have k3 := hid (fun W => rcheck_any p q W (by omega))
  by_cases c1 : chk a b = 0
  · rw [c1] at k1
    by_cases c2 : chk c d = 0
    · rw [c2] at k2
      by_cases c3 : chk p q = 0
      · rw [c3] at k3
        have hT := hid (show boxB a b c d p q = true from decide_eq_true ⟨c1, c2, c3⟩)
        clear h c1 c2 c3
        go_enter Try.func28, Try.ntmps28
        go_wp2_with fail
        refine wp_loop_rounds 4 ?_; rw [rounds_succ]
        go_wp2_with fail
        refine useK w (k1.out _) (by go_grown) ?_; rintro e w1 rfl hB1 hk1 hs1
        replace p00 : w1.cell? ⟨w.heap.size, 0, none⟩ = some (.int .i64 a) := hk1 _ _ _ (by simp [go_sem])
        replace p01 : w1.cell? ⟨w.heap.size, 1, none⟩ = some (.int .i64 b) := hk1 _ _ _ (by simp [go_sem])
        replace p02 : w1.cell? ⟨w.heap.size, 2, none⟩ = some (.int .i64 c) := hk1 _ _ _ (by simp [go_sem])
        replace p03 : w1.cell? ⟨w.heap.size, 3, none⟩ = some (.int .i64 d) := hk1 _ _ _ (by simp [go_sem])
        replace p04 : w1.cell? ⟨w.heap.size, 4, none⟩ = some (.int .i64 p) := hk1 _ _ _ (by simp [go_sem])
        replace p05 : w1.cell? ⟨w.heap.size, 5, none⟩ = some (.int .i64 q) := hk1 _ _ _ (by simp [go_sem])
        have bp00 : w.heap.size < w1.heap.size := World.block_lt_of_cell? w1 ⟨w.heap.size, 0, none⟩ p00
        clear hk1
        go_wp2_with fail
        have bp00 := World.block_lt_of_cell? _ _ p00
        dsimp only at bp00
        rw [rounds_succ]
        go_wp2_with fail
        refine useK w (k2.out _) (by go_grown) ?_; rintro e w2 rfl hB2 hk2 hs2
        replace p00 := hk2 _ _ _ p00; replace p01 := hk2 _ _ _ p01; replace p02 := hk2 _ _ _ p02; replace p03 := hk2 _ _ _ p03; replace p04 := hk2 _ _ _ p04; replace p05 := hk2 _ _ _ p05
        clear hk2 bp00
        have bp00 := World.block_lt_of_cell? _ _ p00
        dsimp only at bp00
        go_wp2_with fail
        rw [rounds_succ]
        go_wp2_with fail
        refine useK w (k3.out _) (by go_grown) ?_; rintro e w3 rfl hB3 hk3 hs3
        replace p00 := hk3 _ _ _ p00; replace p01 := hk3 _ _ _ p01; replace p02 := hk3 _ _ _ p02; replace p03 := hk3 _ _ _ p03; replace p04 := hk3 _ _ _ p04; replace p05 := hk3 _ _ _ p05
        clear hk3 bp00
        have bp00 := World.block_lt_of_cell? _ _ p00
        dsimp only at bp00
        go_wp2_with fail
        rw [rounds_succ]
        go_wp2_with fail
        go_ret
        exact ⟨ret_bool (by rw [hT.out]), by go_grown⟩
      · have := 0
        have hT := hid (show boxB a b c d p q = false from decide_eq_false (fun hh => c3 hh.2.2))
        have z1 : (chk p q != 0) = true := by simpa using c3
        clear h c1 c2 c3
        go_enter Try.func28, Try.ntmps28
        go_wp2_with fail
        refine wp_loop_rounds 4 ?_; rw [rounds_succ]
        go_wp2_with fail
        refine useK w (k1.out _) (by go_grown) ?_; rintro e w1 rfl hB1 hk1 hs1
        replace p00 : w1.cell? ⟨w.heap.size, 0, none⟩ = some (.int .i64 a) := hk1 _ _ _ (by simp [go_sem])
        replace p01 : w1.cell? ⟨w.heap.size, 1, none⟩ = some (.int .i64 b) := hk1 _ _ _ (by simp [go_sem])
        replace p02 : w1.cell? ⟨w.heap.size, 2, none⟩ = some (.int .i64 c) := hk1 _ _ _ (by simp [go_sem])
        replace p03 : w1.cell? ⟨w.heap.size, 3, none⟩ = some (.int .i64 d) := hk1 _ _ _ (by simp [go_sem])
        replace p04 : w1.cell? ⟨w.heap.size, 4, none⟩ = some (.int .i64 p) := hk1 _ _ _ (by simp [go_sem])
        replace p05 : w1.cell? ⟨w.heap.size, 5, none⟩ = some (.int .i64 q) := hk1 _ _ _ (by simp [go_sem])
        have bp00 : w.heap.size < w1.heap.size := World.block_lt_of_cell? w1 ⟨w.heap.size, 0, none⟩ p00
        clear hk1
        go_wp2_with fail
        have bp00 := World.block_lt_of_cell? _ _ p00
        dsimp only at bp00
        rw [rounds_succ]
        go_wp2_with fail
        refine useK w (k2.out _) (by go_grown) ?_; rintro e w2 rfl hB2 hk2 hs2
        replace p00 := hk2 _ _ _ p00; replace p01 := hk2 _ _ _ p01; replace p02 := hk2 _ _ _ p02; replace p03 := hk2 _ _ _ p03; replace p04 := hk2 _ _ _ p04; replace p05 := hk2 _ _ _ p05
        clear hk2 bp00
        have bp00 := World.block_lt_of_cell? _ _ p00
        dsimp only at bp00
        go_wp2_with fail
        rw [rounds_succ]
        go_wp2_with fail
        refine useK w (k3.out _) (by go_grown) ?_; rintro e w3 rfl hB3 hk3 hs3
        replace p00 := hk3 _ _ _ p00; replace p01 := hk3 _ _ _ p01; replace p02 := hk3 _ _ _ p02; replace p03 := hk3 _ _ _ p03; replace p04 := hk3 _ _ _ p04; replace p05 := hk3 _ _ _ p05
        clear hk3 bp00
        have bp00 := World.block_lt_of_cell? _ _ p00
        dsimp only at bp00
        go_wp2_with fail
        go_ret
        exact ⟨ret_bool (by rw [hT.out]), by go_grown⟩
    · have := 0
      have hT := hid (show boxB a b c d p q = false from decide_eq_false (fun hh => c2 hh.2.1))
      have z1 : (chk c d != 0) = true := by simpa using c2
      clear h c1 c2
      go_enter Try.func28, Try.ntmps28
      go_wp2_with fail
      refine wp_loop_rounds 4 ?_; rw [rounds_succ]
      go_wp2_with fail
      refine useK w (k1.out _) (by go_grown) ?_; rintro e w1 rfl hB1 hk1 hs1
      replace p00 : w1.cell? ⟨w.heap.size, 0, none⟩ = some (.int .i64 a) := hk1 _ _ _ (by simp [go_sem])
      replace p01 : w1.cell? ⟨w.heap.size, 1, none⟩ = some (.int .i64 b) := hk1 _ _ _ (by simp [go_sem])
      replace p02 : w1.cell? ⟨w.heap.size, 2, none⟩ = some (.int .i64 c) := hk1 _ _ _ (by simp [go_sem])
      replace p03 : w1.cell? ⟨w.heap.size, 3, none⟩ = some (.int .i64 d) := hk1 _ _ _ (by simp [go_sem])
      replace p04 : w1.cell? ⟨w.heap.size, 4, none⟩ = some (.int .i64 p) := hk1 _ _ _ (by simp [go_sem])
      replace p05 : w1.cell? ⟨w.heap.size, 5, none⟩ = some (.int .i64 q) := hk1 _ _ _ (by simp [go_sem])
      have bp00 : w.heap.size < w1.heap.size := World.block_lt_of_cell? w1 ⟨w.heap.size, 0, none⟩ p00
      clear hk1
      go_wp2_with fail
      have bp00 := World.block_lt_of_cell? _ _ p00
      dsimp only at bp00
      rw [rounds_succ]
      go_wp2_with fail
      refine useK w (k2.out _) (by go_grown) ?_; rintro e w2 rfl hB2 hk2 hs2
      replace p00 := hk2 _ _ _ p00; replace p01 := hk2 _ _ _ p01; replace p02 := hk2 _ _ _ p02; replace p03 := hk2 _ _ _ p03; replace p04 := hk2 _ _ _ p04; replace p05 := hk2 _ _ _ p05
      clear hk2 bp00
      have bp00 := World.block_lt_of_cell? _ _ p00
      dsimp only at bp00
      go_wp2_with fail
      go_ret
      exact ⟨ret_bool (by rw [hT.out]), by go_grown⟩
  · have := 0
    have hT := hid (show boxB a b c d p q = false from decide_eq_false (fun hh => c1 hh.1))
    have z1 : (chk a b != 0) = true := by simpa using c1
    clear h c1
    go_enter Try.func28, Try.ntmps28
    go_wp2_with fail
    refine wp_loop_rounds 4 ?_; rw [rounds_succ]
    go_wp2_with fail
    refine useK w (k1.out _) (by go_grown) ?_; rintro e w1 rfl hB1 hk1 hs1
    replace p00 : w1.cell? ⟨w.heap.size, 0, none⟩ = some (.int .i64 a) := hk1 _ _ _ (by simp [go_sem])
    replace p01 : w1.cell? ⟨w.heap.size, 1, none⟩ = some (.int .i64 b) := hk1 _ _ _ (by simp [go_sem])
    replace p02 : w1.cell? ⟨w.heap.size, 2, none⟩ = some (.int .i64 c) := hk1 _ _ _ (by simp [go_sem])
    replace p03 : w1.cell? ⟨w.heap.size, 3, none⟩ = some (.int .i64 d) := hk1 _ _ _ (by simp [go_sem])
    replace p04 : w1.cell? ⟨w.heap.size, 4, none⟩ = some (.int .i64 p) := hk1 _ _ _ (by simp [go_sem])
    replace p05 : w1.cell? ⟨w.heap.size, 5, none⟩ = some (.int .i64 q) := hk1 _ _ _ (by simp [go_sem])
    have bp00 : w.heap.size < w1.heap.size := World.block_lt_of_cell? w1 ⟨w.heap.size, 0, none⟩ p00
    clear hk1
    go_wp2_with fail
    have bp00 := World.block_lt_of_cell? _ _ p00
    dsimp only at bp00
    go_ret
    exact ⟨ret_bool (by rw [hT.out]), by go_grown⟩
end Go.Proofs.Ytepcifijhnelcaa
