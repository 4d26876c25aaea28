/- SpanLines: the walk, of a valid table and a valid span. -/
import Derived.Deep.DeepCutAuto
import Derived.Deep.CutBlock
import Derived.Test.YtjleflfncijnpaaDoorRows
import Derived.Test.YtjleflfncijnpaaDoorBase
import Derived.Test.YtjleflfncijnpaaDoorFacts
import Derived.Test.YtjleflfncijnpaaDoorTwo
import Derived.Deep.RegionHeld3
import Derived.Deep.RegionWith
import Derived.Deep.QuietTactic
import Derived.BigQuiet
import Derived.Test.YtjleflfncijnpaaDoorW
import Derived.Test.YtjleflfncijnpaaDoorAsks
import Derived.Test.YtjleflfncijnpaaDoorOut
import Derived.Test.YtjleflfncijnpaaDoorSeq
import Derived.Test.YtjleflfncijnpaaDoorTwo
import Derived.Test.YtjleflfncijnpaaDoorThree
import Derived.Test.YtjleflfncijnpaaDoorQuo
import Derived.Test.YtjleflfncijnpaaDoorTabM
import Derived.Test.YtjleflfncijnpaaDoorHoldsM
import Derived.Test.YtjleflfncijnpaaDoorLawHolds
import Derived.Test.YtjleflfncijnpaaDoorAlive
import Derived.Test.YtjleflfncijnpaaDoorLookC
set_option linter.unusedVariables false
set_option linter.unusedSimpArgs false
set_option maxHeartbeats 4000000
set_option maxRecDepth 100000
namespace Go.Proofs.YtjleflfncijnpaaDoor
open Go Go.RowKit
theorem lines_go (l : List (Int × Int × Int)) (xl xh n0 n a1 a2 b1 b2 : Int) (B o cap : Nat) (w : World) (ht : Tab B o l w) (hn : 1 ≤ l.length ∧ l.length ≤ 64)
    (k1 : Hid (∀ w : World, Tab B o l w → Calls Tryd.prog 51 #[.slice (some ⟨B, o, none⟩) l.length cap] w fun e w' => e = .returned (.int .i64 0) ∧ Below w.heap.size w w'))
    (k2 : Hid (∀ w : World, Calls Tryd.prog 31 #[.agg #[.int .i64 xl, .int .i64 xh]] w fun e w' => e = .returned (.int .i64 0) ∧ Below w.heap.size w w'))
    (L1 : Hid (∀ (k : Nat) (a lo hi : Int), l[k]? = some (a, lo, hi) → ∀ w : World, Tab B o l w → Calls Tryd.prog 23 #[.slice (some ⟨B, o, none⟩) l.length cap, .agg #[.int .i64 a, .int .i64 a]] w fun e w' => e = .returned (.tuple #[.agg #[.int .i64 lo, .int .i64 hi], .int .i64 0]) ∧ Below w.heap.size w w'))
    (u1 : Hid (∀ w : World, Calls Tryd.prog 32 #[.agg #[.int .i64 xl, .int .i64 xh], .int .u64 n0] w fun e w' => e = .returned (.int .i64 n) ∧ Below w.heap.size w w'))
    (L2 : Hid (∀ w : World, Tab B o l w → Calls Tryd.prog 23 #[.slice (some ⟨B, o, none⟩) l.length cap, .agg #[.int .i64 xl, .int .i64 xh]] w fun e w' => e = .returned (.tuple #[.agg #[.int .i64 a1, .int .i64 a2], .int .i64 0]) ∧ Below w.heap.size w w'))
    (L3 : Hid (∀ w : World, Tab B o l w → Calls Tryd.prog 23 #[.slice (some ⟨B, o, none⟩) l.length cap, .agg #[.int .i64 n, .int .i64 n]] w fun e w' => e = .returned (.tuple #[.agg #[.int .i64 b1, .int .i64 b2], .int .i64 0]) ∧ Below w.heap.size w w'))
    (z1 : Hid (∀ w : World, Calls Tryd.prog 48 #[.agg #[.int .i64 b1, .int .i64 b2], .agg #[.int .i64 a1, .int .i64 a2]] w fun e w' => e = .returned (.bool true) ∧ Below w.heap.size w w')) :
    Calls Tryd.prog 10 #[.slice (some ⟨B, o, none⟩) l.length cap, .agg #[.int .i64 xl, .int .i64 xh], .int .u64 n0] w fun e w' => e = .returned (.bool true) ∧ Below w.heap.size w w' := by
  have h1 : ¬ (70 : Int) < l.length := by omega
  have h2 : decide ((70 : Int) < l.length) = false := decide_eq_false h1
  have hBw : B < w.heap.size := Tab.lt ht (List.getElem?_eq_getElem (show 0 < l.length by omega))
  go_enter Tryd.func10, Tryd.ntmps10
  go_wp2_with fail
  replace ht := Tab.alloc (.cells #[.int .i64 xl, .int .i64 xh] 24) ht
  have x0 : (w.alloc (.cells #[.int .i64 xl, .int .i64 xh] 24)).cell? ⟨w.heap.size, 0, none⟩ = some (.int .i64 xl) := by simp [go_sem]
  have x1 : (w.alloc (.cells #[.int .i64 xl, .int .i64 xh] 24)).cell? ⟨w.heap.size, 1, none⟩ = some (.int .i64 xh) := by simp [go_sem]
  refine useF w (alive_any _) (by go_grown) ?_; rintro e w1 rfl hB1 hk1 hf1 hs1
  replace ht := Tab.keep ht hk1
  replace x0 := hk1 _ _ _ x0
  replace x1 := hk1 _ _ _ x1
  clear hk1 hf1
  have hz1 := hB1.size
  go_wp2_with fail
  refine useF w (k1.out _ ht) (by go_grown) ?_; rintro e w2 rfl hB2 hk2 hf2 hs2
  replace ht := Tab.keep ht hk2
  replace x0 := hk2 _ _ _ x0
  replace x1 := hk2 _ _ _ x1
  clear hk2 hf2
  have hz2 := hB2.size
  go_wp2_with fail
  refine useF w (k2.out _) (by go_grown) ?_; rintro e w3 rfl hB3 hk3 hf3 hs3
  replace ht := Tab.keep ht hk3
  replace x0 := hk3 _ _ _ x0
  replace x1 := hk3 _ _ _ x1
  clear hk3 hf3
  have hz3 := hB3.size
  go_upto_block 0 with fail
  have hB : Below w.heap.size w w3 := by go_grown
  go_cut [] (fun wx => Tab B o l wx ∧ (fun w' => w'.cell? ⟨w.heap.size, 0, none⟩ = some (.int .i64 xl) ∧ w'.cell? ⟨w.heap.size, 1, none⟩ = some (.int .i64 xh)) wx ∧ Below w.heap.size w wx)
  case first => as_aux_lemma =>
    go_wp2_with fail
    go_loopw [38] (fun s wx => ∃ k : Nat, s = .int .i64 k ∧ k ≤ l.length ∧ Tab B o l wx ∧ (fun w' => w'.cell? ⟨w.heap.size, 0, none⟩ = some (.int .i64 xl) ∧ w'.cell? ⟨w.heap.size, 1, none⟩ = some (.int .i64 xh)) wx ∧ Below w.heap.size w wx) (fun s _ => (l.length - intOf s).toNat)
    case atStart => exact ⟨0, rfl, by omega, ht, ⟨x0, x1⟩, hB⟩
    case round =>
      clear ht x0 x1 hB
      obtain ⟨k, rfl, hk, ht, ⟨x0, x1⟩, hB⟩ := hrel
      by_cases ke : k = l.length
      · subst ke
        go_wp2_with fail
        go_meet
        exact ⟨ht, ⟨x0, x1⟩, hB⟩
      · have hk1 : k < l.length := by omega
        obtain ⟨p, hp⟩ : ∃ p, l[k]? = some p := ⟨l[k], List.getElem?_eq_getElem hk1⟩
        obtain ⟨c0, c1, c2⟩ := ht k p hp
        obtain ⟨a, lo, hi⟩ := p
        dsimp only at c0 c1 c2
        have q := hid (L1.out k a lo hi hp)
        have hk0 : (0 : Int) ≤ k := by omega
        have hk2 : (k : Int) < l.length := by omega
        have hz := hB.size
        clear hp
        have hB2 : Below w.heap.size w (wr.alloc (.cells #[.int .i64 a, .int .i64 lo, .int .i64 hi] 40)) := by go_grown
        have p0 : (wr.alloc (.cells #[.int .i64 a, .int .i64 lo, .int .i64 hi] 40)).cell? ⟨wr.heap.size, 0, none⟩ = some (.int .i64 a) := by simp [go_sem]
        have p1 : (wr.alloc (.cells #[.int .i64 a, .int .i64 lo, .int .i64 hi] 40)).cell? ⟨wr.heap.size, 1, none⟩ = some (.int .i64 lo) := by simp [go_sem]
        have p2 : (wr.alloc (.cells #[.int .i64 a, .int .i64 lo, .int .i64 hi] 40)).cell? ⟨wr.heap.size, 2, none⟩ = some (.int .i64 hi) := by simp [go_sem]
        go_wp2_with fail
        replace ht := Tab.alloc (.cells #[.int .i64 a, .int .i64 lo, .int .i64 hi] 40) ht
        replace x0 := keepA (.cells #[.int .i64 a, .int .i64 lo, .int .i64 hi] 40) x0; replace x1 := keepA (.cells #[.int .i64 a, .int .i64 lo, .int .i64 hi] 40) x1
        clear c0 c1 c2
        refine useF w (q.out _ ht) (by go_grown) ?_; rintro e w4 rfl hB4 hk4 hf4 hs4
        replace ht := Tab.keep ht hk4
        replace x0 := hk4 _ _ _ x0
        replace x1 := hk4 _ _ _ x1
        replace p0 := hk4 _ _ _ p0
        replace p1 := hk4 _ _ _ p1
        replace p2 := hk4 _ _ _ p2
        clear hk4 hf4
        have hz4 := hB4.size
        replace p0 := keepA (.cells #[.int .i64 lo, .int .i64 hi] 24) p0
        replace p1 := keepA (.cells #[.int .i64 lo, .int .i64 hi] 24) p1
        replace p2 := keepA (.cells #[.int .i64 lo, .int .i64 hi] 24) p2
        go_wp2_with fail
        go_roundw
        case rel => exact ⟨k + 1, by go_num, by omega, Tab.alloc _ ht, ⟨keepA _ x0, keepA _ x1⟩, by go_grown⟩
        case measure => first | (simp [intOf]; done) | (simp [intOf]; omega)
  case rest =>
    clear ht x0 x1 hB
    obtain ⟨ht, ⟨x0, x1⟩, hB⟩ := hcut
    go_wp2_with fail
    refine useF w (u1.out _) (by go_grown) ?_; rintro e w5 rfl hB5 hk5 hf5 hs5
    replace ht := Tab.keep ht hk5
    replace x0 := hk5 _ _ _ x0
    replace x1 := hk5 _ _ _ x1
    clear hk5 hf5
    have hz5 := hB5.size
    go_wp2_with fail
    refine useF w (L2.out _ ht) (by go_grown) ?_; rintro e w6 rfl hB6 hk6 hf6 hs6
    replace ht := Tab.keep ht hk6
    replace x0 := hk6 _ _ _ x0
    replace x1 := hk6 _ _ _ x1
    clear hk6 hf6
    have hz6 := hB6.size
    replace ht := Tab.alloc (.cells #[.int .i64 a1, .int .i64 a2] 24) ht
    have y0 : (w6.alloc (.cells #[.int .i64 a1, .int .i64 a2] 24)).cell? ⟨w6.heap.size, 0, none⟩ = some (.int .i64 a1) := by simp [go_sem]
    have y1 : (w6.alloc (.cells #[.int .i64 a1, .int .i64 a2] 24)).cell? ⟨w6.heap.size, 1, none⟩ = some (.int .i64 a2) := by simp [go_sem]
    go_wp2_with fail
    clear x0 x1
    refine useF w (L3.out _ ht) (by go_grown) ?_; rintro e w7 rfl hB7 hk7 hf7 hs7
    replace ht := Tab.keep ht hk7
    replace y0 := hk7 _ _ _ y0
    replace y1 := hk7 _ _ _ y1
    clear hk7 hf7
    have hz7 := hB7.size
    replace y0 := keepA (.cells #[.int .i64 b1, .int .i64 b2] 24) y0; replace y1 := keepA (.cells #[.int .i64 b1, .int .i64 b2] 24) y1
    go_wp2_with fail
    refine useF w (z1.out _) (by go_grown) ?_; rintro e w8 rfl hB8 hk8 hf8 hs8
    clear hk8 hf8
    have hz8 := hB8.size
    go_wp2_with fail
    go_ret
    exact ⟨rfl, by go_grown⟩
end Go.Proofs.YtjleflfncijnpaaDoor
