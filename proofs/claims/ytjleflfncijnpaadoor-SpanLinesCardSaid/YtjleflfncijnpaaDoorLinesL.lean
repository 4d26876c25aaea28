/- SpanLines: the whole. -/
import Derived.Deep.DeepCutAuto
import Derived.Test.YtjleflfncijnpaaDoorRows
import Derived.Test.YtjleflfncijnpaaDoorBase
import Derived.Test.YtjleflfncijnpaaDoorFacts
import Derived.Test.YtjleflfncijnpaaDoorTwo
import Derived.Deep.RegionHeld3
import Derived.Deep.RegionWith
import Derived.Deep.QuietTactic
import Derived.BigQuiet
import Derived.Test.YtjleflfncijnpaaDoorW
import Derived.Test.YtjleflfncijnpaaDoorAsks
import Derived.Test.YtjleflfncijnpaaDoorOut
import Derived.Test.YtjleflfncijnpaaDoorSeq
import Derived.Test.YtjleflfncijnpaaDoorTwo
import Derived.Test.YtjleflfncijnpaaDoorThree
import Derived.Test.YtjleflfncijnpaaDoorQuo
import Derived.Test.YtjleflfncijnpaaDoorTabM
import Derived.Test.YtjleflfncijnpaaDoorTable
import Derived.Test.YtjleflfncijnpaaDoorHoldsM
import Derived.Test.YtjleflfncijnpaaDoorLawHolds
import Derived.Test.YtjleflfncijnpaaDoorAlive
import Derived.Test.YtjleflfncijnpaaDoorLookM
import Derived.Test.YtjleflfncijnpaaDoorLookA
import Derived.Test.YtjleflfncijnpaaDoorLookB
import Derived.Test.YtjleflfncijnpaaDoorLookC
import Derived.Test.YtjleflfncijnpaaDoorLinesM
import Derived.Test.YtjleflfncijnpaaDoorLawLines
set_option linter.unusedVariables false
set_option linter.unusedSimpArgs false
set_option maxHeartbeats 4000000
set_option maxRecDepth 100000
namespace Go.Proofs.YtjleflfncijnpaaDoor
open Go Go.RowKit
theorem lines_long (p : Option Addr) (n cap : Nat) (xl xh n0 : Int) (w : World) (h : 70 < n) :
    Calls Tryd.prog 10 #[.slice p n cap, .agg #[.int .i64 xl, .int .i64 xh], .int .u64 n0] w fun e w' => e = .returned (.bool true) ∧ Below w.heap.size w w' := by
  have h2 : (70 : Int) < n := by omega
  have d2 : decide ((70 : Int) < n) = true := decide_eq_true h2
  go_enter Tryd.func10, Tryd.ntmps10
  go_wp2_with fail
  refine useK w (alive_any _) (by go_grown) ?_; rintro e w1 rfl hB1 hk1 hs1
  replace p00 : w1.cell? ⟨w.heap.size, 0, none⟩ = some (.int .i64 xl) := hk1 _ _ _ (by simp [go_sem])
  replace p01 : w1.cell? ⟨w.heap.size, 1, none⟩ = some (.int .i64 xh) := hk1 _ _ _ (by simp [go_sem])
  have bp00 : w.heap.size < w1.heap.size := World.block_lt_of_cell? w1 ⟨w.heap.size, 0, none⟩ p00
  clear hk1
  go_wp2_with fail
  go_ret
  exact ⟨rfl, by go_grown⟩
theorem lines_bad1 (p : Option Addr) (n cap : Nat) (xl xh n0 : Int) (w : World) (h : n ≤ 70) (k1 : Hid (∀ w : World, Calls Tryd.prog 51 #[.slice p n cap] w fun e w' => e = .returned (.int .i64 2) ∧ Below w.heap.size w w')) :
    Calls Tryd.prog 10 #[.slice p n cap, .agg #[.int .i64 xl, .int .i64 xh], .int .u64 n0] w fun e w' => e = .returned (.bool true) ∧ Below w.heap.size w w' := by
  have h2 : ¬ (70 : Int) < n := by omega
  have d2 : decide ((70 : Int) < n) = false := decide_eq_false h2
  go_enter Tryd.func10, Tryd.ntmps10
  go_wp2_with fail
  refine useK w (alive_any _) (by go_grown) ?_; rintro e w1 rfl hB1 hk1 hs1
  replace p00 : w1.cell? ⟨w.heap.size, 0, none⟩ = some (.int .i64 xl) := hk1 _ _ _ (by simp [go_sem])
  replace p01 : w1.cell? ⟨w.heap.size, 1, none⟩ = some (.int .i64 xh) := hk1 _ _ _ (by simp [go_sem])
  have bp00 : w.heap.size < w1.heap.size := World.block_lt_of_cell? w1 ⟨w.heap.size, 0, none⟩ p00
  clear hk1
  go_wp2_with fail
  refine useK w (k1.out _) (by go_grown) ?_; rintro e w2 rfl hB2 hk2 hs2
  replace p00 : w2.cell? ⟨w.heap.size, 0, none⟩ = some (.int .i64 xl) := hk2 _ _ _ (p00)
  replace p01 : w2.cell? ⟨w.heap.size, 1, none⟩ = some (.int .i64 xh) := hk2 _ _ _ (p01)
  have bp00 : w.heap.size < w2.heap.size := World.block_lt_of_cell? w2 ⟨w.heap.size, 0, none⟩ p00
  clear hk2
  go_wp2_with fail
  go_ret
  exact ⟨rfl, by go_grown⟩
theorem lines_bad2 (l : List (Int × Int × Int)) (B o cap : Nat) (xl xh n0 c er : Int) (w : World) (ht : Tab B o l w) (h : l.length ≤ 70) (hc : (c ≠ 0 ∧ c = 2) ∨ (c = 0 ∧ er = 2))
    (k1 : Hid (∀ w : World, Tab B o l w → Calls Tryd.prog 51 #[.slice (some ⟨B, o, none⟩) l.length cap] w fun e w' => e = .returned (.int .i64 c) ∧ Below w.heap.size w w'))
    (k2 : Hid (∀ w : World, Calls Tryd.prog 31 #[.agg #[.int .i64 xl, .int .i64 xh]] w fun e w' => e = .returned (.int .i64 er) ∧ Below w.heap.size w w')) :
    Calls Tryd.prog 10 #[.slice (some ⟨B, o, none⟩) l.length cap, .agg #[.int .i64 xl, .int .i64 xh], .int .u64 n0] w fun e w' => e = .returned (.bool true) ∧ Below w.heap.size w w' := by
  have h2 : ¬ (70 : Int) < l.length := by omega
  have d2 : decide ((70 : Int) < l.length) = false := decide_eq_false h2
  rcases hc with ⟨_, rfl⟩ | ⟨rfl, rfl⟩
  all_goals
    go_enter Tryd.func10, Tryd.ntmps10
    go_wp2_with fail
    have ht2 := Tab.alloc (.cells #[.int .i64 xl, .int .i64 xh] 24) ht
    have x0 : (w.alloc (.cells #[.int .i64 xl, .int .i64 xh] 24)).cell? ⟨w.heap.size, 0, none⟩ = some (.int .i64 xl) := by simp [go_sem]
    have x1 : (w.alloc (.cells #[.int .i64 xl, .int .i64 xh] 24)).cell? ⟨w.heap.size, 1, none⟩ = some (.int .i64 xh) := by simp [go_sem]
    refine useF w (alive_any _) (by go_grown) ?_; rintro e1 w1 rfl hB1 hk1 hf1 hs1
    replace ht2 := Tab.keep ht2 hk1
    replace x0 := hk1 _ _ _ x0; replace x1 := hk1 _ _ _ x1
    have hz1 := hB1.size
    clear hk1 hf1
    go_wp2_with fail
    refine useF w (k1.out _ ht2) (by go_grown) ?_; rintro e2 w2 rfl hB2 hk2 hf2 hs2
    replace x0 := hk2 _ _ _ x0; replace x1 := hk2 _ _ _ x1
    have hz2 := hB2.size
    clear hk2 hf2
    go_wp2_with fail
    first
    | (go_ret; exact ⟨rfl, by go_grown⟩)
    | (refine useF w (k2.out _) (by go_grown) ?_; rintro e3 w3 rfl hB3 hk3 hf3 hs3; have hz3 := hB3.size; clear hk3 hf3; go_wp2_with fail; go_ret; exact ⟨rfl, by go_grown⟩)
theorem low_high {f t f' t' n a d : Int} (h : a ≤ n ∧ n < d) (h1 : f ≤ f') (h2 : t ≤ t') : lowL f t n a d ≤ highL f' t' n a d := by
  have hd : 0 < d - a := by omega
  have q1 := Int.ediv_mul_le ((t - f) * (n - a)) (show d - a ≠ 0 by omega)
  have q2 := Int.ediv_mul_le (-((t' - f') * (n - a))) (show d - a ≠ 0 by omega)
  have k1 := Int.mul_le_mul_of_nonneg_right h1 (show 0 ≤ (d - a) - (n - a) by omega)
  have k2 := Int.mul_le_mul_of_nonneg_right h2 (show 0 ≤ n - a by omega)
  unfold lowL highL cdQ
  refine Int.le_of_mul_le_mul_right (?_ : _ * (d - a) ≤ _ * (d - a)) hd
  generalize (t - f) * (n - a) / (d - a) = x at *
  generalize -((t' - f') * (n - a)) / (d - a) = y at *
  simp only [Int.add_mul, Int.sub_mul, Int.mul_sub, Int.neg_mul] at *
  omega
theorem line_ok {l : List (Int × Int × Int)} (hl : 1 ≤ l.length) (hp : ∀ p ∈ l, (-2305843009213693952 ≤ p.2.1 ∧ p.2.1 ≤ 2305843009213693952 ∧ -2305843009213693952 ≤ p.2.2 ∧ p.2.2 ≤ 2305843009213693952) ∧ p.2.1 ≤ p.2.2) (n : Int) :
    -2305843009213693952 ≤ (lineAt l n).1 ∧ (lineAt l n).1 ≤ (lineAt l n).2 ∧ (lineAt l n).2 ≤ 2305843009213693952 := by
  obtain ⟨hs1, hs2⟩ := seg_spec n l
  have hle := seg_le l n
  by_cases e0 : seg l n = 0
  · rw [line_zero e0]
    obtain ⟨p, hq⟩ : ∃ p, l[0]? = some p := ⟨l[0]'(by omega), List.getElem?_eq_getElem _⟩
    rw [hq]
    have := hp p (List.mem_of_getElem? hq)
    dsimp only
    omega
  · by_cases e1 : seg l n = l.length
    · rw [line_last (by omega) e1]
      obtain ⟨p, hq⟩ : ∃ p, l[l.length - 1]? = some p := ⟨l[l.length - 1]'(by omega), List.getElem?_eq_getElem _⟩
      rw [hq]
      have := hp p (List.mem_of_getElem? hq)
      dsimp only
      omega
    · obtain ⟨q, hq, hqn⟩ := hs2 (by omega)
      obtain ⟨p, hp'⟩ : ∃ p, l[seg l n - 1]? = some p := ⟨l[seg l n - 1]'(by omega), List.getElem?_eq_getElem _⟩
      have hpn := hs1 _ p (by omega) hp'
      have a1 := hp p (List.mem_of_getElem? hp')
      have a2 := hp q (List.mem_of_getElem? hq)
      unfold lineAt
      rw [if_neg e0, if_neg e1, hp', hq]
      dsimp only
      have b1 := part_bd (f := p.2.1) (t := q.2.1) (n := n) (a := p.1) (d := q.1) (by omega) (by omega) ⟨hpn, hqn⟩
      have b2 := part_bd (f := p.2.2) (t := q.2.2) (n := n) (a := p.1) (d := q.1) (by omega) (by omega) ⟨hpn, hqn⟩
      have b3 := low_high (n := n) (a := p.1) (d := q.1) ⟨hpn, hqn⟩ a1.2 a2.2
      omega
theorem acc_bd {l : List (Int × Int × Int)} {xl xh : Int} {s : Int × Int} (hp : ∀ p ∈ l, -2305843009213693952 ≤ p.2.1 ∧ p.2.2 ≤ 2305843009213693952) (hs : -2305843009213693952 ≤ s.1 ∧ s.2 ≤ 2305843009213693952) : ∀ k : Nat, -2305843009213693952 ≤ (accL l xl xh s k).1 ∧ (accL l xl xh s k).2 ≤ 2305843009213693952
  | 0 => hs
  | k + 1 => by
    have ih := acc_bd (xl := xl) (xh := xh) hp hs k
    cases hq : l[k]? with
    | none => rw [acc_none hq]; exact ih
    | some q =>
      have := hp q (List.mem_of_getElem? hq)
      rw [acc_step hq]
      split
      · dsimp only; omega
      · exact ih
theorem order_of {l : List (Int × Int × Int)} (g : goodU l l.length = true) : ∀ p ∈ l, p.2.1 ≤ p.2.2 := fun p hp => by
  obtain ⟨k, hk⟩ := List.mem_iff_getElem?.1 hp
  have g := goodU_at g (List.getElem?_eq_some_iff.1 hk).1
  rw [okAt_some hk] at g
  simp only [okP, Bool.and_eq_true, decide_eq_true_eq] at g
  have c := g.1.2
  rcases chk_cases p.2.1 p.2.2 with ⟨_, _, h⟩ | ⟨h, _⟩
  · exact h
  · rw [h] at c; cases c
theorem within_u {al ah bl bh : Int} (h : -9223372036854775807 ≤ bl ∧ bl ≤ al ∧ al ≤ ah ∧ ah ≤ bh) : withinS al ah bl bh = true := by
  have c1 : chk al ah = 0 := if_neg (by omega)
  have c2 : chk bl bh = 0 := if_neg (by omega)
  exact decide_eq_true ⟨by unfold bothS; rw [if_pos c1]; exact c2, h.2.1, h.2.2.2⟩
theorem checkT_cases (l : List (Int × Int × Int)) : checkT l = 0 ∨ checkT l = 2 := by unfold checkT; split <;> simp
theorem lawLines_tab (l : List (Int × Int × Int)) (xl xh n0 : Int) (B o cap : Nat) (w : World) (ht : Tab B o l w) (hx : (-9223372036854775808 ≤ xl ∧ xl ≤ 9223372036854775807) ∧ (-9223372036854775808 ≤ xh ∧ xh ≤ 9223372036854775807)) (hn : (0 ≤ n0 ∧ n0 ≤ 18446744073709551615)) (hb : ∀ p ∈ l, (-9223372036854775808 ≤ p.1 ∧ p.1 ≤ 9223372036854775807) ∧ (-9223372036854775808 ≤ p.2.1 ∧ p.2.1 ≤ 9223372036854775807) ∧ (-9223372036854775808 ≤ p.2.2 ∧ p.2.2 ≤ 9223372036854775807)) :
    Calls Tryd.prog 10 #[.slice (some ⟨B, o, none⟩) l.length cap, .agg #[.int .i64 xl, .int .i64 xh], .int .u64 n0] w fun e w' => e = .returned (.bool true) ∧ Below w.heap.size w w' := by
  by_cases c70 : 70 < l.length
  · exact lines_long _ _ _ xl xh n0 w c70
  by_cases c64 : 64 < l.length
  · exact lines_bad1 _ _ _ xl xh n0 w (by omega) (fun W => checkTable_long _ _ _ W c64)
  by_cases c0 : l.length = 0
  · rw [c0]
    exact lines_bad1 _ _ _ xl xh n0 w (by omega) (fun W => checkTable_none _ _ W)
  have hl : 1 ≤ l.length ∧ l.length ≤ 64 := by omega
  have k1 := fun W g => checkTable_tab l B o cap W g hl hb
  have k2 := fun W => check_any xl xh W hx
  rcases checkT_cases l with ct | ct
  · rcases chk_cases xl xh with ⟨cx, y1, y2⟩ | ⟨cx, _⟩
    · obtain ⟨_, hp⟩ := parts_of ct
      have hg : goodU l l.length = true := by
        unfold checkT at ct
        by_cases g : goodU l l.length = true
        · exact g
        · rw [if_neg (by simp [g])] at ct; cases ct
      have py := pick_bd (by_ := n0) y2
      have cn : chk (pickN xl xh n0) (pickN xl xh n0) = 0 := if_neg (by omega)
      have hlk : ∀ m, lookS l m m = ((lineAt l m).1, (lineAt l m).2, 0) := fun m => by
        unfold lookS
        rw [Int.min_self, Int.max_self]
        have := look_point hg m l.length
        rw [show ((lineAt l m).1, (lineAt l m).2) = lineAt l m from rfl, this]
      obtain ⟨i1, i2⟩ := line_in hl.1 hg cx py
      rw [ct] at k1
      rw [cx] at k2
      have ho := order_of hg
      have hq : ∀ p ∈ l, (-2305843009213693952 ≤ p.2.1 ∧ p.2.1 ≤ 2305843009213693952 ∧ -2305843009213693952 ≤ p.2.2 ∧ p.2.2 ≤ 2305843009213693952) ∧ p.2.1 ≤ p.2.2 := fun p h => ⟨by have := hp p h; omega, ho p h⟩
      have l1 := line_ok hl.1 hq (pickN xl xh n0)
      have l2 := line_ok hl.1 hq xl
      have l3 := line_ok hl.1 hq xh
      have l4 := acc_bd (l := l) (xl := xl) (xh := xh) (s := (min (lineAt l xl).1 (lineAt l xh).1, max (lineAt l xl).2 (lineAt l xh).2)) (fun p h => by have := hp p h; omega) (by dsimp only; omega) l.length
      change -2305843009213693952 ≤ (lookS l xl xh).1 ∧ (lookS l xl xh).2.1 ≤ 2305843009213693952 at l4
      refine lines_go l xl xh n0 (pickN xl xh n0) (lookS l xl xh).1 (lookS l xl xh).2.1 (lineAt l (pickN xl xh n0)).1 (lineAt l (pickN xl xh n0)).2 B o cap w ht hl k1 k2 (fun k a lo hi h W g => ?_) (fun W => pick_any xl xh n0 W hx ⟨y1, y2⟩ hn) (fun W g => look_good l xl xh B o cap W g hx ct cx) (fun W g => ?_) (fun W => ?_)
      · have hm := hp _ (List.mem_of_getElem? h)
        dsimp only at hm
        have := look_good l a a B o cap W g (by omega) ct (if_neg (by omega))
        rw [hlk, line_point hg h] at this
        exact this
      · have := look_good l _ _ B o cap W g (by omega) ct cn
        rw [hlk] at this
        exact this
      · have := within_any (lineAt l (pickN xl xh n0)).1 (lineAt l (pickN xl xh n0)).2 (lookS l xl xh).1 (lookS l xl xh).2.1 W (by omega)
        rw [within_u (by omega)] at this
        exact this
    · exact lines_bad2 l B o cap xl xh n0 _ _ w ht (by omega) (Or.inr ⟨rfl, rfl⟩) (by rw [ct] at k1; exact k1) (by rw [cx] at k2; exact k2)
  · exact lines_bad2 l B o cap xl xh n0 _ _ w ht (by omega) (Or.inl ⟨by omega, rfl⟩) (by rw [ct] at k1; exact k1) k2
theorem lawLines_any (q : Option Addr) (cap : Nat) (l : List (Int × Int × Int)) (xl xh n0 : Int) (w : World) (hl : l = [] ∨ ∃ B o, q = some ⟨B, o, none⟩ ∧ Tab B o l w) (hx : (-9223372036854775808 ≤ xl ∧ xl ≤ 9223372036854775807) ∧ (-9223372036854775808 ≤ xh ∧ xh ≤ 9223372036854775807)) (hn : (0 ≤ n0 ∧ n0 ≤ 18446744073709551615)) (hb : ∀ p ∈ l, (-9223372036854775808 ≤ p.1 ∧ p.1 ≤ 9223372036854775807) ∧ (-9223372036854775808 ≤ p.2.1 ∧ p.2.1 ≤ 9223372036854775807) ∧ (-9223372036854775808 ≤ p.2.2 ∧ p.2.2 ≤ 9223372036854775807)) :
    Calls Tryd.prog 10 #[.slice q l.length cap, .agg #[.int .i64 xl, .int .i64 xh], .int .u64 n0] w fun e w' => e = .returned (.bool true) ∧ Below w.heap.size w w' := by
  rcases hl with rfl | ⟨B, o, rfl, ht⟩
  · exact lines_bad1 q 0 cap xl xh n0 w (by omega) (fun W => checkTable_none q cap W)
  · exact lawLines_tab l xl xh n0 B o cap w ht hx hn hb
end Go.Proofs.YtjleflfncijnpaaDoor
