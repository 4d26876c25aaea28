/- Lines of a valid table: at a point's place; between the ends of a span. Plain arithmetic. -/
import Derived.Test.YtjleflfncijnpaaDoorRows
import Derived.Test.YtjleflfncijnpaaDoorBase
import Derived.Test.YtjleflfncijnpaaDoorFacts
import Derived.Test.YtjleflfncijnpaaDoorTwo
import Derived.Deep.RegionHeld3
import Derived.Deep.RegionWith
import Derived.Deep.QuietTactic
import Derived.BigQuiet
import Derived.Test.YtjleflfncijnpaaDoorQuo
import Derived.Test.YtjleflfncijnpaaDoorTurnM
import Derived.Test.YtjleflfncijnpaaDoorTabM
import Derived.Test.YtjleflfncijnpaaDoorTable
import Derived.Test.YtjleflfncijnpaaDoorLookM
import Derived.Test.YtjleflfncijnpaaDoorLookA
import Derived.Test.YtjleflfncijnpaaDoorLookB
import Derived.Test.YtjleflfncijnpaaDoorLookC
set_option linter.unusedVariables false
set_option linter.unusedSimpArgs false
set_option maxHeartbeats 4000000
set_option maxRecDepth 100000
namespace Go.Proofs.YtjleflfncijnpaaDoor
open Go Go.RowKit
theorem low_end (f t a d : Int) (h : a < d) : lowL f t a a d = f ∧ highL f t a a d = f ∧ lowL f t d a d = t ∧ highL f t d a d = t := by
  unfold lowL highL cdQ
  rw [Int.sub_self, Int.mul_zero, Int.neg_zero, Int.zero_ediv, Int.mul_ediv_cancel _ (by omega), ← Int.neg_mul, Int.mul_ediv_cancel _ (by omega)]
  omega
theorem low_mono {f t m n a d : Int} (h : a < d) (hm : m ≤ n) (ht : f ≤ t) : lowL f t m a d ≤ lowL f t n a d ∧ highL f t m a d ≤ highL f t n a d := by
  have k := Int.mul_le_mul_of_nonneg_left (show m - a ≤ n - a by omega) (show 0 ≤ t - f by omega)
  have h1 := Int.ediv_le_ediv (show 0 < d - a by omega) k
  have h2 := Int.ediv_le_ediv (show 0 < d - a by omega) (show -((t - f) * (n - a)) ≤ -((t - f) * (m - a)) by omega)
  unfold lowL highL cdQ
  omega
theorem low_anti {f t m n a d : Int} (h : a < d) (hm : m ≤ n) (ht : t ≤ f) : lowL f t n a d ≤ lowL f t m a d ∧ highL f t n a d ≤ highL f t m a d := by
  have k := Int.mul_le_mul_of_nonneg_left (show m - a ≤ n - a by omega) (show 0 ≤ f - t by omega)
  have e1 : (t - f) * (m - a) = -((f - t) * (m - a)) := by rw [← Int.neg_mul, Int.neg_sub]
  have e2 : (t - f) * (n - a) = -((f - t) * (n - a)) := by rw [← Int.neg_mul, Int.neg_sub]
  have h1 := Int.ediv_le_ediv (show 0 < d - a by omega) (show (t - f) * (n - a) ≤ (t - f) * (m - a) by omega)
  have h2 := Int.ediv_le_ediv (show 0 < d - a by omega) (show -((t - f) * (m - a)) ≤ -((t - f) * (n - a)) by omega)
  unfold lowL highL cdQ
  omega
/-- Between two places a line is nowhere beyond what it is there. -/
theorem low_between {f t u v n a d : Int} (h : a < d) (hu : u ≤ n) (hv : n ≤ v) : min (lowL f t u a d) (lowL f t v a d) ≤ lowL f t n a d ∧ highL f t n a d ≤ max (highL f t u a d) (highL f t v a d) := by
  by_cases c : f ≤ t
  · have h1 := low_mono h hu c
    have h2 := low_mono h hv c
    omega
  · have h1 := low_anti h hu (show t ≤ f by omega)
    have h2 := low_anti h hv (show t ≤ f by omega)
    omega
theorem good_lt {l : List (Int × Int × Int)} {n : Nat} (g : goodU l n = true) : ∀ {j i : Nat} {p q : Int × Int × Int}, i < j → j < n → l[i]? = some p → l[j]? = some q → p.1 < q.1
  | 0, i, p, q, h, _, _, _ => by omega
  | j + 1, i, p, q, h, hj, hp, hq => by
    have ga := goodU_at g hj
    rw [okAt_some hq] at ga
    simp only [Bool.and_eq_true] at ga
    have gb := ga.2
    unfold behind at gb
    rw [Nat.add_sub_cancel, hq] at gb
    obtain ⟨r, hr⟩ : ∃ r, l[j]? = some r := ⟨l[j]'(by have := (List.getElem?_eq_some_iff.1 hq).1; omega), List.getElem?_eq_getElem _⟩
    rw [hr] at gb
    simp at gb
    by_cases e : i = j
    · subst e; rw [hr] at hp; cases hp; exact gb
    · have := good_lt g (j := j) (show i < j by omega) (by omega) hp hr
      omega
/-- At the place of a point a table has its value. -/
theorem line_point {l : List (Int × Int × Int)} (g : goodU l l.length = true) {k : Nat} {p : Int × Int × Int} (hp : l[k]? = some p) : lineAt l p.1 = (p.2.1, p.2.2) := by
  have hk := (List.getElem?_eq_some_iff.1 hp).1
  have hs : seg l p.1 = k + 1 := by
    refine seg_eq l (k + 1) (by omega) (fun i q hi hq => ?_) ?_
    · by_cases e : i = k
      · subst e; rw [hp] at hq; cases hq; omega
      · have := good_lt g (show i < k by omega) hk hq hp
        omega
    · by_cases e : k + 1 = l.length
      · exact Or.inl e
      · obtain ⟨q, hq⟩ : ∃ q, l[k + 1]? = some q := ⟨l[k + 1]'(by omega), List.getElem?_eq_getElem _⟩
        exact Or.inr ⟨q, hq, good_lt g (show k < k + 1 by omega) (by omega) hp hq⟩
  unfold lineAt
  rw [hs, if_neg (by omega)]
  by_cases e : k + 1 = l.length
  · rw [if_pos e, show l.length - 1 = k by omega, hp]
  · obtain ⟨q, hq⟩ : ∃ q, l[k + 1]? = some q := ⟨l[k + 1]'(by omega), List.getElem?_eq_getElem _⟩
    have hlt := good_lt g (show k < k + 1 by omega) (by omega) hp hq
    rw [if_neg e, Nat.add_sub_cancel, hp, hq]
    obtain ⟨e1, e2, _⟩ := low_end p.2.1 q.2.1 p.1 q.1 hlt
    obtain ⟨_, e4, _⟩ := low_end p.2.2 q.2.2 p.1 q.1 hlt
    dsimp only
    rw [e1, e4]
theorem acc_none {l : List (Int × Int × Int)} {xl xh : Int} {s : Int × Int} {k : Nat} (h : l[k]? = none) : accL l xl xh s (k + 1) = accL l xl xh s k := by
  show (match l[k]? with | some p => if inS xl xh p.1 = true then (min (accL l xl xh s k).1 p.2.1, max (accL l xl xh s k).2 p.2.2) else accL l xl xh s k | none => accL l xl xh s k) = _
  rw [h]
theorem line_zero {l : List (Int × Int × Int)} {n : Int} (h : seg l n = 0) : lineAt l n = (match l[0]? with | some p => (p.2.1, p.2.2) | none => (0, 0)) := if_pos h
theorem line_last {l : List (Int × Int × Int)} {n : Int} (h0 : l.length ≠ 0) (h : seg l n = l.length) : lineAt l n = (match l[l.length - 1]? with | some p => (p.2.1, p.2.2) | none => (0, 0)) :=
  (if_neg (by omega)).trans (if_pos h)
theorem acc_in {l : List (Int × Int × Int)} {xl xh : Int} {s : Int × Int} : ∀ {n : Nat}, ((accL l xl xh s n).1 ≤ s.1 ∧ s.2 ≤ (accL l xl xh s n).2) ∧ ∀ {k : Nat} {p : Int × Int × Int}, k < n → l[k]? = some p → inS xl xh p.1 = true → (accL l xl xh s n).1 ≤ p.2.1 ∧ p.2.2 ≤ (accL l xl xh s n).2
  | 0 => ⟨⟨Int.le_refl _, Int.le_refl _⟩, fun h => by omega⟩
  | n + 1 => by
    obtain ⟨h1, h2⟩ := acc_in (l := l) (xl := xl) (xh := xh) (s := s) (n := n)
    have step : (accL l xl xh s (n + 1)).1 ≤ (accL l xl xh s n).1 ∧ (accL l xl xh s n).2 ≤ (accL l xl xh s (n + 1)).2 := by
      cases hq : l[n]? with
      | none => rw [acc_none hq]; exact ⟨Int.le_refl _, Int.le_refl _⟩
      | some q =>
        rw [acc_step hq]
        split
        · dsimp only; omega
        · exact ⟨Int.le_refl _, Int.le_refl _⟩
    refine ⟨by omega, fun {k p} hk hp hi => ?_⟩
    by_cases e : k = n
    · subst e
      rw [acc_step hp, if_pos hi]
      dsimp only
      omega
    · have := h2 (show k < n by omega) hp hi
      omega
/-- At a point of a span a table has what its lines have there. -/
theorem look_point {l : List (Int × Int × Int)} (g : goodU l l.length = true) (n : Int) : ∀ k : Nat, accL l n n (lineAt l n) k = lineAt l n
  | 0 => rfl
  | k + 1 => by
    have ih := look_point g n k
    cases hq : l[k]? with
    | none => rw [acc_none hq]; exact ih
    | some q =>
      rw [acc_step hq, ih]
      split
      · rename_i h
        have e : q.1 = n := by unfold inS at h; simp at h; omega
        have hp := line_point g hq
        rw [e] at hp
        rw [hp]
        simp
      · rfl
theorem seg_at {l : List (Int × Int × Int)} {n : Int} {p q : Int × Int × Int} {k : Nat} (g : goodU l l.length = true) (hp : l[k]? = some p) (hq : l[k + 1]? = some q) (h : p.1 ≤ n ∧ n < q.1) :
    lineAt l n = (lowL p.2.1 q.2.1 n p.1 q.1, highL p.2.2 q.2.2 n p.1 q.1) := by
  have hk := (List.getElem?_eq_some_iff.1 hq).1
  have hs : seg l n = k + 1 := by
    refine seg_eq l (k + 1) (by omega) (fun i r hi hr => ?_) (Or.inr ⟨q, hq, h.2⟩)
    by_cases e : i = k
    · subst e; rw [hp] at hr; cases hr; exact h.1
    · have := good_lt g (show i < k by omega) (by omega) hr hp
      omega
  unfold lineAt
  rw [hs, if_neg (by omega), if_neg (by omega), Nat.add_sub_cancel, hp, hq]
/-- At any number of a span the lines are within what the table has at the span. -/
theorem line_in {l : List (Int × Int × Int)} (hl : 1 ≤ l.length) (g : goodU l l.length = true) {xl xh n : Int} (hc : chk xl xh = 0) (h : xl ≤ n ∧ n ≤ xh) : (lookS l xl xh).1 ≤ (lineAt l n).1 ∧ (lineAt l n).2 ≤ (lookS l xl xh).2.1 := by
  obtain ⟨h1, h2⟩ := acc_in (l := l) (xl := xl) (xh := xh) (s := (min (lineAt l xl).1 (lineAt l xh).1, max (lineAt l xl).2 (lineAt l xh).2)) (n := l.length)
  show (accL l xl xh (min (lineAt l xl).1 (lineAt l xh).1, max (lineAt l xl).2 (lineAt l xh).2) l.length).1 ≤ _ ∧ _ ≤ (accL l xl xh (min (lineAt l xl).1 (lineAt l xh).1, max (lineAt l xl).2 (lineAt l xh).2) l.length).2
  generalize accL l xl xh (min (lineAt l xl).1 (lineAt l xh).1, max (lineAt l xl).2 (lineAt l xh).2) l.length = A at *
  dsimp only at h1
  have hin : ∀ a : Int, xl ≤ a ∧ a ≤ xh → inS xl xh a = true := fun a ha => decide_eq_true ⟨hc, ha.1, ha.2⟩
  obtain ⟨hs1, hs2⟩ := seg_spec n l
  have hle := seg_le l n
  by_cases e0 : seg l n = 0
  · -- ahead of the first point: so is the span's lower end
    obtain ⟨p, hp, hn⟩ := hs2 (by omega)
    rw [e0] at hp
    have ex : seg l xl = 0 := seg_eq l 0 (by omega) (fun i q hi => by omega) (Or.inr ⟨p, hp, by omega⟩)
    have e : lineAt l n = lineAt l xl := (line_zero e0).trans (line_zero ex).symm
    rw [e]
    exact ⟨Int.le_trans h1.1 (Int.min_le_left _ _), Int.le_trans (Int.le_max_left _ _) h1.2⟩
  · by_cases e1 : seg l n = l.length
    · have ex : seg l xh = l.length := seg_eq l l.length (by omega) (fun i q hi hq => by have := hs1 i q (by omega) hq; omega) (Or.inl rfl)
      have e : lineAt l n = lineAt l xh := (line_last (by omega) e1).trans (line_last (by omega) ex).symm
      rw [e]
      exact ⟨Int.le_trans h1.1 (Int.min_le_right _ _), Int.le_trans (Int.le_max_right _ _) h1.2⟩
    · obtain ⟨q, hq, hqn⟩ := hs2 (by omega)
      obtain ⟨k, hk⟩ : ∃ k, seg l n = k + 1 := ⟨seg l n - 1, by omega⟩
      rw [hk] at hq
      obtain ⟨p, hp⟩ : ∃ p, l[k]? = some p := ⟨l[k]'(by omega), List.getElem?_eq_getElem _⟩
      have hpn := hs1 k p (by omega) hp
      have hlt := good_lt g (show k < k + 1 by omega) (by omega) hp hq
      rw [seg_at g hp hq ⟨hpn, hqn⟩]
      obtain ⟨f1, f2, f3, f4⟩ := low_end p.2.1 q.2.1 p.1 q.1 hlt
      obtain ⟨g1, g2, g3, g4⟩ := low_end p.2.2 q.2.2 p.1 q.1 hlt
      -- the nearer of the span's lower end and the point ahead; of its upper end and the point behind
      obtain ⟨u, hu, hu1, hu2⟩ : ∃ u, u ≤ n ∧ A.1 ≤ lowL p.2.1 q.2.1 u p.1 q.1 ∧ highL p.2.2 q.2.2 u p.1 q.1 ≤ A.2 := by
        by_cases c : xl ≤ p.1
        · have := h2 (show k < l.length by omega) hp (hin _ ⟨c, by omega⟩)
          exact ⟨p.1, hpn, by omega, by omega⟩
        · have e := seg_at g hp hq (n := xl) ⟨by omega, by omega⟩
          rw [e] at h1
          dsimp only at h1
          exact ⟨xl, h.1, by omega, by omega⟩
      obtain ⟨v, hv, hv1, hv2⟩ : ∃ v, n ≤ v ∧ A.1 ≤ lowL p.2.1 q.2.1 v p.1 q.1 ∧ highL p.2.2 q.2.2 v p.1 q.1 ≤ A.2 := by
        by_cases c : q.1 ≤ xh
        · have := h2 (show k + 1 < l.length by omega) hq (hin _ ⟨by omega, c⟩)
          exact ⟨q.1, by omega, by omega, by omega⟩
        · have e := seg_at g hp hq (n := xh) ⟨by omega, by omega⟩
          rw [e] at h1
          dsimp only at h1
          exact ⟨xh, h.2, by omega, by omega⟩
      have b1 := (low_between (f := p.2.1) (t := q.2.1) hlt hu hv).1
      have b2 := (low_between (f := p.2.2) (t := q.2.2) hlt hu hv).2
      dsimp only
      omega
end Go.Proofs.YtjleflfncijnpaaDoor
