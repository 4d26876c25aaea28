/- The document's lines of a table: plain arithmetic. -/
import Derived.Test.YtjleflfncijnpaaRows
import Derived.Test.YtjleflfncijnpaaBase
import Derived.Test.YtjleflfncijnpaaFacts
import Derived.Test.YtjleflfncijnpaaTwo
import Derived.Deep.RegionHeld3
import Derived.Deep.RegionWith
import Derived.Deep.QuietTactic
import Derived.BigQuiet
import Derived.Test.YtjleflfncijnpaaQuo
import Derived.Test.YtjleflfncijnpaaRound
import Derived.Test.YtjleflfncijnpaaScaleM
import Derived.Test.YtjleflfncijnpaaTurnM
import Derived.Test.YtjleflfncijnpaaTabM
import Derived.Test.YtjleflfncijnpaaRatioR
import Derived.Test.YtjleflfncijnpaaLookM
import Derived.Test.YtjleflfncijnpaaTable
import Derived.Test.YtjleflfncijnpaaLookB
import Derived.Test.YtjleflfncijnpaaLookC
set_option linter.unusedVariables false
set_option linter.unusedSimpArgs false
set_option maxHeartbeats 4000000
set_option maxRecDepth 100000
namespace Go.Proofs.Ytjleflfncijnpaa
open Go Go.RowKit
/-- How many points lie ahead of a number. -/
def rseg (l : List (Int × Int × Int)) (n : Int) : Nat := (l.takeWhile fun p => decide (p.1 < n)).length
theorem rseg_eq {n : Int} : ∀ (l : List (Int × Int × Int)) (k : Nat), k ≤ l.length → (∀ i p, i < k → l[i]? = some p → p.1 < n) → (k = l.length ∨ ∃ p, l[k]? = some p ∧ n ≤ p.1) → rseg l n = k
  | [], k, h, _, _ => by have : k = 0 := Nat.le_zero.1 h; subst this; rfl
  | q :: l, 0, _, _, h => by
    rcases h with h | ⟨p, hp, hn⟩
    · cases h
    · simp at hp
      subst hp
      simp [rseg, List.takeWhile, show ¬ q.1 < n by omega]
  | q :: l, k + 1, hk, ha, h => by
    have h0 := ha 0 q (by omega) rfl
    have ih := rseg_eq l k (by simp at hk; omega) (fun i p hi hp => ha (i + 1) p (by omega) (by simpa using hp)) (by
      rcases h with h | ⟨p, hp, hn⟩
      · left; simp at h; omega
      · right; exact ⟨p, by simpa using hp, hn⟩)
    unfold rseg at ih ⊢
    simp [List.takeWhile, h0, ih]
theorem rseg_le (l : List (Int × Int × Int)) (n : Int) : rseg l n ≤ l.length := (List.takeWhile_sublist _).length_le
theorem rseg_spec (n : Int) : ∀ (l : List (Int × Int × Int)), (∀ i p, i < rseg l n → l[i]? = some p → p.1 < n) ∧ (rseg l n < l.length → ∃ q, l[rseg l n]? = some q ∧ n ≤ q.1)
  | [] => ⟨fun i p h => by simp [rseg] at h, fun h => by simp at h⟩
  | q :: l => by
    by_cases c : q.1 < n
    · have e : rseg (q :: l) n = rseg l n + 1 := by unfold rseg; simp [List.takeWhile, c]
      obtain ⟨h1, h2⟩ := rseg_spec n l
      rw [e]
      refine ⟨fun i p hi hp => ?_, fun h => ?_⟩
      · cases i with
        | zero => simp at hp; subst hp; exact c
        | succ i => exact h1 i p (by omega) (by simpa using hp)
      · obtain ⟨q', hq, hn⟩ := h2 (by simp at h; omega)
        exact ⟨q', by simpa using hq, hn⟩
    · have e : rseg (q :: l) n = 0 := by unfold rseg; simp [List.takeWhile, c]
      rw [e]
      exact ⟨fun i p hi => by omega, fun _ => ⟨q, rfl, by omega⟩⟩
/-- The bound of a point. -/
def bnd (u : Bool) (p : Int × Int × Int) : Int := if u then p.2.2 else p.2.1
/-- A line of a table, rounded down and up. -/
def rline (l : List (Int × Int × Int)) (u : Bool) (n : Int) : Int × Int :=
  if rseg l n = 0 then (match l[0]? with | some p => (bnd u p, bnd u p) | none => (0, 0))
  else if rseg l n = l.length then (match l[l.length - 1]? with | some p => (bnd u p, bnd u p) | none => (0, 0))
  else match l[rseg l n - 1]?, l[rseg l n]? with
    | some p, some q => (lowL (bnd u p) (bnd u q) n p.1 q.1, highL (bnd u p) (bnd u q) n p.1 q.1)
    | _, _ => (0, 0)
theorem low_end (f t a d : Int) (h : a < d) : lowL f t d a d = t ∧ highL f t d a d = t := by
  have e1 : (t - f) * (d - a) / (d - a) = t - f := Int.mul_ediv_cancel _ (by omega)
  have e2 : cdQ ((t - f) * (d - a)) (d - a) = t - f := by
    show -(-((t - f) * (d - a)) / (d - a)) = t - f
    rw [← Int.neg_mul, Int.mul_ediv_cancel _ (by omega)]; omega
  unfold lowL highL
  rw [e1, e2]; omega
theorem low_start (f t a d : Int) : lowL f t a a d = f ∧ highL f t a a d = f := by
  unfold lowL highL cdQ
  simp
theorem inc_of {l : List (Int × Int × Int)} (hg : goodU l l.length = true) {k : Nat} {p q : Int × Int × Int} (hp : l[k]? = some p) (hq : l[k + 1]? = some q) : p.1 < q.1 := by
  have hlt : k + 1 < l.length := (List.getElem?_eq_some_iff.1 hq).1
  have g := goodU_at hg hlt
  rw [okAt_some hq] at g
  simp only [Bool.and_eq_true] at g
  have := g.2
  unfold behind at this
  rw [Nat.add_sub_cancel, hp, hq] at this
  simpa using this
theorem get_some {l : List (Int × Int × Int)} {k : Nat} (h : k < l.length) : ∃ p, l[k]? = some p := ⟨l[k], List.getElem?_eq_getElem h⟩
theorem rline_eq {l : List (Int × Int × Int)} (hg : goodU l l.length = true) (h1 : 1 ≤ l.length) (n : Int) : (rline l false n).1 = (lineAt l n).1 ∧ (rline l true n).2 = (lineAt l n).2 := by
  obtain ⟨s1, s2⟩ := seg_spec n l
  obtain ⟨r1, r2⟩ := rseg_spec n l
  have sl := seg_le l n
  have rl := rseg_le l n
  unfold rline lineAt
  generalize seg l n = S at *
  generalize rseg l n = R at *
  have hRS : R ≤ S := by
    rcases Nat.lt_or_ge S R with h | h
    · obtain ⟨q, hq, hn⟩ := s2 (by omega)
      have := r1 S q h hq
      omega
    · exact h
  by_cases e : R = S
  · subst e
    by_cases c0 : R = 0
    · rw [if_pos c0, if_pos c0]
      obtain ⟨p, hp⟩ := get_some (show 0 < l.length by omega)
      simp [if_pos c0, hp, bnd]
    · rw [if_neg c0, if_neg c0]
      by_cases c1 : R = l.length
      · obtain ⟨p, hp⟩ := get_some (show l.length - 1 < l.length by omega)
        simp [if_neg c0, if_pos c1, hp, bnd]
      · obtain ⟨p, hp⟩ := get_some (show R - 1 < l.length by omega)
        obtain ⟨q, hq⟩ := get_some (show R < l.length by omega)
        simp [if_neg c0, if_neg c1, hp, hq, bnd]
  · obtain ⟨q, hq, hqn⟩ := r2 (by omega)
    have hq2 := s1 R q (by omega) hq
    have hn : n = q.1 := by omega
    have hS : S = R + 1 := by
      rcases Nat.lt_or_ge (R + 1) S with h | h
      · obtain ⟨p, hp⟩ := get_some (show R + 1 < l.length by omega)
        have := s1 (R + 1) p h hp
        have := inc_of hg hq hp
        omega
      · omega
    have hr : (if R = 0 then (match l[0]? with | some p => (bnd false p, bnd false p) | none => (0, 0))
        else if R = l.length then (match l[l.length - 1]? with | some p => (bnd false p, bnd false p) | none => (0, 0))
        else match l[R - 1]?, l[R]? with
          | some p, some q => (lowL (bnd false p) (bnd false q) n p.1 q.1, highL (bnd false p) (bnd false q) n p.1 q.1)
          | _, _ => ((0, 0) : Int × Int)).1 = q.2.1 ∧
        (if R = 0 then (match l[0]? with | some p => (bnd true p, bnd true p) | none => (0, 0))
        else if R = l.length then (match l[l.length - 1]? with | some p => (bnd true p, bnd true p) | none => (0, 0))
        else match l[R - 1]?, l[R]? with
          | some p, some q => (lowL (bnd true p) (bnd true q) n p.1 q.1, highL (bnd true p) (bnd true q) n p.1 q.1)
          | _, _ => ((0, 0) : Int × Int)).2 = q.2.2 := by
      by_cases c0 : R = 0
      · subst c0
        simp [hq, bnd]
      · have c1 : ¬ R = l.length := by omega
        obtain ⟨p, hp⟩ := get_some (show R - 1 < l.length by omega)
        have hi := inc_of hg hp (by rw [show R - 1 + 1 = R by omega]; exact hq)
        rw [if_neg c0, if_neg c1, if_neg c0, if_neg c1, hp, hq, hn]
        simp [bnd, (low_end p.2.1 q.2.1 p.1 q.1 hi).1, (low_end p.2.2 q.2.2 p.1 q.1 hi).2]
    rw [hr.1, hr.2]
    subst hS
    have z1 : ¬ (R + 1 = 0) := by omega
    rw [if_neg z1]
    by_cases c : R + 1 = l.length
    · rw [if_pos c, show l.length - 1 = R by omega, hq]; exact ⟨rfl, rfl⟩
    · obtain ⟨p, hp⟩ := get_some (show R + 1 < l.length by omega)
      rw [if_neg c, Nat.add_sub_cancel, hq, hp, hn]
      exact ⟨(low_start _ _ _ _).1.symm, (low_start _ _ _ _).2.symm⟩
/-- At a point of a table its line has its value. -/
theorem rline_at {l : List (Int × Int × Int)} (hg : goodU l l.length = true) {k : Nat} {p : Int × Int × Int} (hp : l[k]? = some p) : (rline l false p.1).1 = p.2.1 ∧ (rline l true p.1).2 = p.2.2 := by
  have hk : k < l.length := (List.getElem?_eq_some_iff.1 hp).1
  have inc : ∀ (d i : Nat) (q r : Int × Int × Int), l[i]? = some q → l[i + d + 1]? = some r → q.1 < r.1 := fun d => by
    induction d with
    | zero => intro i q r hq hr; exact inc_of hg hq hr
    | succ d ih =>
      intro i q r hq hr
      have hlt : i + (d + 1) + 1 < l.length := (List.getElem?_eq_some_iff.1 hr).1
      obtain ⟨s, hs⟩ := get_some (show i + d + 1 < l.length by omega)
      have := ih i q s hq hs
      have := inc_of hg hs (by rw [← hr]; congr 1)
      omega
  have hr : rseg l p.1 = k := rseg_eq l k (by omega) (fun i q hi hq => by
    have := inc (k - 1 - i) i q p hq (by rw [← hp]; congr 1; omega)
    exact this) (Or.inr ⟨p, hp, by omega⟩)
  unfold rline
  rw [hr]
  by_cases c0 : k = 0
  · subst c0; simp [hp, bnd]
  · have c1 : ¬ k = l.length := by omega
    obtain ⟨q, hq⟩ := get_some (show k - 1 < l.length by omega)
    have hi := inc_of hg hq (by rw [show k - 1 + 1 = k by omega]; exact hp)
    rw [if_neg c0, if_neg c1, if_neg c0, if_neg c1, hq, hp]
    simp [bnd, (low_end q.2.1 p.2.1 q.1 p.1 hi).1, (low_end q.2.2 p.2.2 q.1 p.1 hi).2]
/-- The places at which the document looks: both ends, and the points between them among the first k. -/
def placesL (l : List (Int × Int × Int)) (xl xh : Int) (k : Nat) : List Int := xl :: xh :: ((l.take k).filter fun p => decide (xl ≤ p.1) && decide (p.1 ≤ xh)).map (·.1)
/-- The least and the greatest value at the first k places. -/
def accP (l : List (Int × Int × Int)) (ps : List Int) : Nat → Int × Int
  | 0 => (0, 0)
  | k + 1 => match ps[k]? with
    | some n => if k = 0 then ((rline l false n).1, (rline l true n).2) else (min (accP l ps k).1 (rline l false n).1, max (accP l ps k).2 (rline l true n).2)
    | none => accP l ps k
theorem accP_step {l : List (Int × Int × Int)} {ps : List Int} {k : Nat} {n : Int} (h : ps[k]? = some n) :
    accP l ps (k + 1) = if k = 0 then ((rline l false n).1, (rline l true n).2) else (min (accP l ps k).1 (rline l false n).1, max (accP l ps k).2 (rline l true n).2) := by
  show (match ps[k]? with | some n => if k = 0 then ((rline l false n).1, (rline l true n).2) else (min (accP l ps k).1 (rline l false n).1, max (accP l ps k).2 (rline l true n).2) | none => accP l ps k) = _
  rw [h]
theorem accP_app (l : List (Int × Int × Int)) (ps qs : List Int) : ∀ k, k ≤ ps.length → accP l (ps ++ qs) k = accP l ps k
  | 0, _ => rfl
  | k + 1, h => by
    have e : (ps ++ qs)[k]? = ps[k]? := List.getElem?_append_left (by omega)
    obtain ⟨n, hn⟩ : ∃ n, ps[k]? = some n := ⟨ps[k]'(by omega), List.getElem?_eq_getElem (by omega)⟩
    rw [accP_step (by rw [e]; exact hn), accP_step hn, accP_app l ps qs k (by omega)]
theorem places_succ {l : List (Int × Int × Int)} {xl xh : Int} {k : Nat} {p : Int × Int × Int} (hp : l[k]? = some p) :
    placesL l xl xh (k + 1) = placesL l xl xh k ++ (if xl ≤ p.1 ∧ p.1 ≤ xh then [p.1] else []) := by
  have hk : k < l.length := (List.getElem?_eq_some_iff.1 hp).1
  have hv : l[k] = p := by have := List.getElem?_eq_getElem hk; rw [hp] at this; exact (Option.some.inj this).symm
  unfold placesL
  rw [List.take_succ_eq_append_getElem hk, hv, List.filter_append, List.map_append]
  by_cases c : xl ≤ p.1 ∧ p.1 ≤ xh
  · simp [List.filter_cons, c.1, c.2]
  · have : (decide (xl ≤ p.1) && decide (p.1 ≤ xh)) = false := by
      rw [Bool.and_eq_false_iff]
      by_cases c1 : xl ≤ p.1
      · right; simp; omega
      · left; simp; omega
    simp [List.filter_cons, this, if_neg c]
theorem accP_all {l : List (Int × Int × Int)} {xl xh : Int} (hg : goodU l l.length = true) (h1 : 1 ≤ l.length) (hc : chk xl xh = 0) : ∀ k, k ≤ l.length →
    accP l (placesL l xl xh k) (placesL l xl xh k).length = accL l xl xh (min (lineAt l xl).1 (lineAt l xh).1, max (lineAt l xl).2 (lineAt l xh).2) k
  | 0, _ => by
    show accP l [xl, xh] 2 = _
    rw [accP_step (n := xh) rfl, accP_step (n := xl) rfl]
    simp [accL, (rline_eq hg h1 xl).1, (rline_eq hg h1 xl).2, (rline_eq hg h1 xh).1, (rline_eq hg h1 xh).2]
  | k + 1, hk => by
    obtain ⟨p, hp⟩ := get_some (show k < l.length by omega)
    have ih := accP_all (xl := xl) (xh := xh) hg h1 hc k (by omega)
    have hi : inS xl xh p.1 = decide (xl ≤ p.1 ∧ p.1 ≤ xh) := by unfold inS; simp [hc]
    rw [acc_step hp, places_succ hp, hi]
    by_cases c : xl ≤ p.1 ∧ p.1 ≤ xh
    · rw [if_pos c, if_pos (decide_eq_true c), List.length_append]
      show accP l (placesL l xl xh k ++ [p.1]) ((placesL l xl xh k).length + 1) = _
      rw [accP_step (n := p.1) (by simp), accP_app _ _ _ _ (Nat.le_refl _), ih, if_neg (by simp [placesL]), (rline_at hg hp).1, (rline_at hg hp).2]
    · rw [if_neg c, if_neg (by simpa using c), List.append_nil, ih]
theorem places_len (l : List (Int × Int × Int)) (xl xh : Int) (k : Nat) : 2 ≤ (placesL l xl xh k).length ∧ (placesL l xl xh k).length ≤ k + 2 := by
  unfold placesL
  have := List.length_filter_le (fun p : Int × Int × Int => decide (xl ≤ p.1) && decide (p.1 ≤ xh)) (l.take k)
  have h2 : (l.take k).length ≤ k := List.length_take_le _ _
  simp at this ⊢
  omega
theorem places_mem {l : List (Int × Int × Int)} {xl xh : Int} {k : Nat} {n : Int} (h : n ∈ placesL l xl xh k) : n = xl ∨ n = xh ∨ ∃ p ∈ l, n = p.1 := by
  unfold placesL at h
  simp only [List.mem_cons, List.mem_map, List.mem_filter] at h
  rcases h with h | h | ⟨p, ⟨hp, _⟩, rfl⟩
  · exact Or.inl h
  · exact Or.inr (Or.inl h)
  · exact Or.inr (Or.inr ⟨p, List.mem_of_mem_take hp, rfl⟩)
end Go.Proofs.Ytjleflfncijnpaa
