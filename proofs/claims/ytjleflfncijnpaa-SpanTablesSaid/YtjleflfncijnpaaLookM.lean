/- The lines of a table: plain arithmetic. -/
import Derived.Test.YtjleflfncijnpaaRows
import Derived.Test.YtjleflfncijnpaaBase
import Derived.Test.YtjleflfncijnpaaFacts
import Derived.Test.YtjleflfncijnpaaTwo
import Derived.Deep.RegionHeld3
import Derived.Deep.RegionWith
import Derived.Deep.QuietTactic
import Derived.BigQuiet
import Derived.Test.YtjleflfncijnpaaQuo
import Derived.Test.YtjleflfncijnpaaRound
import Derived.Test.YtjleflfncijnpaaScaleM
import Derived.Test.YtjleflfncijnpaaTurnM
import Derived.Test.YtjleflfncijnpaaTabM
import Derived.Test.YtjleflfncijnpaaRatioR
set_option linter.unusedVariables false
set_option linter.unusedSimpArgs false
set_option maxHeartbeats 4000000
set_option maxRecDepth 100000
namespace Go.Proofs.Ytjleflfncijnpaa
open Go Go.RowKit
/-- The place of a number among those of a table: how many points lie not behind it. -/
def seg (l : List (Int × Int × Int)) (n : Int) : Nat := (l.takeWhile fun p => decide (p.1 ≤ n)).length
theorem seg_eq {n : Int} : ∀ (l : List (Int × Int × Int)) (k : Nat), k ≤ l.length → (∀ i p, i < k → l[i]? = some p → p.1 ≤ n) → (k = l.length ∨ ∃ p, l[k]? = some p ∧ n < p.1) → seg l n = k
  | [], k, h, _, _ => by have : k = 0 := Nat.le_zero.1 h; subst this; rfl
  | q :: l, 0, _, _, h => by
    rcases h with h | ⟨p, hp, hn⟩
    · cases h
    · simp at hp
      subst hp
      simp [seg, List.takeWhile, show ¬ q.1 ≤ n by omega]
  | q :: l, k + 1, hk, ha, h => by
    have h0 := ha 0 q (by omega) rfl
    have ih := seg_eq l k (by simp at hk; omega) (fun i p hi hp => ha (i + 1) p (by omega) (by simpa using hp)) (by
      rcases h with h | ⟨p, hp, hn⟩
      · left; simp at h; omega
      · right; exact ⟨p, by simpa using hp, hn⟩)
    unfold seg at ih ⊢
    simp [List.takeWhile, h0, ih]
theorem seg_le (l : List (Int × Int × Int)) (n : Int) : seg l n ≤ l.length := (List.takeWhile_sublist _).length_le
theorem seg_spec (n : Int) : ∀ (l : List (Int × Int × Int)), (∀ i p, i < seg l n → l[i]? = some p → p.1 ≤ n) ∧ (seg l n < l.length → ∃ q, l[seg l n]? = some q ∧ n < q.1)
  | [] => ⟨fun i p h => by simp [seg] at h, fun h => by simp at h⟩
  | q :: l => by
    by_cases c : q.1 ≤ n
    · have e : seg (q :: l) n = seg l n + 1 := by unfold seg; simp [List.takeWhile, c]
      obtain ⟨h1, h2⟩ := seg_spec n l
      rw [e]
      refine ⟨fun i p hi hp => ?_, fun h => ?_⟩
      · cases i with
        | zero => simp at hp; subst hp; exact c
        | succ i => exact h1 i p (by omega) (by simpa using hp)
      · obtain ⟨q', hq, hn⟩ := h2 (by simp at h; omega)
        exact ⟨q', by simpa using hq, hn⟩
    · have e : seg (q :: l) n = 0 := by unfold seg; simp [List.takeWhile, c]
      rw [e]
      exact ⟨fun i p hi => by omega, fun _ => ⟨q, rfl, by omega⟩⟩
/-- A part of a rise. -/
def lowL (f t n a d : Int) : Int := f + (t - f) * (n - a) / (d - a)
def highL (f t n a d : Int) : Int := f + cdQ ((t - f) * (n - a)) (d - a)
theorem part_bd {f t n a d : Int} (hf : -2305843009213693952 ≤ f ∧ f ≤ 2305843009213693952) (ht : -2305843009213693952 ≤ t ∧ t ≤ 2305843009213693952) (hn : a ≤ n ∧ n < d) :
    (t - f) * (n - a) / (d - a) ≤ cdQ ((t - f) * (n - a)) (d - a) ∧ -4611686018427387904 ≤ (t - f) * (n - a) / (d - a) ∧ cdQ ((t - f) * (n - a)) (d - a) ≤ 4611686018427387904 ∧
    min f t ≤ lowL f t n a d ∧ lowL f t n a d ≤ highL f t n a d ∧ highL f t n a d ≤ max f t := by
  have hd : 0 < d - a := by omega
  have e := cdQ_eq ((t - f) * (n - a)) (d - a) hd
  have k1 : (t - f) * (n - a) / (d - a) ≤ cdQ ((t - f) * (n - a)) (d - a) := by rw [e]; split <;> omega
  have key : ∀ r : Int, 0 ≤ n - a → n - a ≤ d - a → min 0 r * (d - a) ≤ r * (n - a) ∧ r * (n - a) ≤ max 0 r * (d - a) := fun r h1 h2 => by
    by_cases c : 0 ≤ r
    · rw [show min 0 r = 0 by omega, show max 0 r = r by omega, Int.zero_mul]
      exact ⟨Int.mul_nonneg c h1, Int.mul_le_mul_of_nonneg_left h2 c⟩
    · rw [show min 0 r = r by omega, show max 0 r = 0 by omega, Int.zero_mul]
      have x1 := Int.mul_le_mul_of_nonneg_left h2 (show 0 ≤ -r by omega)
      have x2 := Int.mul_nonneg (show 0 ≤ -r by omega) h1
      simp only [Int.neg_mul] at x1 x2
      constructor <;> omega
  obtain ⟨m1, m2⟩ := key (t - f) (by omega) (by omega)
  have q1 := le_ediv' hd m1
  have q2 := le_ediv' (c := -max 0 (t - f)) (a := -((t - f) * (n - a))) hd (by rw [Int.neg_mul]; omega)
  have q3 : cdQ ((t - f) * (n - a)) (d - a) = -(-((t - f) * (n - a)) / (d - a)) := rfl
  unfold lowL highL
  omega
/-- What both lines of a table have at a number. -/
def lineAt (l : List (Int × Int × Int)) (n : Int) : Int × Int :=
  if seg l n = 0 then (match l[0]? with | some p => (p.2.1, p.2.2) | none => (0, 0))
  else if seg l n = l.length then (match l[l.length - 1]? with | some p => (p.2.1, p.2.2) | none => (0, 0))
  else match l[seg l n - 1]?, l[seg l n]? with
    | some p, some q => (lowL p.2.1 q.2.1 n p.1 q.1, highL p.2.2 q.2.2 n p.1 q.1)
    | _, _ => (0, 0)
end Go.Proofs.Ytjleflfncijnpaa
