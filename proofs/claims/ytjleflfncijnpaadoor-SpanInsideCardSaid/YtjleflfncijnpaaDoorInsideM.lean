/- What is true of narrower spans is within what is true of wider ones: plain arithmetic. -/
import Derived.Test.YtjleflfncijnpaaDoorRows
import Derived.Test.YtjleflfncijnpaaDoorBase
import Derived.Test.YtjleflfncijnpaaDoorFacts
import Derived.Test.YtjleflfncijnpaaDoorTwo
import Derived.Deep.RegionHeld3
import Derived.Deep.RegionWith
import Derived.Deep.QuietTactic
import Derived.BigQuiet
import Derived.Test.YtjleflfncijnpaaDoorQuo
import Derived.Test.YtjleflfncijnpaaDoorRound
import Derived.Test.YtjleflfncijnpaaDoorScaleM
import Derived.Test.YtjleflfncijnpaaDoorMul
import Derived.Test.YtjleflfncijnpaaDoorMulR
import Derived.Test.YtjleflfncijnpaaDoorRootM
import Derived.Test.YtjleflfncijnpaaDoorRootT
import Derived.Test.YtjleflfncijnpaaDoorPicks
import Derived.Test.YtjleflfncijnpaaDoorSets
import Derived.Test.YtjleflfncijnpaaDoorRatioR
import Derived.Test.YtjleflfncijnpaaDoorDivR
import Derived.Test.YtjleflfncijnpaaDoorSums
import Derived.Test.YtjleflfncijnpaaDoorSums2
import Derived.Test.YtjleflfncijnpaaDoorHoldsM
import Derived.Test.YtjleflfncijnpaaDoorTurnM
import Derived.Test.YtjleflfncijnpaaDoorShare
import Derived.Test.YtjleflfncijnpaaDoorTurn
import Derived.Test.YtjleflfncijnpaaDoorTurnT
import Derived.Test.YtjleflfncijnpaaDoorCircleM
set_option linter.unusedVariables false
set_option linter.unusedSimpArgs false
set_option maxHeartbeats 4000000
set_option maxRecDepth 100000
namespace Go.Proofs.YtjleflfncijnpaaDoor
open Go Go.RowKit
/-- One result within another one, if that has no error. -/
def inR (p q : Int × Int × Int) : Prop := q.2.2 = 0 → p.2.2 = 0 ∧ -9223372036854775807 ≤ q.1 ∧ q.1 ≤ p.1 ∧ p.1 ≤ p.2.1 ∧ p.2.1 ≤ q.2.1
theorem fit_in {lo hi l h : Int} (k : lo ≤ l ∧ l ≤ h ∧ h ≤ hi) : inR (fitS l h) (fitS lo hi) := by
  intro e
  rcases fit_cases lo hi with ⟨q, hv⟩ | q
  · rw [q, fitS_good (lo := l) (hi := h) (by omega)]
    exact ⟨rfl, hv.1.1, k⟩
  · rw [q] at e; cases e
/-- Two spans, valid, and parts of them. -/
structure Parts (al ah bl bh xl xh yl yh : Int) : Prop where
  a : -9223372036854775807 ≤ al ∧ ah ≤ 9223372036854775807
  b : -9223372036854775807 ≤ bl ∧ bh ≤ 9223372036854775807
  x : al ≤ xl ∧ xl ≤ xh ∧ xh ≤ ah
  y : bl ≤ yl ∧ yl ≤ yh ∧ yh ≤ bh
section
variable {al ah bl bh xl xh yl yh : Int}
theorem Parts.chks (P : Parts al ah bl bh xl xh yl yh) : chk al ah = 0 ∧ chk bl bh = 0 ∧ chk xl xh = 0 ∧ chk yl yh = 0 := by
  obtain ⟨a, b, x, y⟩ := P
  exact ⟨if_neg (by omega), if_neg (by omega), if_neg (by omega), if_neg (by omega)⟩
theorem Parts.both (P : Parts al ah bl bh xl xh yl yh) : bothS al ah bl bh = 0 ∧ bothS xl xh yl yh = 0 := by
  obtain ⟨c1, c2, c3, c4⟩ := P.chks
  unfold bothS
  rw [if_pos c1, if_pos c3]
  exact ⟨c2, c4⟩
theorem add_in (P : Parts al ah bl bh xl xh yl yh) : inR (addS xl xh yl yh) (addS al ah bl bh) := by
  obtain ⟨h1, h2⟩ := P.both
  obtain ⟨a, b, x, y⟩ := P
  unfold addS
  rw [if_pos h1, if_pos h2]
  exact fit_in (by omega)
theorem sub_in (P : Parts al ah bl bh xl xh yl yh) : inR (subS xl xh yl yh) (subS al ah bl bh) := by
  obtain ⟨h1, h2⟩ := P.both
  obtain ⟨a, b, x, y⟩ := P
  unfold subS
  rw [if_pos h1, if_pos h2]
  exact fit_in (by omega)
theorem pK_in (P : Parts al ah bl bh xl xh yl yh) : mnK (pK al ah bl bh) 4 ≤ mnK (pK xl xh yl yh) 4 ∧ mnK (pK xl xh yl yh) 4 ≤ mxK (pK xl xh yl yh) 4 ∧ mxK (pK xl xh yl yh) 4 ≤ mxK (pK al ah bl bh) 4 := by
  obtain ⟨a, b, x, y⟩ := P
  have h0 := pK_holds (al := al) (ah := ah) (bl := bl) (bh := bh) (x := xl) (y := yl) (by omega) (by omega)
  have h1 := pK_holds (al := al) (ah := ah) (bl := bl) (bh := bh) (x := xl) (y := yh) (by omega) (by omega)
  have h2 := pK_holds (al := al) (ah := ah) (bl := bl) (bh := bh) (x := xh) (y := yl) (by omega) (by omega)
  have h3 := pK_holds (al := al) (ah := ah) (bl := bl) (bh := bh) (x := xh) (y := yh) (by omega) (by omega)
  rw [mn4_val (pK xl xh yl yh), mx4_val (pK xl xh yl yh)]
  show _ ≤ min (min (min (xl * yl) (xl * yh)) (xh * yl)) (xh * yh) ∧ min (min (min (xl * yl) (xl * yh)) (xh * yl)) (xh * yh) ≤ max (max (max (xl * yl) (xl * yh)) (xh * yl)) (xh * yh) ∧ max (max (max (xl * yl) (xl * yh)) (xh * yl)) (xh * yh) ≤ _
  omega
theorem mul_in (P : Parts al ah bl bh xl xh yl yh) : inR (mulS xl xh yl yh) (mulS al ah bl bh) := by
  obtain ⟨h1, h2⟩ := P.both
  have k := pK_in P
  unfold mulS
  rw [if_pos h1, if_pos h2, mul_fit, mul_fit]
  exact fit_in (by omega)
theorem dn_ge {l p d : Int} (hd : d ≠ 0) (h1 : 0 < d → l * d ≤ p) (h2 : d < 0 → p ≤ l * d) : l ≤ dnQ p d := by
  unfold dnQ
  by_cases c : d < 0
  · rw [if_pos c]
    refine le_ediv' (by omega) ?_
    have := h2 c
    rw [Int.mul_neg]
    omega
  · rw [if_neg c]
    exact le_ediv' (by omega) (h1 (by omega))
theorem up_le {h p d : Int} (hd : d ≠ 0) (h1 : 0 < d → p ≤ h * d) (h2 : d < 0 → h * d ≤ p) : upQ p d ≤ h := by
  have := dn_ge (l := -h) (p := -p) hd (fun c => by have := h1 c; rw [Int.neg_mul]; omega) (fun c => by have := h2 c; rw [Int.neg_mul]; omega)
  unfold upQ
  omega
theorem div_in (P : Parts al ah bl bh xl xh yl yh) : inR (divS xl xh yl yh) (divS al ah bl bh) := by
  obtain ⟨h1, h2⟩ := P.both
  have hP := P
  obtain ⟨a, b, x, y⟩ := P
  obtain ⟨lo, hi, e, q, hv, r⟩ := div_cases al ah bl bh h1 ⟨by omega, by omega⟩
  intro he
  rw [q] at he ⊢
  change e = 0 at he
  rcases r with ⟨_, r⟩ | r | r
  · have hn : ¬ (bl ≤ 0 ∧ 0 ≤ bh) := fun c => by
      have := (r al 0 ⟨by omega, by omega⟩ ⟨c.1, c.2⟩).2.2
      exact this rfl
    have key : ∀ u v : Int, xl ≤ u ∧ u ≤ xh → yl ≤ v ∧ v ≤ yh → lo ≤ dnQ (u * 4294967296) v ∧ dnQ (u * 4294967296) v ≤ upQ (u * 4294967296) v ∧ upQ (u * 4294967296) v ≤ hi := fun u v hu hv => by
      obtain ⟨r1, r2, r3⟩ := r u v (by omega) (by omega)
      exact ⟨dn_ge r3 (fun c => (r1 c).1) (fun c => (r2 c).2), dn_le u 4294967296 v r3, up_le r3 (fun c => (r1 c).2) (fun c => (r2 c).1)⟩
    have k0 := key xl yl (by omega) (by omega)
    have k1 := key xl yh (by omega) (by omega)
    have k2 := key xh yl (by omega) (by omega)
    have k3 := key xh yh (by omega) (by omega)
    have hi' : divS xl xh yl yh = fitS (mnK (dK xl xh yl yh) 4) (mxK (uK xl xh yl yh) 4) := (if_pos h2).trans ((if_neg (by omega)).trans (div_fit xl xh yl yh (by omega) (by omega)))
    have m : lo ≤ mnK (dK xl xh yl yh) 4 ∧ mnK (dK xl xh yl yh) 4 ≤ mxK (uK xl xh yl yh) 4 ∧ mxK (uK xl xh yl yh) 4 ≤ hi := by
      rw [mn4_val, mx4_val]
      show lo ≤ min (min (min (dnQ (xl * 4294967296) yl) (dnQ (xl * 4294967296) yh)) (dnQ (xh * 4294967296) yl)) (dnQ (xh * 4294967296) yh) ∧
        min (min (min (dnQ (xl * 4294967296) yl) (dnQ (xl * 4294967296) yh)) (dnQ (xh * 4294967296) yl)) (dnQ (xh * 4294967296) yh) ≤ max (max (max (upQ (xl * 4294967296) yl) (upQ (xl * 4294967296) yh)) (upQ (xh * 4294967296) yl)) (upQ (xh * 4294967296) yh) ∧
        max (max (max (upQ (xl * 4294967296) yl) (upQ (xl * 4294967296) yh)) (upQ (xh * 4294967296) yl)) (upQ (xh * 4294967296) yh) ≤ hi
      omega
    rw [hi', fitS_good (by omega)]
    exact ⟨rfl, by dsimp only; omega, by dsimp only; omega, by dsimp only; omega, by dsimp only; omega⟩
  · omega
  · omega
theorem neg_in (P : Parts al ah bl bh xl xh yl yh) : inR (negS xl xh) (negS al ah) := by
  obtain ⟨c1, c2, c3, c4⟩ := P.chks
  obtain ⟨a, b, x, y⟩ := P
  unfold negS
  rw [if_pos c1, if_pos c3]
  exact fun _ => ⟨rfl, by dsimp only; omega, by dsimp only; omega, by dsimp only; omega, by dsimp only; omega⟩
theorem abs_in' (P : Parts al ah bl bh xl xh yl yh) : (absS xl xh).2.2 = 0 ∧ (absS al ah).2.2 = 0 ∧ 0 ≤ (absS al ah).1 ∧ (absS al ah).1 ≤ (absS xl xh).1 ∧ (absS xl xh).1 ≤ (absS xl xh).2.1 ∧ (absS xl xh).2.1 ≤ (absS al ah).2.1 ∧ (absS al ah).2.1 ≤ 9223372036854775807 := by
  obtain ⟨c1, c2, c3, c4⟩ := P.chks
  obtain ⟨a, b, x, y⟩ := P
  have e1 : absS al ah = (max (max al (-ah)) 0, max (-al) ah, 0) := by
    unfold absS; rw [if_pos c1]; (repeat' split) <;> (refine Prod.ext ?_ (Prod.ext ?_ rfl) <;> dsimp only <;> omega)
  have e2 : absS xl xh = (max (max xl (-xh)) 0, max (-xl) xh, 0) := by
    unfold absS; rw [if_pos c3]; (repeat' split) <;> (refine Prod.ext ?_ (Prod.ext ?_ rfl) <;> dsimp only <;> omega)
  rw [e1, e2]
  exact ⟨rfl, rfl, by dsimp only; omega, by dsimp only; omega, by dsimp only; omega, by dsimp only; omega, by dsimp only; omega⟩
theorem abs_in (P : Parts al ah bl bh xl xh yl yh) : inR (absS xl xh) (absS al ah) := by
  obtain ⟨h1, h2, h3, h4, h5, h6, h7⟩ := abs_in' P
  exact fun _ => ⟨h1, by omega, h4, h5, h6⟩
theorem square_in (P : Parts al ah bl bh xl xh yl yh) : inR (squareS xl xh) (squareS al ah) := by
  obtain ⟨c1, c2, c3, c4⟩ := P.chks
  obtain ⟨h1, h2, h3, h4, h5, h6, h7⟩ := abs_in' P
  unfold squareS
  rw [if_pos c1, if_pos c3]
  have k1 := sq_le h3 h4
  have k2 := sq_le (by omega) h5
  have k3 := sq_le (by omega) h6
  exact fit_in (by omega)
theorem frac_le {a b c d : Int} (hb : 0 < b) (hd : 0 < d) (h : a * d ≤ c * b) : a / b ≤ c / d ∧ cdQ a b ≤ cdQ c d := by
  have key : ∀ a b c d : Int, 0 < b → 0 < d → a * d ≤ c * b → a / b ≤ c / d := fun a b c d hb hd h => by
    refine le_ediv' hd ?_
    refine Int.le_of_mul_le_mul_right (?_ : _ * b ≤ _ * b) hb
    have k := Int.mul_le_mul_of_nonneg_right (Int.ediv_mul_le a (show b ≠ 0 by omega)) (show 0 ≤ d by omega)
    rw [Int.mul_right_comm] at k
    omega
  refine ⟨key a b c d hb hd h, ?_⟩
  have := key (-c) d (-a) b hd hb (by rw [Int.neg_mul, Int.neg_mul]; omega)
  unfold cdQ
  omega
theorem cos_le {u v : Int} (h : 0 ≤ u ∧ u ≤ v ∧ v ≤ 4294967296) : cosQ v / oneQ v ≤ cosQ u / oneQ u ∧ cdQ (cosQ v) (oneQ v) ≤ cdQ (cosQ u) (oneQ u) := by
  obtain ⟨_, _, _, p1, _⟩ := cos_bd (t := u) (by omega)
  obtain ⟨_, _, _, p2, _⟩ := cos_bd (t := v) (by omega)
  refine frac_le p2 p1 ?_
  have k := sq_le h.1 h.2.1
  unfold cosQ oneQ
  generalize u * u = U at *
  generalize v * v = V at *
  have e : (18446744073709551616 - V) * 4294967296 * (18446744073709551616 + U) = (18446744073709551616 * 18446744073709551616 + 18446744073709551616 * U - 18446744073709551616 * V - V * U) * 4294967296 := by
    rw [Int.mul_right_comm]; simp only [Int.sub_mul, Int.mul_add]; omega
  have e2 : (18446744073709551616 - U) * 4294967296 * (18446744073709551616 + V) = (18446744073709551616 * 18446744073709551616 + 18446744073709551616 * V - 18446744073709551616 * U - V * U) * 4294967296 := by
    rw [Int.mul_right_comm, Int.mul_comm V U]; simp only [Int.sub_mul, Int.mul_add]; omega
  rw [e, e2]
  generalize V * U = X
  omega
theorem sin_le {u v : Int} (h : -4294967296 ≤ u ∧ u ≤ v ∧ v ≤ 4294967296) : sinQ u / oneQ u ≤ sinQ v / oneQ v ∧ cdQ (sinQ u) (oneQ u) ≤ cdQ (sinQ v) (oneQ v) := by
  obtain ⟨_, _, _, p1, _⟩ := cos_bd (t := u) (by omega)
  obtain ⟨_, _, _, p2, _⟩ := cos_bd (t := v) (by omega)
  refine frac_le p1 p2 ?_
  have b : u * v ≤ 18446744073709551616 := by
    have m := mul_bd (x := ab u) (y := ab v) (a := 4294967296) (b := 4294967296) (by unfold ab; split <;> omega) (by unfold ab; split <;> omega)
    have v' := ab_mul' u v
    simp only [Int.reduceMul] at m
    rw [v']; split <;> omega
  have k : 0 ≤ (v - u) * (18446744073709551616 - u * v) := Int.mul_nonneg (by omega) (by omega)
  unfold sinQ oneQ
  have e : (v - u) * (18446744073709551616 - u * v) = v * (18446744073709551616 + u * u) - u * (18446744073709551616 + v * v) := by
    have e1 : v * (u * v) = u * (v * v) := by rw [← Int.mul_assoc, Int.mul_comm v u, Int.mul_assoc]
    have e2 : u * (u * v) = v * (u * u) := by rw [Int.mul_comm u v, ← Int.mul_assoc, Int.mul_comm u v, Int.mul_assoc]
    simp only [Int.sub_mul, Int.mul_sub, Int.mul_add, e1, e2]
    omega
  rw [e] at k
  rw [Int.mul_right_comm u, Int.mul_right_comm v]
  omega
theorem most_in (P : Parts al ah bl bh xl xh yl yh) : inR (mostS xl xh yl yh) (mostS al ah bl bh) := by
  obtain ⟨h1, h2⟩ := P.both
  obtain ⟨a, b, x, y⟩ := P
  unfold mostS
  rw [if_pos h1, if_pos h2]
  exact fun _ => ⟨rfl, by dsimp only; omega, by dsimp only; omega, by dsimp only; omega, by dsimp only; omega⟩
theorem least_in (P : Parts al ah bl bh xl xh yl yh) : inR (leastS xl xh yl yh) (leastS al ah bl bh) := by
  obtain ⟨h1, h2⟩ := P.both
  obtain ⟨a, b, x, y⟩ := P
  unfold leastS
  rw [if_pos h1, if_pos h2]
  exact fun _ => ⟨rfl, by dsimp only; omega, by dsimp only; omega, by dsimp only; omega, by dsimp only; omega⟩
theorem hull_in (P : Parts al ah bl bh xl xh yl yh) : inR (hullS xl xh yl yh) (hullS al ah bl bh) := by
  obtain ⟨h1, h2⟩ := P.both
  obtain ⟨a, b, x, y⟩ := P
  unfold hullS
  rw [if_pos h1, if_pos h2]
  exact fun _ => ⟨rfl, by dsimp only; omega, by dsimp only; omega, by dsimp only; omega, by dsimp only; omega⟩
/-- The directions. -/
theorem turn_in (P : Parts al ah bl bh xl xh yl yh) : inR ((turnS xl xh).1, (turnS xl xh).2.1, (turnS xl xh).2.2.2.2) ((turnS al ah).1, (turnS al ah).2.1, (turnS al ah).2.2.2.2) ∧ inR ((turnS xl xh).2.2.1, (turnS xl xh).2.2.2.1, (turnS xl xh).2.2.2.2) ((turnS al ah).2.2.1, (turnS al ah).2.2.2.1, (turnS al ah).2.2.2.2) := by
  obtain ⟨c1, c2, c3, c4⟩ := P.chks
  obtain ⟨h1, h2, h3, h4, h5, h6, h7⟩ := abs_in' P
  obtain ⟨a, b, x, y⟩ := P
  by_cases c : -4294967296 ≤ al ∧ ah ≤ 4294967296
  · have q1 : turnS al ah = _ := (if_pos c1).trans (if_pos c)
    have q2 : turnS xl xh = _ := (if_pos c3).trans (if_pos (by omega))
    obtain ⟨_, _, _, h8⟩ := abs_bd c1 ⟨c.1, by omega, c.2⟩
    have k1 := cos_le (u := (absS xl xh).2.1) (v := (absS al ah).2.1) (by omega)
    have k2 := cos_le (u := (absS al ah).1) (v := (absS xl xh).1) (by omega)
    have k3 := cos_le (u := (absS xl xh).1) (v := (absS xl xh).2.1) (by omega)
    have k4 := cos_bd (t := (absS xl xh).2.1) (by omega)
    have k8 := cos_bd (t := (absS al ah).2.1) (by omega)
    have k5 := sin_le (u := al) (v := xl) (by omega)
    have k6 := sin_le (u := xh) (v := ah) (by omega)
    have k7 := sin_le (u := xl) (v := xh) (by omega)
    have k9 := sin_bd (t := xl) (by omega)
    have k10 := sin_bd (t := al) (by omega)
    rw [q1, q2]
    exact ⟨fun _ => ⟨rfl, by dsimp only; omega, by dsimp only; omega, by dsimp only; omega, by dsimp only; omega⟩, fun _ => ⟨rfl, by dsimp only; omega, by dsimp only; omega, by dsimp only; omega, by dsimp only; omega⟩⟩
  · have q1 : turnS al ah = _ := (if_pos c1).trans (if_neg c)
    rw [q1]
    exact ⟨fun h => (by cases h), fun h => (by cases h)⟩
end
end Go.Proofs.YtjleflfncijnpaaDoor
