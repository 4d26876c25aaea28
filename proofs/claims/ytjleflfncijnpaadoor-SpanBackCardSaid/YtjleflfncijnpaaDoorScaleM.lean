/- What the corners come to, by plain arithmetic. -/
import Derived.Test.YtjleflfncijnpaaDoorBase
import Derived.Test.YtjleflfncijnpaaDoorQuo
set_option linter.unusedVariables false
set_option linter.unusedSimpArgs false
namespace Go.Proofs.YtjleflfncijnpaaDoor
open Go Go.RowKit
theorem dn_one (p : Int) : dnQ p 1 = p ∧ upQ p 1 = p := by
  unfold upQ dnQ; simp
theorem ft_one (p : Int) : ftQ p 1 = decide (-9223372036854775807 ≤ p ∧ p ≤ 9223372036854775807) := by
  unfold ftQ; rw [(dn_one p).1, (dn_one p).2]
def scaleS (lo hi n : Int) : Int × Int × Int := if chk lo hi = 0 then fitS (min (lo * n) (hi * n)) (max (lo * n) (hi * n)) else (0, 0, 2)
def cornS (d u : Int → Int → Int) (f : Int → Int → Bool) (al ah bl bh : Int) : Int × Int × Int :=
  if f al bl = true ∧ f al bh = true ∧ f ah bl = true ∧ f ah bh = true then
    (min (min (min (min 9223372036854775807 (d al bl)) (d al bh)) (d ah bl)) (d ah bh), max (max (max (max (-9223372036854775807) (u al bl)) (u al bh)) (u ah bl)) (u ah bh), 0)
  else (0, 0, 4)
theorem fitS_all {lo hi : Int} (h : -9223372036854775807 ≤ lo ∧ lo ≤ 9223372036854775807 ∧ -9223372036854775807 ≤ hi ∧ hi ≤ 9223372036854775807) : fitS lo hi = (lo, hi, 0) := if_pos h
theorem fitS_none {lo hi : Int} (h : ¬ (-9223372036854775807 ≤ lo ∧ lo ≤ 9223372036854775807 ∧ -9223372036854775807 ≤ hi ∧ hi ≤ 9223372036854775807)) : fitS lo hi = (0, 0, 4) := if_neg h
theorem rd_of {p d : Int} (h : ftQ p d = true) : rdQ p d = dnQ p d ∧ ruQ p d = upQ p d := ⟨by unfold rdQ; rw [h]; rfl, by unfold ruQ; rw [h]; rfl⟩
theorem min_m (a b c d : Int) (h : a ≤ 9223372036854775807) : min (min (min (min 9223372036854775807 a) b) c) d = min (min (min a b) c) d := by omega
theorem max_m (a b c d : Int) (h : -9223372036854775807 ≤ a) : max (max (max (max (-9223372036854775807) a) b) c) d = max (max (max a b) c) d := by omega
/-- The four corners of two spans, each rounded, and whether all fit: as the least of the rounded, the greatest. -/
theorem corn_fit (x : Int → Int → Int) (d : Int → Int → Int) (al ah bl bh : Int) (h1 : dnQ (x al bl) (d al bl) ≤ upQ (x al bl) (d al bl)) (h2 : dnQ (x al bh) (d al bh) ≤ upQ (x al bh) (d al bh))
    (h3 : dnQ (x ah bl) (d ah bl) ≤ upQ (x ah bl) (d ah bl)) (h4 : dnQ (x ah bh) (d ah bh) ≤ upQ (x ah bh) (d ah bh)) :
    cornS (fun a b => rdQ (x a b) (d a b)) (fun a b => ruQ (x a b) (d a b)) (fun a b => ftQ (x a b) (d a b)) al ah bl bh =
    fitS (min (min (min (dnQ (x al bl) (d al bl)) (dnQ (x al bh) (d al bh))) (dnQ (x ah bl) (d ah bl))) (dnQ (x ah bh) (d ah bh)))
      (max (max (max (upQ (x al bl) (d al bl)) (upQ (x al bh) (d al bh))) (upQ (x ah bl) (d ah bl))) (upQ (x ah bh) (d ah bh))) := by
  unfold cornS
  by_cases c : ftQ (x al bl) (d al bl) = true ∧ ftQ (x al bh) (d al bh) = true ∧ ftQ (x ah bl) (d ah bl) = true ∧ ftQ (x ah bh) (d ah bh) = true
  · rw [if_pos c]
    obtain ⟨c1, c2, c3, c4⟩ := c
    simp only [(rd_of c1).1, (rd_of c2).1, (rd_of c3).1, (rd_of c4).1, (rd_of c1).2, (rd_of c2).2, (rd_of c3).2, (rd_of c4).2]
    have d1 := of_decide_eq_true c1; have d2 := of_decide_eq_true c2; have d3 := of_decide_eq_true c3; have d4 := of_decide_eq_true c4
    rw [fitS_all (by omega), min_m _ _ _ _ (by omega), max_m _ _ _ _ (by omega)]
  · rw [if_neg c, fitS_none]
    intro g
    refine c ⟨decide_eq_true ?_, decide_eq_true ?_, decide_eq_true ?_, decide_eq_true ?_⟩ <;> omega
theorem corn_scale (lo hi n : Int) : cornS (fun x y => rdQ (x * y) 1) (fun x y => ruQ (x * y) 1) (fun x y => ftQ (x * y) 1) lo hi n n = fitS (min (lo * n) (hi * n)) (max (lo * n) (hi * n)) := by
  have k : ∀ p : Int, dnQ p 1 ≤ upQ p 1 := fun p => by rw [(dn_one p).1, (dn_one p).2]; exact Int.le_refl _
  rw [corn_fit (fun x y => x * y) (fun _ _ => 1) lo hi n n (k _) (k _) (k _) (k _)]
  simp only [(dn_one _).1, (dn_one _).2]
  rw [show min (min (min (lo * n) (lo * n)) (hi * n)) (hi * n) = min (lo * n) (hi * n) by omega, show max (max (max (lo * n) (lo * n)) (hi * n)) (hi * n) = max (lo * n) (hi * n) by omega]
end Go.Proofs.YtjleflfncijnpaaDoor
