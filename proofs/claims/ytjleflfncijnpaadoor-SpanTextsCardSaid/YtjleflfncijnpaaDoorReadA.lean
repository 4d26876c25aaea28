/- Read of any text, by package span. -/
import Derived.Test.YtjleflfncijnpaaDoorRows
import Derived.Test.YtjleflfncijnpaaDoorBase
import Derived.Test.YtjleflfncijnpaaDoorFacts
import Derived.Test.YtjleflfncijnpaaDoorTwo
import Derived.Deep.RegionHeld3
import Derived.Deep.RegionWith
import Derived.Deep.QuietTactic
import Derived.BigQuiet
import Derived.Test.YtjleflfncijnpaaDoorSeq
import Derived.Test.YtjleflfncijnpaaDoorTwo
import Derived.Test.YtjleflfncijnpaaDoorOne
import Derived.Test.YtjleflfncijnpaaDoorShelfT
import Derived.Test.YtjleflfncijnpaaDoorTextM
import Derived.Test.YtjleflfncijnpaaDoorReadM
import Derived.Test.YtjleflfncijnpaaDoorReadT
import Derived.Test.YtjleflfncijnpaaDoorCutT
import Derived.Test.YtjleflfncijnpaaDoorFormT
import Derived.Test.YtjleflfncijnpaaDoorDouble
import Derived.Test.YtjleflfncijnpaaDoorPart
import Derived.Test.YtjleflfncijnpaaDoorReadS
import Derived.Test.YtjleflfncijnpaaDoorReadN
set_option linter.unusedVariables false
set_option linter.unusedSimpArgs false
set_option maxHeartbeats 4000000
set_option maxRecDepth 100000
namespace Go.Proofs.YtjleflfncijnpaaDoor
open Go Go.RowKit
theorem read_any (l : List UInt8) (w : World) (hl : l.length ≤ 1000) :
    Calls Tryd.prog 12 #[.string ⟨l.toArray⟩] w fun e w' => e = .returned (.tuple #[.agg #[.int .i64 ((readS l).1), .int .i64 ((readS l).2.1)], .int .i64 ((readS l).2.2)]) ∧ Below w.heap.size w w' := by
  by_cases c1 : 80 < l.length
  · exact read_long l w c1 _ (hid (if_pos c1))
  have hd : (numL l).length ≤ 1000 := Nat.le_trans (numL_length l) hl
  have hU : (cutU (numL l)).length ≤ 1000 := by unfold cutU; rw [List.length_drop]; omega
  have K0 := fun W => form_any l W hl
  by_cases c2 : (formB (numL l) && (!negL l || someB (numL l))) = false
  · rw [c2] at K0
    exact read_form l w c1 _ (hid (by unfold readS; rw [if_neg c1, if_pos c2])) (hid K0)
  have c2t : (formB (numL l) && (!negL l || someB (numL l))) = true := by
    cases h : (formB (numL l) && (!negL l || someB (numL l))) with
    | true => rfl
    | false => exact absurd h c2
  rw [c2t] at K0
  have hf := (Bool.and_eq_true_iff.1 c2t).1
  unfold formB at hf
  rw [Bool.and_eq_true, Bool.and_eq_true] at hf
  obtain ⟨⟨f1, _⟩, f3⟩ := hf
  have a1 := (Bool.and_eq_true_iff.1 f1).1
  have a3 : (cutU (numL l)).all isD = true := by
    cases c : cutP (numL l)
    · have e : cutI (numL l) = (numL l).length := by have := of_decide_eq_false c; have := cutI_le (numL l); omega
      unfold cutU; rw [e, List.drop_eq_nil_of_le (by omega)]; rfl
    · rw [c] at f3; exact (Bool.and_eq_true_iff.1 f3).1
  have KW := fun W => whole_any (numL l) (cutM (numL l)) _ W hd (hid (cut_join (numL l))) (hid (by split; exact .inr ⟨_, rfl⟩; exact .inl rfl)) (hid a1)
  by_cases c3 : 2147483647 < valD (cutM (numL l))
  · refine read_great l (numL l) (negL l) w c1 _ (hid (by unfold readS; rw [if_neg c1, if_neg c2, if_pos c3])) (hid K0) (hid (prefix_any l)) (hid fun W => (KW W).mono fun e w' ⟨v, h1, h2, h3, h4⟩ => ⟨⟨v, by omega, ?_⟩, h4⟩)
    have hv : 2147483647 < v := by omega
    rw [h3, decide_eq_false (by omega)]
  have K2 : ∀ w : World, Calls Tryd.prog 55 #[.string ⟨(numL l).toArray⟩] w fun e w' => e = .returned (.tuple #[.int .i64 (((valD (cutM (numL l)) : Nat) : Int)), .bool true]) ∧ Below w.heap.size w w' := fun W => (KW W).mono fun e w' ⟨v, h1, h2, h3, h4⟩ => ⟨by
    have hv := h1 (by omega)
    subst hv
    rw [h3, decide_eq_true (by omega)], h4⟩
  have K3 := fun W => cut_any (numL l) W hd
  have K4 := fun W => part_any (cutU (numL l)) W hU a3
  have hq : (dblN (cutU (numL l)) 32).1 < 4294967296 := dblN_lt a3 32
  have hD : ((valD (cutM (numL l)) : Nat) : Int) * 4294967296 + ((dblN (cutU (numL l)) 32).1 : Nat) = (rdN l : Int) := by unfold rdN; omega
  have e0 : readS l = if rdM l = true ∧ rdN l = 9223372036854775807 then (0, 0, 4) else if negL l = true then (-(rdN l : Int) - rdI l, -(rdN l : Int), 0) else ((rdN l : Int), (rdN l : Int) + rdI l, 0) := by
    unfold readS; rw [if_neg c1, if_neg c2, if_neg c3]
  have KP := prefix_any l
  by_cases m : rdM l = true
  · have m2 : someB (dblN (cutU (numL l)) 32).2 = true := m
    rw [m2] at K4
    have i1 : rdI l = 1 := if_pos m
    by_cases c4 : rdN l = 9223372036854775807
    · exact read_most l (numL l) _ _ _ _ _ _ w c1 (by omega) hq hD _ _ (by omega) (hid (by rw [e0, if_pos ⟨m, c4⟩])) (hid K0) (hid KP) (hid K2) (hid K3) (hid K4)
    · rw [if_neg (fun h => c4 h.2)] at e0
      cases ng : negL l
      · rw [ng] at KP e0
        exact read_mp l (numL l) _ _ _ _ _ _ w c1 (by omega) hq hD _ (by omega) (hid (by rw [e0, i1]; rfl)) (hid K0) (hid KP) (hid K2) (hid K3) (hid K4)
      · rw [ng] at KP e0
        exact read_mn l (numL l) _ _ _ _ _ _ w c1 (by omega) hq hD _ (by omega) (hid (by rw [e0, i1]; rfl)) (hid K0) (hid KP) (hid K2) (hid K3) (hid K4)
  · have m1 : rdM l = false := by simpa using m
    have m2 : someB (dblN (cutU (numL l)) 32).2 = false := m1
    rw [m2] at K4
    have i1 : rdI l = 0 := if_neg m
    rw [if_neg (fun h => m h.1)] at e0
    cases ng : negL l
    · rw [ng] at KP e0
      exact read_ep l (numL l) _ _ _ _ _ _ w c1 (by omega) hq hD _ (hid (by rw [e0, i1, Int.add_zero]; rfl)) (hid K0) (hid KP) (hid K2) (hid K3) (hid K4)
    · rw [ng] at KP e0
      exact read_en l (numL l) _ _ _ _ _ _ w c1 (by omega) hq hD _ (hid (by rw [e0, i1, Int.sub_zero]; rfl)) (hid K0) (hid KP) (hid K2) (hid K3) (hid K4)
end Go.Proofs.YtjleflfncijnpaaDoor
