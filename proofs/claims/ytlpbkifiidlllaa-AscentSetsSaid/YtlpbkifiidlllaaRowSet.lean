/- AscentSets: of every two sets of times: what both, either or the first without the second one have, and how many times the first one has, or the error, are the document's; the sets stay. No condition beside. -/
import Derived.Test.YtlpbkifiidlllaaRowKitQ
import Derived.Test.YtlpbkifiidlllaaLawSet
set_option linter.unusedVariables false
namespace Go.Proofs.Ytlpbkifiidlllaa
open Go.ChangeShapes Go.WideShapes Go.ChangeAt Go.RowKit Go.Joins
theorem slots_in {q : Option Addr} {cap : Nat} {l : List (Int × Int)} {w : World} (h : l = [] ∨ ∃ B o, q = some ⟨B, o, none⟩ ∧ RowS B o l w) : SlotsIn (.slice q l.length cap) l w := ⟨q, cap, rfl, h⟩

set_option maxRecDepth 100000 in
theorem ascentSets_lifted (os : Os) (started : os.Started) (H : Type) (enc : TypeId × Value → H) :
    ReturnsInHanded {} Try.checked os 3 .any (Rows.ascentSetsSpec.pre6 enc Try.prog Try.f3 Rows.ascentSetsRow.domain false) (Rows.ascentSetsSpec.post enc Try.prog Try.f3 false true false false) := by
  refine returnsInHanded_of_change (C := Try.checked) Try.own started (by kernel_rfl) Try.func3
    (ChangeSpec.witness6 (enc := enc) (C := Try.checked) false ⟨#[], #[.slice none 0 0, .slice none 0 0], []⟩ 8 (by kernel_rfl) (by kernel_rfl) (by kernel_rfl) (by kernel_rfl)) ?_
  intro W base args ds gs before hval0 hW hcnd _
  have hval : ∀ (j : Nat) t v, Try.f3.params[j]? = some t → args[j]? = some v → Value.okWide Try.prog W .any base t v := hval0
  have hW' := hW
  obtain ⟨p, q, hA0, hV, rfl, hfz, hnd⟩ := hW
  have hA : DataW.TrodAll enc Try.prog W 0 (fun _ => true) true Try.f3.params.toList args.toList ds p := hA0
  rw [Try.params3] at hA hval
  obtain ⟨rfl, rfl⟩ := trodVars_none hV
  obtain ⟨v0, vs0, d0, ds0, p0, q0, hargs, rfl, rfl, h0, r0⟩ := trodAll_cons hA
  obtain ⟨v1, vs1, d1, ds1, p1, q1, rfl, rfl, rfl, h1, r1⟩ := trodAll_cons r0
  obtain ⟨rfl, rfl, rfl⟩ := trodAll_nil r1
  obtain rfl : args = #[v0, v1] := by cases args; simp_all
  obtain ⟨q0, c0, l0, rfl, n0, e0, k0⟩ := open_slots (hval 0 22 v0 rfl rfl) h0
  obtain ⟨q1, c1, l1, rfl, n1, e1, k1⟩ := open_slots (hval 1 22 v1 rfl rfl) h1
  refine (lawSets_any q0 q1 c0 c1 l0 l1 W (slots_in e0) (slots_in e1) n0 n1 (fun i p hp => k0 p (List.mem_of_getElem? hp)) (fun i p hp => k1 p (List.mem_of_getElem? hp))).mono fun e W' ⟨he, hb⟩ => ?_
  subst he
  exact ⟨_, rfl, law_post Try.laidOut (by kernel_rfl) (by kernel_rfl) rfl rfl Try.underlying4 rfl hW' hb⟩
theorem ascentSets_holds : Rows.AscentSetsSaid :=
  OpenClaim.holds_of_wide 3 Try.f3 rfl rfl rfl rfl rfl rfl rfl ⟨rfl, rfl, rfl, rfl, rfl⟩ rfl rfl rfl rfl rfl (by kernel_rfl) Try.func3 (by kernel_rfl)
    (of_decide_eq_true (by kernel_rfl)) (by unfold Func.isWrapper; first | (rw [if_pos (by decide +kernel)]; kernel_rfl) | (rw [if_neg (by decide +kernel)]; exact ⟨rfl, rfl⟩))
    (fun os started H enc _ => ascentSets_lifted os started H enc)
end Go.Proofs.Ytlpbkifiidlllaa
