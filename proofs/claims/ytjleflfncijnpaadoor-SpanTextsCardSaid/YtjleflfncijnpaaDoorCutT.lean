/- A text, cut at its first point. -/
import Derived.Lib.IndexLaws
import Derived.Laws.Strings3
import Derived.Deep.Draws
import Derived.Test.YtjleflfncijnpaaDoorRows
import Derived.Test.YtjleflfncijnpaaDoorBase
import Derived.Test.YtjleflfncijnpaaDoorFacts
import Derived.Test.YtjleflfncijnpaaDoorTwo
import Derived.Deep.RegionHeld3
import Derived.Deep.RegionWith
import Derived.Deep.QuietTactic
import Derived.BigQuiet
import Derived.Test.YtjleflfncijnpaaDoorSeq
import Derived.Test.YtjleflfncijnpaaDoorShelfT
import Derived.Test.YtjleflfncijnpaaDoorTextM
import Derived.Test.YtjleflfncijnpaaDoorReadM
set_option linter.unusedVariables false
set_option linter.unusedSimpArgs false
set_option maxHeartbeats 4000000
set_option maxRecDepth 100000
namespace Go.Proofs.YtjleflfncijnpaaDoor
open Go Go.RowKit
def cutI (l : List UInt8) : Nat := (l.takeWhile (fun b => b != 46)).length
def cutM (l : List UInt8) : List UInt8 := l.take (cutI l)
def cutU (l : List UInt8) : List UInt8 := l.drop (cutI l + 1)
def cutP (l : List UInt8) : Bool := decide (cutI l < l.length)
theorem cutI_eq : ∀ (l : List UInt8) (i : Nat), i ≤ l.length → (∀ k, k < i → l[k]? ≠ some 46) → (i = l.length ∨ l[i]? = some 46) → cutI l = i
  | [], i, h, _, _ => by simp at h; subst h; rfl
  | b :: l, 0, _, _, h => by
    rcases h with h | h
    · simp at h
    · have : b = 46 := by simpa using h
      subst this; rfl
  | b :: l, i + 1, h1, h2, h3 => by
    have h0 := h2 0 (by omega)
    have hb : (b != 46) = true := by simpa using h0
    have ih := cutI_eq l i (by simpa using h1) (fun k hk => by simpa using h2 (k + 1) (by omega)) (by simpa using h3)
    unfold cutI at ih ⊢
    rw [List.takeWhile_cons, if_pos hb, List.length_cons, ih]
theorem cutI_le (l : List UInt8) : cutI l ≤ l.length := by
  unfold cutI; exact (List.takeWhile_sublist _).length_le
theorem slice_to (W : World) (l : List UInt8) (i : Nat) (h : i ≤ l.length) : (Instr.slice 9 (.string ⟨l.toArray⟩) none (some (.int .i64 (i : Int))) none).run Tryd.prog W = .ok (.string ⟨(l.take i).toArray⟩) W := by
  have hs : (⟨l.toArray⟩ : ByteArray).size = l.length := rfl
  rw [run_slice_string_to_if W _ _ _ _ Tryd.underlying9, if_pos (by rw [hs]; omega), Lib.extract_eq]
  rfl
theorem slice_from (W : World) (l : List UInt8) (i : Nat) (z : Int) (hz : z = (i : Int)) (h : i ≤ l.length) : (Instr.slice 9 (.string ⟨l.toArray⟩) (some (.int .i64 z)) none none).run Tryd.prog W = .ok (.string ⟨(l.drop i).toArray⟩) W := by
  subst hz
  have hs : (⟨l.toArray⟩ : ByteArray).size = l.length := rfl
  rw [run_slice_string_from_if W _ _ _ _ Tryd.underlying9, if_pos (by rw [hs]; omega), Lib.extract_eq]
  show Result.ok (Value.string ⟨((l.drop i).take (l.length - i)).toArray⟩) W = _
  rw [List.take_of_length_le (by simp)]
theorem icut_any (l : List UInt8) (w : World) (hl : l.length ≤ 1000) :
    Calls Tryd.prog 90 #[.string ⟨l.toArray⟩, .string ⟨#[46]⟩] w fun e w' => e = .returned (.tuple #[.string ⟨(cutM l).toArray⟩, .string ⟨(cutU l).toArray⟩, .bool (cutP l)]) ∧ Below w.heap.size w w' := by
  have hge := Lib.indexByte_ge l 46
  by_cases c : Lib.indexByte l 46 = -1
  · have e1 : cutI l = l.length := cutI_eq l _ (Nat.le_refl _) (fun k _ => Lib.indexByte_none c k) (Or.inl rfl)
    have e2 : cutM l = l := by unfold cutM; rw [e1, List.take_length]
    have e3 : cutU l = [] := by unfold cutU; rw [e1]; simp
    have e4 : cutP l = false := by unfold cutP; rw [e1]; simp
    rw [e2, e3, e4]
    clear e1 e2 e3 e4 hge
    go_enter Tryd.func90, Tryd.ntmps90
    go_wp2_with (go_at_call 108; refine (Tryd.stringslite_Index_one ⟨l.toArray⟩ 46 _).mono ?_; rintro e w' ⟨rfl, rfl⟩; rw [show Lib.indexByte (⟨l.toArray⟩ : ByteArray).data.toList 46 = -1 from c])
    all_goals (go_ret3; exact ⟨rfl, by go_grown⟩)
  · obtain ⟨i, hi⟩ : ∃ i : Nat, Lib.indexByte l 46 = i := ⟨(Lib.indexByte l 46).toNat, by omega⟩
    obtain ⟨h1, h2⟩ := Lib.indexByte_some hi
    have hil : i < l.length := (List.getElem?_eq_some_iff.1 h1).1
    have e1 : cutI l = i := cutI_eq l i (by omega) h2 (Or.inr h1)
    have e2 : cutM l = l.take i := by unfold cutM; rw [e1]
    have e3 : cutU l = l.drop (i + 1) := by unfold cutU; rw [e1]
    have e4 : cutP l = true := by unfold cutP; rw [e1]; exact decide_eq_true hil
    rw [e2, e3, e4]
    have s1 := fun W => slice_to W l i (by omega)
    have s2 := fun W => slice_from W l (i + 1) ((i : Int) + 1) (by omega) (by omega)
    have c1 : (0 : Int) ≤ i := by omega
    have c2 : (i : Int) ≤ l.length := by omega
    have c3 : (0 : Int) ≤ i + 1 := by omega
    have c4 : (i : Int) + 1 ≤ l.length := by omega
    have mixed : Tryd.prog.follows Departure.mixedOrders = true := by kernel_rfl
    clear e1 e2 e3 e4 h1 h2 hge c
    go_enter Tryd.func90, Tryd.ntmps90
    go_wp2_with (go_at_call 108; refine (Tryd.stringslite_Index_one ⟨l.toArray⟩ 46 _).mono ?_; rintro e w' ⟨rfl, rfl⟩; rw [show Lib.indexByte (⟨l.toArray⟩ : ByteArray).data.toList 46 = i from hi])
    go_region_o
    go_wp2_with fail
    all_goals (go_ret3; exact ⟨rfl, by go_grown⟩)
theorem cut_any (l : List UInt8) (w : World) (hl : l.length ≤ 1000) :
    Calls Tryd.prog 56 #[.string ⟨l.toArray⟩, .string ⟨#[46]⟩] w fun e w' => e = .returned (.tuple #[.string ⟨(cutM l).toArray⟩, .string ⟨(cutU l).toArray⟩, .bool (cutP l)]) ∧ Below w.heap.size w w' := by
  go_enter Tryd.func56, Tryd.ntmps56
  go_wp2_with (go_at_call 90; refine use w (w.heap.size) (icut_any _ _ hl) (by go_grown) (by go_size) ?_; rintro e w1 rfl hB1 hc1 hf1 hl1 hs1)
  all_goals (go_ret3; exact ⟨rfl, by go_grown⟩)
end Go.Proofs.YtjleflfncijnpaaDoor
