/- Digits doubled in place. -/
import Derived.Test.YtjleflfncijnpaaDoorRows
import Derived.Test.YtjleflfncijnpaaDoorBase
import Derived.Test.YtjleflfncijnpaaDoorFacts
import Derived.Test.YtjleflfncijnpaaDoorTwo
import Derived.Deep.RegionHeld3
import Derived.Deep.RegionWith
import Derived.Deep.QuietTactic
import Derived.BigQuiet
import Derived.Test.YtjleflfncijnpaaDoorSeq
import Derived.Test.YtjleflfncijnpaaDoorOne
import Derived.Test.YtjleflfncijnpaaDoorTextM
import Derived.Test.YtjleflfncijnpaaDoorReadM
set_option linter.unusedVariables false
set_option linter.unusedSimpArgs false
set_option maxHeartbeats 4000000
set_option maxRecDepth 100000
namespace Go.Proofs.YtjleflfncijnpaaDoor
open Go Go.RowKit
/-- A row of bytes in block B. -/
def RowB (B : Nat) (l : List UInt8) (w : World) : Prop := ∀ (i : Nat) (b : UInt8), l[i]? = some b → w.cell? ⟨B, i, none⟩ = some (.int .u8 (b.toNat : Int)) ∧ w.frozen? ⟨B, i, none⟩ = false
theorem RowB.set {B : Nat} {p q : List UInt8} {b c : UInt8} {w : World} (h : RowB B (p ++ b :: q) w) : RowB B (p ++ c :: q) (w.setCell ⟨B, p.length, none⟩ (.int .u8 (c.toNat : Int))) := by
  intro i d hd
  by_cases e : i = p.length
  · subst e
    have hdc : d = c := by simpa using hd.symm
    subst hdc
    obtain ⟨h1, h2⟩ := h p.length b (by simp)
    exact ⟨one_same h1, one_fz h2⟩
  · have hb : (p ++ b :: q)[i]? = some d := by
      rcases Nat.lt_or_gt_of_ne e with g | g
      · rw [List.getElem?_append_left g] at hd ⊢; exact hd
      · rw [List.getElem?_append_right (by omega)] at hd ⊢
        obtain ⟨t, ht⟩ : ∃ t, i - p.length = t + 1 := ⟨i - p.length - 1, by omega⟩
        rw [ht] at hd ⊢
        simpa using hd
    obtain ⟨h1, h2⟩ := h i d hb
    exact ⟨one_off h1 (by omega), one_fz h2⟩
def dblB : List UInt8 → Nat × List UInt8
  | [] => (0, [])
  | b :: l => ((2 * (b.toNat - 48) + (dblB l).1) / 10, UInt8.ofNat (48 + (2 * (b.toNat - 48) + (dblB l).1) % 10) :: (dblB l).2)
theorem dbl_length : ∀ l : List UInt8, (dblB l).2.length = l.length
  | [] => rfl
  | b :: l => by show (_ :: (dblB l).2).length = _; rw [List.length_cons, dbl_length l, List.length_cons]
theorem dbl_carry : ∀ l : List UInt8, l.all isD = true → (dblB l).1 ≤ 1
  | [], _ => Nat.zero_le _
  | b :: l, h => by
    rw [List.all_cons, Bool.and_eq_true] at h
    have h1 := of_decide_eq_true h.1
    have h2 := dbl_carry l h.2
    show (2 * (b.toNat - 48) + (dblB l).1) / 10 ≤ 1
    omega
theorem dig_isD {k : Nat} (h : k < 10) : isD (UInt8.ofNat (48 + k)) = true := by
  unfold isD; rw [byte_nat (by omega)]; exact decide_eq_true (by omega)
theorem dbl_all : ∀ l : List UInt8, (dblB l).2.all isD = true
  | [] => rfl
  | b :: l => by
    show (_ :: (dblB l).2).all isD = true
    rw [List.all_cons, dbl_all l, Bool.and_true]
    exact dig_isD (Nat.mod_lt _ (by omega))
/-- What stays: every other block. -/
def KeptB (B : Nat) (w w' : World) : Prop := w'.heap.size = w.heap.size ∧ (∀ b o, b ≠ B → w'.cell? ⟨b, o, none⟩ = w.cell? ⟨b, o, none⟩ ∧ w'.frozen? ⟨b, o, none⟩ = w.frozen? ⟨b, o, none⟩) ∧ Below B w w'
theorem KeptB.set {B j : Nat} {v : Value} {w w1 : World} (h : KeptB B w w1) : KeptB B w (w1.setCell ⟨B, j, none⟩ v) := by
  obtain ⟨h1, h2, h3⟩ := h
  refine ⟨by simp [go_sem, h1], fun b o hb => ?_, ?_⟩
  · obtain ⟨a1, a2⟩ := h2 b o hb
    rw [← a1, ← a2]
    exact ⟨World.cell?_setCell_far _ _ _ _ (fun h => hb h.symm), by rw [World.frozen?_setCell]⟩
  · go_grown
theorem double_any (l : List UInt8) (B cap : Nat) (w : World) (hl : l.length ≤ 1000) (hd : l.all isD = true) (hs : RowB B l w) (hB : B < w.heap.size) :
    Calls Tryd.prog 91 #[.slice (some ⟨B, 0, none⟩) l.length cap] w fun e w' => e = .returned (.int .i64 (((dblB l).1 : Int))) ∧ RowB B (dblB l).2 w' ∧ KeptB B w w' := by
  go_enter Tryd.func91, Tryd.ntmps91
  go_wp2_with fail
  go_loopw [4, 3] (fun s c wx => ∃ k : Nat, s = .int .i64 ((k : Int) - 1) ∧ k ≤ l.length ∧ c = .int .u8 ((dblB (l.drop k)).1 : Int) ∧ RowB B (l.take k ++ (dblB (l.drop k)).2) wx ∧ KeptB B w wx) (fun s _ _ => (intOf s + 1).toNat)
  case atStart => exact ⟨l.length, by go_num, Nat.le_refl _, by rw [List.drop_length]; rfl, by rw [List.drop_length, List.take_length]; simpa [dblB] using hs, rfl, fun _ _ _ => ⟨rfl, rfl⟩, Below.refl _ _⟩
  case round =>
    obtain ⟨k, rfl, hk, rfl, hs, hK⟩ := hrel
    cases k with
    | zero =>
      rw [List.drop_zero, List.take_zero, List.nil_append] at *
      go_wp2_with fail
      all_goals (go_ret; exact ⟨ret_int (by have := dbl_carry l hd; show wrap64 _ = _; unfold wrap64; omega), hs, hK⟩)
    | succ j =>
      obtain ⟨b, hb⟩ := byte_some (show j < l.length by omega)
      have hx := hs j b (by rw [List.getElem?_append_left (by rw [List.length_take]; omega), List.getElem?_take_of_lt (by omega)]; exact hb)
      obtain ⟨x0, xf⟩ := hx
      have hbd := of_decide_eq_true (List.all_eq_true.1 hd b (List.mem_of_getElem? hb))
      have hc := dbl_carry (l.drop (j + 1)) (by
        have e := List.take_append_drop (j + 1) l
        have h := hd
        rw [← e, List.all_append, Bool.and_eq_true] at h
        exact h.2)
      have hsz := hK.1
      generalize hcv : (dblB (l.drop (j + 1))).1 = cv at *
      go_wp2_with fail
      have hjl : j < l.length := by omega
      have e1 : l.drop j = b :: l.drop (j + 1) := by
        have hv : l[j] = b := by have := List.getElem?_eq_getElem hjl; rw [hb] at this; exact (Option.some.inj this).symm
        rw [List.drop_eq_getElem_cons hjl, hv]
      have e2 : dblB (l.drop j) = ((2 * (b.toNat - 48) + cv) / 10, UInt8.ofNat (48 + (2 * (b.toNat - 48) + cv) % 10) :: (dblB (l.drop (j + 1))).2) := by rw [e1]; show (_, _) = _; rw [hcv]
      have hr : RowB B (l.take j ++ (dblB (l.drop j)).2) (wr.setCell ⟨B, j, none⟩ (.int .u8 (48 + (2 * ((b.toNat : Int) - 48) + (cv : Int)) % 10))) := by
        rw [e2]
        rw [take_snoc hb, List.append_assoc] at hs
        have h := RowB.set (p := l.take j) (c := UInt8.ofNat (48 + (2 * (b.toNat - 48) + cv) % 10)) hs
        rw [List.length_take, Nat.min_eq_left (by omega), byte_nat (by omega)] at h
        rw [show (48 + (2 * ((b.toNat : Int) - 48) + (cv : Int)) % 10) = ((48 + (2 * (b.toNat - 48) + cv) % 10 : Nat) : Int) by omega]
        exact h
      exact ⟨⟨j, rfl, by omega, by rw [e2]; exact congrArg _ (by first | rfl | (show _ = ((_ : Nat) : Int); omega)), hr, hK.set⟩, by first | (simp [intOf]; done) | (simp [intOf]; omega)⟩
end Go.Proofs.YtjleflfncijnpaaDoor
