/- Has a text the form of a number? By package span. -/
import Derived.Lib.IndexAny
import Derived.Test.YtjleflfncijnpaaDoorRows
import Derived.Test.YtjleflfncijnpaaDoorBase
import Derived.Test.YtjleflfncijnpaaDoorFacts
import Derived.Test.YtjleflfncijnpaaDoorTwo
import Derived.Deep.RegionHeld3
import Derived.Deep.RegionWith
import Derived.Deep.QuietTactic
import Derived.BigQuiet
import Derived.Test.YtjleflfncijnpaaDoorSeq
import Derived.Test.YtjleflfncijnpaaDoorShelfT
import Derived.Test.YtjleflfncijnpaaDoorTextM
import Derived.Test.YtjleflfncijnpaaDoorReadM
import Derived.Test.YtjleflfncijnpaaDoorReadT
import Derived.Test.YtjleflfncijnpaaDoorCutT
set_option linter.unusedVariables false
set_option linter.unusedSimpArgs false
set_option maxHeartbeats 4000000
set_option maxRecDepth 100000
namespace Go.Proofs.YtjleflfncijnpaaDoor
open Go Go.RowKit
def digB (l : List UInt8) : Bool := l.all isD && !l.isEmpty
def leadB (m : List UInt8) : Bool := (m[0]? == some 48) && decide (1 < m.length)
def formB (d : List UInt8) : Bool := digB (cutM d) && !leadB (cutM d) && (!cutP d || digB (cutU d))
def someB (d : List UInt8) : Bool := d.any (fun b => decide (49 ≤ b.toNat ∧ b.toNat ≤ 57))
def nine : List UInt8 := [49, 50, 51, 52, 53, 54, 55, 56, 57]
theorem nine_has (b : UInt8) : nine.contains b = decide (49 ≤ b.toNat ∧ b.toNat ≤ 57) := by
  have h : ∀ i : Fin 256, nine.contains (UInt8.ofNat i.val) = decide (49 ≤ i.val ∧ i.val ≤ 57) := by decide +kernel
  have hb := h ⟨b.toNat, b.toNat_lt⟩
  simpa using hb
theorem some_any : ∀ d : List UInt8, Lib.containsAny d nine = someB d
  | [] => rfl
  | b :: d => by
    have ih := some_any d
    have hge := Lib.indexAny_ge nine d
    unfold Lib.containsAny someB at *
    rw [List.any_cons, ← ih, ← nine_has, Lib.indexAny]
    cases nine.contains b
    · by_cases c : Lib.indexAny d nine = -1
      · rw [c]; rfl
      · have c1 : (Lib.indexAny d nine == -1) = false := by rw [beq_eq_false_iff_ne]; exact c
        have c2 : 0 ≤ Lib.indexAny d nine := by omega
        rw [c1]; simp; omega
    · rfl
set_option maxRecDepth 100000 in
theorem form_go (l d M U : List UInt8) (ng p bM bU sd ld : Bool) (w : World) (hM : Hid (bM = true → ∃ b, M[0]? = some b)) (hld : Hid (ld = leadB M))
    (K0 : Hid (∀ W : World, Calls Tryd.prog 54 #[.string ⟨l.toArray⟩, .string ⟨#[45]⟩] W fun e w' => e = .returned (.tuple #[.string ⟨d.toArray⟩, .bool ng]) ∧ W = w'))
    (K1 : Hid (∀ w : World, Calls Tryd.prog 56 #[.string ⟨d.toArray⟩, .string ⟨#[46]⟩] w fun e w' => e = .returned (.tuple #[.string ⟨M.toArray⟩, .string ⟨U.toArray⟩, .bool p]) ∧ Below w.heap.size w w'))
    (K2 : Hid (∀ w : World, Calls Tryd.prog 87 #[.string ⟨M.toArray⟩] w fun e w' => e = .returned (.bool bM) ∧ Below w.heap.size w w'))
    (K3 : Hid (∀ w : World, Calls Tryd.prog 87 #[.string ⟨U.toArray⟩] w fun e w' => e = .returned (.bool bU) ∧ Below w.heap.size w w'))
    (K4 : Hid (bM = true → ld = false → (p = true → bU = true) → ∀ w : World, Calls Tryd.prog 88 #[.string ⟨d.toArray⟩, .string ⟨#[49, 50, 51, 52, 53, 54, 55, 56, 57]⟩] w fun e w' => e = .returned (.bool sd) ∧ Below w.heap.size w w')) :
    Calls Tryd.prog 53 #[.string ⟨l.toArray⟩] w fun e w' => e = .returned (.bool (bM && !ld && (!p || bU) && (!ng || sd))) ∧ Below w.heap.size w w' := by
  have mixed : Tryd.prog.follows Departure.mixedOrders = true := by kernel_rfl
  cases bM
  · clear K3 K4 hM hld
    go_enter Tryd.func53, Tryd.ntmps53
    go_wp2_with (first | (go_at_call 54; refine (K0.out _).mono ?_; rintro e w' ⟨rfl, rfl⟩) | (go_at_call 56; refine use w (w.heap.size) (K1.out _) (by go_grown) (by go_size) ?_; rintro e w1 rfl hB1 hc1 hf1 hl1 hs1) | (go_at_call 87; ((with_reducible refine useF w (K2.out _) ?_ ?_); (· go_grown); rintro e w1 rfl hB1 hk1 hf1 hs1; have hz1 := hB1.size)))
    all_goals (go_ret; exact ⟨rfl, by go_grown⟩)
  · obtain ⟨b, hb⟩ := hM.out rfl
    have hx := idx_at hb
    have hl1 : 1 ≤ M.length := by have := (List.getElem?_eq_some_iff.1 hb).1; omega
    have hle : ld = ((b == 48) && decide (1 < M.length)) := by rw [hld.out]; unfold leadB; rw [hb]; rfl
    have hbe : ((b.toNat : Int) == 48) = (b == 48) := by
      rw [Bool.eq_iff_iff, beq_iff_eq, beq_iff_eq]
      constructor
      · intro h; exact UInt8.toNat_inj.1 (by show b.toNat = 48; omega)
      · rintro rfl; rfl
    clear hM hld hb
    cases ld
    · have k4 := fun h => hid (K4.out rfl rfl h)
      clear K4
      simp only [Int.ofNat_zero, Int.natCast_zero] at hx
      cases h : (b == 48)
      · rw [h] at hbe
        clear hle h
        cases p
        · have k5 := k4 (fun h => by cases h)
          clear k4 K3
          cases ng
          · clear k5
            go_enter Tryd.func53, Tryd.ntmps53
            go_wp2_with (first | (go_at_call 54; refine (K0.out _).mono ?_; rintro e w' ⟨rfl, rfl⟩) | (go_at_call 56; refine use w (w.heap.size) (K1.out _) (by go_grown) (by go_size) ?_; rintro e w1 rfl hB1 hc1 hf1 hl1 hs1) | (go_at_call 87; ((with_reducible refine useF w (K2.out _) ?_ ?_); (· go_grown); rintro e w1 rfl hB1 hk1 hf1 hs1; have hz1 := hB1.size)))
            all_goals (go_ret; exact ⟨rfl, by go_grown⟩)
          · have z := 0
            go_enter Tryd.func53, Tryd.ntmps53
            go_wp2_with (first | (go_at_call 54; refine (K0.out _).mono ?_; rintro e w' ⟨rfl, rfl⟩) | (go_at_call 56; refine use w (w.heap.size) (K1.out _) (by go_grown) (by go_size) ?_; rintro e w1 rfl hB1 hc1 hf1 hl1 hs1) | (go_at_call 87; ((with_reducible refine useF w (K2.out _) ?_ ?_); (· go_grown); rintro e w1 rfl hB1 hk1 hf1 hs1; have hz1 := hB1.size)) | (go_at_call 88; refine use w (w.heap.size) (k5.out _) (by go_grown) (by go_size) ?_; rintro e w1 rfl hB1 hc1 hf1 hl1 hs1))
            all_goals (go_ret; exact ⟨rfl, by go_grown⟩)
        · cases bU
          · clear k4
            go_enter Tryd.func53, Tryd.ntmps53
            go_wp2_with (first | (go_at_call 54; refine (K0.out _).mono ?_; rintro e w' ⟨rfl, rfl⟩) | (go_at_call 56; refine use w (w.heap.size) (K1.out _) (by go_grown) (by go_size) ?_; rintro e w1 rfl hB1 hc1 hf1 hl1 hs1) | (go_at_call 87; ((with_reducible refine useF w (K2.out _) ?_ ?_); (· go_grown); rintro e w1 rfl hB1 hk1 hf1 hs1; have hz1 := hB1.size)) | (go_at_call 87; ((with_reducible refine useF w (K3.out _) ?_ ?_); (· go_grown); rintro e w1 rfl hB1 hk1 hf1 hs1; have hz1 := hB1.size)))
            all_goals (go_ret; exact ⟨rfl, by go_grown⟩)
          · have k5 := k4 (fun _ => rfl)
            clear k4
            cases ng
            · clear k5
              go_enter Tryd.func53, Tryd.ntmps53
              go_wp2_with (first | (go_at_call 54; refine (K0.out _).mono ?_; rintro e w' ⟨rfl, rfl⟩) | (go_at_call 56; refine use w (w.heap.size) (K1.out _) (by go_grown) (by go_size) ?_; rintro e w1 rfl hB1 hc1 hf1 hl1 hs1) | (go_at_call 87; ((with_reducible refine useF w (K2.out _) ?_ ?_); (· go_grown); rintro e w1 rfl hB1 hk1 hf1 hs1; have hz1 := hB1.size)) | (go_at_call 87; ((with_reducible refine useF w (K3.out _) ?_ ?_); (· go_grown); rintro e w1 rfl hB1 hk1 hf1 hs1; have hz1 := hB1.size)))
              all_goals (go_ret; exact ⟨rfl, by go_grown⟩)
            · have z := 0
              go_enter Tryd.func53, Tryd.ntmps53
              go_wp2_with (first | (go_at_call 54; refine (K0.out _).mono ?_; rintro e w' ⟨rfl, rfl⟩) | (go_at_call 56; refine use w (w.heap.size) (K1.out _) (by go_grown) (by go_size) ?_; rintro e w1 rfl hB1 hc1 hf1 hl1 hs1) | (go_at_call 87; ((with_reducible refine useF w (K2.out _) ?_ ?_); (· go_grown); rintro e w1 rfl hB1 hk1 hf1 hs1; have hz1 := hB1.size)) | (go_at_call 87; ((with_reducible refine useF w (K3.out _) ?_ ?_); (· go_grown); rintro e w1 rfl hB1 hk1 hf1 hs1; have hz1 := hB1.size)) | (go_at_call 88; refine use w (w.heap.size) (k5.out _) (by go_grown) (by go_size) ?_; rintro e w1 rfl hB1 hc1 hf1 hl1 hs1))
              all_goals (go_ret; exact ⟨rfl, by go_grown⟩)
      · rw [h] at hbe hle
        have e3 : ¬ (1 : Int) < M.length := by have : decide (1 < M.length) = false := by simpa using hle.symm
                                               have := of_decide_eq_false this; omega
        clear hle h
        cases p
        · have k5 := k4 (fun h => by cases h)
          clear k4 K3
          cases ng
          · clear k5
            go_enter Tryd.func53, Tryd.ntmps53
            go_wp2_with (first | (go_at_call 54; refine (K0.out _).mono ?_; rintro e w' ⟨rfl, rfl⟩) | (go_at_call 56; refine use w (w.heap.size) (K1.out _) (by go_grown) (by go_size) ?_; rintro e w1 rfl hB1 hc1 hf1 hl1 hs1) | (go_at_call 87; ((with_reducible refine useF w (K2.out _) ?_ ?_); (· go_grown); rintro e w1 rfl hB1 hk1 hf1 hs1; have hz1 := hB1.size)))
            all_goals (go_ret; exact ⟨rfl, by go_grown⟩)
          · have z := 0
            go_enter Tryd.func53, Tryd.ntmps53
            go_wp2_with (first | (go_at_call 54; refine (K0.out _).mono ?_; rintro e w' ⟨rfl, rfl⟩) | (go_at_call 56; refine use w (w.heap.size) (K1.out _) (by go_grown) (by go_size) ?_; rintro e w1 rfl hB1 hc1 hf1 hl1 hs1) | (go_at_call 87; ((with_reducible refine useF w (K2.out _) ?_ ?_); (· go_grown); rintro e w1 rfl hB1 hk1 hf1 hs1; have hz1 := hB1.size)) | (go_at_call 88; refine use w (w.heap.size) (k5.out _) (by go_grown) (by go_size) ?_; rintro e w1 rfl hB1 hc1 hf1 hl1 hs1))
            all_goals (go_ret; exact ⟨rfl, by go_grown⟩)
        · cases bU
          · clear k4
            go_enter Tryd.func53, Tryd.ntmps53
            go_wp2_with (first | (go_at_call 54; refine (K0.out _).mono ?_; rintro e w' ⟨rfl, rfl⟩) | (go_at_call 56; refine use w (w.heap.size) (K1.out _) (by go_grown) (by go_size) ?_; rintro e w1 rfl hB1 hc1 hf1 hl1 hs1) | (go_at_call 87; ((with_reducible refine useF w (K2.out _) ?_ ?_); (· go_grown); rintro e w1 rfl hB1 hk1 hf1 hs1; have hz1 := hB1.size)) | (go_at_call 87; ((with_reducible refine useF w (K3.out _) ?_ ?_); (· go_grown); rintro e w1 rfl hB1 hk1 hf1 hs1; have hz1 := hB1.size)))
            all_goals (go_ret; exact ⟨rfl, by go_grown⟩)
          · have k5 := k4 (fun _ => rfl)
            clear k4
            cases ng
            · clear k5
              go_enter Tryd.func53, Tryd.ntmps53
              go_wp2_with (first | (go_at_call 54; refine (K0.out _).mono ?_; rintro e w' ⟨rfl, rfl⟩) | (go_at_call 56; refine use w (w.heap.size) (K1.out _) (by go_grown) (by go_size) ?_; rintro e w1 rfl hB1 hc1 hf1 hl1 hs1) | (go_at_call 87; ((with_reducible refine useF w (K2.out _) ?_ ?_); (· go_grown); rintro e w1 rfl hB1 hk1 hf1 hs1; have hz1 := hB1.size)) | (go_at_call 87; ((with_reducible refine useF w (K3.out _) ?_ ?_); (· go_grown); rintro e w1 rfl hB1 hk1 hf1 hs1; have hz1 := hB1.size)))
              all_goals (go_ret; exact ⟨rfl, by go_grown⟩)
            · have z := 0
              go_enter Tryd.func53, Tryd.ntmps53
              go_wp2_with (first | (go_at_call 54; refine (K0.out _).mono ?_; rintro e w' ⟨rfl, rfl⟩) | (go_at_call 56; refine use w (w.heap.size) (K1.out _) (by go_grown) (by go_size) ?_; rintro e w1 rfl hB1 hc1 hf1 hl1 hs1) | (go_at_call 87; ((with_reducible refine useF w (K2.out _) ?_ ?_); (· go_grown); rintro e w1 rfl hB1 hk1 hf1 hs1; have hz1 := hB1.size)) | (go_at_call 87; ((with_reducible refine useF w (K3.out _) ?_ ?_); (· go_grown); rintro e w1 rfl hB1 hk1 hf1 hs1; have hz1 := hB1.size)) | (go_at_call 88; refine use w (w.heap.size) (k5.out _) (by go_grown) (by go_size) ?_; rintro e w1 rfl hB1 hc1 hf1 hl1 hs1))
              all_goals (go_ret; exact ⟨rfl, by go_grown⟩)
    · have e1 : (b == 48) = true := by
        cases h : (b == 48) with
        | false => rw [h] at hle; simp at hle
        | true => rfl
      have e2 : 1 < M.length := by rw [e1] at hle; simpa using hle
      have e3 : (1 : Int) < M.length := by omega
      rw [e1] at hbe
      clear hle e1 K3 K4
      replace hx := fun W => hx W
      simp only [Int.ofNat_zero, Int.natCast_zero] at hx
      go_enter Tryd.func53, Tryd.ntmps53
      go_wp2_with (first | (go_at_call 54; refine (K0.out _).mono ?_; rintro e w' ⟨rfl, rfl⟩) | (go_at_call 56; refine use w (w.heap.size) (K1.out _) (by go_grown) (by go_size) ?_; rintro e w1 rfl hB1 hc1 hf1 hl1 hs1) | (go_at_call 87; ((with_reducible refine useF w (K2.out _) ?_ ?_); (· go_grown); rintro e w1 rfl hB1 hk1 hf1 hs1; have hz1 := hB1.size)))
      all_goals (go_ret; exact ⟨rfl, by go_grown⟩)
theorem cut_dot (d : List UInt8) : cutM (46 :: d) = [] ∧ cutU (46 :: d) = d ∧ cutP (46 :: d) = true := by
  have e : cutI (46 :: d) = 0 := rfl
  unfold cutM cutU cutP; rw [e]
  exact ⟨rfl, rfl, by simp⟩
theorem cut_cons {b : UInt8} (h : b ≠ 46) (d : List UInt8) : cutM (b :: d) = b :: cutM d ∧ cutU (b :: d) = cutU d ∧ cutP (b :: d) = cutP d := by
  have e : cutI (b :: d) = cutI d + 1 := by
    unfold cutI; rw [List.takeWhile_cons, if_pos (by simpa using h)]; rfl
  unfold cutM cutU cutP; rw [e]
  exact ⟨rfl, rfl, by simp⟩
theorem cut_join : ∀ d : List UInt8, d = cutM d ++ (if cutP d = true then 46 :: cutU d else [])
  | [] => rfl
  | b :: d => by
    by_cases h : b = 46
    · subst h
      obtain ⟨e1, e2, e3⟩ := cut_dot d
      rw [e1, e2, e3]; rfl
    · obtain ⟨e1, e2, e3⟩ := cut_cons h d
      rw [e1, e2, e3, List.cons_append, ← cut_join d]
theorem isD_small {b : UInt8} (h : isD b = true) : b.toNat < 128 := by have := of_decide_eq_true h; omega
theorem form_small {d : List UInt8} (h1 : digB (cutM d) = true) (h2 : cutP d = true → digB (cutU d) = true) : ∀ (j : Nat) b, d[j]? = some b → b.toNat < 128 := by
  intro j b hb
  have hm := List.mem_of_getElem? hb
  rw [cut_join d] at hm
  have a1 := (Bool.and_eq_true_iff.1 h1).1
  rcases List.mem_append.1 hm with hm | hm
  · exact isD_small (List.all_eq_true.1 a1 b hm)
  · cases c : cutP d
    · rw [c] at hm; simp at hm
    · rw [c, if_pos rfl] at hm
      have a2 := (Bool.and_eq_true_iff.1 (h2 c)).1
      rcases List.mem_cons.1 hm with rfl | hm
      · decide
      · exact isD_small (List.all_eq_true.1 a2 b hm)
def negL (l : List UInt8) : Bool := Lib.hasPrefix l [45]
def numL (l : List UInt8) : List UInt8 := Lib.trimPrefix l [45]
theorem numL_length (l : List UInt8) : (numL l).length ≤ l.length := by
  unfold numL Lib.trimPrefix; split <;> simp
theorem prefix_any (l : List UInt8) (W : World) : Calls Tryd.prog 54 #[.string ⟨l.toArray⟩, .string ⟨#[45]⟩] W fun e w' => e = .returned (.tuple #[.string ⟨(numL l).toArray⟩, .bool (negL l)]) ∧ W = w' :=
  (Tryd.strings_CutPrefix ⟨l.toArray⟩ ⟨#[45]⟩ W).mono fun e w' ⟨h1, h2⟩ => ⟨h1, h2.symm⟩
theorem some_call {d : List UInt8} (hd : d.length ≤ 1000) (ha : ∀ (j : Nat) b, d[j]? = some b → b.toNat < 128) (w : World) :
    Calls Tryd.prog 88 #[.string ⟨d.toArray⟩, .string ⟨#[49, 50, 51, 52, 53, 54, 55, 56, 57]⟩] w fun e w' => e = .returned (.bool (someB d)) ∧ Below w.heap.size w w' := by
  have hs : (⟨d.toArray⟩ : ByteArray).size = d.length := rfl
  have h := Tryd.strings_ContainsAny_laid ⟨d.toArray⟩ ⟨#[49, 50, 51, 52, 53, 54, 55, 56, 57]⟩ w (by rw [hs]; omega) (by decide) ha (fun j b hb => by
    have hm := List.mem_of_getElem? hb
    have : b = 49 ∨ b = 50 ∨ b = 51 ∨ b = 52 ∨ b = 53 ∨ b = 54 ∨ b = 55 ∨ b = 56 ∨ b = 57 := by simpa using hm
    rcases this with rfl | rfl | rfl | rfl | rfl | rfl | rfl | rfl | rfl <;> decide)
  have e : Lib.containsAny (⟨d.toArray⟩ : ByteArray).data.toList (⟨#[49, 50, 51, 52, 53, 54, 55, 56, 57]⟩ : ByteArray).data.toList = someB d := some_any d
  rw [e] at h
  exact h
/-- Has a text the form? -/
theorem form_any (l : List UInt8) (w : World) (hl : l.length ≤ 1000) :
    Calls Tryd.prog 53 #[.string ⟨l.toArray⟩] w fun e w' => e = .returned (.bool (formB (numL l) && (!negL l || someB (numL l)))) ∧ Below w.heap.size w w' := by
  have hd : (numL l).length ≤ 1000 := Nat.le_trans (numL_length l) hl
  have hM : (cutM (numL l)).length ≤ 1000 := by unfold cutM; rw [List.length_take]; omega
  have hU : (cutU (numL l)).length ≤ 1000 := by unfold cutU; rw [List.length_drop]; omega
  have h := form_go l (numL l) (cutM (numL l)) (cutU (numL l)) (negL l) (cutP (numL l)) (digB (cutM (numL l))) (digB (cutU (numL l))) (someB (numL l)) (leadB (cutM (numL l))) w
    (hid (fun h => by
      have := (Bool.and_eq_true_iff.1 h).2
      cases hc : cutM (numL l) with
      | nil => rw [hc] at this; cases this
      | cons b t => exact ⟨b, rfl⟩)) (hid rfl) (hid (prefix_any l)) (hid (fun W => cut_any _ W hd)) (hid (fun W => isdigits_any _ W hM)) (hid (fun W => isdigits_any _ W hU))
    (hid (fun h1 _ h2 W => some_call hd (form_small h1 h2) W))
  exact h
end Go.Proofs.YtjleflfncijnpaaDoor
