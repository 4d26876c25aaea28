/- The text of any number, as the document says. -/
import Derived.Laws.Concat
import Derived.Test.YtjleflfncijnpaaDoorRows
import Derived.Test.YtjleflfncijnpaaDoorBase
import Derived.Test.YtjleflfncijnpaaDoorFacts
import Derived.Test.YtjleflfncijnpaaDoorTwo
import Derived.Deep.RegionHeld3
import Derived.Deep.RegionWith
import Derived.Deep.QuietTactic
import Derived.BigQuiet
import Derived.Test.YtjleflfncijnpaaDoorSeq
import Derived.Test.YtjleflfncijnpaaDoorTextC
import Derived.Test.YtjleflfncijnpaaDoorTextM
set_option linter.unusedVariables false
set_option linter.unusedSimpArgs false
set_option maxHeartbeats 4000000
set_option maxRecDepth 100000
namespace Go.Proofs.YtjleflfncijnpaaDoor
open Go Go.RowKit
theorem dec_one {v : Nat} (h : v < 10) : Lib.decDigits v = [UInt8.ofNat (48 + v % 10)] := by rw [Lib.decDigits, dif_pos h, Nat.mod_eq_of_lt h]
theorem dec_more {v : Nat} (h : ¬ v < 10) : Lib.decDigits v = Lib.decDigits (v / 10) ++ [UInt8.ofNat (48 + v % 10)] := by rw [Lib.decDigits, dif_neg h]
def digU (v : Nat) : UInt8 := UInt8.ofNat (48 + v % 10)
theorem digU_nat (v : Nat) : (digU v).toNat = 48 + v % 10 := byte_nat (by omega)
theorem add_lists (W : World) (x y : List UInt8) (hx : x.length ≤ 1000) (hy : y.length ≤ 1000) : (Op.stringOp .add ⟨x.toArray⟩ ⟨y.toArray⟩).run Tryd.prog W = .ok (.string ⟨(x ++ y).toArray⟩) W :=
  run_string_add_lists W x y (by omega) (by omega)
theorem digits_any (u : Nat) (z : Int) (hz : z = (u : Int)) (hu : u < 18446744073709551616) (w : World) :
    Calls Tryd.prog 67 #[.int .u64 z] w fun e w' => e = .returned (.string ⟨(Lib.decDigits u).toArray⟩) ∧ Below w.heap.size w w' := by
  subst hz
  have hL := dec_length hu
  go_enter Tryd.func67, Tryd.ntmps67
  go_wp2_with fail
  go_loopw [0, 3] (fun s t wx => ∃ (v : Nat) (acc : List UInt8), s = .int .u64 v ∧ t = .string ⟨acc.toArray⟩ ∧ v ≤ u ∧ Lib.decDigits v ++ acc = Lib.decDigits u ∧ Below w.heap.size w wx) (fun s _ _ => (intOf s).toNat)
  case atStart => exact ⟨u, [], rfl, rfl, Nat.le_refl _, by rw [List.append_nil], Below.refl _ _⟩
  case round =>
    obtain ⟨v, acc, rfl, rfl, hv, hT, hB⟩ := hrel
    have hsz := hB.size
    have ha : acc.length ≤ 20 := by have h6 := congrArg List.length hT; rw [List.length_append] at h6; omega
    have hc := fun W => conv_byte W (48 + (v : Int) % 10) (digU v) (by rw [digU_nat]; omega)
    have hd := fun W => add_lists W [digU v] acc (by simp) (by omega)
    by_cases c : v < 10
    · have c1 : ((v : Int) / 10 == 0) = true := by rw [beq_iff_eq]; omega
      have hT2 : digU v :: acc = Lib.decDigits u := by rw [← hT, dec_one c]; rfl
      clear hT
      go_wp2_with fail
      go_ret
      exact ⟨rfl, by go_grown⟩
    · have c1 : ((v : Int) / 10 == 0) = false := by rw [beq_eq_false_iff_ne]; omega
      have hT2 : Lib.decDigits (v / 10) ++ digU v :: acc = Lib.decDigits u := by rw [← hT, dec_more c, List.append_assoc]; rfl
      clear hT
      go_wp2_with fail
      exact ⟨⟨v / 10, digU v :: acc, by go_num, rfl, by omega, hT2, by go_grown⟩, by simp [intOf]; omega⟩
theorem numberx (n : Int) (w : World) (h : (-9223372036854775808 ≤ n ∧ n ≤ 9223372036854775807)) :
    Calls Tryd.prog 66 #[.int .i64 n] w fun e w' => e = .returned (.bool (decide (-9223372036854775807 ≤ n))) ∧ w = w' := by
  obtain ⟨a1, a2⟩ := h
  go_enter Tryd.func66, Tryd.ntmps66
  go_wp2
  all_goals (go_ret; exact ⟨ret_bool (by first | rfl | simp), rfl⟩)
theorem rtext_none (w : World) :
    Calls Tryd.prog 15 #[.int .i64 (-9223372036854775808)] w fun e w' => e = .returned (.string ⟨(textS (-9223372036854775808)).toArray⟩) ∧ Below w.heap.size w w' := by
  have d : decide (-9223372036854775807 ≤ (-9223372036854775808 : Int)) = false := by decide
  go_enter Tryd.func15, Tryd.ntmps15
  go_wp2_with fail
  refine (numberx _ _ (by omega)).mono ?_; rintro e w' ⟨rfl, rfl⟩
  go_wp2_with fail
  all_goals (go_ret; exact ⟨by first | rfl | (simp [textS]; done), by go_grown⟩)
theorem rtext_n1 (n : Int) (w : World) (h : (-9223372036854775808 ≤ n ∧ n ≤ 9223372036854775807)) (hm : -9223372036854775807 ≤ n) (hs : n < 0) (q r : Nat) (hq : n.natAbs / 4294967296 = q) (hr : n.natAbs % 4294967296 = r) (hr0 : r ≠ 0) (T : List UInt8) (hT : Hid (T = [45] ++ Lib.decDigits q ++ (46 :: fracD 32 r))) :
    Calls Tryd.prog 15 #[.int .i64 n] w fun e w' => e = .returned (.string ⟨T.toArray⟩) ∧ Below w.heap.size w w' := by
  have hr2 : r < 4294967296 := by omega
  have hq2 : q < 18446744073709551616 := by omega
  have hl := dec_length hq2
  have hTl : Hid (T.length ≤ 60) := hid (by rw [hT.out]; have h6 := frac_length 32 r; (try simp only [List.length_append, List.length_cons, List.length_nil]); omega)
  have d : decide (-9223372036854775807 ≤ n) = true := decide_eq_true hm
  have ha : IntKind.u64.wrap (-n) = (n.natAbs : Int) := by rw [IntKind.wrap_u64]; omega
  have hq1 : (n.natAbs : Int) / 4294967296 = (q : Int) := by omega
  have hr1 : (n.natAbs : Int) % 4294967296 = (r : Int) := by omega
  obtain ⟨pre, hpre⟩ : ∃ pre : List UInt8, pre = [45] ++ Lib.decDigits q := ⟨_, rfl⟩
  have hd := fun W => add_lists W [45] (Lib.decDigits q) (by simp) (by omega)
  rw [← hpre] at hd
  have hpl : 1 ≤ pre.length ∧ pre.length ≤ 21 := by rw [hpre, List.length_append]; simp only [List.length_cons, List.length_nil]; omega
  obtain ⟨pre2, hpre2⟩ : ∃ pre2 : List UInt8, pre2 = pre ++ [46] := ⟨_, rfl⟩
  have hd2 := fun W => add_lists W pre [46] (by omega) (by simp)
  rw [← hpre2] at hd2
  replace hT := hid (show T = pre2 ++ fracD 32 r by rw [hT.out, hpre2, hpre]; simp)
  clear hq hr
  go_enter Tryd.func15, Tryd.ntmps15
  go_wp2_with fail
  refine (numberx _ _ h).mono ?_; rintro e w0 ⟨rfl, rfl⟩
  go_wp2_with fail
  refine useF w (digits_any q _ (by first | rfl | exact hq1) hq2 _) (by go_grown) ?_; rintro e w1 rfl hB1 hk1 hf1 hs1; clear hk1 hf1 hs1
  have hz : ((r : Int) == 0) = false := by rw [beq_eq_false_iff_ne]; omega
  have hp2 : pre2.length ≤ 22 := by rw [hpre2, List.length_append]; simp only [List.length_cons, List.length_nil]; omega
  clear hpre hpre2
  go_wp2_with fail
  (try simp only [hr1])
  go_loopw [6, 4] (fun s t wx => ∃ (f r : Nat) (acc : List UInt8), s = .int .u64 r ∧ t = .string ⟨acc.toArray⟩ ∧ GoodF f r ∧ acc ++ fracD f r = T ∧ Below w.heap.size w wx) (fun _ t _ => 60 - lenV t)
  case atStart => exact ⟨32, r, pre2, rfl, rfl, goodF_start hr2, hT.out.symm, hB1⟩
  case round =>
    clear hd hd2 hB1 hz
    obtain ⟨f, r, acc, rfl, rfl, hg, hT, hB⟩ := hrel
    have hsz := hB.size
    have hr2 := hg.1
    by_cases e : r = 0
    · subst e
      rw [frac_nil, List.append_nil] at hT
      subst hT
      go_wp2_with fail
      go_ret
      exact ⟨rfl, hB⟩
    · cases f with
      | zero => exact absurd (goodF_zero hg) e
      | succ f =>
        rw [frac_cons e] at hT
        have e1 : (0 : Int) < r := by omega
        have e2 : decide ((0 : Int) < r) = true := decide_eq_true e1
        have hL : acc.length < 60 := by have h6 := congrArg List.length hT; have h7 := hTl.out; rw [List.length_append, List.length_cons] at h6; omega
        obtain ⟨acc2, ha2⟩ : ∃ acc2 : List UInt8, acc2 = acc ++ [digC r] := ⟨_, rfl⟩
        have hd := fun W => add_lists W acc [digC r] (by omega) (by simp)
        rw [← ha2] at hd
        have hc := fun W => conv_byte W (48 + (r : Int) * 10 / 4294967296) (digC r) (by rw [digC_nat hr2]; omega)
        have hT2 : acc2 ++ fracD f (r * 10 % 4294967296) = T := by rw [ha2, List.append_assoc]; exact hT
        have hl2 : acc2.length = acc.length + 1 := by rw [ha2, List.length_append]; rfl
        clear ha2 hT
        go_wp2_with fail
        exact ⟨⟨f, r * 10 % 4294967296, acc2, by go_num, rfl, goodF_next hg, hT2, by go_grown⟩, by
          show 60 - acc2.length < 60 - acc.length
          omega⟩
theorem rtext_p1 (n : Int) (w : World) (h : (-9223372036854775808 ≤ n ∧ n ≤ 9223372036854775807)) (hm : -9223372036854775807 ≤ n) (hs : ¬ n < 0) (q r : Nat) (hq : n.natAbs / 4294967296 = q) (hr : n.natAbs % 4294967296 = r) (hr0 : r ≠ 0) (T : List UInt8) (hT : Hid (T = Lib.decDigits q ++ (46 :: fracD 32 r))) :
    Calls Tryd.prog 15 #[.int .i64 n] w fun e w' => e = .returned (.string ⟨T.toArray⟩) ∧ Below w.heap.size w w' := by
  have hr2 : r < 4294967296 := by omega
  have hq2 : q < 18446744073709551616 := by omega
  have hl := dec_length hq2
  have hTl : Hid (T.length ≤ 60) := hid (by rw [hT.out]; have h6 := frac_length 32 r; (try simp only [List.length_append, List.length_cons, List.length_nil]); omega)
  have d : decide (-9223372036854775807 ≤ n) = true := decide_eq_true hm
  have ha : IntKind.u64.wrap (n) = (n.natAbs : Int) := by rw [IntKind.wrap_u64]; omega
  have hq1 : (n.natAbs : Int) / 4294967296 = (q : Int) := by omega
  have hr1 : (n.natAbs : Int) % 4294967296 = (r : Int) := by omega
  obtain ⟨pre, hpre⟩ : ∃ pre : List UInt8, pre = [] ++ Lib.decDigits q := ⟨_, rfl⟩
  have hd := fun W => add_lists W [] (Lib.decDigits q) (by simp) (by omega)
  rw [← hpre] at hd
  have hpl : 1 ≤ pre.length ∧ pre.length ≤ 21 := by rw [hpre, List.length_append]; simp only [List.length_cons, List.length_nil]; omega
  obtain ⟨pre2, hpre2⟩ : ∃ pre2 : List UInt8, pre2 = pre ++ [46] := ⟨_, rfl⟩
  have hd2 := fun W => add_lists W pre [46] (by omega) (by simp)
  rw [← hpre2] at hd2
  replace hT := hid (show T = pre2 ++ fracD 32 r by rw [hT.out, hpre2, hpre]; simp)
  clear hq hr
  go_enter Tryd.func15, Tryd.ntmps15
  go_wp2_with fail
  refine (numberx _ _ h).mono ?_; rintro e w0 ⟨rfl, rfl⟩
  go_wp2_with fail
  refine useF w (digits_any q _ (by first | rfl | exact hq1) hq2 _) (by go_grown) ?_; rintro e w1 rfl hB1 hk1 hf1 hs1; clear hk1 hf1 hs1
  have hz : ((r : Int) == 0) = false := by rw [beq_eq_false_iff_ne]; omega
  have hp2 : pre2.length ≤ 22 := by rw [hpre2, List.length_append]; simp only [List.length_cons, List.length_nil]; omega
  clear hpre hpre2
  go_wp2_with fail
  (try simp only [hr1])
  go_loopw [6, 4] (fun s t wx => ∃ (f r : Nat) (acc : List UInt8), s = .int .u64 r ∧ t = .string ⟨acc.toArray⟩ ∧ GoodF f r ∧ acc ++ fracD f r = T ∧ Below w.heap.size w wx) (fun _ t _ => 60 - lenV t)
  case atStart => exact ⟨32, r, pre2, rfl, rfl, goodF_start hr2, hT.out.symm, hB1⟩
  case round =>
    clear hd hd2 hB1 hz
    obtain ⟨f, r, acc, rfl, rfl, hg, hT, hB⟩ := hrel
    have hsz := hB.size
    have hr2 := hg.1
    by_cases e : r = 0
    · subst e
      rw [frac_nil, List.append_nil] at hT
      subst hT
      go_wp2_with fail
      go_ret
      exact ⟨rfl, hB⟩
    · cases f with
      | zero => exact absurd (goodF_zero hg) e
      | succ f =>
        rw [frac_cons e] at hT
        have e1 : (0 : Int) < r := by omega
        have e2 : decide ((0 : Int) < r) = true := decide_eq_true e1
        have hL : acc.length < 60 := by have h6 := congrArg List.length hT; have h7 := hTl.out; rw [List.length_append, List.length_cons] at h6; omega
        obtain ⟨acc2, ha2⟩ : ∃ acc2 : List UInt8, acc2 = acc ++ [digC r] := ⟨_, rfl⟩
        have hd := fun W => add_lists W acc [digC r] (by omega) (by simp)
        rw [← ha2] at hd
        have hc := fun W => conv_byte W (48 + (r : Int) * 10 / 4294967296) (digC r) (by rw [digC_nat hr2]; omega)
        have hT2 : acc2 ++ fracD f (r * 10 % 4294967296) = T := by rw [ha2, List.append_assoc]; exact hT
        have hl2 : acc2.length = acc.length + 1 := by rw [ha2, List.length_append]; rfl
        clear ha2 hT
        go_wp2_with fail
        exact ⟨⟨f, r * 10 % 4294967296, acc2, by go_num, rfl, goodF_next hg, hT2, by go_grown⟩, by
          show 60 - acc2.length < 60 - acc.length
          omega⟩
theorem rtext_n0 (n : Int) (w : World) (h : (-9223372036854775808 ≤ n ∧ n ≤ 9223372036854775807)) (hm : -9223372036854775807 ≤ n) (hs : n < 0) (q r : Nat) (hq : n.natAbs / 4294967296 = q) (hr : n.natAbs % 4294967296 = r) (hr0 : r = 0) (T : List UInt8) (hT : Hid (T = [45] ++ Lib.decDigits q)) :
    Calls Tryd.prog 15 #[.int .i64 n] w fun e w' => e = .returned (.string ⟨T.toArray⟩) ∧ Below w.heap.size w w' := by
  have hr2 : r < 4294967296 := by omega
  have hq2 : q < 18446744073709551616 := by omega
  have hl := dec_length hq2
  have hTl : Hid (T.length ≤ 60) := hid (by rw [hT.out]; have h6 := frac_length 32 r; (try simp only [List.length_append, List.length_cons, List.length_nil]); omega)
  have d : decide (-9223372036854775807 ≤ n) = true := decide_eq_true hm
  have ha : IntKind.u64.wrap (-n) = (n.natAbs : Int) := by rw [IntKind.wrap_u64]; omega
  have hq1 : (n.natAbs : Int) / 4294967296 = (q : Int) := by omega
  have hr1 : (n.natAbs : Int) % 4294967296 = (r : Int) := by omega
  obtain ⟨pre, hpre⟩ : ∃ pre : List UInt8, pre = [45] ++ Lib.decDigits q := ⟨_, rfl⟩
  have hd := fun W => add_lists W [45] (Lib.decDigits q) (by simp) (by omega)
  rw [← hpre] at hd
  have hpl : 1 ≤ pre.length ∧ pre.length ≤ 21 := by rw [hpre, List.length_append]; simp only [List.length_cons, List.length_nil]; omega
  obtain ⟨pre2, hpre2⟩ : ∃ pre2 : List UInt8, pre2 = pre ++ [46] := ⟨_, rfl⟩
  have hd2 := fun W => add_lists W pre [46] (by omega) (by simp)
  rw [← hpre2] at hd2
  replace hT := hid (show T = pre by rw [hT.out, hpre] <;> simp)
  clear hq hr
  go_enter Tryd.func15, Tryd.ntmps15
  go_wp2_with fail
  refine (numberx _ _ h).mono ?_; rintro e w0 ⟨rfl, rfl⟩
  go_wp2_with fail
  refine useF w (digits_any q _ (by first | rfl | exact hq1) hq2 _) (by go_grown) ?_; rintro e w1 rfl hB1 hk1 hf1 hs1; clear hk1 hf1 hs1
  subst hr0
  clear hpre hpre2 hd2
  have hz : (n.natAbs : Int) % 4294967296 = 0 := by omega
  go_wp2_with fail
  go_ret
  exact ⟨by rw [hT.out]; rfl, by go_grown⟩
theorem rtext_p0 (n : Int) (w : World) (h : (-9223372036854775808 ≤ n ∧ n ≤ 9223372036854775807)) (hm : -9223372036854775807 ≤ n) (hs : ¬ n < 0) (q r : Nat) (hq : n.natAbs / 4294967296 = q) (hr : n.natAbs % 4294967296 = r) (hr0 : r = 0) (T : List UInt8) (hT : Hid (T = Lib.decDigits q)) :
    Calls Tryd.prog 15 #[.int .i64 n] w fun e w' => e = .returned (.string ⟨T.toArray⟩) ∧ Below w.heap.size w w' := by
  have hr2 : r < 4294967296 := by omega
  have hq2 : q < 18446744073709551616 := by omega
  have hl := dec_length hq2
  have hTl : Hid (T.length ≤ 60) := hid (by rw [hT.out]; have h6 := frac_length 32 r; (try simp only [List.length_append, List.length_cons, List.length_nil]); omega)
  have d : decide (-9223372036854775807 ≤ n) = true := decide_eq_true hm
  have ha : IntKind.u64.wrap (n) = (n.natAbs : Int) := by rw [IntKind.wrap_u64]; omega
  have hq1 : (n.natAbs : Int) / 4294967296 = (q : Int) := by omega
  have hr1 : (n.natAbs : Int) % 4294967296 = (r : Int) := by omega
  obtain ⟨pre, hpre⟩ : ∃ pre : List UInt8, pre = [] ++ Lib.decDigits q := ⟨_, rfl⟩
  have hd := fun W => add_lists W [] (Lib.decDigits q) (by simp) (by omega)
  rw [← hpre] at hd
  have hpl : 1 ≤ pre.length ∧ pre.length ≤ 21 := by rw [hpre, List.length_append]; simp only [List.length_cons, List.length_nil]; omega
  obtain ⟨pre2, hpre2⟩ : ∃ pre2 : List UInt8, pre2 = pre ++ [46] := ⟨_, rfl⟩
  have hd2 := fun W => add_lists W pre [46] (by omega) (by simp)
  rw [← hpre2] at hd2
  replace hT := hid (show T = pre by rw [hT.out, hpre] <;> simp)
  clear hq hr
  go_enter Tryd.func15, Tryd.ntmps15
  go_wp2_with fail
  refine (numberx _ _ h).mono ?_; rintro e w0 ⟨rfl, rfl⟩
  go_wp2_with fail
  refine useF w (digits_any q _ (by first | rfl | exact hq1) hq2 _) (by go_grown) ?_; rintro e w1 rfl hB1 hk1 hf1 hs1; clear hk1 hf1 hs1
  subst hr0
  clear hpre hpre2 hd2
  have hz : (n.natAbs : Int) % 4294967296 = 0 := by omega
  go_wp2_with fail
  go_ret
  exact ⟨by rw [hT.out]; rfl, by go_grown⟩
/-- Text of any number, as the document says. -/
theorem rtext_any (n : Int) (w : World) (h : (-9223372036854775808 ≤ n ∧ n ≤ 9223372036854775807)) :
    Calls Tryd.prog 15 #[.int .i64 n] w fun e w' => e = .returned (.string ⟨(textS n).toArray⟩) ∧ Below w.heap.size w w' := by
  by_cases hm : n = -9223372036854775808
  · subst hm; exact rtext_none w
  · have e : textS n = signD n ++ Lib.decDigits (n.natAbs / 4294967296) ++ tailD (n.natAbs % 4294967296) := if_neg hm
    by_cases hs : n < 0
    · have e1 : signD n = [45] := if_pos hs
      by_cases hr : n.natAbs % 4294967296 = 0
      · have e2 : tailD (n.natAbs % 4294967296) = [] := if_pos hr
        exact rtext_n0 n w h (by omega) hs _ _ rfl rfl hr _ (hid (by rw [e, e1, e2, List.append_nil]))
      · have e2 : tailD (n.natAbs % 4294967296) = 46 :: fracD 32 (n.natAbs % 4294967296) := if_neg hr
        exact rtext_n1 n w h (by omega) hs _ _ rfl rfl hr _ (hid (by rw [e, e1, e2]))
    · have e1 : signD n = [] := if_neg hs
      by_cases hr : n.natAbs % 4294967296 = 0
      · have e2 : tailD (n.natAbs % 4294967296) = [] := if_pos hr
        exact rtext_p0 n w h (by omega) hs _ _ rfl rfl hr _ (hid (by rw [e, e1, e2, List.append_nil, List.nil_append]))
      · have e2 : tailD (n.natAbs % 4294967296) = 46 :: fracD 32 (n.natAbs % 4294967296) := if_neg hr
        exact rtext_p1 n w h (by omega) hs _ _ rfl rfl hr _ (hid (by rw [e, e1, e2, List.nil_append]))
end Go.Proofs.YtjleflfncijnpaaDoor
