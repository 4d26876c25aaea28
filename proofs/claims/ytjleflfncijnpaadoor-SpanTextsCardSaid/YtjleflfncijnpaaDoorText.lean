/- The text of any number, by package span. -/
import Derived.Lib.SmallJoins
import Derived.Lib.AppendIntMem
import Derived.Shelf.Strconv.AppendInt10
import Derived.Test.YtjleflfncijnpaaDoorRows
import Derived.Test.YtjleflfncijnpaaDoorBase
import Derived.Test.YtjleflfncijnpaaDoorFacts
import Derived.Test.YtjleflfncijnpaaDoorTwo
import Derived.Deep.RegionHeld3
import Derived.Deep.RegionWith
import Derived.Deep.QuietTactic
import Derived.BigQuiet
import Derived.Test.YtjleflfncijnpaaDoorSeq
import Derived.Test.YtjleflfncijnpaaDoorShelfT
import Derived.Test.YtjleflfncijnpaaDoorTextC
import Derived.Test.YtjleflfncijnpaaDoorTextM
set_option linter.unusedVariables false
set_option linter.unusedSimpArgs false
set_option maxHeartbeats 4000000
set_option maxRecDepth 100000
namespace Go.Proofs.YtjleflfncijnpaaDoor
open Go Go.RowKit
def Tab10 (w : World) : Prop := Lib.TabIs Tryd.prog w "internal/strconv.uint64pow10" .u64 Lib.pow10Tab
theorem Tab10.on {w W : World} (h : Tab10 w) (hb : Below w.heap.size w W) : Tab10 W :=
  let ⟨_, hg⟩ := Option.isSome_iff_exists.1 (show (Tryd.prog.globalNamed "internal/strconv.uint64pow10").isSome = true by kernel_rfl)
  Joins.tab_stays hg h hb (Nat.le_refl _)
theorem app_own {ops : Array Oper} {rest : List Oper} {o : Oper} {a : Act} {Q : Exit → Act → World → Prop} {w0 : World} (hgd : o.guard = none) (s x : Operand)
    (ho : o.op = .call { callee := .builtin .append, args := #[s, x], argTypes := #[91, 91] }) (B : Nat) (v : Value) (l : List UInt8) (c : UInt8) (hs : a.eval s = v) (hown : OwnB B l v w0) (b : Int) (hx : a.eval x = .slice (some ⟨w0.heap.size, 0, none⟩) 1 1)
    (hb : b = (c.toNat : Int)) (hn : l.length < 1000000) (hB : B ≤ w0.heap.size)
    (h : ∀ v' w', OwnB B (l ++ [c]) v' w' → Below B w0 w' → wpList Tryd.prog ops Q rest (a.put o.dst v') w') : wpList Tryd.prog ops Q (o :: rest) a (w0.alloc (.cells #[.int .u8 b] 5)) :=
  app_byte hgd s x ho B v l.length (Lib.byteCells l) hs hown b hx hn hB fun v' w' h1 h2 => h v' w' (OwnB.of h1 hb) h2
/-- AppendUint of any number. -/
theorem au_any (B : Nat) (l : List UInt8) (u : Nat) (z : Int) (hz : z = (u : Int)) (hu : u < 18446744073709551616) (sv : Value) (w : World) (ht : Hid (Tab10 w)) (hown : OwnB B l sv w) (hB : B ≤ w.heap.size) (hn : l.length < 1000000) :
    Calls Tryd.prog 64 #[sv, .int .u64 z, .int .i64 10] w fun e w' => ∃ v', e = .returned v' ∧ OwnB B (l ++ Lib.decDigits u) v' w' ∧ Below B w w' := by
  subst hz
  have K := Lib.hid (Tryd.internal_strconv_AppendUint_10 B l.length u hu sv (Lib.byteCells l) w hown hB (by omega) ht.out)
  go_enter Tryd.func64, Tryd.ntmps64
  go_wp2_with (go_at_call 92; refine K.out.mono ?_; rintro e w' ⟨v', rfl, h1, h2, _⟩)
  go_ret
  exact ⟨v', rfl, OwnB.app h1, h2⟩
theorem sizex (n : Int) (w : World) (h : (-9223372036854775808 ≤ n ∧ n ≤ 9223372036854775807)) :
    Calls Tryd.prog 65 #[.int .i64 n] w fun e w' => e = .returned (.int .u64 ((n.natAbs : Int))) ∧ w = w' := by
  obtain ⟨n1, n2⟩ := h
  go_enter Tryd.func65, Tryd.ntmps65
  go_wp2
  all_goals (go_ret; exact ⟨ret_int (by (try simp only [IntKind.wrap_u64]); omega), rfl⟩)
theorem validx (n : Int) (w : World) (h : (-9223372036854775808 ≤ n ∧ n ≤ 9223372036854775807)) :
    Calls Tryd.prog 63 #[.int .i64 n] w fun e w' => e = .returned (.bool (decide (-9223372036854775807 ≤ n))) ∧ w = w' := by
  obtain ⟨a1, a2⟩ := h
  go_enter Tryd.func63, Tryd.ntmps63
  go_wp2
  all_goals (go_ret; exact ⟨ret_bool (by first | rfl | simp), rfl⟩)
theorem text_none (w : World) :
    Calls Tryd.prog 14 #[.int .i64 (-9223372036854775808)] w fun e w' => e = .returned (.string ⟨(textS (-9223372036854775808)).toArray⟩) ∧ Below w.heap.size w w' := by
  go_enter Tryd.func14, Tryd.ntmps14
  go_wp2_with fail
  refine (validx _ _ (by omega)).mono ?_; rintro e w' ⟨rfl, rfl⟩
  have d : decide (-9223372036854775807 ≤ (-9223372036854775808 : Int)) = false := by decide
  go_wp2_with fail
  all_goals (go_ret; exact ⟨by first | rfl | (simp [textS]; done), by go_grown⟩)
theorem text_n1 (n : Int) (w : World) (h : (-9223372036854775808 ≤ n ∧ n ≤ 9223372036854775807)) (hm : -9223372036854775807 ≤ n) (hs : n < 0) (ht : Hid (Tab10 w)) (q r : Nat) (hq : n.natAbs / 4294967296 = q) (hr : n.natAbs % 4294967296 = r) (hr0 : r ≠ 0) (T : List UInt8) (hT : Hid (T = [45] ++ Lib.decDigits q ++ (46 :: fracD 32 r))) :
    Calls Tryd.prog 14 #[.int .i64 n] w fun e w' => e = .returned (.string ⟨T.toArray⟩) ∧ Below w.heap.size w w' := by
  have hq1 : (n.natAbs : Int) / 4294967296 = (q : Int) := by omega
  have hr1 : (n.natAbs : Int) % 4294967296 = (r : Int) := by omega
  have hr2 : r < 4294967296 := by omega
  have hq2 : q < 18446744073709551616 := by omega
  have hl := dec_length hq2
  have d : decide (-9223372036854775807 ≤ n) = true := decide_eq_true hm
  have d2 : decide (n < 0) = true := by exact decide_eq_true hs
  have hTl : Hid (T.length ≤ 60) := hid (by rw [hT.out]; have h6 := frac_length 32 r; (try simp only [List.length_append, List.length_cons, List.length_nil]); omega)
  clear hq hr
  go_enter Tryd.func14, Tryd.ntmps14
  go_wp2_with fail
  refine (validx _ _ h).mono ?_; rintro e w0 ⟨rfl, rfl⟩
  go_wp2_with (at_builtin; refine app_own rfl _ _ rfl w.heap.size (.slice none 0 0) [] 45 (by rfl) (by exact OwnB.nil w.heap.size w) _ rfl rfl (by decide) (Nat.le_refl _) ?_)
  intro v1 w1 h1 hb1
  go_wp2_with fail
  refine (sizex _ _ h).mono ?_; rintro e w2 ⟨rfl, rfl⟩
  go_wp2_with fail
  refine (au_any w.heap.size [45] q _ (by first | exact hq1 | omega) hq2 _ _ (hid (ht.out.on hb1)) h1 hb1.size (by decide)).mono ?_; rintro e w3 ⟨v3, rfl, h3, hb3⟩
  replace hb3 := hb1.trans hb3
  clear h1 hb1
  go_wp2_with fail
  refine (sizex _ _ h).mono ?_; rintro e w4 ⟨rfl, rfl⟩
  have hz : (n.natAbs : Int) % 4294967296 ≠ 0 := by omega
  go_wp2_with (at_builtin; refine app_own rfl _ _ rfl w.heap.size v3 _ 46 (by rfl) (by exact h3) _ rfl rfl (by simp only [List.length_append, List.length_cons, List.length_nil]; omega) hb3.size ?_)
  intro v4 w4 h4 hb4
  replace hb4 := hb3.trans hb4
  clear h3 hb3
  go_wp2_with fail
  (try simp only [hr1])
  go_loopw [5, 3] (fun s t wx => ∃ (f r : Nat) (acc : List UInt8), s = .int .u64 r ∧ GoodF f r ∧ acc ++ fracD f r = T ∧ 1 ≤ acc.length ∧ OwnB w.heap.size acc t wx ∧ Below w.heap.size w wx) (fun _ t _ => 60 - lenV t)
  case atStart => exact ⟨32, r, _, rfl, goodF_start hr2, by first | exact hT.out.symm | (simp [hT.out]), by simp, h4, hb4⟩
  case round =>
    clear h4 hb4
    obtain ⟨f, r, acc, rfl, hg, hT, hl, hown, hB⟩ := hrel
    have hr2 := hg.1
    by_cases e : r = 0
    · subst e
      rw [frac_nil, List.append_nil] at hT
      subst hT
      have hc := own_string hown hl
      go_wp2_with fail
      go_ret
      exact ⟨rfl, hB⟩
    · cases f with
      | zero => exact absurd (goodF_zero hg) e
      | succ f =>
        rw [frac_cons e] at hT
        have e1 : ¬ (r : Int) = 0 := by omega
        have hL : acc.length < 60 := by have h6 := congrArg List.length hT; have h7 := hTl.out; rw [List.length_append, List.length_cons] at h6; omega
        go_wp2_with (at_builtin; refine app_own rfl _ _ rfl w.heap.size _ acc (digC r) (by rfl) (by exact hown) _ rfl (by rw [digC_nat hr2]; omega) (by omega) hB.size ?_)
        intro v5 w5 h5 hb5
        go_wp2_with fail
        go_roundw
        have hrl : ∃ (g s : Nat) (acc : List UInt8), Value.int .u64 ((r : Int) * 10 % 4294967296) = .int .u64 s ∧ GoodF g s ∧ acc ++ fracD g s = T ∧ 1 ≤ acc.length ∧ OwnB w.heap.size acc v5 w5 ∧ Below w.heap.size w w5 := ⟨f, r * 10 % 4294967296, _, by go_num, goodF_next hg, by rw [List.append_assoc]; exact hT, by rw [List.length_append]; omega, h5, hB.trans hb5⟩
        case rel => first | exact hrl | exact ⟨v5, .int .u64 ((r : Int) * 10 % 4294967296), _, _, _, _, _, _, _, _, _, _, _, _, _, _, _, hrl, rfl⟩
        case measure =>
          show 60 - lenV v5 < 60 - lenV u3
          rw [h5.len, hown.len, List.length_append, List.length_singleton]; omega

theorem text_p1 (n : Int) (w : World) (h : (-9223372036854775808 ≤ n ∧ n ≤ 9223372036854775807)) (hm : -9223372036854775807 ≤ n) (hs : ¬ n < 0) (ht : Hid (Tab10 w)) (q r : Nat) (hq : n.natAbs / 4294967296 = q) (hr : n.natAbs % 4294967296 = r) (hr0 : r ≠ 0) (T : List UInt8) (hT : Hid (T = Lib.decDigits q ++ (46 :: fracD 32 r))) :
    Calls Tryd.prog 14 #[.int .i64 n] w fun e w' => e = .returned (.string ⟨T.toArray⟩) ∧ Below w.heap.size w w' := by
  have hq1 : (n.natAbs : Int) / 4294967296 = (q : Int) := by omega
  have hr1 : (n.natAbs : Int) % 4294967296 = (r : Int) := by omega
  have hr2 : r < 4294967296 := by omega
  have hq2 : q < 18446744073709551616 := by omega
  have hl := dec_length hq2
  have d : decide (-9223372036854775807 ≤ n) = true := decide_eq_true hm
  have d2 : decide (n < 0) = false := by exact decide_eq_false hs
  have hTl : Hid (T.length ≤ 60) := hid (by rw [hT.out]; have h6 := frac_length 32 r; (try simp only [List.length_append, List.length_cons, List.length_nil]); omega)
  clear hq hr
  go_enter Tryd.func14, Tryd.ntmps14
  go_wp2_with fail
  refine (validx _ _ h).mono ?_; rintro e w0 ⟨rfl, rfl⟩
  have h1 := OwnB.nil w.heap.size w
  have hb1 := Below.refl w.heap.size w
  go_wp2_with fail
  refine (sizex _ _ h).mono ?_; rintro e w2 ⟨rfl, rfl⟩
  go_wp2_with fail
  refine (au_any w.heap.size [] q _ (by first | exact hq1 | omega) hq2 _ _ (hid (ht.out.on hb1)) h1 hb1.size (by decide)).mono ?_; rintro e w3 ⟨v3, rfl, h3, hb3⟩
  replace hb3 := hb1.trans hb3
  clear h1 hb1
  go_wp2_with fail
  refine (sizex _ _ h).mono ?_; rintro e w4 ⟨rfl, rfl⟩
  have hz : (n.natAbs : Int) % 4294967296 ≠ 0 := by omega
  go_wp2_with (at_builtin; refine app_own rfl _ _ rfl w.heap.size v3 _ 46 (by rfl) (by exact h3) _ rfl rfl (by simp only [List.length_append, List.length_cons, List.length_nil]; omega) hb3.size ?_)
  intro v4 w4 h4 hb4
  replace hb4 := hb3.trans hb4
  clear h3 hb3
  go_wp2_with fail
  (try simp only [hr1])
  go_loopw [5, 3] (fun s t wx => ∃ (f r : Nat) (acc : List UInt8), s = .int .u64 r ∧ GoodF f r ∧ acc ++ fracD f r = T ∧ 1 ≤ acc.length ∧ OwnB w.heap.size acc t wx ∧ Below w.heap.size w wx) (fun _ t _ => 60 - lenV t)
  case atStart => exact ⟨32, r, _, rfl, goodF_start hr2, by first | exact hT.out.symm | (simp [hT.out]), by simp, h4, hb4⟩
  case round =>
    clear h4 hb4
    obtain ⟨f, r, acc, rfl, hg, hT, hl, hown, hB⟩ := hrel
    have hr2 := hg.1
    by_cases e : r = 0
    · subst e
      rw [frac_nil, List.append_nil] at hT
      subst hT
      have hc := own_string hown hl
      go_wp2_with fail
      go_ret
      exact ⟨rfl, hB⟩
    · cases f with
      | zero => exact absurd (goodF_zero hg) e
      | succ f =>
        rw [frac_cons e] at hT
        have e1 : ¬ (r : Int) = 0 := by omega
        have hL : acc.length < 60 := by have h6 := congrArg List.length hT; have h7 := hTl.out; rw [List.length_append, List.length_cons] at h6; omega
        go_wp2_with (at_builtin; refine app_own rfl _ _ rfl w.heap.size _ acc (digC r) (by rfl) (by exact hown) _ rfl (by rw [digC_nat hr2]; omega) (by omega) hB.size ?_)
        intro v5 w5 h5 hb5
        go_wp2_with fail
        go_roundw
        have hrl : ∃ (g s : Nat) (acc : List UInt8), Value.int .u64 ((r : Int) * 10 % 4294967296) = .int .u64 s ∧ GoodF g s ∧ acc ++ fracD g s = T ∧ 1 ≤ acc.length ∧ OwnB w.heap.size acc v5 w5 ∧ Below w.heap.size w w5 := ⟨f, r * 10 % 4294967296, _, by go_num, goodF_next hg, by rw [List.append_assoc]; exact hT, by rw [List.length_append]; omega, h5, hB.trans hb5⟩
        case rel => first | exact hrl | exact ⟨v5, .int .u64 ((r : Int) * 10 % 4294967296), _, _, _, _, _, _, _, _, _, _, _, _, _, _, _, hrl, rfl⟩
        case measure =>
          show 60 - lenV v5 < 60 - lenV u3
          rw [h5.len, hown.len, List.length_append, List.length_singleton]; omega

theorem text_n0 (n : Int) (w : World) (h : (-9223372036854775808 ≤ n ∧ n ≤ 9223372036854775807)) (hm : -9223372036854775807 ≤ n) (hs : n < 0) (ht : Hid (Tab10 w)) (q r : Nat) (hq : n.natAbs / 4294967296 = q) (hr : n.natAbs % 4294967296 = r) (hr0 : r = 0) (T : List UInt8) (hT : Hid (T = [45] ++ Lib.decDigits q)) :
    Calls Tryd.prog 14 #[.int .i64 n] w fun e w' => e = .returned (.string ⟨T.toArray⟩) ∧ Below w.heap.size w w' := by
  have hq1 : (n.natAbs : Int) / 4294967296 = (q : Int) := by omega
  have hr1 : (n.natAbs : Int) % 4294967296 = (r : Int) := by omega
  have hr2 : r < 4294967296 := by omega
  have hq2 : q < 18446744073709551616 := by omega
  have hl := dec_length hq2
  have d : decide (-9223372036854775807 ≤ n) = true := decide_eq_true hm
  have d2 : decide (n < 0) = true := by exact decide_eq_true hs
  have hTl : Hid (T.length ≤ 60) := hid (by rw [hT.out]; have h6 := frac_length 32 r; (try simp only [List.length_append, List.length_cons, List.length_nil]); omega)
  clear hq hr
  go_enter Tryd.func14, Tryd.ntmps14
  go_wp2_with fail
  refine (validx _ _ h).mono ?_; rintro e w0 ⟨rfl, rfl⟩
  go_wp2_with (at_builtin; refine app_own rfl _ _ rfl w.heap.size (.slice none 0 0) [] 45 (by rfl) (by exact OwnB.nil w.heap.size w) _ rfl rfl (by decide) (Nat.le_refl _) ?_)
  intro v1 w1 h1 hb1
  go_wp2_with fail
  refine (sizex _ _ h).mono ?_; rintro e w2 ⟨rfl, rfl⟩
  go_wp2_with fail
  refine (au_any w.heap.size [45] q _ (by first | exact hq1 | omega) hq2 _ _ (hid (ht.out.on hb1)) h1 hb1.size (by decide)).mono ?_; rintro e w3 ⟨v3, rfl, h3, hb3⟩
  replace hb3 := hb1.trans hb3
  clear h1 hb1
  go_wp2_with fail
  refine (sizex _ _ h).mono ?_; rintro e w4 ⟨rfl, rfl⟩
  replace hr0 := hid hr0
  have hz : ((r : Int) != 0) = false := by simp [hr0.out]
  go_wp2_with fail
  (try simp only [hr1])
  go_loopw [5, 3] (fun s t wx => ∃ (f r : Nat) (acc : List UInt8), s = .int .u64 r ∧ GoodF f r ∧ acc ++ fracD f r = T ∧ 1 ≤ acc.length ∧ OwnB w.heap.size acc t wx ∧ Below w.heap.size w wx) (fun _ t _ => 60 - lenV t)
  case atStart => exact ⟨32, r, _, rfl, goodF_start hr2, by rw [hr0.out, frac_nil, List.append_nil]; exact hT.out.symm, by (try simp only [List.length_append]); omega, h3, hb3⟩
  case round =>
    clear h3 hb3
    obtain ⟨f, r, acc, rfl, hg, hT, hl, hown, hB⟩ := hrel
    have hr2 := hg.1
    by_cases e : r = 0
    · subst e
      rw [frac_nil, List.append_nil] at hT
      subst hT
      have hc := own_string hown hl
      go_wp2_with fail
      go_ret
      exact ⟨rfl, hB⟩
    · cases f with
      | zero => exact absurd (goodF_zero hg) e
      | succ f =>
        rw [frac_cons e] at hT
        have e1 : ¬ (r : Int) = 0 := by omega
        have hL : acc.length < 60 := by have h6 := congrArg List.length hT; have h7 := hTl.out; rw [List.length_append, List.length_cons] at h6; omega
        go_wp2_with (at_builtin; refine app_own rfl _ _ rfl w.heap.size _ acc (digC r) (by rfl) (by exact hown) _ rfl (by rw [digC_nat hr2]; omega) (by omega) hB.size ?_)
        intro v5 w5 h5 hb5
        go_wp2_with fail
        go_roundw
        have hrl : ∃ (g s : Nat) (acc : List UInt8), Value.int .u64 ((r : Int) * 10 % 4294967296) = .int .u64 s ∧ GoodF g s ∧ acc ++ fracD g s = T ∧ 1 ≤ acc.length ∧ OwnB w.heap.size acc v5 w5 ∧ Below w.heap.size w w5 := ⟨f, r * 10 % 4294967296, _, by go_num, goodF_next hg, by rw [List.append_assoc]; exact hT, by rw [List.length_append]; omega, h5, hB.trans hb5⟩
        case rel => first | exact hrl | exact ⟨v5, .int .u64 ((r : Int) * 10 % 4294967296), _, _, _, _, _, _, _, _, _, _, _, _, _, _, _, hrl, rfl⟩
        case measure =>
          show 60 - lenV v5 < 60 - lenV u3
          rw [h5.len, hown.len, List.length_append, List.length_singleton]; omega

theorem text_p0 (n : Int) (w : World) (h : (-9223372036854775808 ≤ n ∧ n ≤ 9223372036854775807)) (hm : -9223372036854775807 ≤ n) (hs : ¬ n < 0) (ht : Hid (Tab10 w)) (q r : Nat) (hq : n.natAbs / 4294967296 = q) (hr : n.natAbs % 4294967296 = r) (hr0 : r = 0) (T : List UInt8) (hT : Hid (T = Lib.decDigits q)) :
    Calls Tryd.prog 14 #[.int .i64 n] w fun e w' => e = .returned (.string ⟨T.toArray⟩) ∧ Below w.heap.size w w' := by
  have hq1 : (n.natAbs : Int) / 4294967296 = (q : Int) := by omega
  have hr1 : (n.natAbs : Int) % 4294967296 = (r : Int) := by omega
  have hr2 : r < 4294967296 := by omega
  have hq2 : q < 18446744073709551616 := by omega
  have hl := dec_length hq2
  have d : decide (-9223372036854775807 ≤ n) = true := decide_eq_true hm
  have d2 : decide (n < 0) = false := by exact decide_eq_false hs
  have hTl : Hid (T.length ≤ 60) := hid (by rw [hT.out]; have h6 := frac_length 32 r; (try simp only [List.length_append, List.length_cons, List.length_nil]); omega)
  clear hq hr
  go_enter Tryd.func14, Tryd.ntmps14
  go_wp2_with fail
  refine (validx _ _ h).mono ?_; rintro e w0 ⟨rfl, rfl⟩
  have h1 := OwnB.nil w.heap.size w
  have hb1 := Below.refl w.heap.size w
  go_wp2_with fail
  refine (sizex _ _ h).mono ?_; rintro e w2 ⟨rfl, rfl⟩
  go_wp2_with fail
  refine (au_any w.heap.size [] q _ (by first | exact hq1 | omega) hq2 _ _ (hid (ht.out.on hb1)) h1 hb1.size (by decide)).mono ?_; rintro e w3 ⟨v3, rfl, h3, hb3⟩
  replace hb3 := hb1.trans hb3
  clear h1 hb1
  go_wp2_with fail
  refine (sizex _ _ h).mono ?_; rintro e w4 ⟨rfl, rfl⟩
  replace hr0 := hid hr0
  have hz : ((r : Int) != 0) = false := by simp [hr0.out]
  go_wp2_with fail
  (try simp only [hr1])
  go_loopw [5, 3] (fun s t wx => ∃ (f r : Nat) (acc : List UInt8), s = .int .u64 r ∧ GoodF f r ∧ acc ++ fracD f r = T ∧ 1 ≤ acc.length ∧ OwnB w.heap.size acc t wx ∧ Below w.heap.size w wx) (fun _ t _ => 60 - lenV t)
  case atStart => exact ⟨32, r, _, rfl, goodF_start hr2, by rw [hr0.out, frac_nil, List.append_nil]; exact hT.out.symm, by (try simp only [List.length_append]); omega, h3, hb3⟩
  case round =>
    clear h3 hb3
    obtain ⟨f, r, acc, rfl, hg, hT, hl, hown, hB⟩ := hrel
    have hr2 := hg.1
    by_cases e : r = 0
    · subst e
      rw [frac_nil, List.append_nil] at hT
      subst hT
      have hc := own_string hown hl
      go_wp2_with fail
      go_ret
      exact ⟨rfl, hB⟩
    · cases f with
      | zero => exact absurd (goodF_zero hg) e
      | succ f =>
        rw [frac_cons e] at hT
        have e1 : ¬ (r : Int) = 0 := by omega
        have hL : acc.length < 60 := by have h6 := congrArg List.length hT; have h7 := hTl.out; rw [List.length_append, List.length_cons] at h6; omega
        go_wp2_with (at_builtin; refine app_own rfl _ _ rfl w.heap.size _ acc (digC r) (by rfl) (by exact hown) _ rfl (by rw [digC_nat hr2]; omega) (by omega) hB.size ?_)
        intro v5 w5 h5 hb5
        go_wp2_with fail
        go_roundw
        have hrl : ∃ (g s : Nat) (acc : List UInt8), Value.int .u64 ((r : Int) * 10 % 4294967296) = .int .u64 s ∧ GoodF g s ∧ acc ++ fracD g s = T ∧ 1 ≤ acc.length ∧ OwnB w.heap.size acc v5 w5 ∧ Below w.heap.size w w5 := ⟨f, r * 10 % 4294967296, _, by go_num, goodF_next hg, by rw [List.append_assoc]; exact hT, by rw [List.length_append]; omega, h5, hB.trans hb5⟩
        case rel => first | exact hrl | exact ⟨v5, .int .u64 ((r : Int) * 10 % 4294967296), _, _, _, _, _, _, _, _, _, _, _, _, _, _, _, hrl, rfl⟩
        case measure =>
          show 60 - lenV v5 < 60 - lenV u3
          rw [h5.len, hown.len, List.length_append, List.length_singleton]; omega

/-- Text of any number. -/
theorem text_any (n : Int) (w : World) (h : (-9223372036854775808 ≤ n ∧ n ≤ 9223372036854775807)) (ht : Hid (Tab10 w)) :
    Calls Tryd.prog 14 #[.int .i64 n] w fun e w' => e = .returned (.string ⟨(textS n).toArray⟩) ∧ Below w.heap.size w w' := by
  by_cases hm : n = -9223372036854775808
  · subst hm; exact text_none w
  · have e : textS n = signD n ++ Lib.decDigits (n.natAbs / 4294967296) ++ tailD (n.natAbs % 4294967296) := if_neg hm
    by_cases hs : n < 0
    · have e1 : signD n = [45] := if_pos hs
      by_cases hr : n.natAbs % 4294967296 = 0
      · have e2 : tailD (n.natAbs % 4294967296) = [] := if_pos hr
        exact text_n0 n w h (by omega) hs ht _ _ rfl rfl hr _ (hid (by rw [e, e1, e2, List.append_nil]))
      · have e2 : tailD (n.natAbs % 4294967296) = 46 :: fracD 32 (n.natAbs % 4294967296) := if_neg hr
        exact text_n1 n w h (by omega) hs ht _ _ rfl rfl hr _ (hid (by rw [e, e1, e2]))
    · have e1 : signD n = [] := if_neg hs
      by_cases hr : n.natAbs % 4294967296 = 0
      · have e2 : tailD (n.natAbs % 4294967296) = [] := if_pos hr
        exact text_p0 n w h (by omega) hs ht _ _ rfl rfl hr _ (hid (by rw [e, e1, e2, List.append_nil, List.nil_append]))
      · have e2 : tailD (n.natAbs % 4294967296) = 46 :: fracD 32 (n.natAbs % 4294967296) := if_neg hr
        exact text_p1 n w h (by omega) hs ht _ _ rfl rfl hr _ (hid (by rw [e, e1, e2, List.nil_append]))
end Go.Proofs.YtjleflfncijnpaaDoor
