/- A number's text, read again, gives the number; what is subtracted and added, divided and multiplied, has all that was there. -/
import Derived.Test.YtjleflfncijnpaaDoorRows
import Derived.Test.YtjleflfncijnpaaDoorBase
import Derived.Test.YtjleflfncijnpaaDoorFacts
import Derived.Test.YtjleflfncijnpaaDoorTwo
import Derived.Deep.RegionHeld3
import Derived.Deep.RegionWith
import Derived.Deep.QuietTactic
import Derived.BigQuiet
import Derived.Test.YtjleflfncijnpaaDoorSeq
import Derived.Test.YtjleflfncijnpaaDoorShelfT
import Derived.Test.YtjleflfncijnpaaDoorTextM
import Derived.Test.YtjleflfncijnpaaDoorReadM
import Derived.Test.YtjleflfncijnpaaDoorReadT
import Derived.Test.YtjleflfncijnpaaDoorCutT
import Derived.Test.YtjleflfncijnpaaDoorFormT
import Derived.Test.YtjleflfncijnpaaDoorDouble
import Derived.Test.YtjleflfncijnpaaDoorPart
import Derived.Test.YtjleflfncijnpaaDoorReadS
import Derived.Test.YtjleflfncijnpaaDoorHoldsM
set_option linter.unusedVariables false
set_option linter.unusedSimpArgs false
set_option maxHeartbeats 4000000
set_option maxRecDepth 100000
namespace Go.Proofs.YtjleflfncijnpaaDoor
open Go Go.RowKit
theorem dec_all (u : Nat) : (Lib.decDigits u).all isD = true := by
  induction u using Nat.strongRecOn with
  | _ u ih =>
    by_cases h : u < 10
    · rw [Lib.decDigits, dif_pos h, List.all_cons, dig_isD h]; rfl
    · rw [Lib.decDigits, dif_neg h, List.all_append, ih (u / 10) (by omega), List.all_cons, dig_isD (Nat.mod_lt _ (by omega))]; rfl
theorem dec_val (u : Nat) : valD (Lib.decDigits u) = u := by
  induction u using Nat.strongRecOn with
  | _ u ih =>
    by_cases h : u < 10
    · rw [Lib.decDigits, dif_pos h]
      show 10 * 0 + ((UInt8.ofNat (48 + u)).toNat - 48) = u
      rw [byte_nat (by omega)]; omega
    · rw [Lib.decDigits, dif_neg h]
      have e := ih (u / 10) (by omega)
      unfold valD at e ⊢
      rw [List.foldl_append, e]
      show 10 * (u / 10) + ((UInt8.ofNat (48 + u % 10)).toNat - 48) = u
      rw [byte_nat (by omega)]; omega
theorem dec_first (u : Nat) (h1 : 1 ≤ u) : ∃ b t, Lib.decDigits u = b :: t ∧ 49 ≤ b.toNat ∧ b.toNat ≤ 57 := by
  induction u using Nat.strongRecOn with
  | _ u ih =>
    by_cases h : u < 10
    · refine ⟨UInt8.ofNat (48 + u), [], ?_, ?_, ?_⟩
      · rw [Lib.decDigits, dif_pos h]
      · rw [byte_nat (by omega)]; omega
      · rw [byte_nat (by omega)]; omega
    · obtain ⟨b, t, e, hb⟩ := ih (u / 10) (by omega) (by omega)
      refine ⟨b, t ++ [UInt8.ofNat (48 + u % 10)], ?_, hb⟩
      rw [Lib.decDigits, dif_neg h, e]; rfl
theorem dec_lead (u : Nat) : leadB (Lib.decDigits u) = false := by
  by_cases h : u < 10
  · rw [Lib.decDigits, dif_pos h]; unfold leadB; simp
  · obtain ⟨b, t, e, h1, _⟩ := dec_first u (by omega)
    have hb : b ≠ 48 := by rintro rfl; exact absurd h1 (by decide)
    unfold leadB; rw [e]
    have h2 : ((b :: t)[0]? == some 48) = false := by simpa using hb
    rw [h2]; rfl
theorem dec_pos (u : Nat) : 1 ≤ (Lib.decDigits u).length := by rw [Lib.decDigits_length]; exact Lib.nDigits_pos u
theorem digC_isD {r : Nat} (h : r < 4294967296) : isD (digC r) = true := by
  unfold isD; rw [digC_nat h]; exact decide_eq_true (by omega)
theorem frac_all : ∀ f r, r < 4294967296 → (fracD f r).all isD = true
  | 0, _, _ => rfl
  | f + 1, r, h => by
    unfold fracD; split
    · rfl
    · rw [List.all_cons, digC_isD h, frac_all f _ (Nat.mod_lt _ (by omega))]; rfl
theorem val_from : ∀ (l : List UInt8) (a : Nat), l.foldl (fun a b => 10 * a + (b.toNat - 48)) a = a * 10 ^ l.length + valD l
  | [], a => by simp [valD]
  | b :: l, a => by
    have h1 := val_from l (10 * a + (b.toNat - 48))
    have h2 := val_from l (10 * 0 + (b.toNat - 48))
    show l.foldl _ (10 * a + (b.toNat - 48)) = a * 10 ^ (l.length + 1) + l.foldl (fun a b => 10 * a + (b.toNat - 48)) (10 * 0 + (b.toNat - 48))
    rw [h1, h2, Nat.pow_succ]
    generalize 10 ^ l.length = P
    generalize b.toNat - 48 = d
    rw [Nat.add_mul, Nat.add_mul, show 10 * a * P = a * (P * 10) by rw [Nat.mul_comm 10 a, Nat.mul_assoc, Nat.mul_comm 10 P]]
    omega
theorem val_cons (b : UInt8) (l : List UInt8) : valD (b :: l) = (b.toNat - 48) * 10 ^ l.length + valD l := by
  have e : valD (b :: l) = l.foldl (fun a b => 10 * a + (b.toNat - 48)) (10 * 0 + (b.toNat - 48)) := rfl
  rw [e, val_from, show 10 * 0 + (b.toNat - 48) = b.toNat - 48 by omega]
theorem val_lt : ∀ l : List UInt8, l.all isD = true → valD l < 10 ^ l.length
  | [], _ => by decide
  | b :: l, h => by
    rw [List.all_cons, Bool.and_eq_true] at h
    have h1 := of_decide_eq_true h.1
    have h2 := val_lt l h.2
    rw [val_cons, List.length_cons, Nat.pow_succ]
    have h3 : (b.toNat - 48) * 10 ^ l.length ≤ 9 * 10 ^ l.length := Nat.mul_le_mul_right _ (by omega)
    omega
theorem val_zero : ∀ l : List UInt8, someB l = true → l.all isD = true → valD l ≠ 0
  | [], h, _ => by cases h
  | b :: l, h, ha => by
    rw [List.all_cons, Bool.and_eq_true] at ha
    unfold someB at h
    rw [List.any_cons, Bool.or_eq_true] at h
    rw [val_cons]
    have hp : 0 < 10 ^ l.length := Nat.pow_pos (by omega)
    rcases h with h | h
    · have h1 := of_decide_eq_true h
      have := Nat.mul_le_mul_right (10 ^ l.length) (show 1 ≤ b.toNat - 48 by omega)
      omega
    · have := val_zero l h ha.2
      omega
theorem val_some : ∀ l : List UInt8, someB l = false → l.all isD = true → valD l = 0
  | [], _, _ => rfl
  | b :: l, h, ha => by
    rw [List.all_cons, Bool.and_eq_true] at ha
    unfold someB at h
    rw [List.any_cons, Bool.or_eq_false_iff] at h
    have h1 := of_decide_eq_false h.1
    have h2 := of_decide_eq_true ha.1
    rw [val_cons, val_some l h.2 ha.2, show b.toNat - 48 = 0 by omega]; omega
theorem frac_val : ∀ f r, GoodF f r → valD (fracD f r) * 4294967296 = r * 10 ^ (fracD f r).length
  | 0, r, h => by rw [goodF_zero h]; simp [fracD, valD]
  | f + 1, r, h => by
    by_cases e : r = 0
    · subst e; rw [frac_nil]; simp [valD]
    · rw [frac_cons e, val_cons, List.length_cons]
      have ih := frac_val f _ (goodF_next h)
      have hd : (digC r).toNat - 48 = r * 10 / 4294967296 := by rw [digC_nat h.1]; omega
      rw [hd, Nat.add_mul, ih, Nat.pow_succ]
      have hm := Nat.div_add_mod (r * 10) 4294967296
      generalize 10 ^ (fracD f (r * 10 % 4294967296)).length = P
      generalize r * 10 / 4294967296 = q at *
      generalize r * 10 % 4294967296 = s at *
      calc q * P * 4294967296 + s * P = (4294967296 * q + s) * P := by rw [Nat.add_mul, Nat.mul_comm (q * P) 4294967296, ← Nat.mul_assoc]
        _ = r * (P * 10) := by rw [hm, Nat.mul_assoc, Nat.mul_comm 10 P]
theorem dbl_val : ∀ l : List UInt8, 2 * valD l = (dblB l).1 * 10 ^ l.length + valD (dblB l).2
  | [] => rfl
  | b :: l => by
    have ih := dbl_val l
    show 2 * valD (b :: l) = (2 * (b.toNat - 48) + (dblB l).1) / 10 * 10 ^ (l.length + 1) + valD (UInt8.ofNat (48 + (2 * (b.toNat - 48) + (dblB l).1) % 10) :: (dblB l).2)
    rw [val_cons, val_cons, dbl_length, byte_nat (by omega), Nat.pow_succ]
    generalize 10 ^ l.length = P at *
    generalize b.toNat - 48 = d at *
    generalize (dblB l).1 = c at *
    generalize valD (dblB l).2 = v at *
    generalize valD l = u at *
    have hT := Nat.div_add_mod (2 * d + c) 10
    generalize (2 * d + c) / 10 = q at *
    generalize hs : (2 * d + c) % 10 = s at *
    rw [show 48 + s - 48 = s by omega]
    have h1 : (10 * q + s) * P = (2 * d + c) * P := by rw [hT]
    rw [Nat.add_mul, Nat.add_mul, Nat.mul_assoc, Nat.mul_assoc] at h1
    rw [Nat.mul_add, show q * (P * 10) = 10 * (q * P) by rw [← Nat.mul_assoc, Nat.mul_comm]]
    omega
theorem dblN_val (l : List UInt8) : ∀ k, 2 ^ k * valD l = (dblN l k).1 * 10 ^ l.length + valD (dblN l k).2
  | 0 => by simp [dblN]
  | k + 1 => by
    have ih := dblN_val l k
    have d := dbl_val (dblN l k).2
    rw [dblN_length] at d
    show 2 ^ (k + 1) * valD l = (2 * (dblN l k).1 + (dblB (dblN l k).2).1) * 10 ^ l.length + valD (dblB (dblN l k).2).2
    rw [Nat.pow_succ, Nat.add_mul, Nat.mul_comm (2 ^ k) 2, Nat.mul_assoc, ih, Nat.mul_add, d, Nat.mul_assoc]
    omega
/-- The part behind the point, doubled. -/
theorem frac_back {r : Nat} (h : r < 4294967296) : (dblN (fracD 32 r) 32).1 = r ∧ someB (dblN (fracD 32 r) 32).2 = false := by
  have ha := frac_all 32 r h
  have h1 := frac_val 32 r (goodF_start h)
  have h2 := dblN_val (fracD 32 r) 32
  have h3 := val_lt _ (dblN_all ha 32)
  rw [dblN_length] at h3
  rw [show (2 ^ 32 : Nat) = 4294967296 from rfl, Nat.mul_comm, h1] at h2
  have h4 : valD (dblN (fracD 32 r) 32).2 = 0 → someB (dblN (fracD 32 r) 32).2 = false := fun h0 => by
    cases hc : someB (dblN (fracD 32 r) 32).2 with
    | false => rfl
    | true => exact absurd h0 (val_zero _ hc (dblN_all ha 32))
  generalize (dblN (fracD 32 r) 32).1 = A at *
  generalize valD (dblN (fracD 32 r) 32).2 = v at *
  generalize hP : 10 ^ (fracD 32 r).length = P at *
  have hA : A = r := by
    rcases Nat.lt_trichotomy A r with g | g | g
    · have := Nat.mul_le_mul_right P (show A + 1 ≤ r by omega)
      rw [Nat.add_mul] at this; omega
    · exact g
    · have := Nat.mul_le_mul_right P (show r + 1 ≤ A by omega)
      rw [Nat.add_mul] at this; omega
  subst hA
  exact ⟨rfl, h4 (by omega)⟩
theorem not_point {l : List UInt8} (h : l.all isD = true) (k : Nat) : l[k]? ≠ some 46 := fun e => by
  have := List.all_eq_true.1 h 46 (List.mem_of_getElem? e)
  exact absurd this (by decide)
/-- The text without its sign. -/
def bareD (n : Int) : List UInt8 := Lib.decDigits (n.natAbs / 4294967296) ++ tailD (n.natAbs % 4294967296)
theorem text_bare (n : Int) (h : -9223372036854775807 ≤ n) : textS n = signD n ++ bareD n := by
  unfold textS bareD; rw [if_neg (by omega), List.append_assoc]
theorem bare_first (n : Int) : ∃ b t, bareD n = b :: t ∧ isD b = true := by
  have h := dec_all (n.natAbs / 4294967296)
  have hl := dec_pos (n.natAbs / 4294967296)
  unfold bareD
  cases hd : Lib.decDigits (n.natAbs / 4294967296) with
  | nil => rw [hd] at hl; simp at hl
  | cons b t =>
    rw [hd, List.all_cons, Bool.and_eq_true] at h
    exact ⟨b, t ++ tailD _, rfl, h.1⟩
theorem text_parts (n : Int) (h : -9223372036854775807 ≤ n) : negL (textS n) = decide (n < 0) ∧ numL (textS n) = bareD n := by
  rw [text_bare n h]
  obtain ⟨b, t, e, hb⟩ := bare_first n
  have hb2 : b ≠ 45 := by rintro rfl; exact absurd hb (by decide)
  unfold negL numL Lib.trimPrefix Lib.hasPrefix signD
  by_cases c : n < 0
  · rw [if_pos c, decide_eq_true c]
    have : ([45] : List UInt8).isPrefixOf ([45] ++ bareD n) = true := by simp [List.isPrefixOf]
    rw [this]
    exact ⟨rfl, by rw [if_pos rfl]; rfl⟩
  · rw [if_neg c, decide_eq_false c, List.nil_append, e]
    have : ([45] : List UInt8).isPrefixOf (b :: t) = false := by
      simp only [List.isPrefixOf, Bool.and_true]
      rw [beq_eq_false_iff_ne]; exact fun h => hb2 h.symm
    rw [this]
    exact ⟨rfl, rfl⟩
theorem bare_cut (n : Int) : cutI (bareD n) = (Lib.decDigits (n.natAbs / 4294967296)).length := by
  refine cutI_eq _ _ (by unfold bareD; rw [List.length_append]; omega) (fun k hk => ?_) ?_
  · unfold bareD; rw [List.getElem?_append_left hk]; exact not_point (dec_all _) k
  · unfold bareD tailD
    split
    · left; simp
    · right; rw [List.getElem?_append_right (Nat.le_refl _)]; simp
theorem bare_cutM (n : Int) : cutM (bareD n) = Lib.decDigits (n.natAbs / 4294967296) := by
  unfold cutM; rw [bare_cut]; unfold bareD; exact List.take_left
theorem bare_cutU (n : Int) : cutU (bareD n) = fracD 32 (n.natAbs % 4294967296) := by
  unfold cutU; rw [bare_cut]; unfold bareD
  rw [List.drop_append, List.drop_eq_nil_of_le (by omega), List.nil_append, show (Lib.decDigits (n.natAbs / 4294967296)).length + 1 - (Lib.decDigits (n.natAbs / 4294967296)).length = 1 by omega]
  unfold tailD
  split
  · rename_i c; rw [c, frac_nil]; rfl
  · rfl
theorem bare_cutP (n : Int) (h : n.natAbs % 4294967296 = 0) : cutP (bareD n) = false := by
  unfold cutP; rw [bare_cut]; unfold bareD tailD; rw [if_pos h]; simp
theorem digB_of {l : List UInt8} (h : l.all isD = true) (hl : 1 ≤ l.length) : digB l = true := by
  unfold digB; rw [h]; cases l with
  | nil => simp at hl
  | cons b t => rfl
theorem bare_form (n : Int) : formB (bareD n) = true := by
  unfold formB
  rw [bare_cutM, bare_cutU, digB_of (dec_all _) (dec_pos _), dec_lead]
  by_cases c : n.natAbs % 4294967296 = 0
  · rw [bare_cutP n c]; rfl
  · have : digB (fracD 32 (n.natAbs % 4294967296)) = true := by
      refine digB_of (frac_all 32 _ (by omega)) ?_
      rw [frac_cons c]; simp
    rw [this]; simp
theorem someB_app (l m : List UInt8) : someB (l ++ m) = (someB l || someB m) := by unfold someB; exact List.any_append
theorem bare_some (n : Int) (h : n ≠ 0) : someB (bareD n) = true := by
  unfold bareD
  rw [someB_app]
  by_cases c : n.natAbs / 4294967296 = 0
  · have hr : n.natAbs % 4294967296 ≠ 0 := by omega
    have e : someB (tailD (n.natAbs % 4294967296)) = true := by
      unfold tailD; rw [if_neg hr]
      have h1 := frac_val 32 _ (goodF_start (show n.natAbs % 4294967296 < 4294967296 by omega))
      have h2 : someB (fracD 32 (n.natAbs % 4294967296)) = true := by
        cases hs : someB (fracD 32 (n.natAbs % 4294967296)) with
        | true => rfl
        | false =>
          rw [val_some _ hs (frac_all 32 _ (by omega))] at h1
          have hp : 0 < 10 ^ (fracD 32 (n.natAbs % 4294967296)).length := Nat.pow_pos (by omega)
          have := Nat.mul_le_mul (show 1 ≤ n.natAbs % 4294967296 by omega) hp
          omega
      unfold someB at h2 ⊢
      rw [List.any_cons, h2, Bool.or_true]
    rw [e, Bool.or_true]
  · obtain ⟨b, t, e, h1, h2⟩ := dec_first _ (show 1 ≤ n.natAbs / 4294967296 by omega)
    have : someB (Lib.decDigits (n.natAbs / 4294967296)) = true := by
      unfold someB; rw [e, List.any_cons, decide_eq_true ⟨h1, h2⟩]; rfl
    rw [this]; rfl
/-- A number's text is read as that number. -/
theorem read_text (n : Int) (h : (-9223372036854775807 ≤ n ∧ n ≤ 9223372036854775807)) : readS (textS n) = (n, n, 0) := by
  obtain ⟨hn, hu⟩ := text_parts n h.1
  have hl := text_length n (by omega)
  obtain ⟨f1, f2⟩ := frac_back (show n.natAbs % 4294967296 < 4294967296 by omega)
  have e1 : rdN (textS n) = n.natAbs := by
    unfold rdN; rw [hu, bare_cutM, bare_cutU, dec_val, f1]; omega
  have e2 : rdM (textS n) = false := by
    unfold rdM; rw [hu, bare_cutU, f2]
  have e3 : rdI (textS n) = 0 := by unfold rdI; rw [e2]; rfl
  unfold readS
  rw [if_neg (by omega), hu, bare_form, bare_cutM, dec_val, e1, e2, e3, hn]
  have c2 : ¬ ((true && (!decide (n < 0) || someB (bareD n))) = false) := by
    by_cases c : n < 0
    · rw [bare_some n (by omega)]; simp
    · rw [decide_eq_false c]; simp
  rw [if_neg c2, if_neg (by omega), if_neg (by simp)]
  by_cases c : n < 0
  · rw [if_pos (decide_eq_true c)]; exact Prod.ext (by dsimp only; omega) (Prod.ext (by dsimp only; omega) rfl)
  · rw [if_neg (by simpa using c)]; exact Prod.ext (by dsimp only; omega) (Prod.ext (by dsimp only; omega) rfl)
/-- What is divided and multiplied again. -/
theorem div_mul_back (al ah bl bh ql qh ml mh : Int) (h : al ≤ ah ∧ bl ≤ bh) (hd : divP al ah bl bh ql qh) (hm : mulP ql qh bl bh ml mh) (hq : ql ≤ qh) : ml ≤ al ∧ ah ≤ mh := by
  have key : ∀ x : Int, al ≤ x ∧ x ≤ ah → ml ≤ x ∧ x ≤ mh := fun x hx => by
    obtain ⟨d1, d2, d3⟩ := hd x bl hx ⟨Int.le_refl _, h.2⟩
    have m1 := hm ql bl ⟨Int.le_refl _, hq⟩ ⟨Int.le_refl _, h.2⟩
    have m2 := hm qh bl ⟨hq, Int.le_refl _⟩ ⟨Int.le_refl _, h.2⟩
    rcases (by omega : 0 < bl ∨ bl < 0) with c | c
    · have := d1 c; omega
    · have := d2 c; omega
  exact ⟨(key al ⟨Int.le_refl _, h.1⟩).1, (key ah ⟨h.1, Int.le_refl _⟩).2⟩
theorem div_order (al ah bl bh ql qh : Int) (h : al ≤ ah ∧ bl ≤ bh) (hd : divP al ah bl bh ql qh) : ql ≤ qh := by
  obtain ⟨d1, d2, d3⟩ := hd al bl ⟨Int.le_refl _, h.1⟩ ⟨Int.le_refl _, h.2⟩
  rcases (by omega : 0 < bl ∨ bl < 0) with c | c
  · have := d1 c
    exact Int.le_of_mul_le_mul_right (show ql * bl ≤ qh * bl by omega) c
  · have := d2 c
    have e : ql * (-bl) ≤ qh * (-bl) := by rw [Int.mul_neg, Int.mul_neg]; omega
    exact Int.le_of_mul_le_mul_right e (by omega)
end Go.Proofs.YtjleflfncijnpaaDoor
