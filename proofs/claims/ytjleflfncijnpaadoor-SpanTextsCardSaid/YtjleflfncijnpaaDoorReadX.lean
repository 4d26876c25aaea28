/- Read of any text, as the document says. -/
import Derived.Test.YtjleflfncijnpaaDoorRows
import Derived.Test.YtjleflfncijnpaaDoorBase
import Derived.Test.YtjleflfncijnpaaDoorFacts
import Derived.Test.YtjleflfncijnpaaDoorTwo
import Derived.Deep.RegionHeld3
import Derived.Deep.RegionWith
import Derived.Deep.QuietTactic
import Derived.BigQuiet
import Derived.Test.YtjleflfncijnpaaDoorW
import Derived.Test.YtjleflfncijnpaaDoorAsks
import Derived.Test.YtjleflfncijnpaaDoorOut
import Derived.Test.YtjleflfncijnpaaDoorSeq
import Derived.Test.YtjleflfncijnpaaDoorTwo
import Derived.Test.YtjleflfncijnpaaDoorOne
import Derived.Test.YtjleflfncijnpaaDoorShelfT
import Derived.Test.YtjleflfncijnpaaDoorTextM
import Derived.Test.YtjleflfncijnpaaDoorReadM
import Derived.Test.YtjleflfncijnpaaDoorReadT
import Derived.Test.YtjleflfncijnpaaDoorCutT
import Derived.Test.YtjleflfncijnpaaDoorFormT
import Derived.Test.YtjleflfncijnpaaDoorDouble
import Derived.Test.YtjleflfncijnpaaDoorPart
import Derived.Test.YtjleflfncijnpaaDoorReadS
import Derived.Test.YtjleflfncijnpaaDoorFormR
import Derived.Test.YtjleflfncijnpaaDoorReadR
import Derived.Test.YtjleflfncijnpaaDoorReadQ
set_option linter.unusedVariables false
set_option linter.unusedSimpArgs false
set_option maxHeartbeats 4000000
set_option maxRecDepth 100000
namespace Go.Proofs.YtjleflfncijnpaaDoor
open Go Go.RowKit
theorem rread_long (l : List UInt8) (w : World) (hl : 80 < l.length) (R : Int × Int × Int) (hR : Hid (R = (0, 0, 3))) :
    Calls Tryd.prog 13 #[.string ⟨l.toArray⟩] w fun e w' => e = .returned (.tuple #[.agg #[.int .i64 R.1, .int .i64 R.2.1], .int .i64 R.2.2]) ∧ Below w.heap.size w w' := by
  have h1 : (80 : Int) < l.length := by omega
  go_enter Tryd.func13, Tryd.ntmps13
  go_wp2
  all_goals (refine' bodyPost_ret (res_st_t rfl isA_S isS_S rfl ?_ ?_) rfl ?_; rotate_left 2; (· ((try simp only [World.cell?_drew]); first | (with_reducible exact two_0 (by assumption)) | (with_reducible exact two_1 (by assumption)) | (with_reducible exact two_other (two_0 (by assumption)) (by simp)) | (with_reducible exact two_other (two_1 (by assumption)) (by simp)) | (with_reducible exact two_0 (two_other (by assumption) (by simp))) | (with_reducible exact two_1 (two_other (by assumption) (by simp))) | (simp (maxDischargeDepth := 8) [go_sem, hHeld]; rfl) | (simp (maxDischargeDepth := 8) [go_sem, *]; rfl) | (simp (maxDischargeDepth := 8) [go_sem, *]; done))); (· ((try simp only [World.cell?_drew]); first | (with_reducible exact two_0 (by assumption)) | (with_reducible exact two_1 (by assumption)) | (with_reducible exact two_other (two_0 (by assumption)) (by simp)) | (with_reducible exact two_other (two_1 (by assumption)) (by simp)) | (with_reducible exact two_0 (two_other (by assumption) (by simp))) | (with_reducible exact two_1 (two_other (by assumption) (by simp))) | (simp (maxDischargeDepth := 8) [go_sem, hHeld]; rfl) | (simp (maxDischargeDepth := 8) [go_sem, *]; rfl) | (simp (maxDischargeDepth := 8) [go_sem, *]; done))); refine ⟨ret_r ?_, by go_grown⟩; (exact hR.out.symm))
def FormNo (l : List UInt8) : Prop := ∀ W : World, Calls Tryd.prog 59 #[.string ⟨l.toArray⟩] W fun e w' => (∃ (a : Int) (s : Bool), e = .returned (.tuple #[.bool false, .int .i64 a, .bool s])) ∧ Below W.heap.size W w'
theorem form_no {l : List UInt8} (hl : l.length ≤ 1000) (h : formB l = false) : FormNo l := fun W =>
  (rform_any l W hl).mono fun e w' ⟨⟨a, s, h1, _⟩, h2⟩ => ⟨⟨a, s, by rw [h1, h]⟩, h2⟩
theorem form_yes {l : List UInt8} (hl : l.length ≤ 1000) (h : formB l = true) (w : World) : Calls Tryd.prog 59 #[.string ⟨l.toArray⟩] w fun e w' => e = .returned (.tuple #[.bool true, .int .i64 (cutI l : Int), .bool (someB l)]) ∧ Below w.heap.size w w' :=
  (rform_any l w hl).mono fun e w' ⟨⟨a, s, h1, h3⟩, h2⟩ => ⟨by obtain ⟨e1, e2⟩ := h3 h; rw [h1, h, e1, e2], h2⟩
theorem useH {P : Program} {f : FuncId} {args : Array Value} (w : World) {W : World} {R : Ending → Prop} {Q : Ending → World → Prop} (hc : Calls P f args W (fun e w' => R e ∧ Below W.heap.size W w')) (hW : Below w.heap.size w W)
    (k : ∀ e w1, R e → Below w.heap.size w w1 → (∀ b o v, W.cell? ⟨b, o, none⟩ = some v → w1.cell? ⟨b, o, none⟩ = some v) → (∀ b o v, W.cell? ⟨b, o, none⟩ = some v → W.frozen? ⟨b, o, none⟩ = false → w1.frozen? ⟨b, o, none⟩ = false) → Q e w1) : Calls P f args W Q :=
  useF w hc hW fun e w1 h1 h2 h3 h4 _ => k e w1 h1 h2 h3 h4
theorem rread_nil (w : World) (R : Int × Int × Int) (hR : Hid (R = (0, 0, 5))) :
    Calls Tryd.prog 13 #[.string ⟨([] : List UInt8).toArray⟩] w fun e w' => e = .returned (.tuple #[.agg #[.int .i64 R.1, .int .i64 R.2.1], .int .i64 R.2.2]) ∧ Below w.heap.size w w' := by
  have K := hid (form_no (l := []) (by simp) rfl)
  go_enter Tryd.func13, Tryd.ntmps13
  go_wp2_with fail
  refine useH w (K.out _) (by go_grown) ?_; rintro e w1 ⟨a, s, rfl⟩ hB1 hk1 hf1
  have z0 := hk1 w.heap.size 0 (.int .i64 0) (by simp [go_sem])
  have z1 := hk1 w.heap.size 1 (.int .i64 0) (by simp [go_sem])
  have zf0 := hf1 w.heap.size 0 (.int .i64 0) (by simp [go_sem]) (by simp [go_sem])
  have zf1 := hf1 w.heap.size 1 (.int .i64 0) (by simp [go_sem]) (by simp [go_sem])
  clear hk1 hf1
  go_wp2_with fail
  all_goals (refine' bodyPost_ret (res_st_t rfl isA_S isS_S rfl ?_ ?_) rfl ?_; rotate_left 2; (· ((try simp only [World.cell?_drew]); first | (with_reducible exact two_0 (by assumption)) | (with_reducible exact two_1 (by assumption)) | (with_reducible exact two_other (two_0 (by assumption)) (by simp)) | (with_reducible exact two_other (two_1 (by assumption)) (by simp)) | (with_reducible exact two_0 (two_other (by assumption) (by simp))) | (with_reducible exact two_1 (two_other (by assumption) (by simp))) | (simp (maxDischargeDepth := 8) [go_sem, hHeld]; rfl) | (simp (maxDischargeDepth := 8) [go_sem, *]; rfl) | (simp (maxDischargeDepth := 8) [go_sem, *]; done))); (· ((try simp only [World.cell?_drew]); first | (with_reducible exact two_0 (by assumption)) | (with_reducible exact two_1 (by assumption)) | (with_reducible exact two_other (two_0 (by assumption)) (by simp)) | (with_reducible exact two_other (two_1 (by assumption)) (by simp)) | (with_reducible exact two_0 (two_other (by assumption) (by simp))) | (with_reducible exact two_1 (two_other (by assumption) (by simp))) | (simp (maxDischargeDepth := 8) [go_sem, hHeld]; rfl) | (simp (maxDischargeDepth := 8) [go_sem, *]; rfl) | (simp (maxDischargeDepth := 8) [go_sem, *]; done))); refine ⟨ret_r ?_, by go_grown⟩; (exact hR.out.symm))
theorem rread_badp (d : List UInt8) (w : World) (hl : ¬ 80 < d.length) (hA0 : 0 < d.length) (b0 : UInt8) (hb0 : Hid (d[0]? = some b0)) (hb1 : ((b0.toNat : Int) == 45) = false) (hf : Hid (formB d = false)) (R : Int × Int × Int) (hR : Hid (R = (0, 0, 5))) :
    Calls Tryd.prog 13 #[.string ⟨d.toArray⟩] w fun e w' => e = .returned (.tuple #[.agg #[.int .i64 R.1, .int .i64 R.2.1], .int .i64 R.2.2]) ∧ Below w.heap.size w w' := by
  have K := hid (form_no (l := d) (by omega) hf.out)
  have h1 : ¬ (80 : Int) < d.length := by omega
  have h2 : (0 : Int) < d.length := by omega
  have hx0 := idx_at hb0.out
  replace hx0 := fun W => hx0 W
  simp only [Int.ofNat_zero, Int.natCast_zero] at hx0
  go_enter Tryd.func13, Tryd.ntmps13
  go_wp2_with fail
  refine useH w (K.out _) (by go_grown) ?_; rintro e w1 ⟨a, s, rfl⟩ hB1 hk1 hf1
  have z0 := hk1 w.heap.size 0 (.int .i64 0) (by simp [go_sem])
  have z1 := hk1 w.heap.size 1 (.int .i64 0) (by simp [go_sem])
  have zf0 := hf1 w.heap.size 0 (.int .i64 0) (by simp [go_sem]) (by simp [go_sem])
  have zf1 := hf1 w.heap.size 1 (.int .i64 0) (by simp [go_sem]) (by simp [go_sem])
  clear hk1 hf1
  go_wp2_with fail
  all_goals (refine' bodyPost_ret (res_st_t rfl isA_S isS_S rfl ?_ ?_) rfl ?_; rotate_left 2; (· ((try simp only [World.cell?_drew]); first | (with_reducible exact two_0 (by assumption)) | (with_reducible exact two_1 (by assumption)) | (with_reducible exact two_other (two_0 (by assumption)) (by simp)) | (with_reducible exact two_other (two_1 (by assumption)) (by simp)) | (with_reducible exact two_0 (two_other (by assumption) (by simp))) | (with_reducible exact two_1 (two_other (by assumption) (by simp))) | (simp (maxDischargeDepth := 8) [go_sem, hHeld]; rfl) | (simp (maxDischargeDepth := 8) [go_sem, *]; rfl) | (simp (maxDischargeDepth := 8) [go_sem, *]; done))); (· ((try simp only [World.cell?_drew]); first | (with_reducible exact two_0 (by assumption)) | (with_reducible exact two_1 (by assumption)) | (with_reducible exact two_other (two_0 (by assumption)) (by simp)) | (with_reducible exact two_other (two_1 (by assumption)) (by simp)) | (with_reducible exact two_0 (two_other (by assumption) (by simp))) | (with_reducible exact two_1 (two_other (by assumption) (by simp))) | (simp (maxDischargeDepth := 8) [go_sem, hHeld]; rfl) | (simp (maxDischargeDepth := 8) [go_sem, *]; rfl) | (simp (maxDischargeDepth := 8) [go_sem, *]; done))); refine ⟨ret_r ?_, by go_grown⟩; (exact hR.out.symm))
theorem rread_badn (l d : List UInt8) (w : World) (hl : ¬ 80 < l.length) (hld : Hid (l = 45 :: d)) (hf : Hid (formB d = false ∨ (formB d = true ∧ someB d = false))) (R : Int × Int × Int) (hR : Hid (R = (0, 0, 5))) :
    Calls Tryd.prog 13 #[.string ⟨l.toArray⟩] w fun e w' => e = .returned (.tuple #[.agg #[.int .i64 R.1, .int .i64 R.2.1], .int .i64 R.2.2]) ∧ Below w.heap.size w w' := by
  have hll : l.length = d.length + 1 := by rw [hld.out]; rfl
  have h1 : ¬ (80 : Int) < l.length := by omega
  have h2 : (0 : Int) < l.length := by omega
  have hx0 := idx_at (l := l) (k := 0) (b := 45) (by rw [hld.out]; rfl)
  replace hx0 : ∀ W : World, (Instr.index 9 (.string ⟨l.toArray⟩) (.int .i64 0)).run Tryd.prog W = .ok (.int .u8 45) W := fun W => hx0 W
  have hs0 := fun W => slice_from W l 1 1 rfl (by omega)
  rw [show l.drop 1 = d by rw [hld.out]; rfl] at hs0
  rcases hf.out with hf | ⟨hf, hs⟩
  · have K := hid (form_no (l := d) (by omega) hf)
    clear hf
    go_enter Tryd.func13, Tryd.ntmps13
    go_wp2_with fail
    refine useH w (K.out _) (by go_grown) ?_; rintro e w1 ⟨a, s, rfl⟩ hB1 hk1 hf1
    have z0 := hk1 w.heap.size 0 (.int .i64 0) (by simp [go_sem])
    have z1 := hk1 w.heap.size 1 (.int .i64 0) (by simp [go_sem])
    have zf0 := hf1 w.heap.size 0 (.int .i64 0) (by simp [go_sem]) (by simp [go_sem])
    have zf1 := hf1 w.heap.size 1 (.int .i64 0) (by simp [go_sem]) (by simp [go_sem])
    clear hk1 hf1
    go_wp2_with fail
    all_goals (refine' bodyPost_ret (res_st_t rfl isA_S isS_S rfl ?_ ?_) rfl ?_; rotate_left 2; (· ((try simp only [World.cell?_drew]); first | (with_reducible exact two_0 (by assumption)) | (with_reducible exact two_1 (by assumption)) | (with_reducible exact two_other (two_0 (by assumption)) (by simp)) | (with_reducible exact two_other (two_1 (by assumption)) (by simp)) | (with_reducible exact two_0 (two_other (by assumption) (by simp))) | (with_reducible exact two_1 (two_other (by assumption) (by simp))) | (simp (maxDischargeDepth := 8) [go_sem, hHeld]; rfl) | (simp (maxDischargeDepth := 8) [go_sem, *]; rfl) | (simp (maxDischargeDepth := 8) [go_sem, *]; done))); (· ((try simp only [World.cell?_drew]); first | (with_reducible exact two_0 (by assumption)) | (with_reducible exact two_1 (by assumption)) | (with_reducible exact two_other (two_0 (by assumption)) (by simp)) | (with_reducible exact two_other (two_1 (by assumption)) (by simp)) | (with_reducible exact two_0 (two_other (by assumption) (by simp))) | (with_reducible exact two_1 (two_other (by assumption) (by simp))) | (simp (maxDischargeDepth := 8) [go_sem, hHeld]; rfl) | (simp (maxDischargeDepth := 8) [go_sem, *]; rfl) | (simp (maxDischargeDepth := 8) [go_sem, *]; done))); refine ⟨ret_r ?_, by go_grown⟩; (exact hR.out.symm))
  · have K := hid (fun W => form_yes (l := d) (by omega) hf W)
    rw [hs] at K
    clear hf hs
    go_enter Tryd.func13, Tryd.ntmps13
    go_wp2_with fail
    refine useH w (K.out _) (by go_grown) ?_; rintro e w1 rfl hB1 hk1 hf1
    have z0 := hk1 w.heap.size 0 (.int .i64 0) (by simp [go_sem])
    have z1 := hk1 w.heap.size 1 (.int .i64 0) (by simp [go_sem])
    have zf0 := hf1 w.heap.size 0 (.int .i64 0) (by simp [go_sem]) (by simp [go_sem])
    have zf1 := hf1 w.heap.size 1 (.int .i64 0) (by simp [go_sem]) (by simp [go_sem])
    clear hk1 hf1
    go_wp2_with fail
    all_goals (refine' bodyPost_ret (res_st_t rfl isA_S isS_S rfl ?_ ?_) rfl ?_; rotate_left 2; (· ((try simp only [World.cell?_drew]); first | (with_reducible exact two_0 (by assumption)) | (with_reducible exact two_1 (by assumption)) | (with_reducible exact two_other (two_0 (by assumption)) (by simp)) | (with_reducible exact two_other (two_1 (by assumption)) (by simp)) | (with_reducible exact two_0 (two_other (by assumption) (by simp))) | (with_reducible exact two_1 (two_other (by assumption) (by simp))) | (simp (maxDischargeDepth := 8) [go_sem, hHeld]; rfl) | (simp (maxDischargeDepth := 8) [go_sem, *]; rfl) | (simp (maxDischargeDepth := 8) [go_sem, *]; done))); (· ((try simp only [World.cell?_drew]); first | (with_reducible exact two_0 (by assumption)) | (with_reducible exact two_1 (by assumption)) | (with_reducible exact two_other (two_0 (by assumption)) (by simp)) | (with_reducible exact two_other (two_1 (by assumption)) (by simp)) | (with_reducible exact two_0 (two_other (by assumption) (by simp))) | (with_reducible exact two_1 (two_other (by assumption) (by simp))) | (simp (maxDischargeDepth := 8) [go_sem, hHeld]; rfl) | (simp (maxDischargeDepth := 8) [go_sem, *]; rfl) | (simp (maxDischargeDepth := 8) [go_sem, *]; done))); refine ⟨ret_r ?_, by go_grown⟩; (exact hR.out.symm))
/-- What a text of the right form has. -/
theorem form_parts {d : List UInt8} (h : formB d = true) : (∀ (j : Nat) (b : UInt8), j < cutI d → d[j]? = some b → isD b = true) ∧ (cutU d).all isD = true ∧ 0 < d.length := by
  unfold formB at h
  rw [Bool.and_eq_true, Bool.and_eq_true] at h
  obtain ⟨⟨f1, _⟩, f3⟩ := h
  obtain ⟨a1, a2⟩ := Bool.and_eq_true_iff.1 f1
  refine ⟨fun j b hj hb => ?_, ?_, ?_⟩
  · refine List.all_eq_true.1 a1 b (List.mem_of_getElem? (i := j) ?_)
    unfold cutM; rw [List.getElem?_take_of_lt hj]; exact hb
  · cases c : cutP d
    · have e : cutI d = d.length := by have := of_decide_eq_false c; have := cutI_le d; omega
      unfold cutU; rw [e, List.drop_eq_nil_of_le (by omega)]; rfl
    · rw [c] at f3; exact (Bool.and_eq_true_iff.1 f3).1
  · cases d with
    | nil => exact absurd a2 (by decide)
    | cons b t => simp
theorem rread_any (l : List UInt8) (w : World) (hl : l.length ≤ 1000) :
    Calls Tryd.prog 13 #[.string ⟨l.toArray⟩] w fun e w' => e = .returned (.tuple #[.agg #[.int .i64 ((readS l).1), .int .i64 ((readS l).2.1)], .int .i64 ((readS l).2.2)]) ∧ Below w.heap.size w w' := by
  by_cases c1 : 80 < l.length
  · exact rread_long l w c1 _ (hid (if_pos c1))
  have hbad : (formB (numL l) && (!negL l || someB (numL l))) = false → readS l = (0, 0, 5) := fun h => by unfold readS; rw [if_neg c1, if_pos h]
  have hgood : ∀ d : List UInt8, numL l = d → formB d = true → (!negL l || someB d) = true → (∀ k, k ≤ cutI d → 1099511627776 < valD (d.take k) → readS l = (0, 0, 4)) ∧
      ((rdN l : Int) = ((valD (d.take (cutI d)) * 4294967296 + (dblN (cutU d) 32).1 : Nat) : Int)) ∧ (rdI l = if someB (dblN (cutU d) 32).2 = true then 1 else 0) ∧
      (readS l = if negL l = true then fitS (-((rdN l : Int) + rdI l)) (-(rdN l : Int)) else fitS (rdN l) ((rdN l : Int) + rdI l)) := fun d hd hf hs => by
    subst hd
    have hb : (formB (numL l) && (!negL l || someB (numL l))) = true := by rw [hf, hs]; rfl
    refine ⟨fun k hk hv => ?_, rfl, rfl, read_fit l c1 hb (form_parts hf).2.1⟩
    have h1 := val_take (cutM (numL l)) k
    have h2 : (cutM (numL l)).take k = (numL l).take k := by unfold cutM; rw [List.take_take, Nat.min_eq_left hk]
    rw [h2] at h1
    unfold readS; rw [if_neg c1, if_neg (by rw [hb]; simp), if_pos (by omega)]
  cases l with
  | nil => exact rread_nil w _ (hid (hbad rfl))
  | cons b t =>
    by_cases hb : b = 45
    · subst hb
      have e1 : negL (45 :: t) = true := by unfold negL Lib.hasPrefix; simp [List.isPrefixOf]
      have e2 : numL (45 :: t) = t := by unfold negL at e1; unfold numL Lib.trimPrefix; rw [e1]; rfl
      rw [e1, e2] at hbad
      by_cases hf : formB t = true
      · by_cases hs : someB t = true
        · obtain ⟨g1, g2, g3, g4⟩ := hgood t e2 hf (by rw [hs, Bool.or_true])
          rw [e1, if_pos rfl] at g4
          obtain ⟨p1, p2, p3⟩ := form_parts hf
          have K := fun W => form_yes (l := t) (by simp at hl; omega) hf W
          rw [hs] at K
          exact rread_n (45 :: t) t (cutU t) (cutI t) w c1 (hid rfl) (cutI_le t) (hid rfl) (hid p1) (hid p2) (hid K) _ (hid g1) _ _ (hid g2) (hid g3) (hid g4)
        · have hs0 : someB t = false := by simpa using hs
          exact rread_badn (45 :: t) t w c1 (hid rfl) (hid (Or.inr ⟨hf, hs0⟩)) _ (hid (hbad (by rw [hf, hs0]; rfl)))
      · have hf0 : formB t = false := by simpa using hf
        exact rread_badn (45 :: t) t w c1 (hid rfl) (hid (Or.inl hf0)) _ (hid (hbad (by rw [hf0]; rfl)))
    · have e0 : Lib.hasPrefix (b :: t) [45] = false := by
        unfold Lib.hasPrefix
        simp only [List.isPrefixOf, Bool.and_true]
        rw [beq_eq_false_iff_ne]; exact fun h => hb h.symm
      have e1 : negL (b :: t) = false := e0
      have e2 : numL (b :: t) = b :: t := by unfold numL Lib.trimPrefix; rw [e0]; rfl
      have hb1 : ((b.toNat : Int) == 45) = false := by
        rw [beq_eq_false_iff_ne]; intro h; exact hb (u8_eq (c := 45) (by show b.toNat = 45; omega))
      rw [e1, e2] at hbad
      by_cases hf : formB (b :: t) = true
      · obtain ⟨g1, g2, g3, g4⟩ := hgood (b :: t) e2 hf (by rw [e1]; rfl)
        rw [e1, if_neg (by simp)] at g4
        obtain ⟨p1, p2, p3⟩ := form_parts hf
        exact rread_p (b :: t) (cutU (b :: t)) (cutI (b :: t)) (someB (b :: t)) w c1 (cutI_le _) p3 (hid rfl) (hid p1) (hid p2) b (hid rfl) hb1 (hid (fun W => form_yes hl hf W)) _ (hid g1) _ _ (hid g2) (hid g3) (hid g4)
      · have hf0 : formB (b :: t) = false := by simpa using hf
        exact rread_badp (b :: t) w c1 (by simp) b (hid rfl) hb1 (hid hf0) _ (hid (hbad (by rw [hf0]; rfl)))
end Go.Proofs.YtjleflfncijnpaaDoor
