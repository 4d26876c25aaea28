/- Read of any text, by package span. -/
import Derived.Test.YtjleflfncijnpaaDoorRows
import Derived.Test.YtjleflfncijnpaaDoorBase
import Derived.Test.YtjleflfncijnpaaDoorFacts
import Derived.Test.YtjleflfncijnpaaDoorTwo
import Derived.Deep.RegionHeld3
import Derived.Deep.RegionWith
import Derived.Deep.QuietTactic
import Derived.BigQuiet
import Derived.Test.YtjleflfncijnpaaDoorSeq
import Derived.Test.YtjleflfncijnpaaDoorTwo
import Derived.Test.YtjleflfncijnpaaDoorOne
import Derived.Test.YtjleflfncijnpaaDoorShelfT
import Derived.Test.YtjleflfncijnpaaDoorTextM
import Derived.Test.YtjleflfncijnpaaDoorReadM
import Derived.Test.YtjleflfncijnpaaDoorReadT
import Derived.Test.YtjleflfncijnpaaDoorCutT
import Derived.Test.YtjleflfncijnpaaDoorFormT
import Derived.Test.YtjleflfncijnpaaDoorDouble
import Derived.Test.YtjleflfncijnpaaDoorPart
set_option linter.unusedVariables false
set_option linter.unusedSimpArgs false
set_option maxHeartbeats 4000000
set_option maxRecDepth 100000
namespace Go.Proofs.YtjleflfncijnpaaDoor
open Go Go.RowKit
/-- What a text is read as. -/
def rdN (l : List UInt8) : Nat := valD (cutM (numL l)) * 4294967296 + (dblN (cutU (numL l)) 32).1
def rdM (l : List UInt8) : Bool := someB (dblN (cutU (numL l)) 32).2
def rdI (l : List UInt8) : Int := if rdM l = true then 1 else 0
def readS (l : List UInt8) : Int × Int × Int :=
  if 80 < l.length then (0, 0, 3)
  else if (formB (numL l) && (!negL l || someB (numL l))) = false then (0, 0, 5)
  else if 2147483647 < valD (cutM (numL l)) then (0, 0, 4)
  else if rdM l = true ∧ rdN l = 9223372036854775807 then (0, 0, 4)
  else if negL l = true then (-(rdN l : Int) - rdI l, -(rdN l : Int), 0) else ((rdN l : Int), (rdN l : Int) + rdI l, 0)
theorem read_long (l : List UInt8) (w : World) (hl : 80 < l.length) (R : Int × Int × Int) (hR : Hid (R = (0, 0, 3))) :
    Calls Tryd.prog 12 #[.string ⟨l.toArray⟩] w fun e w' => e = .returned (.tuple #[.agg #[.int .i64 R.1, .int .i64 R.2.1], .int .i64 R.2.2]) ∧ Below w.heap.size w w' := by
  have h1 : (80 : Int) < l.length := by omega
  go_enter Tryd.func12, Tryd.ntmps12
  go_wp2
  all_goals (refine' bodyPost_ret (res_st_t rfl isA_S isS_S rfl ?_ ?_) rfl ?_; rotate_left 2; (· ((try simp only [World.cell?_drew]); first | (with_reducible exact two_0 (by assumption)) | (with_reducible exact two_1 (by assumption)) | (with_reducible exact two_other (two_0 (by assumption)) (by simp)) | (with_reducible exact two_other (two_1 (by assumption)) (by simp)) | (with_reducible exact two_0 (two_other (by assumption) (by simp))) | (with_reducible exact two_1 (two_other (by assumption) (by simp))) | (simp (maxDischargeDepth := 8) [go_sem, hHeld]; rfl) | (simp (maxDischargeDepth := 8) [go_sem, *]; rfl) | (simp (maxDischargeDepth := 8) [go_sem, *]; done))); (· ((try simp only [World.cell?_drew]); first | (with_reducible exact two_0 (by assumption)) | (with_reducible exact two_1 (by assumption)) | (with_reducible exact two_other (two_0 (by assumption)) (by simp)) | (with_reducible exact two_other (two_1 (by assumption)) (by simp)) | (with_reducible exact two_0 (two_other (by assumption) (by simp))) | (with_reducible exact two_1 (two_other (by assumption) (by simp))) | (simp (maxDischargeDepth := 8) [go_sem, hHeld]; rfl) | (simp (maxDischargeDepth := 8) [go_sem, *]; rfl) | (simp (maxDischargeDepth := 8) [go_sem, *]; done))); refine ⟨ret_r ?_, by go_grown⟩; (exact hR.out.symm))
theorem read_form (l : List UInt8) (w : World) (hl : ¬ 80 < l.length) (R : Int × Int × Int) (hR : Hid (R = (0, 0, 5)))
    (K0 : Hid (∀ w : World, Calls Tryd.prog 53 #[.string ⟨l.toArray⟩] w fun e w' => e = .returned (.bool false) ∧ Below w.heap.size w w')) :
    Calls Tryd.prog 12 #[.string ⟨l.toArray⟩] w fun e w' => e = .returned (.tuple #[.agg #[.int .i64 R.1, .int .i64 R.2.1], .int .i64 R.2.2]) ∧ Below w.heap.size w w' := by
  have h1 : ¬ (80 : Int) < l.length := by omega
  go_enter Tryd.func12, Tryd.ntmps12
  go_wp2_with (go_at_call 53; refine use w (w.heap.size + 1) (K0.out _) (by go_grown) (by go_size) ?_; rintro e w1 rfl hB1 hc1 hf1 hl1 hs1; have hl10 : w.heap.size < w1.heap.size := hl1 _ (by omega))
  all_goals (refine' bodyPost_ret (res_st_t rfl isA_S isS_S rfl ?_ ?_) rfl ?_; rotate_left 2; (· ((try simp only [World.cell?_drew]); first | (with_reducible exact two_0 (by assumption)) | (with_reducible exact two_1 (by assumption)) | (with_reducible exact two_other (two_0 (by assumption)) (by simp)) | (with_reducible exact two_other (two_1 (by assumption)) (by simp)) | (with_reducible exact two_0 (two_other (by assumption) (by simp))) | (with_reducible exact two_1 (two_other (by assumption) (by simp))) | (simp (maxDischargeDepth := 8) [go_sem, hHeld]; rfl) | (simp (maxDischargeDepth := 8) [go_sem, *]; rfl) | (simp (maxDischargeDepth := 8) [go_sem, *]; done))); (· ((try simp only [World.cell?_drew]); first | (with_reducible exact two_0 (by assumption)) | (with_reducible exact two_1 (by assumption)) | (with_reducible exact two_other (two_0 (by assumption)) (by simp)) | (with_reducible exact two_other (two_1 (by assumption)) (by simp)) | (with_reducible exact two_0 (two_other (by assumption) (by simp))) | (with_reducible exact two_1 (two_other (by assumption) (by simp))) | (simp (maxDischargeDepth := 8) [go_sem, hHeld]; rfl) | (simp (maxDischargeDepth := 8) [go_sem, *]; rfl) | (simp (maxDischargeDepth := 8) [go_sem, *]; done))); refine ⟨ret_r ?_, by go_grown⟩; (exact hR.out.symm))
theorem read_great (l d : List UInt8) (ng : Bool) (w : World) (hl : ¬ 80 < l.length) (R : Int × Int × Int) (hR : Hid (R = (0, 0, 4)))
    (K0 : Hid (∀ w : World, Calls Tryd.prog 53 #[.string ⟨l.toArray⟩] w fun e w' => e = .returned (.bool true) ∧ Below w.heap.size w w'))
    (K1 : Hid (∀ W : World, Calls Tryd.prog 54 #[.string ⟨l.toArray⟩, .string ⟨#[45]⟩] W fun e w' => e = .returned (.tuple #[.string ⟨d.toArray⟩, .bool ng]) ∧ W = w'))
    (K2 : Hid (∀ w : World, Calls Tryd.prog 55 #[.string ⟨d.toArray⟩] w fun e w' => (∃ v : Nat, 2147483647 < v ∧ e = .returned (.tuple #[.int .i64 (v : Int), .bool false])) ∧ Below w.heap.size w w')) :
    Calls Tryd.prog 12 #[.string ⟨l.toArray⟩] w fun e w' => e = .returned (.tuple #[.agg #[.int .i64 R.1, .int .i64 R.2.1], .int .i64 R.2.2]) ∧ Below w.heap.size w w' := by
  have h1 : ¬ (80 : Int) < l.length := by omega
  go_enter Tryd.func12, Tryd.ntmps12
  go_wp2_with (first | (go_at_call 53; refine use w (w.heap.size + 1) (K0.out _) (by go_grown) (by go_size) ?_; rintro e w1 rfl hB1 hc1 hf1 hl1 hs1; have hl10 : w.heap.size < w1.heap.size := hl1 _ (by omega)) | (go_at_call 54; refine (K1.out _).mono ?_; rintro e w' ⟨rfl, rfl⟩) | (go_at_call 55; refine use w (w.heap.size + 1) (K2.out _) (by go_grown) (by go_size) ?_; rintro e w1 ⟨v, hv, rfl⟩ hB1 hc1 hf1 hl1 hs1; have hl10 : w.heap.size < w1.heap.size := hl1 _ (by omega)))
  all_goals (refine' bodyPost_ret (res_st_t rfl isA_S isS_S rfl ?_ ?_) rfl ?_; rotate_left 2; (· ((try simp only [World.cell?_drew]); first | (with_reducible exact two_0 (by assumption)) | (with_reducible exact two_1 (by assumption)) | (with_reducible exact two_other (two_0 (by assumption)) (by simp)) | (with_reducible exact two_other (two_1 (by assumption)) (by simp)) | (with_reducible exact two_0 (two_other (by assumption) (by simp))) | (with_reducible exact two_1 (two_other (by assumption) (by simp))) | (simp (maxDischargeDepth := 8) [go_sem, hHeld]; rfl) | (simp (maxDischargeDepth := 8) [go_sem, *]; rfl) | (simp (maxDischargeDepth := 8) [go_sem, *]; done))); (· ((try simp only [World.cell?_drew]); first | (with_reducible exact two_0 (by assumption)) | (with_reducible exact two_1 (by assumption)) | (with_reducible exact two_other (two_0 (by assumption)) (by simp)) | (with_reducible exact two_other (two_1 (by assumption)) (by simp)) | (with_reducible exact two_0 (two_other (by assumption) (by simp))) | (with_reducible exact two_1 (two_other (by assumption) (by simp))) | (simp (maxDischargeDepth := 8) [go_sem, hHeld]; rfl) | (simp (maxDischargeDepth := 8) [go_sem, *]; rfl) | (simp (maxDischargeDepth := 8) [go_sem, *]; done))); refine ⟨ret_r ?_, by go_grown⟩; (exact hR.out.symm))
theorem neg2 (lo hi : Int) (w : World) (h : (-9223372036854775807 ≤ lo ∧ lo ≤ 9223372036854775807) ∧ (-9223372036854775807 ≤ hi ∧ hi ≤ 9223372036854775807)) :
    Calls Tryd.prog 58 #[.agg #[.int .i64 lo, .int .i64 hi]] w fun e w' => e = .returned (.agg #[.int .i64 (-hi), .int .i64 (-lo)]) ∧ Below w.heap.size w w' := by
  obtain ⟨⟨a1, a2⟩, b1, b2⟩ := h
  go_enter Tryd.func58, Tryd.ntmps58
  go_wp2
  all_goals (refine' bodyPost_ret (res_st rfl isA_S isS_S rfl ?_ ?_) rfl ?_; rotate_left 2; (· ((try simp only [World.cell?_drew]); first | (with_reducible exact two_0 (by assumption)) | (with_reducible exact two_1 (by assumption)) | (with_reducible exact two_other (two_0 (by assumption)) (by simp)) | (with_reducible exact two_other (two_1 (by assumption)) (by simp)) | (with_reducible exact two_0 (two_other (by assumption) (by simp))) | (with_reducible exact two_1 (two_other (by assumption) (by simp))) | (simp (maxDischargeDepth := 8) [go_sem, hHeld]; rfl) | (simp (maxDischargeDepth := 8) [go_sem, *]; rfl) | (simp (maxDischargeDepth := 8) [go_sem, *]; done))); (· ((try simp only [World.cell?_drew]); first | (with_reducible exact two_0 (by assumption)) | (with_reducible exact two_1 (by assumption)) | (with_reducible exact two_other (two_0 (by assumption)) (by simp)) | (with_reducible exact two_other (two_1 (by assumption)) (by simp)) | (with_reducible exact two_0 (two_other (by assumption) (by simp))) | (with_reducible exact two_1 (two_other (by assumption) (by simp))) | (simp (maxDischargeDepth := 8) [go_sem, hHeld]; rfl) | (simp (maxDischargeDepth := 8) [go_sem, *]; rfl) | (simp (maxDischargeDepth := 8) [go_sem, *]; done))); refine ⟨ret_s ?_ ?_, by go_grown⟩ <;> (rfl))
set_option maxRecDepth 100000 in
theorem read_most (l d M U : List UInt8) (p : Bool) (v q : Nat) (D : Int) (w : World) (hl : ¬ 80 < l.length) (hv : v ≤ 2147483647) (hq : q < 4294967296) (hD : (v : Int) * 4294967296 + q = D) (R : Int × Int × Int) (ng : Bool) (hm : D = 9223372036854775807) (hR : Hid (R = (0, 0, 4)))
    (K0 : Hid (∀ w : World, Calls Tryd.prog 53 #[.string ⟨l.toArray⟩] w fun e w' => e = .returned (.bool true) ∧ Below w.heap.size w w'))
    (K1 : Hid (∀ W : World, Calls Tryd.prog 54 #[.string ⟨l.toArray⟩, .string ⟨#[45]⟩] W fun e w' => e = .returned (.tuple #[.string ⟨d.toArray⟩, .bool ng]) ∧ W = w'))
    (K2 : Hid (∀ w : World, Calls Tryd.prog 55 #[.string ⟨d.toArray⟩] w fun e w' => e = .returned (.tuple #[.int .i64 ((v : Int)), .bool true]) ∧ Below w.heap.size w w'))
    (K3 : Hid (∀ w : World, Calls Tryd.prog 56 #[.string ⟨d.toArray⟩, .string ⟨#[46]⟩] w fun e w' => e = .returned (.tuple #[.string ⟨M.toArray⟩, .string ⟨U.toArray⟩, .bool p]) ∧ Below w.heap.size w w'))
    (K4 : Hid (∀ w : World, Calls Tryd.prog 57 #[.string ⟨U.toArray⟩] w fun e w' => e = .returned (.tuple #[.int .i64 ((q : Int)), .bool true]) ∧ Below w.heap.size w w')) :
    Calls Tryd.prog 12 #[.string ⟨l.toArray⟩] w fun e w' => e = .returned (.tuple #[.agg #[.int .i64 R.1, .int .i64 R.2.1], .int .i64 R.2.2]) ∧ Below w.heap.size w w' := by
  have h1 : ¬ (80 : Int) < l.length := by omega
  have h2 : (v : Int) ≤ 2147483647 := by omega
  have h3 : (q : Int) < 4294967296 := by omega
  have hD0 : 0 ≤ D := by omega
  have hD1 : D ≤ 9223372036854775807 := by omega
  go_enter Tryd.func12, Tryd.ntmps12
  go_wp2_with (first | (go_at_call 53; refine use w (w.heap.size + 1) (K0.out _) (by go_grown) (by go_size) ?_; rintro e w1 rfl hB1 hc1 hf1 hl1 hs1; have hl10 : w.heap.size < w1.heap.size := hl1 _ (by omega)) | (go_at_call 54; refine (K1.out _).mono ?_; rintro e w' ⟨rfl, rfl⟩) | (go_at_call 55; refine use w (w.heap.size + 1) (K2.out _) (by go_grown) (by go_size) ?_; rintro e w1 rfl hB1 hc1 hf1 hl1 hs1; have hl10 : w.heap.size < w1.heap.size := hl1 _ (by omega)) | (go_at_call 56; refine use w (w.heap.size + 1) (K3.out _) (by go_grown) (by go_size) ?_; rintro e w1 rfl hB1 hc1 hf1 hl1 hs1; have hl10 : w.heap.size < w1.heap.size := hl1 _ (by omega)) | (go_at_call 57; refine use w (w.heap.size + 1) (K4.out _) (by go_grown) (by go_size) ?_; rintro e w1 rfl hB1 hc1 hf1 hl1 hs1; have hl10 : w.heap.size < w1.heap.size := hl1 _ (by omega)) | (go_at_call 58; refine use w (w.heap.size + 1) (neg2 _ _ _ (by omega)) (by go_grown) (by go_size) ?_; rintro e w1 rfl hB1 hc1 hf1 hl1 hs1; have hl10 : w.heap.size < w1.heap.size := hl1 _ (by omega)))
  all_goals (refine' bodyPost_ret (res_st_t rfl isA_S isS_S rfl ?_ ?_) rfl ?_; rotate_left 2; (· ((try simp only [World.cell?_drew]); first | (with_reducible exact two_0 (by assumption)) | (with_reducible exact two_1 (by assumption)) | (with_reducible exact two_other (two_0 (by assumption)) (by simp)) | (with_reducible exact two_other (two_1 (by assumption)) (by simp)) | (with_reducible exact two_0 (two_other (by assumption) (by simp))) | (with_reducible exact two_1 (two_other (by assumption) (by simp))) | (simp (maxDischargeDepth := 8) [go_sem, hHeld]; rfl) | (simp (maxDischargeDepth := 8) [go_sem, *]; rfl) | (simp (maxDischargeDepth := 8) [go_sem, *]; done))); (· ((try simp only [World.cell?_drew]); first | (with_reducible exact two_0 (by assumption)) | (with_reducible exact two_1 (by assumption)) | (with_reducible exact two_other (two_0 (by assumption)) (by simp)) | (with_reducible exact two_other (two_1 (by assumption)) (by simp)) | (with_reducible exact two_0 (two_other (by assumption) (by simp))) | (with_reducible exact two_1 (two_other (by assumption) (by simp))) | (simp (maxDischargeDepth := 8) [go_sem, hHeld]; rfl) | (simp (maxDischargeDepth := 8) [go_sem, *]; rfl) | (simp (maxDischargeDepth := 8) [go_sem, *]; done))); refine ⟨ret_r ?_, by go_grown⟩; (exact hR.out.symm))
set_option maxRecDepth 100000 in
theorem read_mp (l d M U : List UInt8) (p : Bool) (v q : Nat) (D : Int) (w : World) (hl : ¬ 80 < l.length) (hv : v ≤ 2147483647) (hq : q < 4294967296) (hD : (v : Int) * 4294967296 + q = D) (R : Int × Int × Int) (hm : D ≠ 9223372036854775807) (hR : Hid (R = (D, D + 1, 0)))
    (K0 : Hid (∀ w : World, Calls Tryd.prog 53 #[.string ⟨l.toArray⟩] w fun e w' => e = .returned (.bool true) ∧ Below w.heap.size w w'))
    (K1 : Hid (∀ W : World, Calls Tryd.prog 54 #[.string ⟨l.toArray⟩, .string ⟨#[45]⟩] W fun e w' => e = .returned (.tuple #[.string ⟨d.toArray⟩, .bool false]) ∧ W = w'))
    (K2 : Hid (∀ w : World, Calls Tryd.prog 55 #[.string ⟨d.toArray⟩] w fun e w' => e = .returned (.tuple #[.int .i64 ((v : Int)), .bool true]) ∧ Below w.heap.size w w'))
    (K3 : Hid (∀ w : World, Calls Tryd.prog 56 #[.string ⟨d.toArray⟩, .string ⟨#[46]⟩] w fun e w' => e = .returned (.tuple #[.string ⟨M.toArray⟩, .string ⟨U.toArray⟩, .bool p]) ∧ Below w.heap.size w w'))
    (K4 : Hid (∀ w : World, Calls Tryd.prog 57 #[.string ⟨U.toArray⟩] w fun e w' => e = .returned (.tuple #[.int .i64 ((q : Int)), .bool true]) ∧ Below w.heap.size w w')) :
    Calls Tryd.prog 12 #[.string ⟨l.toArray⟩] w fun e w' => e = .returned (.tuple #[.agg #[.int .i64 R.1, .int .i64 R.2.1], .int .i64 R.2.2]) ∧ Below w.heap.size w w' := by
  have h1 : ¬ (80 : Int) < l.length := by omega
  have h2 : (v : Int) ≤ 2147483647 := by omega
  have h3 : (q : Int) < 4294967296 := by omega
  have h4 : (D == 9223372036854775807) = false := by rw [beq_eq_false_iff_ne]; exact hm
  have h5 : D + 1 ≤ 9223372036854775807 := by omega
  have hD0 : 0 ≤ D := by omega
  have hD1 : D ≤ 9223372036854775807 := by omega
  go_enter Tryd.func12, Tryd.ntmps12
  go_wp2_with (first | (go_at_call 53; refine use w (w.heap.size + 1) (K0.out _) (by go_grown) (by go_size) ?_; rintro e w1 rfl hB1 hc1 hf1 hl1 hs1; have hl10 : w.heap.size < w1.heap.size := hl1 _ (by omega)) | (go_at_call 54; refine (K1.out _).mono ?_; rintro e w' ⟨rfl, rfl⟩) | (go_at_call 55; refine use w (w.heap.size + 1) (K2.out _) (by go_grown) (by go_size) ?_; rintro e w1 rfl hB1 hc1 hf1 hl1 hs1; have hl10 : w.heap.size < w1.heap.size := hl1 _ (by omega)) | (go_at_call 56; refine use w (w.heap.size + 1) (K3.out _) (by go_grown) (by go_size) ?_; rintro e w1 rfl hB1 hc1 hf1 hl1 hs1; have hl10 : w.heap.size < w1.heap.size := hl1 _ (by omega)) | (go_at_call 57; refine use w (w.heap.size + 1) (K4.out _) (by go_grown) (by go_size) ?_; rintro e w1 rfl hB1 hc1 hf1 hl1 hs1; have hl10 : w.heap.size < w1.heap.size := hl1 _ (by omega)) | (go_at_call 58; refine use w (w.heap.size + 1) (neg2 _ _ _ (by omega)) (by go_grown) (by go_size) ?_; rintro e w1 rfl hB1 hc1 hf1 hl1 hs1; have hl10 : w.heap.size < w1.heap.size := hl1 _ (by omega)))
  all_goals (refine' bodyPost_ret (res_st_t rfl isA_S isS_S rfl ?_ ?_) rfl ?_; rotate_left 2; (· ((try simp only [World.cell?_drew]); first | (with_reducible exact two_0 (by assumption)) | (with_reducible exact two_1 (by assumption)) | (with_reducible exact two_other (two_0 (by assumption)) (by simp)) | (with_reducible exact two_other (two_1 (by assumption)) (by simp)) | (with_reducible exact two_0 (two_other (by assumption) (by simp))) | (with_reducible exact two_1 (two_other (by assumption) (by simp))) | (simp (maxDischargeDepth := 8) [go_sem, hHeld]; rfl) | (simp (maxDischargeDepth := 8) [go_sem, *]; rfl) | (simp (maxDischargeDepth := 8) [go_sem, *]; done))); (· ((try simp only [World.cell?_drew]); first | (with_reducible exact two_0 (by assumption)) | (with_reducible exact two_1 (by assumption)) | (with_reducible exact two_other (two_0 (by assumption)) (by simp)) | (with_reducible exact two_other (two_1 (by assumption)) (by simp)) | (with_reducible exact two_0 (two_other (by assumption) (by simp))) | (with_reducible exact two_1 (two_other (by assumption) (by simp))) | (simp (maxDischargeDepth := 8) [go_sem, hHeld]; rfl) | (simp (maxDischargeDepth := 8) [go_sem, *]; rfl) | (simp (maxDischargeDepth := 8) [go_sem, *]; done))); refine ⟨ret_r ?_, by go_grown⟩; (exact hR.out.symm))
set_option maxRecDepth 100000 in
theorem read_ep (l d M U : List UInt8) (p : Bool) (v q : Nat) (D : Int) (w : World) (hl : ¬ 80 < l.length) (hv : v ≤ 2147483647) (hq : q < 4294967296) (hD : (v : Int) * 4294967296 + q = D) (R : Int × Int × Int) (hR : Hid (R = (D, D, 0)))
    (K0 : Hid (∀ w : World, Calls Tryd.prog 53 #[.string ⟨l.toArray⟩] w fun e w' => e = .returned (.bool true) ∧ Below w.heap.size w w'))
    (K1 : Hid (∀ W : World, Calls Tryd.prog 54 #[.string ⟨l.toArray⟩, .string ⟨#[45]⟩] W fun e w' => e = .returned (.tuple #[.string ⟨d.toArray⟩, .bool false]) ∧ W = w'))
    (K2 : Hid (∀ w : World, Calls Tryd.prog 55 #[.string ⟨d.toArray⟩] w fun e w' => e = .returned (.tuple #[.int .i64 ((v : Int)), .bool true]) ∧ Below w.heap.size w w'))
    (K3 : Hid (∀ w : World, Calls Tryd.prog 56 #[.string ⟨d.toArray⟩, .string ⟨#[46]⟩] w fun e w' => e = .returned (.tuple #[.string ⟨M.toArray⟩, .string ⟨U.toArray⟩, .bool p]) ∧ Below w.heap.size w w'))
    (K4 : Hid (∀ w : World, Calls Tryd.prog 57 #[.string ⟨U.toArray⟩] w fun e w' => e = .returned (.tuple #[.int .i64 ((q : Int)), .bool false]) ∧ Below w.heap.size w w')) :
    Calls Tryd.prog 12 #[.string ⟨l.toArray⟩] w fun e w' => e = .returned (.tuple #[.agg #[.int .i64 R.1, .int .i64 R.2.1], .int .i64 R.2.2]) ∧ Below w.heap.size w w' := by
  have h1 : ¬ (80 : Int) < l.length := by omega
  have h2 : (v : Int) ≤ 2147483647 := by omega
  have h3 : (q : Int) < 4294967296 := by omega
  have hD0 : 0 ≤ D := by omega
  have hD1 : D ≤ 9223372036854775807 := by omega
  go_enter Tryd.func12, Tryd.ntmps12
  go_wp2_with (first | (go_at_call 53; refine use w (w.heap.size + 1) (K0.out _) (by go_grown) (by go_size) ?_; rintro e w1 rfl hB1 hc1 hf1 hl1 hs1; have hl10 : w.heap.size < w1.heap.size := hl1 _ (by omega)) | (go_at_call 54; refine (K1.out _).mono ?_; rintro e w' ⟨rfl, rfl⟩) | (go_at_call 55; refine use w (w.heap.size + 1) (K2.out _) (by go_grown) (by go_size) ?_; rintro e w1 rfl hB1 hc1 hf1 hl1 hs1; have hl10 : w.heap.size < w1.heap.size := hl1 _ (by omega)) | (go_at_call 56; refine use w (w.heap.size + 1) (K3.out _) (by go_grown) (by go_size) ?_; rintro e w1 rfl hB1 hc1 hf1 hl1 hs1; have hl10 : w.heap.size < w1.heap.size := hl1 _ (by omega)) | (go_at_call 57; refine use w (w.heap.size + 1) (K4.out _) (by go_grown) (by go_size) ?_; rintro e w1 rfl hB1 hc1 hf1 hl1 hs1; have hl10 : w.heap.size < w1.heap.size := hl1 _ (by omega)) | (go_at_call 58; refine use w (w.heap.size + 1) (neg2 _ _ _ (by omega)) (by go_grown) (by go_size) ?_; rintro e w1 rfl hB1 hc1 hf1 hl1 hs1; have hl10 : w.heap.size < w1.heap.size := hl1 _ (by omega)))
  all_goals (refine' bodyPost_ret (res_st_t rfl isA_S isS_S rfl ?_ ?_) rfl ?_; rotate_left 2; (· ((try simp only [World.cell?_drew]); first | (with_reducible exact two_0 (by assumption)) | (with_reducible exact two_1 (by assumption)) | (with_reducible exact two_other (two_0 (by assumption)) (by simp)) | (with_reducible exact two_other (two_1 (by assumption)) (by simp)) | (with_reducible exact two_0 (two_other (by assumption) (by simp))) | (with_reducible exact two_1 (two_other (by assumption) (by simp))) | (simp (maxDischargeDepth := 8) [go_sem, hHeld]; rfl) | (simp (maxDischargeDepth := 8) [go_sem, *]; rfl) | (simp (maxDischargeDepth := 8) [go_sem, *]; done))); (· ((try simp only [World.cell?_drew]); first | (with_reducible exact two_0 (by assumption)) | (with_reducible exact two_1 (by assumption)) | (with_reducible exact two_other (two_0 (by assumption)) (by simp)) | (with_reducible exact two_other (two_1 (by assumption)) (by simp)) | (with_reducible exact two_0 (two_other (by assumption) (by simp))) | (with_reducible exact two_1 (two_other (by assumption) (by simp))) | (simp (maxDischargeDepth := 8) [go_sem, hHeld]; rfl) | (simp (maxDischargeDepth := 8) [go_sem, *]; rfl) | (simp (maxDischargeDepth := 8) [go_sem, *]; done))); refine ⟨ret_r ?_, by go_grown⟩; (exact hR.out.symm))
end Go.Proofs.YtjleflfncijnpaaDoor
