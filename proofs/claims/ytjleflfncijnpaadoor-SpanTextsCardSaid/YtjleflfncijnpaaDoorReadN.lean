/- Read of a text with a sign. -/
import Derived.Test.YtjleflfncijnpaaDoorRows
import Derived.Test.YtjleflfncijnpaaDoorBase
import Derived.Test.YtjleflfncijnpaaDoorFacts
import Derived.Test.YtjleflfncijnpaaDoorTwo
import Derived.Deep.RegionHeld3
import Derived.Deep.RegionWith
import Derived.Deep.QuietTactic
import Derived.BigQuiet
import Derived.Test.YtjleflfncijnpaaDoorSeq
import Derived.Test.YtjleflfncijnpaaDoorTwo
import Derived.Test.YtjleflfncijnpaaDoorOne
import Derived.Test.YtjleflfncijnpaaDoorShelfT
import Derived.Test.YtjleflfncijnpaaDoorTextM
import Derived.Test.YtjleflfncijnpaaDoorReadM
import Derived.Test.YtjleflfncijnpaaDoorReadT
import Derived.Test.YtjleflfncijnpaaDoorCutT
import Derived.Test.YtjleflfncijnpaaDoorFormT
import Derived.Test.YtjleflfncijnpaaDoorDouble
import Derived.Test.YtjleflfncijnpaaDoorPart
import Derived.Test.YtjleflfncijnpaaDoorReadS
set_option linter.unusedVariables false
set_option linter.unusedSimpArgs false
set_option maxHeartbeats 4000000
set_option maxRecDepth 100000
namespace Go.Proofs.YtjleflfncijnpaaDoor
open Go Go.RowKit
set_option maxRecDepth 100000 in
theorem read_en (l d M U : List UInt8) (p : Bool) (v q : Nat) (D : Int) (w : World) (hl : ¬ 80 < l.length) (hv : v ≤ 2147483647) (hq : q < 4294967296) (hD : (v : Int) * 4294967296 + q = D) (R : Int × Int × Int) (hR : Hid (R = (-D, -D, 0)))
    (K0 : Hid (∀ w : World, Calls Tryd.prog 53 #[.string ⟨l.toArray⟩] w fun e w' => e = .returned (.bool true) ∧ Below w.heap.size w w'))
    (K1 : Hid (∀ W : World, Calls Tryd.prog 54 #[.string ⟨l.toArray⟩, .string ⟨#[45]⟩] W fun e w' => e = .returned (.tuple #[.string ⟨d.toArray⟩, .bool true]) ∧ W = w'))
    (K2 : Hid (∀ w : World, Calls Tryd.prog 55 #[.string ⟨d.toArray⟩] w fun e w' => e = .returned (.tuple #[.int .i64 ((v : Int)), .bool true]) ∧ Below w.heap.size w w'))
    (K3 : Hid (∀ w : World, Calls Tryd.prog 56 #[.string ⟨d.toArray⟩, .string ⟨#[46]⟩] w fun e w' => e = .returned (.tuple #[.string ⟨M.toArray⟩, .string ⟨U.toArray⟩, .bool p]) ∧ Below w.heap.size w w'))
    (K4 : Hid (∀ w : World, Calls Tryd.prog 57 #[.string ⟨U.toArray⟩] w fun e w' => e = .returned (.tuple #[.int .i64 ((q : Int)), .bool false]) ∧ Below w.heap.size w w')) :
    Calls Tryd.prog 12 #[.string ⟨l.toArray⟩] w fun e w' => e = .returned (.tuple #[.agg #[.int .i64 R.1, .int .i64 R.2.1], .int .i64 R.2.2]) ∧ Below w.heap.size w w' := by
  have h1 : ¬ (80 : Int) < l.length := by omega
  have h2 : (v : Int) ≤ 2147483647 := by omega
  have h3 : (q : Int) < 4294967296 := by omega
  have hD0 : 0 ≤ D := by omega
  have hD1 : D ≤ 9223372036854775807 := by omega
  have N := hid (fun W => neg2 D D W (by omega))
  obtain ⟨E, hE⟩ : ∃ E, E = -D := ⟨_, rfl⟩
  rw [← hE] at N
  replace hR : Hid (R = (E, E, 0)) := hid (by rw [hR.out, hE])
  clear hE hD0 hD1
  go_enter Tryd.func12, Tryd.ntmps12
  go_wp2_with (first | (go_at_call 53; refine use w (w.heap.size + 1) (K0.out _) (by go_grown) (by go_size) ?_; rintro e w1 rfl hB1 hc1 hf1 hl1 hs1; have hl10 : w.heap.size < w1.heap.size := hl1 _ (by omega)) | (go_at_call 54; refine (K1.out _).mono ?_; rintro e w' ⟨rfl, rfl⟩) | (go_at_call 55; refine use w (w.heap.size + 1) (K2.out _) (by go_grown) (by go_size) ?_; rintro e w1 rfl hB1 hc1 hf1 hl1 hs1; have hl10 : w.heap.size < w1.heap.size := hl1 _ (by omega)) | (go_at_call 56; refine use w (w.heap.size + 1) (K3.out _) (by go_grown) (by go_size) ?_; rintro e w1 rfl hB1 hc1 hf1 hl1 hs1; have hl10 : w.heap.size < w1.heap.size := hl1 _ (by omega)) | (go_at_call 57; refine use w (w.heap.size + 1) (K4.out _) (by go_grown) (by go_size) ?_; rintro e w1 rfl hB1 hc1 hf1 hl1 hs1; have hl10 : w.heap.size < w1.heap.size := hl1 _ (by omega)))
  have z0 : (w1.alloc (.cells #[.int .i64 D, .int .i64 D] 24)).cell? ⟨w.heap.size, 0, none⟩ = some (.int .i64 0) := by simp [*, go_sem]
  have z1 : (w1.alloc (.cells #[.int .i64 D, .int .i64 D] 24)).cell? ⟨w.heap.size, 1, none⟩ = some (.int .i64 0) := by simp [*, go_sem]
  have zf0 : (w1.alloc (.cells #[.int .i64 D, .int .i64 D] 24)).frozen? ⟨w.heap.size, 0, none⟩ = false := by simp [*, go_sem]
  have zf1 : (w1.alloc (.cells #[.int .i64 D, .int .i64 D] 24)).frozen? ⟨w.heap.size, 1, none⟩ = false := by simp [*, go_sem]
  have y0 : (w1.alloc (.cells #[.int .i64 D, .int .i64 D] 24)).cell? ⟨w1.heap.size, 0, none⟩ = some (.int .i64 D) := by simp [go_sem]
  have y1 : (w1.alloc (.cells #[.int .i64 D, .int .i64 D] 24)).cell? ⟨w1.heap.size, 1, none⟩ = some (.int .i64 D) := by simp [go_sem]
  have yf0 : (w1.alloc (.cells #[.int .i64 D, .int .i64 D] 24)).frozen? ⟨w1.heap.size, 0, none⟩ = false := by simp [go_sem]
  have yf1 : (w1.alloc (.cells #[.int .i64 D, .int .i64 D] 24)).frozen? ⟨w1.heap.size, 1, none⟩ = false := by simp [go_sem]
  have hWB : Below w.heap.size w (w1.alloc (.cells #[.int .i64 D, .int .i64 D] 24)) := by go_grown
  refine useF w (N.out _) hWB ?_; rintro e w9 rfl hB9 hk9 hf9 hs9
  replace zf0 := hf9 _ _ _ z0 zf0; replace zf1 := hf9 _ _ _ z1 zf1; replace yf0 := hf9 _ _ _ y0 yf0; replace yf1 := hf9 _ _ _ y1 yf1
  replace z0 := hk9 _ _ _ z0; replace z1 := hk9 _ _ _ z1; replace y0 := hk9 _ _ _ y0; replace y1 := hk9 _ _ _ y1
  clear hk9 hf9
  have hbb : w.heap.size < w1.heap.size := by assumption
  have hne : ¬ w1.heap.size = w.heap.size := by omega
  go_wp2_with fail
  refine' bodyPost_ret (res_st_t rfl isA_S isS_S rfl ?_ ?_) rfl ?_
  rotate_left 2
  · exact two_0 (two_other z0 hne)
  · exact two_1 (two_other z1 hne)
  · refine ⟨ret_r ?_, by go_grown⟩
    exact hR.out.symm
set_option maxRecDepth 100000 in
theorem read_mn (l d M U : List UInt8) (p : Bool) (v q : Nat) (D : Int) (w : World) (hl : ¬ 80 < l.length) (hv : v ≤ 2147483647) (hq : q < 4294967296) (hD : (v : Int) * 4294967296 + q = D) (R : Int × Int × Int) (hm : D ≠ 9223372036854775807) (hR : Hid (R = (-D - 1, -D, 0)))
    (K0 : Hid (∀ w : World, Calls Tryd.prog 53 #[.string ⟨l.toArray⟩] w fun e w' => e = .returned (.bool true) ∧ Below w.heap.size w w'))
    (K1 : Hid (∀ W : World, Calls Tryd.prog 54 #[.string ⟨l.toArray⟩, .string ⟨#[45]⟩] W fun e w' => e = .returned (.tuple #[.string ⟨d.toArray⟩, .bool true]) ∧ W = w'))
    (K2 : Hid (∀ w : World, Calls Tryd.prog 55 #[.string ⟨d.toArray⟩] w fun e w' => e = .returned (.tuple #[.int .i64 ((v : Int)), .bool true]) ∧ Below w.heap.size w w'))
    (K3 : Hid (∀ w : World, Calls Tryd.prog 56 #[.string ⟨d.toArray⟩, .string ⟨#[46]⟩] w fun e w' => e = .returned (.tuple #[.string ⟨M.toArray⟩, .string ⟨U.toArray⟩, .bool p]) ∧ Below w.heap.size w w'))
    (K4 : Hid (∀ w : World, Calls Tryd.prog 57 #[.string ⟨U.toArray⟩] w fun e w' => e = .returned (.tuple #[.int .i64 ((q : Int)), .bool true]) ∧ Below w.heap.size w w')) :
    Calls Tryd.prog 12 #[.string ⟨l.toArray⟩] w fun e w' => e = .returned (.tuple #[.agg #[.int .i64 R.1, .int .i64 R.2.1], .int .i64 R.2.2]) ∧ Below w.heap.size w w' := by
  have h1 : ¬ (80 : Int) < l.length := by omega
  have h2 : (v : Int) ≤ 2147483647 := by omega
  have h3 : (q : Int) < 4294967296 := by omega
  have h4 : (D == 9223372036854775807) = false := by rw [beq_eq_false_iff_ne]; exact hm
  have h5 : D + 1 ≤ 9223372036854775807 := by omega
  have hD0 : 0 ≤ D := by omega
  have hD1 : D ≤ 9223372036854775807 := by omega
  have N := hid (fun W => neg2 D (D + 1) W (by omega))
  obtain ⟨E, hE⟩ : ∃ E, E = -D := ⟨_, rfl⟩
  obtain ⟨F, hF⟩ : ∃ F, F = -((D + 1)) := ⟨_, rfl⟩
  rw [← hE, ← hF] at N
  replace hR : Hid (R = (F, E, 0)) := hid (by rw [hR.out, hE, hF]; first | rfl | (congr 1; omega))
  clear hE hF hD0 hD1 hm
  go_enter Tryd.func12, Tryd.ntmps12
  go_wp2_with (first | (go_at_call 53; refine use w (w.heap.size + 1) (K0.out _) (by go_grown) (by go_size) ?_; rintro e w1 rfl hB1 hc1 hf1 hl1 hs1; have hl10 : w.heap.size < w1.heap.size := hl1 _ (by omega)) | (go_at_call 54; refine (K1.out _).mono ?_; rintro e w' ⟨rfl, rfl⟩) | (go_at_call 55; refine use w (w.heap.size + 1) (K2.out _) (by go_grown) (by go_size) ?_; rintro e w1 rfl hB1 hc1 hf1 hl1 hs1; have hl10 : w.heap.size < w1.heap.size := hl1 _ (by omega)) | (go_at_call 56; refine use w (w.heap.size + 1) (K3.out _) (by go_grown) (by go_size) ?_; rintro e w1 rfl hB1 hc1 hf1 hl1 hs1; have hl10 : w.heap.size < w1.heap.size := hl1 _ (by omega)) | (go_at_call 57; refine use w (w.heap.size + 1) (K4.out _) (by go_grown) (by go_size) ?_; rintro e w1 rfl hB1 hc1 hf1 hl1 hs1; have hl10 : w.heap.size < w1.heap.size := hl1 _ (by omega)))
  have z0 : (w1.alloc (.cells #[.int .i64 D, .int .i64 (D + 1)] 24)).cell? ⟨w.heap.size, 0, none⟩ = some (.int .i64 0) := by simp [*, go_sem]
  have z1 : (w1.alloc (.cells #[.int .i64 D, .int .i64 (D + 1)] 24)).cell? ⟨w.heap.size, 1, none⟩ = some (.int .i64 0) := by simp [*, go_sem]
  have zf0 : (w1.alloc (.cells #[.int .i64 D, .int .i64 (D + 1)] 24)).frozen? ⟨w.heap.size, 0, none⟩ = false := by simp [*, go_sem]
  have zf1 : (w1.alloc (.cells #[.int .i64 D, .int .i64 (D + 1)] 24)).frozen? ⟨w.heap.size, 1, none⟩ = false := by simp [*, go_sem]
  have y0 : (w1.alloc (.cells #[.int .i64 D, .int .i64 (D + 1)] 24)).cell? ⟨w1.heap.size, 0, none⟩ = some (.int .i64 D) := by simp [go_sem]
  have y1 : (w1.alloc (.cells #[.int .i64 D, .int .i64 (D + 1)] 24)).cell? ⟨w1.heap.size, 1, none⟩ = some (.int .i64 (D + 1)) := by simp [go_sem]
  have yf0 : (w1.alloc (.cells #[.int .i64 D, .int .i64 (D + 1)] 24)).frozen? ⟨w1.heap.size, 0, none⟩ = false := by simp [go_sem]
  have yf1 : (w1.alloc (.cells #[.int .i64 D, .int .i64 (D + 1)] 24)).frozen? ⟨w1.heap.size, 1, none⟩ = false := by simp [go_sem]
  have hWB : Below w.heap.size w (w1.alloc (.cells #[.int .i64 D, .int .i64 (D + 1)] 24)) := by go_grown
  refine useF w (N.out _) hWB ?_; rintro e w9 rfl hB9 hk9 hf9 hs9
  replace zf0 := hf9 _ _ _ z0 zf0; replace zf1 := hf9 _ _ _ z1 zf1; replace yf0 := hf9 _ _ _ y0 yf0; replace yf1 := hf9 _ _ _ y1 yf1
  replace z0 := hk9 _ _ _ z0; replace z1 := hk9 _ _ _ z1; replace y0 := hk9 _ _ _ y0; replace y1 := hk9 _ _ _ y1
  clear hk9 hf9
  have hbb : w.heap.size < w1.heap.size := by assumption
  have hne : ¬ w1.heap.size = w.heap.size := by omega
  go_wp2_with fail
  refine' bodyPost_ret (res_st_t rfl isA_S isS_S rfl ?_ ?_) rfl ?_
  rotate_left 2
  · exact two_0 (two_other z0 hne)
  · exact two_1 (two_other z1 hne)
  · refine ⟨ret_r ?_, by go_grown⟩
    exact hR.out.symm
end Go.Proofs.YtjleflfncijnpaaDoor
