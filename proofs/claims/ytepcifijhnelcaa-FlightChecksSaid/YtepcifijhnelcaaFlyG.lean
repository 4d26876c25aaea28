/- Whether planets and states are valid, by package flight and the document. -/
import Derived.Test.YtepcifijhnelcaaRows
import Derived.Test.YtepcifijhnelcaaBase
import Derived.Test.YtepcifijhnelcaaFacts
import Derived.Test.YtepcifijhnelcaaTwo
import Derived.Deep.RegionHeld3
import Derived.Deep.RegionWith
import Derived.Deep.QuietTactic
import Derived.BigQuiet
import Derived.Test.YtepcifijhnelcaaSeq
import Derived.Test.YtepcifijhnelcaaW
import Derived.Test.YtepcifijhnelcaaAsks
import Derived.Test.YtepcifijhnelcaaFlyF
set_option linter.unusedVariables false
set_option linter.unusedSimpArgs false
set_option maxHeartbeats 4000000
set_option maxRecDepth 100000
namespace Go.Proofs.Ytepcifijhnelcaa
open Go Go.RowKit
def numB (n : Int) : Bool := decide (-9223372036854775807 ≤ n)
def pointS (n : Int) : Int × Int × Int := if -9223372036854775807 ≤ n then (n, n, 0) else (0, 0, 2)
theorem point_any (n : Int) (w : World) (h : (-9223372036854775808 ≤ n ∧ n ≤ 9223372036854775807)) :
    Calls Try.prog 55 #[.int .i64 n] w fun e w' => e = .returned (.tuple #[.agg #[.int .i64 ((pointS n).1), .int .i64 ((pointS n).2.1)], .int .i64 ((pointS n).2.2)]) ∧ Below w.heap.size w w' := by
  obtain ⟨a1, a2⟩ := h
  by_cases c : -9223372036854775807 ≤ n
  · have hp := hid (show pointS n = (n, n, 0) from if_pos c)
    go_enter Try.func55, Try.ntmps55
    go_wp2
    all_goals (refine' bodyPost_ret (res_st_t rfl isA_S isS_S rfl ?_ ?_) rfl ?_; rotate_left 2; (· ((try simp only [World.cell?_drew]); first | (with_reducible exact two_0 (by assumption)) | (with_reducible exact two_1 (by assumption)) | (with_reducible exact two_other (two_0 (by assumption)) (by simp)) | (with_reducible exact two_other (two_1 (by assumption)) (by simp)) | (with_reducible exact two_0 (two_other (by assumption) (by simp))) | (with_reducible exact two_1 (two_other (by assumption) (by simp))) | (simp (maxDischargeDepth := 8) [go_sem, hHeld]; rfl) | (simp (maxDischargeDepth := 8) [go_sem, *]; rfl) | (simp (maxDischargeDepth := 8) [go_sem, *]; done))); (· ((try simp only [World.cell?_drew]); first | (with_reducible exact two_0 (by assumption)) | (with_reducible exact two_1 (by assumption)) | (with_reducible exact two_other (two_0 (by assumption)) (by simp)) | (with_reducible exact two_other (two_1 (by assumption)) (by simp)) | (with_reducible exact two_0 (two_other (by assumption) (by simp))) | (with_reducible exact two_1 (two_other (by assumption) (by simp))) | (simp (maxDischargeDepth := 8) [go_sem, hHeld]; rfl) | (simp (maxDischargeDepth := 8) [go_sem, *]; rfl) | (simp (maxDischargeDepth := 8) [go_sem, *]; done))); refine ⟨ret_r ?_, by go_grown⟩; (exact hp.out.symm))
  · have hp := hid (show pointS n = (0, 0, 2) from if_neg c)
    go_enter Try.func55, Try.ntmps55
    go_wp2
    all_goals (refine' bodyPost_ret (res_st_t rfl isA_S isS_S rfl ?_ ?_) rfl ?_; rotate_left 2; (· ((try simp only [World.cell?_drew]); first | (with_reducible exact two_0 (by assumption)) | (with_reducible exact two_1 (by assumption)) | (with_reducible exact two_other (two_0 (by assumption)) (by simp)) | (with_reducible exact two_other (two_1 (by assumption)) (by simp)) | (with_reducible exact two_0 (two_other (by assumption) (by simp))) | (with_reducible exact two_1 (two_other (by assumption) (by simp))) | (simp (maxDischargeDepth := 8) [go_sem, hHeld]; rfl) | (simp (maxDischargeDepth := 8) [go_sem, *]; rfl) | (simp (maxDischargeDepth := 8) [go_sem, *]; done))); (· ((try simp only [World.cell?_drew]); first | (with_reducible exact two_0 (by assumption)) | (with_reducible exact two_1 (by assumption)) | (with_reducible exact two_other (two_0 (by assumption)) (by simp)) | (with_reducible exact two_other (two_1 (by assumption)) (by simp)) | (with_reducible exact two_0 (two_other (by assumption) (by simp))) | (with_reducible exact two_1 (two_other (by assumption) (by simp))) | (simp (maxDischargeDepth := 8) [go_sem, hHeld]; rfl) | (simp (maxDischargeDepth := 8) [go_sem, *]; rfl) | (simp (maxDischargeDepth := 8) [go_sem, *]; done))); refine ⟨ret_r ?_, by go_grown⟩; (exact hp.out.symm))
theorem number_any (n : Int) (w : World) (h : (-9223372036854775808 ≤ n ∧ n ≤ 9223372036854775807)) :
    Calls Try.prog 33 #[.int .i64 n] w fun e w' => e = .returned (.bool (numB n)) ∧ Below w.heap.size w w' := by
  obtain ⟨a1, a2⟩ := h
  go_enter Try.func33, Try.ntmps33
  go_wp2
  all_goals (go_ret; exact ⟨ret_bool (by unfold numB; first | rfl | simp), by go_grown⟩)
theorem isnumber_any (n : Int) (w : World) (h : (-9223372036854775808 ≤ n ∧ n ≤ 9223372036854775807)) :
    Calls Try.prog 31 #[.int .i64 n] w fun e w' => e = .returned (.bool (numB n)) ∧ Below w.heap.size w w' := by
  have k := hid (fun W => point_any n W h)
  by_cases c : -9223372036854775807 ≤ n
  · rw [show pointS n = (n, n, 0) from if_pos c] at k
    have hT := hid (show numB n = true from decide_eq_true c)
    clear h c
    go_enter Try.func31, Try.ntmps31
    go_wp2_with fail
    refine useK w (k.out _) (by go_grown) ?_; rintro e w1 rfl hB1 hk1 hs1
    clear hk1
    go_wp2_with fail
    go_ret
    exact ⟨ret_bool (by rw [hT.out]), by go_grown⟩
  · rw [show pointS n = (0, 0, 2) from if_neg c] at k
    have hT := hid (show numB n = false from decide_eq_false c)
    clear h c
    go_enter Try.func31, Try.ntmps31
    go_wp2_with fail
    refine useK w (k.out _) (by go_grown) ?_; rintro e w1 rfl hB1 hk1 hs1
    clear hk1
    go_wp2_with fail
    go_ret
    exact ⟨ret_bool (by rw [hT.out]), by go_grown⟩
def vldB (a b : Int) : Bool := decide (chk a b = 0)
def leastB (a b n : Int) : Bool := vldB a b && decide (n ≤ a)
theorem rvalid_any (a b : Int) (w : World) (h : (-9223372036854775808 ≤ a ∧ a ≤ 9223372036854775807) ∧ (-9223372036854775808 ≤ b ∧ b ≤ 9223372036854775807)) :
    Calls Try.prog 30 #[.agg #[.int .i64 a, .int .i64 b]] w fun e w' => e = .returned (.bool (vldB a b)) ∧ Below w.heap.size w w' := by
  have k := hid (fun W => rcheck_any a b W h)
  by_cases c : chk a b = 0
  · rw [c] at k
    have hT := hid (show vldB a b = true from decide_eq_true c)
    clear h c
    go_enter Try.func30, Try.ntmps30
    go_wp2_with fail
    refine useK w (k.out _) (by go_grown) ?_; rintro e w1 rfl hB1 hk1 hs1
    replace p00 : w1.cell? ⟨w.heap.size, 0, none⟩ = some (.int .i64 a) := hk1 _ _ _ (by simp [go_sem])
    replace p01 : w1.cell? ⟨w.heap.size, 1, none⟩ = some (.int .i64 b) := hk1 _ _ _ (by simp [go_sem])
    have bp00 : w.heap.size < w1.heap.size := World.block_lt_of_cell? w1 ⟨w.heap.size, 0, none⟩ p00
    clear hk1
    go_wp2_with fail
    go_ret
    exact ⟨ret_bool (by rw [hT.out]), by go_grown⟩
  · have hT := hid (show vldB a b = false from decide_eq_false c)
    have z : (chk a b == 0) = false := by simpa using c
    clear h c
    go_enter Try.func30, Try.ntmps30
    go_wp2_with fail
    refine useK w (k.out _) (by go_grown) ?_; rintro e w1 rfl hB1 hk1 hs1
    replace p00 : w1.cell? ⟨w.heap.size, 0, none⟩ = some (.int .i64 a) := hk1 _ _ _ (by simp [go_sem])
    replace p01 : w1.cell? ⟨w.heap.size, 1, none⟩ = some (.int .i64 b) := hk1 _ _ _ (by simp [go_sem])
    have bp00 : w.heap.size < w1.heap.size := World.block_lt_of_cell? w1 ⟨w.heap.size, 0, none⟩ p00
    clear hk1
    go_wp2_with fail
    go_ret
    exact ⟨ret_bool (by rw [hT.out]), by go_grown⟩
theorem rleast_any (a b n : Int) (w : World) (h : (-9223372036854775808 ≤ a ∧ a ≤ 9223372036854775807) ∧ (-9223372036854775808 ≤ b ∧ b ≤ 9223372036854775807) ∧ (-9223372036854775808 ≤ n ∧ n ≤ 9223372036854775807)) :
    Calls Try.prog 29 #[.agg #[.int .i64 a, .int .i64 b], .int .i64 n] w fun e w' => e = .returned (.bool (leastB a b n)) ∧ Below w.heap.size w w' := by
  have k := hid (fun W => rcheck_any a b W (by omega))
  by_cases c : chk a b = 0
  · rw [c] at k
    have hT := hid (show leastB a b n = decide (n ≤ a) by unfold leastB vldB; rw [decide_eq_true c]; rfl)
    clear h c
    go_enter Try.func29, Try.ntmps29
    go_wp2_with fail
    refine useK w (k.out _) (by go_grown) ?_; rintro e w1 rfl hB1 hk1 hs1
    replace p00 : w1.cell? ⟨w.heap.size, 0, none⟩ = some (.int .i64 a) := hk1 _ _ _ (by simp [go_sem])
    replace p01 : w1.cell? ⟨w.heap.size, 1, none⟩ = some (.int .i64 b) := hk1 _ _ _ (by simp [go_sem])
    have bp00 : w.heap.size < w1.heap.size := World.block_lt_of_cell? w1 ⟨w.heap.size, 0, none⟩ p00
    clear hk1
    go_wp2_with fail
    go_ret
    exact ⟨ret_bool (by rw [hT.out]), by go_grown⟩
  · have hT := hid (show leastB a b n = false by unfold leastB vldB; rw [decide_eq_false c]; rfl)
    have z : (chk a b == 0) = false := by simpa using c
    clear h c
    go_enter Try.func29, Try.ntmps29
    go_wp2_with fail
    refine useK w (k.out _) (by go_grown) ?_; rintro e w1 rfl hB1 hk1 hs1
    replace p00 : w1.cell? ⟨w.heap.size, 0, none⟩ = some (.int .i64 a) := hk1 _ _ _ (by simp [go_sem])
    replace p01 : w1.cell? ⟨w.heap.size, 1, none⟩ = some (.int .i64 b) := hk1 _ _ _ (by simp [go_sem])
    have bp00 : w.heap.size < w1.heap.size := World.block_lt_of_cell? w1 ⟨w.heap.size, 0, none⟩ p00
    clear hk1
    go_wp2_with fail
    go_ret
    exact ⟨ret_bool (by rw [hT.out]), by go_grown⟩
theorem spn1 {B : Nat} {w : World} {a b : Int} (h0 : w.cell? ⟨B, 0, none⟩ = some (.int .i64 a)) (h1 : w.cell? ⟨B, 1, none⟩ = some (.int .i64 b)) : Spn B 0 [(a, b)] w
  | 0, p, h => by cases h; exact ⟨h0, h1⟩
  | i + 1, p, h => by simp at h
theorem spn3 (B o : Nat) {w : World} {a b c d p q : Int} (h0 : w.cell? ⟨B, o, none⟩ = some (.int .i64 a)) (h1 : w.cell? ⟨B, o + 1, none⟩ = some (.int .i64 b)) (h2 : w.cell? ⟨B, o + 2, none⟩ = some (.int .i64 c)) (h3 : w.cell? ⟨B, o + 3, none⟩ = some (.int .i64 d))
    (h4 : w.cell? ⟨B, o + 4, none⟩ = some (.int .i64 p)) (h5 : w.cell? ⟨B, o + 5, none⟩ = some (.int .i64 q)) : Spn B o [(a, b), (c, d), (p, q)] w
  | 0, r, h => by cases h; exact ⟨h0, h1⟩
  | 1, r, h => by cases h; exact ⟨h2, h3⟩
  | 2, r, h => by cases h; exact ⟨h4, h5⟩
  | i + 3, r, h => by simp at h
theorem spn4 {B : Nat} {w : World} {a b c d p q x y : Int} (h0 : w.cell? ⟨B, 0, none⟩ = some (.int .i64 a)) (h1 : w.cell? ⟨B, 1, none⟩ = some (.int .i64 b)) (h2 : w.cell? ⟨B, 2, none⟩ = some (.int .i64 c)) (h3 : w.cell? ⟨B, 3, none⟩ = some (.int .i64 d))
    (h4 : w.cell? ⟨B, 4, none⟩ = some (.int .i64 p)) (h5 : w.cell? ⟨B, 5, none⟩ = some (.int .i64 q)) (h6 : w.cell? ⟨B, 6, none⟩ = some (.int .i64 x)) (h7 : w.cell? ⟨B, 7, none⟩ = some (.int .i64 y)) : Spn B 0 [(a, b), (c, d), (p, q), (x, y)] w
  | 0, r, h => by cases h; exact ⟨h0, h1⟩
  | 1, r, h => by cases h; exact ⟨h2, h3⟩
  | 2, r, h => by cases h; exact ⟨h4, h5⟩
  | 3, r, h => by cases h; exact ⟨h6, h7⟩
  | i + 4, r, h => by simp at h
theorem all3 (a b c d p q : Int) : allB [(a, b), (c, d), (p, q)] = boxB a b c d p q := by
  unfold allB boxB
  rw [Bool.eq_iff_iff]; simp
theorem bd3 {a b c d p q : Int} (h : (-9223372036854775808 ≤ a ∧ a ≤ 9223372036854775807) ∧ (-9223372036854775808 ≤ b ∧ b ≤ 9223372036854775807) ∧ (-9223372036854775808 ≤ c ∧ c ≤ 9223372036854775807) ∧ (-9223372036854775808 ≤ d ∧ d ≤ 9223372036854775807) ∧ (-9223372036854775808 ≤ p ∧ p ≤ 9223372036854775807) ∧ (-9223372036854775808 ≤ q ∧ q ≤ 9223372036854775807)) : ∀ r ∈ [(a, b), (c, d), (p, q)], (-9223372036854775808 ≤ r.1 ∧ r.1 ≤ 9223372036854775807) ∧ (-9223372036854775808 ≤ r.2 ∧ r.2 ≤ 9223372036854775807) := by
  intro r hr
  simp at hr
  rcases hr with rfl | rfl | rfl <;> dsimp only <;> omega
theorem bd4 {a b c d p q x y : Int} (h : (-9223372036854775808 ≤ a ∧ a ≤ 9223372036854775807) ∧ (-9223372036854775808 ≤ b ∧ b ≤ 9223372036854775807) ∧ (-9223372036854775808 ≤ c ∧ c ≤ 9223372036854775807) ∧ (-9223372036854775808 ≤ d ∧ d ≤ 9223372036854775807) ∧ (-9223372036854775808 ≤ p ∧ p ≤ 9223372036854775807) ∧ (-9223372036854775808 ≤ q ∧ q ≤ 9223372036854775807) ∧ (-9223372036854775808 ≤ x ∧ x ≤ 9223372036854775807) ∧ (-9223372036854775808 ≤ y ∧ y ≤ 9223372036854775807)) : ∀ r ∈ [(a, b), (c, d), (p, q), (x, y)], (-9223372036854775808 ≤ r.1 ∧ r.1 ≤ 9223372036854775807) ∧ (-9223372036854775808 ≤ r.2 ∧ r.2 ≤ 9223372036854775807) := by
  intro r hr
  simp at hr
  rcases hr with rfl | rfl | rfl | rfl <;> dsimp only <;> omega
def bodyB (P1 P2 P3 P4 P5 P6 V1 V2 V3 V4 V5 V6 M1 M2 : Int) : Bool := boxB P1 P2 P3 P4 P5 P6 && boxB V1 V2 V3 V4 V5 V6 && vldB M1 M2 && decide (0 < M1)
theorem isbody_any (P1 P2 P3 P4 P5 P6 V1 V2 V3 V4 V5 V6 M1 M2 : Int) (w : World) (h : (-9223372036854775808 ≤ P1 ∧ P1 ≤ 9223372036854775807) ∧ (-9223372036854775808 ≤ P2 ∧ P2 ≤ 9223372036854775807) ∧ (-9223372036854775808 ≤ P3 ∧ P3 ≤ 9223372036854775807) ∧ (-9223372036854775808 ≤ P4 ∧ P4 ≤ 9223372036854775807) ∧ (-9223372036854775808 ≤ P5 ∧ P5 ≤ 9223372036854775807) ∧ (-9223372036854775808 ≤ P6 ∧ P6 ≤ 9223372036854775807) ∧ (-9223372036854775808 ≤ V1 ∧ V1 ≤ 9223372036854775807) ∧ (-9223372036854775808 ≤ V2 ∧ V2 ≤ 9223372036854775807) ∧ (-9223372036854775808 ≤ V3 ∧ V3 ≤ 9223372036854775807) ∧ (-9223372036854775808 ≤ V4 ∧ V4 ≤ 9223372036854775807) ∧ (-9223372036854775808 ≤ V5 ∧ V5 ≤ 9223372036854775807) ∧ (-9223372036854775808 ≤ V6 ∧ V6 ≤ 9223372036854775807) ∧ (-9223372036854775808 ≤ M1 ∧ M1 ≤ 9223372036854775807) ∧ (-9223372036854775808 ≤ M2 ∧ M2 ≤ 9223372036854775807)) :
    Calls Try.prog 32 #[.agg #[.int .i64 P1, .int .i64 P2, .int .i64 P3, .int .i64 P4, .int .i64 P5, .int .i64 P6], .agg #[.int .i64 V1, .int .i64 V2, .int .i64 V3, .int .i64 V4, .int .i64 V5, .int .i64 V6], .agg #[.int .i64 M1, .int .i64 M2]] w fun e w' => e = .returned (.bool (bodyB P1 P2 P3 P4 P5 P6 V1 V2 V3 V4 V5 V6 M1 M2)) ∧ Below w.heap.size w w' := by
  have hp := hid (bd3 (a := P1) (b := P2) (c := P3) (d := P4) (p := P5) (q := P6) (by omega))
  have hv := hid (bd3 (a := V1) (b := V2) (c := V3) (d := V4) (p := V5) (q := V6) (by omega))
  have hm : Hid (∀ r ∈ [(M1, M2)], (-9223372036854775808 ≤ r.1 ∧ r.1 ≤ 9223372036854775807) ∧ (-9223372036854775808 ≤ r.2 ∧ r.2 ≤ 9223372036854775807)) := hid (fun r hr => by simp at hr; subst hr; dsimp only; omega)
  have k1 := hid (fun B cap W hs => arevalid_any B 0 cap [(P1, P2), (P3, P4), (P5, P6)] W (by simp) hs hp)
  have k2 := hid (fun B cap W hs => arevalid_any B 0 cap [(V1, V2), (V3, V4), (V5, V6)] W (by simp) hs hv)
  have k3 := hid (fun B cap W hs => arevalid_any B 0 cap [(M1, M2)] W (by simp) hs hm)
  rw [all3] at k1 k2
  rw [show allB [(M1, M2)] = vldB M1 M2 by unfold allB vldB; simp] at k3
  clear h hp hv hm
  cases e1 : boxB P1 P2 P3 P4 P5 P6
  · rw [e1] at k1
    have hT := hid (show bodyB P1 P2 P3 P4 P5 P6 V1 V2 V3 V4 V5 V6 M1 M2 = false by unfold bodyB; simp [e1, Bool.false_and])
    go_enter Try.func32, Try.ntmps32
    go_wp2_with fail
    refine useK w ((k1.out _ _ _ (spn3 _ 0 (by simp [*, go_sem]) (by simp [*, go_sem]) (by simp [*, go_sem]) (by simp [*, go_sem]) (by simp [*, go_sem]) (by simp [*, go_sem])))) (by go_grown) ?_; rintro e w1 rfl hB1 hk1 hs1
    replace p00 : w1.cell? ⟨w.heap.size, 0, none⟩ = some (.int .i64 P1) := hk1 _ _ _ (by simp [go_sem])
    replace p01 : w1.cell? ⟨w.heap.size, 1, none⟩ = some (.int .i64 P2) := hk1 _ _ _ (by simp [go_sem])
    replace p02 : w1.cell? ⟨w.heap.size, 2, none⟩ = some (.int .i64 P3) := hk1 _ _ _ (by simp [go_sem])
    replace p03 : w1.cell? ⟨w.heap.size, 3, none⟩ = some (.int .i64 P4) := hk1 _ _ _ (by simp [go_sem])
    replace p04 : w1.cell? ⟨w.heap.size, 4, none⟩ = some (.int .i64 P5) := hk1 _ _ _ (by simp [go_sem])
    replace p05 : w1.cell? ⟨w.heap.size, 5, none⟩ = some (.int .i64 P6) := hk1 _ _ _ (by simp [go_sem])
    replace p10 : w1.cell? ⟨w.heap.size + 1, 0, none⟩ = some (.int .i64 V1) := hk1 _ _ _ (by simp [go_sem])
    replace p11 : w1.cell? ⟨w.heap.size + 1, 1, none⟩ = some (.int .i64 V2) := hk1 _ _ _ (by simp [go_sem])
    replace p12 : w1.cell? ⟨w.heap.size + 1, 2, none⟩ = some (.int .i64 V3) := hk1 _ _ _ (by simp [go_sem])
    replace p13 : w1.cell? ⟨w.heap.size + 1, 3, none⟩ = some (.int .i64 V4) := hk1 _ _ _ (by simp [go_sem])
    replace p14 : w1.cell? ⟨w.heap.size + 1, 4, none⟩ = some (.int .i64 V5) := hk1 _ _ _ (by simp [go_sem])
    replace p15 : w1.cell? ⟨w.heap.size + 1, 5, none⟩ = some (.int .i64 V6) := hk1 _ _ _ (by simp [go_sem])
    replace p20 : w1.cell? ⟨w.heap.size + 1 + 1, 0, none⟩ = some (.int .i64 M1) := hk1 _ _ _ (by simp [go_sem])
    replace p21 : w1.cell? ⟨w.heap.size + 1 + 1, 1, none⟩ = some (.int .i64 M2) := hk1 _ _ _ (by simp [go_sem])
    have bp00 : w.heap.size < w1.heap.size := World.block_lt_of_cell? w1 ⟨w.heap.size, 0, none⟩ p00
    have bp10 : w.heap.size + 1 < w1.heap.size := World.block_lt_of_cell? w1 ⟨w.heap.size + 1, 0, none⟩ p10
    have bp20 : w.heap.size + 1 + 1 < w1.heap.size := World.block_lt_of_cell? w1 ⟨w.heap.size + 1 + 1, 0, none⟩ p20
    clear hk1
    go_wp2_with fail
    go_ret
    exact ⟨ret_bool (by rw [hT.out]), by go_grown⟩
  rw [e1] at k1
  cases e2 : boxB V1 V2 V3 V4 V5 V6
  · rw [e2] at k2
    have hT := hid (show bodyB P1 P2 P3 P4 P5 P6 V1 V2 V3 V4 V5 V6 M1 M2 = false by unfold bodyB; simp [e1, e2, Bool.false_and, Bool.and_false, Bool.true_and])
    go_enter Try.func32, Try.ntmps32
    go_wp2_with fail
    refine useK w ((k1.out _ _ _ (spn3 _ 0 (by simp [*, go_sem]) (by simp [*, go_sem]) (by simp [*, go_sem]) (by simp [*, go_sem]) (by simp [*, go_sem]) (by simp [*, go_sem])))) (by go_grown) ?_; rintro e w1 rfl hB1 hk1 hs1
    replace p00 : w1.cell? ⟨w.heap.size, 0, none⟩ = some (.int .i64 P1) := hk1 _ _ _ (by simp [go_sem])
    replace p01 : w1.cell? ⟨w.heap.size, 1, none⟩ = some (.int .i64 P2) := hk1 _ _ _ (by simp [go_sem])
    replace p02 : w1.cell? ⟨w.heap.size, 2, none⟩ = some (.int .i64 P3) := hk1 _ _ _ (by simp [go_sem])
    replace p03 : w1.cell? ⟨w.heap.size, 3, none⟩ = some (.int .i64 P4) := hk1 _ _ _ (by simp [go_sem])
    replace p04 : w1.cell? ⟨w.heap.size, 4, none⟩ = some (.int .i64 P5) := hk1 _ _ _ (by simp [go_sem])
    replace p05 : w1.cell? ⟨w.heap.size, 5, none⟩ = some (.int .i64 P6) := hk1 _ _ _ (by simp [go_sem])
    replace p10 : w1.cell? ⟨w.heap.size + 1, 0, none⟩ = some (.int .i64 V1) := hk1 _ _ _ (by simp [go_sem])
    replace p11 : w1.cell? ⟨w.heap.size + 1, 1, none⟩ = some (.int .i64 V2) := hk1 _ _ _ (by simp [go_sem])
    replace p12 : w1.cell? ⟨w.heap.size + 1, 2, none⟩ = some (.int .i64 V3) := hk1 _ _ _ (by simp [go_sem])
    replace p13 : w1.cell? ⟨w.heap.size + 1, 3, none⟩ = some (.int .i64 V4) := hk1 _ _ _ (by simp [go_sem])
    replace p14 : w1.cell? ⟨w.heap.size + 1, 4, none⟩ = some (.int .i64 V5) := hk1 _ _ _ (by simp [go_sem])
    replace p15 : w1.cell? ⟨w.heap.size + 1, 5, none⟩ = some (.int .i64 V6) := hk1 _ _ _ (by simp [go_sem])
    replace p20 : w1.cell? ⟨w.heap.size + 1 + 1, 0, none⟩ = some (.int .i64 M1) := hk1 _ _ _ (by simp [go_sem])
    replace p21 : w1.cell? ⟨w.heap.size + 1 + 1, 1, none⟩ = some (.int .i64 M2) := hk1 _ _ _ (by simp [go_sem])
    have bp00 : w.heap.size < w1.heap.size := World.block_lt_of_cell? w1 ⟨w.heap.size, 0, none⟩ p00
    have bp10 : w.heap.size + 1 < w1.heap.size := World.block_lt_of_cell? w1 ⟨w.heap.size + 1, 0, none⟩ p10
    have bp20 : w.heap.size + 1 + 1 < w1.heap.size := World.block_lt_of_cell? w1 ⟨w.heap.size + 1 + 1, 0, none⟩ p20
    clear hk1
    go_wp2_with fail
    refine useK w ((k2.out _ _ _ (spn3 _ 0 (by simp [*, go_sem]) (by simp [*, go_sem]) (by simp [*, go_sem]) (by simp [*, go_sem]) (by simp [*, go_sem]) (by simp [*, go_sem])))) (by go_grown) ?_; rintro e w2 rfl hB2 hk2 hs2
    replace p00 : w2.cell? ⟨w.heap.size, 0, none⟩ = some (.int .i64 P1) := hk2 _ _ _ (p00)
    replace p01 : w2.cell? ⟨w.heap.size, 1, none⟩ = some (.int .i64 P2) := hk2 _ _ _ (p01)
    replace p02 : w2.cell? ⟨w.heap.size, 2, none⟩ = some (.int .i64 P3) := hk2 _ _ _ (p02)
    replace p03 : w2.cell? ⟨w.heap.size, 3, none⟩ = some (.int .i64 P4) := hk2 _ _ _ (p03)
    replace p04 : w2.cell? ⟨w.heap.size, 4, none⟩ = some (.int .i64 P5) := hk2 _ _ _ (p04)
    replace p05 : w2.cell? ⟨w.heap.size, 5, none⟩ = some (.int .i64 P6) := hk2 _ _ _ (p05)
    replace p10 : w2.cell? ⟨w.heap.size + 1, 0, none⟩ = some (.int .i64 V1) := hk2 _ _ _ (p10)
    replace p11 : w2.cell? ⟨w.heap.size + 1, 1, none⟩ = some (.int .i64 V2) := hk2 _ _ _ (p11)
    replace p12 : w2.cell? ⟨w.heap.size + 1, 2, none⟩ = some (.int .i64 V3) := hk2 _ _ _ (p12)
    replace p13 : w2.cell? ⟨w.heap.size + 1, 3, none⟩ = some (.int .i64 V4) := hk2 _ _ _ (p13)
    replace p14 : w2.cell? ⟨w.heap.size + 1, 4, none⟩ = some (.int .i64 V5) := hk2 _ _ _ (p14)
    replace p15 : w2.cell? ⟨w.heap.size + 1, 5, none⟩ = some (.int .i64 V6) := hk2 _ _ _ (p15)
    replace p20 : w2.cell? ⟨w.heap.size + 1 + 1, 0, none⟩ = some (.int .i64 M1) := hk2 _ _ _ (p20)
    replace p21 : w2.cell? ⟨w.heap.size + 1 + 1, 1, none⟩ = some (.int .i64 M2) := hk2 _ _ _ (p21)
    have bp00 : w.heap.size < w2.heap.size := World.block_lt_of_cell? w2 ⟨w.heap.size, 0, none⟩ p00
    have bp10 : w.heap.size + 1 < w2.heap.size := World.block_lt_of_cell? w2 ⟨w.heap.size + 1, 0, none⟩ p10
    have bp20 : w.heap.size + 1 + 1 < w2.heap.size := World.block_lt_of_cell? w2 ⟨w.heap.size + 1 + 1, 0, none⟩ p20
    clear hk2
    go_wp2_with fail
    go_ret
    exact ⟨ret_bool (by rw [hT.out]), by go_grown⟩
  rw [e2] at k2
  cases e3 : vldB M1 M2
  · rw [e3] at k3
    have hT := hid (show bodyB P1 P2 P3 P4 P5 P6 V1 V2 V3 V4 V5 V6 M1 M2 = false by unfold bodyB; simp [e1, e2, e3, Bool.false_and, Bool.and_false, Bool.true_and])
    go_enter Try.func32, Try.ntmps32
    go_wp2_with fail
    refine useK w ((k1.out _ _ _ (spn3 _ 0 (by simp [*, go_sem]) (by simp [*, go_sem]) (by simp [*, go_sem]) (by simp [*, go_sem]) (by simp [*, go_sem]) (by simp [*, go_sem])))) (by go_grown) ?_; rintro e w1 rfl hB1 hk1 hs1
    replace p00 : w1.cell? ⟨w.heap.size, 0, none⟩ = some (.int .i64 P1) := hk1 _ _ _ (by simp [go_sem])
    replace p01 : w1.cell? ⟨w.heap.size, 1, none⟩ = some (.int .i64 P2) := hk1 _ _ _ (by simp [go_sem])
    replace p02 : w1.cell? ⟨w.heap.size, 2, none⟩ = some (.int .i64 P3) := hk1 _ _ _ (by simp [go_sem])
    replace p03 : w1.cell? ⟨w.heap.size, 3, none⟩ = some (.int .i64 P4) := hk1 _ _ _ (by simp [go_sem])
    replace p04 : w1.cell? ⟨w.heap.size, 4, none⟩ = some (.int .i64 P5) := hk1 _ _ _ (by simp [go_sem])
    replace p05 : w1.cell? ⟨w.heap.size, 5, none⟩ = some (.int .i64 P6) := hk1 _ _ _ (by simp [go_sem])
    replace p10 : w1.cell? ⟨w.heap.size + 1, 0, none⟩ = some (.int .i64 V1) := hk1 _ _ _ (by simp [go_sem])
    replace p11 : w1.cell? ⟨w.heap.size + 1, 1, none⟩ = some (.int .i64 V2) := hk1 _ _ _ (by simp [go_sem])
    replace p12 : w1.cell? ⟨w.heap.size + 1, 2, none⟩ = some (.int .i64 V3) := hk1 _ _ _ (by simp [go_sem])
    replace p13 : w1.cell? ⟨w.heap.size + 1, 3, none⟩ = some (.int .i64 V4) := hk1 _ _ _ (by simp [go_sem])
    replace p14 : w1.cell? ⟨w.heap.size + 1, 4, none⟩ = some (.int .i64 V5) := hk1 _ _ _ (by simp [go_sem])
    replace p15 : w1.cell? ⟨w.heap.size + 1, 5, none⟩ = some (.int .i64 V6) := hk1 _ _ _ (by simp [go_sem])
    replace p20 : w1.cell? ⟨w.heap.size + 1 + 1, 0, none⟩ = some (.int .i64 M1) := hk1 _ _ _ (by simp [go_sem])
    replace p21 : w1.cell? ⟨w.heap.size + 1 + 1, 1, none⟩ = some (.int .i64 M2) := hk1 _ _ _ (by simp [go_sem])
    have bp00 : w.heap.size < w1.heap.size := World.block_lt_of_cell? w1 ⟨w.heap.size, 0, none⟩ p00
    have bp10 : w.heap.size + 1 < w1.heap.size := World.block_lt_of_cell? w1 ⟨w.heap.size + 1, 0, none⟩ p10
    have bp20 : w.heap.size + 1 + 1 < w1.heap.size := World.block_lt_of_cell? w1 ⟨w.heap.size + 1 + 1, 0, none⟩ p20
    clear hk1
    go_wp2_with fail
    refine useK w ((k2.out _ _ _ (spn3 _ 0 (by simp [*, go_sem]) (by simp [*, go_sem]) (by simp [*, go_sem]) (by simp [*, go_sem]) (by simp [*, go_sem]) (by simp [*, go_sem])))) (by go_grown) ?_; rintro e w2 rfl hB2 hk2 hs2
    replace p00 : w2.cell? ⟨w.heap.size, 0, none⟩ = some (.int .i64 P1) := hk2 _ _ _ (p00)
    replace p01 : w2.cell? ⟨w.heap.size, 1, none⟩ = some (.int .i64 P2) := hk2 _ _ _ (p01)
    replace p02 : w2.cell? ⟨w.heap.size, 2, none⟩ = some (.int .i64 P3) := hk2 _ _ _ (p02)
    replace p03 : w2.cell? ⟨w.heap.size, 3, none⟩ = some (.int .i64 P4) := hk2 _ _ _ (p03)
    replace p04 : w2.cell? ⟨w.heap.size, 4, none⟩ = some (.int .i64 P5) := hk2 _ _ _ (p04)
    replace p05 : w2.cell? ⟨w.heap.size, 5, none⟩ = some (.int .i64 P6) := hk2 _ _ _ (p05)
    replace p10 : w2.cell? ⟨w.heap.size + 1, 0, none⟩ = some (.int .i64 V1) := hk2 _ _ _ (p10)
    replace p11 : w2.cell? ⟨w.heap.size + 1, 1, none⟩ = some (.int .i64 V2) := hk2 _ _ _ (p11)
    replace p12 : w2.cell? ⟨w.heap.size + 1, 2, none⟩ = some (.int .i64 V3) := hk2 _ _ _ (p12)
    replace p13 : w2.cell? ⟨w.heap.size + 1, 3, none⟩ = some (.int .i64 V4) := hk2 _ _ _ (p13)
    replace p14 : w2.cell? ⟨w.heap.size + 1, 4, none⟩ = some (.int .i64 V5) := hk2 _ _ _ (p14)
    replace p15 : w2.cell? ⟨w.heap.size + 1, 5, none⟩ = some (.int .i64 V6) := hk2 _ _ _ (p15)
    replace p20 : w2.cell? ⟨w.heap.size + 1 + 1, 0, none⟩ = some (.int .i64 M1) := hk2 _ _ _ (p20)
    replace p21 : w2.cell? ⟨w.heap.size + 1 + 1, 1, none⟩ = some (.int .i64 M2) := hk2 _ _ _ (p21)
    have bp00 : w.heap.size < w2.heap.size := World.block_lt_of_cell? w2 ⟨w.heap.size, 0, none⟩ p00
    have bp10 : w.heap.size + 1 < w2.heap.size := World.block_lt_of_cell? w2 ⟨w.heap.size + 1, 0, none⟩ p10
    have bp20 : w.heap.size + 1 + 1 < w2.heap.size := World.block_lt_of_cell? w2 ⟨w.heap.size + 1 + 1, 0, none⟩ p20
    clear hk2
    go_wp2_with fail
    refine useK w ((k3.out _ _ _ (spn1 (by simp [*, go_sem]) (by simp [*, go_sem])))) (by go_grown) ?_; rintro e w3 rfl hB3 hk3 hs3
    replace p00 : w3.cell? ⟨w.heap.size, 0, none⟩ = some (.int .i64 P1) := hk3 _ _ _ ((keepA _ p00))
    replace p01 : w3.cell? ⟨w.heap.size, 1, none⟩ = some (.int .i64 P2) := hk3 _ _ _ ((keepA _ p01))
    replace p02 : w3.cell? ⟨w.heap.size, 2, none⟩ = some (.int .i64 P3) := hk3 _ _ _ ((keepA _ p02))
    replace p03 : w3.cell? ⟨w.heap.size, 3, none⟩ = some (.int .i64 P4) := hk3 _ _ _ ((keepA _ p03))
    replace p04 : w3.cell? ⟨w.heap.size, 4, none⟩ = some (.int .i64 P5) := hk3 _ _ _ ((keepA _ p04))
    replace p05 : w3.cell? ⟨w.heap.size, 5, none⟩ = some (.int .i64 P6) := hk3 _ _ _ ((keepA _ p05))
    replace p10 : w3.cell? ⟨w.heap.size + 1, 0, none⟩ = some (.int .i64 V1) := hk3 _ _ _ ((keepA _ p10))
    replace p11 : w3.cell? ⟨w.heap.size + 1, 1, none⟩ = some (.int .i64 V2) := hk3 _ _ _ ((keepA _ p11))
    replace p12 : w3.cell? ⟨w.heap.size + 1, 2, none⟩ = some (.int .i64 V3) := hk3 _ _ _ ((keepA _ p12))
    replace p13 : w3.cell? ⟨w.heap.size + 1, 3, none⟩ = some (.int .i64 V4) := hk3 _ _ _ ((keepA _ p13))
    replace p14 : w3.cell? ⟨w.heap.size + 1, 4, none⟩ = some (.int .i64 V5) := hk3 _ _ _ ((keepA _ p14))
    replace p15 : w3.cell? ⟨w.heap.size + 1, 5, none⟩ = some (.int .i64 V6) := hk3 _ _ _ ((keepA _ p15))
    replace p20 : w3.cell? ⟨w.heap.size + 1 + 1, 0, none⟩ = some (.int .i64 M1) := hk3 _ _ _ ((keepA _ p20))
    replace p21 : w3.cell? ⟨w.heap.size + 1 + 1, 1, none⟩ = some (.int .i64 M2) := hk3 _ _ _ ((keepA _ p21))
    replace l200 : w3.cell? ⟨w2.heap.size, 0, none⟩ = some (.int .i64 M1) := hk3 _ _ _ (by simp [go_sem])
    replace l201 : w3.cell? ⟨w2.heap.size, 1, none⟩ = some (.int .i64 M2) := hk3 _ _ _ (by simp [go_sem])
    have bp00 : w.heap.size < w3.heap.size := World.block_lt_of_cell? w3 ⟨w.heap.size, 0, none⟩ p00
    have bp10 : w.heap.size + 1 < w3.heap.size := World.block_lt_of_cell? w3 ⟨w.heap.size + 1, 0, none⟩ p10
    have bp20 : w.heap.size + 1 + 1 < w3.heap.size := World.block_lt_of_cell? w3 ⟨w.heap.size + 1 + 1, 0, none⟩ p20
    have bl200 : w2.heap.size < w3.heap.size := World.block_lt_of_cell? w3 ⟨w2.heap.size, 0, none⟩ l200
    clear hk3
    go_wp2_with fail
    go_ret
    exact ⟨ret_bool (by rw [hT.out]), by go_grown⟩
  rw [e3] at k3
  have hT := hid (show bodyB P1 P2 P3 P4 P5 P6 V1 V2 V3 V4 V5 V6 M1 M2 = decide (0 < M1) by unfold bodyB; simp [e1, e2, e3, Bool.true_and])
  go_enter Try.func32, Try.ntmps32
  go_wp2_with fail
  refine useK w ((k1.out _ _ _ (spn3 _ 0 (by simp [*, go_sem]) (by simp [*, go_sem]) (by simp [*, go_sem]) (by simp [*, go_sem]) (by simp [*, go_sem]) (by simp [*, go_sem])))) (by go_grown) ?_; rintro e w1 rfl hB1 hk1 hs1
  replace p00 : w1.cell? ⟨w.heap.size, 0, none⟩ = some (.int .i64 P1) := hk1 _ _ _ (by simp [go_sem])
  replace p01 : w1.cell? ⟨w.heap.size, 1, none⟩ = some (.int .i64 P2) := hk1 _ _ _ (by simp [go_sem])
  replace p02 : w1.cell? ⟨w.heap.size, 2, none⟩ = some (.int .i64 P3) := hk1 _ _ _ (by simp [go_sem])
  replace p03 : w1.cell? ⟨w.heap.size, 3, none⟩ = some (.int .i64 P4) := hk1 _ _ _ (by simp [go_sem])
  replace p04 : w1.cell? ⟨w.heap.size, 4, none⟩ = some (.int .i64 P5) := hk1 _ _ _ (by simp [go_sem])
  replace p05 : w1.cell? ⟨w.heap.size, 5, none⟩ = some (.int .i64 P6) := hk1 _ _ _ (by simp [go_sem])
  replace p10 : w1.cell? ⟨w.heap.size + 1, 0, none⟩ = some (.int .i64 V1) := hk1 _ _ _ (by simp [go_sem])
  replace p11 : w1.cell? ⟨w.heap.size + 1, 1, none⟩ = some (.int .i64 V2) := hk1 _ _ _ (by simp [go_sem])
  replace p12 : w1.cell? ⟨w.heap.size + 1, 2, none⟩ = some (.int .i64 V3) := hk1 _ _ _ (by simp [go_sem])
  replace p13 : w1.cell? ⟨w.heap.size + 1, 3, none⟩ = some (.int .i64 V4) := hk1 _ _ _ (by simp [go_sem])
  replace p14 : w1.cell? ⟨w.heap.size + 1, 4, none⟩ = some (.int .i64 V5) := hk1 _ _ _ (by simp [go_sem])
  replace p15 : w1.cell? ⟨w.heap.size + 1, 5, none⟩ = some (.int .i64 V6) := hk1 _ _ _ (by simp [go_sem])
  replace p20 : w1.cell? ⟨w.heap.size + 1 + 1, 0, none⟩ = some (.int .i64 M1) := hk1 _ _ _ (by simp [go_sem])
  replace p21 : w1.cell? ⟨w.heap.size + 1 + 1, 1, none⟩ = some (.int .i64 M2) := hk1 _ _ _ (by simp [go_sem])
  have bp00 : w.heap.size < w1.heap.size := World.block_lt_of_cell? w1 ⟨w.heap.size, 0, none⟩ p00
  have bp10 : w.heap.size + 1 < w1.heap.size := World.block_lt_of_cell? w1 ⟨w.heap.size + 1, 0, none⟩ p10
  have bp20 : w.heap.size + 1 + 1 < w1.heap.size := World.block_lt_of_cell? w1 ⟨w.heap.size + 1 + 1, 0, none⟩ p20
  clear hk1
  go_wp2_with fail
  refine useK w ((k2.out _ _ _ (spn3 _ 0 (by simp [*, go_sem]) (by simp [*, go_sem]) (by simp [*, go_sem]) (by simp [*, go_sem]) (by simp [*, go_sem]) (by simp [*, go_sem])))) (by go_grown) ?_; rintro e w2 rfl hB2 hk2 hs2
  replace p00 : w2.cell? ⟨w.heap.size, 0, none⟩ = some (.int .i64 P1) := hk2 _ _ _ (p00)
  replace p01 : w2.cell? ⟨w.heap.size, 1, none⟩ = some (.int .i64 P2) := hk2 _ _ _ (p01)
  replace p02 : w2.cell? ⟨w.heap.size, 2, none⟩ = some (.int .i64 P3) := hk2 _ _ _ (p02)
  replace p03 : w2.cell? ⟨w.heap.size, 3, none⟩ = some (.int .i64 P4) := hk2 _ _ _ (p03)
  replace p04 : w2.cell? ⟨w.heap.size, 4, none⟩ = some (.int .i64 P5) := hk2 _ _ _ (p04)
  replace p05 : w2.cell? ⟨w.heap.size, 5, none⟩ = some (.int .i64 P6) := hk2 _ _ _ (p05)
  replace p10 : w2.cell? ⟨w.heap.size + 1, 0, none⟩ = some (.int .i64 V1) := hk2 _ _ _ (p10)
  replace p11 : w2.cell? ⟨w.heap.size + 1, 1, none⟩ = some (.int .i64 V2) := hk2 _ _ _ (p11)
  replace p12 : w2.cell? ⟨w.heap.size + 1, 2, none⟩ = some (.int .i64 V3) := hk2 _ _ _ (p12)
  replace p13 : w2.cell? ⟨w.heap.size + 1, 3, none⟩ = some (.int .i64 V4) := hk2 _ _ _ (p13)
  replace p14 : w2.cell? ⟨w.heap.size + 1, 4, none⟩ = some (.int .i64 V5) := hk2 _ _ _ (p14)
  replace p15 : w2.cell? ⟨w.heap.size + 1, 5, none⟩ = some (.int .i64 V6) := hk2 _ _ _ (p15)
  replace p20 : w2.cell? ⟨w.heap.size + 1 + 1, 0, none⟩ = some (.int .i64 M1) := hk2 _ _ _ (p20)
  replace p21 : w2.cell? ⟨w.heap.size + 1 + 1, 1, none⟩ = some (.int .i64 M2) := hk2 _ _ _ (p21)
  have bp00 : w.heap.size < w2.heap.size := World.block_lt_of_cell? w2 ⟨w.heap.size, 0, none⟩ p00
  have bp10 : w.heap.size + 1 < w2.heap.size := World.block_lt_of_cell? w2 ⟨w.heap.size + 1, 0, none⟩ p10
  have bp20 : w.heap.size + 1 + 1 < w2.heap.size := World.block_lt_of_cell? w2 ⟨w.heap.size + 1 + 1, 0, none⟩ p20
  clear hk2
  go_wp2_with fail
  refine useK w ((k3.out _ _ _ (spn1 (by simp [*, go_sem]) (by simp [*, go_sem])))) (by go_grown) ?_; rintro e w3 rfl hB3 hk3 hs3
  replace p00 : w3.cell? ⟨w.heap.size, 0, none⟩ = some (.int .i64 P1) := hk3 _ _ _ ((keepA _ p00))
  replace p01 : w3.cell? ⟨w.heap.size, 1, none⟩ = some (.int .i64 P2) := hk3 _ _ _ ((keepA _ p01))
  replace p02 : w3.cell? ⟨w.heap.size, 2, none⟩ = some (.int .i64 P3) := hk3 _ _ _ ((keepA _ p02))
  replace p03 : w3.cell? ⟨w.heap.size, 3, none⟩ = some (.int .i64 P4) := hk3 _ _ _ ((keepA _ p03))
  replace p04 : w3.cell? ⟨w.heap.size, 4, none⟩ = some (.int .i64 P5) := hk3 _ _ _ ((keepA _ p04))
  replace p05 : w3.cell? ⟨w.heap.size, 5, none⟩ = some (.int .i64 P6) := hk3 _ _ _ ((keepA _ p05))
  replace p10 : w3.cell? ⟨w.heap.size + 1, 0, none⟩ = some (.int .i64 V1) := hk3 _ _ _ ((keepA _ p10))
  replace p11 : w3.cell? ⟨w.heap.size + 1, 1, none⟩ = some (.int .i64 V2) := hk3 _ _ _ ((keepA _ p11))
  replace p12 : w3.cell? ⟨w.heap.size + 1, 2, none⟩ = some (.int .i64 V3) := hk3 _ _ _ ((keepA _ p12))
  replace p13 : w3.cell? ⟨w.heap.size + 1, 3, none⟩ = some (.int .i64 V4) := hk3 _ _ _ ((keepA _ p13))
  replace p14 : w3.cell? ⟨w.heap.size + 1, 4, none⟩ = some (.int .i64 V5) := hk3 _ _ _ ((keepA _ p14))
  replace p15 : w3.cell? ⟨w.heap.size + 1, 5, none⟩ = some (.int .i64 V6) := hk3 _ _ _ ((keepA _ p15))
  replace p20 : w3.cell? ⟨w.heap.size + 1 + 1, 0, none⟩ = some (.int .i64 M1) := hk3 _ _ _ ((keepA _ p20))
  replace p21 : w3.cell? ⟨w.heap.size + 1 + 1, 1, none⟩ = some (.int .i64 M2) := hk3 _ _ _ ((keepA _ p21))
  replace l200 : w3.cell? ⟨w2.heap.size, 0, none⟩ = some (.int .i64 M1) := hk3 _ _ _ (by simp [go_sem])
  replace l201 : w3.cell? ⟨w2.heap.size, 1, none⟩ = some (.int .i64 M2) := hk3 _ _ _ (by simp [go_sem])
  have bp00 : w.heap.size < w3.heap.size := World.block_lt_of_cell? w3 ⟨w.heap.size, 0, none⟩ p00
  have bp10 : w.heap.size + 1 < w3.heap.size := World.block_lt_of_cell? w3 ⟨w.heap.size + 1, 0, none⟩ p10
  have bp20 : w.heap.size + 1 + 1 < w3.heap.size := World.block_lt_of_cell? w3 ⟨w.heap.size + 1 + 1, 0, none⟩ p20
  have bl200 : w2.heap.size < w3.heap.size := World.block_lt_of_cell? w3 ⟨w2.heap.size, 0, none⟩ l200
  clear hk3
  go_wp2_with fail
  go_ret
  exact ⟨ret_bool (by rw [hT.out]), by go_grown⟩
end Go.Proofs.Ytepcifijhnelcaa
