/- x y / d of 64 bits, rounded down and up; the point of a quotient. -/
import Derived.Test.YtjleflfncijnpaaDoorRows
import Derived.Test.YtjleflfncijnpaaDoorBase
import Derived.Test.YtjleflfncijnpaaDoorFacts
import Derived.Test.YtjleflfncijnpaaDoorTwo
import Derived.Deep.RegionHeld3
import Derived.Deep.RegionWith
import Derived.Deep.QuietTactic
import Derived.BigQuiet
import Derived.Test.YtjleflfncijnpaaDoorQuo
import Derived.Test.YtjleflfncijnpaaDoorShelf
import Derived.Test.YtjleflfncijnpaaDoorDiv64
set_option linter.unusedVariables false
set_option linter.unusedSimpArgs false
set_option maxHeartbeats 4000000
set_option maxRecDepth 100000
namespace Go.Proofs.YtjleflfncijnpaaDoor
open Go Go.RowKit
theorem ret_3 {a b a' b' : Int} {c c' : Bool} (h : a = a') (k : b = b') (l : c = c') : Ending.returned (.tuple #[.int .i64 a, .int .i64 b, .bool c]) = .returned (.tuple #[.int .i64 a', .int .i64 b', .bool c']) := by rw [h, k, l]
theorem mul64_any (x y : Int) (w : World) (h : (0 ≤ x ∧ x ≤ 18446744073709551615) ∧ (0 ≤ y ∧ y ≤ 18446744073709551615)) :
    Calls Tryd.prog 93 #[.int .u64 x, .int .u64 y] w fun e w' => e = .returned (.tuple #[.int .u64 (x * y / 18446744073709551616), .int .u64 (x * y % 18446744073709551616)]) ∧ Below w.heap.size w w' := by
  obtain ⟨⟨a1, a2⟩, b1, b2⟩ := h
  obtain ⟨x, rfl⟩ := Int.eq_ofNat_of_zero_le a1
  obtain ⟨y, rfl⟩ := Int.eq_ofNat_of_zero_le b1
  refine (Tryd.bits_Mul64 x y (by omega) (by omega) w).mono fun e w' ⟨he, hw⟩ => ⟨?_, by subst hw; exact Below.refl _ _⟩
  rw [he]
  simp
theorem size_any (n : Int) (w : World) (h : (-9223372036854775808 ≤ n ∧ n ≤ 9223372036854775807)) :
    Calls Tryd.prog 65 #[.int .i64 n] w fun e w' => e = .returned (.int .u64 (ab n)) ∧ Below w.heap.size w w' := by
  obtain ⟨n1, n2⟩ := h
  go_enter Tryd.func65, Tryd.ntmps65
  go_wp2
  all_goals (go_ret; exact ⟨ret_int (by (try simp only [Array.getD_eq_getD_getElem?, List.getElem?_toArray, List.getElem?_cons_succ, List.getElem?_cons_zero, Option.getD_some]) <;> (unfold ab; (try simp only [IntKind.wrap_u64]); split <;> omega)), by go_grown⟩)
theorem div64_q (x y d : Int) (w : World) (h : (-9223372036854775808 ≤ x ∧ x ≤ 9223372036854775807) ∧ (-9223372036854775808 ≤ y ∧ y ≤ 9223372036854775807) ∧ (-9223372036854775808 ≤ d ∧ d ≤ 9223372036854775807)) (hd : d ≠ 0) (hl : ab x * ab y / 18446744073709551616 < ab d) :
    Calls Tryd.prog 94 #[.int .u64 (ab x * ab y / 18446744073709551616), .int .u64 (ab x * ab y % 18446744073709551616), .int .u64 (ab d)] w fun e w' => e = .returned (.tuple #[.int .u64 (quQ x y d), .int .u64 (reQ x y d)]) ∧ Below w.heap.size w w' := by
  obtain ⟨hx, hy, hz⟩ := h
  have m := mul_bd (ab_bd hx) (ab_bd hy)
  simp only [Int.reduceMul] at m
  have b := ab_bd hz
  have k := div64_any (ab x * ab y / 18446744073709551616) (ab x * ab y % 18446744073709551616) (ab d) w (by omega) hl
  rw [show ab x * ab y / 18446744073709551616 * 18446744073709551616 + ab x * ab y % 18446744073709551616 = ab x * ab y from by omega] at k
  exact k
theorem round_any (x y d : Int) (w : World) (h : (-9223372036854775808 ≤ x ∧ x ≤ 9223372036854775807) ∧ (-9223372036854775808 ≤ y ∧ y ≤ 9223372036854775807) ∧ (-9223372036854775808 ≤ d ∧ d ≤ 9223372036854775807)) (hd : d ≠ 0) :
    Calls Tryd.prog 72 #[.int .i64 x, .int .i64 y, .int .i64 d] w fun e w' => e = .returned (.tuple #[.int .i64 (rdQ (x * y) d), .int .i64 (ruQ (x * y) d), .bool (ftQ (x * y) d)]) ∧ Below w.heap.size w w' := by
  obtain ⟨hx, hy, hz⟩ := h
  have m := mul_bd (ab_bd hx) (ab_bd hy)
  simp only [Int.reduceMul] at m
  have bx := ab_bd hx; have by' := ab_bd hy; have bz := ab_bd hz; have kz := ab_pos hd
  obtain ⟨x1, x2⟩ := hx; obtain ⟨y1, y2⟩ := hy; obtain ⟨z1, z2⟩ := hz
  have hft := ft_val x y d hd
  obtain ⟨q0, r0, r1⟩ := quQ_bd x y d hd
  obtain ⟨hdn, hup⟩ := qu_val x y d hd
  by_cases c1 : ab d ≤ ab x * ab y / 18446744073709551616
  · have hb := qu_big x y d hd c1
    have hf : ftQ (x * y) d = false := by rw [hft]; exact decide_eq_false (by omega)
    have e := hid (show rdQ (x * y) d = 0 ∧ ruQ (x * y) d = 0 ∧ ftQ (x * y) d = false from ⟨by unfold rdQ; rw [hf]; rfl, by unfold ruQ; rw [hf]; rfl, hf⟩)
    clear hf hft hdn hup
    go_enter Tryd.func72, Tryd.ntmps72
    go_wp2_with (first | (go_at_call 93; refine use w (w.heap.size) (mul64_any _ _ _ (by omega)) (by go_grown) (by go_size) ?_; rintro e w1 rfl hB1 hc1 hf1 hl1 hs1) | (go_at_call 65; refine use w (w.heap.size) (size_any _ _ (by omega)) (by go_grown) (by go_size) ?_; rintro e w1 rfl hB1 hc1 hf1 hl1 hs1))
    all_goals (go_ret3; refine ⟨?_, by go_grown⟩; rw [e.out.1, e.out.2.1, e.out.2.2]; rfl)
  · have c2 : ab x * ab y / 18446744073709551616 < ab d := by omega
    have dz := hid (fun W => div64_q x y d W ⟨⟨x1, x2⟩, ⟨y1, y2⟩, z1, z2⟩ hd c2)
    have hrd : rdQ (x * y) d = if ftQ (x * y) d then dnQ (x * y) d else 0 := rfl
    have hru : ruQ (x * y) d = if ftQ (x * y) d then upQ (x * y) d else 0 := rfl
    rw [hft, hdn] at hrd
    rw [hft, hup] at hru
    clear hdn hup c1
    generalize rdQ (x * y) d = o1 at *
    generalize ruQ (x * y) d = o2 at *
    generalize ftQ (x * y) d = o3 at *
    generalize quQ x y d = q at *
    generalize reQ x y d = r at *
    by_cases f : q ≤ 9223372036854775807 ∧ (q = 9223372036854775807 → r = 0)
    · rw [decide_eq_true f] at hft hrd hru
      simp only [if_true] at hrd hru
      obtain ⟨f1, f2⟩ := f
      rcases (by omega : (q < 9223372036854775807 ∧ r ≠ 0) ∨ r = 0) with ⟨f3, f4⟩ | f4
      all_goals
        cases hs : sgQ x y d
        all_goals
          have E := hid (And.intro hrd (And.intro hru hft))
          have S := hid hs
          clear hrd hru hft f2
          first | (have hs2 : (!(!decide (x < 0) == decide (y < 0)) == decide (d < 0)) = true := hs) | (have hs2 : (!(!decide (x < 0) == decide (y < 0)) == decide (d < 0)) = false := hs)
          clear hs
          first | (have t1 : (r != 0) = true := by simpa using f4) | (have t1 : (r != 0) = false := by simpa using f4)
          have F4 := hid f4
          clear f4
          go_enter Tryd.func72, Tryd.ntmps72
          go_wp2_with (first | (go_at_call 93; refine use w (w.heap.size) (mul64_any _ _ _ (by omega)) (by go_grown) (by go_size) ?_; rintro e w1 rfl hB1 hc1 hf1 hl1 hs1) | (go_at_call 65; refine use w (w.heap.size) (size_any _ _ (by omega)) (by go_grown) (by go_size) ?_; rintro e w1 rfl hB1 hc1 hf1 hl1 hs1) | (go_at_call 94; refine use w (w.heap.size) (dz.out _) (by go_grown) (by go_size) ?_; rintro e w1 rfl hB1 hc1 hf1 hl1 hs1))
          all_goals (go_ret3; have e := E.out; rw [S.out] at e; simp only [F4.out, if_true, if_false, Bool.false_eq_true] at e; exact ⟨ret_3 (by have := e.1; omega) (by have := e.2.1; omega) e.2.2.symm, by go_grown⟩)
    · rw [decide_eq_false f] at hft hrd hru
      simp only [Bool.false_eq_true, if_false] at hrd hru
      have E := hid (And.intro hrd (And.intro hru hft))
      clear hrd hru hft
      rcases (by omega : 9223372036854775807 < q ∨ (q = 9223372036854775807 ∧ r ≠ 0)) with g | ⟨g, g2⟩
      · clear f
        go_enter Tryd.func72, Tryd.ntmps72
        go_wp2_with (first | (go_at_call 93; refine use w (w.heap.size) (mul64_any _ _ _ (by omega)) (by go_grown) (by go_size) ?_; rintro e w1 rfl hB1 hc1 hf1 hl1 hs1) | (go_at_call 65; refine use w (w.heap.size) (size_any _ _ (by omega)) (by go_grown) (by go_size) ?_; rintro e w1 rfl hB1 hc1 hf1 hl1 hs1) | (go_at_call 94; refine use w (w.heap.size) (dz.out _) (by go_grown) (by go_size) ?_; rintro e w1 rfl hB1 hc1 hf1 hl1 hs1))
        all_goals (go_ret3; refine ⟨?_, by go_grown⟩; have e := E.out; rw [e.1, e.2.1, e.2.2]; try rfl)
      · subst g
        have t1 : (r != 0) = true := by simpa using g2
        clear f
        go_enter Tryd.func72, Tryd.ntmps72
        go_wp2_with (first | (go_at_call 93; refine use w (w.heap.size) (mul64_any _ _ _ (by omega)) (by go_grown) (by go_size) ?_; rintro e w1 rfl hB1 hc1 hf1 hl1 hs1) | (go_at_call 65; refine use w (w.heap.size) (size_any _ _ (by omega)) (by go_grown) (by go_size) ?_; rintro e w1 rfl hB1 hc1 hf1 hl1 hs1) | (go_at_call 94; refine use w (w.heap.size) (dz.out _) (by go_grown) (by go_size) ?_; rintro e w1 rfl hB1 hc1 hf1 hl1 hs1))
        all_goals (go_ret3; refine ⟨?_, by go_grown⟩; have e := E.out; rw [e.1, e.2.1, e.2.2]; try rfl)
theorem fit_ft (p d : Int) (h : dnQ p d ≤ upQ p d) : fitS (dnQ p d) (upQ p d) = if ftQ p d then (dnQ p d, upQ p d, 0) else (0, 0, 4) := by
  unfold fitS ftQ
  by_cases c : -9223372036854775807 ≤ dnQ p d ∧ upQ p d ≤ 9223372036854775807
  · rw [if_pos (by omega), decide_eq_true c]; rfl
  · rw [if_neg (by omega), decide_eq_false c]; rfl
theorem dn_le (x y d : Int) (hd : d ≠ 0) : dnQ (x * y) d ≤ upQ (x * y) d := by
  obtain ⟨h1, h2⟩ := qu_val x y d hd
  rw [h1, h2]; cases sgQ x y d <;> simp <;> split <;> omega
theorem quotient_any (x y d : Int) (w : World) (h : (-9223372036854775808 ≤ x ∧ x ≤ 9223372036854775807) ∧ (-9223372036854775808 ≤ y ∧ y ≤ 9223372036854775807) ∧ (-9223372036854775808 ≤ d ∧ d ≤ 9223372036854775807)) (hd : d ≠ 0) :
    Calls Tryd.prog 68 #[.int .i64 x, .int .i64 y, .int .i64 d] w fun e w' => e = .returned (.tuple #[.agg #[.int .i64 ((fitS (dnQ (x * y) d) (upQ (x * y) d)).1), .int .i64 ((fitS (dnQ (x * y) d) (upQ (x * y) d)).2.1)], .int .i64 ((fitS (dnQ (x * y) d) (upQ (x * y) d)).2.2)]) ∧ Below w.heap.size w w' := by
  have hp := hid (fit_ft (x * y) d (dn_le x y d hd))
  have rd := round_any x y d
  cases hf : ftQ (x * y) d
  · have hr := hid rd
    clear rd
    go_enter Tryd.func68, Tryd.ntmps68
    go_wp2_with (go_at_call 72; refine use w (w.heap.size + 1) (hr.out _ h hd) (by go_grown) (by go_size) ?_; rintro e w1 rfl hB1 hc1 hf1 hl1 hs1; have hl10 : w.heap.size < w1.heap.size := hl1 _ (by omega))
    all_goals (refine' bodyPost_ret (res_st_t rfl isA_S isS_S rfl ?_ ?_) rfl ?_; rotate_left 2; (· ((try simp only [World.cell?_drew]); first | (with_reducible exact two_0 (by assumption)) | (with_reducible exact two_1 (by assumption)) | (with_reducible exact two_other (two_0 (by assumption)) (by simp)) | (with_reducible exact two_other (two_1 (by assumption)) (by simp)) | (with_reducible exact two_0 (two_other (by assumption) (by simp))) | (with_reducible exact two_1 (two_other (by assumption) (by simp))) | (simp (maxDischargeDepth := 8) [go_sem, hHeld]; rfl) | (simp (maxDischargeDepth := 8) [go_sem, *]; rfl) | (simp (maxDischargeDepth := 8) [go_sem, *]; done))); (· ((try simp only [World.cell?_drew]); first | (with_reducible exact two_0 (by assumption)) | (with_reducible exact two_1 (by assumption)) | (with_reducible exact two_other (two_0 (by assumption)) (by simp)) | (with_reducible exact two_other (two_1 (by assumption)) (by simp)) | (with_reducible exact two_0 (two_other (by assumption) (by simp))) | (with_reducible exact two_1 (two_other (by assumption) (by simp))) | (simp (maxDischargeDepth := 8) [go_sem, hHeld]; rfl) | (simp (maxDischargeDepth := 8) [go_sem, *]; rfl) | (simp (maxDischargeDepth := 8) [go_sem, *]; done))); refine ⟨ret_r ?_, by go_grown⟩; (rw [hp.out, hf]; rfl))
  · have e1 : rdQ (x * y) d = dnQ (x * y) d := by unfold rdQ; rw [hf]; rfl
    have e2 : ruQ (x * y) d = upQ (x * y) d := by unfold ruQ; rw [hf]; rfl
    have hr := hid rd
    clear rd
    go_enter Tryd.func68, Tryd.ntmps68
    go_wp2_with (go_at_call 72; refine use w (w.heap.size + 1) (hr.out _ h hd) (by go_grown) (by go_size) ?_; rintro e w1 rfl hB1 hc1 hf1 hl1 hs1; have hl10 : w.heap.size < w1.heap.size := hl1 _ (by omega))
    all_goals (refine' bodyPost_ret (res_st_t rfl isA_S isS_S rfl ?_ ?_) rfl ?_; rotate_left 2; (· ((try simp only [World.cell?_drew]); first | (with_reducible exact two_0 (by assumption)) | (with_reducible exact two_1 (by assumption)) | (with_reducible exact two_other (two_0 (by assumption)) (by simp)) | (with_reducible exact two_other (two_1 (by assumption)) (by simp)) | (with_reducible exact two_0 (two_other (by assumption) (by simp))) | (with_reducible exact two_1 (two_other (by assumption) (by simp))) | (simp (maxDischargeDepth := 8) [go_sem, hHeld]; rfl) | (simp (maxDischargeDepth := 8) [go_sem, *]; rfl) | (simp (maxDischargeDepth := 8) [go_sem, *]; done))); (· ((try simp only [World.cell?_drew]); first | (with_reducible exact two_0 (by assumption)) | (with_reducible exact two_1 (by assumption)) | (with_reducible exact two_other (two_0 (by assumption)) (by simp)) | (with_reducible exact two_other (two_1 (by assumption)) (by simp)) | (with_reducible exact two_0 (two_other (by assumption) (by simp))) | (with_reducible exact two_1 (two_other (by assumption) (by simp))) | (simp (maxDischargeDepth := 8) [go_sem, hHeld]; rfl) | (simp (maxDischargeDepth := 8) [go_sem, *]; rfl) | (simp (maxDischargeDepth := 8) [go_sem, *]; done))); refine ⟨ret_r ?_, by go_grown⟩; (rw [hp.out, hf]; rfl))
end Go.Proofs.YtjleflfncijnpaaDoor
