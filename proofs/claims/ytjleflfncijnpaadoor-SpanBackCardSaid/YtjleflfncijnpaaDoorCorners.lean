/- The corners of two spans under an operation, that each of Scale, Mul, Div hands over. -/
import Derived.Test.YtjleflfncijnpaaDoorRows
import Derived.Test.YtjleflfncijnpaaDoorBase
import Derived.Test.YtjleflfncijnpaaDoorFacts
import Derived.Test.YtjleflfncijnpaaDoorTwo
import Derived.Deep.RegionHeld3
import Derived.Deep.RegionWith
import Derived.Deep.QuietTactic
import Derived.BigQuiet
import Derived.Test.YtjleflfncijnpaaDoorRound
import Derived.Test.YtjleflfncijnpaaDoorAsks
import Derived.Test.YtjleflfncijnpaaDoorSeq
import Derived.Test.YtjleflfncijnpaaDoorScaleM
set_option linter.unusedVariables false
set_option linter.unusedSimpArgs false
set_option maxHeartbeats 4000000
set_option maxRecDepth 100000
namespace Go.Proofs.YtjleflfncijnpaaDoor
open Go Go.RowKit
theorem init4 {a0 a1 b0 b1 c0 c1 d0 d1 : Value} {s t u v : TypeId} (w : World) {w1 : World} (hk : ∀ b o x, ((((w.alloc (.cells #[a0, a1] s)).alloc (.cells #[b0, b1] t)).alloc (.cells #[c0, c1] u)).alloc (.cells #[d0, d1] v)).cell? ⟨b, o, none⟩ = some x → w1.cell? ⟨b, o, none⟩ = some x)
    (hf : ∀ b o x, ((((w.alloc (.cells #[a0, a1] s)).alloc (.cells #[b0, b1] t)).alloc (.cells #[c0, c1] u)).alloc (.cells #[d0, d1] v)).cell? ⟨b, o, none⟩ = some x → ((((w.alloc (.cells #[a0, a1] s)).alloc (.cells #[b0, b1] t)).alloc (.cells #[c0, c1] u)).alloc (.cells #[d0, d1] v)).frozen? ⟨b, o, none⟩ = false → w1.frozen? ⟨b, o, none⟩ = false) :
    w1.cell? ⟨w.heap.size, 0, none⟩ = some a0 ∧ w1.cell? ⟨w.heap.size, 1, none⟩ = some a1 ∧ w1.cell? ⟨w.heap.size + 1, 0, none⟩ = some b0 ∧ w1.cell? ⟨w.heap.size + 1, 1, none⟩ = some b1 ∧ w1.cell? ⟨w.heap.size + 1 + 1, 0, none⟩ = some c0 ∧ w1.cell? ⟨w.heap.size + 1 + 1, 1, none⟩ = some c1 ∧
    w1.cell? ⟨w.heap.size + 1 + 1 + 1, 0, none⟩ = some d0 ∧ w1.cell? ⟨w.heap.size + 1 + 1 + 1, 1, none⟩ = some d1 ∧ w1.frozen? ⟨w.heap.size + 1 + 1, 0, none⟩ = false ∧ w1.frozen? ⟨w.heap.size + 1 + 1, 1, none⟩ = false ∧ w1.frozen? ⟨w.heap.size + 1 + 1 + 1, 0, none⟩ = false ∧ w1.frozen? ⟨w.heap.size + 1 + 1 + 1, 1, none⟩ = false :=
  ⟨hk _ _ _ (by simp [go_sem]), hk _ _ _ (by simp [go_sem]), hk _ _ _ (by simp [go_sem]), hk _ _ _ (by simp [go_sem]), hk _ _ _ (by simp [go_sem]), hk _ _ _ (by simp [go_sem]), hk _ _ _ (by simp [go_sem]), hk _ _ _ (by simp [go_sem]),
    hf _ _ c0 (by simp [go_sem]) (by simp [go_sem]), hf _ _ c1 (by simp [go_sem]) (by simp [go_sem]), hf _ _ d0 (by simp [go_sem]) (by simp [go_sem]), hf _ _ d1 (by simp [go_sem]) (by simp [go_sem])⟩

theorem op_Mul (x y : Int) (w : World) (h : (-9223372036854775808 ≤ x ∧ x ≤ 9223372036854775807) ∧ (-9223372036854775808 ≤ y ∧ y ≤ 9223372036854775807)) :
    Calls Tryd.prog 84 #[.int .i64 x, .int .i64 y] w fun e w' => e = .returned (.tuple #[.int .i64 (rdQ (x * y) 4294967296), .int .i64 (ruQ (x * y) 4294967296), .bool (ftQ (x * y) 4294967296)]) ∧ Below w.heap.size w w' := by
  obtain ⟨⟨a1, a2⟩, b1, b2⟩ := h
  have hr := hid (fun W => round_any x y 4294967296 W ⟨⟨a1, a2⟩, ⟨b1, b2⟩, by omega⟩ (by omega))
  go_enter Tryd.func84, Tryd.ntmps84
  go_wp2_with (go_at_call 72; refine use w (w.heap.size) (hr.out _) (by go_grown) (by go_size) ?_; rintro e w1 rfl hB1 hc1 hf1 hl1 hs1)
  all_goals (go_ret3; exact ⟨rfl, by go_grown⟩)
theorem corners_Mul (al ah bl bh : Int) (w : World) (h : (-9223372036854775808 ≤ al ∧ al ≤ 9223372036854775807) ∧ (-9223372036854775808 ≤ ah ∧ ah ≤ 9223372036854775807) ∧ (-9223372036854775808 ≤ bl ∧ bl ≤ 9223372036854775807) ∧ (-9223372036854775808 ≤ bh ∧ bh ≤ 9223372036854775807)) :
    Calls Tryd.prog 70 #[.agg #[.int .i64 al, .int .i64 ah], .agg #[.int .i64 bl, .int .i64 bh], .func (.func 84) #[] #[]] w fun e w' => e = .returned (.tuple #[.agg #[.int .i64 ((cornS (fun x y => rdQ (x * y) 4294967296) (fun x y => ruQ (x * y) 4294967296) (fun x y => ftQ (x * y) 4294967296) al ah bl bh).1), .int .i64 ((cornS (fun x y => rdQ (x * y) 4294967296) (fun x y => ruQ (x * y) 4294967296) (fun x y => ftQ (x * y) 4294967296) al ah bl bh).2.1)], .int .i64 ((cornS (fun x y => rdQ (x * y) 4294967296) (fun x y => ruQ (x * y) 4294967296) (fun x y => ftQ (x * y) 4294967296) al ah bl bh).2.2)]) ∧ Below w.heap.size w w' := by
  obtain ⟨⟨a1, a2⟩, ⟨b1, b2⟩, ⟨c1, c2⟩, d1, d2⟩ := h
  have r0 := fun (w : World) (x0 x1 : Value) => (show (Instr.index 121 (.agg #[x0, x1]) (.int .i64 0)).run Tryd.prog w = .ok x0 w by kernel_rfl)
  have r1 := fun (w : World) (x0 x1 : Value) => (show (Instr.index 121 (.agg #[x0, x1]) (.int .i64 1)).run Tryd.prog w = .ok x1 w by kernel_rfl)
  go_enter Tryd.func70, Tryd.ntmps70
  go_wp2_with fail
  repeat ((first | rw [rounds_succ] | (with_reducible refine wp_loop_rounds 3 ?_; rw [rounds_succ])); go_wp2_with fail)
  refine useF w (op_Mul _ _ _ (by omega)) (by go_grown) ?_; rintro e w1 rfl hB1 hk1 hf1 hs1
  obtain ⟨p0, p1, p2, p3, z0, z1, o0, o1, fz0, fz1, fo0, fo1⟩ := init4 w hk1 hf1
  clear hk1 hf1
  by_cases f1 : ftQ (al * bl) 4294967296 = true
  rotate_left
  · have hp := hid (show cornS (fun x y => rdQ (x * y) 4294967296) (fun x y => ruQ (x * y) 4294967296) (fun x y => ftQ (x * y) 4294967296) al ah bl bh = (0, 0, 4) from if_neg (fun h => f1 h.1))
    have g1 : ftQ (al * bl) 4294967296 = false := by simpa using f1
    clear f1
    go_wp2_with fail
    all_goals (refine' bodyPost_ret (res_st_t rfl isA_S isS_S rfl ?_ ?_) rfl ?_; rotate_left 2; (· ((try simp only [World.cell?_drew]); first | (with_reducible exact two_0 (by assumption)) | (with_reducible exact two_1 (by assumption)) | (with_reducible exact two_other (two_0 (by assumption)) (by simp)) | (with_reducible exact two_other (two_1 (by assumption)) (by simp)) | (with_reducible exact two_0 (two_other (by assumption) (by simp))) | (with_reducible exact two_1 (two_other (by assumption) (by simp))) | (simp (maxDischargeDepth := 8) [go_sem, hHeld]; rfl) | (simp (maxDischargeDepth := 8) [go_sem, *]; rfl) | (simp (maxDischargeDepth := 8) [go_sem, *]; done))); (· ((try simp only [World.cell?_drew]); first | (with_reducible exact two_0 (by assumption)) | (with_reducible exact two_1 (by assumption)) | (with_reducible exact two_other (two_0 (by assumption)) (by simp)) | (with_reducible exact two_other (two_1 (by assumption)) (by simp)) | (with_reducible exact two_0 (two_other (by assumption) (by simp))) | (with_reducible exact two_1 (two_other (by assumption) (by simp))) | (simp (maxDischargeDepth := 8) [go_sem, hHeld]; rfl) | (simp (maxDischargeDepth := 8) [go_sem, *]; rfl) | (simp (maxDischargeDepth := 8) [go_sem, *]; done))); refine ⟨ret_r ?_, by go_grown⟩; (exact hp.out.symm))
  go_wp2_with fail
  repeat ((first | rw [rounds_succ] | (with_reducible refine wp_loop_rounds 3 ?_; rw [rounds_succ])); go_wp2_with fail)
  refine useF w (op_Mul _ _ _ (by omega)) (by go_grown) ?_; rintro e w2 rfl hB2 hk2 hf2 hs2
  have p0n := hk2 _ _ _ (two_other p0 (by omega))
  have p1n := hk2 _ _ _ (two_other p1 (by omega))
  have p2n := hk2 _ _ _ (two_other p2 (by omega))
  have p3n := hk2 _ _ _ (two_other p3 (by omega))
  have z0n := hk2 _ _ _ (two_other z0 (by omega))
  have z1n := hk2 _ _ _ (two_other z1 (by omega))
  have fz0n := hf2 _ _ _ (two_other z0 (by omega)) (two_fz fz0)
  have fz1n := hf2 _ _ _ (two_other z1 (by omega)) (two_fz fz1)
  obtain ⟨m1, hm1, o0n, fo0n⟩ : ∃ m : Int, Hid (m = min 9223372036854775807 (rdQ (al * bl) 4294967296)) ∧ w2.cell? ⟨w.heap.size + 1 + 1 + 1, 0, none⟩ = some (.int .i64 m) ∧ w2.frozen? ⟨w.heap.size + 1 + 1 + 1, 0, none⟩ = false := ⟨_, hid rfl, hk2 _ _ _ (two_0 o0), hf2 _ _ _ (two_0 o0) (two_fz fo0)⟩
  obtain ⟨n1, hn1, o1n, fo1n⟩ : ∃ m : Int, Hid (m = max (-9223372036854775807) (ruQ (al * bl) 4294967296)) ∧ w2.cell? ⟨w.heap.size + 1 + 1 + 1, 1, none⟩ = some (.int .i64 m) ∧ w2.frozen? ⟨w.heap.size + 1 + 1 + 1, 1, none⟩ = false := ⟨_, hid rfl, hk2 _ _ _ (two_1 o1), hf2 _ _ _ (two_1 o1) (two_fz fo1)⟩
  clear p0 p1 p2 p3 z0 z1 o0 o1 fz0 fz1 fo0 fo1
  have p0 := p0n; clear p0n
  have p1 := p1n; clear p1n
  have p2 := p2n; clear p2n
  have p3 := p3n; clear p3n
  have z0 := z0n; clear z0n
  have z1 := z1n; clear z1n
  have o0 := o0n; clear o0n
  have o1 := o1n; clear o1n
  have fz0 := fz0n; clear fz0n
  have fz1 := fz1n; clear fz1n
  have fo0 := fo0n; clear fo0n
  have fo1 := fo1n; clear fo1n
  clear hk2 hf2
  by_cases f2 : ftQ (al * bh) 4294967296 = true
  rotate_left
  · have hp := hid (show cornS (fun x y => rdQ (x * y) 4294967296) (fun x y => ruQ (x * y) 4294967296) (fun x y => ftQ (x * y) 4294967296) al ah bl bh = (0, 0, 4) from if_neg (fun h => f2 h.2.1))
    have g2 : ftQ (al * bh) 4294967296 = false := by simpa using f2
    clear f2
    go_wp2_with fail
    all_goals (refine' bodyPost_ret (res_st_t rfl isA_S isS_S rfl ?_ ?_) rfl ?_; rotate_left 2; (· ((try simp only [World.cell?_drew]); first | (with_reducible exact two_0 (by assumption)) | (with_reducible exact two_1 (by assumption)) | (with_reducible exact two_other (two_0 (by assumption)) (by simp)) | (with_reducible exact two_other (two_1 (by assumption)) (by simp)) | (with_reducible exact two_0 (two_other (by assumption) (by simp))) | (with_reducible exact two_1 (two_other (by assumption) (by simp))) | (simp (maxDischargeDepth := 8) [go_sem, hHeld]; rfl) | (simp (maxDischargeDepth := 8) [go_sem, *]; rfl) | (simp (maxDischargeDepth := 8) [go_sem, *]; done))); (· ((try simp only [World.cell?_drew]); first | (with_reducible exact two_0 (by assumption)) | (with_reducible exact two_1 (by assumption)) | (with_reducible exact two_other (two_0 (by assumption)) (by simp)) | (with_reducible exact two_other (two_1 (by assumption)) (by simp)) | (with_reducible exact two_0 (two_other (by assumption) (by simp))) | (with_reducible exact two_1 (two_other (by assumption) (by simp))) | (simp (maxDischargeDepth := 8) [go_sem, hHeld]; rfl) | (simp (maxDischargeDepth := 8) [go_sem, *]; rfl) | (simp (maxDischargeDepth := 8) [go_sem, *]; done))); refine ⟨ret_r ?_, by go_grown⟩; (exact hp.out.symm))
  go_wp2_with fail
  repeat ((first | rw [rounds_succ] | (with_reducible refine wp_loop_rounds 3 ?_; rw [rounds_succ])); go_wp2_with fail)
  refine useF w (op_Mul _ _ _ (by omega)) (by go_grown) ?_; rintro e w3 rfl hB3 hk3 hf3 hs3
  have p0n := hk3 _ _ _ (two_other p0 (by omega))
  have p1n := hk3 _ _ _ (two_other p1 (by omega))
  have p2n := hk3 _ _ _ (two_other p2 (by omega))
  have p3n := hk3 _ _ _ (two_other p3 (by omega))
  have z0n := hk3 _ _ _ (two_other z0 (by omega))
  have z1n := hk3 _ _ _ (two_other z1 (by omega))
  have fz0n := hf3 _ _ _ (two_other z0 (by omega)) (two_fz fz0)
  have fz1n := hf3 _ _ _ (two_other z1 (by omega)) (two_fz fz1)
  obtain ⟨m2, hm2, o0n, fo0n⟩ : ∃ m : Int, Hid (m = min m1 (rdQ (al * bh) 4294967296)) ∧ w3.cell? ⟨w.heap.size + 1 + 1 + 1, 0, none⟩ = some (.int .i64 m) ∧ w3.frozen? ⟨w.heap.size + 1 + 1 + 1, 0, none⟩ = false := ⟨_, hid rfl, hk3 _ _ _ (two_0 o0), hf3 _ _ _ (two_0 o0) (two_fz fo0)⟩
  obtain ⟨n2, hn2, o1n, fo1n⟩ : ∃ m : Int, Hid (m = max n1 (ruQ (al * bh) 4294967296)) ∧ w3.cell? ⟨w.heap.size + 1 + 1 + 1, 1, none⟩ = some (.int .i64 m) ∧ w3.frozen? ⟨w.heap.size + 1 + 1 + 1, 1, none⟩ = false := ⟨_, hid rfl, hk3 _ _ _ (two_1 o1), hf3 _ _ _ (two_1 o1) (two_fz fo1)⟩
  clear p0 p1 p2 p3 z0 z1 o0 o1 fz0 fz1 fo0 fo1
  have p0 := p0n; clear p0n
  have p1 := p1n; clear p1n
  have p2 := p2n; clear p2n
  have p3 := p3n; clear p3n
  have z0 := z0n; clear z0n
  have z1 := z1n; clear z1n
  have o0 := o0n; clear o0n
  have o1 := o1n; clear o1n
  have fz0 := fz0n; clear fz0n
  have fz1 := fz1n; clear fz1n
  have fo0 := fo0n; clear fo0n
  have fo1 := fo1n; clear fo1n
  clear hk3 hf3
  by_cases f3 : ftQ (ah * bl) 4294967296 = true
  rotate_left
  · have hp := hid (show cornS (fun x y => rdQ (x * y) 4294967296) (fun x y => ruQ (x * y) 4294967296) (fun x y => ftQ (x * y) 4294967296) al ah bl bh = (0, 0, 4) from if_neg (fun h => f3 h.2.2.1))
    have g3 : ftQ (ah * bl) 4294967296 = false := by simpa using f3
    clear f3
    go_wp2_with fail
    all_goals (refine' bodyPost_ret (res_st_t rfl isA_S isS_S rfl ?_ ?_) rfl ?_; rotate_left 2; (· ((try simp only [World.cell?_drew]); first | (with_reducible exact two_0 (by assumption)) | (with_reducible exact two_1 (by assumption)) | (with_reducible exact two_other (two_0 (by assumption)) (by simp)) | (with_reducible exact two_other (two_1 (by assumption)) (by simp)) | (with_reducible exact two_0 (two_other (by assumption) (by simp))) | (with_reducible exact two_1 (two_other (by assumption) (by simp))) | (simp (maxDischargeDepth := 8) [go_sem, hHeld]; rfl) | (simp (maxDischargeDepth := 8) [go_sem, *]; rfl) | (simp (maxDischargeDepth := 8) [go_sem, *]; done))); (· ((try simp only [World.cell?_drew]); first | (with_reducible exact two_0 (by assumption)) | (with_reducible exact two_1 (by assumption)) | (with_reducible exact two_other (two_0 (by assumption)) (by simp)) | (with_reducible exact two_other (two_1 (by assumption)) (by simp)) | (with_reducible exact two_0 (two_other (by assumption) (by simp))) | (with_reducible exact two_1 (two_other (by assumption) (by simp))) | (simp (maxDischargeDepth := 8) [go_sem, hHeld]; rfl) | (simp (maxDischargeDepth := 8) [go_sem, *]; rfl) | (simp (maxDischargeDepth := 8) [go_sem, *]; done))); refine ⟨ret_r ?_, by go_grown⟩; (exact hp.out.symm))
  go_wp2_with fail
  repeat ((first | rw [rounds_succ] | (with_reducible refine wp_loop_rounds 3 ?_; rw [rounds_succ])); go_wp2_with fail)
  refine useF w (op_Mul _ _ _ (by omega)) (by go_grown) ?_; rintro e w4 rfl hB4 hk4 hf4 hs4
  have p0n := hk4 _ _ _ (two_other p0 (by omega))
  have p1n := hk4 _ _ _ (two_other p1 (by omega))
  have p2n := hk4 _ _ _ (two_other p2 (by omega))
  have p3n := hk4 _ _ _ (two_other p3 (by omega))
  have z0n := hk4 _ _ _ (two_other z0 (by omega))
  have z1n := hk4 _ _ _ (two_other z1 (by omega))
  have fz0n := hf4 _ _ _ (two_other z0 (by omega)) (two_fz fz0)
  have fz1n := hf4 _ _ _ (two_other z1 (by omega)) (two_fz fz1)
  obtain ⟨m3, hm3, o0n, fo0n⟩ : ∃ m : Int, Hid (m = min m2 (rdQ (ah * bl) 4294967296)) ∧ w4.cell? ⟨w.heap.size + 1 + 1 + 1, 0, none⟩ = some (.int .i64 m) ∧ w4.frozen? ⟨w.heap.size + 1 + 1 + 1, 0, none⟩ = false := ⟨_, hid rfl, hk4 _ _ _ (two_0 o0), hf4 _ _ _ (two_0 o0) (two_fz fo0)⟩
  obtain ⟨n3, hn3, o1n, fo1n⟩ : ∃ m : Int, Hid (m = max n2 (ruQ (ah * bl) 4294967296)) ∧ w4.cell? ⟨w.heap.size + 1 + 1 + 1, 1, none⟩ = some (.int .i64 m) ∧ w4.frozen? ⟨w.heap.size + 1 + 1 + 1, 1, none⟩ = false := ⟨_, hid rfl, hk4 _ _ _ (two_1 o1), hf4 _ _ _ (two_1 o1) (two_fz fo1)⟩
  clear p0 p1 p2 p3 z0 z1 o0 o1 fz0 fz1 fo0 fo1
  have p0 := p0n; clear p0n
  have p1 := p1n; clear p1n
  have p2 := p2n; clear p2n
  have p3 := p3n; clear p3n
  have z0 := z0n; clear z0n
  have z1 := z1n; clear z1n
  have o0 := o0n; clear o0n
  have o1 := o1n; clear o1n
  have fz0 := fz0n; clear fz0n
  have fz1 := fz1n; clear fz1n
  have fo0 := fo0n; clear fo0n
  have fo1 := fo1n; clear fo1n
  clear hk4 hf4
  by_cases f4 : ftQ (ah * bh) 4294967296 = true
  rotate_left
  · have hp := hid (show cornS (fun x y => rdQ (x * y) 4294967296) (fun x y => ruQ (x * y) 4294967296) (fun x y => ftQ (x * y) 4294967296) al ah bl bh = (0, 0, 4) from if_neg (fun h => f4 h.2.2.2))
    have g4 : ftQ (ah * bh) 4294967296 = false := by simpa using f4
    clear f4
    go_wp2_with fail
    all_goals (refine' bodyPost_ret (res_st_t rfl isA_S isS_S rfl ?_ ?_) rfl ?_; rotate_left 2; (· ((try simp only [World.cell?_drew]); first | (with_reducible exact two_0 (by assumption)) | (with_reducible exact two_1 (by assumption)) | (with_reducible exact two_other (two_0 (by assumption)) (by simp)) | (with_reducible exact two_other (two_1 (by assumption)) (by simp)) | (with_reducible exact two_0 (two_other (by assumption) (by simp))) | (with_reducible exact two_1 (two_other (by assumption) (by simp))) | (simp (maxDischargeDepth := 8) [go_sem, hHeld]; rfl) | (simp (maxDischargeDepth := 8) [go_sem, *]; rfl) | (simp (maxDischargeDepth := 8) [go_sem, *]; done))); (· ((try simp only [World.cell?_drew]); first | (with_reducible exact two_0 (by assumption)) | (with_reducible exact two_1 (by assumption)) | (with_reducible exact two_other (two_0 (by assumption)) (by simp)) | (with_reducible exact two_other (two_1 (by assumption)) (by simp)) | (with_reducible exact two_0 (two_other (by assumption) (by simp))) | (with_reducible exact two_1 (two_other (by assumption) (by simp))) | (simp (maxDischargeDepth := 8) [go_sem, hHeld]; rfl) | (simp (maxDischargeDepth := 8) [go_sem, *]; rfl) | (simp (maxDischargeDepth := 8) [go_sem, *]; done))); refine ⟨ret_r ?_, by go_grown⟩; (exact hp.out.symm))
  go_wp2_with fail
  repeat ((first | rw [rounds_succ] | (with_reducible refine wp_loop_rounds 3 ?_; rw [rounds_succ])); go_wp2_with fail)
  have hp := hid (show cornS (fun x y => rdQ (x * y) 4294967296) (fun x y => ruQ (x * y) 4294967296) (fun x y => ftQ (x * y) 4294967296) al ah bl bh = _ from if_pos ⟨f1, f2, f3, f4⟩)
  all_goals (refine' bodyPost_ret (res_st_t rfl isA_S isS_S rfl ?_ ?_) rfl ?_; rotate_left 2; (· ((try simp only [World.cell?_drew]); first | (with_reducible exact two_0 (by assumption)) | (with_reducible exact two_1 (by assumption)) | (with_reducible exact two_other (two_0 (by assumption)) (by simp)) | (with_reducible exact two_other (two_1 (by assumption)) (by simp)) | (with_reducible exact two_0 (two_other (by assumption) (by simp))) | (with_reducible exact two_1 (two_other (by assumption) (by simp))) | (simp (maxDischargeDepth := 8) [go_sem, hHeld]; rfl) | (simp (maxDischargeDepth := 8) [go_sem, *]; rfl) | (simp (maxDischargeDepth := 8) [go_sem, *]; done))); (· ((try simp only [World.cell?_drew]); first | (with_reducible exact two_0 (by assumption)) | (with_reducible exact two_1 (by assumption)) | (with_reducible exact two_other (two_0 (by assumption)) (by simp)) | (with_reducible exact two_other (two_1 (by assumption)) (by simp)) | (with_reducible exact two_0 (two_other (by assumption) (by simp))) | (with_reducible exact two_1 (two_other (by assumption) (by simp))) | (simp (maxDischargeDepth := 8) [go_sem, hHeld]; rfl) | (simp (maxDischargeDepth := 8) [go_sem, *]; rfl) | (simp (maxDischargeDepth := 8) [go_sem, *]; done))); refine ⟨ret_r ?_, by go_grown⟩; (have h1 := hm1.out; have h2 := hm2.out; have h3 := hm3.out; have g1 := hn1.out; have g2 := hn2.out; have g3 := hn3.out; subst h1 h2 h3 g1 g2 g3; exact hp.out.symm))
theorem op_Div (x y : Int) (w : World) (h : (-9223372036854775808 ≤ x ∧ x ≤ 9223372036854775807) ∧ (-9223372036854775808 ≤ y ∧ y ≤ 9223372036854775807)) (hd : y ≠ 0) :
    Calls Tryd.prog 71 #[.int .i64 x, .int .i64 y] w fun e w' => e = .returned (.tuple #[.int .i64 (rdQ (x * 4294967296) y), .int .i64 (ruQ (x * 4294967296) y), .bool (ftQ (x * 4294967296) y)]) ∧ Below w.heap.size w w' := by
  obtain ⟨⟨a1, a2⟩, b1, b2⟩ := h
  have hr := hid (fun W => round_any x 4294967296 y W ⟨⟨a1, a2⟩, by omega, ⟨b1, b2⟩⟩ hd)
  go_enter Tryd.func71, Tryd.ntmps71
  go_wp2_with (go_at_call 72; refine use w (w.heap.size) (hr.out _) (by go_grown) (by go_size) ?_; rintro e w1 rfl hB1 hc1 hf1 hl1 hs1)
  all_goals (go_ret3; exact ⟨rfl, by go_grown⟩)
theorem corners_Div (al ah bl bh : Int) (w : World) (h : (-9223372036854775808 ≤ al ∧ al ≤ 9223372036854775807) ∧ (-9223372036854775808 ≤ ah ∧ ah ≤ 9223372036854775807) ∧ (-9223372036854775808 ≤ bl ∧ bl ≤ 9223372036854775807) ∧ (-9223372036854775808 ≤ bh ∧ bh ≤ 9223372036854775807)) (hl : bl ≠ 0) (hh : bh ≠ 0) :
    Calls Tryd.prog 70 #[.agg #[.int .i64 al, .int .i64 ah], .agg #[.int .i64 bl, .int .i64 bh], .func (.func 71) #[] #[]] w fun e w' => e = .returned (.tuple #[.agg #[.int .i64 ((cornS (fun x y => rdQ (x * 4294967296) y) (fun x y => ruQ (x * 4294967296) y) (fun x y => ftQ (x * 4294967296) y) al ah bl bh).1), .int .i64 ((cornS (fun x y => rdQ (x * 4294967296) y) (fun x y => ruQ (x * 4294967296) y) (fun x y => ftQ (x * 4294967296) y) al ah bl bh).2.1)], .int .i64 ((cornS (fun x y => rdQ (x * 4294967296) y) (fun x y => ruQ (x * 4294967296) y) (fun x y => ftQ (x * 4294967296) y) al ah bl bh).2.2)]) ∧ Below w.heap.size w w' := by
  obtain ⟨⟨a1, a2⟩, ⟨b1, b2⟩, ⟨c1, c2⟩, d1, d2⟩ := h
  have r0 := fun (w : World) (x0 x1 : Value) => (show (Instr.index 121 (.agg #[x0, x1]) (.int .i64 0)).run Tryd.prog w = .ok x0 w by kernel_rfl)
  have r1 := fun (w : World) (x0 x1 : Value) => (show (Instr.index 121 (.agg #[x0, x1]) (.int .i64 1)).run Tryd.prog w = .ok x1 w by kernel_rfl)
  go_enter Tryd.func70, Tryd.ntmps70
  go_wp2_with fail
  repeat ((first | rw [rounds_succ] | (with_reducible refine wp_loop_rounds 3 ?_; rw [rounds_succ])); go_wp2_with fail)
  refine useF w (op_Div _ _ _ (by omega) hl) (by go_grown) ?_; rintro e w1 rfl hB1 hk1 hf1 hs1
  obtain ⟨p0, p1, p2, p3, z0, z1, o0, o1, fz0, fz1, fo0, fo1⟩ := init4 w hk1 hf1
  clear hk1 hf1
  by_cases f1 : ftQ (al * 4294967296) bl = true
  rotate_left
  · have hp := hid (show cornS (fun x y => rdQ (x * 4294967296) y) (fun x y => ruQ (x * 4294967296) y) (fun x y => ftQ (x * 4294967296) y) al ah bl bh = (0, 0, 4) from if_neg (fun h => f1 h.1))
    have g1 : ftQ (al * 4294967296) bl = false := by simpa using f1
    clear f1
    go_wp2_with fail
    all_goals (refine' bodyPost_ret (res_st_t rfl isA_S isS_S rfl ?_ ?_) rfl ?_; rotate_left 2; (· ((try simp only [World.cell?_drew]); first | (with_reducible exact two_0 (by assumption)) | (with_reducible exact two_1 (by assumption)) | (with_reducible exact two_other (two_0 (by assumption)) (by simp)) | (with_reducible exact two_other (two_1 (by assumption)) (by simp)) | (with_reducible exact two_0 (two_other (by assumption) (by simp))) | (with_reducible exact two_1 (two_other (by assumption) (by simp))) | (simp (maxDischargeDepth := 8) [go_sem, hHeld]; rfl) | (simp (maxDischargeDepth := 8) [go_sem, *]; rfl) | (simp (maxDischargeDepth := 8) [go_sem, *]; done))); (· ((try simp only [World.cell?_drew]); first | (with_reducible exact two_0 (by assumption)) | (with_reducible exact two_1 (by assumption)) | (with_reducible exact two_other (two_0 (by assumption)) (by simp)) | (with_reducible exact two_other (two_1 (by assumption)) (by simp)) | (with_reducible exact two_0 (two_other (by assumption) (by simp))) | (with_reducible exact two_1 (two_other (by assumption) (by simp))) | (simp (maxDischargeDepth := 8) [go_sem, hHeld]; rfl) | (simp (maxDischargeDepth := 8) [go_sem, *]; rfl) | (simp (maxDischargeDepth := 8) [go_sem, *]; done))); refine ⟨ret_r ?_, by go_grown⟩; (exact hp.out.symm))
  go_wp2_with fail
  repeat ((first | rw [rounds_succ] | (with_reducible refine wp_loop_rounds 3 ?_; rw [rounds_succ])); go_wp2_with fail)
  refine useF w (op_Div _ _ _ (by omega) hh) (by go_grown) ?_; rintro e w2 rfl hB2 hk2 hf2 hs2
  have p0n := hk2 _ _ _ (two_other p0 (by omega))
  have p1n := hk2 _ _ _ (two_other p1 (by omega))
  have p2n := hk2 _ _ _ (two_other p2 (by omega))
  have p3n := hk2 _ _ _ (two_other p3 (by omega))
  have z0n := hk2 _ _ _ (two_other z0 (by omega))
  have z1n := hk2 _ _ _ (two_other z1 (by omega))
  have fz0n := hf2 _ _ _ (two_other z0 (by omega)) (two_fz fz0)
  have fz1n := hf2 _ _ _ (two_other z1 (by omega)) (two_fz fz1)
  obtain ⟨m1, hm1, o0n, fo0n⟩ : ∃ m : Int, Hid (m = min 9223372036854775807 (rdQ (al * 4294967296) bl)) ∧ w2.cell? ⟨w.heap.size + 1 + 1 + 1, 0, none⟩ = some (.int .i64 m) ∧ w2.frozen? ⟨w.heap.size + 1 + 1 + 1, 0, none⟩ = false := ⟨_, hid rfl, hk2 _ _ _ (two_0 o0), hf2 _ _ _ (two_0 o0) (two_fz fo0)⟩
  obtain ⟨n1, hn1, o1n, fo1n⟩ : ∃ m : Int, Hid (m = max (-9223372036854775807) (ruQ (al * 4294967296) bl)) ∧ w2.cell? ⟨w.heap.size + 1 + 1 + 1, 1, none⟩ = some (.int .i64 m) ∧ w2.frozen? ⟨w.heap.size + 1 + 1 + 1, 1, none⟩ = false := ⟨_, hid rfl, hk2 _ _ _ (two_1 o1), hf2 _ _ _ (two_1 o1) (two_fz fo1)⟩
  clear p0 p1 p2 p3 z0 z1 o0 o1 fz0 fz1 fo0 fo1
  have p0 := p0n; clear p0n
  have p1 := p1n; clear p1n
  have p2 := p2n; clear p2n
  have p3 := p3n; clear p3n
  have z0 := z0n; clear z0n
  have z1 := z1n; clear z1n
  have o0 := o0n; clear o0n
  have o1 := o1n; clear o1n
  have fz0 := fz0n; clear fz0n
  have fz1 := fz1n; clear fz1n
  have fo0 := fo0n; clear fo0n
  have fo1 := fo1n; clear fo1n
  clear hk2 hf2
  by_cases f2 : ftQ (al * 4294967296) bh = true
  rotate_left
  · have hp := hid (show cornS (fun x y => rdQ (x * 4294967296) y) (fun x y => ruQ (x * 4294967296) y) (fun x y => ftQ (x * 4294967296) y) al ah bl bh = (0, 0, 4) from if_neg (fun h => f2 h.2.1))
    have g2 : ftQ (al * 4294967296) bh = false := by simpa using f2
    clear f2
    go_wp2_with fail
    all_goals (refine' bodyPost_ret (res_st_t rfl isA_S isS_S rfl ?_ ?_) rfl ?_; rotate_left 2; (· ((try simp only [World.cell?_drew]); first | (with_reducible exact two_0 (by assumption)) | (with_reducible exact two_1 (by assumption)) | (with_reducible exact two_other (two_0 (by assumption)) (by simp)) | (with_reducible exact two_other (two_1 (by assumption)) (by simp)) | (with_reducible exact two_0 (two_other (by assumption) (by simp))) | (with_reducible exact two_1 (two_other (by assumption) (by simp))) | (simp (maxDischargeDepth := 8) [go_sem, hHeld]; rfl) | (simp (maxDischargeDepth := 8) [go_sem, *]; rfl) | (simp (maxDischargeDepth := 8) [go_sem, *]; done))); (· ((try simp only [World.cell?_drew]); first | (with_reducible exact two_0 (by assumption)) | (with_reducible exact two_1 (by assumption)) | (with_reducible exact two_other (two_0 (by assumption)) (by simp)) | (with_reducible exact two_other (two_1 (by assumption)) (by simp)) | (with_reducible exact two_0 (two_other (by assumption) (by simp))) | (with_reducible exact two_1 (two_other (by assumption) (by simp))) | (simp (maxDischargeDepth := 8) [go_sem, hHeld]; rfl) | (simp (maxDischargeDepth := 8) [go_sem, *]; rfl) | (simp (maxDischargeDepth := 8) [go_sem, *]; done))); refine ⟨ret_r ?_, by go_grown⟩; (exact hp.out.symm))
  go_wp2_with fail
  repeat ((first | rw [rounds_succ] | (with_reducible refine wp_loop_rounds 3 ?_; rw [rounds_succ])); go_wp2_with fail)
  refine useF w (op_Div _ _ _ (by omega) hl) (by go_grown) ?_; rintro e w3 rfl hB3 hk3 hf3 hs3
  have p0n := hk3 _ _ _ (two_other p0 (by omega))
  have p1n := hk3 _ _ _ (two_other p1 (by omega))
  have p2n := hk3 _ _ _ (two_other p2 (by omega))
  have p3n := hk3 _ _ _ (two_other p3 (by omega))
  have z0n := hk3 _ _ _ (two_other z0 (by omega))
  have z1n := hk3 _ _ _ (two_other z1 (by omega))
  have fz0n := hf3 _ _ _ (two_other z0 (by omega)) (two_fz fz0)
  have fz1n := hf3 _ _ _ (two_other z1 (by omega)) (two_fz fz1)
  obtain ⟨m2, hm2, o0n, fo0n⟩ : ∃ m : Int, Hid (m = min m1 (rdQ (al * 4294967296) bh)) ∧ w3.cell? ⟨w.heap.size + 1 + 1 + 1, 0, none⟩ = some (.int .i64 m) ∧ w3.frozen? ⟨w.heap.size + 1 + 1 + 1, 0, none⟩ = false := ⟨_, hid rfl, hk3 _ _ _ (two_0 o0), hf3 _ _ _ (two_0 o0) (two_fz fo0)⟩
  obtain ⟨n2, hn2, o1n, fo1n⟩ : ∃ m : Int, Hid (m = max n1 (ruQ (al * 4294967296) bh)) ∧ w3.cell? ⟨w.heap.size + 1 + 1 + 1, 1, none⟩ = some (.int .i64 m) ∧ w3.frozen? ⟨w.heap.size + 1 + 1 + 1, 1, none⟩ = false := ⟨_, hid rfl, hk3 _ _ _ (two_1 o1), hf3 _ _ _ (two_1 o1) (two_fz fo1)⟩
  clear p0 p1 p2 p3 z0 z1 o0 o1 fz0 fz1 fo0 fo1
  have p0 := p0n; clear p0n
  have p1 := p1n; clear p1n
  have p2 := p2n; clear p2n
  have p3 := p3n; clear p3n
  have z0 := z0n; clear z0n
  have z1 := z1n; clear z1n
  have o0 := o0n; clear o0n
  have o1 := o1n; clear o1n
  have fz0 := fz0n; clear fz0n
  have fz1 := fz1n; clear fz1n
  have fo0 := fo0n; clear fo0n
  have fo1 := fo1n; clear fo1n
  clear hk3 hf3
  by_cases f3 : ftQ (ah * 4294967296) bl = true
  rotate_left
  · have hp := hid (show cornS (fun x y => rdQ (x * 4294967296) y) (fun x y => ruQ (x * 4294967296) y) (fun x y => ftQ (x * 4294967296) y) al ah bl bh = (0, 0, 4) from if_neg (fun h => f3 h.2.2.1))
    have g3 : ftQ (ah * 4294967296) bl = false := by simpa using f3
    clear f3
    go_wp2_with fail
    all_goals (refine' bodyPost_ret (res_st_t rfl isA_S isS_S rfl ?_ ?_) rfl ?_; rotate_left 2; (· ((try simp only [World.cell?_drew]); first | (with_reducible exact two_0 (by assumption)) | (with_reducible exact two_1 (by assumption)) | (with_reducible exact two_other (two_0 (by assumption)) (by simp)) | (with_reducible exact two_other (two_1 (by assumption)) (by simp)) | (with_reducible exact two_0 (two_other (by assumption) (by simp))) | (with_reducible exact two_1 (two_other (by assumption) (by simp))) | (simp (maxDischargeDepth := 8) [go_sem, hHeld]; rfl) | (simp (maxDischargeDepth := 8) [go_sem, *]; rfl) | (simp (maxDischargeDepth := 8) [go_sem, *]; done))); (· ((try simp only [World.cell?_drew]); first | (with_reducible exact two_0 (by assumption)) | (with_reducible exact two_1 (by assumption)) | (with_reducible exact two_other (two_0 (by assumption)) (by simp)) | (with_reducible exact two_other (two_1 (by assumption)) (by simp)) | (with_reducible exact two_0 (two_other (by assumption) (by simp))) | (with_reducible exact two_1 (two_other (by assumption) (by simp))) | (simp (maxDischargeDepth := 8) [go_sem, hHeld]; rfl) | (simp (maxDischargeDepth := 8) [go_sem, *]; rfl) | (simp (maxDischargeDepth := 8) [go_sem, *]; done))); refine ⟨ret_r ?_, by go_grown⟩; (exact hp.out.symm))
  go_wp2_with fail
  repeat ((first | rw [rounds_succ] | (with_reducible refine wp_loop_rounds 3 ?_; rw [rounds_succ])); go_wp2_with fail)
  refine useF w (op_Div _ _ _ (by omega) hh) (by go_grown) ?_; rintro e w4 rfl hB4 hk4 hf4 hs4
  have p0n := hk4 _ _ _ (two_other p0 (by omega))
  have p1n := hk4 _ _ _ (two_other p1 (by omega))
  have p2n := hk4 _ _ _ (two_other p2 (by omega))
  have p3n := hk4 _ _ _ (two_other p3 (by omega))
  have z0n := hk4 _ _ _ (two_other z0 (by omega))
  have z1n := hk4 _ _ _ (two_other z1 (by omega))
  have fz0n := hf4 _ _ _ (two_other z0 (by omega)) (two_fz fz0)
  have fz1n := hf4 _ _ _ (two_other z1 (by omega)) (two_fz fz1)
  obtain ⟨m3, hm3, o0n, fo0n⟩ : ∃ m : Int, Hid (m = min m2 (rdQ (ah * 4294967296) bl)) ∧ w4.cell? ⟨w.heap.size + 1 + 1 + 1, 0, none⟩ = some (.int .i64 m) ∧ w4.frozen? ⟨w.heap.size + 1 + 1 + 1, 0, none⟩ = false := ⟨_, hid rfl, hk4 _ _ _ (two_0 o0), hf4 _ _ _ (two_0 o0) (two_fz fo0)⟩
  obtain ⟨n3, hn3, o1n, fo1n⟩ : ∃ m : Int, Hid (m = max n2 (ruQ (ah * 4294967296) bl)) ∧ w4.cell? ⟨w.heap.size + 1 + 1 + 1, 1, none⟩ = some (.int .i64 m) ∧ w4.frozen? ⟨w.heap.size + 1 + 1 + 1, 1, none⟩ = false := ⟨_, hid rfl, hk4 _ _ _ (two_1 o1), hf4 _ _ _ (two_1 o1) (two_fz fo1)⟩
  clear p0 p1 p2 p3 z0 z1 o0 o1 fz0 fz1 fo0 fo1
  have p0 := p0n; clear p0n
  have p1 := p1n; clear p1n
  have p2 := p2n; clear p2n
  have p3 := p3n; clear p3n
  have z0 := z0n; clear z0n
  have z1 := z1n; clear z1n
  have o0 := o0n; clear o0n
  have o1 := o1n; clear o1n
  have fz0 := fz0n; clear fz0n
  have fz1 := fz1n; clear fz1n
  have fo0 := fo0n; clear fo0n
  have fo1 := fo1n; clear fo1n
  clear hk4 hf4
  by_cases f4 : ftQ (ah * 4294967296) bh = true
  rotate_left
  · have hp := hid (show cornS (fun x y => rdQ (x * 4294967296) y) (fun x y => ruQ (x * 4294967296) y) (fun x y => ftQ (x * 4294967296) y) al ah bl bh = (0, 0, 4) from if_neg (fun h => f4 h.2.2.2))
    have g4 : ftQ (ah * 4294967296) bh = false := by simpa using f4
    clear f4
    go_wp2_with fail
    all_goals (refine' bodyPost_ret (res_st_t rfl isA_S isS_S rfl ?_ ?_) rfl ?_; rotate_left 2; (· ((try simp only [World.cell?_drew]); first | (with_reducible exact two_0 (by assumption)) | (with_reducible exact two_1 (by assumption)) | (with_reducible exact two_other (two_0 (by assumption)) (by simp)) | (with_reducible exact two_other (two_1 (by assumption)) (by simp)) | (with_reducible exact two_0 (two_other (by assumption) (by simp))) | (with_reducible exact two_1 (two_other (by assumption) (by simp))) | (simp (maxDischargeDepth := 8) [go_sem, hHeld]; rfl) | (simp (maxDischargeDepth := 8) [go_sem, *]; rfl) | (simp (maxDischargeDepth := 8) [go_sem, *]; done))); (· ((try simp only [World.cell?_drew]); first | (with_reducible exact two_0 (by assumption)) | (with_reducible exact two_1 (by assumption)) | (with_reducible exact two_other (two_0 (by assumption)) (by simp)) | (with_reducible exact two_other (two_1 (by assumption)) (by simp)) | (with_reducible exact two_0 (two_other (by assumption) (by simp))) | (with_reducible exact two_1 (two_other (by assumption) (by simp))) | (simp (maxDischargeDepth := 8) [go_sem, hHeld]; rfl) | (simp (maxDischargeDepth := 8) [go_sem, *]; rfl) | (simp (maxDischargeDepth := 8) [go_sem, *]; done))); refine ⟨ret_r ?_, by go_grown⟩; (exact hp.out.symm))
  go_wp2_with fail
  repeat ((first | rw [rounds_succ] | (with_reducible refine wp_loop_rounds 3 ?_; rw [rounds_succ])); go_wp2_with fail)
  have hp := hid (show cornS (fun x y => rdQ (x * 4294967296) y) (fun x y => ruQ (x * 4294967296) y) (fun x y => ftQ (x * 4294967296) y) al ah bl bh = _ from if_pos ⟨f1, f2, f3, f4⟩)
  all_goals (refine' bodyPost_ret (res_st_t rfl isA_S isS_S rfl ?_ ?_) rfl ?_; rotate_left 2; (· ((try simp only [World.cell?_drew]); first | (with_reducible exact two_0 (by assumption)) | (with_reducible exact two_1 (by assumption)) | (with_reducible exact two_other (two_0 (by assumption)) (by simp)) | (with_reducible exact two_other (two_1 (by assumption)) (by simp)) | (with_reducible exact two_0 (two_other (by assumption) (by simp))) | (with_reducible exact two_1 (two_other (by assumption) (by simp))) | (simp (maxDischargeDepth := 8) [go_sem, hHeld]; rfl) | (simp (maxDischargeDepth := 8) [go_sem, *]; rfl) | (simp (maxDischargeDepth := 8) [go_sem, *]; done))); (· ((try simp only [World.cell?_drew]); first | (with_reducible exact two_0 (by assumption)) | (with_reducible exact two_1 (by assumption)) | (with_reducible exact two_other (two_0 (by assumption)) (by simp)) | (with_reducible exact two_other (two_1 (by assumption)) (by simp)) | (with_reducible exact two_0 (two_other (by assumption) (by simp))) | (with_reducible exact two_1 (two_other (by assumption) (by simp))) | (simp (maxDischargeDepth := 8) [go_sem, hHeld]; rfl) | (simp (maxDischargeDepth := 8) [go_sem, *]; rfl) | (simp (maxDischargeDepth := 8) [go_sem, *]; done))); refine ⟨ret_r ?_, by go_grown⟩; (have h1 := hm1.out; have h2 := hm2.out; have h3 := hm3.out; have g1 := hn1.out; have g2 := hn2.out; have g3 := hn3.out; subst h1 h2 h3 g1 g2 g3; exact hp.out.symm))
end Go.Proofs.YtjleflfncijnpaaDoor
