/- Integers of 128 bits of package span, and a quotient of two of them that is at most 2^32, rounded down and up. -/
import Derived.Laws.Externs
import Derived.Shelf.Spec.BitsCarry
import Derived.Deep.DeepCutAuto
import Derived.Test.YtjleflfncijnpaaDoorRows
import Derived.Test.YtjleflfncijnpaaDoorBase
import Derived.Test.YtjleflfncijnpaaDoorFacts
import Derived.Test.YtjleflfncijnpaaDoorTwo
import Derived.Deep.RegionHeld3
import Derived.Deep.RegionWith
import Derived.Deep.QuietTactic
import Derived.BigQuiet
import Derived.Test.YtjleflfncijnpaaDoorW
import Derived.Test.YtjleflfncijnpaaDoorAsks
import Derived.Test.YtjleflfncijnpaaDoorOut
import Derived.Test.YtjleflfncijnpaaDoorSeq
import Derived.Test.YtjleflfncijnpaaDoorTwo
import Derived.Test.YtjleflfncijnpaaDoorQuo
import Derived.Test.YtjleflfncijnpaaDoorRound
import Derived.Test.YtjleflfncijnpaaDoorScaleM
import Derived.Test.YtjleflfncijnpaaDoorRootM
import Derived.Test.YtjleflfncijnpaaDoorRootS
import Derived.Test.YtjleflfncijnpaaDoorTurnM
set_option linter.unusedVariables false
set_option linter.unusedSimpArgs false
set_option maxHeartbeats 4000000
set_option maxRecDepth 100000
namespace Go.Proofs.YtjleflfncijnpaaDoor
open Go Go.RowKit
theorem add64_run (x y c : Int) (w : World) (h : 0 ≤ x ∧ 0 ≤ y ∧ 0 ≤ c ∧ c ≤ 1) :
    (callFunc 116 #[.int .u64 x, .int .u64 y, .int .u64 c]).run Tryd.prog w = .ok (.value (.tuple #[.int .u64 ((x + y + c) % 18446744073709551616), .int .u64 ((x + y + c) / 18446744073709551616)])) w := by
  rw [run_callFunc_extern Tryd.func116 (by kernel_rfl) (by kernel_rfl) (by kernel_rfl) (e := add64Entry) (by kernel_rfl), run_add64 x y c h.1 h.2.1 h.2.2.1 h.2.2.2]
  rfl
theorem sub64_run (x y b : Int) (w : World) (h : (0 ≤ x ∧ x ≤ 18446744073709551615) ∧ (0 ≤ y ∧ y ≤ 18446744073709551615)) (hb : 0 ≤ b ∧ b ≤ 1) :
    (callFunc 115 #[.int .u64 x, .int .u64 y, .int .u64 b]).run Tryd.prog w = .ok (.value (.tuple #[.int .u64 ((x + 18446744073709551616 - y - b) % 18446744073709551616), .int .u64 (if x < y + b then 1 else 0)])) w := by
  obtain ⟨x, rfl⟩ := Int.eq_ofNat_of_zero_le h.1.1
  obtain ⟨y, rfl⟩ := Int.eq_ofNat_of_zero_le h.2.1
  obtain ⟨b, rfl⟩ := Int.eq_ofNat_of_zero_le hb.1
  rw [run_callFunc_extern Tryd.func115 (by kernel_rfl) (by kernel_rfl) (by kernel_rfl) (e := sub64Entry) (by kernel_rfl), run_sub64 x y b (by omega)]
  have e1 : (((x + 18446744073709551616 - y - b) % 18446744073709551616 : Nat) : Int) = ((x : Int) + 18446744073709551616 - y - b) % 18446744073709551616 := by omega
  have e2 : ((if x < y + b then 1 else 0 : Nat) : Int) = if (x : Int) < y + b then 1 else 0 := by split <;> split <;> omega
  rw [e1, e2]
  rfl
theorem vplus_any (a b : Int) (w : World) (h : (0 ≤ a ∧ 0 ≤ b) ∧ a + b < 340282366920938463463374607431768211456) :
    Calls Tryd.prog 103 #[.agg #[.int .u64 (a / 18446744073709551616), .int .u64 (a % 18446744073709551616)], .agg #[.int .u64 (b / 18446744073709551616), .int .u64 (b % 18446744073709551616)]] w fun e w' => e = .returned (.agg #[.int .u64 ((a + b) / 18446744073709551616), .int .u64 ((a + b) % 18446744073709551616)]) ∧ Below w.heap.size w w' := by
  have e1 := fun W => add64_run (a % 18446744073709551616) (b % 18446744073709551616) 0 W (by omega)
  simp only [Int.add_zero] at e1
  have e1 := hid e1
  have e2 := hid (fun W => add64_run (a / 18446744073709551616) (b / 18446744073709551616) ((a % 18446744073709551616 + b % 18446744073709551616) / 18446744073709551616) W (by omega))
  have h := hid h
  go_enter Tryd.func103, Tryd.ntmps103
  go_wp2_with (first | simp only [e1.out] | simp only [e2.out])
  all_goals (have h := h.out)
  all_goals (refine' bodyPost_ret (res_st rfl isA_v isS_v rfl ?_ ?_) rfl ?_; rotate_left 2; (· ((try simp only [World.cell?_drew]); first | (with_reducible exact two_0 (by assumption)) | (with_reducible exact two_1 (by assumption)) | (with_reducible exact two_other (two_0 (by assumption)) (by simp)) | (with_reducible exact two_other (two_1 (by assumption)) (by simp)) | (with_reducible exact two_0 (two_other (by assumption) (by simp))) | (with_reducible exact two_1 (two_other (by assumption) (by simp))) | (simp (maxDischargeDepth := 8) [go_sem, hHeld]; rfl) | (simp (maxDischargeDepth := 8) [go_sem, *]; rfl) | (simp (maxDischargeDepth := 8) [go_sem, *]; done))); (· ((try simp only [World.cell?_drew]); first | (with_reducible exact two_0 (by assumption)) | (with_reducible exact two_1 (by assumption)) | (with_reducible exact two_other (two_0 (by assumption)) (by simp)) | (with_reducible exact two_other (two_1 (by assumption)) (by simp)) | (with_reducible exact two_0 (two_other (by assumption) (by simp))) | (with_reducible exact two_1 (two_other (by assumption) (by simp))) | (simp (maxDischargeDepth := 8) [go_sem, hHeld]; rfl) | (simp (maxDischargeDepth := 8) [go_sem, *]; rfl) | (simp (maxDischargeDepth := 8) [go_sem, *]; done))); refine ⟨ret_v ?_ ?_, by go_grown⟩ <;> (omega))
theorem vminus_any (a b : Int) (w : World) (h : 0 ≤ b ∧ b ≤ a ∧ a < 340282366920938463463374607431768211456) :
    Calls Tryd.prog 101 #[.agg #[.int .u64 (a / 18446744073709551616), .int .u64 (a % 18446744073709551616)], .agg #[.int .u64 (b / 18446744073709551616), .int .u64 (b % 18446744073709551616)]] w fun e w' => e = .returned (.agg #[.int .u64 ((a - b) / 18446744073709551616), .int .u64 ((a - b) % 18446744073709551616)]) ∧ Below w.heap.size w w' := by
  have e1 := fun W => sub64_run (a % 18446744073709551616) (b % 18446744073709551616) 0 W (by omega) (by omega)
  by_cases c : a % 18446744073709551616 < b % 18446744073709551616
  · have e2 := fun W => sub64_run (a / 18446744073709551616) (b / 18446744073709551616) 1 W (by omega) (by omega)
    simp only [if_pos (show a % 18446744073709551616 < b % 18446744073709551616 + 0 by omega)] at e1
    simp only [if_neg (show ¬ a / 18446744073709551616 < b / 18446744073709551616 + 1 by omega)] at e2
    have e1 := hid e1
    have e2 := hid e2
    have h := hid (And.intro h c)
    clear c
    go_enter Tryd.func101, Tryd.ntmps101
    go_wp2_with (first | simp only [e1.out] | simp only [e2.out])
    all_goals (have h := h.out)
    all_goals (refine' bodyPost_ret (res_st rfl isA_v isS_v rfl ?_ ?_) rfl ?_; rotate_left 2; (· ((try simp only [World.cell?_drew]); first | (with_reducible exact two_0 (by assumption)) | (with_reducible exact two_1 (by assumption)) | (with_reducible exact two_other (two_0 (by assumption)) (by simp)) | (with_reducible exact two_other (two_1 (by assumption)) (by simp)) | (with_reducible exact two_0 (two_other (by assumption) (by simp))) | (with_reducible exact two_1 (two_other (by assumption) (by simp))) | (simp (maxDischargeDepth := 8) [go_sem, hHeld]; rfl) | (simp (maxDischargeDepth := 8) [go_sem, *]; rfl) | (simp (maxDischargeDepth := 8) [go_sem, *]; done))); (· ((try simp only [World.cell?_drew]); first | (with_reducible exact two_0 (by assumption)) | (with_reducible exact two_1 (by assumption)) | (with_reducible exact two_other (two_0 (by assumption)) (by simp)) | (with_reducible exact two_other (two_1 (by assumption)) (by simp)) | (with_reducible exact two_0 (two_other (by assumption) (by simp))) | (with_reducible exact two_1 (two_other (by assumption) (by simp))) | (simp (maxDischargeDepth := 8) [go_sem, hHeld]; rfl) | (simp (maxDischargeDepth := 8) [go_sem, *]; rfl) | (simp (maxDischargeDepth := 8) [go_sem, *]; done))); refine ⟨ret_v ?_ ?_, by go_grown⟩ <;> (omega))
  · have e2 := fun W => sub64_run (a / 18446744073709551616) (b / 18446744073709551616) 0 W (by omega) (by omega)
    simp only [if_neg (show ¬ a % 18446744073709551616 < b % 18446744073709551616 + 0 by omega)] at e1
    simp only [if_neg (show ¬ a / 18446744073709551616 < b / 18446744073709551616 + 0 by omega)] at e2
    have e1 := hid e1
    have e2 := hid e2
    have h := hid (And.intro h c)
    clear c
    go_enter Tryd.func101, Tryd.ntmps101
    go_wp2_with (first | simp only [e1.out] | simp only [e2.out])
    all_goals (have h := h.out)
    all_goals (refine' bodyPost_ret (res_st rfl isA_v isS_v rfl ?_ ?_) rfl ?_; rotate_left 2; (· ((try simp only [World.cell?_drew]); first | (with_reducible exact two_0 (by assumption)) | (with_reducible exact two_1 (by assumption)) | (with_reducible exact two_other (two_0 (by assumption)) (by simp)) | (with_reducible exact two_other (two_1 (by assumption)) (by simp)) | (with_reducible exact two_0 (two_other (by assumption) (by simp))) | (with_reducible exact two_1 (two_other (by assumption) (by simp))) | (simp (maxDischargeDepth := 8) [go_sem, hHeld]; rfl) | (simp (maxDischargeDepth := 8) [go_sem, *]; rfl) | (simp (maxDischargeDepth := 8) [go_sem, *]; done))); (· ((try simp only [World.cell?_drew]); first | (with_reducible exact two_0 (by assumption)) | (with_reducible exact two_1 (by assumption)) | (with_reducible exact two_other (two_0 (by assumption)) (by simp)) | (with_reducible exact two_other (two_1 (by assumption)) (by simp)) | (with_reducible exact two_0 (two_other (by assumption) (by simp))) | (with_reducible exact two_1 (two_other (by assumption) (by simp))) | (simp (maxDischargeDepth := 8) [go_sem, hHeld]; rfl) | (simp (maxDischargeDepth := 8) [go_sem, *]; rfl) | (simp (maxDischargeDepth := 8) [go_sem, *]; done))); refine ⟨ret_v ?_ ?_, by go_grown⟩ <;> (omega))
theorem vtimes_any (a n : Int) (w : World) (h : 0 ≤ a ∧ a < 340282366920938463463374607431768211456) (hn : 0 ≤ n ∧ n ≤ 18446744073709551615) (hb : a * n < 340282366920938463463374607431768211456) :
    Calls Tryd.prog 102 #[.agg #[.int .u64 (a / 18446744073709551616), .int .u64 (a % 18446744073709551616)], .int .u64 n] w fun e w' => e = .returned (.agg #[.int .u64 (a * n / 18446744073709551616), .int .u64 (a * n % 18446744073709551616)]) ∧ Below w.heap.size w w' := by
  have hm := hid (fun W => mul64_any (a % 18446744073709551616) n W (by omega))
  have key : a * n = a / 18446744073709551616 * n * 18446744073709551616 + a % 18446744073709551616 * n := by
    have e : a = a / 18446744073709551616 * 18446744073709551616 + a % 18446744073709551616 := by omega
    rw [Int.mul_right_comm, ← Int.add_mul, ← e]
  have k0 : 0 ≤ a / 18446744073709551616 * n := Int.mul_nonneg (by omega) hn.1
  have k1 : 0 ≤ a % 18446744073709551616 * n := Int.mul_nonneg (by omega) hn.1
  have ky := hid (⟨key, k0, k1, hb⟩ : a * n = a / 18446744073709551616 * n * 18446744073709551616 + a % 18446744073709551616 * n ∧ 0 ≤ a / 18446744073709551616 * n ∧ 0 ≤ a % 18446744073709551616 * n ∧ a * n < 340282366920938463463374607431768211456)
  clear key k0 k1 hb
  go_enter Tryd.func102, Tryd.ntmps102
  go_wp2_with (go_at_call 93; refine use w (w.heap.size + 1 + 1) (hm.out _) (by go_grown) (by go_size) ?_; rintro e w1 rfl hB1 hc1 hf1 hl1 hs1; have hl10 : w.heap.size < w1.heap.size := hl1 _ (by omega); have hl11 : w.heap.size + 1 < w1.heap.size := hl1 _ (by omega))
  have ky := ky.out
  all_goals (refine' bodyPost_ret (res_st rfl isA_v isS_v rfl ?_ ?_) rfl ?_; rotate_left 2; (· ((try simp only [World.cell?_drew]); first | (with_reducible exact two_0 (by assumption)) | (with_reducible exact two_1 (by assumption)) | (with_reducible exact two_other (two_0 (by assumption)) (by simp)) | (with_reducible exact two_other (two_1 (by assumption)) (by simp)) | (with_reducible exact two_0 (two_other (by assumption) (by simp))) | (with_reducible exact two_1 (two_other (by assumption) (by simp))) | (simp (maxDischargeDepth := 8) [go_sem, hHeld]; rfl) | (simp (maxDischargeDepth := 8) [go_sem, *]; rfl) | (simp (maxDischargeDepth := 8) [go_sem, *]; done))); (· ((try simp only [World.cell?_drew]); first | (with_reducible exact two_0 (by assumption)) | (with_reducible exact two_1 (by assumption)) | (with_reducible exact two_other (two_0 (by assumption)) (by simp)) | (with_reducible exact two_other (two_1 (by assumption)) (by simp)) | (with_reducible exact two_0 (two_other (by assumption) (by simp))) | (with_reducible exact two_1 (two_other (by assumption) (by simp))) | (simp (maxDischargeDepth := 8) [go_sem, hHeld]; rfl) | (simp (maxDischargeDepth := 8) [go_sem, *]; rfl) | (simp (maxDischargeDepth := 8) [go_sem, *]; done))); refine ⟨ret_v ?_ ?_, by go_grown⟩ <;> (((try simp only [IntKind.wrap_u64]); omega)))
/-- The divisor and what is divided, captured. -/
def C4 (bb ba : Nat) (B A : Int) (w : World) : Prop := (fun w' => w'.cell? ⟨bb, 0, none⟩ = some (.int .u64 (B / 18446744073709551616)) ∧ w'.cell? ⟨bb, 1, none⟩ = some (.int .u64 (B % 18446744073709551616)) ∧ w'.cell? ⟨ba, 0, none⟩ = some (.int .u64 (A / 18446744073709551616)) ∧ w'.cell? ⟨ba, 1, none⟩ = some (.int .u64 (A % 18446744073709551616))) w
theorem holds2_any (n A B : Int) (bb ba : Nat) (w : World) (hc : C4 bb ba B A w) (h : 0 ≤ n ∧ n ≤ 4294967296) (hB : 0 ≤ B ∧ B ≤ 36893488147419103232) (hA : 0 ≤ A ∧ A < 340282366920938463463374607431768211456) :
    Calls Tryd.prog 114 #[.int .u64 n, .pointer (some ⟨bb, 0, none⟩), .pointer (some ⟨ba, 0, none⟩)] w fun e w' => e = .returned (.bool (mlB A B n)) ∧ Below w.heap.size w w' := by
  have hm := mul_bd hB h
  simp only [Int.reduceMul] at hm
  have hb : mlB A B n = !decide (A < B * n) := by
    unfold mlB
    by_cases c : B * n ≤ A
    · rw [decide_eq_true c, decide_eq_false (by omega)]; rfl
    · rw [decide_eq_false c, decide_eq_true (by omega)]; rfl
  have hb := hid hb
  have ha := hid (fun W => above_w (B * n) A W (by omega))
  have hp := hid (fun W => vtimes_any B n W (by omega) (by omega) (by omega))
  obtain ⟨h0, h1⟩ := h
  obtain ⟨c0, c1, c2, c3⟩ := hc
  clear hm hA hB
  go_enter Tryd.func114, Tryd.ntmps114
  go_wp2_with fail
  refine wp_region_held_drew (S := (fun w' => w'.cell? ⟨bb, 0, none⟩ = some (.int .u64 (B / 18446744073709551616)) ∧ w'.cell? ⟨bb, 1, none⟩ = some (.int .u64 (B % 18446744073709551616)) ∧ w'.cell? ⟨ba, 0, none⟩ = some (.int .u64 (A / 18446744073709551616)) ∧ w'.cell? ⟨ba, 1, none⟩ = some (.int .u64 (A % 18446744073709551616)))) (by kernel_rfl) (by (try dsimp only); (first | (exact ⟨hk1 _ _ _ (hOld.1), hk1 _ _ _ (hOld.2.1), hk1 _ _ _ (hOld.2.2.1), hk1 _ _ _ (hOld.2.2.2)⟩) | ((try simp only [World.cell?_drew, World.frozen?_drew]); (repeat' apply And.intro) <;> (first | (with_reducible assumption) | (with_reducible exact ⟨_, by assumption⟩) | (with_reducible exact ⟨_, two_other (by assumption) (by omega)⟩) | (with_reducible exact two_0 (by assumption)) | (with_reducible exact two_1 (by assumption)) | (with_reducible exact two_other (by assumption) (by omega)) | (with_reducible exact two_fz (by assumption)) | (with_reducible exact keepA _ (by assumption)) | (with_reducible exact keepA _ (keepA _ (keepA _ (by assumption)))) | (simp (maxDischargeDepth := 8) [*, go_sem, World.cell?_alloc_some, World.cell?_setCell_far]; done))) | (go_keep; done) | (simp (maxDischargeDepth := 8) [*, go_sem, World.cell?_alloc_some, World.cell?_setCell_far]; done))) (fun hHeld => ?_)
  (refine wpAnyH_take (i := 0) (oi := ⟨some 5, _, _, _, _, none⟩) (v := ?_) rfl (by kernel_rfl) (by kernel_rfl) (by kernel_rfl) (fun _ _ _ h => h) (Or.inl ⟨by rfl, ?_⟩) hHeld ?_; rotate_left; (· (intro w9 hSw; (try dsimp only at hSw); go_simp; (try with_reducible rfl))))
  (try simp only [Act.put, List.setIfInBounds_toArray, List.set_cons_zero, List.set_cons_succ])
  (refine wpAnyH_take (i := 1) (oi := ⟨some 6, _, _, _, _, none⟩) (v := ?_) rfl (by kernel_rfl) (by kernel_rfl) (by kernel_rfl) (fun _ _ _ h => h) (Or.inl ⟨by rfl, ?_⟩) hHeld ?_; rotate_left; (· (intro w9 hSw; (try dsimp only at hSw); go_simp; (try with_reducible rfl))))
  (try simp only [Act.put, List.setIfInBounds_toArray, List.set_cons_zero, List.set_cons_succ])
  (refine wpAnyH_take (i := 3) (oi := ⟨some 8, _, _, _, _, none⟩) (v := ?_) rfl (by kernel_rfl) (by kernel_rfl) (by kernel_rfl) (fun _ _ _ h => h) (Or.inl ⟨by rfl, ?_⟩) hHeld ?_; rotate_left; (· (intro w9 hSw; (try dsimp only at hSw); go_simp; (try with_reducible rfl))))
  (try simp only [Act.put, List.setIfInBounds_toArray, List.set_cons_zero, List.set_cons_succ])
  (refine wpAnyH_ready (rs := [2]) (by kernel_rfl) (by simp) ?_; refine AllReadyH.cons (o := ⟨some 7, _, _, _, _, none⟩) rfl (fun K hK => ?_) AllReadyH.nil; go_simp; (first | (go_at_call 102; refine useF w (hp.out _) (by go_grown) ?_; rintro e w1 rfl hB1 hk1 hf1 hs1; have hz1 := hB1.size) | (go_at_call 98; refine useF w (ha.out _) (by go_grown) ?_; rintro e w1 rfl hB1 hk1 hf1 hs1; have hz1 := hB1.size)); have hOld := hHeld; clear hHeld; refine hK.out _ _ ?_ (fun hHeld => ?_); (· ((try dsimp only); (first | (exact ⟨hk1 _ _ _ (hOld.1), hk1 _ _ _ (hOld.2.1), hk1 _ _ _ (hOld.2.2.1), hk1 _ _ _ (hOld.2.2.2)⟩) | ((try simp only [World.cell?_drew, World.frozen?_drew]); (repeat' apply And.intro) <;> (first | (with_reducible assumption) | (with_reducible exact ⟨_, by assumption⟩) | (with_reducible exact ⟨_, two_other (by assumption) (by omega)⟩) | (with_reducible exact two_0 (by assumption)) | (with_reducible exact two_1 (by assumption)) | (with_reducible exact two_other (by assumption) (by omega)) | (with_reducible exact two_fz (by assumption)) | (with_reducible exact keepA _ (by assumption)) | (with_reducible exact keepA _ (keepA _ (keepA _ (by assumption)))) | (simp (maxDischargeDepth := 8) [*, go_sem, World.cell?_alloc_some, World.cell?_setCell_far]; done))) | (go_keep; done) | (simp (maxDischargeDepth := 8) [*, go_sem, World.cell?_alloc_some, World.cell?_setCell_far]; done)))); clear hK K hOld; (try clear hc1 hf1); (try clear hk1 hf1))
  (try simp only [Act.put, List.setIfInBounds_toArray, List.set_cons_zero, List.set_cons_succ])
  (refine wpAnyH_ready (rs := [4]) (by kernel_rfl) (by simp) ?_; refine AllReadyH.cons (o := ⟨some 9, _, _, _, _, none⟩) rfl (fun K hK => ?_) AllReadyH.nil; go_simp; (first | (go_at_call 102; refine useF w (hp.out _) (by go_grown) ?_; rintro e w1 rfl hB1 hk1 hf1 hs1; have hz1 := hB1.size) | (go_at_call 98; refine useF w (ha.out _) (by go_grown) ?_; rintro e w1 rfl hB1 hk1 hf1 hs1; have hz1 := hB1.size)); have hOld := hHeld; clear hHeld; refine hK.out _ _ ?_ (fun hHeld => ?_); (· ((try dsimp only); (first | (exact ⟨hk1 _ _ _ (hOld.1), hk1 _ _ _ (hOld.2.1), hk1 _ _ _ (hOld.2.2.1), hk1 _ _ _ (hOld.2.2.2)⟩) | ((try simp only [World.cell?_drew, World.frozen?_drew]); (repeat' apply And.intro) <;> (first | (with_reducible assumption) | (with_reducible exact ⟨_, by assumption⟩) | (with_reducible exact ⟨_, two_other (by assumption) (by omega)⟩) | (with_reducible exact two_0 (by assumption)) | (with_reducible exact two_1 (by assumption)) | (with_reducible exact two_other (by assumption) (by omega)) | (with_reducible exact two_fz (by assumption)) | (with_reducible exact keepA _ (by assumption)) | (with_reducible exact keepA _ (keepA _ (keepA _ (by assumption)))) | (simp (maxDischargeDepth := 8) [*, go_sem, World.cell?_alloc_some, World.cell?_setCell_far]; done))) | (go_keep; done) | (simp (maxDischargeDepth := 8) [*, go_sem, World.cell?_alloc_some, World.cell?_setCell_far]; done)))); clear hK K hOld; (try clear hc1 hf1); (try clear hk1 hf1))
  (try simp only [Act.put, List.setIfInBounds_toArray, List.set_cons_zero, List.set_cons_succ])
  (refine wpAnyH_take (i := 5) (oi := ⟨some 10, _, _, _, _, none⟩) (v := ?_) rfl (by kernel_rfl) (by kernel_rfl) (by kernel_rfl) (fun _ _ _ h => h) (Or.inl ⟨by rfl, ?_⟩) hHeld ?_; rotate_left; (· (intro w9 hSw; (try dsimp only at hSw); go_simp; (try with_reducible rfl))))
  (try simp only [Act.put, List.setIfInBounds_toArray, List.set_cons_zero, List.set_cons_succ])
  (refine wpAnyH_take (i := 6) (oi := ⟨some 4, _, _, _, _, none⟩) (v := ?_) rfl (by kernel_rfl) (by kernel_rfl) (by kernel_rfl) (fun _ _ _ h => h) (Or.inl ⟨by rfl, ?_⟩) hHeld ?_; rotate_left; (· (intro w9 hSw; (try dsimp only at hSw); go_simp; (try with_reducible rfl))))
  (try simp only [Act.put, List.setIfInBounds_toArray, List.set_cons_zero, List.set_cons_succ])
  refine wpAnyH_done (by kernel_rfl) ?_ _
  go_wp2_with fail
  all_goals (go_ret; exact ⟨ret_bool (by (try simp only [Array.getD_eq_getD_getElem?, List.getElem?_toArray, List.getElem?_cons_succ, List.getElem?_cons_zero, Option.getD_some]) <;> (rw [hb.out])), by go_grown⟩)
theorem greatest2_any (A B : Int) (bb ba : Nat) (w : World) (hc : C4 bb ba B A w) (hB : 0 < B ∧ B ≤ 36893488147419103232) (hA : 0 ≤ A ∧ A < 340282366920938463463374607431768211456) (hr : A / B ≤ 4294967296) :
    Calls Tryd.prog 96 #[.int .u64 4294967296, .func (.func 114) #[] #[.pointer (some ⟨bb, 0, none⟩), .pointer (some ⟨ba, 0, none⟩)]] w fun e w' => e = .returned (.int .u64 (A / B)) ∧ Below w.heap.size w w' := by
  have hr0 : 0 ≤ A / B := Int.ediv_nonneg hA.1 (by omega)
  have hS := hid (⟨hB, hA⟩ : (0 < B ∧ B ≤ 36893488147419103232) ∧ 0 ≤ A ∧ A < 340282366920938463463374607431768211456)
  have hiff := hid (fun n => mlB_iff (A := A) (n := n) hB.1)
  clear hB hA
  generalize A / B = R at *
  go_enter Tryd.func96, Tryd.ntmps96
  go_wp2_with fail
  go_loopw [5, 6] (fun lo hi wx => ∃ l h : Int, lo = .int .u64 l ∧ hi = .int .u64 h ∧ 0 ≤ l ∧ l ≤ R ∧ R ≤ h ∧ h ≤ 4294967296 ∧ C4 bb ba B A wx ∧ Below w.heap.size w wx) (fun lo hi _ => (intOf hi - intOf lo).toNat)
  case atStart => exact ⟨0, _, rfl, rfl, by omega, hr0, hr, by omega, hc, by go_grown⟩
  case round =>
    obtain ⟨l, h, rfl, rfl, l0, l1, h0, h1, hc, hB⟩ := hrel
    by_cases c : l < h
    · have hif := hid (hiff.out (h - (h - l) / 2))
      have hh := hid (fun W g => holds2_any (h - (h - l) / 2) A B bb ba W g (by omega) (by have := hS.out; omega) hS.out.2)
      obtain ⟨c0, c1, c2, c3⟩ := hc
      clear hiff
      cases hb : mlB A B (h - (h - l) / 2)
      · have g := hid (show ¬ h - (h - l) / 2 ≤ R from fun k => by rw [hif.out.2 k] at hb; cases hb)
        clear hif
        go_wp2_with fail
        refine useF w (hh.out _ ⟨c0, c1, c2, c3⟩) (by go_grown) ?_; rintro e w1 rfl hB1 hk1 hf1 hs1
        replace c0 := hk1 _ _ _ c0
        replace c1 := hk1 _ _ _ c1
        replace c2 := hk1 _ _ _ c2
        replace c3 := hk1 _ _ _ c3
        clear hk1 hf1 hs1 hh
        go_wp2_with fail
        go_roundw
        case rel => have := g.out; exact ⟨l, _, rfl, rfl, l0, l1, by omega, by omega, ⟨c0, c1, c2, c3⟩, by assumption⟩
        case measure => have := g.out; simp [intOf]; omega
      · have g := hid (hif.out.1 hb)
        clear hif
        go_wp2_with fail
        refine useF w (hh.out _ ⟨c0, c1, c2, c3⟩) (by go_grown) ?_; rintro e w1 rfl hB1 hk1 hf1 hs1
        replace c0 := hk1 _ _ _ c0
        replace c1 := hk1 _ _ _ c1
        replace c2 := hk1 _ _ _ c2
        replace c3 := hk1 _ _ _ c3
        clear hk1 hf1 hs1 hh
        go_wp2_with fail
        go_roundw
        case rel => have := g.out; exact ⟨_, h, rfl, rfl, by omega, by omega, h0, h1, ⟨c0, c1, c2, c3⟩, by assumption⟩
        case measure => have := g.out; simp [intOf]; omega
    · have e : l = R := by omega
      subst e
      go_wp2_with fail
      go_ret
      exact ⟨rfl, by go_grown⟩
theorem share_any (A B : Int) (w : World) (hB : 0 < B ∧ B ≤ 36893488147419103232) (hA : 0 ≤ A ∧ A ≤ B * 4294967296) :
    Calls Tryd.prog 100 #[.agg #[.int .u64 (A / 18446744073709551616), .int .u64 (A % 18446744073709551616)], .agg #[.int .u64 (B / 18446744073709551616), .int .u64 (B % 18446744073709551616)]] w fun e w' => e = .returned (.tuple #[.int .i64 (A / B), .int .i64 (cdQ A B)]) ∧ Below w.heap.size w w' := by
  have hr : A / B ≤ 4294967296 := ediv_le' hB.1 (by rw [Int.mul_comm]; exact hA.2)
  have hr0 : 0 ≤ A / B := Int.ediv_nonneg hA.1 (by omega)
  have hA2 : 0 ≤ A ∧ A < 340282366920938463463374607431768211456 := by omega
  have hg := hid (fun bb ba W g => greatest2_any A B bb ba W g hB hA2 hr)
  have hm := mul_bd (x := B) (y := A / B) (a := 36893488147419103232) (b := 4294967296) ⟨by omega, hB.2⟩ ⟨hr0, hr⟩
  simp only [Int.reduceMul] at hm
  have ht := hid (fun W => vtimes_any B (A / B) W (by omega) (by omega) (by omega))
  have hcd := cdQ_eq A B hB.1
  clear hm hA hB
  by_cases c : B * (A / B) = A
  · rw [if_pos c] at hcd
    have c := hid c
    have hcd := hid hcd
    generalize A / B = R at *
    go_enter Tryd.func100, Tryd.ntmps100
    go_wp2_with fail
    refine useF w (hg.out _ _ _ ⟨by simp [go_sem], by simp [go_sem], by simp [go_sem], by simp [go_sem]⟩) (by go_grown) ?_; rintro e w2 rfl hB2 hk2 hf2 hs2
    have a0 := hk2 w.heap.size 0 (.int .u64 (A / 18446744073709551616)) (by simp [go_sem])
    have a1 := hk2 w.heap.size 1 (.int .u64 (A % 18446744073709551616)) (by simp [go_sem])
    have b0 := hk2 (w.heap.size + 1) 0 (.int .u64 (B / 18446744073709551616)) (by simp [go_sem])
    have b1 := hk2 (w.heap.size + 1) 1 (.int .u64 (B % 18446744073709551616)) (by simp [go_sem])
    clear hk2 hf2 hg
    rw [c.out] at ht
    go_wp2_with fail
    refine wp_region_held_drew (S := (fun w' => w'.cell? ⟨w.heap.size, 0, none⟩ = some (.int .u64 (A / 18446744073709551616)) ∧ w'.cell? ⟨w.heap.size, 1, none⟩ = some (.int .u64 (A % 18446744073709551616)) ∧ w'.cell? ⟨w.heap.size + 1, 0, none⟩ = some (.int .u64 (B / 18446744073709551616)) ∧ w'.cell? ⟨w.heap.size + 1, 1, none⟩ = some (.int .u64 (B % 18446744073709551616)))) (by kernel_rfl) (by (try dsimp only); (first | (exact ⟨hk1 _ _ _ (hOld.1), hk1 _ _ _ (hOld.2.1), hk1 _ _ _ (hOld.2.2.1), hk1 _ _ _ (hOld.2.2.2)⟩) | ((try simp only [World.cell?_drew, World.frozen?_drew]); (repeat' apply And.intro) <;> (first | (with_reducible assumption) | (with_reducible exact ⟨_, by assumption⟩) | (with_reducible exact ⟨_, two_other (by assumption) (by omega)⟩) | (with_reducible exact two_0 (by assumption)) | (with_reducible exact two_1 (by assumption)) | (with_reducible exact two_other (by assumption) (by omega)) | (with_reducible exact two_fz (by assumption)) | (with_reducible exact keepA _ (by assumption)) | (with_reducible exact keepA _ (keepA _ (keepA _ (by assumption)))) | (simp (maxDischargeDepth := 8) [*, go_sem, World.cell?_alloc_some, World.cell?_setCell_far]; done))) | (go_keep; done) | (simp (maxDischargeDepth := 8) [*, go_sem, World.cell?_alloc_some, World.cell?_setCell_far]; done))) (fun hHeld => ?_)
    (refine wpAnyH_take (i := 0) (oi := ⟨some 13, _, _, _, _, none⟩) (v := ?_) rfl (by kernel_rfl) (by kernel_rfl) (by kernel_rfl) (fun _ _ _ h => h) (Or.inl ⟨by rfl, ?_⟩) hHeld ?_; rotate_left; (· (intro w9 hSw; (try dsimp only at hSw); go_simp; (try with_reducible rfl))))
    (try simp only [Act.put, List.setIfInBounds_toArray, List.set_cons_zero, List.set_cons_succ])
    (refine wpAnyH_take (i := 1) (oi := ⟨some 14, _, _, _, _, none⟩) (v := ?_) rfl (by kernel_rfl) (by kernel_rfl) (by kernel_rfl) (fun _ _ _ h => h) (Or.inl ⟨by rfl, ?_⟩) hHeld ?_; rotate_left; (· (intro w9 hSw; (try dsimp only at hSw); go_simp; (try with_reducible rfl))))
    (try simp only [Act.put, List.setIfInBounds_toArray, List.set_cons_zero, List.set_cons_succ])
    (refine wpAnyH_take (i := 3) (oi := ⟨some 16, _, _, _, _, none⟩) (v := ?_) rfl (by kernel_rfl) (by kernel_rfl) (by kernel_rfl) (fun _ _ _ h => h) (Or.inl ⟨by rfl, ?_⟩) hHeld ?_; rotate_left; (· (intro w9 hSw; (try dsimp only at hSw); go_simp; (try with_reducible rfl))))
    (try simp only [Act.put, List.setIfInBounds_toArray, List.set_cons_zero, List.set_cons_succ])
    (refine wpAnyH_ready (rs := [2]) (by kernel_rfl) (by simp) ?_; refine AllReadyH.cons (o := ⟨some 15, _, _, _, _, none⟩) rfl (fun K hK => ?_) AllReadyH.nil; go_simp; (first | (go_at_call 102; refine useF w (ht.out _) (by go_grown) ?_; rintro e w1 rfl hB1 hk1 hf1 hs1; have hz1 := hB1.size)); have hOld := hHeld; clear hHeld; refine hK.out _ _ ?_ (fun hHeld => ?_); (· ((try dsimp only); (first | (exact ⟨hk1 _ _ _ (hOld.1), hk1 _ _ _ (hOld.2.1), hk1 _ _ _ (hOld.2.2.1), hk1 _ _ _ (hOld.2.2.2)⟩) | ((try simp only [World.cell?_drew, World.frozen?_drew]); (repeat' apply And.intro) <;> (first | (with_reducible assumption) | (with_reducible exact ⟨_, by assumption⟩) | (with_reducible exact ⟨_, two_other (by assumption) (by omega)⟩) | (with_reducible exact two_0 (by assumption)) | (with_reducible exact two_1 (by assumption)) | (with_reducible exact two_other (by assumption) (by omega)) | (with_reducible exact two_fz (by assumption)) | (with_reducible exact keepA _ (by assumption)) | (with_reducible exact keepA _ (keepA _ (keepA _ (by assumption)))) | (simp (maxDischargeDepth := 8) [*, go_sem, World.cell?_alloc_some, World.cell?_setCell_far]; done))) | (go_keep; done) | (simp (maxDischargeDepth := 8) [*, go_sem, World.cell?_alloc_some, World.cell?_setCell_far]; done)))); clear hK K hOld; (try clear hc1 hf1); (try clear hk1 hf1))
    (try simp only [Act.put, List.setIfInBounds_toArray, List.set_cons_zero, List.set_cons_succ])
    (refine wpAnyH_take (i := 4) (oi := ⟨some 17, _, _, _, _, none⟩) (v := ?_) rfl (by kernel_rfl) (by kernel_rfl) (by kernel_rfl) (fun _ _ _ h => h) (Or.inl ⟨by rfl, ?_⟩) hHeld ?_; rotate_left; (· (intro w9 hSw; (try dsimp only at hSw); go_simp; (try with_reducible rfl))))
    (try simp only [Act.put, List.setIfInBounds_toArray, List.set_cons_zero, List.set_cons_succ])
    refine wpAnyH_done (by kernel_rfl) ?_ _
    go_wp2_with fail
    go_ret2
    exact ⟨by rw [hcd.out]; rfl, by go_grown⟩
  · rw [if_neg c] at hcd
    have hcd := hid hcd
    have hd : ¬ B * (A / B) / 18446744073709551616 = A / 18446744073709551616 ∨ (B * (A / B) / 18446744073709551616 = A / 18446744073709551616 ∧ ¬ B * (A / B) % 18446744073709551616 = A % 18446744073709551616) := by omega
    clear c
    generalize A / B = R at *
    rcases hd with d1 | ⟨d1, d2⟩
    all_goals
      go_enter Tryd.func100, Tryd.ntmps100
      go_wp2_with fail
      refine useF w (hg.out _ _ _ ⟨by simp [go_sem], by simp [go_sem], by simp [go_sem], by simp [go_sem]⟩) (by go_grown) ?_; rintro e w2 rfl hB2 hk2 hf2 hs2
      have a0 := hk2 w.heap.size 0 (.int .u64 (A / 18446744073709551616)) (by simp [go_sem])
      have a1 := hk2 w.heap.size 1 (.int .u64 (A % 18446744073709551616)) (by simp [go_sem])
      have b0 := hk2 (w.heap.size + 1) 0 (.int .u64 (B / 18446744073709551616)) (by simp [go_sem])
      have b1 := hk2 (w.heap.size + 1) 1 (.int .u64 (B % 18446744073709551616)) (by simp [go_sem])
      clear hk2 hf2 hg
      go_wp2_with fail
      refine wp_region_held_drew (S := (fun w' => w'.cell? ⟨w.heap.size, 0, none⟩ = some (.int .u64 (A / 18446744073709551616)) ∧ w'.cell? ⟨w.heap.size, 1, none⟩ = some (.int .u64 (A % 18446744073709551616)) ∧ w'.cell? ⟨w.heap.size + 1, 0, none⟩ = some (.int .u64 (B / 18446744073709551616)) ∧ w'.cell? ⟨w.heap.size + 1, 1, none⟩ = some (.int .u64 (B % 18446744073709551616)))) (by kernel_rfl) (by (try dsimp only); (first | (exact ⟨hk1 _ _ _ (hOld.1), hk1 _ _ _ (hOld.2.1), hk1 _ _ _ (hOld.2.2.1), hk1 _ _ _ (hOld.2.2.2)⟩) | ((try simp only [World.cell?_drew, World.frozen?_drew]); (repeat' apply And.intro) <;> (first | (with_reducible assumption) | (with_reducible exact ⟨_, by assumption⟩) | (with_reducible exact ⟨_, two_other (by assumption) (by omega)⟩) | (with_reducible exact two_0 (by assumption)) | (with_reducible exact two_1 (by assumption)) | (with_reducible exact two_other (by assumption) (by omega)) | (with_reducible exact two_fz (by assumption)) | (with_reducible exact keepA _ (by assumption)) | (with_reducible exact keepA _ (keepA _ (keepA _ (by assumption)))) | (simp (maxDischargeDepth := 8) [*, go_sem, World.cell?_alloc_some, World.cell?_setCell_far]; done))) | (go_keep; done) | (simp (maxDischargeDepth := 8) [*, go_sem, World.cell?_alloc_some, World.cell?_setCell_far]; done))) (fun hHeld => ?_)
      (refine wpAnyH_take (i := 0) (oi := ⟨some 13, _, _, _, _, none⟩) (v := ?_) rfl (by kernel_rfl) (by kernel_rfl) (by kernel_rfl) (fun _ _ _ h => h) (Or.inl ⟨by rfl, ?_⟩) hHeld ?_; rotate_left; (· (intro w9 hSw; (try dsimp only at hSw); go_simp; (try with_reducible rfl))))
      (try simp only [Act.put, List.setIfInBounds_toArray, List.set_cons_zero, List.set_cons_succ])
      (refine wpAnyH_take (i := 1) (oi := ⟨some 14, _, _, _, _, none⟩) (v := ?_) rfl (by kernel_rfl) (by kernel_rfl) (by kernel_rfl) (fun _ _ _ h => h) (Or.inl ⟨by rfl, ?_⟩) hHeld ?_; rotate_left; (· (intro w9 hSw; (try dsimp only at hSw); go_simp; (try with_reducible rfl))))
      (try simp only [Act.put, List.setIfInBounds_toArray, List.set_cons_zero, List.set_cons_succ])
      (refine wpAnyH_take (i := 3) (oi := ⟨some 16, _, _, _, _, none⟩) (v := ?_) rfl (by kernel_rfl) (by kernel_rfl) (by kernel_rfl) (fun _ _ _ h => h) (Or.inl ⟨by rfl, ?_⟩) hHeld ?_; rotate_left; (· (intro w9 hSw; (try dsimp only at hSw); go_simp; (try with_reducible rfl))))
      (try simp only [Act.put, List.setIfInBounds_toArray, List.set_cons_zero, List.set_cons_succ])
      (refine wpAnyH_ready (rs := [2]) (by kernel_rfl) (by simp) ?_; refine AllReadyH.cons (o := ⟨some 15, _, _, _, _, none⟩) rfl (fun K hK => ?_) AllReadyH.nil; go_simp; (first | (go_at_call 102; refine useF w (ht.out _) (by go_grown) ?_; rintro e w1 rfl hB1 hk1 hf1 hs1; have hz1 := hB1.size)); have hOld := hHeld; clear hHeld; refine hK.out _ _ ?_ (fun hHeld => ?_); (· ((try dsimp only); (first | (exact ⟨hk1 _ _ _ (hOld.1), hk1 _ _ _ (hOld.2.1), hk1 _ _ _ (hOld.2.2.1), hk1 _ _ _ (hOld.2.2.2)⟩) | ((try simp only [World.cell?_drew, World.frozen?_drew]); (repeat' apply And.intro) <;> (first | (with_reducible assumption) | (with_reducible exact ⟨_, by assumption⟩) | (with_reducible exact ⟨_, two_other (by assumption) (by omega)⟩) | (with_reducible exact two_0 (by assumption)) | (with_reducible exact two_1 (by assumption)) | (with_reducible exact two_other (by assumption) (by omega)) | (with_reducible exact two_fz (by assumption)) | (with_reducible exact keepA _ (by assumption)) | (with_reducible exact keepA _ (keepA _ (keepA _ (by assumption)))) | (simp (maxDischargeDepth := 8) [*, go_sem, World.cell?_alloc_some, World.cell?_setCell_far]; done))) | (go_keep; done) | (simp (maxDischargeDepth := 8) [*, go_sem, World.cell?_alloc_some, World.cell?_setCell_far]; done)))); clear hK K hOld; (try clear hc1 hf1); (try clear hk1 hf1))
      (try simp only [Act.put, List.setIfInBounds_toArray, List.set_cons_zero, List.set_cons_succ])
      (refine wpAnyH_take (i := 4) (oi := ⟨some 17, _, _, _, _, none⟩) (v := ?_) rfl (by kernel_rfl) (by kernel_rfl) (by kernel_rfl) (fun _ _ _ h => h) (Or.inl ⟨by rfl, ?_⟩) hHeld ?_; rotate_left; (· (intro w9 hSw; (try dsimp only at hSw); go_simp; (try with_reducible rfl))))
      (try simp only [Act.put, List.setIfInBounds_toArray, List.set_cons_zero, List.set_cons_succ])
      refine wpAnyH_done (by kernel_rfl) ?_ _
      go_wp2_with fail
      go_ret2
      exact ⟨by rw [hcd.out]; rfl, by go_grown⟩
end Go.Proofs.YtjleflfncijnpaaDoor
