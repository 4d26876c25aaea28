/- Roots, of package span. -/
import Derived.Deep.DeepCutAuto
import Derived.Test.YtjleflfncijnpaaDoorRows
import Derived.Test.YtjleflfncijnpaaDoorBase
import Derived.Test.YtjleflfncijnpaaDoorFacts
import Derived.Test.YtjleflfncijnpaaDoorTwo
import Derived.Deep.RegionHeld3
import Derived.Deep.RegionWith
import Derived.Deep.QuietTactic
import Derived.BigQuiet
import Derived.Test.YtjleflfncijnpaaDoorW
import Derived.Test.YtjleflfncijnpaaDoorAsks
import Derived.Test.YtjleflfncijnpaaDoorOut
import Derived.Test.YtjleflfncijnpaaDoorSeq
import Derived.Test.YtjleflfncijnpaaDoorTwo
import Derived.Test.YtjleflfncijnpaaDoorQuo
import Derived.Test.YtjleflfncijnpaaDoorRound
import Derived.Test.YtjleflfncijnpaaDoorRootM
set_option linter.unusedVariables false
set_option linter.unusedSimpArgs false
set_option maxHeartbeats 4000000
set_option maxRecDepth 100000
namespace Go.Proofs.YtjleflfncijnpaaDoor
open Go Go.RowKit
theorem product_any (x y : Int) (w : World) (h : (0 ≤ x ∧ x ≤ 18446744073709551615) ∧ (0 ≤ y ∧ y ≤ 18446744073709551615)) :
    Calls Tryd.prog 95 #[.int .u64 x, .int .u64 y] w fun e w' => e = .returned (.agg #[.int .u64 (x * y / 18446744073709551616), .int .u64 (x * y % 18446744073709551616)]) ∧ Below w.heap.size w w' := by
  have hm := hid (fun W => mul64_any x y W h)
  go_enter Tryd.func95, Tryd.ntmps95
  go_wp2_with (go_at_call 93; refine use w (w.heap.size + 1) (hm.out _) (by go_grown) (by go_size) ?_; rintro e w1 rfl hB1 hc1 hf1 hl1 hs1; have hl10 : w.heap.size < w1.heap.size := hl1 _ (by omega))
  all_goals (refine' bodyPost_ret (res_st rfl isA_v isS_v rfl ?_ ?_) rfl ?_; rotate_left 2; (· ((try simp only [World.cell?_drew]); first | (with_reducible exact two_0 (by assumption)) | (with_reducible exact two_1 (by assumption)) | (with_reducible exact two_other (two_0 (by assumption)) (by simp)) | (with_reducible exact two_other (two_1 (by assumption)) (by simp)) | (with_reducible exact two_0 (two_other (by assumption) (by simp))) | (with_reducible exact two_1 (two_other (by assumption) (by simp))) | (simp (maxDischargeDepth := 8) [go_sem, hHeld]; rfl) | (simp (maxDischargeDepth := 8) [go_sem, *]; rfl) | (simp (maxDischargeDepth := 8) [go_sem, *]; done))); (· ((try simp only [World.cell?_drew]); first | (with_reducible exact two_0 (by assumption)) | (with_reducible exact two_1 (by assumption)) | (with_reducible exact two_other (two_0 (by assumption)) (by simp)) | (with_reducible exact two_other (two_1 (by assumption)) (by simp)) | (with_reducible exact two_0 (two_other (by assumption) (by simp))) | (with_reducible exact two_1 (two_other (by assumption) (by simp))) | (simp (maxDischargeDepth := 8) [go_sem, hHeld]; rfl) | (simp (maxDischargeDepth := 8) [go_sem, *]; rfl) | (simp (maxDischargeDepth := 8) [go_sem, *]; done))); refine ⟨ret_v ?_ ?_, by go_grown⟩ <;> (rfl))
theorem above_any (a b c d : Int) (w : World) (h : (0 ≤ a ∧ a ≤ 18446744073709551615) ∧ (0 ≤ b ∧ b ≤ 18446744073709551615) ∧ (0 ≤ c ∧ c ≤ 18446744073709551615) ∧ (0 ≤ d ∧ d ≤ 18446744073709551615)) :
    Calls Tryd.prog 98 #[.agg #[.int .u64 a, .int .u64 b], .agg #[.int .u64 c, .int .u64 d]] w fun e w' => e = .returned (.bool (decide (c * 18446744073709551616 + d < a * 18446744073709551616 + b))) ∧ Below w.heap.size w w' := by
  obtain ⟨⟨a1, a2⟩, ⟨b1, b2⟩, ⟨c1, c2⟩, d1, d2⟩ := h
  go_enter Tryd.func98, Tryd.ntmps98
  go_wp2
  all_goals (go_ret; exact ⟨ret_bool (by (try simp only [Array.getD_eq_getD_getElem?, List.getElem?_toArray, List.getElem?_cons_succ, List.getElem?_cons_zero, Option.getD_some]) <;> ((first | (rw [decide_eq_decide]; constructor <;> intro hh <;> ((try simp only [hiW, loW, wrap64, IntKind.wrap_u64, IntKind.wrap_i64] at *); omega)) | (rw [Bool.eq_iff_iff]; simp only [beq_iff_eq, decide_eq_true_eq]; constructor <;> intro hh <;> ((try simp only [hiW, loW, wrap64, IntKind.wrap_u64, IntKind.wrap_i64] at *); omega)) | (symm; apply decide_eq_true; ((try simp only [hiW, loW, wrap64, IntKind.wrap_u64, IntKind.wrap_i64] at *); omega)) | (symm; apply decide_eq_false; ((try simp only [hiW, loW, wrap64, IntKind.wrap_u64, IntKind.wrap_i64] at *); omega))))), by go_grown⟩)
/-- The square, captured. -/
def C2 (b : Nat) (S : Int) (w : World) : Prop := (fun w' => w'.cell? ⟨b, 0, none⟩ = some (.int .u64 (S / 18446744073709551616)) ∧ w'.cell? ⟨b, 1, none⟩ = some (.int .u64 (S % 18446744073709551616))) w
theorem above_w (a c : Int) (w : World) (h : (0 ≤ a ∧ a < 340282366920938463463374607431768211456) ∧ 0 ≤ c ∧ c < 340282366920938463463374607431768211456) :
    Calls Tryd.prog 98 #[.agg #[.int .u64 (a / 18446744073709551616), .int .u64 (a % 18446744073709551616)], .agg #[.int .u64 (c / 18446744073709551616), .int .u64 (c % 18446744073709551616)]] w fun e w' => e = .returned (.bool (decide (c < a))) ∧ Below w.heap.size w w' := by
  have k := above_any (a / 18446744073709551616) (a % 18446744073709551616) (c / 18446744073709551616) (c % 18446744073709551616) w (by omega)
  rw [show c / 18446744073709551616 * 18446744073709551616 + c % 18446744073709551616 = c by omega, show a / 18446744073709551616 * 18446744073709551616 + a % 18446744073709551616 = a by omega] at k
  exact k
theorem holds_any (r : Int) (S : Int) (b : Nat) (w : World) (hc : C2 b S w) (h : 0 ≤ r ∧ r ≤ 281474976710656) (hS : 0 ≤ S ∧ S < 340282366920938463463374607431768211456) :
    Calls Tryd.prog 97 #[.int .u64 r, .pointer (some ⟨b, 0, none⟩)] w fun e w' => e = .returned (.bool (sqB S r)) ∧ Below w.heap.size w w' := by
  have hsq := mul_bd h h
  simp only [Int.reduceMul] at hsq
  have hb : sqB S r = !decide (S < r * r) := by
    unfold sqB
    by_cases c : r * r ≤ S
    · rw [decide_eq_true c, decide_eq_false (by omega)]; rfl
    · rw [decide_eq_false c, decide_eq_true (by omega)]; rfl
  have hb := hid hb
  have ha := hid (fun W => above_w (r * r) S W (by omega))
  have hp := hid (fun W => product_any r r W (by omega))
  obtain ⟨h0, h1⟩ := h
  obtain ⟨c0, c1⟩ := hc
  clear hsq hS
  go_enter Tryd.func97, Tryd.ntmps97
  go_wp2_with fail
  refine wp_region_held_drew (S := (fun w' => w'.cell? ⟨b, 0, none⟩ = some (.int .u64 (S / 18446744073709551616)) ∧ w'.cell? ⟨b, 1, none⟩ = some (.int .u64 (S % 18446744073709551616)))) (by kernel_rfl) (by (try dsimp only); (first | (exact ⟨hk1 _ _ _ (hOld.1), hk1 _ _ _ (hOld.2)⟩) | ((try simp only [World.cell?_drew, World.frozen?_drew]); (repeat' apply And.intro) <;> (first | (with_reducible assumption) | (with_reducible exact ⟨_, by assumption⟩) | (with_reducible exact ⟨_, two_other (by assumption) (by omega)⟩) | (with_reducible exact two_0 (by assumption)) | (with_reducible exact two_1 (by assumption)) | (with_reducible exact two_other (by assumption) (by omega)) | (with_reducible exact two_fz (by assumption)) | (with_reducible exact keepA _ (by assumption)) | (with_reducible exact keepA _ (keepA _ (keepA _ (by assumption)))) | (simp (maxDischargeDepth := 8) [*, go_sem, World.cell?_alloc_some, World.cell?_setCell_far]; done))) | (go_keep; done) | (simp (maxDischargeDepth := 8) [*, go_sem, World.cell?_alloc_some, World.cell?_setCell_far]; done))) (fun hHeld => ?_)
  (refine wpAnyH_take (i := 0) (oi := ⟨some 4, _, _, _, _, none⟩) (v := ?_) rfl (by kernel_rfl) (by kernel_rfl) (by kernel_rfl) (fun _ _ _ h => h) (Or.inl ⟨by rfl, ?_⟩) hHeld ?_; rotate_left; (· (intro w9 hSw; (try dsimp only at hSw); go_simp; (try with_reducible rfl))))
  (try simp only [Act.put, List.setIfInBounds_toArray, List.set_cons_zero, List.set_cons_succ])
  (refine wpAnyH_take (i := 1) (oi := ⟨some 5, _, _, _, _, none⟩) (v := ?_) rfl (by kernel_rfl) (by kernel_rfl) (by kernel_rfl) (fun _ _ _ h => h) (Or.inl ⟨by rfl, ?_⟩) hHeld ?_; rotate_left; (· (intro w9 hSw; (try dsimp only at hSw); go_simp; (try with_reducible rfl))))
  (try simp only [Act.put, List.setIfInBounds_toArray, List.set_cons_zero, List.set_cons_succ])
  (refine wpAnyH_take (i := 3) (oi := ⟨some 7, _, _, _, _, none⟩) (v := ?_) rfl (by kernel_rfl) (by kernel_rfl) (by kernel_rfl) (fun _ _ _ h => h) (Or.inl ⟨by rfl, ?_⟩) hHeld ?_; rotate_left; (· (intro w9 hSw; (try dsimp only at hSw); go_simp; (try with_reducible rfl))))
  (try simp only [Act.put, List.setIfInBounds_toArray, List.set_cons_zero, List.set_cons_succ])
  (refine wpAnyH_ready (rs := [2]) (by kernel_rfl) (by simp) ?_; refine AllReadyH.cons (o := ⟨some 6, _, _, _, _, none⟩) rfl (fun K hK => ?_) AllReadyH.nil; go_simp; (first | (go_at_call 95; refine useF w (hp.out _) (by go_grown) ?_; rintro e w1 rfl hB1 hk1 hf1 hs1; have hz1 := hB1.size) | (go_at_call 98; refine useF w (ha.out _) (by go_grown) ?_; rintro e w1 rfl hB1 hk1 hf1 hs1; have hz1 := hB1.size)); have hOld := hHeld; clear hHeld; refine hK.out _ _ ?_ (fun hHeld => ?_); (· ((try dsimp only); (first | (exact ⟨hk1 _ _ _ (hOld.1), hk1 _ _ _ (hOld.2)⟩) | ((try simp only [World.cell?_drew, World.frozen?_drew]); (repeat' apply And.intro) <;> (first | (with_reducible assumption) | (with_reducible exact ⟨_, by assumption⟩) | (with_reducible exact ⟨_, two_other (by assumption) (by omega)⟩) | (with_reducible exact two_0 (by assumption)) | (with_reducible exact two_1 (by assumption)) | (with_reducible exact two_other (by assumption) (by omega)) | (with_reducible exact two_fz (by assumption)) | (with_reducible exact keepA _ (by assumption)) | (with_reducible exact keepA _ (keepA _ (keepA _ (by assumption)))) | (simp (maxDischargeDepth := 8) [*, go_sem, World.cell?_alloc_some, World.cell?_setCell_far]; done))) | (go_keep; done) | (simp (maxDischargeDepth := 8) [*, go_sem, World.cell?_alloc_some, World.cell?_setCell_far]; done)))); clear hK K hOld; (try clear hc1 hf1); (try clear hk1 hf1))
  (try simp only [Act.put, List.setIfInBounds_toArray, List.set_cons_zero, List.set_cons_succ])
  (refine wpAnyH_ready (rs := [4]) (by kernel_rfl) (by simp) ?_; refine AllReadyH.cons (o := ⟨some 8, _, _, _, _, none⟩) rfl (fun K hK => ?_) AllReadyH.nil; go_simp; (first | (go_at_call 95; refine useF w (hp.out _) (by go_grown) ?_; rintro e w1 rfl hB1 hk1 hf1 hs1; have hz1 := hB1.size) | (go_at_call 98; refine useF w (ha.out _) (by go_grown) ?_; rintro e w1 rfl hB1 hk1 hf1 hs1; have hz1 := hB1.size)); have hOld := hHeld; clear hHeld; refine hK.out _ _ ?_ (fun hHeld => ?_); (· ((try dsimp only); (first | (exact ⟨hk1 _ _ _ (hOld.1), hk1 _ _ _ (hOld.2)⟩) | ((try simp only [World.cell?_drew, World.frozen?_drew]); (repeat' apply And.intro) <;> (first | (with_reducible assumption) | (with_reducible exact ⟨_, by assumption⟩) | (with_reducible exact ⟨_, two_other (by assumption) (by omega)⟩) | (with_reducible exact two_0 (by assumption)) | (with_reducible exact two_1 (by assumption)) | (with_reducible exact two_other (by assumption) (by omega)) | (with_reducible exact two_fz (by assumption)) | (with_reducible exact keepA _ (by assumption)) | (with_reducible exact keepA _ (keepA _ (keepA _ (by assumption)))) | (simp (maxDischargeDepth := 8) [*, go_sem, World.cell?_alloc_some, World.cell?_setCell_far]; done))) | (go_keep; done) | (simp (maxDischargeDepth := 8) [*, go_sem, World.cell?_alloc_some, World.cell?_setCell_far]; done)))); clear hK K hOld; (try clear hc1 hf1); (try clear hk1 hf1))
  (try simp only [Act.put, List.setIfInBounds_toArray, List.set_cons_zero, List.set_cons_succ])
  (refine wpAnyH_take (i := 5) (oi := ⟨some 9, _, _, _, _, none⟩) (v := ?_) rfl (by kernel_rfl) (by kernel_rfl) (by kernel_rfl) (fun _ _ _ h => h) (Or.inl ⟨by rfl, ?_⟩) hHeld ?_; rotate_left; (· (intro w9 hSw; (try dsimp only at hSw); go_simp; (try with_reducible rfl))))
  (try simp only [Act.put, List.setIfInBounds_toArray, List.set_cons_zero, List.set_cons_succ])
  (refine wpAnyH_take (i := 6) (oi := ⟨some 3, _, _, _, _, none⟩) (v := ?_) rfl (by kernel_rfl) (by kernel_rfl) (by kernel_rfl) (fun _ _ _ h => h) (Or.inl ⟨by rfl, ?_⟩) hHeld ?_; rotate_left; (· (intro w9 hSw; (try dsimp only at hSw); go_simp; (try with_reducible rfl))))
  (try simp only [Act.put, List.setIfInBounds_toArray, List.set_cons_zero, List.set_cons_succ])
  refine wpAnyH_done (by kernel_rfl) ?_ _
  go_wp2_with fail
  all_goals (go_ret; exact ⟨ret_bool (by (try simp only [Array.getD_eq_getD_getElem?, List.getElem?_toArray, List.getElem?_cons_succ, List.getElem?_cons_zero, Option.getD_some]) <;> (rw [hb.out])), by go_grown⟩)
theorem greatest_any (S : Int) (b : Nat) (w : World) (hc : C2 b S w) (hS : 0 ≤ S ∧ S < 340282366920938463463374607431768211456) (hr : rtI S ≤ 281474976710656) :
    Calls Tryd.prog 96 #[.int .u64 281474976710656, .func (.func 97) #[] #[.pointer (some ⟨b, 0, none⟩)]] w fun e w' => e = .returned (.int .u64 (rtI S)) ∧ Below w.heap.size w w' := by
  have hr0 := (rt_spec hS.1).1
  have hS := hid hS
  go_enter Tryd.func96, Tryd.ntmps96
  go_wp2_with fail
  go_loopw [5, 6] (fun lo hi wx => ∃ l h : Int, lo = .int .u64 l ∧ hi = .int .u64 h ∧ 0 ≤ l ∧ l ≤ rtI S ∧ rtI S ≤ h ∧ h ≤ 281474976710656 ∧ C2 b S wx ∧ Below w.heap.size w wx) (fun lo hi _ => (intOf hi - intOf lo).toNat)
  case atStart => exact ⟨0, _, rfl, rfl, by omega, hr0, hr, by omega, hc, by go_grown⟩
  case round =>
    obtain ⟨l, h, rfl, rfl, l0, l1, h0, h1, hc, hB⟩ := hrel
    by_cases c : l < h
    · have hiff := hid (sqB_iff (S := S) (n := h - (h - l) / 2) hS.out.1 (by omega))
      have hh := hid (fun W g => holds_any (h - (h - l) / 2) S b W g (by omega) hS.out)
      obtain ⟨c0, c1⟩ := hc
      cases hb : sqB S (h - (h - l) / 2)
      · have g := hid (show ¬ h - (h - l) / 2 ≤ rtI S from fun k => by rw [hiff.out.2 k] at hb; cases hb)
        clear hiff
        go_wp2_with fail
        refine useF w (hh.out _ ⟨c0, c1⟩) (by go_grown) ?_; rintro e w1 rfl hB1 hk1 hf1 hs1
        replace c0 := hk1 _ _ _ c0
        replace c1 := hk1 _ _ _ c1
        clear hk1 hf1 hs1 hh
        go_wp2_with fail
        go_roundw
        case rel => have := g.out; exact ⟨l, _, rfl, rfl, l0, l1, by omega, by omega, ⟨c0, c1⟩, by assumption⟩
        case measure => have := g.out; simp [intOf]; omega
      · have g := hid (hiff.out.1 hb)
        clear hiff
        go_wp2_with fail
        refine useF w (hh.out _ ⟨c0, c1⟩) (by go_grown) ?_; rintro e w1 rfl hB1 hk1 hf1 hs1
        replace c0 := hk1 _ _ _ c0
        replace c1 := hk1 _ _ _ c1
        clear hk1 hf1 hs1 hh
        go_wp2_with fail
        go_roundw
        case rel => have := g.out; exact ⟨_, h, rfl, rfl, by omega, by omega, h0, h1, ⟨c0, c1⟩, by assumption⟩
        case measure => have := g.out; simp [intOf]; omega
    · have e : l = rtI S := by omega
      subst e
      go_wp2_with fail
      go_ret
      exact ⟨rfl, by go_grown⟩
end Go.Proofs.YtjleflfncijnpaaDoor
