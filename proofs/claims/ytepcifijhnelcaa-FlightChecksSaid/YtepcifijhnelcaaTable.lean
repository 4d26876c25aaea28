/- CheckTable, of package span. -/
import Derived.Deep.DeepCutAuto
import Derived.Deep.CutBlock
import Derived.Test.YtepcifijhnelcaaRows
import Derived.Test.YtepcifijhnelcaaBase
import Derived.Test.YtepcifijhnelcaaFacts
import Derived.Test.YtepcifijhnelcaaTwo
import Derived.Deep.RegionHeld3
import Derived.Deep.RegionWith
import Derived.Deep.QuietTactic
import Derived.BigQuiet
import Derived.Test.YtepcifijhnelcaaW
import Derived.Test.YtepcifijhnelcaaAsks
import Derived.Test.YtepcifijhnelcaaOut
import Derived.Test.YtepcifijhnelcaaSeq
import Derived.Test.YtepcifijhnelcaaTwo
import Derived.Test.YtepcifijhnelcaaTabM
set_option linter.unusedVariables false
set_option linter.unusedSimpArgs false
set_option maxHeartbeats 4000000
set_option maxRecDepth 100000
namespace Go.Proofs.Ytepcifijhnelcaa
open Go Go.RowKit
theorem isPart_any (n : Int) (w : World) (h : (-9223372036854775808 ≤ n ∧ n ≤ 9223372036854775807)) :
    Calls Try.prog 57 #[.int .i64 n] w fun e w' => e = .returned (.bool (partB n)) ∧ Below w.heap.size w w' := by
  obtain ⟨n1, n2⟩ := h
  unfold partB
  go_enter Try.func57, Try.ntmps57
  go_wp2
  all_goals (go_ret; exact ⟨ret_bool (by (try simp only [Array.getD_eq_getD_getElem?, List.getElem?_toArray, List.getElem?_cons_succ, List.getElem?_cons_zero, Option.getD_some]) <;> (first | rfl | (simp; done) | (simp; omega) | (simp [*]; done))), by go_grown⟩)
theorem okAt_some {l : List (Int × Int × Int)} {k : Nat} {p : Int × Int × Int} (hp : l[k]? = some p) : okAt l k = (okP p && behind l k) := by unfold okAt; rw [hp]
theorem checkTable_go (l : List (Int × Int × Int)) (B o cap : Nat) (w : World) (ht : Tab B o l w) (hn : 1 ≤ l.length ∧ l.length ≤ 64) (hb : Hid (∀ p ∈ l, (-9223372036854775808 ≤ p.1 ∧ p.1 ≤ 9223372036854775807) ∧ (-9223372036854775808 ≤ p.2.1 ∧ p.2.1 ≤ 9223372036854775807) ∧ (-9223372036854775808 ≤ p.2.2 ∧ p.2.2 ≤ 9223372036854775807))) (R : Int) (hR : Hid (R = if goodU l l.length = true then 0 else 2)) :
    Calls Try.prog 35 #[.slice (some ⟨B, o, none⟩) l.length cap] w fun e w' => e = .returned (.int .i64 R) ∧ Below w.heap.size w w' := by
  have h1 : ¬ (l.length : Int) < 1 := by omega
  have h2 : ¬ (64 : Int) < l.length := by omega
  have d1 : decide ((l.length : Int) < 1) = false := decide_eq_false h1
  have d2 : decide ((64 : Int) < l.length) = false := decide_eq_false h2
  go_enter Try.func35, Try.ntmps35
  go_wp2_with fail
  go_loopw [15] (fun s wx => ∃ k : Nat, s = .int .i64 k ∧ k ≤ l.length ∧ goodU l k = true ∧ Tab B o l wx ∧ Below w.heap.size w wx) (fun s _ => (l.length - intOf s).toNat)
  case atStart => exact ⟨0, rfl, by omega, rfl, ht, by go_grown⟩
  case round =>
    clear ht
    obtain ⟨k, rfl, hk, hg, ht, hB⟩ := hrel
    by_cases ke : k = l.length
    · subst ke
      have hr : R = 0 := by rw [hR.out, if_pos hg]
      clear hg hR
      subst hr
      go_wp2_with fail
      go_ret
      exact ⟨rfl, by go_grown⟩
    · have hk1 : k < l.length := by omega
      obtain ⟨p, hp⟩ : ∃ p, l[k]? = some p := ⟨l[k], List.getElem?_eq_getElem hk1⟩
      obtain ⟨c0, c1, c2⟩ := ht k p hp
      obtain ⟨⟨b1, b2⟩, ⟨b3, b4⟩, b5, b6⟩ := hb.out p (List.mem_of_getElem? hp)
      obtain ⟨a, lo, hi⟩ := p
      dsimp only at b1 b2 b3 b4 b5 b6 c0 c1 c2
      have hk0 : (0 : Int) ≤ k := by omega
      have hk2 : (k : Int) < l.length := by omega
      have hbad : okP (a, lo, hi) = false → R = 2 := fun h => by
        rw [hR.out, if_neg]
        intro g
        have := goodU_at g hk1
        rw [okAt_some hp, h] at this
        cases this
      have hbad2 : behind l k = false → R = 2 := fun h => by
        rw [hR.out, if_neg]
        intro g
        have := goodU_at g hk1
        rw [okAt_some hp, h, Bool.and_false] at this
        cases this
      have hgood : okP (a, lo, hi) = true → behind l k = true → goodU l (k + 1) = true := fun h1 h2 => by
        show (goodU l k && okAt l k) = true
        rw [hg, okAt_some hp, h1, h2]; rfl
      have hP : okP (a, lo, hi) = (partB a && partB lo && partB hi && decide (chk lo hi = 0)) := rfl
      have s1 := fun W => isPart_any a W ⟨b1, b2⟩
      have s2 := fun W => isPart_any lo W ⟨b3, b4⟩
      have s3 := fun W => isPart_any hi W ⟨b5, b6⟩
      have s4 := fun W => check_any lo hi W ⟨⟨b3, b4⟩, b5, b6⟩
      have hzr := hB.size
      have ht2 := Tab.alloc (.cells #[.int .i64 a, .int .i64 lo, .int .i64 hi] 90) ht
      have hB2 : Below w.heap.size w (wr.alloc (.cells #[.int .i64 a, .int .i64 lo, .int .i64 hi] 90)) := by go_grown
      have p0 : (wr.alloc (.cells #[.int .i64 a, .int .i64 lo, .int .i64 hi] 90)).cell? ⟨wr.heap.size, 0, none⟩ = some (.int .i64 a) := by simp [go_sem]
      have p1 : (wr.alloc (.cells #[.int .i64 a, .int .i64 lo, .int .i64 hi] 90)).cell? ⟨wr.heap.size, 1, none⟩ = some (.int .i64 lo) := by simp [go_sem]
      have p2 : (wr.alloc (.cells #[.int .i64 a, .int .i64 lo, .int .i64 hi] 90)).cell? ⟨wr.heap.size, 2, none⟩ = some (.int .i64 hi) := by simp [go_sem]
      replace hg := hid hg
      replace hbad := hid hbad
      replace hbad2 := hid hbad2
      replace hgood := hid hgood
      replace hP := hid hP
      cases e1 : partB a
      · have hr : R = 2 := hbad.out (by rw [hP.out, e1]; rfl)
        subst hr
        rw [e1] at s1; replace s1 := hid s1
        clear hP hbad hbad2 hgood hR
        go_wp2_with fail
        refine useF w (s1.out _) (by go_grown) ?_; rintro e w1 rfl hB1 hk1 hf1 hs1
        replace ht2 := Tab.keep ht2 hk1
        replace p0 := hk1 _ _ _ p0
        replace p1 := hk1 _ _ _ p1
        replace p2 := hk1 _ _ _ p2
        clear hk1 hf1
        go_wp2_with fail
        go_ret
        exact ⟨rfl, by go_grown⟩
      · skip
        cases e2 : partB lo
        · have hr : R = 2 := hbad.out (by rw [hP.out, e1, e2]; rfl)
          subst hr
          rw [e1] at s1; replace s1 := hid s1
          rw [e2] at s2; replace s2 := hid s2
          clear hP hbad hbad2 hgood hR
          go_wp2_with fail
          refine useF w (s1.out _) (by go_grown) ?_; rintro e w1 rfl hB1 hk1 hf1 hs1
          replace ht2 := Tab.keep ht2 hk1
          replace p0 := hk1 _ _ _ p0
          replace p1 := hk1 _ _ _ p1
          replace p2 := hk1 _ _ _ p2
          clear hk1 hf1
          go_wp2_with fail
          refine useF w (s2.out _) (by go_grown) ?_; rintro e w2 rfl hB2 hk2 hf2 hs2
          replace ht2 := Tab.keep ht2 hk2
          replace p0 := hk2 _ _ _ p0
          replace p1 := hk2 _ _ _ p1
          replace p2 := hk2 _ _ _ p2
          clear hk2 hf2
          go_wp2_with fail
          go_ret
          exact ⟨rfl, by go_grown⟩
        · skip
          cases e3 : partB hi
          · have hr : R = 2 := hbad.out (by rw [hP.out, e1, e2, e3]; rfl)
            subst hr
            rw [e1] at s1; replace s1 := hid s1
            rw [e2] at s2; replace s2 := hid s2
            rw [e3] at s3; replace s3 := hid s3
            clear hP hbad hbad2 hgood hR
            go_wp2_with fail
            refine useF w (s1.out _) (by go_grown) ?_; rintro e w1 rfl hB1 hk1 hf1 hs1
            replace ht2 := Tab.keep ht2 hk1
            replace p0 := hk1 _ _ _ p0
            replace p1 := hk1 _ _ _ p1
            replace p2 := hk1 _ _ _ p2
            clear hk1 hf1
            go_wp2_with fail
            refine useF w (s2.out _) (by go_grown) ?_; rintro e w2 rfl hB2 hk2 hf2 hs2
            replace ht2 := Tab.keep ht2 hk2
            replace p0 := hk2 _ _ _ p0
            replace p1 := hk2 _ _ _ p1
            replace p2 := hk2 _ _ _ p2
            clear hk2 hf2
            go_wp2_with fail
            refine useF w (s3.out _) (by go_grown) ?_; rintro e w3 rfl hB3 hk3 hf3 hs3
            replace ht2 := Tab.keep ht2 hk3
            replace p0 := hk3 _ _ _ p0
            replace p1 := hk3 _ _ _ p1
            replace p2 := hk3 _ _ _ p2
            clear hk3 hf3
            go_wp2_with fail
            go_ret
            exact ⟨rfl, by go_grown⟩
          · skip
            by_cases e4 : chk lo hi = 0
            · have f4 : okP (a, lo, hi) = true := by rw [hP.out, e1, e2, e3, decide_eq_true e4]; rfl
              rw [e1] at s1; rw [e2] at s2; rw [e3] at s3; rw [e4] at s4
              replace s1 := hid s1; replace s2 := hid s2; replace s3 := hid s3; replace s4 := hid s4
              replace hgood := hid (hgood.out f4)
              clear hP hbad f4 e1 e2 e3 e4 hb b1 b2 b3 b4 b5 b6
              by_cases k0 : k = 0
              · subst k0
                simp only [Nat.zero_mul, Nat.add_zero] at c0 c1 c2
                replace hgood := hid (hgood.out rfl)
                go_wp2_with fail
                refine useF w (s1.out _) (by go_grown) ?_; rintro e w1 rfl hB1 hk1 hf1 hs1
                replace ht2 := Tab.keep ht2 hk1
                replace p0 := hk1 _ _ _ p0
                replace p1 := hk1 _ _ _ p1
                replace p2 := hk1 _ _ _ p2
                clear hk1 hf1
                go_wp2_with fail
                refine useF w (s2.out _) (by go_grown) ?_; rintro e w2 rfl hB2 hk2 hf2 hs2
                replace ht2 := Tab.keep ht2 hk2
                replace p0 := hk2 _ _ _ p0
                replace p1 := hk2 _ _ _ p1
                replace p2 := hk2 _ _ _ p2
                clear hk2 hf2
                go_wp2_with fail
                refine useF w (s3.out _) (by go_grown) ?_; rintro e w3 rfl hB3 hk3 hf3 hs3
                replace ht2 := Tab.keep ht2 hk3
                replace p0 := hk3 _ _ _ p0
                replace p1 := hk3 _ _ _ p1
                replace p2 := hk3 _ _ _ p2
                clear hk3 hf3
                go_wp2_with fail
                refine useF w (s4.out _) (by go_grown) ?_; rintro e w4 rfl hB4 hk4 hf4 hs4
                replace ht2 := Tab.keep ht2 hk4
                replace p0 := hk4 _ _ _ p0
                replace p1 := hk4 _ _ _ p1
                replace p2 := hk4 _ _ _ p2
                clear hk4 hf4
                go_wp2_with fail
                refine wp_region_held_drew (S := (fun w' => w'.cell? ⟨wr.heap.size, 0, none⟩ = some (.int .i64 a))) (by kernel_rfl) (by (try dsimp only); (first | (exact hk1 _ _ _ (hOld)) | ((try simp only [World.cell?_drew, World.frozen?_drew]); (repeat' apply And.intro) <;> (first | (with_reducible assumption) | (with_reducible exact ⟨_, by assumption⟩) | (with_reducible exact ⟨_, two_other (by assumption) (by omega)⟩) | (with_reducible exact two_0 (by assumption)) | (with_reducible exact two_1 (by assumption)) | (with_reducible exact two_other (by assumption) (by omega)) | (with_reducible exact two_fz (by assumption)) | (with_reducible exact keepA _ (by assumption)) | (with_reducible exact keepA _ (keepA _ (keepA _ (by assumption)))) | (simp (maxDischargeDepth := 8) [*, go_sem, World.cell?_alloc_some, World.cell?_setCell_far]; done))) | (go_keep; done) | (simp (maxDischargeDepth := 8) [*, go_sem, World.cell?_alloc_some, World.cell?_setCell_far]; done))) (fun hHeld => ?_)
                (refine wpAnyH_take (i := 0) (oi := ⟨some 44, _, _, _, _, none⟩) (v := ?_) rfl (by kernel_rfl) (by kernel_rfl) (by kernel_rfl) (fun _ _ _ h => h) (Or.inl ⟨by rfl, ?_⟩) hHeld ?_; rotate_left; (· (intro w9 hSw; (try dsimp only at hSw); go_simp; (try with_reducible rfl))))
                (try simp only [Act.put, List.setIfInBounds_toArray, List.set_cons_zero, List.set_cons_succ])
                (refine wpAnyH_take (i := 1) (oi := ⟨some 45, _, _, _, _, none⟩) (v := ?_) rfl (by kernel_rfl) (by kernel_rfl) (by kernel_rfl) (fun _ _ _ h => h) (Or.inl ⟨by rfl, ?_⟩) hHeld ?_; rotate_left; (· (intro w9 hSw; (try dsimp only at hSw); go_simp; (try with_reducible rfl))))
                (try simp only [Act.put, List.setIfInBounds_toArray, List.set_cons_zero, List.set_cons_succ])
                (refine wpAnyH_take (i := 2) (oi := ⟨some 46, _, _, _, _, none⟩) (v := ?_) rfl (by kernel_rfl) (by kernel_rfl) (by kernel_rfl) (fun _ _ _ h => h) (Or.inl ⟨by rfl, ?_⟩) hHeld ?_; rotate_left; (· (intro w9 hSw; (try dsimp only at hSw); go_simp; (try with_reducible rfl))))
                (try simp only [Act.put, List.setIfInBounds_toArray, List.set_cons_zero, List.set_cons_succ])
                (first | (refine wpAnyH_take (i := 3) (oi := ⟨some 47, _, _, _, _, some (2, true)⟩) (v := ?_) rfl (by kernel_rfl) (by kernel_rfl) (by kernel_rfl) (fun _ _ _ h => h) (Or.inl ⟨by rfl, ?_⟩) hHeld ?_; rotate_left; (· (intro w9 hSw; (try dsimp only at hSw); go_simp; (try with_reducible rfl)))) | (refine wpAnyH_take (i := 3) (oi := ⟨some 47, _, _, _, _, some (2, true)⟩) (v := undef) rfl (by kernel_rfl) (by kernel_rfl) (by kernel_rfl) (fun _ _ _ h => h) (Or.inr ⟨by rfl, rfl⟩) hHeld ?_))
                (try simp only [Act.put, List.setIfInBounds_toArray, List.set_cons_zero, List.set_cons_succ])
                (first | (refine wpAnyH_take (i := 4) (oi := ⟨some 48, _, _, _, _, some (2, true)⟩) (v := ?_) rfl (by kernel_rfl) (by kernel_rfl) (by kernel_rfl) (fun _ _ _ h => h) (Or.inl ⟨by rfl, ?_⟩) hHeld ?_; rotate_left; (· (intro w9 hSw; (try dsimp only at hSw); go_simp; (try with_reducible rfl)))) | (refine wpAnyH_take (i := 4) (oi := ⟨some 48, _, _, _, _, some (2, true)⟩) (v := undef) rfl (by kernel_rfl) (by kernel_rfl) (by kernel_rfl) (fun _ _ _ h => h) (Or.inr ⟨by rfl, rfl⟩) hHeld ?_))
                (try simp only [Act.put, List.setIfInBounds_toArray, List.set_cons_zero, List.set_cons_succ])
                (first | (refine wpAnyH_take (i := 5) (oi := ⟨some 49, _, _, _, _, some (2, true)⟩) (v := ?_) rfl (by kernel_rfl) (by kernel_rfl) (by kernel_rfl) (fun _ _ _ h => h) (Or.inl ⟨by rfl, ?_⟩) hHeld ?_; rotate_left; (· (intro w9 hSw; (try dsimp only at hSw); go_simp; (try with_reducible rfl)))) | (refine wpAnyH_take (i := 5) (oi := ⟨some 49, _, _, _, _, some (2, true)⟩) (v := undef) rfl (by kernel_rfl) (by kernel_rfl) (by kernel_rfl) (fun _ _ _ h => h) (Or.inr ⟨by rfl, rfl⟩) hHeld ?_))
                (try simp only [Act.put, List.setIfInBounds_toArray, List.set_cons_zero, List.set_cons_succ])
                (first | (refine wpAnyH_take (i := 6) (oi := ⟨some 50, _, _, _, _, some (2, true)⟩) (v := ?_) rfl (by kernel_rfl) (by kernel_rfl) (by kernel_rfl) (fun _ _ _ h => h) (Or.inl ⟨by rfl, ?_⟩) hHeld ?_; rotate_left; (· (intro w9 hSw; (try dsimp only at hSw); go_simp; (try with_reducible rfl)))) | (refine wpAnyH_take (i := 6) (oi := ⟨some 50, _, _, _, _, some (2, true)⟩) (v := undef) rfl (by kernel_rfl) (by kernel_rfl) (by kernel_rfl) (fun _ _ _ h => h) (Or.inr ⟨by rfl, rfl⟩) hHeld ?_))
                (try simp only [Act.put, List.setIfInBounds_toArray, List.set_cons_zero, List.set_cons_succ])
                (first | (refine wpAnyH_take (i := 7) (oi := ⟨some 51, _, _, _, _, some (2, true)⟩) (v := ?_) rfl (by kernel_rfl) (by kernel_rfl) (by kernel_rfl) (fun _ _ _ h => h) (Or.inl ⟨by rfl, ?_⟩) hHeld ?_; rotate_left; (· (intro w9 hSw; (try dsimp only at hSw); go_simp; (try with_reducible rfl)))) | (refine wpAnyH_take (i := 7) (oi := ⟨some 51, _, _, _, _, some (2, true)⟩) (v := undef) rfl (by kernel_rfl) (by kernel_rfl) (by kernel_rfl) (fun _ _ _ h => h) (Or.inr ⟨by rfl, rfl⟩) hHeld ?_))
                (try simp only [Act.put, List.setIfInBounds_toArray, List.set_cons_zero, List.set_cons_succ])
                (first | (refine wpAnyH_take (i := 8) (oi := ⟨some 52, _, _, _, _, some (2, true)⟩) (v := ?_) rfl (by kernel_rfl) (by kernel_rfl) (by kernel_rfl) (fun _ _ _ h => h) (Or.inl ⟨by rfl, ?_⟩) hHeld ?_; rotate_left; (· (intro w9 hSw; (try dsimp only at hSw); go_simp; (try with_reducible rfl)))) | (refine wpAnyH_take (i := 8) (oi := ⟨some 52, _, _, _, _, some (2, true)⟩) (v := undef) rfl (by kernel_rfl) (by kernel_rfl) (by kernel_rfl) (fun _ _ _ h => h) (Or.inr ⟨by rfl, rfl⟩) hHeld ?_))
                (try simp only [Act.put, List.setIfInBounds_toArray, List.set_cons_zero, List.set_cons_succ])
                (first | (refine wpAnyH_take (i := 9) (oi := ⟨some 53, _, _, _, _, some (2, true)⟩) (v := ?_) rfl (by kernel_rfl) (by kernel_rfl) (by kernel_rfl) (fun _ _ _ h => h) (Or.inl ⟨by rfl, ?_⟩) hHeld ?_; rotate_left; (· (intro w9 hSw; (try dsimp only at hSw); go_simp; (try with_reducible rfl)))) | (refine wpAnyH_take (i := 9) (oi := ⟨some 53, _, _, _, _, some (2, true)⟩) (v := undef) rfl (by kernel_rfl) (by kernel_rfl) (by kernel_rfl) (fun _ _ _ h => h) (Or.inr ⟨by rfl, rfl⟩) hHeld ?_))
                (try simp only [Act.put, List.setIfInBounds_toArray, List.set_cons_zero, List.set_cons_succ])
                (first | (refine wpAnyH_take (i := 10) (oi := ⟨some 54, _, _, _, _, some (2, true)⟩) (v := ?_) rfl (by kernel_rfl) (by kernel_rfl) (by kernel_rfl) (fun _ _ _ h => h) (Or.inl ⟨by rfl, ?_⟩) hHeld ?_; rotate_left; (· (intro w9 hSw; (try dsimp only at hSw); go_simp; (try with_reducible rfl)))) | (refine wpAnyH_take (i := 10) (oi := ⟨some 54, _, _, _, _, some (2, true)⟩) (v := undef) rfl (by kernel_rfl) (by kernel_rfl) (by kernel_rfl) (fun _ _ _ h => h) (Or.inr ⟨by rfl, rfl⟩) hHeld ?_))
                (try simp only [Act.put, List.setIfInBounds_toArray, List.set_cons_zero, List.set_cons_succ])
                (first | (refine wpAnyH_take (i := 11) (oi := ⟨some 55, _, _, _, _, some (2, true)⟩) (v := ?_) rfl (by kernel_rfl) (by kernel_rfl) (by kernel_rfl) (fun _ _ _ h => h) (Or.inl ⟨by rfl, ?_⟩) hHeld ?_; rotate_left; (· (intro w9 hSw; (try dsimp only at hSw); go_simp; (try with_reducible rfl)))) | (refine wpAnyH_take (i := 11) (oi := ⟨some 55, _, _, _, _, some (2, true)⟩) (v := undef) rfl (by kernel_rfl) (by kernel_rfl) (by kernel_rfl) (fun _ _ _ h => h) (Or.inr ⟨by rfl, rfl⟩) hHeld ?_))
                (try simp only [Act.put, List.setIfInBounds_toArray, List.set_cons_zero, List.set_cons_succ])
                (refine wpAnyH_take (i := 12) (oi := ⟨some 56, _, _, _, _, none⟩) (v := ?_) rfl (by kernel_rfl) (by kernel_rfl) (by kernel_rfl) (fun _ _ _ h => h) (Or.inl ⟨by rfl, ?_⟩) hHeld ?_; rotate_left; (· (intro w9 hSw; (try dsimp only at hSw); go_simp; (try with_reducible rfl))))
                (try simp only [Act.put, List.setIfInBounds_toArray, List.set_cons_zero, List.set_cons_succ])
                refine wpAnyH_done (by kernel_rfl) ?_ _
                go_wp2_with fail
                go_roundw
                case rel => exact ⟨1, by go_num, by omega, hgood.out, Tab.drew ht2, by go_grown⟩
                case measure => first | (simp [intOf]; done) | (simp [intOf]; omega)
              · obtain ⟨j, hj⟩ : ∃ j, k = j + 1 := ⟨k - 1, by omega⟩
                have hj1 : j < l.length := by omega
                obtain ⟨q, hq⟩ : ∃ q, l[j]? = some q := ⟨l[j], List.getElem?_eq_getElem hj1⟩
                have hbe : behind l k = decide (q.1 < a) := by unfold behind; rw [show k - 1 = j by omega, hq, hp, decide_eq_false k0]; rfl
                replace hbe := hid hbe
                have hj0 : (0 : Int) ≤ j := by omega
                have hj2 : (j : Int) < l.length := by omega
                have hjp : 0 < k := by omega
                have hjq : decide (0 < k) = true := decide_eq_true hjp
                have hjm : IntKind.i64.wrap ((k : Int) - 1) = (j : Int) := by rw [IntKind.wrap_i64]; omega
                have hjw : wrap64 ((k : Int) - 1) = (j : Int) := by simp only [wrap64]; omega
                clear hj k0
                obtain ⟨qa, ql, qh⟩ := q
                by_cases c : a ≤ qa
                · have hr : R = 2 := hbad2.out (by rw [hbe.out]; exact decide_eq_false (by dsimp only; omega))
                  subst hr
                  have cd : decide (a ≤ qa) = true := decide_eq_true c
                  clear c hbad2 hbe
                  go_wp2_with fail
                  refine useF w (s1.out _) (by go_grown) ?_; rintro e w1 rfl hB1 hk1 hf1 hs1
                  replace ht2 := Tab.keep ht2 hk1
                  replace p0 := hk1 _ _ _ p0
                  replace p1 := hk1 _ _ _ p1
                  replace p2 := hk1 _ _ _ p2
                  clear hk1 hf1
                  go_wp2_with fail
                  refine useF w (s2.out _) (by go_grown) ?_; rintro e w2 rfl hB2 hk2 hf2 hs2
                  replace ht2 := Tab.keep ht2 hk2
                  replace p0 := hk2 _ _ _ p0
                  replace p1 := hk2 _ _ _ p1
                  replace p2 := hk2 _ _ _ p2
                  clear hk2 hf2
                  go_wp2_with fail
                  refine useF w (s3.out _) (by go_grown) ?_; rintro e w3 rfl hB3 hk3 hf3 hs3
                  replace ht2 := Tab.keep ht2 hk3
                  replace p0 := hk3 _ _ _ p0
                  replace p1 := hk3 _ _ _ p1
                  replace p2 := hk3 _ _ _ p2
                  clear hk3 hf3
                  go_wp2_with fail
                  refine useF w (s4.out _) (by go_grown) ?_; rintro e w4 rfl hB4 hk4 hf4 hs4
                  replace ht2 := Tab.keep ht2 hk4
                  replace p0 := hk4 _ _ _ p0
                  replace p1 := hk4 _ _ _ p1
                  replace p2 := hk4 _ _ _ p2
                  clear hk4 hf4
                  go_wp2_with fail
                  have q0 := (ht2 j _ hq).1
                  dsimp only at q0
                  refine wp_region_held_drew (S := (fun w' => w'.cell? ⟨wr.heap.size, 0, none⟩ = some (.int .i64 a) ∧ w'.cell? ⟨B, o + j * 3, none⟩ = some (.int .i64 qa))) (by kernel_rfl) (by (try dsimp only); (first | (exact ⟨hk1 _ _ _ (hOld.1), hk1 _ _ _ (hOld.2)⟩) | ((try simp only [World.cell?_drew, World.frozen?_drew]); (repeat' apply And.intro) <;> (first | (with_reducible assumption) | (with_reducible exact ⟨_, by assumption⟩) | (with_reducible exact ⟨_, two_other (by assumption) (by omega)⟩) | (with_reducible exact two_0 (by assumption)) | (with_reducible exact two_1 (by assumption)) | (with_reducible exact two_other (by assumption) (by omega)) | (with_reducible exact two_fz (by assumption)) | (with_reducible exact keepA _ (by assumption)) | (with_reducible exact keepA _ (keepA _ (keepA _ (by assumption)))) | (simp (maxDischargeDepth := 8) [*, go_sem, World.cell?_alloc_some, World.cell?_setCell_far]; done))) | (go_keep; done) | (simp (maxDischargeDepth := 8) [*, go_sem, World.cell?_alloc_some, World.cell?_setCell_far]; done))) (fun hHeld => ?_)
                  (refine wpAnyH_take (i := 0) (oi := ⟨some 44, _, _, _, _, none⟩) (v := ?_) rfl (by kernel_rfl) (by kernel_rfl) (by kernel_rfl) (fun _ _ _ h => h) (Or.inl ⟨by rfl, ?_⟩) hHeld ?_; rotate_left; (· (intro w9 hSw; (try dsimp only at hSw); go_simp; (try with_reducible rfl))))
                  (try simp only [Act.put, List.setIfInBounds_toArray, List.set_cons_zero, List.set_cons_succ])
                  (refine wpAnyH_take (i := 1) (oi := ⟨some 45, _, _, _, _, none⟩) (v := ?_) rfl (by kernel_rfl) (by kernel_rfl) (by kernel_rfl) (fun _ _ _ h => h) (Or.inl ⟨by rfl, ?_⟩) hHeld ?_; rotate_left; (· (intro w9 hSw; (try dsimp only at hSw); go_simp; (try with_reducible rfl))))
                  (try simp only [Act.put, List.setIfInBounds_toArray, List.set_cons_zero, List.set_cons_succ])
                  (refine wpAnyH_take (i := 2) (oi := ⟨some 46, _, _, _, _, none⟩) (v := ?_) rfl (by kernel_rfl) (by kernel_rfl) (by kernel_rfl) (fun _ _ _ h => h) (Or.inl ⟨by rfl, ?_⟩) hHeld ?_; rotate_left; (· (intro w9 hSw; (try dsimp only at hSw); go_simp; (try with_reducible rfl))))
                  (try simp only [Act.put, List.setIfInBounds_toArray, List.set_cons_zero, List.set_cons_succ])
                  (first | (refine wpAnyH_take (i := 3) (oi := ⟨some 47, _, _, _, _, some (2, true)⟩) (v := ?_) rfl (by kernel_rfl) (by kernel_rfl) (by kernel_rfl) (fun _ _ _ h => h) (Or.inl ⟨by rfl, ?_⟩) hHeld ?_; rotate_left; (· (intro w9 hSw; (try dsimp only at hSw); go_simp; (try with_reducible rfl)))) | (refine wpAnyH_take (i := 3) (oi := ⟨some 47, _, _, _, _, some (2, true)⟩) (v := undef) rfl (by kernel_rfl) (by kernel_rfl) (by kernel_rfl) (fun _ _ _ h => h) (Or.inr ⟨by rfl, rfl⟩) hHeld ?_))
                  (try simp only [Act.put, List.setIfInBounds_toArray, List.set_cons_zero, List.set_cons_succ])
                  (first | (refine wpAnyH_take (i := 4) (oi := ⟨some 48, _, _, _, _, some (2, true)⟩) (v := ?_) rfl (by kernel_rfl) (by kernel_rfl) (by kernel_rfl) (fun _ _ _ h => h) (Or.inl ⟨by rfl, ?_⟩) hHeld ?_; rotate_left; (· (intro w9 hSw; (try dsimp only at hSw); go_simp; (try with_reducible rfl)))) | (refine wpAnyH_take (i := 4) (oi := ⟨some 48, _, _, _, _, some (2, true)⟩) (v := undef) rfl (by kernel_rfl) (by kernel_rfl) (by kernel_rfl) (fun _ _ _ h => h) (Or.inr ⟨by rfl, rfl⟩) hHeld ?_))
                  (try simp only [Act.put, List.setIfInBounds_toArray, List.set_cons_zero, List.set_cons_succ])
                  (first | (refine wpAnyH_take (i := 5) (oi := ⟨some 49, _, _, _, _, some (2, true)⟩) (v := ?_) rfl (by kernel_rfl) (by kernel_rfl) (by kernel_rfl) (fun _ _ _ h => h) (Or.inl ⟨by rfl, ?_⟩) hHeld ?_; rotate_left; (· (intro w9 hSw; (try dsimp only at hSw); go_simp; (try with_reducible rfl)))) | (refine wpAnyH_take (i := 5) (oi := ⟨some 49, _, _, _, _, some (2, true)⟩) (v := undef) rfl (by kernel_rfl) (by kernel_rfl) (by kernel_rfl) (fun _ _ _ h => h) (Or.inr ⟨by rfl, rfl⟩) hHeld ?_))
                  (try simp only [Act.put, List.setIfInBounds_toArray, List.set_cons_zero, List.set_cons_succ])
                  (first | (refine wpAnyH_take (i := 6) (oi := ⟨some 50, _, _, _, _, some (2, true)⟩) (v := ?_) rfl (by kernel_rfl) (by kernel_rfl) (by kernel_rfl) (fun _ _ _ h => h) (Or.inl ⟨by rfl, ?_⟩) hHeld ?_; rotate_left; (· (intro w9 hSw; (try dsimp only at hSw); go_simp; (try with_reducible rfl)))) | (refine wpAnyH_take (i := 6) (oi := ⟨some 50, _, _, _, _, some (2, true)⟩) (v := undef) rfl (by kernel_rfl) (by kernel_rfl) (by kernel_rfl) (fun _ _ _ h => h) (Or.inr ⟨by rfl, rfl⟩) hHeld ?_))
                  (try simp only [Act.put, List.setIfInBounds_toArray, List.set_cons_zero, List.set_cons_succ])
                  (first | (refine wpAnyH_take (i := 7) (oi := ⟨some 51, _, _, _, _, some (2, true)⟩) (v := ?_) rfl (by kernel_rfl) (by kernel_rfl) (by kernel_rfl) (fun _ _ _ h => h) (Or.inl ⟨by rfl, ?_⟩) hHeld ?_; rotate_left; (· (intro w9 hSw; (try dsimp only at hSw); go_simp; (try with_reducible rfl)))) | (refine wpAnyH_take (i := 7) (oi := ⟨some 51, _, _, _, _, some (2, true)⟩) (v := undef) rfl (by kernel_rfl) (by kernel_rfl) (by kernel_rfl) (fun _ _ _ h => h) (Or.inr ⟨by rfl, rfl⟩) hHeld ?_))
                  (try simp only [Act.put, List.setIfInBounds_toArray, List.set_cons_zero, List.set_cons_succ])
                  (first | (refine wpAnyH_take (i := 8) (oi := ⟨some 52, _, _, _, _, some (2, true)⟩) (v := ?_) rfl (by kernel_rfl) (by kernel_rfl) (by kernel_rfl) (fun _ _ _ h => h) (Or.inl ⟨by rfl, ?_⟩) hHeld ?_; rotate_left; (· (intro w9 hSw; (try dsimp only at hSw); go_simp; (try with_reducible rfl)))) | (refine wpAnyH_take (i := 8) (oi := ⟨some 52, _, _, _, _, some (2, true)⟩) (v := undef) rfl (by kernel_rfl) (by kernel_rfl) (by kernel_rfl) (fun _ _ _ h => h) (Or.inr ⟨by rfl, rfl⟩) hHeld ?_))
                  (try simp only [Act.put, List.setIfInBounds_toArray, List.set_cons_zero, List.set_cons_succ])
                  (first | (refine wpAnyH_take (i := 9) (oi := ⟨some 53, _, _, _, _, some (2, true)⟩) (v := ?_) rfl (by kernel_rfl) (by kernel_rfl) (by kernel_rfl) (fun _ _ _ h => h) (Or.inl ⟨by rfl, ?_⟩) hHeld ?_; rotate_left; (· (intro w9 hSw; (try dsimp only at hSw); go_simp; (try with_reducible rfl)))) | (refine wpAnyH_take (i := 9) (oi := ⟨some 53, _, _, _, _, some (2, true)⟩) (v := undef) rfl (by kernel_rfl) (by kernel_rfl) (by kernel_rfl) (fun _ _ _ h => h) (Or.inr ⟨by rfl, rfl⟩) hHeld ?_))
                  (try simp only [Act.put, List.setIfInBounds_toArray, List.set_cons_zero, List.set_cons_succ])
                  (first | (refine wpAnyH_take (i := 10) (oi := ⟨some 54, _, _, _, _, some (2, true)⟩) (v := ?_) rfl (by kernel_rfl) (by kernel_rfl) (by kernel_rfl) (fun _ _ _ h => h) (Or.inl ⟨by rfl, ?_⟩) hHeld ?_; rotate_left; (· (intro w9 hSw; (try dsimp only at hSw); go_simp; (try with_reducible rfl)))) | (refine wpAnyH_take (i := 10) (oi := ⟨some 54, _, _, _, _, some (2, true)⟩) (v := undef) rfl (by kernel_rfl) (by kernel_rfl) (by kernel_rfl) (fun _ _ _ h => h) (Or.inr ⟨by rfl, rfl⟩) hHeld ?_))
                  (try simp only [Act.put, List.setIfInBounds_toArray, List.set_cons_zero, List.set_cons_succ])
                  (first | (refine wpAnyH_take (i := 11) (oi := ⟨some 55, _, _, _, _, some (2, true)⟩) (v := ?_) rfl (by kernel_rfl) (by kernel_rfl) (by kernel_rfl) (fun _ _ _ h => h) (Or.inl ⟨by rfl, ?_⟩) hHeld ?_; rotate_left; (· (intro w9 hSw; (try dsimp only at hSw); go_simp; (try with_reducible rfl)))) | (refine wpAnyH_take (i := 11) (oi := ⟨some 55, _, _, _, _, some (2, true)⟩) (v := undef) rfl (by kernel_rfl) (by kernel_rfl) (by kernel_rfl) (fun _ _ _ h => h) (Or.inr ⟨by rfl, rfl⟩) hHeld ?_))
                  (try simp only [Act.put, List.setIfInBounds_toArray, List.set_cons_zero, List.set_cons_succ])
                  (refine wpAnyH_take (i := 12) (oi := ⟨some 56, _, _, _, _, none⟩) (v := ?_) rfl (by kernel_rfl) (by kernel_rfl) (by kernel_rfl) (fun _ _ _ h => h) (Or.inl ⟨by rfl, ?_⟩) hHeld ?_; rotate_left; (· (intro w9 hSw; (try dsimp only at hSw); go_simp; (try with_reducible rfl))))
                  (try simp only [Act.put, List.setIfInBounds_toArray, List.set_cons_zero, List.set_cons_succ])
                  refine wpAnyH_done (by kernel_rfl) ?_ _
                  go_wp2_with fail
                  go_ret
                  exact ⟨rfl, by go_grown⟩
                · replace hgood := hid (hgood.out (by rw [hbe.out]; exact decide_eq_true (by dsimp only; omega)))
                  have cd : decide (a ≤ qa) = false := decide_eq_false c
                  clear c hbad2 hbe
                  go_wp2_with fail
                  refine useF w (s1.out _) (by go_grown) ?_; rintro e w1 rfl hB1 hk1 hf1 hs1
                  replace ht2 := Tab.keep ht2 hk1
                  replace p0 := hk1 _ _ _ p0
                  replace p1 := hk1 _ _ _ p1
                  replace p2 := hk1 _ _ _ p2
                  clear hk1 hf1
                  go_wp2_with fail
                  refine useF w (s2.out _) (by go_grown) ?_; rintro e w2 rfl hB2 hk2 hf2 hs2
                  replace ht2 := Tab.keep ht2 hk2
                  replace p0 := hk2 _ _ _ p0
                  replace p1 := hk2 _ _ _ p1
                  replace p2 := hk2 _ _ _ p2
                  clear hk2 hf2
                  go_wp2_with fail
                  refine useF w (s3.out _) (by go_grown) ?_; rintro e w3 rfl hB3 hk3 hf3 hs3
                  replace ht2 := Tab.keep ht2 hk3
                  replace p0 := hk3 _ _ _ p0
                  replace p1 := hk3 _ _ _ p1
                  replace p2 := hk3 _ _ _ p2
                  clear hk3 hf3
                  go_wp2_with fail
                  refine useF w (s4.out _) (by go_grown) ?_; rintro e w4 rfl hB4 hk4 hf4 hs4
                  replace ht2 := Tab.keep ht2 hk4
                  replace p0 := hk4 _ _ _ p0
                  replace p1 := hk4 _ _ _ p1
                  replace p2 := hk4 _ _ _ p2
                  clear hk4 hf4
                  go_wp2_with fail
                  have q0 := (ht2 j _ hq).1
                  dsimp only at q0
                  refine wp_region_held_drew (S := (fun w' => w'.cell? ⟨wr.heap.size, 0, none⟩ = some (.int .i64 a) ∧ w'.cell? ⟨B, o + j * 3, none⟩ = some (.int .i64 qa))) (by kernel_rfl) (by (try dsimp only); (first | (exact ⟨hk1 _ _ _ (hOld.1), hk1 _ _ _ (hOld.2)⟩) | ((try simp only [World.cell?_drew, World.frozen?_drew]); (repeat' apply And.intro) <;> (first | (with_reducible assumption) | (with_reducible exact ⟨_, by assumption⟩) | (with_reducible exact ⟨_, two_other (by assumption) (by omega)⟩) | (with_reducible exact two_0 (by assumption)) | (with_reducible exact two_1 (by assumption)) | (with_reducible exact two_other (by assumption) (by omega)) | (with_reducible exact two_fz (by assumption)) | (with_reducible exact keepA _ (by assumption)) | (with_reducible exact keepA _ (keepA _ (keepA _ (by assumption)))) | (simp (maxDischargeDepth := 8) [*, go_sem, World.cell?_alloc_some, World.cell?_setCell_far]; done))) | (go_keep; done) | (simp (maxDischargeDepth := 8) [*, go_sem, World.cell?_alloc_some, World.cell?_setCell_far]; done))) (fun hHeld => ?_)
                  (refine wpAnyH_take (i := 0) (oi := ⟨some 44, _, _, _, _, none⟩) (v := ?_) rfl (by kernel_rfl) (by kernel_rfl) (by kernel_rfl) (fun _ _ _ h => h) (Or.inl ⟨by rfl, ?_⟩) hHeld ?_; rotate_left; (· (intro w9 hSw; (try dsimp only at hSw); go_simp; (try with_reducible rfl))))
                  (try simp only [Act.put, List.setIfInBounds_toArray, List.set_cons_zero, List.set_cons_succ])
                  (refine wpAnyH_take (i := 1) (oi := ⟨some 45, _, _, _, _, none⟩) (v := ?_) rfl (by kernel_rfl) (by kernel_rfl) (by kernel_rfl) (fun _ _ _ h => h) (Or.inl ⟨by rfl, ?_⟩) hHeld ?_; rotate_left; (· (intro w9 hSw; (try dsimp only at hSw); go_simp; (try with_reducible rfl))))
                  (try simp only [Act.put, List.setIfInBounds_toArray, List.set_cons_zero, List.set_cons_succ])
                  (refine wpAnyH_take (i := 2) (oi := ⟨some 46, _, _, _, _, none⟩) (v := ?_) rfl (by kernel_rfl) (by kernel_rfl) (by kernel_rfl) (fun _ _ _ h => h) (Or.inl ⟨by rfl, ?_⟩) hHeld ?_; rotate_left; (· (intro w9 hSw; (try dsimp only at hSw); go_simp; (try with_reducible rfl))))
                  (try simp only [Act.put, List.setIfInBounds_toArray, List.set_cons_zero, List.set_cons_succ])
                  (first | (refine wpAnyH_take (i := 3) (oi := ⟨some 47, _, _, _, _, some (2, true)⟩) (v := ?_) rfl (by kernel_rfl) (by kernel_rfl) (by kernel_rfl) (fun _ _ _ h => h) (Or.inl ⟨by rfl, ?_⟩) hHeld ?_; rotate_left; (· (intro w9 hSw; (try dsimp only at hSw); go_simp; (try with_reducible rfl)))) | (refine wpAnyH_take (i := 3) (oi := ⟨some 47, _, _, _, _, some (2, true)⟩) (v := undef) rfl (by kernel_rfl) (by kernel_rfl) (by kernel_rfl) (fun _ _ _ h => h) (Or.inr ⟨by rfl, rfl⟩) hHeld ?_))
                  (try simp only [Act.put, List.setIfInBounds_toArray, List.set_cons_zero, List.set_cons_succ])
                  (first | (refine wpAnyH_take (i := 4) (oi := ⟨some 48, _, _, _, _, some (2, true)⟩) (v := ?_) rfl (by kernel_rfl) (by kernel_rfl) (by kernel_rfl) (fun _ _ _ h => h) (Or.inl ⟨by rfl, ?_⟩) hHeld ?_; rotate_left; (· (intro w9 hSw; (try dsimp only at hSw); go_simp; (try with_reducible rfl)))) | (refine wpAnyH_take (i := 4) (oi := ⟨some 48, _, _, _, _, some (2, true)⟩) (v := undef) rfl (by kernel_rfl) (by kernel_rfl) (by kernel_rfl) (fun _ _ _ h => h) (Or.inr ⟨by rfl, rfl⟩) hHeld ?_))
                  (try simp only [Act.put, List.setIfInBounds_toArray, List.set_cons_zero, List.set_cons_succ])
                  (first | (refine wpAnyH_take (i := 5) (oi := ⟨some 49, _, _, _, _, some (2, true)⟩) (v := ?_) rfl (by kernel_rfl) (by kernel_rfl) (by kernel_rfl) (fun _ _ _ h => h) (Or.inl ⟨by rfl, ?_⟩) hHeld ?_; rotate_left; (· (intro w9 hSw; (try dsimp only at hSw); go_simp; (try with_reducible rfl)))) | (refine wpAnyH_take (i := 5) (oi := ⟨some 49, _, _, _, _, some (2, true)⟩) (v := undef) rfl (by kernel_rfl) (by kernel_rfl) (by kernel_rfl) (fun _ _ _ h => h) (Or.inr ⟨by rfl, rfl⟩) hHeld ?_))
                  (try simp only [Act.put, List.setIfInBounds_toArray, List.set_cons_zero, List.set_cons_succ])
                  (first | (refine wpAnyH_take (i := 6) (oi := ⟨some 50, _, _, _, _, some (2, true)⟩) (v := ?_) rfl (by kernel_rfl) (by kernel_rfl) (by kernel_rfl) (fun _ _ _ h => h) (Or.inl ⟨by rfl, ?_⟩) hHeld ?_; rotate_left; (· (intro w9 hSw; (try dsimp only at hSw); go_simp; (try with_reducible rfl)))) | (refine wpAnyH_take (i := 6) (oi := ⟨some 50, _, _, _, _, some (2, true)⟩) (v := undef) rfl (by kernel_rfl) (by kernel_rfl) (by kernel_rfl) (fun _ _ _ h => h) (Or.inr ⟨by rfl, rfl⟩) hHeld ?_))
                  (try simp only [Act.put, List.setIfInBounds_toArray, List.set_cons_zero, List.set_cons_succ])
                  (first | (refine wpAnyH_take (i := 7) (oi := ⟨some 51, _, _, _, _, some (2, true)⟩) (v := ?_) rfl (by kernel_rfl) (by kernel_rfl) (by kernel_rfl) (fun _ _ _ h => h) (Or.inl ⟨by rfl, ?_⟩) hHeld ?_; rotate_left; (· (intro w9 hSw; (try dsimp only at hSw); go_simp; (try with_reducible rfl)))) | (refine wpAnyH_take (i := 7) (oi := ⟨some 51, _, _, _, _, some (2, true)⟩) (v := undef) rfl (by kernel_rfl) (by kernel_rfl) (by kernel_rfl) (fun _ _ _ h => h) (Or.inr ⟨by rfl, rfl⟩) hHeld ?_))
                  (try simp only [Act.put, List.setIfInBounds_toArray, List.set_cons_zero, List.set_cons_succ])
                  (first | (refine wpAnyH_take (i := 8) (oi := ⟨some 52, _, _, _, _, some (2, true)⟩) (v := ?_) rfl (by kernel_rfl) (by kernel_rfl) (by kernel_rfl) (fun _ _ _ h => h) (Or.inl ⟨by rfl, ?_⟩) hHeld ?_; rotate_left; (· (intro w9 hSw; (try dsimp only at hSw); go_simp; (try with_reducible rfl)))) | (refine wpAnyH_take (i := 8) (oi := ⟨some 52, _, _, _, _, some (2, true)⟩) (v := undef) rfl (by kernel_rfl) (by kernel_rfl) (by kernel_rfl) (fun _ _ _ h => h) (Or.inr ⟨by rfl, rfl⟩) hHeld ?_))
                  (try simp only [Act.put, List.setIfInBounds_toArray, List.set_cons_zero, List.set_cons_succ])
                  (first | (refine wpAnyH_take (i := 9) (oi := ⟨some 53, _, _, _, _, some (2, true)⟩) (v := ?_) rfl (by kernel_rfl) (by kernel_rfl) (by kernel_rfl) (fun _ _ _ h => h) (Or.inl ⟨by rfl, ?_⟩) hHeld ?_; rotate_left; (· (intro w9 hSw; (try dsimp only at hSw); go_simp; (try with_reducible rfl)))) | (refine wpAnyH_take (i := 9) (oi := ⟨some 53, _, _, _, _, some (2, true)⟩) (v := undef) rfl (by kernel_rfl) (by kernel_rfl) (by kernel_rfl) (fun _ _ _ h => h) (Or.inr ⟨by rfl, rfl⟩) hHeld ?_))
                  (try simp only [Act.put, List.setIfInBounds_toArray, List.set_cons_zero, List.set_cons_succ])
                  (first | (refine wpAnyH_take (i := 10) (oi := ⟨some 54, _, _, _, _, some (2, true)⟩) (v := ?_) rfl (by kernel_rfl) (by kernel_rfl) (by kernel_rfl) (fun _ _ _ h => h) (Or.inl ⟨by rfl, ?_⟩) hHeld ?_; rotate_left; (· (intro w9 hSw; (try dsimp only at hSw); go_simp; (try with_reducible rfl)))) | (refine wpAnyH_take (i := 10) (oi := ⟨some 54, _, _, _, _, some (2, true)⟩) (v := undef) rfl (by kernel_rfl) (by kernel_rfl) (by kernel_rfl) (fun _ _ _ h => h) (Or.inr ⟨by rfl, rfl⟩) hHeld ?_))
                  (try simp only [Act.put, List.setIfInBounds_toArray, List.set_cons_zero, List.set_cons_succ])
                  (first | (refine wpAnyH_take (i := 11) (oi := ⟨some 55, _, _, _, _, some (2, true)⟩) (v := ?_) rfl (by kernel_rfl) (by kernel_rfl) (by kernel_rfl) (fun _ _ _ h => h) (Or.inl ⟨by rfl, ?_⟩) hHeld ?_; rotate_left; (· (intro w9 hSw; (try dsimp only at hSw); go_simp; (try with_reducible rfl)))) | (refine wpAnyH_take (i := 11) (oi := ⟨some 55, _, _, _, _, some (2, true)⟩) (v := undef) rfl (by kernel_rfl) (by kernel_rfl) (by kernel_rfl) (fun _ _ _ h => h) (Or.inr ⟨by rfl, rfl⟩) hHeld ?_))
                  (try simp only [Act.put, List.setIfInBounds_toArray, List.set_cons_zero, List.set_cons_succ])
                  (refine wpAnyH_take (i := 12) (oi := ⟨some 56, _, _, _, _, none⟩) (v := ?_) rfl (by kernel_rfl) (by kernel_rfl) (by kernel_rfl) (fun _ _ _ h => h) (Or.inl ⟨by rfl, ?_⟩) hHeld ?_; rotate_left; (· (intro w9 hSw; (try dsimp only at hSw); go_simp; (try with_reducible rfl))))
                  (try simp only [Act.put, List.setIfInBounds_toArray, List.set_cons_zero, List.set_cons_succ])
                  refine wpAnyH_done (by kernel_rfl) ?_ _
                  go_wp2_with fail
                  go_roundw
                  case rel => exact ⟨k + 1, by go_num, by omega, hgood.out, Tab.drew ht2, by go_grown⟩
                  case measure => first | (simp [intOf]; done) | (simp [intOf]; omega)
            · have hr : R = 2 := hbad.out (by rw [hP.out, e1, e2, e3, decide_eq_false e4]; rfl)
              subst hr
              have f4 : (chk lo hi != 0) = true := by simpa using e4
              rw [e1] at s1; replace s1 := hid s1
              rw [e2] at s2; replace s2 := hid s2
              rw [e3] at s3; replace s3 := hid s3
              replace s4 := hid s4
              clear hP hbad hbad2 hgood hR
              go_wp2_with fail
              refine useF w (s1.out _) (by go_grown) ?_; rintro e w1 rfl hB1 hk1 hf1 hs1
              replace ht2 := Tab.keep ht2 hk1
              replace p0 := hk1 _ _ _ p0
              replace p1 := hk1 _ _ _ p1
              replace p2 := hk1 _ _ _ p2
              clear hk1 hf1
              go_wp2_with fail
              refine useF w (s2.out _) (by go_grown) ?_; rintro e w2 rfl hB2 hk2 hf2 hs2
              replace ht2 := Tab.keep ht2 hk2
              replace p0 := hk2 _ _ _ p0
              replace p1 := hk2 _ _ _ p1
              replace p2 := hk2 _ _ _ p2
              clear hk2 hf2
              go_wp2_with fail
              refine useF w (s3.out _) (by go_grown) ?_; rintro e w3 rfl hB3 hk3 hf3 hs3
              replace ht2 := Tab.keep ht2 hk3
              replace p0 := hk3 _ _ _ p0
              replace p1 := hk3 _ _ _ p1
              replace p2 := hk3 _ _ _ p2
              clear hk3 hf3
              go_wp2_with fail
              refine useF w (s4.out _) (by go_grown) ?_; rintro e w4 rfl hB4 hk4 hf4 hs4
              replace ht2 := Tab.keep ht2 hk4
              replace p0 := hk4 _ _ _ p0
              replace p1 := hk4 _ _ _ p1
              replace p2 := hk4 _ _ _ p2
              clear hk4 hf4
              go_wp2_with fail
              go_ret
              exact ⟨rfl, by go_grown⟩
end Go.Proofs.Ytepcifijhnelcaa
