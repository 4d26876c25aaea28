/- A call, and what it leaves. -/
import Derived.Test.YtlpbkifiidlllaaRows
import Derived.Test.YtlpbkifiidlllaaBase
import Derived.Test.YtlpbkifiidlllaaFacts
import Derived.Test.YtlpbkifiidlllaaTwo
import Derived.Deep.RegionHeld3
import Derived.Deep.RegionWith
import Derived.Deep.QuietTactic
import Derived.BigQuiet
import Derived.Test.YtlpbkifiidlllaaSeq
import Derived.Test.YtlpbkifiidlllaaWinM
import Derived.Test.YtlpbkifiidlllaaSlotS
set_option linter.unusedVariables false
set_option linter.unusedSimpArgs false
set_option maxHeartbeats 4000000
set_option maxRecDepth 100000
namespace Go.Proofs.Ytlpbkifiidlllaa
open Go Go.RowKit
theorem useP {P : Program} {f : FuncId} {args : Array Value} (w : World) {W : World} {R : Ending → World → Prop} {Q : Ending → World → Prop} (hc : Calls P f args W (fun e w' => R e w' ∧ Below W.heap.size W w')) (hW : Below w.heap.size w W)
    (k : ∀ e w1, R e w1 → Below w.heap.size w w1 → Below W.heap.size W w1 → Q e w1) : Calls P f args W Q :=
  Calls.mono hc fun e w1 ⟨hr, hb⟩ => k e w1 hr (hW.trans (hb.mono hW.size)) hb
theorem SlotsIn.below {v : Value} {l : List (Int × Int)} {w w1 : World} (h : SlotsIn v l w) (hb : Below w.heap.size w w1) : SlotsIn v l w1 := h.keep fun _ _ _ h => cell_below h hb
theorem SlotsIn.drew {v : Value} {l : List (Int × Int)} {w : World} (h : SlotsIn v l w) : SlotsIn v l w.drew := h.keep fun _ _ _ h => by rw [World.cell?_drew]; exact h
theorem slot_some {l : List (Int × Int)} {k : Nat} (h : k < l.length) : ∃ p, l[k]? = some p := ⟨l[k], List.getElem?_eq_getElem h⟩
theorem same_slots (q1 q2 : Option Addr) (cap1 cap2 : Nat) (l : List (Int × Int)) (w : World) (hl : l.length < 1000000) (h1 : SlotsIn (.slice q1 l.length cap1) l w) (h2 : SlotsIn (.slice q2 l.length cap2) l w) :
    Calls Try.prog 11 #[.slice q1 l.length cap1, .slice q2 l.length cap2] w fun e w' => e = .returned (.bool true) ∧ Below w.heap.size w w' := by
  go_enter Try.func11, Try.ntmps11
  go_wp2_with fail
  go_loopw [5] (fun s wx => ∃ k : Nat, s = .int .i64 k ∧ k ≤ l.length ∧ SlotsIn (.slice q1 l.length cap1) l wx ∧ SlotsIn (.slice q2 l.length cap2) l wx ∧ Below w.heap.size w wx) (fun s _ => (l.length - intOf s).toNat)
  case atStart => exact ⟨0, rfl, Nat.zero_le _, h1, h2, Below.refl _ _⟩
  case round =>
    clear h1 h2
    obtain ⟨k, rfl, hk, h1, h2, hB⟩ := hrel
    by_cases c : k = l.length
    · have c1 : ¬ (k : Int) < l.length := by omega
      clear h1 h2
      go_wp2_with fail
      go_ret
      exact ⟨rfl, by go_grown⟩
    · obtain ⟨⟨a, b⟩, hp⟩ := slot_some (show k < l.length by omega)
      have g1 := h1
      have g2 := h2
      obtain ⟨x1, y1, e1, z1 | ⟨B1, o1, z1, r1⟩⟩ := g1
      · rw [z1] at hk c; simp at hk; simp at c; omega
      obtain ⟨x2, y2, e2, z2 | ⟨B2, o2, z2, r2⟩⟩ := g2
      · rw [z2] at hk c; simp at hk; simp at c; omega
      simp only [Value.slice.injEq] at e1 e2
      obtain ⟨rfl, _, rfl⟩ := e1
      obtain ⟨rfl, _, rfl⟩ := e2
      subst z1 z2
      obtain ⟨c0, c1⟩ := r1 k _ hp
      obtain ⟨d0, d1⟩ := r2 k _ hp
      dsimp only at c0 c1 d0 d1
      have hkc : (k : Int) < l.length := by omega
      replace h1 := hid h1
      replace h2 := hid h2
      clear r1 r2 hp c
      go_wp2_with fail
      refine wp_region_held_drew (S := (fun w' => w'.cell? ⟨B1, o1 + k * 2, none⟩ = some (.int .i64 a) ∧ w'.cell? ⟨B1, o1 + k * 2 + 1, none⟩ = some (.int .i64 b) ∧ w'.cell? ⟨B2, o2 + k * 2, none⟩ = some (.int .i64 a) ∧ w'.cell? ⟨B2, o2 + k * 2 + 1, none⟩ = some (.int .i64 b))) (by kernel_rfl) (by (try dsimp only); (first | (exact ⟨hk1 _ _ _ (hOld.1), hk1 _ _ _ (hOld.2.1), hk1 _ _ _ (hOld.2.2.1), hk1 _ _ _ (hOld.2.2.2)⟩) | ((try simp only [World.cell?_drew, World.frozen?_drew]); (repeat' apply And.intro) <;> (first | (with_reducible assumption) | (with_reducible exact ⟨_, by assumption⟩) | (with_reducible exact ⟨_, two_other (by assumption) (by omega)⟩) | (with_reducible exact two_0 (by assumption)) | (with_reducible exact two_1 (by assumption)) | (with_reducible exact two_other (by assumption) (by omega)) | (with_reducible exact two_fz (by assumption)) | (with_reducible exact keepA _ (by assumption)) | (with_reducible exact keepA _ (keepA _ (keepA _ (by assumption)))) | (simp (maxDischargeDepth := 8) [*, go_sem, World.cell?_alloc_some, World.cell?_setCell_far]; done))) | (go_keep; done) | (simp (maxDischargeDepth := 8) [*, go_sem, World.cell?_alloc_some, World.cell?_setCell_far]; done))) (fun hHeld => ?_)
      (refine wpAnyH_take (i := 0) (oi := ⟨some 17, _, _, _, _, none⟩) (v := ?_) rfl (by kernel_rfl) (by kernel_rfl) (by kernel_rfl) (fun _ _ _ h => h) (Or.inl ⟨by rfl, ?_⟩) hHeld ?_; rotate_left; (· (intro w9 hSw; (try dsimp only at hSw); go_simp; (try with_reducible rfl))))
      (try simp only [Act.put, List.setIfInBounds_toArray, List.set_cons_zero, List.set_cons_succ])
      (refine wpAnyH_take (i := 1) (oi := ⟨some 18, _, _, _, _, none⟩) (v := ?_) rfl (by kernel_rfl) (by kernel_rfl) (by kernel_rfl) (fun _ _ _ h => h) (Or.inl ⟨by rfl, ?_⟩) hHeld ?_; rotate_left; (· (intro w9 hSw; (try dsimp only at hSw); go_simp; (try with_reducible rfl))))
      (try simp only [Act.put, List.setIfInBounds_toArray, List.set_cons_zero, List.set_cons_succ])
      (refine wpAnyH_take (i := 2) (oi := ⟨some 19, _, _, _, _, none⟩) (v := ?_) rfl (by kernel_rfl) (by kernel_rfl) (by kernel_rfl) (fun _ _ _ h => h) (Or.inl ⟨by rfl, ?_⟩) hHeld ?_; rotate_left; (· (intro w9 hSw; (try dsimp only at hSw); go_simp; (try with_reducible rfl))))
      (try simp only [Act.put, List.setIfInBounds_toArray, List.set_cons_zero, List.set_cons_succ])
      (refine wpAnyH_take (i := 3) (oi := ⟨some 20, _, _, _, _, none⟩) (v := ?_) rfl (by kernel_rfl) (by kernel_rfl) (by kernel_rfl) (fun _ _ _ h => h) (Or.inl ⟨by rfl, ?_⟩) hHeld ?_; rotate_left; (· (intro w9 hSw; (try dsimp only at hSw); go_simp; (try with_reducible rfl))))
      (try simp only [Act.put, List.setIfInBounds_toArray, List.set_cons_zero, List.set_cons_succ])
      (refine wpAnyH_take (i := 4) (oi := ⟨some 21, _, _, _, _, none⟩) (v := ?_) rfl (by kernel_rfl) (by kernel_rfl) (by kernel_rfl) (fun _ _ _ h => h) (Or.inl ⟨by rfl, ?_⟩) hHeld ?_; rotate_left; (· (intro w9 hSw; (try dsimp only at hSw); go_simp; (try with_reducible rfl))))
      (try simp only [Act.put, List.setIfInBounds_toArray, List.set_cons_zero, List.set_cons_succ])
      (refine wpAnyH_take (i := 5) (oi := ⟨some 22, _, _, _, _, none⟩) (v := ?_) rfl (by kernel_rfl) (by kernel_rfl) (by kernel_rfl) (fun _ _ _ h => h) (Or.inl ⟨by rfl, ?_⟩) hHeld ?_; rotate_left; (· (intro w9 hSw; (try dsimp only at hSw); go_simp; (try with_reducible rfl))))
      (try simp only [Act.put, List.setIfInBounds_toArray, List.set_cons_zero, List.set_cons_succ])
      (refine wpAnyH_take (i := 6) (oi := ⟨some 23, _, _, _, _, none⟩) (v := ?_) rfl (by kernel_rfl) (by kernel_rfl) (by kernel_rfl) (fun _ _ _ h => h) (Or.inl ⟨by rfl, ?_⟩) hHeld ?_; rotate_left; (· (intro w9 hSw; (try dsimp only at hSw); go_simp; (try with_reducible rfl))))
      (try simp only [Act.put, List.setIfInBounds_toArray, List.set_cons_zero, List.set_cons_succ])
      (refine wpAnyH_take (i := 7) (oi := ⟨some 24, _, _, _, _, none⟩) (v := ?_) rfl (by kernel_rfl) (by kernel_rfl) (by kernel_rfl) (fun _ _ _ h => h) (Or.inl ⟨by rfl, ?_⟩) hHeld ?_; rotate_left; (· (intro w9 hSw; (try dsimp only at hSw); go_simp; (try with_reducible rfl))))
      (try simp only [Act.put, List.setIfInBounds_toArray, List.set_cons_zero, List.set_cons_succ])
      (refine wpAnyH_take (i := 8) (oi := ⟨some 25, _, _, _, _, none⟩) (v := ?_) rfl (by kernel_rfl) (by kernel_rfl) (by kernel_rfl) (fun _ _ _ h => h) (Or.inl ⟨by rfl, ?_⟩) hHeld ?_; rotate_left; (· (intro w9 hSw; (try dsimp only at hSw); go_simp; (try with_reducible rfl))))
      (try simp only [Act.put, List.setIfInBounds_toArray, List.set_cons_zero, List.set_cons_succ])
      refine wpAnyH_done (by kernel_rfl) ?_ _
      go_wp2_with fail
      go_roundw
      case rel => exact ⟨k + 1, by go_num, by omega, SlotsIn.drew h1.out, SlotsIn.drew h2.out, by go_grown⟩
      case measure => first | (simp [intOf]; done) | (simp [intOf]; omega)
end Go.Proofs.Ytlpbkifiidlllaa
