/- lookAt, of package span. -/
import Derived.Deep.DeepCutAuto
import Derived.Deep.CutBlock
import Derived.Test.YtjleflfncijnpaaRows
import Derived.Test.YtjleflfncijnpaaBase
import Derived.Test.YtjleflfncijnpaaFacts
import Derived.Test.YtjleflfncijnpaaTwo
import Derived.Deep.RegionHeld3
import Derived.Deep.RegionWith
import Derived.Deep.QuietTactic
import Derived.BigQuiet
import Derived.Test.YtjleflfncijnpaaW
import Derived.Test.YtjleflfncijnpaaAsks
import Derived.Test.YtjleflfncijnpaaOut
import Derived.Test.YtjleflfncijnpaaSeq
import Derived.Test.YtjleflfncijnpaaTwo
import Derived.Test.YtjleflfncijnpaaQuo
import Derived.Test.YtjleflfncijnpaaRound
import Derived.Test.YtjleflfncijnpaaScaleM
import Derived.Test.YtjleflfncijnpaaTurnM
import Derived.Test.YtjleflfncijnpaaTabM
import Derived.Test.YtjleflfncijnpaaRatioR
import Derived.Test.YtjleflfncijnpaaLookM
import Derived.Test.YtjleflfncijnpaaLook
import Derived.Test.YtjleflfncijnpaaThree
set_option linter.unusedVariables false
set_option linter.unusedSimpArgs false
set_option maxHeartbeats 4000000
set_option maxRecDepth 100000
namespace Go.Proofs.Ytjleflfncijnpaa
open Go Go.RowKit
/-- The cells that lookAt has of its own: the number, and its result's. -/
def LK (b : Nat) (n : Int) : World → Prop := (fun w' => w'.cell? ⟨b, 0, none⟩ = some (.int .i64 n) ∧ w'.cell? ⟨b + 1, 0, none⟩ = some (.int .i64 0) ∧ w'.cell? ⟨b + 1, 1, none⟩ = some (.int .i64 0) ∧ w'.frozen? ⟨b + 1, 0, none⟩ = false ∧ w'.frozen? ⟨b + 1, 1, none⟩ = false)
theorem lookSeg (l : List (Int × Int × Int)) (n : Int) (k : Nat) (hk : k ≤ l.length) (ha : ∀ i p, i < k → l[i]? = some p → p.1 ≤ n) (h : k = l.length ∨ ∃ p, l[k]? = some p ∧ n < p.1) : (k : Int) = (seg l n : Nat) := by rw [seg_eq l k hk ha h]
theorem lookAt_go (l : List (Int × Int × Int)) (n : Int) (B o cap : Nat) (w : World) (ht : Tab B o l w) (hn : 1 ≤ l.length ∧ l.length ≤ 64) (r1 r2 : Int) (hr : Hid ((r1, r2) = lineAt l n))
    (hp1 : Hid (∀ p ∈ l, -2305843009213693952 ≤ p.1 ∧ p.1 ≤ 2305843009213693952 ∧ -2305843009213693952 ≤ p.2.1 ∧ p.2.1 ≤ 2305843009213693952 ∧ -2305843009213693952 ≤ p.2.2 ∧ p.2.2 ≤ 2305843009213693952)) :
    Calls Try.prog 101 #[.slice (some ⟨B, o, none⟩) l.length cap, .int .i64 n] w fun e w' => e = .returned (.agg #[.int .i64 r1, .int .i64 r2]) ∧ Below w.heap.size w w' := by
  have hseg := hid (lookSeg l n)
  have hBw : B < w.heap.size := Tab.lt ht (List.getElem?_eq_getElem (show 0 < l.length by omega))
  go_enter Try.func101, Try.ntmps101
  go_upto_block 0 with fail
  go_cut [5] (fun s wx => s = .int .i64 (seg l n : Nat) ∧ Tab B o l wx ∧ LK w.heap.size n wx ∧ Below w.heap.size w wx)
  case first => as_aux_lemma =>
    go_wp2_with fail
    go_loopw [5] (fun s wx => ∃ k : Nat, s = .int .i64 k ∧ k ≤ l.length ∧ Hid (∀ i p, i < k → l[i]? = some p → p.1 ≤ n) ∧ Tab B o l wx ∧ LK w.heap.size n wx ∧ Below w.heap.size w wx) (fun s _ => (l.length - intOf s).toNat)
    case atStart => exact ⟨0, rfl, by omega, fun i p hi => by omega, Tab.alloc _ (Tab.alloc _ ht), ⟨by simp [go_sem], by simp [go_sem], by simp [go_sem], by simp [go_sem], by simp [go_sem]⟩, by go_grown⟩
    case round =>
      clear ht
      obtain ⟨k, rfl, hk, hall, ht, ⟨n0, z0, z1, zf0, zf1⟩, hB⟩ := hrel
      by_cases ke : k = l.length
      · have hs := hid (hseg.out k hk hall.out (Or.inl ke))
        have kk : ¬ (k : Int) < l.length := by omega
        have kd : decide ((k : Int) < l.length) = false := decide_eq_false kk
        have kd2 : ¬ k < l.length := by omega
        go_wp2_with fail
        refine wp_region_held_drew (S := (fun w' => w'.cell? ⟨w.heap.size, 0, none⟩ = some (.int .i64 n) ∧ w'.cell? ⟨w.heap.size + 1, 0, none⟩ = some (.int .i64 0) ∧ w'.cell? ⟨w.heap.size + 1, 1, none⟩ = some (.int .i64 0) ∧ w'.frozen? ⟨w.heap.size + 1, 0, none⟩ = false ∧ w'.frozen? ⟨w.heap.size + 1, 1, none⟩ = false)) (by kernel_rfl) (by (try dsimp only); (first | (exact ⟨hk1 _ _ _ (hOld.1), hk1 _ _ _ (hOld.2.1), hk1 _ _ _ (hOld.2.2.1), hf1 _ _ _ (hOld.2.1) (hOld.2.2.2.1), hf1 _ _ _ (hOld.2.2.1) (hOld.2.2.2.2)⟩) | ((try simp only [World.cell?_drew, World.frozen?_drew]); (repeat' apply And.intro) <;> (first | (with_reducible assumption) | (with_reducible exact ⟨_, by assumption⟩) | (with_reducible exact ⟨_, two_other (by assumption) (by omega)⟩) | (with_reducible exact two_0 (by assumption)) | (with_reducible exact two_1 (by assumption)) | (with_reducible exact two_other (by assumption) (by omega)) | (with_reducible exact two_fz (by assumption)) | (with_reducible exact keepA _ (by assumption)) | (with_reducible exact keepA _ (keepA _ (keepA _ (by assumption)))) | (simp (maxDischargeDepth := 8) [*, go_sem, World.cell?_alloc_some, World.cell?_setCell_far]; done))) | (go_keep; done) | (simp (maxDischargeDepth := 8) [*, go_sem, World.cell?_alloc_some, World.cell?_setCell_far]; done))) (fun hHeld => ?_)
        (refine wpAnyH_take (i := 0) (oi := ⟨some 13, _, _, _, _, none⟩) (v := ?_) rfl (by kernel_rfl) (by kernel_rfl) (by kernel_rfl) (fun _ _ _ h => h) (Or.inl ⟨by rfl, ?_⟩) hHeld ?_; rotate_left; (· (intro w9 hSw; (try dsimp only at hSw); go_simp; (try with_reducible rfl))))
        (try simp only [Act.put, List.setIfInBounds_toArray, List.set_cons_zero, List.set_cons_succ])
        (refine wpAnyH_take (i := 1) (oi := ⟨some 14, _, _, _, _, none⟩) (v := ?_) rfl (by kernel_rfl) (by kernel_rfl) (by kernel_rfl) (fun _ _ _ h => h) (Or.inl ⟨by rfl, ?_⟩) hHeld ?_; rotate_left; (· (intro w9 hSw; (try dsimp only at hSw); go_simp; (try with_reducible rfl))))
        (try simp only [Act.put, List.setIfInBounds_toArray, List.set_cons_zero, List.set_cons_succ])
        (refine wpAnyH_take (i := 2) (oi := ⟨some 15, _, _, _, _, none⟩) (v := ?_) rfl (by kernel_rfl) (by kernel_rfl) (by kernel_rfl) (fun _ _ _ h => h) (Or.inl ⟨by rfl, ?_⟩) hHeld ?_; rotate_left; (· (intro w9 hSw; (try dsimp only at hSw); go_simp; (try with_reducible rfl))))
        (try simp only [Act.put, List.setIfInBounds_toArray, List.set_cons_zero, List.set_cons_succ])
        (refine wpAnyH_take (i := 3) (oi := ⟨some 16, _, _, _, _, none⟩) (v := ?_) rfl (by kernel_rfl) (by kernel_rfl) (by kernel_rfl) (fun _ _ _ h => h) (Or.inl ⟨by rfl, ?_⟩) hHeld ?_; rotate_left; (· (intro w9 hSw; (try dsimp only at hSw); go_simp; (try with_reducible rfl))))
        (try simp only [Act.put, List.setIfInBounds_toArray, List.set_cons_zero, List.set_cons_succ])
        (refine wpAnyH_take (i := 4) (oi := ⟨some 17, _, _, _, _, none⟩) (v := ?_) rfl (by kernel_rfl) (by kernel_rfl) (by kernel_rfl) (fun _ _ _ h => h) (Or.inl ⟨by rfl, ?_⟩) hHeld ?_; rotate_left; (· (intro w9 hSw; (try dsimp only at hSw); go_simp; (try with_reducible rfl))))
        (try simp only [Act.put, List.setIfInBounds_toArray, List.set_cons_zero, List.set_cons_succ])
        (first | (refine wpAnyH_take (i := 5) (oi := ⟨some 18, _, _, _, _, some (4, true)⟩) (v := ?_) rfl (by kernel_rfl) (by kernel_rfl) (by kernel_rfl) (fun _ _ _ h => h) (Or.inl ⟨by rfl, ?_⟩) hHeld ?_; rotate_left; (· (intro w9 hSw; (try dsimp only at hSw); go_simp; (try with_reducible rfl)))) | (refine wpAnyH_take (i := 5) (oi := ⟨some 18, _, _, _, _, some (4, true)⟩) (v := undef) rfl (by kernel_rfl) (by kernel_rfl) (by kernel_rfl) (fun _ _ _ h => h) (Or.inr ⟨by rfl, rfl⟩) hHeld ?_))
        (try simp only [Act.put, List.setIfInBounds_toArray, List.set_cons_zero, List.set_cons_succ])
        (first | (refine wpAnyH_take (i := 6) (oi := ⟨some 19, _, _, _, _, some (4, true)⟩) (v := ?_) rfl (by kernel_rfl) (by kernel_rfl) (by kernel_rfl) (fun _ _ _ h => h) (Or.inl ⟨by rfl, ?_⟩) hHeld ?_; rotate_left; (· (intro w9 hSw; (try dsimp only at hSw); go_simp; (try with_reducible rfl)))) | (refine wpAnyH_take (i := 6) (oi := ⟨some 19, _, _, _, _, some (4, true)⟩) (v := undef) rfl (by kernel_rfl) (by kernel_rfl) (by kernel_rfl) (fun _ _ _ h => h) (Or.inr ⟨by rfl, rfl⟩) hHeld ?_))
        (try simp only [Act.put, List.setIfInBounds_toArray, List.set_cons_zero, List.set_cons_succ])
        (first | (refine wpAnyH_take (i := 7) (oi := ⟨some 20, _, _, _, _, some (4, true)⟩) (v := ?_) rfl (by kernel_rfl) (by kernel_rfl) (by kernel_rfl) (fun _ _ _ h => h) (Or.inl ⟨by rfl, ?_⟩) hHeld ?_; rotate_left; (· (intro w9 hSw; (try dsimp only at hSw); go_simp; (try with_reducible rfl)))) | (refine wpAnyH_take (i := 7) (oi := ⟨some 20, _, _, _, _, some (4, true)⟩) (v := undef) rfl (by kernel_rfl) (by kernel_rfl) (by kernel_rfl) (fun _ _ _ h => h) (Or.inr ⟨by rfl, rfl⟩) hHeld ?_))
        (try simp only [Act.put, List.setIfInBounds_toArray, List.set_cons_zero, List.set_cons_succ])
        (first | (refine wpAnyH_take (i := 8) (oi := ⟨some 21, _, _, _, _, some (4, true)⟩) (v := ?_) rfl (by kernel_rfl) (by kernel_rfl) (by kernel_rfl) (fun _ _ _ h => h) (Or.inl ⟨by rfl, ?_⟩) hHeld ?_; rotate_left; (· (intro w9 hSw; (try dsimp only at hSw); go_simp; (try with_reducible rfl)))) | (refine wpAnyH_take (i := 8) (oi := ⟨some 21, _, _, _, _, some (4, true)⟩) (v := undef) rfl (by kernel_rfl) (by kernel_rfl) (by kernel_rfl) (fun _ _ _ h => h) (Or.inr ⟨by rfl, rfl⟩) hHeld ?_))
        (try simp only [Act.put, List.setIfInBounds_toArray, List.set_cons_zero, List.set_cons_succ])
        (first | (refine wpAnyH_take (i := 9) (oi := ⟨some 22, _, _, _, _, some (4, true)⟩) (v := ?_) rfl (by kernel_rfl) (by kernel_rfl) (by kernel_rfl) (fun _ _ _ h => h) (Or.inl ⟨by rfl, ?_⟩) hHeld ?_; rotate_left; (· (intro w9 hSw; (try dsimp only at hSw); go_simp; (try with_reducible rfl)))) | (refine wpAnyH_take (i := 9) (oi := ⟨some 22, _, _, _, _, some (4, true)⟩) (v := undef) rfl (by kernel_rfl) (by kernel_rfl) (by kernel_rfl) (fun _ _ _ h => h) (Or.inr ⟨by rfl, rfl⟩) hHeld ?_))
        (try simp only [Act.put, List.setIfInBounds_toArray, List.set_cons_zero, List.set_cons_succ])
        (first | (refine wpAnyH_take (i := 10) (oi := ⟨some 23, _, _, _, _, some (4, true)⟩) (v := ?_) rfl (by kernel_rfl) (by kernel_rfl) (by kernel_rfl) (fun _ _ _ h => h) (Or.inl ⟨by rfl, ?_⟩) hHeld ?_; rotate_left; (· (intro w9 hSw; (try dsimp only at hSw); go_simp; (try with_reducible rfl)))) | (refine wpAnyH_take (i := 10) (oi := ⟨some 23, _, _, _, _, some (4, true)⟩) (v := undef) rfl (by kernel_rfl) (by kernel_rfl) (by kernel_rfl) (fun _ _ _ h => h) (Or.inr ⟨by rfl, rfl⟩) hHeld ?_))
        (try simp only [Act.put, List.setIfInBounds_toArray, List.set_cons_zero, List.set_cons_succ])
        (first | (refine wpAnyH_take (i := 11) (oi := ⟨some 24, _, _, _, _, some (4, true)⟩) (v := ?_) rfl (by kernel_rfl) (by kernel_rfl) (by kernel_rfl) (fun _ _ _ h => h) (Or.inl ⟨by rfl, ?_⟩) hHeld ?_; rotate_left; (· (intro w9 hSw; (try dsimp only at hSw); go_simp; (try with_reducible rfl)))) | (refine wpAnyH_take (i := 11) (oi := ⟨some 24, _, _, _, _, some (4, true)⟩) (v := undef) rfl (by kernel_rfl) (by kernel_rfl) (by kernel_rfl) (fun _ _ _ h => h) (Or.inr ⟨by rfl, rfl⟩) hHeld ?_))
        (try simp only [Act.put, List.setIfInBounds_toArray, List.set_cons_zero, List.set_cons_succ])
        (refine wpAnyH_take (i := 12) (oi := ⟨some 25, _, _, _, _, none⟩) (v := ?_) rfl (by kernel_rfl) (by kernel_rfl) (by kernel_rfl) (fun _ _ _ h => h) (Or.inl ⟨by rfl, ?_⟩) hHeld ?_; rotate_left; (· (intro w9 hSw; (try dsimp only at hSw); go_simp; (try with_reducible rfl))))
        (try simp only [Act.put, List.setIfInBounds_toArray, List.set_cons_zero, List.set_cons_succ])
        refine wpAnyH_done (by kernel_rfl) ?_ _
        obtain ⟨n0, z0, z1, zf0, zf1⟩ := hHeld
        go_wp2_with fail
        go_meet
        exact ⟨by rw [← hs.out, ke], Tab.drew ht, ⟨n0, z0, z1, zf0, zf1⟩, by go_grown⟩
      · have hk1 : k < l.length := by omega
        obtain ⟨p, hp⟩ : ∃ p, l[k]? = some p := ⟨l[k], List.getElem?_eq_getElem hk1⟩
        have c0 := (ht k p hp).1
        obtain ⟨a, lo, hi⟩ := p
        dsimp only at c0
        have hk0 : (0 : Int) ≤ k := by omega
        have hk2 : (k : Int) < l.length := by omega
        by_cases c : a ≤ n
        · have cd : decide (a ≤ n) = true := decide_eq_true c
          have hall2 : Hid (∀ i p, i < k + 1 → l[i]? = some p → p.1 ≤ n) := hid fun i p hi h => by
            by_cases e : i = k
            · subst e; rw [hp] at h; cases h; exact c
            · exact hall.out i p (by omega) h
          clear c hall
          go_wp2_with fail
          refine wp_region_held_drew (S := (fun w' => w'.cell? ⟨w.heap.size, 0, none⟩ = some (.int .i64 n) ∧ w'.cell? ⟨w.heap.size + 1, 0, none⟩ = some (.int .i64 0) ∧ w'.cell? ⟨w.heap.size + 1, 1, none⟩ = some (.int .i64 0) ∧ w'.frozen? ⟨w.heap.size + 1, 0, none⟩ = false ∧ w'.frozen? ⟨w.heap.size + 1, 1, none⟩ = false ∧ w'.cell? ⟨B, o + k * 3, none⟩ = some (.int .i64 a))) (by kernel_rfl) (by (try dsimp only); (first | (exact ⟨hk1 _ _ _ (hOld.1), hk1 _ _ _ (hOld.2.1), hk1 _ _ _ (hOld.2.2.1), hf1 _ _ _ (hOld.2.1) (hOld.2.2.2.1), hf1 _ _ _ (hOld.2.2.1) (hOld.2.2.2.2.1), hk1 _ _ _ (hOld.2.2.2.2.2)⟩) | ((try simp only [World.cell?_drew, World.frozen?_drew]); (repeat' apply And.intro) <;> (first | (with_reducible assumption) | (with_reducible exact ⟨_, by assumption⟩) | (with_reducible exact ⟨_, two_other (by assumption) (by omega)⟩) | (with_reducible exact two_0 (by assumption)) | (with_reducible exact two_1 (by assumption)) | (with_reducible exact two_other (by assumption) (by omega)) | (with_reducible exact two_fz (by assumption)) | (with_reducible exact keepA _ (by assumption)) | (with_reducible exact keepA _ (keepA _ (keepA _ (by assumption)))) | (simp (maxDischargeDepth := 8) [*, go_sem, World.cell?_alloc_some, World.cell?_setCell_far]; done))) | (go_keep; done) | (simp (maxDischargeDepth := 8) [*, go_sem, World.cell?_alloc_some, World.cell?_setCell_far]; done))) (fun hHeld => ?_)
          (refine wpAnyH_take (i := 0) (oi := ⟨some 13, _, _, _, _, none⟩) (v := ?_) rfl (by kernel_rfl) (by kernel_rfl) (by kernel_rfl) (fun _ _ _ h => h) (Or.inl ⟨by rfl, ?_⟩) hHeld ?_; rotate_left; (· (intro w9 hSw; (try dsimp only at hSw); go_simp; (try with_reducible rfl))))
          (try simp only [Act.put, List.setIfInBounds_toArray, List.set_cons_zero, List.set_cons_succ])
          (refine wpAnyH_take (i := 1) (oi := ⟨some 14, _, _, _, _, none⟩) (v := ?_) rfl (by kernel_rfl) (by kernel_rfl) (by kernel_rfl) (fun _ _ _ h => h) (Or.inl ⟨by rfl, ?_⟩) hHeld ?_; rotate_left; (· (intro w9 hSw; (try dsimp only at hSw); go_simp; (try with_reducible rfl))))
          (try simp only [Act.put, List.setIfInBounds_toArray, List.set_cons_zero, List.set_cons_succ])
          (refine wpAnyH_take (i := 2) (oi := ⟨some 15, _, _, _, _, none⟩) (v := ?_) rfl (by kernel_rfl) (by kernel_rfl) (by kernel_rfl) (fun _ _ _ h => h) (Or.inl ⟨by rfl, ?_⟩) hHeld ?_; rotate_left; (· (intro w9 hSw; (try dsimp only at hSw); go_simp; (try with_reducible rfl))))
          (try simp only [Act.put, List.setIfInBounds_toArray, List.set_cons_zero, List.set_cons_succ])
          (refine wpAnyH_take (i := 3) (oi := ⟨some 16, _, _, _, _, none⟩) (v := ?_) rfl (by kernel_rfl) (by kernel_rfl) (by kernel_rfl) (fun _ _ _ h => h) (Or.inl ⟨by rfl, ?_⟩) hHeld ?_; rotate_left; (· (intro w9 hSw; (try dsimp only at hSw); go_simp; (try with_reducible rfl))))
          (try simp only [Act.put, List.setIfInBounds_toArray, List.set_cons_zero, List.set_cons_succ])
          (refine wpAnyH_take (i := 4) (oi := ⟨some 17, _, _, _, _, none⟩) (v := ?_) rfl (by kernel_rfl) (by kernel_rfl) (by kernel_rfl) (fun _ _ _ h => h) (Or.inl ⟨by rfl, ?_⟩) hHeld ?_; rotate_left; (· (intro w9 hSw; (try dsimp only at hSw); go_simp; (try with_reducible rfl))))
          (try simp only [Act.put, List.setIfInBounds_toArray, List.set_cons_zero, List.set_cons_succ])
          (first | (refine wpAnyH_take (i := 5) (oi := ⟨some 18, _, _, _, _, some (4, true)⟩) (v := ?_) rfl (by kernel_rfl) (by kernel_rfl) (by kernel_rfl) (fun _ _ _ h => h) (Or.inl ⟨by rfl, ?_⟩) hHeld ?_; rotate_left; (· (intro w9 hSw; (try dsimp only at hSw); go_simp; (try with_reducible rfl)))) | (refine wpAnyH_take (i := 5) (oi := ⟨some 18, _, _, _, _, some (4, true)⟩) (v := undef) rfl (by kernel_rfl) (by kernel_rfl) (by kernel_rfl) (fun _ _ _ h => h) (Or.inr ⟨by rfl, rfl⟩) hHeld ?_))
          (try simp only [Act.put, List.setIfInBounds_toArray, List.set_cons_zero, List.set_cons_succ])
          (first | (refine wpAnyH_take (i := 6) (oi := ⟨some 19, _, _, _, _, some (4, true)⟩) (v := ?_) rfl (by kernel_rfl) (by kernel_rfl) (by kernel_rfl) (fun _ _ _ h => h) (Or.inl ⟨by rfl, ?_⟩) hHeld ?_; rotate_left; (· (intro w9 hSw; (try dsimp only at hSw); go_simp; (try with_reducible rfl)))) | (refine wpAnyH_take (i := 6) (oi := ⟨some 19, _, _, _, _, some (4, true)⟩) (v := undef) rfl (by kernel_rfl) (by kernel_rfl) (by kernel_rfl) (fun _ _ _ h => h) (Or.inr ⟨by rfl, rfl⟩) hHeld ?_))
          (try simp only [Act.put, List.setIfInBounds_toArray, List.set_cons_zero, List.set_cons_succ])
          (first | (refine wpAnyH_take (i := 7) (oi := ⟨some 20, _, _, _, _, some (4, true)⟩) (v := ?_) rfl (by kernel_rfl) (by kernel_rfl) (by kernel_rfl) (fun _ _ _ h => h) (Or.inl ⟨by rfl, ?_⟩) hHeld ?_; rotate_left; (· (intro w9 hSw; (try dsimp only at hSw); go_simp; (try with_reducible rfl)))) | (refine wpAnyH_take (i := 7) (oi := ⟨some 20, _, _, _, _, some (4, true)⟩) (v := undef) rfl (by kernel_rfl) (by kernel_rfl) (by kernel_rfl) (fun _ _ _ h => h) (Or.inr ⟨by rfl, rfl⟩) hHeld ?_))
          (try simp only [Act.put, List.setIfInBounds_toArray, List.set_cons_zero, List.set_cons_succ])
          (first | (refine wpAnyH_take (i := 8) (oi := ⟨some 21, _, _, _, _, some (4, true)⟩) (v := ?_) rfl (by kernel_rfl) (by kernel_rfl) (by kernel_rfl) (fun _ _ _ h => h) (Or.inl ⟨by rfl, ?_⟩) hHeld ?_; rotate_left; (· (intro w9 hSw; (try dsimp only at hSw); go_simp; (try with_reducible rfl)))) | (refine wpAnyH_take (i := 8) (oi := ⟨some 21, _, _, _, _, some (4, true)⟩) (v := undef) rfl (by kernel_rfl) (by kernel_rfl) (by kernel_rfl) (fun _ _ _ h => h) (Or.inr ⟨by rfl, rfl⟩) hHeld ?_))
          (try simp only [Act.put, List.setIfInBounds_toArray, List.set_cons_zero, List.set_cons_succ])
          (first | (refine wpAnyH_take (i := 9) (oi := ⟨some 22, _, _, _, _, some (4, true)⟩) (v := ?_) rfl (by kernel_rfl) (by kernel_rfl) (by kernel_rfl) (fun _ _ _ h => h) (Or.inl ⟨by rfl, ?_⟩) hHeld ?_; rotate_left; (· (intro w9 hSw; (try dsimp only at hSw); go_simp; (try with_reducible rfl)))) | (refine wpAnyH_take (i := 9) (oi := ⟨some 22, _, _, _, _, some (4, true)⟩) (v := undef) rfl (by kernel_rfl) (by kernel_rfl) (by kernel_rfl) (fun _ _ _ h => h) (Or.inr ⟨by rfl, rfl⟩) hHeld ?_))
          (try simp only [Act.put, List.setIfInBounds_toArray, List.set_cons_zero, List.set_cons_succ])
          (first | (refine wpAnyH_take (i := 10) (oi := ⟨some 23, _, _, _, _, some (4, true)⟩) (v := ?_) rfl (by kernel_rfl) (by kernel_rfl) (by kernel_rfl) (fun _ _ _ h => h) (Or.inl ⟨by rfl, ?_⟩) hHeld ?_; rotate_left; (· (intro w9 hSw; (try dsimp only at hSw); go_simp; (try with_reducible rfl)))) | (refine wpAnyH_take (i := 10) (oi := ⟨some 23, _, _, _, _, some (4, true)⟩) (v := undef) rfl (by kernel_rfl) (by kernel_rfl) (by kernel_rfl) (fun _ _ _ h => h) (Or.inr ⟨by rfl, rfl⟩) hHeld ?_))
          (try simp only [Act.put, List.setIfInBounds_toArray, List.set_cons_zero, List.set_cons_succ])
          (first | (refine wpAnyH_take (i := 11) (oi := ⟨some 24, _, _, _, _, some (4, true)⟩) (v := ?_) rfl (by kernel_rfl) (by kernel_rfl) (by kernel_rfl) (fun _ _ _ h => h) (Or.inl ⟨by rfl, ?_⟩) hHeld ?_; rotate_left; (· (intro w9 hSw; (try dsimp only at hSw); go_simp; (try with_reducible rfl)))) | (refine wpAnyH_take (i := 11) (oi := ⟨some 24, _, _, _, _, some (4, true)⟩) (v := undef) rfl (by kernel_rfl) (by kernel_rfl) (by kernel_rfl) (fun _ _ _ h => h) (Or.inr ⟨by rfl, rfl⟩) hHeld ?_))
          (try simp only [Act.put, List.setIfInBounds_toArray, List.set_cons_zero, List.set_cons_succ])
          (refine wpAnyH_take (i := 12) (oi := ⟨some 25, _, _, _, _, none⟩) (v := ?_) rfl (by kernel_rfl) (by kernel_rfl) (by kernel_rfl) (fun _ _ _ h => h) (Or.inl ⟨by rfl, ?_⟩) hHeld ?_; rotate_left; (· (intro w9 hSw; (try dsimp only at hSw); go_simp; (try with_reducible rfl))))
          (try simp only [Act.put, List.setIfInBounds_toArray, List.set_cons_zero, List.set_cons_succ])
          refine wpAnyH_done (by kernel_rfl) ?_ _
          obtain ⟨n0, z0, z1, zf0, zf1, c0⟩ := hHeld
          go_wp2_with fail
          go_roundw
          case rel => exact ⟨k + 1, by go_num, by omega, hall2, Tab.drew ht, ⟨n0, z0, z1, zf0, zf1⟩, by go_grown⟩
          case measure => first | (simp [intOf]; done) | (simp [intOf]; omega)
        · have hs := hid (hseg.out k hk hall.out (Or.inr ⟨_, hp, by dsimp only; omega⟩))
          have cd : decide (a ≤ n) = false := decide_eq_false c
          clear c hall
          go_wp2_with fail
          refine wp_region_held_drew (S := (fun w' => w'.cell? ⟨w.heap.size, 0, none⟩ = some (.int .i64 n) ∧ w'.cell? ⟨w.heap.size + 1, 0, none⟩ = some (.int .i64 0) ∧ w'.cell? ⟨w.heap.size + 1, 1, none⟩ = some (.int .i64 0) ∧ w'.frozen? ⟨w.heap.size + 1, 0, none⟩ = false ∧ w'.frozen? ⟨w.heap.size + 1, 1, none⟩ = false ∧ w'.cell? ⟨B, o + k * 3, none⟩ = some (.int .i64 a))) (by kernel_rfl) (by (try dsimp only); (first | (exact ⟨hk1 _ _ _ (hOld.1), hk1 _ _ _ (hOld.2.1), hk1 _ _ _ (hOld.2.2.1), hf1 _ _ _ (hOld.2.1) (hOld.2.2.2.1), hf1 _ _ _ (hOld.2.2.1) (hOld.2.2.2.2.1), hk1 _ _ _ (hOld.2.2.2.2.2)⟩) | ((try simp only [World.cell?_drew, World.frozen?_drew]); (repeat' apply And.intro) <;> (first | (with_reducible assumption) | (with_reducible exact ⟨_, by assumption⟩) | (with_reducible exact ⟨_, two_other (by assumption) (by omega)⟩) | (with_reducible exact two_0 (by assumption)) | (with_reducible exact two_1 (by assumption)) | (with_reducible exact two_other (by assumption) (by omega)) | (with_reducible exact two_fz (by assumption)) | (with_reducible exact keepA _ (by assumption)) | (with_reducible exact keepA _ (keepA _ (keepA _ (by assumption)))) | (simp (maxDischargeDepth := 8) [*, go_sem, World.cell?_alloc_some, World.cell?_setCell_far]; done))) | (go_keep; done) | (simp (maxDischargeDepth := 8) [*, go_sem, World.cell?_alloc_some, World.cell?_setCell_far]; done))) (fun hHeld => ?_)
          (refine wpAnyH_take (i := 0) (oi := ⟨some 13, _, _, _, _, none⟩) (v := ?_) rfl (by kernel_rfl) (by kernel_rfl) (by kernel_rfl) (fun _ _ _ h => h) (Or.inl ⟨by rfl, ?_⟩) hHeld ?_; rotate_left; (· (intro w9 hSw; (try dsimp only at hSw); go_simp; (try with_reducible rfl))))
          (try simp only [Act.put, List.setIfInBounds_toArray, List.set_cons_zero, List.set_cons_succ])
          (refine wpAnyH_take (i := 1) (oi := ⟨some 14, _, _, _, _, none⟩) (v := ?_) rfl (by kernel_rfl) (by kernel_rfl) (by kernel_rfl) (fun _ _ _ h => h) (Or.inl ⟨by rfl, ?_⟩) hHeld ?_; rotate_left; (· (intro w9 hSw; (try dsimp only at hSw); go_simp; (try with_reducible rfl))))
          (try simp only [Act.put, List.setIfInBounds_toArray, List.set_cons_zero, List.set_cons_succ])
          (refine wpAnyH_take (i := 2) (oi := ⟨some 15, _, _, _, _, none⟩) (v := ?_) rfl (by kernel_rfl) (by kernel_rfl) (by kernel_rfl) (fun _ _ _ h => h) (Or.inl ⟨by rfl, ?_⟩) hHeld ?_; rotate_left; (· (intro w9 hSw; (try dsimp only at hSw); go_simp; (try with_reducible rfl))))
          (try simp only [Act.put, List.setIfInBounds_toArray, List.set_cons_zero, List.set_cons_succ])
          (refine wpAnyH_take (i := 3) (oi := ⟨some 16, _, _, _, _, none⟩) (v := ?_) rfl (by kernel_rfl) (by kernel_rfl) (by kernel_rfl) (fun _ _ _ h => h) (Or.inl ⟨by rfl, ?_⟩) hHeld ?_; rotate_left; (· (intro w9 hSw; (try dsimp only at hSw); go_simp; (try with_reducible rfl))))
          (try simp only [Act.put, List.setIfInBounds_toArray, List.set_cons_zero, List.set_cons_succ])
          (refine wpAnyH_take (i := 4) (oi := ⟨some 17, _, _, _, _, none⟩) (v := ?_) rfl (by kernel_rfl) (by kernel_rfl) (by kernel_rfl) (fun _ _ _ h => h) (Or.inl ⟨by rfl, ?_⟩) hHeld ?_; rotate_left; (· (intro w9 hSw; (try dsimp only at hSw); go_simp; (try with_reducible rfl))))
          (try simp only [Act.put, List.setIfInBounds_toArray, List.set_cons_zero, List.set_cons_succ])
          (first | (refine wpAnyH_take (i := 5) (oi := ⟨some 18, _, _, _, _, some (4, true)⟩) (v := ?_) rfl (by kernel_rfl) (by kernel_rfl) (by kernel_rfl) (fun _ _ _ h => h) (Or.inl ⟨by rfl, ?_⟩) hHeld ?_; rotate_left; (· (intro w9 hSw; (try dsimp only at hSw); go_simp; (try with_reducible rfl)))) | (refine wpAnyH_take (i := 5) (oi := ⟨some 18, _, _, _, _, some (4, true)⟩) (v := undef) rfl (by kernel_rfl) (by kernel_rfl) (by kernel_rfl) (fun _ _ _ h => h) (Or.inr ⟨by rfl, rfl⟩) hHeld ?_))
          (try simp only [Act.put, List.setIfInBounds_toArray, List.set_cons_zero, List.set_cons_succ])
          (first | (refine wpAnyH_take (i := 6) (oi := ⟨some 19, _, _, _, _, some (4, true)⟩) (v := ?_) rfl (by kernel_rfl) (by kernel_rfl) (by kernel_rfl) (fun _ _ _ h => h) (Or.inl ⟨by rfl, ?_⟩) hHeld ?_; rotate_left; (· (intro w9 hSw; (try dsimp only at hSw); go_simp; (try with_reducible rfl)))) | (refine wpAnyH_take (i := 6) (oi := ⟨some 19, _, _, _, _, some (4, true)⟩) (v := undef) rfl (by kernel_rfl) (by kernel_rfl) (by kernel_rfl) (fun _ _ _ h => h) (Or.inr ⟨by rfl, rfl⟩) hHeld ?_))
          (try simp only [Act.put, List.setIfInBounds_toArray, List.set_cons_zero, List.set_cons_succ])
          (first | (refine wpAnyH_take (i := 7) (oi := ⟨some 20, _, _, _, _, some (4, true)⟩) (v := ?_) rfl (by kernel_rfl) (by kernel_rfl) (by kernel_rfl) (fun _ _ _ h => h) (Or.inl ⟨by rfl, ?_⟩) hHeld ?_; rotate_left; (· (intro w9 hSw; (try dsimp only at hSw); go_simp; (try with_reducible rfl)))) | (refine wpAnyH_take (i := 7) (oi := ⟨some 20, _, _, _, _, some (4, true)⟩) (v := undef) rfl (by kernel_rfl) (by kernel_rfl) (by kernel_rfl) (fun _ _ _ h => h) (Or.inr ⟨by rfl, rfl⟩) hHeld ?_))
          (try simp only [Act.put, List.setIfInBounds_toArray, List.set_cons_zero, List.set_cons_succ])
          (first | (refine wpAnyH_take (i := 8) (oi := ⟨some 21, _, _, _, _, some (4, true)⟩) (v := ?_) rfl (by kernel_rfl) (by kernel_rfl) (by kernel_rfl) (fun _ _ _ h => h) (Or.inl ⟨by rfl, ?_⟩) hHeld ?_; rotate_left; (· (intro w9 hSw; (try dsimp only at hSw); go_simp; (try with_reducible rfl)))) | (refine wpAnyH_take (i := 8) (oi := ⟨some 21, _, _, _, _, some (4, true)⟩) (v := undef) rfl (by kernel_rfl) (by kernel_rfl) (by kernel_rfl) (fun _ _ _ h => h) (Or.inr ⟨by rfl, rfl⟩) hHeld ?_))
          (try simp only [Act.put, List.setIfInBounds_toArray, List.set_cons_zero, List.set_cons_succ])
          (first | (refine wpAnyH_take (i := 9) (oi := ⟨some 22, _, _, _, _, some (4, true)⟩) (v := ?_) rfl (by kernel_rfl) (by kernel_rfl) (by kernel_rfl) (fun _ _ _ h => h) (Or.inl ⟨by rfl, ?_⟩) hHeld ?_; rotate_left; (· (intro w9 hSw; (try dsimp only at hSw); go_simp; (try with_reducible rfl)))) | (refine wpAnyH_take (i := 9) (oi := ⟨some 22, _, _, _, _, some (4, true)⟩) (v := undef) rfl (by kernel_rfl) (by kernel_rfl) (by kernel_rfl) (fun _ _ _ h => h) (Or.inr ⟨by rfl, rfl⟩) hHeld ?_))
          (try simp only [Act.put, List.setIfInBounds_toArray, List.set_cons_zero, List.set_cons_succ])
          (first | (refine wpAnyH_take (i := 10) (oi := ⟨some 23, _, _, _, _, some (4, true)⟩) (v := ?_) rfl (by kernel_rfl) (by kernel_rfl) (by kernel_rfl) (fun _ _ _ h => h) (Or.inl ⟨by rfl, ?_⟩) hHeld ?_; rotate_left; (· (intro w9 hSw; (try dsimp only at hSw); go_simp; (try with_reducible rfl)))) | (refine wpAnyH_take (i := 10) (oi := ⟨some 23, _, _, _, _, some (4, true)⟩) (v := undef) rfl (by kernel_rfl) (by kernel_rfl) (by kernel_rfl) (fun _ _ _ h => h) (Or.inr ⟨by rfl, rfl⟩) hHeld ?_))
          (try simp only [Act.put, List.setIfInBounds_toArray, List.set_cons_zero, List.set_cons_succ])
          (first | (refine wpAnyH_take (i := 11) (oi := ⟨some 24, _, _, _, _, some (4, true)⟩) (v := ?_) rfl (by kernel_rfl) (by kernel_rfl) (by kernel_rfl) (fun _ _ _ h => h) (Or.inl ⟨by rfl, ?_⟩) hHeld ?_; rotate_left; (· (intro w9 hSw; (try dsimp only at hSw); go_simp; (try with_reducible rfl)))) | (refine wpAnyH_take (i := 11) (oi := ⟨some 24, _, _, _, _, some (4, true)⟩) (v := undef) rfl (by kernel_rfl) (by kernel_rfl) (by kernel_rfl) (fun _ _ _ h => h) (Or.inr ⟨by rfl, rfl⟩) hHeld ?_))
          (try simp only [Act.put, List.setIfInBounds_toArray, List.set_cons_zero, List.set_cons_succ])
          (refine wpAnyH_take (i := 12) (oi := ⟨some 25, _, _, _, _, none⟩) (v := ?_) rfl (by kernel_rfl) (by kernel_rfl) (by kernel_rfl) (fun _ _ _ h => h) (Or.inl ⟨by rfl, ?_⟩) hHeld ?_; rotate_left; (· (intro w9 hSw; (try dsimp only at hSw); go_simp; (try with_reducible rfl))))
          (try simp only [Act.put, List.setIfInBounds_toArray, List.set_cons_zero, List.set_cons_succ])
          refine wpAnyH_done (by kernel_rfl) ?_ _
          obtain ⟨n0, z0, z1, zf0, zf1, c0⟩ := hHeld
          go_wp2_with fail
          go_meet
          exact ⟨by rw [hs.out], Tab.drew ht, ⟨n0, z0, z1, zf0, zf1⟩, by go_grown⟩
  case rest =>
    obtain ⟨rfl, ht, ⟨n0, z0, z1, zf0, zf1⟩, hB⟩ := hcut
    have hle := seg_le l n
    obtain ⟨hs1, hs2⟩ := seg_spec n l
    replace hr := hr.out
    unfold lineAt at hr
    clear hseg
    generalize seg l n = K at *
    by_cases e0 : K = 0
    · obtain ⟨p, hp⟩ : ∃ p, l[0]? = some p := ⟨l[0]'(by omega), List.getElem?_eq_getElem (by omega)⟩
      rw [if_pos e0, hp] at hr
      obtain ⟨_, c1, c2⟩ := ht 0 p hp
      obtain ⟨a, lo, hi⟩ := p
      simp only [Nat.zero_mul, Nat.add_zero] at c1 c2
      cases hr
      subst e0
      clear ht hle hp hp1
      have hl0 : (0 : Int) < l.length := by omega
      go_wp2_with fail
      all_goals (refine' bodyPost_ret (res_st rfl isA_S isS_S rfl ?_ ?_) rfl ?_; rotate_left 2; (· ((try simp only [World.cell?_drew]); first | (with_reducible exact two_0 (by assumption)) | (with_reducible exact two_1 (by assumption)) | (with_reducible exact two_other (two_0 (by assumption)) (by simp)) | (with_reducible exact two_other (two_1 (by assumption)) (by simp)) | (with_reducible exact two_0 (two_other (by assumption) (by simp))) | (with_reducible exact two_1 (two_other (by assumption) (by simp))) | (simp (maxDischargeDepth := 8) [go_sem, hHeld]; rfl) | (simp (maxDischargeDepth := 8) [go_sem, *]; rfl) | (simp (maxDischargeDepth := 8) [go_sem, *]; done))); (· ((try simp only [World.cell?_drew]); first | (with_reducible exact two_0 (by assumption)) | (with_reducible exact two_1 (by assumption)) | (with_reducible exact two_other (two_0 (by assumption)) (by simp)) | (with_reducible exact two_other (two_1 (by assumption)) (by simp)) | (with_reducible exact two_0 (two_other (by assumption) (by simp))) | (with_reducible exact two_1 (two_other (by assumption) (by simp))) | (simp (maxDischargeDepth := 8) [go_sem, hHeld]; rfl) | (simp (maxDischargeDepth := 8) [go_sem, *]; rfl) | (simp (maxDischargeDepth := 8) [go_sem, *]; done))); refine ⟨ret_s ?_ ?_, by go_grown⟩ <;> (rfl))
    · rw [if_neg e0] at hr
      have hz : ((K : Nat) : Int) ≠ 0 := by omega
      have hzb : (((K : Nat) : Int) == 0) = false := by simpa using e0
      have hzk : (K == 0) = false := by simpa using e0
      by_cases e1 : K = l.length
      · rw [if_pos e1] at hr
        obtain ⟨p, hp⟩ : ∃ p, l[l.length - 1]? = some p := ⟨l[l.length - 1]'(by omega), List.getElem?_eq_getElem (by omega)⟩
        rw [hp] at hr
        obtain ⟨_, c1, c2⟩ := ht _ p hp
        obtain ⟨a, lo, hi⟩ := p
        dsimp only at c1 c2
        cases hr
        subst e1
        have hw : wrap64 ((l.length : Int) - 1) = ((l.length - 1 : Nat) : Int) := by simp only [wrap64]; omega
        have hw2 : IntKind.i64.wrap ((l.length : Int) - 1) = ((l.length - 1 : Nat) : Int) := by rw [IntKind.wrap_i64]; omega
        have hj0 : (0 : Int) ≤ ((l.length - 1 : Nat) : Int) := by omega
        have hj1 : ((l.length - 1 : Nat) : Int) < l.length := by omega
        generalize l.length - 1 = J at *
        clear ht hp hp1 hle e0
        go_wp2_with fail
        all_goals (refine' bodyPost_ret (res_st rfl isA_S isS_S rfl ?_ ?_) rfl ?_; rotate_left 2; (· ((try simp only [World.cell?_drew]); first | (with_reducible exact two_0 (by assumption)) | (with_reducible exact two_1 (by assumption)) | (with_reducible exact two_other (two_0 (by assumption)) (by simp)) | (with_reducible exact two_other (two_1 (by assumption)) (by simp)) | (with_reducible exact two_0 (two_other (by assumption) (by simp))) | (with_reducible exact two_1 (two_other (by assumption) (by simp))) | (simp (maxDischargeDepth := 8) [go_sem, hHeld]; rfl) | (simp (maxDischargeDepth := 8) [go_sem, *]; rfl) | (simp (maxDischargeDepth := 8) [go_sem, *]; done))); (· ((try simp only [World.cell?_drew]); first | (with_reducible exact two_0 (by assumption)) | (with_reducible exact two_1 (by assumption)) | (with_reducible exact two_other (two_0 (by assumption)) (by simp)) | (with_reducible exact two_other (two_1 (by assumption)) (by simp)) | (with_reducible exact two_0 (two_other (by assumption) (by simp))) | (with_reducible exact two_1 (two_other (by assumption) (by simp))) | (simp (maxDischargeDepth := 8) [go_sem, hHeld]; rfl) | (simp (maxDischargeDepth := 8) [go_sem, *]; rfl) | (simp (maxDischargeDepth := 8) [go_sem, *]; done))); refine ⟨ret_s ?_ ?_, by go_grown⟩ <;> (rfl))
      · rw [if_neg e1] at hr
        have hK : K < l.length := by omega
        obtain ⟨q, hq, hqn⟩ := hs2 hK
        obtain ⟨J, hJ⟩ : ∃ J, K = J + 1 := ⟨K - 1, by omega⟩
        obtain ⟨p, hp⟩ : ∃ p, l[J]? = some p := ⟨l[J]'(by omega), List.getElem?_eq_getElem (by omega)⟩
        have hpn := hs1 J p (by omega) hp
        rw [show K - 1 = J by omega, hp, hq] at hr
        obtain ⟨c0, c1, c2⟩ := ht J p hp
        obtain ⟨b0, b1, b2⟩ := ht K q hq
        have hpp := hp1.out p (List.mem_of_getElem? hp)
        have hqq := hp1.out q (List.mem_of_getElem? hq)
        obtain ⟨a, lo, hi⟩ := p
        obtain ⟨d, lp, hj⟩ := q
        dsimp only at c0 c1 c2 b0 b1 b2 hpn hqn hr hpp hqq
        have s1 := hid (fun Ba Bb Bc W g => along_any lo lp n a d Ba Bb Bc W g (by omega) (by omega) (by omega))
        have s2 := hid (fun Ba Bb Bc W g => along_any hi hj n a d Ba Bb Bc W g (by omega) (by omega) (by omega))
        have hw : wrap64 ((K : Int) - 1) = (J : Int) := by simp only [wrap64]; omega
        have hw2 : IntKind.i64.wrap ((K : Int) - 1) = (J : Int) := by rw [IntKind.wrap_i64]; omega
        have hj0 : (0 : Int) ≤ (J : Int) := by omega
        have hj1 : (J : Int) < l.length := by omega
        have hk0 : (0 : Int) ≤ (K : Int) := by omega
        have hk1 : (K : Int) < l.length := by omega
        have hzl : ¬ (l.length : Int) = K := by omega
        have hzc : ((K : Int) == (l.length : Int)) = false := beq_eq_false_iff_ne.2 (by omega)
        have hzd : (K == l.length) = false := by simpa using e1
        have hbl := World.block_lt_of_cell? _ _ z0
        have hwb : B < wc.heap.size := World.block_lt_of_cell? wc ⟨B, _, none⟩ c0
        cases hr
        clear ht hp hq hp1 hle e0 hs1 hs2 hpp hqq hpn hqn hJ e1
        go_wp2_with fail
        refine wp_region_held_drew (S := (fun w' => w'.cell? ⟨w.heap.size, 0, none⟩ = some (.int .i64 n) ∧ w'.cell? ⟨w.heap.size + 1, 0, none⟩ = some (.int .i64 0) ∧ w'.cell? ⟨w.heap.size + 1, 1, none⟩ = some (.int .i64 0) ∧ w'.frozen? ⟨w.heap.size + 1, 0, none⟩ = false ∧ w'.frozen? ⟨w.heap.size + 1, 1, none⟩ = false ∧ w'.cell? ⟨B, o + J * 3, none⟩ = some (.int .i64 a) ∧ w'.cell? ⟨B, o + J * 3 + 1, none⟩ = some (.int .i64 lo) ∧ w'.cell? ⟨B, o + J * 3 + 2, none⟩ = some (.int .i64 hi) ∧ w'.cell? ⟨B, o + K * 3, none⟩ = some (.int .i64 d) ∧ w'.cell? ⟨B, o + K * 3 + 1, none⟩ = some (.int .i64 lp) ∧ w'.cell? ⟨B, o + K * 3 + 2, none⟩ = some (.int .i64 hj))) (by kernel_rfl) (by (try dsimp only); simp only [World.cell?_drew, World.frozen?_drew]; exact ⟨n0, z0, z1, zf0, zf1, c0, c1, c2, b0, b1, b2⟩) (fun hHeld => ?_)
        have hBq0 : Below w.heap.size w wc.drew := by go_grown
        (try dsimp only at hHeld)
        clear n0 z0 z1 zf0 zf1 c0 c1 c2 b0 b1 b2
        generalize wc.drew = wq0 at *
        have hzq0 : w.heap.size ≤ wq0.heap.size := hBq0.size
        (refine wpAnyH_take (i := 0) (oi := ⟨some 46, _, _, _, _, none⟩) (v := ?_) rfl (by kernel_rfl) (by kernel_rfl) (by kernel_rfl) (fun _ _ _ h => h) (Or.inl ⟨by rfl, ?_⟩) hHeld ?_; rotate_left; (· (intro w9 hSw; (try dsimp only at hSw); go_simp; (try with_reducible rfl))))
        (try simp only [Act.put, List.setIfInBounds_toArray, List.set_cons_zero, List.set_cons_succ])
        (refine wpAnyH_take (i := 1) (oi := ⟨some 47, _, _, _, _, none⟩) (v := ?_) rfl (by kernel_rfl) (by kernel_rfl) (by kernel_rfl) (fun _ _ _ h => h) (Or.inl ⟨by rfl, ?_⟩) hHeld ?_; rotate_left; (· (intro w9 hSw; (try dsimp only at hSw); go_simp; (try with_reducible rfl))))
        (try simp only [Act.put, List.setIfInBounds_toArray, List.set_cons_zero, List.set_cons_succ])
        (refine wpAnyH_take (i := 2) (oi := ⟨some 48, _, _, _, _, none⟩) (v := ?_) rfl (by kernel_rfl) (by kernel_rfl) (by kernel_rfl) (fun _ _ _ h => h) (Or.inl ⟨by rfl, ?_⟩) hHeld ?_; rotate_left; (· (intro w9 hSw; (try dsimp only at hSw); go_simp; (try with_reducible rfl))))
        (try simp only [Act.put, List.setIfInBounds_toArray, List.set_cons_zero, List.set_cons_succ])
        (refine wpAnyH_take (i := 3) (oi := ⟨some 49, _, _, _, _, none⟩) (v := ?_) rfl (by kernel_rfl) (by kernel_rfl) (by kernel_rfl) (fun _ _ _ h => h) (Or.inl ⟨by rfl, ?_⟩) hHeld ?_; rotate_left; (· (intro w9 hSw; (try dsimp only at hSw); go_simp; (try with_reducible rfl))))
        (try simp only [Act.put, List.setIfInBounds_toArray, List.set_cons_zero, List.set_cons_succ])
        (refine wpAnyH_take (i := 4) (oi := ⟨some 50, _, _, _, _, none⟩) (v := ?_) rfl (by kernel_rfl) (by kernel_rfl) (by kernel_rfl) (fun _ _ _ h => h) (Or.inl ⟨by rfl, ?_⟩) hHeld ?_; rotate_left; (· (intro w9 hSw; (try dsimp only at hSw); go_simp; (try with_reducible rfl))))
        (try simp only [Act.put, List.setIfInBounds_toArray, List.set_cons_zero, List.set_cons_succ])
        (refine wpAnyH_take (i := 5) (oi := ⟨some 51, _, _, _, _, none⟩) (v := ?_) rfl (by kernel_rfl) (by kernel_rfl) (by kernel_rfl) (fun _ _ _ h => h) (Or.inl ⟨by rfl, ?_⟩) hHeld ?_; rotate_left; (· (intro w9 hSw; (try dsimp only at hSw); go_simp; (try with_reducible rfl))))
        (try simp only [Act.put, List.setIfInBounds_toArray, List.set_cons_zero, List.set_cons_succ])
        (refine wpAnyH_take (i := 6) (oi := ⟨some 52, _, _, _, _, none⟩) (v := ?_) rfl (by kernel_rfl) (by kernel_rfl) (by kernel_rfl) (fun _ _ _ h => h) (Or.inl ⟨by rfl, ?_⟩) hHeld ?_; rotate_left; (· (intro w9 hSw; (try dsimp only at hSw); go_simp; (try with_reducible rfl))))
        (try simp only [Act.put, List.setIfInBounds_toArray, List.set_cons_zero, List.set_cons_succ])
        (refine wpAnyH_take (i := 7) (oi := ⟨some 53, _, _, _, _, none⟩) (v := ?_) rfl (by kernel_rfl) (by kernel_rfl) (by kernel_rfl) (fun _ _ _ h => h) (Or.inl ⟨by rfl, ?_⟩) hHeld ?_; rotate_left; (· (intro w9 hSw; (try dsimp only at hSw); go_simp; (try with_reducible rfl))))
        (try simp only [Act.put, List.setIfInBounds_toArray, List.set_cons_zero, List.set_cons_succ])
        (refine wpAnyH_take (i := 8) (oi := ⟨some 54, _, _, _, _, none⟩) (v := ?_) rfl (by kernel_rfl) (by kernel_rfl) (by kernel_rfl) (fun _ _ _ h => h) (Or.inl ⟨by rfl, ?_⟩) hHeld ?_; rotate_left; (· (intro w9 hSw; (try dsimp only at hSw); go_simp; (try with_reducible rfl))))
        (try simp only [Act.put, List.setIfInBounds_toArray, List.set_cons_zero, List.set_cons_succ])
        refine wpAnyH_ready (rs := [9, 10]) (by kernel_rfl) (by simp) ?_
        refine AllReadyH.cons (o := ⟨some 6, _, _, _, _, none⟩) rfl (fun K hK => ?_) (AllReadyH.cons (o := ⟨some 7, _, _, _, _, none⟩) rfl (fun K hK => ?_) (AllReadyH.nil))
        ·
         (try dsimp only at hHeld)
         have hBq1 : Below w.heap.size w (wq0.alloc (Obj.cells #[.int .i64 0, .int .i64 0, .int .i64 0] 63)) := by go_grown
         have nn90 : (wq0.alloc (Obj.cells #[.int .i64 0, .int .i64 0, .int .i64 0] 63)).cell? ⟨wq0.heap.size, 0, none⟩ = some (.int .i64 0) := by simp [go_sem]
         have nn9f0 : (wq0.alloc (Obj.cells #[.int .i64 0, .int .i64 0, .int .i64 0] 63)).frozen? ⟨wq0.heap.size, 0, none⟩ = false := by simp [go_sem]
         have nn91 : (wq0.alloc (Obj.cells #[.int .i64 0, .int .i64 0, .int .i64 0] 63)).cell? ⟨wq0.heap.size, 1, none⟩ = some (.int .i64 0) := by simp [go_sem]
         have nn9f1 : (wq0.alloc (Obj.cells #[.int .i64 0, .int .i64 0, .int .i64 0] 63)).frozen? ⟨wq0.heap.size, 1, none⟩ = false := by simp [go_sem]
         have nn92 : (wq0.alloc (Obj.cells #[.int .i64 0, .int .i64 0, .int .i64 0] 63)).cell? ⟨wq0.heap.size, 2, none⟩ = some (.int .i64 0) := by simp [go_sem]
         have nn9f2 : (wq0.alloc (Obj.cells #[.int .i64 0, .int .i64 0, .int .i64 0] 63)).frozen? ⟨wq0.heap.size, 2, none⟩ = false := by simp [go_sem]
         have nn9l0 : w.heap.size < wq0.heap.size := World.block_lt_of_cell? _ ⟨w.heap.size, 0, none⟩ (hHeld.1)
         have nn9l1 : w.heap.size + 1 < wq0.heap.size := World.block_lt_of_cell? _ ⟨w.heap.size + 1, 0, none⟩ (hHeld.2.1)
         have nn9l2 : B < wq0.heap.size := World.block_lt_of_cell? _ ⟨B, o + J * 3, none⟩ (hHeld.2.2.2.2.2.1)
         have hOld := hHeld; clear hHeld; go_simp; refine hK.out _ _ ?_ (fun hHeld => ?_)
         · exact ⟨keepA _ (hOld.1), keepA _ (hOld.2.1), keepA _ (hOld.2.2.1), keepAF _ (hOld.2.1) (hOld.2.2.2.1), keepAF _ (hOld.2.2.1) (hOld.2.2.2.2.1), keepA _ (hOld.2.2.2.2.2.1), keepA _ (hOld.2.2.2.2.2.2.1), keepA _ (hOld.2.2.2.2.2.2.2.1), keepA _ (hOld.2.2.2.2.2.2.2.2.1), keepA _ (hOld.2.2.2.2.2.2.2.2.2.1), keepA _ (hOld.2.2.2.2.2.2.2.2.2.2)⟩
         clear hK K hOld
         (try dsimp only at hHeld)
         generalize (wq0.alloc (Obj.cells #[.int .i64 0, .int .i64 0, .int .i64 0] 63)) = wq1 at *
         have hzq1 : w.heap.size ≤ wq1.heap.size := hBq1.size
         (try simp only [Act.put, List.setIfInBounds_toArray, List.set_cons_zero, List.set_cons_succ])
         refine wpAnyH_ready (rs := [10]) (by kernel_rfl) (by simp) ?_
         refine AllReadyH.cons (o := ⟨some 7, _, _, _, _, none⟩) rfl (fun K hK => ?_) (AllReadyH.nil)
         (try dsimp only at hHeld)
         have hBq2 : Below w.heap.size w (wq1.alloc (Obj.cells #[.int .i64 0, .int .i64 0, .int .i64 0] 63)) := by go_grown
         have nn100 : (wq1.alloc (Obj.cells #[.int .i64 0, .int .i64 0, .int .i64 0] 63)).cell? ⟨wq1.heap.size, 0, none⟩ = some (.int .i64 0) := by simp [go_sem]
         have nn10f0 : (wq1.alloc (Obj.cells #[.int .i64 0, .int .i64 0, .int .i64 0] 63)).frozen? ⟨wq1.heap.size, 0, none⟩ = false := by simp [go_sem]
         have nn101 : (wq1.alloc (Obj.cells #[.int .i64 0, .int .i64 0, .int .i64 0] 63)).cell? ⟨wq1.heap.size, 1, none⟩ = some (.int .i64 0) := by simp [go_sem]
         have nn10f1 : (wq1.alloc (Obj.cells #[.int .i64 0, .int .i64 0, .int .i64 0] 63)).frozen? ⟨wq1.heap.size, 1, none⟩ = false := by simp [go_sem]
         have nn102 : (wq1.alloc (Obj.cells #[.int .i64 0, .int .i64 0, .int .i64 0] 63)).cell? ⟨wq1.heap.size, 2, none⟩ = some (.int .i64 0) := by simp [go_sem]
         have nn10f2 : (wq1.alloc (Obj.cells #[.int .i64 0, .int .i64 0, .int .i64 0] 63)).frozen? ⟨wq1.heap.size, 2, none⟩ = false := by simp [go_sem]
         have nn10l0 : w.heap.size < wq1.heap.size := World.block_lt_of_cell? _ ⟨w.heap.size, 0, none⟩ (hHeld.1)
         have nn10l1 : w.heap.size + 1 < wq1.heap.size := World.block_lt_of_cell? _ ⟨w.heap.size + 1, 0, none⟩ (hHeld.2.1)
         have nn10l2 : B < wq1.heap.size := World.block_lt_of_cell? _ ⟨B, o + J * 3, none⟩ (hHeld.2.2.2.2.2.1)
         have nn10m9 : wq0.heap.size < wq1.heap.size := World.block_lt_of_cell? _ ⟨wq0.heap.size, 0, none⟩ nn90
         replace nn9f0 := keepAF (Obj.cells #[.int .i64 0, .int .i64 0, .int .i64 0] 63) nn90 nn9f0
         replace nn90 := keepA (Obj.cells #[.int .i64 0, .int .i64 0, .int .i64 0] 63) nn90
         replace nn9f1 := keepAF (Obj.cells #[.int .i64 0, .int .i64 0, .int .i64 0] 63) nn91 nn9f1
         replace nn91 := keepA (Obj.cells #[.int .i64 0, .int .i64 0, .int .i64 0] 63) nn91
         replace nn9f2 := keepAF (Obj.cells #[.int .i64 0, .int .i64 0, .int .i64 0] 63) nn92 nn9f2
         replace nn92 := keepA (Obj.cells #[.int .i64 0, .int .i64 0, .int .i64 0] 63) nn92
         have hOld := hHeld; clear hHeld; go_simp; refine hK.out _ _ ?_ (fun hHeld => ?_)
         · exact ⟨keepA _ (hOld.1), keepA _ (hOld.2.1), keepA _ (hOld.2.2.1), keepAF _ (hOld.2.1) (hOld.2.2.2.1), keepAF _ (hOld.2.2.1) (hOld.2.2.2.2.1), keepA _ (hOld.2.2.2.2.2.1), keepA _ (hOld.2.2.2.2.2.2.1), keepA _ (hOld.2.2.2.2.2.2.2.1), keepA _ (hOld.2.2.2.2.2.2.2.2.1), keepA _ (hOld.2.2.2.2.2.2.2.2.2.1), keepA _ (hOld.2.2.2.2.2.2.2.2.2.2)⟩
         clear hK K hOld
         (try dsimp only at hHeld)
         generalize (wq1.alloc (Obj.cells #[.int .i64 0, .int .i64 0, .int .i64 0] 63)) = wq2 at *
         have hzq2 : w.heap.size ≤ wq2.heap.size := hBq2.size
         (try simp only [Act.put, List.setIfInBounds_toArray, List.set_cons_zero, List.set_cons_succ])
         refine wpAnyH_ready (rs := [11]) (by kernel_rfl) (by simp) ?_
         refine AllReadyH.cons (o := ⟨none, _, _, _, _, none⟩) rfl (fun K hK => ?_) (AllReadyH.nil)
         (try dsimp only at hHeld)
         have hBq3 : Below w.heap.size w (((wq2.setCell ⟨wq0.heap.size, 0, none⟩ (.int .i64 a)).setCell ⟨wq0.heap.size, 1, none⟩ (.int .i64 lo)).setCell ⟨wq0.heap.size, 2, none⟩ (.int .i64 hi)) := by go_grown
         have hOld := hHeld; clear hHeld; go_simp; refine hK.out _ _ ?_ (fun hHeld => ?_)
         · exact ⟨three_other (hOld.1) (Nat.ne_of_gt nn9l0), three_other (hOld.2.1) (Nat.ne_of_gt nn9l1), three_other (hOld.2.2.1) (Nat.ne_of_gt nn9l1), three_fz (hOld.2.2.2.1), three_fz (hOld.2.2.2.2.1), three_other (hOld.2.2.2.2.2.1) (Nat.ne_of_gt nn9l2), three_other (hOld.2.2.2.2.2.2.1) (Nat.ne_of_gt nn9l2), three_other (hOld.2.2.2.2.2.2.2.1) (Nat.ne_of_gt nn9l2), three_other (hOld.2.2.2.2.2.2.2.2.1) (Nat.ne_of_gt nn9l2), three_other (hOld.2.2.2.2.2.2.2.2.2.1) (Nat.ne_of_gt nn9l2), three_other (hOld.2.2.2.2.2.2.2.2.2.2) (Nat.ne_of_gt nn9l2)⟩
         clear hK K hOld
         (try dsimp only at hHeld)
         replace nn9f0 := three_fz (b := wq0.heap.size) (x := .int .i64 a) (y := .int .i64 lo) (z := .int .i64 hi) nn9f0
         replace nn90 := three_0 (x := .int .i64 a) (y := .int .i64 lo) (z := .int .i64 hi) nn90
         replace nn9f1 := three_fz (b := wq0.heap.size) (x := .int .i64 a) (y := .int .i64 lo) (z := .int .i64 hi) nn9f1
         replace nn91 := three_1 (x := .int .i64 a) (y := .int .i64 lo) (z := .int .i64 hi) nn91
         replace nn9f2 := three_fz (b := wq0.heap.size) (x := .int .i64 a) (y := .int .i64 lo) (z := .int .i64 hi) nn9f2
         replace nn92 := three_2 (x := .int .i64 a) (y := .int .i64 lo) (z := .int .i64 hi) nn92
         replace nn10f0 := three_fz (b := wq0.heap.size) (x := .int .i64 a) (y := .int .i64 lo) (z := .int .i64 hi) nn10f0
         replace nn100 := three_other (b := wq0.heap.size) (x := .int .i64 a) (y := .int .i64 lo) (z := .int .i64 hi) nn100 (by omega)
         replace nn10f1 := three_fz (b := wq0.heap.size) (x := .int .i64 a) (y := .int .i64 lo) (z := .int .i64 hi) nn10f1
         replace nn101 := three_other (b := wq0.heap.size) (x := .int .i64 a) (y := .int .i64 lo) (z := .int .i64 hi) nn101 (by omega)
         replace nn10f2 := three_fz (b := wq0.heap.size) (x := .int .i64 a) (y := .int .i64 lo) (z := .int .i64 hi) nn10f2
         replace nn102 := three_other (b := wq0.heap.size) (x := .int .i64 a) (y := .int .i64 lo) (z := .int .i64 hi) nn102 (by omega)
         generalize (((wq2.setCell ⟨wq0.heap.size, 0, none⟩ (.int .i64 a)).setCell ⟨wq0.heap.size, 1, none⟩ (.int .i64 lo)).setCell ⟨wq0.heap.size, 2, none⟩ (.int .i64 hi)) = wq3 at *
         have hzq3 : w.heap.size ≤ wq3.heap.size := hBq3.size
         (try simp only [Act.put, List.setIfInBounds_toArray, List.set_cons_zero, List.set_cons_succ])
         refine wpAnyH_ready (rs := [12]) (by kernel_rfl) (by simp) ?_
         refine AllReadyH.cons (o := ⟨none, _, _, _, _, none⟩) rfl (fun K hK => ?_) (AllReadyH.nil)
         (try dsimp only at hHeld)
         have hBq4 : Below w.heap.size w (((wq3.setCell ⟨wq1.heap.size, 0, none⟩ (.int .i64 d)).setCell ⟨wq1.heap.size, 1, none⟩ (.int .i64 lp)).setCell ⟨wq1.heap.size, 2, none⟩ (.int .i64 hj)) := by go_grown
         have hOld := hHeld; clear hHeld; go_simp; refine hK.out _ _ ?_ (fun hHeld => ?_)
         · exact ⟨three_other (hOld.1) (Nat.ne_of_gt nn10l0), three_other (hOld.2.1) (Nat.ne_of_gt nn10l1), three_other (hOld.2.2.1) (Nat.ne_of_gt nn10l1), three_fz (hOld.2.2.2.1), three_fz (hOld.2.2.2.2.1), three_other (hOld.2.2.2.2.2.1) (Nat.ne_of_gt nn10l2), three_other (hOld.2.2.2.2.2.2.1) (Nat.ne_of_gt nn10l2), three_other (hOld.2.2.2.2.2.2.2.1) (Nat.ne_of_gt nn10l2), three_other (hOld.2.2.2.2.2.2.2.2.1) (Nat.ne_of_gt nn10l2), three_other (hOld.2.2.2.2.2.2.2.2.2.1) (Nat.ne_of_gt nn10l2), three_other (hOld.2.2.2.2.2.2.2.2.2.2) (Nat.ne_of_gt nn10l2)⟩
         clear hK K hOld
         (try dsimp only at hHeld)
         replace nn9f0 := three_fz (b := wq1.heap.size) (x := .int .i64 d) (y := .int .i64 lp) (z := .int .i64 hj) nn9f0
         replace nn90 := three_other (b := wq1.heap.size) (x := .int .i64 d) (y := .int .i64 lp) (z := .int .i64 hj) nn90 (by omega)
         replace nn9f1 := three_fz (b := wq1.heap.size) (x := .int .i64 d) (y := .int .i64 lp) (z := .int .i64 hj) nn9f1
         replace nn91 := three_other (b := wq1.heap.size) (x := .int .i64 d) (y := .int .i64 lp) (z := .int .i64 hj) nn91 (by omega)
         replace nn9f2 := three_fz (b := wq1.heap.size) (x := .int .i64 d) (y := .int .i64 lp) (z := .int .i64 hj) nn9f2
         replace nn92 := three_other (b := wq1.heap.size) (x := .int .i64 d) (y := .int .i64 lp) (z := .int .i64 hj) nn92 (by omega)
         replace nn10f0 := three_fz (b := wq1.heap.size) (x := .int .i64 d) (y := .int .i64 lp) (z := .int .i64 hj) nn10f0
         replace nn100 := three_0 (x := .int .i64 d) (y := .int .i64 lp) (z := .int .i64 hj) nn100
         replace nn10f1 := three_fz (b := wq1.heap.size) (x := .int .i64 d) (y := .int .i64 lp) (z := .int .i64 hj) nn10f1
         replace nn101 := three_1 (x := .int .i64 d) (y := .int .i64 lp) (z := .int .i64 hj) nn101
         replace nn10f2 := three_fz (b := wq1.heap.size) (x := .int .i64 d) (y := .int .i64 lp) (z := .int .i64 hj) nn10f2
         replace nn102 := three_2 (x := .int .i64 d) (y := .int .i64 lp) (z := .int .i64 hj) nn102
         generalize (((wq3.setCell ⟨wq1.heap.size, 0, none⟩ (.int .i64 d)).setCell ⟨wq1.heap.size, 1, none⟩ (.int .i64 lp)).setCell ⟨wq1.heap.size, 2, none⟩ (.int .i64 hj)) = wq4 at *
         have hzq4 : w.heap.size ≤ wq4.heap.size := hBq4.size
         (try simp only [Act.put, List.setIfInBounds_toArray, List.set_cons_zero, List.set_cons_succ])
         refine wpAnyH_done (by kernel_rfl) ?_ _
         obtain ⟨n0, z0, z1, zf0, zf1, _⟩ := hHeld
         go_wp2_with fail
         refine useF w (s1.out _ _ _ _ ⟨n0, nn90, nn100⟩) (by go_grown) ?_; rintro e v1 rfl hBv1 hkv1 hfv1 hsv1
         replace zf0 := hfv1 _ _ _ z0 zf0; replace zf1 := hfv1 _ _ _ z1 zf1
         replace n0 := hkv1 _ _ _ n0
         replace z0 := hkv1 _ _ _ z0
         replace z1 := hkv1 _ _ _ z1
         replace nn90 := hkv1 _ _ _ nn90
         replace nn91 := hkv1 _ _ _ nn91
         replace nn92 := hkv1 _ _ _ nn92
         replace nn100 := hkv1 _ _ _ nn100
         replace nn101 := hkv1 _ _ _ nn101
         replace nn102 := hkv1 _ _ _ nn102
         clear hkv1 hfv1
         go_wp2_with fail
         refine useF w (s2.out _ _ _ _ ⟨n0, nn90, nn100⟩) (by go_grown) ?_; rintro e v2 rfl hBv2 hkv2 hfv2 hsv2
         replace zf0 := hfv2 _ _ _ z0 zf0; replace zf1 := hfv2 _ _ _ z1 zf1
         replace n0 := hkv2 _ _ _ n0
         replace z0 := hkv2 _ _ _ z0
         replace z1 := hkv2 _ _ _ z1
         replace nn90 := hkv2 _ _ _ nn90
         replace nn91 := hkv2 _ _ _ nn91
         replace nn92 := hkv2 _ _ _ nn92
         replace nn100 := hkv2 _ _ _ nn100
         replace nn101 := hkv2 _ _ _ nn101
         replace nn102 := hkv2 _ _ _ nn102
         clear hkv2 hfv2
         go_wp2_with fail
         all_goals (refine' bodyPost_ret (res_st rfl isA_S isS_S rfl ?_ ?_) rfl ?_; rotate_left 2; (· ((try simp only [World.cell?_drew]); first | (with_reducible exact two_0 (by assumption)) | (with_reducible exact two_1 (by assumption)) | (with_reducible exact two_other (two_0 (by assumption)) (by simp)) | (with_reducible exact two_other (two_1 (by assumption)) (by simp)) | (with_reducible exact two_0 (two_other (by assumption) (by simp))) | (with_reducible exact two_1 (two_other (by assumption) (by simp))) | (simp (maxDischargeDepth := 8) [go_sem, hHeld]; rfl) | (simp (maxDischargeDepth := 8) [go_sem, *]; rfl) | (simp (maxDischargeDepth := 8) [go_sem, *]; done))); (· ((try simp only [World.cell?_drew]); first | (with_reducible exact two_0 (by assumption)) | (with_reducible exact two_1 (by assumption)) | (with_reducible exact two_other (two_0 (by assumption)) (by simp)) | (with_reducible exact two_other (two_1 (by assumption)) (by simp)) | (with_reducible exact two_0 (two_other (by assumption) (by simp))) | (with_reducible exact two_1 (two_other (by assumption) (by simp))) | (simp (maxDischargeDepth := 8) [go_sem, hHeld]; rfl) | (simp (maxDischargeDepth := 8) [go_sem, *]; rfl) | (simp (maxDischargeDepth := 8) [go_sem, *]; done))); refine ⟨ret_s ?_ ?_, by go_grown⟩ <;> (rfl))
        ·
         (try dsimp only at hHeld)
         have hBq1 : Below w.heap.size w (wq0.alloc (Obj.cells #[.int .i64 0, .int .i64 0, .int .i64 0] 63)) := by go_grown
         have nn100 : (wq0.alloc (Obj.cells #[.int .i64 0, .int .i64 0, .int .i64 0] 63)).cell? ⟨wq0.heap.size, 0, none⟩ = some (.int .i64 0) := by simp [go_sem]
         have nn10f0 : (wq0.alloc (Obj.cells #[.int .i64 0, .int .i64 0, .int .i64 0] 63)).frozen? ⟨wq0.heap.size, 0, none⟩ = false := by simp [go_sem]
         have nn101 : (wq0.alloc (Obj.cells #[.int .i64 0, .int .i64 0, .int .i64 0] 63)).cell? ⟨wq0.heap.size, 1, none⟩ = some (.int .i64 0) := by simp [go_sem]
         have nn10f1 : (wq0.alloc (Obj.cells #[.int .i64 0, .int .i64 0, .int .i64 0] 63)).frozen? ⟨wq0.heap.size, 1, none⟩ = false := by simp [go_sem]
         have nn102 : (wq0.alloc (Obj.cells #[.int .i64 0, .int .i64 0, .int .i64 0] 63)).cell? ⟨wq0.heap.size, 2, none⟩ = some (.int .i64 0) := by simp [go_sem]
         have nn10f2 : (wq0.alloc (Obj.cells #[.int .i64 0, .int .i64 0, .int .i64 0] 63)).frozen? ⟨wq0.heap.size, 2, none⟩ = false := by simp [go_sem]
         have nn10l0 : w.heap.size < wq0.heap.size := World.block_lt_of_cell? _ ⟨w.heap.size, 0, none⟩ (hHeld.1)
         have nn10l1 : w.heap.size + 1 < wq0.heap.size := World.block_lt_of_cell? _ ⟨w.heap.size + 1, 0, none⟩ (hHeld.2.1)
         have nn10l2 : B < wq0.heap.size := World.block_lt_of_cell? _ ⟨B, o + J * 3, none⟩ (hHeld.2.2.2.2.2.1)
         have hOld := hHeld; clear hHeld; go_simp; refine hK.out _ _ ?_ (fun hHeld => ?_)
         · exact ⟨keepA _ (hOld.1), keepA _ (hOld.2.1), keepA _ (hOld.2.2.1), keepAF _ (hOld.2.1) (hOld.2.2.2.1), keepAF _ (hOld.2.2.1) (hOld.2.2.2.2.1), keepA _ (hOld.2.2.2.2.2.1), keepA _ (hOld.2.2.2.2.2.2.1), keepA _ (hOld.2.2.2.2.2.2.2.1), keepA _ (hOld.2.2.2.2.2.2.2.2.1), keepA _ (hOld.2.2.2.2.2.2.2.2.2.1), keepA _ (hOld.2.2.2.2.2.2.2.2.2.2)⟩
         clear hK K hOld
         (try dsimp only at hHeld)
         generalize (wq0.alloc (Obj.cells #[.int .i64 0, .int .i64 0, .int .i64 0] 63)) = wq1 at *
         have hzq1 : w.heap.size ≤ wq1.heap.size := hBq1.size
         (try simp only [Act.put, List.setIfInBounds_toArray, List.set_cons_zero, List.set_cons_succ])
         refine wpAnyH_ready (rs := [9]) (by kernel_rfl) (by simp) ?_
         refine AllReadyH.cons (o := ⟨some 6, _, _, _, _, none⟩) rfl (fun K hK => ?_) (AllReadyH.nil)
         (try dsimp only at hHeld)
         have hBq2 : Below w.heap.size w (wq1.alloc (Obj.cells #[.int .i64 0, .int .i64 0, .int .i64 0] 63)) := by go_grown
         have nn90 : (wq1.alloc (Obj.cells #[.int .i64 0, .int .i64 0, .int .i64 0] 63)).cell? ⟨wq1.heap.size, 0, none⟩ = some (.int .i64 0) := by simp [go_sem]
         have nn9f0 : (wq1.alloc (Obj.cells #[.int .i64 0, .int .i64 0, .int .i64 0] 63)).frozen? ⟨wq1.heap.size, 0, none⟩ = false := by simp [go_sem]
         have nn91 : (wq1.alloc (Obj.cells #[.int .i64 0, .int .i64 0, .int .i64 0] 63)).cell? ⟨wq1.heap.size, 1, none⟩ = some (.int .i64 0) := by simp [go_sem]
         have nn9f1 : (wq1.alloc (Obj.cells #[.int .i64 0, .int .i64 0, .int .i64 0] 63)).frozen? ⟨wq1.heap.size, 1, none⟩ = false := by simp [go_sem]
         have nn92 : (wq1.alloc (Obj.cells #[.int .i64 0, .int .i64 0, .int .i64 0] 63)).cell? ⟨wq1.heap.size, 2, none⟩ = some (.int .i64 0) := by simp [go_sem]
         have nn9f2 : (wq1.alloc (Obj.cells #[.int .i64 0, .int .i64 0, .int .i64 0] 63)).frozen? ⟨wq1.heap.size, 2, none⟩ = false := by simp [go_sem]
         have nn9l0 : w.heap.size < wq1.heap.size := World.block_lt_of_cell? _ ⟨w.heap.size, 0, none⟩ (hHeld.1)
         have nn9l1 : w.heap.size + 1 < wq1.heap.size := World.block_lt_of_cell? _ ⟨w.heap.size + 1, 0, none⟩ (hHeld.2.1)
         have nn9l2 : B < wq1.heap.size := World.block_lt_of_cell? _ ⟨B, o + J * 3, none⟩ (hHeld.2.2.2.2.2.1)
         have nn9m10 : wq0.heap.size < wq1.heap.size := World.block_lt_of_cell? _ ⟨wq0.heap.size, 0, none⟩ nn100
         replace nn10f0 := keepAF (Obj.cells #[.int .i64 0, .int .i64 0, .int .i64 0] 63) nn100 nn10f0
         replace nn100 := keepA (Obj.cells #[.int .i64 0, .int .i64 0, .int .i64 0] 63) nn100
         replace nn10f1 := keepAF (Obj.cells #[.int .i64 0, .int .i64 0, .int .i64 0] 63) nn101 nn10f1
         replace nn101 := keepA (Obj.cells #[.int .i64 0, .int .i64 0, .int .i64 0] 63) nn101
         replace nn10f2 := keepAF (Obj.cells #[.int .i64 0, .int .i64 0, .int .i64 0] 63) nn102 nn10f2
         replace nn102 := keepA (Obj.cells #[.int .i64 0, .int .i64 0, .int .i64 0] 63) nn102
         have hOld := hHeld; clear hHeld; go_simp; refine hK.out _ _ ?_ (fun hHeld => ?_)
         · exact ⟨keepA _ (hOld.1), keepA _ (hOld.2.1), keepA _ (hOld.2.2.1), keepAF _ (hOld.2.1) (hOld.2.2.2.1), keepAF _ (hOld.2.2.1) (hOld.2.2.2.2.1), keepA _ (hOld.2.2.2.2.2.1), keepA _ (hOld.2.2.2.2.2.2.1), keepA _ (hOld.2.2.2.2.2.2.2.1), keepA _ (hOld.2.2.2.2.2.2.2.2.1), keepA _ (hOld.2.2.2.2.2.2.2.2.2.1), keepA _ (hOld.2.2.2.2.2.2.2.2.2.2)⟩
         clear hK K hOld
         (try dsimp only at hHeld)
         generalize (wq1.alloc (Obj.cells #[.int .i64 0, .int .i64 0, .int .i64 0] 63)) = wq2 at *
         have hzq2 : w.heap.size ≤ wq2.heap.size := hBq2.size
         (try simp only [Act.put, List.setIfInBounds_toArray, List.set_cons_zero, List.set_cons_succ])
         refine wpAnyH_ready (rs := [11]) (by kernel_rfl) (by simp) ?_
         refine AllReadyH.cons (o := ⟨none, _, _, _, _, none⟩) rfl (fun K hK => ?_) (AllReadyH.nil)
         (try dsimp only at hHeld)
         have hBq3 : Below w.heap.size w (((wq2.setCell ⟨wq1.heap.size, 0, none⟩ (.int .i64 a)).setCell ⟨wq1.heap.size, 1, none⟩ (.int .i64 lo)).setCell ⟨wq1.heap.size, 2, none⟩ (.int .i64 hi)) := by go_grown
         have hOld := hHeld; clear hHeld; go_simp; refine hK.out _ _ ?_ (fun hHeld => ?_)
         · exact ⟨three_other (hOld.1) (Nat.ne_of_gt nn9l0), three_other (hOld.2.1) (Nat.ne_of_gt nn9l1), three_other (hOld.2.2.1) (Nat.ne_of_gt nn9l1), three_fz (hOld.2.2.2.1), three_fz (hOld.2.2.2.2.1), three_other (hOld.2.2.2.2.2.1) (Nat.ne_of_gt nn9l2), three_other (hOld.2.2.2.2.2.2.1) (Nat.ne_of_gt nn9l2), three_other (hOld.2.2.2.2.2.2.2.1) (Nat.ne_of_gt nn9l2), three_other (hOld.2.2.2.2.2.2.2.2.1) (Nat.ne_of_gt nn9l2), three_other (hOld.2.2.2.2.2.2.2.2.2.1) (Nat.ne_of_gt nn9l2), three_other (hOld.2.2.2.2.2.2.2.2.2.2) (Nat.ne_of_gt nn9l2)⟩
         clear hK K hOld
         (try dsimp only at hHeld)
         replace nn10f0 := three_fz (b := wq1.heap.size) (x := .int .i64 a) (y := .int .i64 lo) (z := .int .i64 hi) nn10f0
         replace nn100 := three_other (b := wq1.heap.size) (x := .int .i64 a) (y := .int .i64 lo) (z := .int .i64 hi) nn100 (by omega)
         replace nn10f1 := three_fz (b := wq1.heap.size) (x := .int .i64 a) (y := .int .i64 lo) (z := .int .i64 hi) nn10f1
         replace nn101 := three_other (b := wq1.heap.size) (x := .int .i64 a) (y := .int .i64 lo) (z := .int .i64 hi) nn101 (by omega)
         replace nn10f2 := three_fz (b := wq1.heap.size) (x := .int .i64 a) (y := .int .i64 lo) (z := .int .i64 hi) nn10f2
         replace nn102 := three_other (b := wq1.heap.size) (x := .int .i64 a) (y := .int .i64 lo) (z := .int .i64 hi) nn102 (by omega)
         replace nn9f0 := three_fz (b := wq1.heap.size) (x := .int .i64 a) (y := .int .i64 lo) (z := .int .i64 hi) nn9f0
         replace nn90 := three_0 (x := .int .i64 a) (y := .int .i64 lo) (z := .int .i64 hi) nn90
         replace nn9f1 := three_fz (b := wq1.heap.size) (x := .int .i64 a) (y := .int .i64 lo) (z := .int .i64 hi) nn9f1
         replace nn91 := three_1 (x := .int .i64 a) (y := .int .i64 lo) (z := .int .i64 hi) nn91
         replace nn9f2 := three_fz (b := wq1.heap.size) (x := .int .i64 a) (y := .int .i64 lo) (z := .int .i64 hi) nn9f2
         replace nn92 := three_2 (x := .int .i64 a) (y := .int .i64 lo) (z := .int .i64 hi) nn92
         generalize (((wq2.setCell ⟨wq1.heap.size, 0, none⟩ (.int .i64 a)).setCell ⟨wq1.heap.size, 1, none⟩ (.int .i64 lo)).setCell ⟨wq1.heap.size, 2, none⟩ (.int .i64 hi)) = wq3 at *
         have hzq3 : w.heap.size ≤ wq3.heap.size := hBq3.size
         (try simp only [Act.put, List.setIfInBounds_toArray, List.set_cons_zero, List.set_cons_succ])
         refine wpAnyH_ready (rs := [12]) (by kernel_rfl) (by simp) ?_
         refine AllReadyH.cons (o := ⟨none, _, _, _, _, none⟩) rfl (fun K hK => ?_) (AllReadyH.nil)
         (try dsimp only at hHeld)
         have hBq4 : Below w.heap.size w (((wq3.setCell ⟨wq0.heap.size, 0, none⟩ (.int .i64 d)).setCell ⟨wq0.heap.size, 1, none⟩ (.int .i64 lp)).setCell ⟨wq0.heap.size, 2, none⟩ (.int .i64 hj)) := by go_grown
         have hOld := hHeld; clear hHeld; go_simp; refine hK.out _ _ ?_ (fun hHeld => ?_)
         · exact ⟨three_other (hOld.1) (Nat.ne_of_gt nn10l0), three_other (hOld.2.1) (Nat.ne_of_gt nn10l1), three_other (hOld.2.2.1) (Nat.ne_of_gt nn10l1), three_fz (hOld.2.2.2.1), three_fz (hOld.2.2.2.2.1), three_other (hOld.2.2.2.2.2.1) (Nat.ne_of_gt nn10l2), three_other (hOld.2.2.2.2.2.2.1) (Nat.ne_of_gt nn10l2), three_other (hOld.2.2.2.2.2.2.2.1) (Nat.ne_of_gt nn10l2), three_other (hOld.2.2.2.2.2.2.2.2.1) (Nat.ne_of_gt nn10l2), three_other (hOld.2.2.2.2.2.2.2.2.2.1) (Nat.ne_of_gt nn10l2), three_other (hOld.2.2.2.2.2.2.2.2.2.2) (Nat.ne_of_gt nn10l2)⟩
         clear hK K hOld
         (try dsimp only at hHeld)
         replace nn10f0 := three_fz (b := wq0.heap.size) (x := .int .i64 d) (y := .int .i64 lp) (z := .int .i64 hj) nn10f0
         replace nn100 := three_0 (x := .int .i64 d) (y := .int .i64 lp) (z := .int .i64 hj) nn100
         replace nn10f1 := three_fz (b := wq0.heap.size) (x := .int .i64 d) (y := .int .i64 lp) (z := .int .i64 hj) nn10f1
         replace nn101 := three_1 (x := .int .i64 d) (y := .int .i64 lp) (z := .int .i64 hj) nn101
         replace nn10f2 := three_fz (b := wq0.heap.size) (x := .int .i64 d) (y := .int .i64 lp) (z := .int .i64 hj) nn10f2
         replace nn102 := three_2 (x := .int .i64 d) (y := .int .i64 lp) (z := .int .i64 hj) nn102
         replace nn9f0 := three_fz (b := wq0.heap.size) (x := .int .i64 d) (y := .int .i64 lp) (z := .int .i64 hj) nn9f0
         replace nn90 := three_other (b := wq0.heap.size) (x := .int .i64 d) (y := .int .i64 lp) (z := .int .i64 hj) nn90 (by omega)
         replace nn9f1 := three_fz (b := wq0.heap.size) (x := .int .i64 d) (y := .int .i64 lp) (z := .int .i64 hj) nn9f1
         replace nn91 := three_other (b := wq0.heap.size) (x := .int .i64 d) (y := .int .i64 lp) (z := .int .i64 hj) nn91 (by omega)
         replace nn9f2 := three_fz (b := wq0.heap.size) (x := .int .i64 d) (y := .int .i64 lp) (z := .int .i64 hj) nn9f2
         replace nn92 := three_other (b := wq0.heap.size) (x := .int .i64 d) (y := .int .i64 lp) (z := .int .i64 hj) nn92 (by omega)
         generalize (((wq3.setCell ⟨wq0.heap.size, 0, none⟩ (.int .i64 d)).setCell ⟨wq0.heap.size, 1, none⟩ (.int .i64 lp)).setCell ⟨wq0.heap.size, 2, none⟩ (.int .i64 hj)) = wq4 at *
         have hzq4 : w.heap.size ≤ wq4.heap.size := hBq4.size
         (try simp only [Act.put, List.setIfInBounds_toArray, List.set_cons_zero, List.set_cons_succ])
         refine wpAnyH_done (by kernel_rfl) ?_ _
         obtain ⟨n0, z0, z1, zf0, zf1, _⟩ := hHeld
         go_wp2_with fail
         refine useF w (s1.out _ _ _ _ ⟨n0, nn90, nn100⟩) (by go_grown) ?_; rintro e v1 rfl hBv1 hkv1 hfv1 hsv1
         replace zf0 := hfv1 _ _ _ z0 zf0; replace zf1 := hfv1 _ _ _ z1 zf1
         replace n0 := hkv1 _ _ _ n0
         replace z0 := hkv1 _ _ _ z0
         replace z1 := hkv1 _ _ _ z1
         replace nn90 := hkv1 _ _ _ nn90
         replace nn91 := hkv1 _ _ _ nn91
         replace nn92 := hkv1 _ _ _ nn92
         replace nn100 := hkv1 _ _ _ nn100
         replace nn101 := hkv1 _ _ _ nn101
         replace nn102 := hkv1 _ _ _ nn102
         clear hkv1 hfv1
         go_wp2_with fail
         refine useF w (s2.out _ _ _ _ ⟨n0, nn90, nn100⟩) (by go_grown) ?_; rintro e v2 rfl hBv2 hkv2 hfv2 hsv2
         replace zf0 := hfv2 _ _ _ z0 zf0; replace zf1 := hfv2 _ _ _ z1 zf1
         replace n0 := hkv2 _ _ _ n0
         replace z0 := hkv2 _ _ _ z0
         replace z1 := hkv2 _ _ _ z1
         replace nn90 := hkv2 _ _ _ nn90
         replace nn91 := hkv2 _ _ _ nn91
         replace nn92 := hkv2 _ _ _ nn92
         replace nn100 := hkv2 _ _ _ nn100
         replace nn101 := hkv2 _ _ _ nn101
         replace nn102 := hkv2 _ _ _ nn102
         clear hkv2 hfv2
         go_wp2_with fail
         all_goals (refine' bodyPost_ret (res_st rfl isA_S isS_S rfl ?_ ?_) rfl ?_; rotate_left 2; (· ((try simp only [World.cell?_drew]); first | (with_reducible exact two_0 (by assumption)) | (with_reducible exact two_1 (by assumption)) | (with_reducible exact two_other (two_0 (by assumption)) (by simp)) | (with_reducible exact two_other (two_1 (by assumption)) (by simp)) | (with_reducible exact two_0 (two_other (by assumption) (by simp))) | (with_reducible exact two_1 (two_other (by assumption) (by simp))) | (simp (maxDischargeDepth := 8) [go_sem, hHeld]; rfl) | (simp (maxDischargeDepth := 8) [go_sem, *]; rfl) | (simp (maxDischargeDepth := 8) [go_sem, *]; done))); (· ((try simp only [World.cell?_drew]); first | (with_reducible exact two_0 (by assumption)) | (with_reducible exact two_1 (by assumption)) | (with_reducible exact two_other (two_0 (by assumption)) (by simp)) | (with_reducible exact two_other (two_1 (by assumption)) (by simp)) | (with_reducible exact two_0 (two_other (by assumption) (by simp))) | (with_reducible exact two_1 (two_other (by assumption) (by simp))) | (simp (maxDischargeDepth := 8) [go_sem, hHeld]; rfl) | (simp (maxDischargeDepth := 8) [go_sem, *]; rfl) | (simp (maxDischargeDepth := 8) [go_sem, *]; done))); refine ⟨ret_s ?_ ?_, by go_grown⟩ <;> (rfl))
end Go.Proofs.Ytjleflfncijnpaa
