/- How many times a set has; of both packages. -/
import Derived.OwnWalk
import Derived.Deep.DeepCutAuto
import Derived.Test.YtlpbkifiidlllaaRows
import Derived.Test.YtlpbkifiidlllaaBase
import Derived.Test.YtlpbkifiidlllaaFacts
import Derived.Test.YtlpbkifiidlllaaTwo
import Derived.Deep.RegionHeld3
import Derived.Deep.RegionWith
import Derived.Deep.QuietTactic
import Derived.BigQuiet
import Derived.Test.YtlpbkifiidlllaaSeq
import Derived.Test.YtlpbkifiidlllaaWinM
import Derived.Test.YtlpbkifiidlllaaWinF
import Derived.Test.YtlpbkifiidlllaaSlotS
import Derived.Test.YtlpbkifiidlllaaSlotU
import Derived.Test.YtlpbkifiidlllaaSetM
import Derived.Test.YtlpbkifiidlllaaSetF
import Derived.Test.YtlpbkifiidlllaaSetG
set_option linter.unusedVariables false
set_option linter.unusedSimpArgs false
set_option maxHeartbeats 4000000
set_option maxRecDepth 100000
namespace Go.Proofs.Ytlpbkifiidlllaa
open Go Go.RowKit
def totS (l : List (Int × Int)) : Int := (l.map fun p => p.2 - p.1).sum
theorem tot_take {l : List (Int × Int)} {k : Nat} {F T : Int} (h : l[k]? = some (F, T)) : totS (l.take (k + 1)) = totS (l.take k) + (T - F) := by
  unfold totS
  rw [List.take_add_one, h, List.map_append, List.sum_append]
  simp
theorem tot_bd {l : List (Int × Int)} (h : setB l = true) : ∀ (k : Nat) (p : Int × Int), l[k]? = some p → 0 ≤ totS (l.take k) ∧ totS (l.take k) ≤ p.1 + 1152921504606846976
  | 0, p, hp => by
    obtain ⟨h1, _, _⟩ := setB_tim h hp
    have := of_decide_eq_true h1
    rw [List.take_zero]
    show 0 ≤ (0 : Int) ∧ (0 : Int) ≤ _
    omega
  | k + 1, p, hp => by
    obtain ⟨q, hq⟩ := slot_some (show k < l.length by have := (List.getElem?_eq_some_iff.mp hp).1; omega)
    obtain ⟨i1, i2⟩ := tot_bd h k q hq
    obtain ⟨F, T⟩ := q
    have hr := (of_decide_eq_true h).2 (k + 1) (List.getElem?_eq_some_iff.mp hp).1
    obtain ⟨_, _, hlt⟩ := setB_tim h hq
    unfold goodS at hr
    rw [hp] at hr
    simp [hq] at hr
    rw [tot_take hq]
    dsimp only at *
    omega
theorem tot_end {l : List (Int × Int)} {k : Nat} {F T : Int} (h : setB l = true) (hp : l[k]? = some (F, T)) : 0 ≤ totS (l.take k) ∧ totS (l.take k) ≤ 2305843009213693952 ∧ F < T ∧ -1152921504606846976 ≤ F ∧ T ≤ 1152921504606846976 := by
  obtain ⟨h1, h2⟩ := tot_bd h k _ hp
  obtain ⟨h3, h4, h5⟩ := setB_tim h hp
  have := of_decide_eq_true h3
  have := of_decide_eq_true h4
  dsimp only at *
  omega
def totE (l : List (Int × Int)) : Int := if setB l then 0 else 2
def totR (l : List (Int × Int)) : Int := if setB l then totS l else 0
theorem total_any (v : Value) (l : List (Int × Int)) (w : World) (hv : SlotsIn v l w) (hl : l.length < 100000) (hb : SlB l) :
    Calls Try.prog 8 #[v] w fun e w' => e = .returned (.tuple #[.int .i64 (totR l), .int .i64 (totE l)]) ∧ Below w.heap.size w w' := by
  have k1 := hid (fun W hW => isset_any v l W (hv.below hW) (by omega) hb)
  have g := hv
  obtain ⟨q, cap, rfl, _⟩ := g
  cases ca : setB l
  · rw [ca] at k1
    have hE := hid (show totR l = 0 ∧ totE l = 2 by unfold totR totE; rw [ca]; exact ⟨rfl, rfl⟩)
    clear hv hb
    go_enter Try.func8, Try.ntmps8
    go_wp2_with fail
    refine useK w (k1.out _ (by go_grown)) (by go_grown) ?_; rintro e w1 rfl hB1 hk1 hs1
    have hz1 := hB1.size
    clear hk1
    go_wp2_with fail
    go_ret2
    exact ⟨by rw [hE.out.1, hE.out.2]; rfl, by go_grown⟩
  · rw [ca] at k1
    have hE := hid (show totR l = totS l ∧ totE l = 0 by unfold totR totE; rw [ca]; exact ⟨rfl, rfl⟩)
    replace ca := hid ca
    clear hb
    go_enter Try.func8, Try.ntmps8
    go_wp2_with fail
    refine useK w (k1.out _ (by go_grown)) (by go_grown) ?_; rintro e w1 rfl hB1 hk1 hs1
    have hz1 := hB1.size
    clear hk1
    go_wp2_with fail
    go_loopw [12, 4] (fun s n wx => ∃ k : Nat, s = .int .i64 k ∧ k ≤ l.length ∧ n = .int .i64 (totS (l.take k)) ∧ Below w.heap.size w wx) (fun s _ _ => (l.length - intOf s).toNat)
    case atStart => exact ⟨0, rfl, Nat.zero_le _, rfl, by go_grown⟩
    case round =>
      clear hB1 hz1 hs1
      obtain ⟨k, rfl, hk, rfl, hB⟩ := hrel
      have h1 := hv.below hB
      clear hv
      have hz := hB.size
      by_cases c : k = l.length
      · have c1 : ¬ (k : Int) < l.length := by omega
        subst c
        rw [List.take_length] at *
        clear h1
        go_wp2_with fail
        go_ret2
        exact ⟨by rw [hE.out.1, hE.out.2]; rfl, by go_grown⟩
      · obtain ⟨⟨F, T⟩, hp⟩ := slot_some (show k < l.length by omega)
        have hkc : (k : Int) < l.length := by omega
        obtain ⟨t1, t2, b5, b6, b7⟩ := tot_end ca.out hp
        have e2 := tot_take hp
        obtain ⟨x1, y1, e0, z1 | ⟨B1, o1, z1, r1⟩⟩ := h1
        · rw [z1] at hk c; simp at hk; simp at c; omega
        simp only [Value.slice.injEq] at e0
        obtain ⟨rfl, _, rfl⟩ := e0
        subst z1
        obtain ⟨d0, d1⟩ := r1 k _ hp
        dsimp only at d0 d1
        generalize totS (l.take k) = S at *
        have e3 := hid e2
        have w1' : IntKind.i64.wrap (T - F) = T - F := by rw [IntKind.wrap_i64]; omega
        have w2' : IntKind.i64.wrap (S + (T - F)) = S + (T - F) := by rw [IntKind.wrap_i64]; omega
        clear r1 hp c e2
        go_wp2_with fail
        exact ⟨⟨k + 1, by simp, by omega, by rw [e3.out], by go_grown⟩, by first | (simp [intOf]; done) | (simp [intOf]; omega)⟩
theorem rtotal_any (v : Value) (l : List (Int × Int)) (w : World) (hv : SlotsIn v l w) (hl : l.length < 100000) (hb : SlB l) :
    Calls Try.prog 10 #[v] w fun e w' => e = .returned (.tuple #[.int .i64 (totR l), .int .i64 (totE l)]) ∧ Below w.heap.size w w' := by
  have k1 := hid (fun W hW => rset_any v l W (hv.below hW) (by omega) hb)
  have g := hv
  obtain ⟨q, cap, rfl, _⟩ := g
  cases ca : setB l
  · rw [ca] at k1
    have hE := hid (show totR l = 0 ∧ totE l = 2 by unfold totR totE; rw [ca]; exact ⟨rfl, rfl⟩)
    clear hv hb
    go_enter Try.func10, Try.ntmps10
    go_wp2_with fail
    refine useK w (k1.out _ (by go_grown)) (by go_grown) ?_; rintro e w1 rfl hB1 hk1 hs1
    have hz1 := hB1.size
    clear hk1
    go_wp2_with fail
    go_ret2
    exact ⟨by rw [hE.out.1, hE.out.2]; rfl, by go_grown⟩
  · rw [ca] at k1
    have hE := hid (show totR l = totS l ∧ totE l = 0 by unfold totR totE; rw [ca]; exact ⟨rfl, rfl⟩)
    replace ca := hid ca
    clear hb
    go_enter Try.func10, Try.ntmps10
    go_wp2_with fail
    refine useK w (k1.out _ (by go_grown)) (by go_grown) ?_; rintro e w1 rfl hB1 hk1 hs1
    have hz1 := hB1.size
    clear hk1
    go_wp2_with fail
    go_loopw [6, 5] (fun s n wx => ∃ k : Nat, s = .int .i64 k ∧ k ≤ l.length ∧ n = .int .i64 (totS (l.take k)) ∧ Below w.heap.size w wx) (fun s _ _ => (l.length - intOf s).toNat)
    case atStart => exact ⟨0, rfl, Nat.zero_le _, rfl, by go_grown⟩
    case round =>
      clear hB1 hz1 hs1
      obtain ⟨k, rfl, hk, rfl, hB⟩ := hrel
      have h1 := hv.below hB
      clear hv
      have hz := hB.size
      by_cases c : k = l.length
      · have c1 : ¬ (k : Int) < l.length := by omega
        subst c
        rw [List.take_length] at *
        clear h1
        go_wp2_with fail
        go_ret2
        exact ⟨by rw [hE.out.1, hE.out.2]; rfl, by go_grown⟩
      · obtain ⟨⟨F, T⟩, hp⟩ := slot_some (show k < l.length by omega)
        have hkc : (k : Int) < l.length := by omega
        obtain ⟨t1, t2, b5, b6, b7⟩ := tot_end ca.out hp
        have e2 := tot_take hp
        obtain ⟨x1, y1, e0, z1 | ⟨B1, o1, z1, r1⟩⟩ := h1
        · rw [z1] at hk c; simp at hk; simp at c; omega
        simp only [Value.slice.injEq] at e0
        obtain ⟨rfl, _, rfl⟩ := e0
        subst z1
        obtain ⟨d0, d1⟩ := r1 k _ hp
        dsimp only at d0 d1
        generalize totS (l.take k) = S at *
        have e3 := hid (show totS (l.take (k + 1)) = S + T - F by rw [e2]; omega)
        have w1' : IntKind.i64.wrap (S + T) = S + T := by rw [IntKind.wrap_i64]; omega
        have w2' : IntKind.i64.wrap (S + T - F) = S + T - F := by rw [IntKind.wrap_i64]; omega
        clear r1 hp c e2
        go_wp2_with fail
        refine wp_region_held_drew (S := (fun w' => w'.cell? ⟨B1, o1 + k * 2, none⟩ = some (.int .i64 F) ∧ w'.cell? ⟨B1, o1 + k * 2 + 1, none⟩ = some (.int .i64 T))) (by kernel_rfl) (by (try dsimp only); (first | (exact ⟨hk1 _ _ _ (hOld.1), hk1 _ _ _ (hOld.2)⟩) | ((try simp only [World.cell?_drew, World.frozen?_drew]); (repeat' apply And.intro) <;> (first | (with_reducible assumption) | (with_reducible exact ⟨_, by assumption⟩) | (with_reducible exact ⟨_, two_other (by assumption) (by omega)⟩) | (with_reducible exact two_0 (by assumption)) | (with_reducible exact two_1 (by assumption)) | (with_reducible exact two_other (by assumption) (by omega)) | (with_reducible exact two_fz (by assumption)) | (with_reducible exact keepA _ (by assumption)) | (with_reducible exact keepA _ (keepA _ (keepA _ (by assumption)))) | (simp (maxDischargeDepth := 8) [*, go_sem, World.cell?_alloc_some, World.cell?_setCell_far]; done))) | (go_keep; done) | (simp (maxDischargeDepth := 8) [*, go_sem, World.cell?_alloc_some, World.cell?_setCell_far]; done))) (fun hHeld => ?_)
        (refine wpAnyH_take (i := 0) (oi := ⟨some 17, _, _, _, _, none⟩) (v := ?_) rfl (by kernel_rfl) (by kernel_rfl) (by kernel_rfl) (fun _ _ _ h => h) (Or.inl ⟨by rfl, ?_⟩) hHeld ?_; rotate_left; (· (intro w9 hSw; (try dsimp only at hSw); go_simp; (try with_reducible rfl))))
        (try simp only [Act.put, List.setIfInBounds_toArray, List.set_cons_zero, List.set_cons_succ])
        (refine wpAnyH_take (i := 1) (oi := ⟨some 18, _, _, _, _, none⟩) (v := ?_) rfl (by kernel_rfl) (by kernel_rfl) (by kernel_rfl) (fun _ _ _ h => h) (Or.inl ⟨by rfl, ?_⟩) hHeld ?_; rotate_left; (· (intro w9 hSw; (try dsimp only at hSw); go_simp; (try with_reducible rfl))))
        (try simp only [Act.put, List.setIfInBounds_toArray, List.set_cons_zero, List.set_cons_succ])
        (refine wpAnyH_take (i := 2) (oi := ⟨some 19, _, _, _, _, none⟩) (v := ?_) rfl (by kernel_rfl) (by kernel_rfl) (by kernel_rfl) (fun _ _ _ h => h) (Or.inl ⟨by rfl, ?_⟩) hHeld ?_; rotate_left; (· (intro w9 hSw; (try dsimp only at hSw); go_simp; (try with_reducible rfl))))
        (try simp only [Act.put, List.setIfInBounds_toArray, List.set_cons_zero, List.set_cons_succ])
        (refine wpAnyH_take (i := 3) (oi := ⟨some 20, _, _, _, _, none⟩) (v := ?_) rfl (by kernel_rfl) (by kernel_rfl) (by kernel_rfl) (fun _ _ _ h => h) (Or.inl ⟨by rfl, ?_⟩) hHeld ?_; rotate_left; (· (intro w9 hSw; (try dsimp only at hSw); go_simp; (try with_reducible rfl))))
        (try simp only [Act.put, List.setIfInBounds_toArray, List.set_cons_zero, List.set_cons_succ])
        (refine wpAnyH_take (i := 4) (oi := ⟨some 21, _, _, _, _, none⟩) (v := ?_) rfl (by kernel_rfl) (by kernel_rfl) (by kernel_rfl) (fun _ _ _ h => h) (Or.inl ⟨by rfl, ?_⟩) hHeld ?_; rotate_left; (· (intro w9 hSw; (try dsimp only at hSw); go_simp; (try with_reducible rfl))))
        (try simp only [Act.put, List.setIfInBounds_toArray, List.set_cons_zero, List.set_cons_succ])
        (refine wpAnyH_take (i := 5) (oi := ⟨some 22, _, _, _, _, none⟩) (v := ?_) rfl (by kernel_rfl) (by kernel_rfl) (by kernel_rfl) (fun _ _ _ h => h) (Or.inl ⟨by rfl, ?_⟩) hHeld ?_; rotate_left; (· (intro w9 hSw; (try dsimp only at hSw); go_simp; (try with_reducible rfl))))
        (try simp only [Act.put, List.setIfInBounds_toArray, List.set_cons_zero, List.set_cons_succ])
        (refine wpAnyH_take (i := 6) (oi := ⟨some 23, _, _, _, _, none⟩) (v := ?_) rfl (by kernel_rfl) (by kernel_rfl) (by kernel_rfl) (fun _ _ _ h => h) (Or.inl ⟨by rfl, ?_⟩) hHeld ?_; rotate_left; (· (intro w9 hSw; (try dsimp only at hSw); go_simp; (try with_reducible rfl))))
        (try simp only [Act.put, List.setIfInBounds_toArray, List.set_cons_zero, List.set_cons_succ])
        (refine wpAnyH_take (i := 7) (oi := ⟨some 24, _, _, _, _, none⟩) (v := ?_) rfl (by kernel_rfl) (by kernel_rfl) (by kernel_rfl) (fun _ _ _ h => h) (Or.inl ⟨by rfl, ?_⟩) hHeld ?_; rotate_left; (· (intro w9 hSw; (try dsimp only at hSw); go_simp; (try with_reducible rfl))))
        (try simp only [Act.put, List.setIfInBounds_toArray, List.set_cons_zero, List.set_cons_succ])
        (refine wpAnyH_take (i := 8) (oi := ⟨some 25, _, _, _, _, none⟩) (v := ?_) rfl (by kernel_rfl) (by kernel_rfl) (by kernel_rfl) (fun _ _ _ h => h) (Or.inl ⟨by rfl, ?_⟩) hHeld ?_; rotate_left; (· (intro w9 hSw; (try dsimp only at hSw); go_simp; (try with_reducible rfl))))
        (try simp only [Act.put, List.setIfInBounds_toArray, List.set_cons_zero, List.set_cons_succ])
        (refine wpAnyH_take (i := 9) (oi := ⟨some 26, _, _, _, _, none⟩) (v := ?_) rfl (by kernel_rfl) (by kernel_rfl) (by kernel_rfl) (fun _ _ _ h => h) (Or.inl ⟨by rfl, ?_⟩) hHeld ?_; rotate_left; (· (intro w9 hSw; (try dsimp only at hSw); go_simp; (try with_reducible rfl))))
        (try simp only [Act.put, List.setIfInBounds_toArray, List.set_cons_zero, List.set_cons_succ])
        (refine wpAnyH_take (i := 10) (oi := ⟨some 27, _, _, _, _, none⟩) (v := ?_) rfl (by kernel_rfl) (by kernel_rfl) (by kernel_rfl) (fun _ _ _ h => h) (Or.inl ⟨by rfl, ?_⟩) hHeld ?_; rotate_left; (· (intro w9 hSw; (try dsimp only at hSw); go_simp; (try with_reducible rfl))))
        (try simp only [Act.put, List.setIfInBounds_toArray, List.set_cons_zero, List.set_cons_succ])
        (refine wpAnyH_take (i := 11) (oi := ⟨some 28, _, _, _, _, none⟩) (v := ?_) rfl (by kernel_rfl) (by kernel_rfl) (by kernel_rfl) (fun _ _ _ h => h) (Or.inl ⟨by rfl, ?_⟩) hHeld ?_; rotate_left; (· (intro w9 hSw; (try dsimp only at hSw); go_simp; (try with_reducible rfl))))
        (try simp only [Act.put, List.setIfInBounds_toArray, List.set_cons_zero, List.set_cons_succ])
        (refine wpAnyH_take (i := 12) (oi := ⟨some 29, _, _, _, _, none⟩) (v := ?_) rfl (by kernel_rfl) (by kernel_rfl) (by kernel_rfl) (fun _ _ _ h => h) (Or.inl ⟨by rfl, ?_⟩) hHeld ?_; rotate_left; (· (intro w9 hSw; (try dsimp only at hSw); go_simp; (try with_reducible rfl))))
        (try simp only [Act.put, List.setIfInBounds_toArray, List.set_cons_zero, List.set_cons_succ])
        (refine wpAnyH_take (i := 13) (oi := ⟨some 5, _, _, _, _, none⟩) (v := ?_) rfl (by kernel_rfl) (by kernel_rfl) (by kernel_rfl) (fun _ _ _ h => h) (Or.inl ⟨by rfl, ?_⟩) hHeld ?_; rotate_left; (· (intro w9 hSw; (try dsimp only at hSw); go_simp; (try with_reducible rfl))))
        (try simp only [Act.put, List.setIfInBounds_toArray, List.set_cons_zero, List.set_cons_succ])
        refine wpAnyH_done (by kernel_rfl) ?_ _
        go_wp2_with fail
        exact ⟨⟨k + 1, by simp, by omega, by rw [e3.out], by go_grown⟩, by first | (simp [intOf]; done) | (simp [intOf]; omega)⟩
end Go.Proofs.Ytlpbkifiidlllaa
