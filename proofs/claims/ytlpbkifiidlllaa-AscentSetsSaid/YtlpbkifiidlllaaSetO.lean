/- What is kept of two sets, by package ascent. -/
import Derived.OwnWalk
import Derived.Deep.DeepCutAuto
import Derived.Test.YtlpbkifiidlllaaRows
import Derived.Test.YtlpbkifiidlllaaBase
import Derived.Test.YtlpbkifiidlllaaFacts
import Derived.Test.YtlpbkifiidlllaaTwo
import Derived.Deep.RegionHeld3
import Derived.Deep.RegionWith
import Derived.Deep.QuietTactic
import Derived.BigQuiet
import Derived.Test.YtlpbkifiidlllaaSeq
import Derived.Test.YtlpbkifiidlllaaWinM
import Derived.Test.YtlpbkifiidlllaaWinF
import Derived.Test.YtlpbkifiidlllaaSlotS
import Derived.Test.YtlpbkifiidlllaaSlotU
import Derived.Test.YtlpbkifiidlllaaSetM
import Derived.Test.YtlpbkifiidlllaaSetF
import Derived.Test.YtlpbkifiidlllaaSetG
import Derived.Test.YtlpbkifiidlllaaSetH
import Derived.Test.YtlpbkifiidlllaaSetN
set_option linter.unusedVariables false
set_option linter.unusedSimpArgs false
set_option maxHeartbeats 4000000
set_option maxRecDepth 100000
namespace Go.Proofs.Ytlpbkifiidlllaa
open Go Go.RowKit
theorem tags_all (k : Bool → Bool → Bool) (la lb : List (Int × Int)) : tagsFrom k (endsL la) (endsL lb) 0 0 = tagsOf k la lb := rfl
/-- An append of a slot, at the operation. -/
theorem wp_slot {W : World} {o : Oper} {a : Act} {K : Act → World → Prop} {Q : Exit → Act → World → Prop} (s x : Operand)
    (ho : o.op = .call { callee := .builtin .append, args := #[s, x], argTypes := #[22, 22] }) (B : Nat) (v : Value) (l : List (Int × Int)) (hs : a.eval s = v) (hown : OwnS B l v W) (b c : Int) (n0 : Nat)
    (hx : a.eval x = .slice (some ⟨n0, 0, none⟩) 1 1) (h0 : W.cell? ⟨n0, 0, none⟩ = some (.int .i64 b)) (h1 : W.cell? ⟨n0, 1, none⟩ = some (.int .i64 c)) (hn : l.length < 1000000) (hB : B ≤ W.heap.size)
    (h : ∀ v' w', OwnS B (l ++ [(b, c)]) v' w' → Below B W w' → K (a.put o.dst v') w') : o.wp Try.prog a W K Q := by
  obtain ⟨i0, hi, hz0, hz1, hz2⟩ := info_parts Try.info45
  refine wp_append_own (P := Try.prog) (w := W) s x 22 ho B 45 i0 (.agg #[.int .i64 0, .int .i64 0]) 2 16 Try.underlying22 hi hz0 hz1 hz2 rfl (by decide) v l.length (flatS l) hs hown ⟨n0, 0, none⟩ 1 1 [.int .i64 b, .int .i64 c] hx rfl (by
    intro j u hj
    cases j with
    | zero => simp at hj; subst hj; simpa [Addr.add] using h0
    | succ j =>
      cases j with
      | zero => simp at hj; subst hj; simpa [Addr.add] using h1
      | succ j => simp at hj) (by intro u hu; simp at hu; rcases hu with rfl | rfl <;> rfl) (by unfold maxLen; omega) (by omega) hB ?_
  intro v' w' h2 h3 _
  refine h v' w' ?_ ((Below.refl B _).grown h3 hB (fun k hk => (World.ownsRow.lt hown k hk).1))
  unfold OwnS; rw [flat_snoc, List.length_append]; exact h2
theorem OwnS.drew {B : Nat} {l : List (Int × Int)} {v : Value} {w : World} (h : OwnS B l v w) : OwnS B l v w.drew := World.ownsRow.drew h
theorem ends_get {R : List (Int × Int)} {k : Nat} {F T : Int} (h : R[k]? = some (F, T)) : (endsL R)[2 * k]? = some F ∧ (endsL R)[2 * k + 1]? = some T := by
  induction R generalizing k with
  | nil => simp at h
  | cons p R ih =>
    cases k with
    | zero =>
      have : p = (F, T) := by simpa using h
      subst this
      exact ⟨rfl, rfl⟩
    | succ k =>
      have := ih (k := k) (by simpa using h)
      rw [ends_cons, show 2 * (k + 1) = 2 * k + 1 + 1 by omega, List.getElem?_cons_succ, List.getElem?_cons_succ, List.getElem?_cons_succ, List.getElem?_cons_succ]
      exact this
theorem merged_any (n : Nat) (k : Bool → Bool → Bool) (hk0 : k false false = false) (hr : ∀ (args : Array Value) (W : World), (callFunc n args).run Try.prog W = .ok (.enter n args) W) (hk : Hid (∀ x y (W : World), Calls Try.prog n #[.bool x, .bool y] W fun e w' => e = .returned (.bool (k x y)) ∧ Below W.heap.size W w'))
    (v u : Value) (a b : List (Int × Int)) (w : World) (hv : SlotsIn v a w) (hu : SlotsIn u b w) (hla : a.length ≤ 60) (hlb : b.length ≤ 60) (ha : SlB a) (hb : SlB b) (ca : setB a = true) (cb : setB b = true) :
    Calls Try.prog 17 #[v, u, .func (.func n) #[] #[]] w fun e w' => (∃ v', e = .returned (.tuple #[v', .int .i64 0]) ∧ SlotsIn v' (mixR k a b) w') ∧ Below w.heap.size w w' := by
  have k1 := hid (fun W hW => isset_any v a W (hv.below hW) (by omega) ha)
  have k2 := hid (fun W hW => isset_any u b W (hu.below hW) (by omega) hb)
  rw [ca] at k1
  rw [cb] at k2
  have k3 := hid (fun W hW => endsOf_any v a W (hv.below hW) (by omega))
  have k4 := hid (fun W hW => endsOf_any u b W (hu.below hW) (by omega))
  have k5 := hid (fun v u W hv hu => merge_any n k hr hk v u (endsL a) (endsL b) W hv hu (by rw [ends_len]; omega) (by rw [ends_len]; omega))
  have hM := hid (show keepE [] (tagsFrom k (endsL a) (endsL b) 0 0) = endsL (mixR k a b) by rw [tags_all, mix_ends hk0])
  have hL := mix_len k a b hk0
  generalize mixR k a b = R at *
  clear hk hr ha hb ca cb
  go_enter Try.func17, Try.ntmps17
  go_wp2_with fail
  refine useK w (k1.out _ (by go_grown)) (by go_grown) ?_; rintro e w1 rfl hB1 hk1 hs1
  have hz1 := hB1.size
  clear hk1
  go_wp2_with fail
  refine useK w (k2.out _ (by go_grown)) (by go_grown) ?_; rintro e w2 rfl hB2 hk2 hs2
  have hz2 := hB2.size
  clear hk2
  go_wp2_with fail
  refine useP w (k3.out _ (by go_grown)) (by go_grown) ?_; rintro e w3 ⟨v3, rfl, i3⟩ hB3 hO3
  have hz3 := hB3.size
  clear hO3
  go_wp2_with fail
  refine useP w (k4.out _ (by go_grown)) (by go_grown) ?_; rintro e w4 ⟨v4, rfl, i4⟩ hB4 hO4
  have hz4 := hB4.size
  replace i3 := i3.below hO4
  clear hO4
  go_wp2_with fail
  refine useP w (k5.out _ _ _ i3 i4) (by go_grown) ?_; rintro e w5 ⟨v5, rfl, i5⟩ hB5 hO5
  have hz5 := hB5.size
  rw [hM.out] at i5
  have g5 := i5
  obtain ⟨q, cap, rfl, _⟩ := g5
  have hlen : (endsL R).length = R.length * 2 := ends_len R
  have hc1 : ¬ (8192 : Int) < ((endsL R).length : Int) := by omega
  clear hO5 i3 i4 k1 k2 k3 k4 k5 hM
  go_wp2_with fail
  replace hv := hid hv
  replace hu := hid hu
  go_loopw [10, 9] (fun s o wx => ∃ m j : Nat, s = .int .i64 m ∧ m = 2 * j ∧ j ≤ R.length ∧ OwnS w5.heap.size (R.take j) o wx ∧ Below w5.heap.size w5 wx ∧ Below w.heap.size w wx) (fun s _ _ => (R.length * 2 - intOf s).toNat)
  case atStart => exact ⟨0, 0, rfl, rfl, Nat.zero_le _, OwnS.nil _ _, Below.refl _ _, by go_grown⟩
  case round =>
    obtain ⟨m, j, rfl, hm, hj, hown, hB0, hB⟩ := hrel
    have h1 := i5.below hB0
    have hz0 := hB0.size
    have hz := hB.size
    by_cases c : j = R.length
    · have c1 : ¬ (m : Int) < R.length * 2 := by omega
      subst c
      rw [List.take_length] at hown
      have hr := own_slots hown
      clear h1 hown
      go_wp2_with fail
      go_ret2
      exact ⟨⟨_, rfl, hr⟩, by go_grown⟩
    · obtain ⟨⟨F, T⟩, hp⟩ := slot_some (show j < R.length by omega)
      obtain ⟨f1, f2⟩ := ends_get hp
      rw [← hm] at f1 f2
      have i6 := i5
      obtain ⟨x1, y1, e0, z1 | ⟨B1, o1, z1, r0⟩⟩ := i5
      · rw [z1] at f1; simp at f1
      rw [hlen] at e0
      simp only [Value.slice.injEq] at e0
      obtain ⟨rfl, _, rfl⟩ := e0
      subst z1
      have r1 : RowI B1 o1 (endsL R) wr := fun i n hn => cell_below (r0 i n hn) hB0
      have d0 := r1 m _ f1
      obtain ⟨m1, hm1⟩ : ∃ m1, m1 = m + 1 := ⟨_, rfl⟩
      rw [← hm1] at f2
      have d1 := r1 m1 _ f2
      have wm : IntKind.i64.wrap ((m : Int) + 1) = (m1 : Int) := by rw [IntKind.wrap_i64]; omega
      have hmc : (m : Int) < R.length * 2 := by omega
      have hmd : (m1 : Int) < R.length * 2 := by omega
      have hme : m < R.length * 2 := by omega
      have hmf : m1 < R.length * 2 := by omega
      have hT : R.take (j + 1) = R.take j ++ [(F, T)] := by rw [List.take_add_one, hp]; rfl
      have hlk : (R.take j).length < 1000000 := by rw [List.length_take]; omega
      have hb1 : B1 < w5.heap.size := World.block_lt_of_cell? w5 _ (r0 m _ f1)
      replace hm := hid hm
      replace hm1 := hid hm1
      replace hT := hid hT
      clear h1 i6 r0 r1 hp f1 f2
      go_wp2_with fail
      refine wp_region_held_drew (S := (fun w' => w'.cell? ⟨B1, o1 + m, none⟩ = some (.int .i64 F) ∧ w'.cell? ⟨B1, o1 + m1, none⟩ = some (.int .i64 T))) (by kernel_rfl) (by (try dsimp only); (first | (exact ⟨hk1 _ _ _ (hOld.1), hk1 _ _ _ (hOld.2)⟩) | ((try simp only [World.cell?_drew, World.frozen?_drew]); (repeat' apply And.intro) <;> (first | (with_reducible assumption) | (with_reducible exact ⟨_, by assumption⟩) | (with_reducible exact ⟨_, two_other (by assumption) (by omega)⟩) | (with_reducible exact two_0 (by assumption)) | (with_reducible exact two_1 (by assumption)) | (with_reducible exact two_other (by assumption) (by omega)) | (with_reducible exact two_fz (by assumption)) | (with_reducible exact keepA _ (by assumption)) | (with_reducible exact keepA _ (keepA _ (keepA _ (by assumption)))) | (simp (maxDischargeDepth := 8) [*, go_sem, World.cell?_alloc_some, World.cell?_setCell_far]; done))) | (go_keep; done) | (simp (maxDischargeDepth := 8) [*, go_sem, World.cell?_alloc_some, World.cell?_setCell_far]; done))) (fun hHeld => ?_)
      (refine wpAnyH_take (i := 0) (oi := ⟨some 34, _, _, _, _, none⟩) (v := ?_) rfl (by kernel_rfl) (by kernel_rfl) (by kernel_rfl) (fun _ _ _ h => h) (Or.inl ⟨by rfl, ?_⟩) hHeld ?_; rotate_left; (· (intro w9 hSw; (try dsimp only at hSw); go_simp; (try with_reducible rfl))))
      (try simp only [Act.put, List.setIfInBounds_toArray, List.set_cons_zero, List.set_cons_succ])
      (refine wpAnyH_take (i := 1) (oi := ⟨some 35, _, _, _, _, none⟩) (v := ?_) rfl (by kernel_rfl) (by kernel_rfl) (by kernel_rfl) (fun _ _ _ h => h) (Or.inl ⟨by rfl, ?_⟩) hHeld ?_; rotate_left; (· (intro w9 hSw; (try dsimp only at hSw); go_simp; (try with_reducible rfl))))
      (try simp only [Act.put, List.setIfInBounds_toArray, List.set_cons_zero, List.set_cons_succ])
      (refine wpAnyH_take (i := 2) (oi := ⟨some 36, _, _, _, _, none⟩) (v := ?_) rfl (by kernel_rfl) (by kernel_rfl) (by kernel_rfl) (fun _ _ _ h => h) (Or.inl ⟨by rfl, ?_⟩) hHeld ?_; rotate_left; (· (intro w9 hSw; (try dsimp only at hSw); go_simp; (try with_reducible rfl))))
      (try simp only [Act.put, List.setIfInBounds_toArray, List.set_cons_zero, List.set_cons_succ])
      (refine wpAnyH_take (i := 3) (oi := ⟨some 37, _, _, _, _, none⟩) (v := ?_) rfl (by kernel_rfl) (by kernel_rfl) (by kernel_rfl) (fun _ _ _ h => h) (Or.inl ⟨by rfl, ?_⟩) hHeld ?_; rotate_left; (· (intro w9 hSw; (try dsimp only at hSw); go_simp; (try with_reducible rfl))))
      (try simp only [Act.put, List.setIfInBounds_toArray, List.set_cons_zero, List.set_cons_succ])
      (refine wpAnyH_take (i := 4) (oi := ⟨some 38, _, _, _, _, none⟩) (v := ?_) rfl (by kernel_rfl) (by kernel_rfl) (by kernel_rfl) (fun _ _ _ h => h) (Or.inl ⟨by rfl, ?_⟩) hHeld ?_; rotate_left; (· (intro w9 hSw; (try dsimp only at hSw); go_simp; (try with_reducible rfl))))
      (try simp only [Act.put, List.setIfInBounds_toArray, List.set_cons_zero, List.set_cons_succ])
      (refine wpAnyH_take (i := 5) (oi := ⟨some 39, _, _, _, _, none⟩) (v := ?_) rfl (by kernel_rfl) (by kernel_rfl) (by kernel_rfl) (fun _ _ _ h => h) (Or.inl ⟨by rfl, ?_⟩) hHeld ?_; rotate_left; (· (intro w9 hSw; (try dsimp only at hSw); go_simp; (try with_reducible rfl))))
      (try simp only [Act.put, List.setIfInBounds_toArray, List.set_cons_zero, List.set_cons_succ])
      (refine wpAnyH_take (i := 6) (oi := ⟨some 40, _, _, _, _, none⟩) (v := ?_) rfl (by kernel_rfl) (by kernel_rfl) (by kernel_rfl) (fun _ _ _ h => h) (Or.inl ⟨by rfl, ?_⟩) hHeld ?_; rotate_left; (· (intro w9 hSw; (try dsimp only at hSw); go_simp; (try with_reducible rfl))))
      (try simp only [Act.put, List.setIfInBounds_toArray, List.set_cons_zero, List.set_cons_succ])
      (refine wpAnyH_take (i := 7) (oi := ⟨some 41, _, _, _, _, none⟩) (v := ?_) rfl (by kernel_rfl) (by kernel_rfl) (by kernel_rfl) (fun _ _ _ h => h) (Or.inl ⟨by rfl, ?_⟩) hHeld ?_; rotate_left; (· (intro w9 hSw; (try dsimp only at hSw); go_simp; (try with_reducible rfl))))
      (try simp only [Act.put, List.setIfInBounds_toArray, List.set_cons_zero, List.set_cons_succ])
      (refine wpAnyH_take (i := 8) (oi := ⟨some 42, _, _, _, _, none⟩) (v := ?_) rfl (by kernel_rfl) (by kernel_rfl) (by kernel_rfl) (fun _ _ _ h => h) (Or.inl ⟨by rfl, ?_⟩) hHeld ?_; rotate_left; (· (intro w9 hSw; (try dsimp only at hSw); go_simp; (try with_reducible rfl))))
      (try simp only [Act.put, List.setIfInBounds_toArray, List.set_cons_zero, List.set_cons_succ])
      (refine wpAnyH_take (i := 9) (oi := ⟨some 43, _, _, _, _, none⟩) (v := ?_) rfl (by kernel_rfl) (by kernel_rfl) (by kernel_rfl) (fun _ _ _ h => h) (Or.inl ⟨by rfl, ?_⟩) hHeld ?_; rotate_left; (· (intro w9 hSw; (try dsimp only at hSw); go_simp; (try with_reducible rfl))))
      (try simp only [Act.put, List.setIfInBounds_toArray, List.set_cons_zero, List.set_cons_succ])
      (refine wpAnyH_take (i := 10) (oi := ⟨some 44, _, _, _, _, none⟩) (v := ?_) rfl (by kernel_rfl) (by kernel_rfl) (by kernel_rfl) (fun _ _ _ h => h) (Or.inl ⟨by rfl, ?_⟩) hHeld ?_; rotate_left; (· (intro w9 hSw; (try dsimp only at hSw); go_simp; (try with_reducible rfl))))
      (try simp only [Act.put, List.setIfInBounds_toArray, List.set_cons_zero, List.set_cons_succ])
      (refine wpAnyH_ready (rs := [11]) (by kernel_rfl) (by simp) ?_; refine AllReadyH.cons (o := ⟨some 45, _, _, _, _, none⟩) rfl (fun K hK => ?_) AllReadyH.nil; have hOld := hHeld; clear hHeld; go_simp; refine hK.out _ _ ?_ (fun hHeld => ?_); (· ((try dsimp only); exact ⟨keepA _ (hOld.1), keepA _ (hOld.2)⟩)); clear hK K hOld)
      (try simp only [Act.put, List.setIfInBounds_toArray, List.set_cons_zero, List.set_cons_succ])
      (refine wpAnyH_ready (rs := [12]) (by kernel_rfl) (by simp) ?_; refine AllReadyH.cons (o := ⟨some 46, _, _, _, _, none⟩) rfl (fun K hK => ?_) AllReadyH.nil; have hOld := hHeld; clear hHeld; refine wp_slot _ _ rfl w5.heap.size _ _ rfl ((hown.drew).alloc _) F T wr.heap.size rfl (by simp [go_sem]) (by simp [go_sem]) hlk (by simp [go_sem]; omega) (fun v6 w6 h6 hb6 => ?_) ; refine hK.out _ _ ?_ (fun hHeld => ?_); (· ((try dsimp only);  exact ⟨(hb6.cell (p := ⟨B1, o1 + m, none⟩) hb1).trans hOld.1, (hb6.cell (p := ⟨B1, o1 + m1, none⟩) hb1).trans hOld.2⟩)); clear hK K hOld)
      (try simp only [Act.put, List.setIfInBounds_toArray, List.set_cons_zero, List.set_cons_succ])
      (refine wpAnyH_take (i := 13) (oi := ⟨some 9, _, _, _, _, none⟩) (v := ?_) rfl (by kernel_rfl) (by kernel_rfl) (by kernel_rfl) (fun _ _ _ h => h) (Or.inl ⟨by rfl, ?_⟩) hHeld ?_; rotate_left; (· (intro w9 hSw; (try dsimp only at hSw); go_simp; (try with_reducible rfl))))
      (try simp only [Act.put, List.setIfInBounds_toArray, List.set_cons_zero, List.set_cons_succ])
      refine wpAnyH_done (by kernel_rfl) ?_ _
      rw [← hT.out] at h6
      have hB7 : Below w5.heap.size w5 w6 := hB0.trans ((show Below w5.heap.size wr (wr.drew.alloc (.cells #[.int .i64 F, .int .i64 T] 45)) by go_grown).trans hb6)
      have hB6 : Below w.heap.size w w6 := hB5.trans (hB7.mono hz5)
      replace hm := hm.out
      clear hb6 hown hB0 hHeld wm
      go_wp2_with fail
      exact ⟨⟨m + 2, j + 1, by first | (simp; done) | (simp; omega), by omega, by omega, h6, hB7, hB6⟩, by first | (simp [intOf]; done) | (simp [intOf]; omega)⟩
end Go.Proofs.Ytlpbkifiidlllaa
