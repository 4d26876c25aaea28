/- Products of spans, of the document's answer. -/
import Derived.Deep.DeepCutAuto
import Derived.Deep.CutBlock
import Derived.Test.YtjleflfncijnpaaRows
import Derived.Test.YtjleflfncijnpaaBase
import Derived.Test.YtjleflfncijnpaaFacts
import Derived.Test.YtjleflfncijnpaaTwo
import Derived.Deep.RegionHeld3
import Derived.Deep.RegionWith
import Derived.Deep.QuietTactic
import Derived.BigQuiet
import Derived.Test.YtjleflfncijnpaaW
import Derived.Test.YtjleflfncijnpaaAsks
import Derived.Test.YtjleflfncijnpaaOut
import Derived.Test.YtjleflfncijnpaaSeq
import Derived.Test.YtjleflfncijnpaaTwo
import Derived.Test.YtjleflfncijnpaaQuo
import Derived.Test.YtjleflfncijnpaaTimes
import Derived.Test.YtjleflfncijnpaaDown
import Derived.Test.YtjleflfncijnpaaScaleM
import Derived.Test.YtjleflfncijnpaaMul
set_option linter.unusedVariables false
set_option linter.unusedSimpArgs false
set_option maxHeartbeats 4000000
set_option maxRecDepth 100000
namespace Go.Proofs.Ytjleflfncijnpaa
open Go Go.RowKit
theorem mnmx_bd (p : Nat → Int) (b : Int) (hb : 0 ≤ b) (h : ∀ k, -b ≤ p k ∧ p k ≤ b) (k : Nat) : (-b ≤ mnK p k ∧ mnK p k ≤ b) ∧ -b ≤ mxK p k ∧ mxK p k ≤ b := by
  match k with
  | 0 => unfold mnK mxK; omega
  | 1 => have := h 0; unfold mnK mxK; omega
  | k + 2 =>
    have h1 := mnmx_bd p b hb h (k + 1)
    have h2 := h (k + 1)
    unfold mnK mxK
    constructor <;> split <;> omega
theorem mnmx_step (p : Nat → Int) {k : Nat} (hk : 0 < k) : mnK p (k + 1) = (if p k < mnK p k then p k else mnK p k) ∧ mxK p (k + 1) = if mxK p k < p k then p k else mxK p k := by
  obtain ⟨j, rfl⟩ : ∃ j, k = j + 1 := ⟨k - 1, by omega⟩
  exact ⟨rfl, rfl⟩
theorem mn4_val (p : Nat → Int) : mnK p 4 = min (min (min (p 0) (p 1)) (p 2)) (p 3) := by
  obtain ⟨h3, _⟩ := mnmx_step p (k := 3) (by omega)
  obtain ⟨h2, _⟩ := mnmx_step p (k := 2) (by omega)
  obtain ⟨h1, _⟩ := mnmx_step p (k := 1) (by omega)
  have h0 : mnK p 1 = p 0 := rfl
  rw [h3, h2, h1, h0]
  (repeat' split) <;> omega
theorem mx4_val (p : Nat → Int) : mxK p 4 = max (max (max (p 0) (p 1)) (p 2)) (p 3) := by
  obtain ⟨_, h3⟩ := mnmx_step p (k := 3) (by omega)
  obtain ⟨_, h2⟩ := mnmx_step p (k := 2) (by omega)
  obtain ⟨_, h1⟩ := mnmx_step p (k := 1) (by omega)
  have h0 : mxK p 1 = p 0 := rfl
  rw [h3, h2, h1, h0]
  (repeat' split) <;> omega
theorem up_32 (p : Int) : dnQ p 4294967296 = p / 4294967296 ∧ upQ p 4294967296 = -(-p / 4294967296) := by
  unfold upQ dnQ; simp
theorem mul_fit (al ah bl bh : Int) : cornS (fun x y => rdQ (x * y) 4294967296) (fun x y => ruQ (x * y) 4294967296) (fun x y => ftQ (x * y) 4294967296) al ah bl bh = fitS (mnK (pK al ah bl bh) 4 / 4294967296) (-(-mxK (pK al ah bl bh) 4 / 4294967296)) := by
  rw [corn_fit (fun x y => x * y) (fun _ _ => 4294967296) al ah bl bh (dn_le _ _ _ (by omega)) (dn_le _ _ _ (by omega)) (dn_le _ _ _ (by omega)) (dn_le _ _ _ (by omega)), mn4_val, mx4_val]
  simp only [(up_32 _).1, (up_32 _).2]
  show fitS _ _ = fitS (min (min (min (al * bl) (al * bh)) (ah * bl)) (ah * bh) / 4294967296) (-(-max (max (max (al * bl) (al * bh)) (ah * bl)) (ah * bh) / 4294967296))
  generalize al * bl = A
  generalize al * bh = B
  generalize ah * bl = C
  generalize ah * bh = D
  congr 1 <;> omega
theorem pK_bd (al ah bl bh : Int) (h : (-9223372036854775808 ≤ al ∧ al ≤ 9223372036854775807) ∧ (-9223372036854775808 ≤ ah ∧ ah ≤ 9223372036854775807) ∧ (-9223372036854775808 ≤ bl ∧ bl ≤ 9223372036854775807) ∧ (-9223372036854775808 ≤ bh ∧ bh ≤ 9223372036854775807)) (k : Nat) : -85070591730234615865843651857942052864 ≤ pK al ah bl bh k ∧ pK al ah bl bh k ≤ 85070591730234615865843651857942052864 := by
  obtain ⟨h1, h2, h3, h4⟩ := h
  have key : ∀ x y : Int, (-9223372036854775808 ≤ x ∧ x ≤ 9223372036854775807) ∧ (-9223372036854775808 ≤ y ∧ y ≤ 9223372036854775807) → -85070591730234615865843651857942052864 ≤ x * y ∧ x * y ≤ 85070591730234615865843651857942052864 := fun x y ⟨hx, hy⟩ => by
    have m := mul_bd (ab_bd hx) (ab_bd hy)
    have v := ab_mul x y
    simp only [Int.reduceMul] at m
    rw [v]; split <;> omega
  unfold pK
  split
  · exact key _ _ ⟨h1, h3⟩
  · exact key _ _ ⟨h1, h4⟩
  · exact key _ _ ⟨h2, h3⟩
  · exact key _ _ ⟨h2, h4⟩
/-- What Mul's loop holds: the pairs, the result's cells, the least and the greatest product so far. -/
def M8 (Z Bl B : Nat) (al ah bl bh lo hi : Int) : World → Prop := (fun w' => w'.cell? ⟨B, 0, none⟩ = some (.int .i64 al) ∧ w'.cell? ⟨B, 1, none⟩ = some (.int .i64 bl) ∧ w'.cell? ⟨B, 2, none⟩ = some (.int .i64 al) ∧ w'.cell? ⟨B, 3, none⟩ = some (.int .i64 bh) ∧ w'.cell? ⟨B, 4, none⟩ = some (.int .i64 ah) ∧ w'.cell? ⟨B, 5, none⟩ = some (.int .i64 bl) ∧ w'.cell? ⟨B, 6, none⟩ = some (.int .i64 ah) ∧ w'.cell? ⟨B, 7, none⟩ = some (.int .i64 bh) ∧ w'.cell? ⟨Z, 0, none⟩ = some (.int .i64 0) ∧ w'.cell? ⟨Z, 1, none⟩ = some (.int .i64 0) ∧ w'.frozen? ⟨Z, 0, none⟩ = false ∧ w'.frozen? ⟨Z, 1, none⟩ = false ∧ w'.cell? ⟨Bl, 0, none⟩ = some (.int .i64 (hiW lo)) ∧ w'.cell? ⟨Bl, 1, none⟩ = some (.int .u64 (loW lo)) ∧ w'.frozen? ⟨Bl, 0, none⟩ = false ∧ w'.frozen? ⟨Bl, 1, none⟩ = false ∧ w'.cell? ⟨Bl + 1, 0, none⟩ = some (.int .i64 (hiW hi)) ∧ w'.cell? ⟨Bl + 1, 1, none⟩ = some (.int .u64 (loW hi)) ∧ w'.frozen? ⟨Bl + 1, 0, none⟩ = false ∧ w'.frozen? ⟨Bl + 1, 1, none⟩ = false)
theorem rmul_any (al ah bl bh : Int) (w : World) (h : (-9223372036854775808 ≤ al ∧ al ≤ 9223372036854775807) ∧ (-9223372036854775808 ≤ ah ∧ ah ≤ 9223372036854775807) ∧ (-9223372036854775808 ≤ bl ∧ bl ≤ 9223372036854775807) ∧ (-9223372036854775808 ≤ bh ∧ bh ≤ 9223372036854775807)) :
    Calls Try.prog 30 #[.agg #[.int .i64 al, .int .i64 ah], .agg #[.int .i64 bl, .int .i64 bh]] w fun e w' => e = .returned (.tuple #[.agg #[.int .i64 ((mulS al ah bl bh).1), .int .i64 ((mulS al ah bl bh).2.1)], .int .i64 ((mulS al ah bl bh).2.2)]) ∧ Below w.heap.size w w' := by
  have hpb := hid (pK_bd al ah bl bh h)
  obtain ⟨⟨a1, a2⟩, ⟨b1, b2⟩, ⟨c1, c2⟩, d1, d2⟩ := h
  rcases both_cases al ah bl bh with ⟨e, _⟩ | e
  · have hp := hid (show mulS al ah bl bh = _ from if_pos e)
    go_enter Try.func30, Try.ntmps30
    go_wp2_with fail
    refine useF w (rboth_any _ _ _ _ _ (by omega)) (by go_grown) ?_; rintro e w1 rfl hB1 hk1 hf1 hs1
    replace f20 : w1.frozen? ⟨w.heap.size + 1 + 1, 0, none⟩ = false := hf1 _ _ (.int .i64 0) (by simp [go_sem]) (by simp [go_sem])
    replace f21 : w1.frozen? ⟨w.heap.size + 1 + 1, 1, none⟩ = false := hf1 _ _ (.int .i64 0) (by simp [go_sem]) (by simp [go_sem])
    replace p00 : w1.cell? ⟨w.heap.size, 0, none⟩ = some (.int .i64 al) := hk1 _ _ _ (by simp [go_sem])
    replace p01 : w1.cell? ⟨w.heap.size, 1, none⟩ = some (.int .i64 ah) := hk1 _ _ _ (by simp [go_sem])
    replace p10 : w1.cell? ⟨w.heap.size + 1, 0, none⟩ = some (.int .i64 bl) := hk1 _ _ _ (by simp [go_sem])
    replace p11 : w1.cell? ⟨w.heap.size + 1, 1, none⟩ = some (.int .i64 bh) := hk1 _ _ _ (by simp [go_sem])
    replace p20 : w1.cell? ⟨w.heap.size + 1 + 1, 0, none⟩ = some (.int .i64 0) := hk1 _ _ _ (by simp [go_sem])
    replace p21 : w1.cell? ⟨w.heap.size + 1 + 1, 1, none⟩ = some (.int .i64 0) := hk1 _ _ _ (by simp [go_sem])
    have bp00 : w.heap.size < w1.heap.size := World.block_lt_of_cell? w1 ⟨w.heap.size, 0, none⟩ p00
    have bp10 : w.heap.size + 1 < w1.heap.size := World.block_lt_of_cell? w1 ⟨w.heap.size + 1, 0, none⟩ p10
    have bp20 : w.heap.size + 1 + 1 < w1.heap.size := World.block_lt_of_cell? w1 ⟨w.heap.size + 1 + 1, 0, none⟩ p20
    clear hk1 hf1
    go_wp2_with fail
    have g0 := rcorners_any al ah bl bh
    refine useG w (g0 _ (by omega)) (by go_grown) ?_; rintro e w2 ⟨rfl, h8⟩ hB2 hk2 hf2 hs2
    have z0 := hk2 _ _ _ (keepA _ (keepA _ p20)); have z1 := hk2 _ _ _ (keepA _ (keepA _ p21))
    have zf0 := hf2 _ _ _ (keepA _ (keepA _ p20)) (keepAF _ (keepA _ p20) (keepAF _ p20 f20)); have zf1 := hf2 _ _ _ (keepA _ (keepA _ p21)) (keepAF _ (keepA _ p21) (keepAF _ p21 f21))
    have lo0 := hk2 w1.heap.size 0 (.int .i64 0) (by simp [go_sem]); have lo1 := hk2 w1.heap.size 1 (.int .u64 0) (by simp [go_sem])
    have lof0 := hf2 w1.heap.size 0 (.int .i64 0) (by simp [go_sem]) (by simp [go_sem]); have lof1 := hf2 w1.heap.size 1 (.int .u64 0) (by simp [go_sem]) (by simp [go_sem])
    have hi0 := hk2 (w1.heap.size + 1) 0 (.int .i64 0) (by simp [go_sem]); have hi1 := hk2 (w1.heap.size + 1) 1 (.int .u64 0) (by simp [go_sem])
    have hif0 := hf2 (w1.heap.size + 1) 0 (.int .i64 0) (by simp [go_sem]) (by simp [go_sem]); have hif1 := hf2 (w1.heap.size + 1) 1 (.int .u64 0) (by simp [go_sem]) (by simp [go_sem])
    clear hk2 hf2 hs2 g0 p00 p01 p10 p11 p20 p21 f20 f21 bp00 bp10
    simp only [World.size_alloc] at h8 ⊢
    generalize hZ : w.heap.size + 1 + 1 = Z at *
    generalize w1.heap.size = Bl at *
    generalize hB : Bl + 1 + 1 + 1 + 1 = B at *
    have hwZ : w.heap.size ≤ Z := by omega
    have hZl : Z < Bl := bp20
    have hlB : Bl + 1 < B := by omega
    have hwl : w.heap.size ≤ Bl := by omega
    clear hZ hB bp20
    obtain ⟨L0, L1, L2, L3, L4, L5, L6, L7⟩ := h8
    go_wp2_with fail
    go_loopw [9] (fun s wx => ∃ k : Nat, s = .int .i64 k ∧ k ≤ 4 ∧ M8 Z Bl B al ah bl bh (mnK (pK al ah bl bh) k) (mxK (pK al ah bl bh) k) wx ∧ Below w.heap.size w wx) (fun s _ => (4 - intOf s).toNat)
    case atStart => exact ⟨0, rfl, by omega, ⟨L0, L1, L2, L3, L4, L5, L6, L7, z0, z1, zf0, zf1, lo0, lo1, lof0, lof1, hi0, hi1, hif0, hif1⟩, hB2⟩
    case round =>
      clear L0 L1 L2 L3 L4 L5 L6 L7 z0 z1 zf0 zf1 lo0 lo1 lof0 lof1 hi0 hi1 hif0 hif1 hB2
      obtain ⟨k, rfl, hk, h8, hB2⟩ := hrel
      obtain ⟨L0, L1, L2, L3, L4, L5, L6, L7, z0, z1, zf0, zf1, lo0, lo1, lof0, lof1, hi0, hi1, hif0, hif1⟩ := h8
      by_cases k4 : k = 4
      · subst k4
        have hmm := mnmx_bd _ _ (by omega) hpb.out 4
        have r1' := hid (show (-170141183460469231731687303715884105728 ≤ mnK (pK al ah bl bh) 4 ∧ mnK (pK al ah bl bh) 4 < 170141183460469231731687303715884105728) by omega)
        have r2' := hid (show (-170141183460469231731687303715884105728 ≤ -mxK (pK al ah bl bh) 4 ∧ -mxK (pK al ah bl bh) 4 < 170141183460469231731687303715884105728) by omega)
        have r3' := hid (show (-170141183460469231731687303715884105728 ≤ mnK (pK al ah bl bh) 4 / 4294967296 ∧ mnK (pK al ah bl bh) 4 / 4294967296 < 170141183460469231731687303715884105728) ∧ (-170141183460469231731687303715884105728 ≤ -(-mxK (pK al ah bl bh) 4 / 4294967296) ∧ -(-mxK (pK al ah bl bh) 4 / 4294967296) < 170141183460469231731687303715884105728) by omega)
        have hf := hid (hp.out.trans (mul_fit al ah bl bh))
        clear hmm hp
        go_wp2_with fail
        have ne0_1 : Z ≠ Bl := (by omega); have ne0_2 : Z ≠ Bl + 1 := (by omega)
        refine wp_region_held_drew (S := (fun w' => w'.frozen? ⟨Z, 0, none⟩ = false ∧ w'.frozen? ⟨Z, 1, none⟩ = false ∧ w'.cell? ⟨Bl, 0, none⟩ = some (.int .i64 (hiW (mnK (pK al ah bl bh) 4))) ∧ w'.cell? ⟨Bl, 1, none⟩ = some (.int .u64 (loW (mnK (pK al ah bl bh) 4))) ∧ w'.cell? ⟨Bl + 1, 0, none⟩ = some (.int .i64 (hiW (mxK (pK al ah bl bh) 4))) ∧ w'.cell? ⟨Bl + 1, 1, none⟩ = some (.int .u64 (loW (mxK (pK al ah bl bh) 4))) ∧ (∃ u, w'.cell? ⟨Z, 0, none⟩ = some u) ∧ (∃ u, w'.cell? ⟨Z, 1, none⟩ = some u))) (by kernel_rfl) (by (try dsimp only); (first | (exact ⟨(hOld.2.2.2.2.2.2.1).elim fun u hu => hf1 _ _ u hu (hOld.1), (hOld.2.2.2.2.2.2.2).elim fun u hu => hf1 _ _ u hu (hOld.2.1), hk1 _ _ _ (hOld.2.2.1), hk1 _ _ _ (hOld.2.2.2.1), hk1 _ _ _ (hOld.2.2.2.2.1), hk1 _ _ _ (hOld.2.2.2.2.2.1), (hOld.2.2.2.2.2.2.1).elim fun u hu => ⟨u, hk1 _ _ _ hu⟩, (hOld.2.2.2.2.2.2.2).elim fun u hu => ⟨u, hk1 _ _ _ hu⟩⟩) | ((try simp only [World.cell?_drew, World.frozen?_drew]); (repeat' apply And.intro) <;> (first | (with_reducible assumption) | (with_reducible exact ⟨_, by assumption⟩) | (with_reducible exact ⟨_, two_other (by assumption) (by omega)⟩) | (with_reducible exact two_0 (by assumption)) | (with_reducible exact two_1 (by assumption)) | (with_reducible exact two_other (by assumption) (by omega)) | (with_reducible exact two_fz (by assumption)) | (with_reducible exact keepA _ (by assumption)) | (with_reducible exact keepA _ (keepA _ (keepA _ (by assumption)))) | (simp (maxDischargeDepth := 8) [*, go_sem, World.cell?_alloc_some, World.cell?_setCell_far]; done))) | (go_keep; done) | (simp (maxDischargeDepth := 8) [*, go_sem, World.cell?_alloc_some, World.cell?_setCell_far]; done))) (fun hHeld => ?_)
        (refine wpAnyH_take (i := 0) (oi := ⟨some 52, _, _, _, _, none⟩) (v := ?_) rfl (by kernel_rfl) (by kernel_rfl) (by kernel_rfl) (fun _ _ _ h => h) (Or.inl ⟨by rfl, ?_⟩) hHeld ?_; rotate_left; (· (intro w9 hSw; (try dsimp only at hSw); go_simp; (try with_reducible rfl))))
        (try simp only [Act.put, List.setIfInBounds_toArray, List.set_cons_zero, List.set_cons_succ])
        (refine wpAnyH_take (i := 2) (oi := ⟨some 54, _, _, _, _, none⟩) (v := ?_) rfl (by kernel_rfl) (by kernel_rfl) (by kernel_rfl) (fun _ _ _ h => h) (Or.inl ⟨by rfl, ?_⟩) hHeld ?_; rotate_left; (· (intro w9 hSw; (try dsimp only at hSw); go_simp; (try with_reducible rfl))))
        (try simp only [Act.put, List.setIfInBounds_toArray, List.set_cons_zero, List.set_cons_succ])
        (refine wpAnyH_ready (rs := [1]) (by kernel_rfl) (by simp) ?_; refine AllReadyH.cons (o := ⟨some 53, _, _, _, _, none⟩) rfl (fun K hK => ?_) AllReadyH.nil; go_simp; (first | (go_at_call 95; refine useF w (down32_any _ _ (by first | exact r1'.out | exact r2'.out)) (by go_grown) ?_; rintro e w1 rfl hB1 hk1 hf1 hs1; have hz1 := hB1.size) | (go_at_call 96; refine useF w (minus_any _ _) (by go_grown) ?_; rintro e w1 rfl hB1 hk1 hf1 hs1; have hz1 := hB1.size) | (go_at_call 80; refine useF w (out_any _ _ _ r3'.out) (by go_grown) ?_; rintro e w1 rfl hB1 hk1 hf1 hs1; have hz1 := hB1.size)); have hOld := hHeld; clear hHeld; refine hK.out _ _ ?_ (fun hHeld => ?_); (· ((try dsimp only); (first | (exact ⟨(hOld.2.2.2.2.2.2.1).elim fun u hu => hf1 _ _ u hu (hOld.1), (hOld.2.2.2.2.2.2.2).elim fun u hu => hf1 _ _ u hu (hOld.2.1), hk1 _ _ _ (hOld.2.2.1), hk1 _ _ _ (hOld.2.2.2.1), hk1 _ _ _ (hOld.2.2.2.2.1), hk1 _ _ _ (hOld.2.2.2.2.2.1), (hOld.2.2.2.2.2.2.1).elim fun u hu => ⟨u, hk1 _ _ _ hu⟩, (hOld.2.2.2.2.2.2.2).elim fun u hu => ⟨u, hk1 _ _ _ hu⟩⟩) | ((try simp only [World.cell?_drew, World.frozen?_drew]); (repeat' apply And.intro) <;> (first | (with_reducible assumption) | (with_reducible exact ⟨_, by assumption⟩) | (with_reducible exact ⟨_, two_other (by assumption) (by omega)⟩) | (with_reducible exact two_0 (by assumption)) | (with_reducible exact two_1 (by assumption)) | (with_reducible exact two_other (by assumption) (by omega)) | (with_reducible exact two_fz (by assumption)) | (with_reducible exact keepA _ (by assumption)) | (with_reducible exact keepA _ (keepA _ (keepA _ (by assumption)))) | (simp (maxDischargeDepth := 8) [*, go_sem, World.cell?_alloc_some, World.cell?_setCell_far]; done))) | (go_keep; done) | (simp (maxDischargeDepth := 8) [*, go_sem, World.cell?_alloc_some, World.cell?_setCell_far]; done)))); clear hK K hOld; (try clear hc1 hf1); (try clear hk1 hf1))
        (try simp only [Act.put, List.setIfInBounds_toArray, List.set_cons_zero, List.set_cons_succ])
        (refine wpAnyH_ready (rs := [3]) (by kernel_rfl) (by simp) ?_; refine AllReadyH.cons (o := ⟨some 55, _, _, _, _, none⟩) rfl (fun K hK => ?_) AllReadyH.nil; go_simp; (first | (go_at_call 95; refine useF w (down32_any _ _ (by first | exact r1'.out | exact r2'.out)) (by go_grown) ?_; rintro e w1 rfl hB1 hk1 hf1 hs1; have hz1 := hB1.size) | (go_at_call 96; refine useF w (minus_any _ _) (by go_grown) ?_; rintro e w1 rfl hB1 hk1 hf1 hs1; have hz1 := hB1.size) | (go_at_call 80; refine useF w (out_any _ _ _ r3'.out) (by go_grown) ?_; rintro e w1 rfl hB1 hk1 hf1 hs1; have hz1 := hB1.size)); have hOld := hHeld; clear hHeld; refine hK.out _ _ ?_ (fun hHeld => ?_); (· ((try dsimp only); (first | (exact ⟨(hOld.2.2.2.2.2.2.1).elim fun u hu => hf1 _ _ u hu (hOld.1), (hOld.2.2.2.2.2.2.2).elim fun u hu => hf1 _ _ u hu (hOld.2.1), hk1 _ _ _ (hOld.2.2.1), hk1 _ _ _ (hOld.2.2.2.1), hk1 _ _ _ (hOld.2.2.2.2.1), hk1 _ _ _ (hOld.2.2.2.2.2.1), (hOld.2.2.2.2.2.2.1).elim fun u hu => ⟨u, hk1 _ _ _ hu⟩, (hOld.2.2.2.2.2.2.2).elim fun u hu => ⟨u, hk1 _ _ _ hu⟩⟩) | ((try simp only [World.cell?_drew, World.frozen?_drew]); (repeat' apply And.intro) <;> (first | (with_reducible assumption) | (with_reducible exact ⟨_, by assumption⟩) | (with_reducible exact ⟨_, two_other (by assumption) (by omega)⟩) | (with_reducible exact two_0 (by assumption)) | (with_reducible exact two_1 (by assumption)) | (with_reducible exact two_other (by assumption) (by omega)) | (with_reducible exact two_fz (by assumption)) | (with_reducible exact keepA _ (by assumption)) | (with_reducible exact keepA _ (keepA _ (keepA _ (by assumption)))) | (simp (maxDischargeDepth := 8) [*, go_sem, World.cell?_alloc_some, World.cell?_setCell_far]; done))) | (go_keep; done) | (simp (maxDischargeDepth := 8) [*, go_sem, World.cell?_alloc_some, World.cell?_setCell_far]; done)))); clear hK K hOld; (try clear hc1 hf1); (try clear hk1 hf1))
        (try simp only [Act.put, List.setIfInBounds_toArray, List.set_cons_zero, List.set_cons_succ])
        (refine wpAnyH_ready (rs := [4]) (by kernel_rfl) (by simp) ?_; refine AllReadyH.cons (o := ⟨some 56, _, _, _, _, none⟩) rfl (fun K hK => ?_) AllReadyH.nil; go_simp; (first | (go_at_call 95; refine useF w (down32_any _ _ (by first | exact r1'.out | exact r2'.out)) (by go_grown) ?_; rintro e w1 rfl hB1 hk1 hf1 hs1; have hz1 := hB1.size) | (go_at_call 96; refine useF w (minus_any _ _) (by go_grown) ?_; rintro e w1 rfl hB1 hk1 hf1 hs1; have hz1 := hB1.size) | (go_at_call 80; refine useF w (out_any _ _ _ r3'.out) (by go_grown) ?_; rintro e w1 rfl hB1 hk1 hf1 hs1; have hz1 := hB1.size)); have hOld := hHeld; clear hHeld; refine hK.out _ _ ?_ (fun hHeld => ?_); (· ((try dsimp only); (first | (exact ⟨(hOld.2.2.2.2.2.2.1).elim fun u hu => hf1 _ _ u hu (hOld.1), (hOld.2.2.2.2.2.2.2).elim fun u hu => hf1 _ _ u hu (hOld.2.1), hk1 _ _ _ (hOld.2.2.1), hk1 _ _ _ (hOld.2.2.2.1), hk1 _ _ _ (hOld.2.2.2.2.1), hk1 _ _ _ (hOld.2.2.2.2.2.1), (hOld.2.2.2.2.2.2.1).elim fun u hu => ⟨u, hk1 _ _ _ hu⟩, (hOld.2.2.2.2.2.2.2).elim fun u hu => ⟨u, hk1 _ _ _ hu⟩⟩) | ((try simp only [World.cell?_drew, World.frozen?_drew]); (repeat' apply And.intro) <;> (first | (with_reducible assumption) | (with_reducible exact ⟨_, by assumption⟩) | (with_reducible exact ⟨_, two_other (by assumption) (by omega)⟩) | (with_reducible exact two_0 (by assumption)) | (with_reducible exact two_1 (by assumption)) | (with_reducible exact two_other (by assumption) (by omega)) | (with_reducible exact two_fz (by assumption)) | (with_reducible exact keepA _ (by assumption)) | (with_reducible exact keepA _ (keepA _ (keepA _ (by assumption)))) | (simp (maxDischargeDepth := 8) [*, go_sem, World.cell?_alloc_some, World.cell?_setCell_far]; done))) | (go_keep; done) | (simp (maxDischargeDepth := 8) [*, go_sem, World.cell?_alloc_some, World.cell?_setCell_far]; done)))); clear hK K hOld; (try clear hc1 hf1); (try clear hk1 hf1))
        (try simp only [Act.put, List.setIfInBounds_toArray, List.set_cons_zero, List.set_cons_succ])
        (refine wpAnyH_ready (rs := [5]) (by kernel_rfl) (by simp) ?_; refine AllReadyH.cons (o := ⟨some 57, _, _, _, _, none⟩) rfl (fun K hK => ?_) AllReadyH.nil; go_simp; (first | (go_at_call 95; refine useF w (down32_any _ _ (by first | exact r1'.out | exact r2'.out)) (by go_grown) ?_; rintro e w1 rfl hB1 hk1 hf1 hs1; have hz1 := hB1.size) | (go_at_call 96; refine useF w (minus_any _ _) (by go_grown) ?_; rintro e w1 rfl hB1 hk1 hf1 hs1; have hz1 := hB1.size) | (go_at_call 80; refine useF w (out_any _ _ _ r3'.out) (by go_grown) ?_; rintro e w1 rfl hB1 hk1 hf1 hs1; have hz1 := hB1.size)); have hOld := hHeld; clear hHeld; refine hK.out _ _ ?_ (fun hHeld => ?_); (· ((try dsimp only); (first | (exact ⟨(hOld.2.2.2.2.2.2.1).elim fun u hu => hf1 _ _ u hu (hOld.1), (hOld.2.2.2.2.2.2.2).elim fun u hu => hf1 _ _ u hu (hOld.2.1), hk1 _ _ _ (hOld.2.2.1), hk1 _ _ _ (hOld.2.2.2.1), hk1 _ _ _ (hOld.2.2.2.2.1), hk1 _ _ _ (hOld.2.2.2.2.2.1), (hOld.2.2.2.2.2.2.1).elim fun u hu => ⟨u, hk1 _ _ _ hu⟩, (hOld.2.2.2.2.2.2.2).elim fun u hu => ⟨u, hk1 _ _ _ hu⟩⟩) | ((try simp only [World.cell?_drew, World.frozen?_drew]); (repeat' apply And.intro) <;> (first | (with_reducible assumption) | (with_reducible exact ⟨_, by assumption⟩) | (with_reducible exact ⟨_, two_other (by assumption) (by omega)⟩) | (with_reducible exact two_0 (by assumption)) | (with_reducible exact two_1 (by assumption)) | (with_reducible exact two_other (by assumption) (by omega)) | (with_reducible exact two_fz (by assumption)) | (with_reducible exact keepA _ (by assumption)) | (with_reducible exact keepA _ (keepA _ (keepA _ (by assumption)))) | (simp (maxDischargeDepth := 8) [*, go_sem, World.cell?_alloc_some, World.cell?_setCell_far]; done))) | (go_keep; done) | (simp (maxDischargeDepth := 8) [*, go_sem, World.cell?_alloc_some, World.cell?_setCell_far]; done)))); clear hK K hOld; (try clear hc1 hf1); (try clear hk1 hf1))
        (try simp only [Act.put, List.setIfInBounds_toArray, List.set_cons_zero, List.set_cons_succ])
        (refine wpAnyH_ready (rs := [6]) (by kernel_rfl) (by simp) ?_; refine AllReadyH.cons (o := ⟨some 58, _, _, _, _, none⟩) rfl (fun K hK => ?_) AllReadyH.nil; go_simp; (first | (go_at_call 95; refine useF w (down32_any _ _ (by first | exact r1'.out | exact r2'.out)) (by go_grown) ?_; rintro e w1 rfl hB1 hk1 hf1 hs1; have hz1 := hB1.size) | (go_at_call 96; refine useF w (minus_any _ _) (by go_grown) ?_; rintro e w1 rfl hB1 hk1 hf1 hs1; have hz1 := hB1.size) | (go_at_call 80; refine useF w (out_any _ _ _ r3'.out) (by go_grown) ?_; rintro e w1 rfl hB1 hk1 hf1 hs1; have hz1 := hB1.size)); have hOld := hHeld; clear hHeld; refine hK.out _ _ ?_ (fun hHeld => ?_); (· ((try dsimp only); (first | (exact ⟨(hOld.2.2.2.2.2.2.1).elim fun u hu => hf1 _ _ u hu (hOld.1), (hOld.2.2.2.2.2.2.2).elim fun u hu => hf1 _ _ u hu (hOld.2.1), hk1 _ _ _ (hOld.2.2.1), hk1 _ _ _ (hOld.2.2.2.1), hk1 _ _ _ (hOld.2.2.2.2.1), hk1 _ _ _ (hOld.2.2.2.2.2.1), (hOld.2.2.2.2.2.2.1).elim fun u hu => ⟨u, hk1 _ _ _ hu⟩, (hOld.2.2.2.2.2.2.2).elim fun u hu => ⟨u, hk1 _ _ _ hu⟩⟩) | ((try simp only [World.cell?_drew, World.frozen?_drew]); (repeat' apply And.intro) <;> (first | (with_reducible assumption) | (with_reducible exact ⟨_, by assumption⟩) | (with_reducible exact ⟨_, two_other (by assumption) (by omega)⟩) | (with_reducible exact two_0 (by assumption)) | (with_reducible exact two_1 (by assumption)) | (with_reducible exact two_other (by assumption) (by omega)) | (with_reducible exact two_fz (by assumption)) | (with_reducible exact keepA _ (by assumption)) | (with_reducible exact keepA _ (keepA _ (keepA _ (by assumption)))) | (simp (maxDischargeDepth := 8) [*, go_sem, World.cell?_alloc_some, World.cell?_setCell_far]; done))) | (go_keep; done) | (simp (maxDischargeDepth := 8) [*, go_sem, World.cell?_alloc_some, World.cell?_setCell_far]; done)))); clear hK K hOld; (try clear hc1 hf1); (try clear hk1 hf1))
        (try simp only [Act.put, List.setIfInBounds_toArray, List.set_cons_zero, List.set_cons_succ])
        (refine wpAnyH_take (i := 7) (oi := ⟨some 59, _, _, _, _, none⟩) (v := ?_) rfl (by kernel_rfl) (by kernel_rfl) (by kernel_rfl) (fun _ _ _ h => h) (Or.inl ⟨by rfl, ?_⟩) hHeld ?_; rotate_left; (· (intro w9 hSw; (try dsimp only at hSw); go_simp; (try with_reducible rfl))))
        (try simp only [Act.put, List.setIfInBounds_toArray, List.set_cons_zero, List.set_cons_succ])
        (refine wpAnyH_take (i := 8) (oi := ⟨some 60, _, _, _, _, none⟩) (v := ?_) rfl (by kernel_rfl) (by kernel_rfl) (by kernel_rfl) (fun _ _ _ h => h) (Or.inl ⟨by rfl, ?_⟩) hHeld ?_; rotate_left; (· (intro w9 hSw; (try dsimp only at hSw); go_simp; (try with_reducible rfl))))
        (try simp only [Act.put, List.setIfInBounds_toArray, List.set_cons_zero, List.set_cons_succ])
        (refine wpAnyH_ready (rs := [9]) (by kernel_rfl) (by simp) ?_; refine AllReadyH.cons (o := ⟨none, _, _, _, _, none⟩) rfl (fun K hK => ?_) AllReadyH.nil; (try dsimp only at hHeld); have g0 := hHeld.1; have g1 := hHeld.2.1; have g2 := hHeld.2.2.1; have g3 := hHeld.2.2.2.1; have g4 := hHeld.2.2.2.2.1; have g5 := hHeld.2.2.2.2.2.1; refine ex_elim (hHeld.2.2.2.2.2.2.1) (fun u0 hu0 => ?_); refine ex_elim (hHeld.2.2.2.2.2.2.2) (fun u1 hu1 => ?_); clear hHeld; go_simp; refine hK.out _ _ ?_ (fun hHeld => ?_); (· ((try dsimp only); (first | ((try simp only [World.cell?_drew, World.frozen?_drew]); (try simp only [World.cell?_drew, World.frozen?_drew] at g0 g1 g2 g3 g4 g5 hu0 hu1); exact ⟨(by with_reducible exact two_fz g0), (by with_reducible exact two_fz g1), (by first | (with_reducible exact two_other g2 ne0_1) | (with_reducible exact two_0 g2) | (with_reducible exact two_1 g2)), (by first | (with_reducible exact two_other g3 ne0_1) | (with_reducible exact two_0 g3) | (with_reducible exact two_1 g3)), (by first | (with_reducible exact two_other g4 ne0_2) | (with_reducible exact two_0 g4) | (with_reducible exact two_1 g4)), (by first | (with_reducible exact two_other g5 ne0_2) | (with_reducible exact two_0 g5) | (with_reducible exact two_1 g5)), (by first | (with_reducible exact ⟨_, two_0 hu0⟩) | (with_reducible exact ⟨_, two_1 hu0⟩)), (by first | (with_reducible exact ⟨_, two_0 hu1⟩) | (with_reducible exact ⟨_, two_1 hu1⟩))⟩) | (first | (exact ⟨(hOld.2.2.2.2.2.2.1).elim fun u hu => hf1 _ _ u hu (hOld.1), (hOld.2.2.2.2.2.2.2).elim fun u hu => hf1 _ _ u hu (hOld.2.1), hk1 _ _ _ (hOld.2.2.1), hk1 _ _ _ (hOld.2.2.2.1), hk1 _ _ _ (hOld.2.2.2.2.1), hk1 _ _ _ (hOld.2.2.2.2.2.1), (hOld.2.2.2.2.2.2.1).elim fun u hu => ⟨u, hk1 _ _ _ hu⟩, (hOld.2.2.2.2.2.2.2).elim fun u hu => ⟨u, hk1 _ _ _ hu⟩⟩) | ((try simp only [World.cell?_drew, World.frozen?_drew]); (repeat' apply And.intro) <;> (first | (with_reducible assumption) | (with_reducible exact ⟨_, by assumption⟩) | (with_reducible exact ⟨_, two_other (by assumption) (by omega)⟩) | (with_reducible exact two_0 (by assumption)) | (with_reducible exact two_1 (by assumption)) | (with_reducible exact two_other (by assumption) (by omega)) | (with_reducible exact two_fz (by assumption)) | (with_reducible exact keepA _ (by assumption)) | (with_reducible exact keepA _ (keepA _ (keepA _ (by assumption)))) | (simp (maxDischargeDepth := 8) [*, go_sem, World.cell?_alloc_some, World.cell?_setCell_far]; done))) | (go_keep; done) | (simp (maxDischargeDepth := 8) [*, go_sem, World.cell?_alloc_some, World.cell?_setCell_far]; done))))); clear hK K)
        (try simp only [Act.put, List.setIfInBounds_toArray, List.set_cons_zero, List.set_cons_succ])
        (refine wpAnyH_take (i := 10) (oi := ⟨some 5, _, _, _, _, none⟩) (v := ?_) rfl (by kernel_rfl) (by kernel_rfl) (by kernel_rfl) (fun _ _ _ h => h) (Or.inl ⟨by rfl, ?_⟩) hHeld ?_; rotate_left; (· (intro w9 hSw; (try dsimp only at hSw); go_simp; (try with_reducible rfl))))
        (try simp only [Act.put, List.setIfInBounds_toArray, List.set_cons_zero, List.set_cons_succ])
        refine wpAnyH_done (by kernel_rfl) ?_ _
        go_wp2_with fail
        all_goals (refine' bodyPost_ret (res_st_t rfl isA_S isS_S rfl ?_ ?_) rfl ?_; rotate_left 2; (· ((try simp only [World.cell?_drew]); first | (with_reducible exact two_0 (by assumption)) | (with_reducible exact two_1 (by assumption)) | (with_reducible exact two_other (two_0 (by assumption)) (by simp)) | (with_reducible exact two_other (two_1 (by assumption)) (by simp)) | (with_reducible exact two_0 (two_other (by assumption) (by simp))) | (with_reducible exact two_1 (two_other (by assumption) (by simp))) | (simp (maxDischargeDepth := 8) [go_sem, hHeld]; rfl) | (simp (maxDischargeDepth := 8) [go_sem, *]; rfl) | (simp (maxDischargeDepth := 8) [go_sem, *]; done))); (· ((try simp only [World.cell?_drew]); first | (with_reducible exact two_0 (by assumption)) | (with_reducible exact two_1 (by assumption)) | (with_reducible exact two_other (two_0 (by assumption)) (by simp)) | (with_reducible exact two_other (two_1 (by assumption)) (by simp)) | (with_reducible exact two_0 (two_other (by assumption) (by simp))) | (with_reducible exact two_1 (two_other (by assumption) (by simp))) | (simp (maxDischargeDepth := 8) [go_sem, hHeld]; rfl) | (simp (maxDischargeDepth := 8) [go_sem, *]; rfl) | (simp (maxDischargeDepth := 8) [go_sem, *]; done))); refine ⟨ret_r ?_, by go_grown⟩; (exact hf.out.symm))
      · have hk4 : k < 4 := by omega
        have hki : (k : Int) < 4 := by omega
        clear k4
        go_upto_region 9 with fail
        go_cut [10] (fun s wx => ∃ Bp : Nat, s = .pointer (some ⟨Bp, 0, none⟩) ∧ Bl + 1 < Bp ∧ M8 Z Bl B al ah bl bh (mnK (pK al ah bl bh) k) (mxK (pK al ah bl bh) k) wx ∧ wx.cell? ⟨Bp, 0, none⟩ = some (.int .i64 (hiW (pK al ah bl bh k))) ∧ wx.cell? ⟨Bp, 1, none⟩ = some (.int .u64 (loW (pK al ah bl bh k))) ∧ Below w.heap.size w wx)
        case first =>
          rcases (by omega : k = 0 ∨ k = 1 ∨ k = 2 ∨ k = 3) with rfl | rfl | rfl | rfl
          · skip
            refine wp_region_held_drew (S := (fun w' => w'.cell? ⟨B, 0, none⟩ = some (.int .i64 al) ∧ w'.cell? ⟨B, 1, none⟩ = some (.int .i64 bl) ∧ w'.cell? ⟨B, 2, none⟩ = some (.int .i64 al) ∧ w'.cell? ⟨B, 3, none⟩ = some (.int .i64 bh) ∧ w'.cell? ⟨B, 4, none⟩ = some (.int .i64 ah) ∧ w'.cell? ⟨B, 5, none⟩ = some (.int .i64 bl) ∧ w'.cell? ⟨B, 6, none⟩ = some (.int .i64 ah) ∧ w'.cell? ⟨B, 7, none⟩ = some (.int .i64 bh) ∧ w'.cell? ⟨Z, 0, none⟩ = some (.int .i64 0) ∧ w'.cell? ⟨Z, 1, none⟩ = some (.int .i64 0) ∧ w'.frozen? ⟨Z, 0, none⟩ = false ∧ w'.frozen? ⟨Z, 1, none⟩ = false ∧ w'.cell? ⟨Bl, 0, none⟩ = some (.int .i64 (hiW (mnK (pK al ah bl bh) 0))) ∧ w'.cell? ⟨Bl, 1, none⟩ = some (.int .u64 (loW (mnK (pK al ah bl bh) 0))) ∧ w'.frozen? ⟨Bl, 0, none⟩ = false ∧ w'.frozen? ⟨Bl, 1, none⟩ = false ∧ w'.cell? ⟨Bl + 1, 0, none⟩ = some (.int .i64 (hiW (mxK (pK al ah bl bh) 0))) ∧ w'.cell? ⟨Bl + 1, 1, none⟩ = some (.int .u64 (loW (mxK (pK al ah bl bh) 0))) ∧ w'.frozen? ⟨Bl + 1, 0, none⟩ = false ∧ w'.frozen? ⟨Bl + 1, 1, none⟩ = false)) (by kernel_rfl) (by (try dsimp only); (first | (exact ⟨hk1 _ _ _ (hOld.1), hk1 _ _ _ (hOld.2.1), hk1 _ _ _ (hOld.2.2.1), hk1 _ _ _ (hOld.2.2.2.1), hk1 _ _ _ (hOld.2.2.2.2.1), hk1 _ _ _ (hOld.2.2.2.2.2.1), hk1 _ _ _ (hOld.2.2.2.2.2.2.1), hk1 _ _ _ (hOld.2.2.2.2.2.2.2.1), hk1 _ _ _ (hOld.2.2.2.2.2.2.2.2.1), hk1 _ _ _ (hOld.2.2.2.2.2.2.2.2.2.1), hf1 _ _ _ (hOld.2.2.2.2.2.2.2.2.1) (hOld.2.2.2.2.2.2.2.2.2.2.1), hf1 _ _ _ (hOld.2.2.2.2.2.2.2.2.2.1) (hOld.2.2.2.2.2.2.2.2.2.2.2.1), hk1 _ _ _ (hOld.2.2.2.2.2.2.2.2.2.2.2.2.1), hk1 _ _ _ (hOld.2.2.2.2.2.2.2.2.2.2.2.2.2.1), hf1 _ _ _ (hOld.2.2.2.2.2.2.2.2.2.2.2.2.1) (hOld.2.2.2.2.2.2.2.2.2.2.2.2.2.2.1), hf1 _ _ _ (hOld.2.2.2.2.2.2.2.2.2.2.2.2.2.1) (hOld.2.2.2.2.2.2.2.2.2.2.2.2.2.2.2.1), hk1 _ _ _ (hOld.2.2.2.2.2.2.2.2.2.2.2.2.2.2.2.2.1), hk1 _ _ _ (hOld.2.2.2.2.2.2.2.2.2.2.2.2.2.2.2.2.2.1), hf1 _ _ _ (hOld.2.2.2.2.2.2.2.2.2.2.2.2.2.2.2.2.1) (hOld.2.2.2.2.2.2.2.2.2.2.2.2.2.2.2.2.2.2.1), hf1 _ _ _ (hOld.2.2.2.2.2.2.2.2.2.2.2.2.2.2.2.2.2.1) (hOld.2.2.2.2.2.2.2.2.2.2.2.2.2.2.2.2.2.2.2)⟩) | ((try simp only [World.cell?_drew, World.frozen?_drew]); (repeat' apply And.intro) <;> (first | (with_reducible assumption) | (with_reducible exact ⟨_, by assumption⟩) | (with_reducible exact ⟨_, two_other (by assumption) (by omega)⟩) | (with_reducible exact two_0 (by assumption)) | (with_reducible exact two_1 (by assumption)) | (with_reducible exact two_other (by assumption) (by omega)) | (with_reducible exact two_fz (by assumption)) | (with_reducible exact keepA _ (by assumption)) | (with_reducible exact keepA _ (keepA _ (keepA _ (by assumption)))) | (simp (maxDischargeDepth := 8) [*, go_sem, World.cell?_alloc_some, World.cell?_setCell_far]; done))) | (go_keep; done) | (simp (maxDischargeDepth := 8) [*, go_sem, World.cell?_alloc_some, World.cell?_setCell_far]; done))) (fun hHeld => ?_)
            (refine wpAnyH_take (i := 0) (oi := ⟨some 25, _, _, _, _, none⟩) (v := ?_) rfl (by kernel_rfl) (by kernel_rfl) (by kernel_rfl) (fun _ _ _ h => h) (Or.inl ⟨by rfl, ?_⟩) hHeld ?_; rotate_left; (· (intro w9 hSw; (try dsimp only at hSw); go_simp; (try with_reducible rfl))))
            (try simp only [Act.put, List.setIfInBounds_toArray, List.set_cons_zero, List.set_cons_succ])
            (refine wpAnyH_take (i := 1) (oi := ⟨some 26, _, _, _, _, none⟩) (v := ?_) rfl (by kernel_rfl) (by kernel_rfl) (by kernel_rfl) (fun _ _ _ h => h) (Or.inl ⟨by rfl, ?_⟩) hHeld ?_; rotate_left; (· (intro w9 hSw; (try dsimp only at hSw); go_simp; (try with_reducible rfl))))
            (try simp only [Act.put, List.setIfInBounds_toArray, List.set_cons_zero, List.set_cons_succ])
            (refine wpAnyH_take (i := 2) (oi := ⟨some 27, _, _, _, _, none⟩) (v := ?_) rfl (by kernel_rfl) (by kernel_rfl) (by kernel_rfl) (fun _ _ _ h => h) (Or.inl ⟨by rfl, ?_⟩) hHeld ?_; rotate_left; (· (intro w9 hSw; (try dsimp only at hSw); go_simp; (try with_reducible rfl))))
            (try simp only [Act.put, List.setIfInBounds_toArray, List.set_cons_zero, List.set_cons_succ])
            (refine wpAnyH_take (i := 3) (oi := ⟨some 28, _, _, _, _, none⟩) (v := ?_) rfl (by kernel_rfl) (by kernel_rfl) (by kernel_rfl) (fun _ _ _ h => h) (Or.inl ⟨by rfl, ?_⟩) hHeld ?_; rotate_left; (· (intro w9 hSw; (try dsimp only at hSw); go_simp; (try with_reducible rfl))))
            (try simp only [Act.put, List.setIfInBounds_toArray, List.set_cons_zero, List.set_cons_succ])
            (refine wpAnyH_take (i := 4) (oi := ⟨some 29, _, _, _, _, none⟩) (v := ?_) rfl (by kernel_rfl) (by kernel_rfl) (by kernel_rfl) (fun _ _ _ h => h) (Or.inl ⟨by rfl, ?_⟩) hHeld ?_; rotate_left; (· (intro w9 hSw; (try dsimp only at hSw); go_simp; (try with_reducible rfl))))
            (try simp only [Act.put, List.setIfInBounds_toArray, List.set_cons_zero, List.set_cons_succ])
            (refine wpAnyH_take (i := 5) (oi := ⟨some 30, _, _, _, _, none⟩) (v := ?_) rfl (by kernel_rfl) (by kernel_rfl) (by kernel_rfl) (fun _ _ _ h => h) (Or.inl ⟨by rfl, ?_⟩) hHeld ?_; rotate_left; (· (intro w9 hSw; (try dsimp only at hSw); go_simp; (try with_reducible rfl))))
            (try simp only [Act.put, List.setIfInBounds_toArray, List.set_cons_zero, List.set_cons_succ])
            (refine wpAnyH_take (i := 6) (oi := ⟨some 31, _, _, _, _, none⟩) (v := ?_) rfl (by kernel_rfl) (by kernel_rfl) (by kernel_rfl) (fun _ _ _ h => h) (Or.inl ⟨by rfl, ?_⟩) hHeld ?_; rotate_left; (· (intro w9 hSw; (try dsimp only at hSw); go_simp; (try with_reducible rfl))))
            (try simp only [Act.put, List.setIfInBounds_toArray, List.set_cons_zero, List.set_cons_succ])
            (refine wpAnyH_take (i := 7) (oi := ⟨some 32, _, _, _, _, none⟩) (v := ?_) rfl (by kernel_rfl) (by kernel_rfl) (by kernel_rfl) (fun _ _ _ h => h) (Or.inl ⟨by rfl, ?_⟩) hHeld ?_; rotate_left; (· (intro w9 hSw; (try dsimp only at hSw); go_simp; (try with_reducible rfl))))
            (try simp only [Act.put, List.setIfInBounds_toArray, List.set_cons_zero, List.set_cons_succ])
            (refine wpAnyH_take (i := 8) (oi := ⟨some 33, _, _, _, _, none⟩) (v := ?_) rfl (by kernel_rfl) (by kernel_rfl) (by kernel_rfl) (fun _ _ _ h => h) (Or.inl ⟨by rfl, ?_⟩) hHeld ?_; rotate_left; (· (intro w9 hSw; (try dsimp only at hSw); go_simp; (try with_reducible rfl))))
            (try simp only [Act.put, List.setIfInBounds_toArray, List.set_cons_zero, List.set_cons_succ])
            (refine wpAnyH_take (i := 9) (oi := ⟨some 34, _, _, _, _, none⟩) (v := ?_) rfl (by kernel_rfl) (by kernel_rfl) (by kernel_rfl) (fun _ _ _ h => h) (Or.inl ⟨by rfl, ?_⟩) hHeld ?_; rotate_left; (· (intro w9 hSw; (try dsimp only at hSw); go_simp; (try with_reducible rfl))))
            (try simp only [Act.put, List.setIfInBounds_toArray, List.set_cons_zero, List.set_cons_succ])
            refine wpAnyH_ready (rs := [10, 11]) (by kernel_rfl) (by simp) ?_
            refine AllReadyH.cons (o := ⟨some 35, _, _, _, _, none⟩) rfl (fun K hK => ?_) (AllReadyH.cons (o := ⟨some 10, _, _, _, _, none⟩) rfl (fun K hK => ?_) (AllReadyH.nil))
            ·
              go_simp
              (first | (go_at_call 91; refine useF w (times_any al bl _ (by omega)) (by go_grown) ?_; rintro e w_r_1 rfl hB_1 hk_1 hf_1 hs_1; have hz_1 := hB_1.size))
              have hOld := hHeld; clear hHeld; refine hK.out _ _ ?_ (fun hHeld => ?_); (· ((try dsimp only); (first | (exact ⟨hk_1 _ _ _ (hOld.1), hk_1 _ _ _ (hOld.2.1), hk_1 _ _ _ (hOld.2.2.1), hk_1 _ _ _ (hOld.2.2.2.1), hk_1 _ _ _ (hOld.2.2.2.2.1), hk_1 _ _ _ (hOld.2.2.2.2.2.1), hk_1 _ _ _ (hOld.2.2.2.2.2.2.1), hk_1 _ _ _ (hOld.2.2.2.2.2.2.2.1), hk_1 _ _ _ (hOld.2.2.2.2.2.2.2.2.1), hk_1 _ _ _ (hOld.2.2.2.2.2.2.2.2.2.1), hf_1 _ _ _ (hOld.2.2.2.2.2.2.2.2.1) (hOld.2.2.2.2.2.2.2.2.2.2.1), hf_1 _ _ _ (hOld.2.2.2.2.2.2.2.2.2.1) (hOld.2.2.2.2.2.2.2.2.2.2.2.1), hk_1 _ _ _ (hOld.2.2.2.2.2.2.2.2.2.2.2.2.1), hk_1 _ _ _ (hOld.2.2.2.2.2.2.2.2.2.2.2.2.2.1), hf_1 _ _ _ (hOld.2.2.2.2.2.2.2.2.2.2.2.2.1) (hOld.2.2.2.2.2.2.2.2.2.2.2.2.2.2.1), hf_1 _ _ _ (hOld.2.2.2.2.2.2.2.2.2.2.2.2.2.1) (hOld.2.2.2.2.2.2.2.2.2.2.2.2.2.2.2.1), hk_1 _ _ _ (hOld.2.2.2.2.2.2.2.2.2.2.2.2.2.2.2.2.1), hk_1 _ _ _ (hOld.2.2.2.2.2.2.2.2.2.2.2.2.2.2.2.2.2.1), hf_1 _ _ _ (hOld.2.2.2.2.2.2.2.2.2.2.2.2.2.2.2.2.1) (hOld.2.2.2.2.2.2.2.2.2.2.2.2.2.2.2.2.2.2.1), hf_1 _ _ _ (hOld.2.2.2.2.2.2.2.2.2.2.2.2.2.2.2.2.2.1) (hOld.2.2.2.2.2.2.2.2.2.2.2.2.2.2.2.2.2.2.2)⟩) | ((try simp only [World.cell?_drew, World.frozen?_drew]); (repeat' apply And.intro) <;> (first | (with_reducible assumption) | (with_reducible exact ⟨_, by assumption⟩) | (with_reducible exact ⟨_, two_other (by assumption) (by omega)⟩) | (with_reducible exact two_0 (by assumption)) | (with_reducible exact two_1 (by assumption)) | (with_reducible exact two_other (by assumption) (by omega)) | (with_reducible exact two_fz (by assumption)) | (with_reducible exact keepA _ (by assumption)) | (with_reducible exact keepA _ (keepA _ (keepA _ (by assumption)))) | (simp (maxDischargeDepth := 8) [*, go_sem, World.cell?_alloc_some, World.cell?_setCell_far]; done))) | (go_keep; done) | (simp (maxDischargeDepth := 8) [*, go_sem, World.cell?_alloc_some, World.cell?_setCell_far]; done)))); clear hK K hOld
              clear hk_1 hf_1
              (try simp only [Act.put, List.setIfInBounds_toArray, List.set_cons_zero, List.set_cons_succ])
              refine wpAnyH_ready (rs := [11]) (by kernel_rfl) (by simp) ?_
              refine AllReadyH.cons (o := ⟨some 10, _, _, _, _, none⟩) rfl (fun K hK => ?_) (AllReadyH.nil)
              (try dsimp only at hHeld); have g0 := hHeld.1; have g1 := hHeld.2.1; have g2 := hHeld.2.2.1; have g3 := hHeld.2.2.2.1; have g4 := hHeld.2.2.2.2.1; have g5 := hHeld.2.2.2.2.2.1; have g6 := hHeld.2.2.2.2.2.2.1; have g7 := hHeld.2.2.2.2.2.2.2.1; have g8 := hHeld.2.2.2.2.2.2.2.2.1; have g9 := hHeld.2.2.2.2.2.2.2.2.2.1; have g10 := hHeld.2.2.2.2.2.2.2.2.2.2.1; have g11 := hHeld.2.2.2.2.2.2.2.2.2.2.2.1; have g12 := hHeld.2.2.2.2.2.2.2.2.2.2.2.2.1; have g13 := hHeld.2.2.2.2.2.2.2.2.2.2.2.2.2.1; have g14 := hHeld.2.2.2.2.2.2.2.2.2.2.2.2.2.2.1; have g15 := hHeld.2.2.2.2.2.2.2.2.2.2.2.2.2.2.2.1; have g16 := hHeld.2.2.2.2.2.2.2.2.2.2.2.2.2.2.2.2.1; have g17 := hHeld.2.2.2.2.2.2.2.2.2.2.2.2.2.2.2.2.2.1; have g18 := hHeld.2.2.2.2.2.2.2.2.2.2.2.2.2.2.2.2.2.2.1; have g19 := hHeld.2.2.2.2.2.2.2.2.2.2.2.2.2.2.2.2.2.2.2
              have hlt0 : B < w_r_1.heap.size := World.block_lt_of_cell? _ ⟨B, 0, none⟩ g0
              have hne0 : B ≠ w_r_1.heap.size := by omega
              have hnf0 := hne0.symm
              have hlt1 : Z < w_r_1.heap.size := World.block_lt_of_cell? _ ⟨Z, 0, none⟩ g8
              have hne1 : Z ≠ w_r_1.heap.size := by omega
              have hnf1 := hne1.symm
              have hlt2 : Bl < w_r_1.heap.size := World.block_lt_of_cell? _ ⟨Bl, 0, none⟩ g12
              have hne2 : Bl ≠ w_r_1.heap.size := by omega
              have hnf2 := hne2.symm
              have hlt3 : Bl + 1 < w_r_1.heap.size := World.block_lt_of_cell? _ ⟨Bl + 1, 0, none⟩ g16
              have hne3 : Bl + 1 ≠ w_r_1.heap.size := by omega
              have hnf3 := hne3.symm
              have q0 : ((w_r_1).alloc (Obj.cells #[.int .i64 0, .int .u64 0] 78)).cell? ⟨w_r_1.heap.size, 0, none⟩ = some (.int .i64 0) := by simp [go_sem]
              have qf0 : ((w_r_1).alloc (Obj.cells #[.int .i64 0, .int .u64 0] 78)).frozen? ⟨w_r_1.heap.size, 0, none⟩ = false := by simp [go_sem]
              have q1 : ((w_r_1).alloc (Obj.cells #[.int .i64 0, .int .u64 0] 78)).cell? ⟨w_r_1.heap.size, 1, none⟩ = some (.int .u64 0) := by simp [go_sem]
              have qf1 : ((w_r_1).alloc (Obj.cells #[.int .i64 0, .int .u64 0] 78)).frozen? ⟨w_r_1.heap.size, 1, none⟩ = false := by simp [go_sem]
              clear hHeld; go_simp; refine hK.out _ _ ?_ (fun hHeld => ?_); (· ((try dsimp only); (first | (exact ⟨hk1 _ _ _ (hOld.1), hk1 _ _ _ (hOld.2.1), hk1 _ _ _ (hOld.2.2.1), hk1 _ _ _ (hOld.2.2.2.1), hk1 _ _ _ (hOld.2.2.2.2.1), hk1 _ _ _ (hOld.2.2.2.2.2.1), hk1 _ _ _ (hOld.2.2.2.2.2.2.1), hk1 _ _ _ (hOld.2.2.2.2.2.2.2.1), hk1 _ _ _ (hOld.2.2.2.2.2.2.2.2.1), hk1 _ _ _ (hOld.2.2.2.2.2.2.2.2.2.1), hf1 _ _ _ (hOld.2.2.2.2.2.2.2.2.1) (hOld.2.2.2.2.2.2.2.2.2.2.1), hf1 _ _ _ (hOld.2.2.2.2.2.2.2.2.2.1) (hOld.2.2.2.2.2.2.2.2.2.2.2.1), hk1 _ _ _ (hOld.2.2.2.2.2.2.2.2.2.2.2.2.1), hk1 _ _ _ (hOld.2.2.2.2.2.2.2.2.2.2.2.2.2.1), hf1 _ _ _ (hOld.2.2.2.2.2.2.2.2.2.2.2.2.1) (hOld.2.2.2.2.2.2.2.2.2.2.2.2.2.2.1), hf1 _ _ _ (hOld.2.2.2.2.2.2.2.2.2.2.2.2.2.1) (hOld.2.2.2.2.2.2.2.2.2.2.2.2.2.2.2.1), hk1 _ _ _ (hOld.2.2.2.2.2.2.2.2.2.2.2.2.2.2.2.2.1), hk1 _ _ _ (hOld.2.2.2.2.2.2.2.2.2.2.2.2.2.2.2.2.2.1), hf1 _ _ _ (hOld.2.2.2.2.2.2.2.2.2.2.2.2.2.2.2.2.1) (hOld.2.2.2.2.2.2.2.2.2.2.2.2.2.2.2.2.2.2.1), hf1 _ _ _ (hOld.2.2.2.2.2.2.2.2.2.2.2.2.2.2.2.2.2.1) (hOld.2.2.2.2.2.2.2.2.2.2.2.2.2.2.2.2.2.2.2)⟩) | ((try simp only [World.cell?_drew, World.frozen?_drew]); (repeat' apply And.intro) <;> (first | (with_reducible assumption) | (with_reducible exact ⟨_, by assumption⟩) | (with_reducible exact ⟨_, two_other (by assumption) (by omega)⟩) | (with_reducible exact two_0 (by assumption)) | (with_reducible exact two_1 (by assumption)) | (with_reducible exact two_other (by assumption) (by omega)) | (with_reducible exact two_fz (by assumption)) | (with_reducible exact keepA _ (by assumption)) | (with_reducible exact keepA _ (keepA _ (keepA _ (by assumption)))) | (simp (maxDischargeDepth := 8) [*, go_sem, World.cell?_alloc_some, World.cell?_setCell_far]; done))) | (go_keep; done) | (simp (maxDischargeDepth := 8) [*, go_sem, World.cell?_alloc_some, World.cell?_setCell_far]; done)))); clear hK K
              (try simp only [Act.put, List.setIfInBounds_toArray, List.set_cons_zero, List.set_cons_succ])
              refine wpAnyH_ready (rs := [12]) (by kernel_rfl) (by simp) ?_
              refine AllReadyH.cons (o := ⟨none, _, _, _, _, none⟩) rfl (fun K hK => ?_) (AllReadyH.nil)
              (try dsimp only at hHeld); have g0 := hHeld.1; have g1 := hHeld.2.1; have g2 := hHeld.2.2.1; have g3 := hHeld.2.2.2.1; have g4 := hHeld.2.2.2.2.1; have g5 := hHeld.2.2.2.2.2.1; have g6 := hHeld.2.2.2.2.2.2.1; have g7 := hHeld.2.2.2.2.2.2.2.1; have g8 := hHeld.2.2.2.2.2.2.2.2.1; have g9 := hHeld.2.2.2.2.2.2.2.2.2.1; have g10 := hHeld.2.2.2.2.2.2.2.2.2.2.1; have g11 := hHeld.2.2.2.2.2.2.2.2.2.2.2.1; have g12 := hHeld.2.2.2.2.2.2.2.2.2.2.2.2.1; have g13 := hHeld.2.2.2.2.2.2.2.2.2.2.2.2.2.1; have g14 := hHeld.2.2.2.2.2.2.2.2.2.2.2.2.2.2.1; have g15 := hHeld.2.2.2.2.2.2.2.2.2.2.2.2.2.2.2.1; have g16 := hHeld.2.2.2.2.2.2.2.2.2.2.2.2.2.2.2.2.1; have g17 := hHeld.2.2.2.2.2.2.2.2.2.2.2.2.2.2.2.2.2.1; have g18 := hHeld.2.2.2.2.2.2.2.2.2.2.2.2.2.2.2.2.2.2.1; have g19 := hHeld.2.2.2.2.2.2.2.2.2.2.2.2.2.2.2.2.2.2.2; clear hHeld; go_simp; refine hK.out _ _ ?_ (fun hHeld => ?_); (· ((try dsimp only); (first | (exact ⟨hk1 _ _ _ (hOld.1), hk1 _ _ _ (hOld.2.1), hk1 _ _ _ (hOld.2.2.1), hk1 _ _ _ (hOld.2.2.2.1), hk1 _ _ _ (hOld.2.2.2.2.1), hk1 _ _ _ (hOld.2.2.2.2.2.1), hk1 _ _ _ (hOld.2.2.2.2.2.2.1), hk1 _ _ _ (hOld.2.2.2.2.2.2.2.1), hk1 _ _ _ (hOld.2.2.2.2.2.2.2.2.1), hk1 _ _ _ (hOld.2.2.2.2.2.2.2.2.2.1), hf1 _ _ _ (hOld.2.2.2.2.2.2.2.2.1) (hOld.2.2.2.2.2.2.2.2.2.2.1), hf1 _ _ _ (hOld.2.2.2.2.2.2.2.2.2.1) (hOld.2.2.2.2.2.2.2.2.2.2.2.1), hk1 _ _ _ (hOld.2.2.2.2.2.2.2.2.2.2.2.2.1), hk1 _ _ _ (hOld.2.2.2.2.2.2.2.2.2.2.2.2.2.1), hf1 _ _ _ (hOld.2.2.2.2.2.2.2.2.2.2.2.2.1) (hOld.2.2.2.2.2.2.2.2.2.2.2.2.2.2.1), hf1 _ _ _ (hOld.2.2.2.2.2.2.2.2.2.2.2.2.2.1) (hOld.2.2.2.2.2.2.2.2.2.2.2.2.2.2.2.1), hk1 _ _ _ (hOld.2.2.2.2.2.2.2.2.2.2.2.2.2.2.2.2.1), hk1 _ _ _ (hOld.2.2.2.2.2.2.2.2.2.2.2.2.2.2.2.2.2.1), hf1 _ _ _ (hOld.2.2.2.2.2.2.2.2.2.2.2.2.2.2.2.2.1) (hOld.2.2.2.2.2.2.2.2.2.2.2.2.2.2.2.2.2.2.1), hf1 _ _ _ (hOld.2.2.2.2.2.2.2.2.2.2.2.2.2.2.2.2.2.1) (hOld.2.2.2.2.2.2.2.2.2.2.2.2.2.2.2.2.2.2.2)⟩) | ((try simp only [World.cell?_drew, World.frozen?_drew]); (repeat' apply And.intro) <;> (first | (with_reducible assumption) | (with_reducible exact ⟨_, by assumption⟩) | (with_reducible exact ⟨_, two_other (by assumption) (by omega)⟩) | (with_reducible exact two_0 (by assumption)) | (with_reducible exact two_1 (by assumption)) | (with_reducible exact two_other (by assumption) (by omega)) | (with_reducible exact two_fz (by assumption)) | (with_reducible exact keepA _ (by assumption)) | (with_reducible exact keepA _ (keepA _ (keepA _ (by assumption)))) | (simp (maxDischargeDepth := 8) [*, go_sem, World.cell?_alloc_some, World.cell?_setCell_far]; done))) | (go_keep; done) | (simp (maxDischargeDepth := 8) [*, go_sem, World.cell?_alloc_some, World.cell?_setCell_far]; done)))); clear hK K
              (try simp only [Act.put, List.setIfInBounds_toArray, List.set_cons_zero, List.set_cons_succ])
              refine wpAnyH_done (by kernel_rfl) ?_ _
              go_wp2_with fail
              go_meet
              exact ⟨_, rfl, by omega, hHeld, by first | exact two_0 q0 | (simp [go_sem]; done) | (simp [go_sem]; rfl), by first | exact two_1 q1 | (simp [go_sem]; done) | (simp [go_sem]; rfl), by go_grown⟩
            ·
              (try dsimp only at hHeld); have g0 := hHeld.1; have g1 := hHeld.2.1; have g2 := hHeld.2.2.1; have g3 := hHeld.2.2.2.1; have g4 := hHeld.2.2.2.2.1; have g5 := hHeld.2.2.2.2.2.1; have g6 := hHeld.2.2.2.2.2.2.1; have g7 := hHeld.2.2.2.2.2.2.2.1; have g8 := hHeld.2.2.2.2.2.2.2.2.1; have g9 := hHeld.2.2.2.2.2.2.2.2.2.1; have g10 := hHeld.2.2.2.2.2.2.2.2.2.2.1; have g11 := hHeld.2.2.2.2.2.2.2.2.2.2.2.1; have g12 := hHeld.2.2.2.2.2.2.2.2.2.2.2.2.1; have g13 := hHeld.2.2.2.2.2.2.2.2.2.2.2.2.2.1; have g14 := hHeld.2.2.2.2.2.2.2.2.2.2.2.2.2.2.1; have g15 := hHeld.2.2.2.2.2.2.2.2.2.2.2.2.2.2.2.1; have g16 := hHeld.2.2.2.2.2.2.2.2.2.2.2.2.2.2.2.2.1; have g17 := hHeld.2.2.2.2.2.2.2.2.2.2.2.2.2.2.2.2.2.1; have g18 := hHeld.2.2.2.2.2.2.2.2.2.2.2.2.2.2.2.2.2.2.1; have g19 := hHeld.2.2.2.2.2.2.2.2.2.2.2.2.2.2.2.2.2.2.2
              have hlt0 : B < wr.heap.size := World.block_lt_of_cell? _ ⟨B, 0, none⟩ g0
              have hne0 : B ≠ wr.heap.size := by omega
              have hnf0 := hne0.symm
              have hlt1 : Z < wr.heap.size := World.block_lt_of_cell? _ ⟨Z, 0, none⟩ g8
              have hne1 : Z ≠ wr.heap.size := by omega
              have hnf1 := hne1.symm
              have hlt2 : Bl < wr.heap.size := World.block_lt_of_cell? _ ⟨Bl, 0, none⟩ g12
              have hne2 : Bl ≠ wr.heap.size := by omega
              have hnf2 := hne2.symm
              have hlt3 : Bl + 1 < wr.heap.size := World.block_lt_of_cell? _ ⟨Bl + 1, 0, none⟩ g16
              have hne3 : Bl + 1 ≠ wr.heap.size := by omega
              have hnf3 := hne3.symm
              have q0 : ((wr.drew).alloc (Obj.cells #[.int .i64 0, .int .u64 0] 78)).cell? ⟨wr.heap.size, 0, none⟩ = some (.int .i64 0) := by simp [go_sem]
              have qf0 : ((wr.drew).alloc (Obj.cells #[.int .i64 0, .int .u64 0] 78)).frozen? ⟨wr.heap.size, 0, none⟩ = false := by simp [go_sem]
              have q1 : ((wr.drew).alloc (Obj.cells #[.int .i64 0, .int .u64 0] 78)).cell? ⟨wr.heap.size, 1, none⟩ = some (.int .u64 0) := by simp [go_sem]
              have qf1 : ((wr.drew).alloc (Obj.cells #[.int .i64 0, .int .u64 0] 78)).frozen? ⟨wr.heap.size, 1, none⟩ = false := by simp [go_sem]
              clear hHeld; go_simp; refine hK.out _ _ ?_ (fun hHeld => ?_); (· ((try dsimp only); (first | (exact ⟨hk1 _ _ _ (hOld.1), hk1 _ _ _ (hOld.2.1), hk1 _ _ _ (hOld.2.2.1), hk1 _ _ _ (hOld.2.2.2.1), hk1 _ _ _ (hOld.2.2.2.2.1), hk1 _ _ _ (hOld.2.2.2.2.2.1), hk1 _ _ _ (hOld.2.2.2.2.2.2.1), hk1 _ _ _ (hOld.2.2.2.2.2.2.2.1), hk1 _ _ _ (hOld.2.2.2.2.2.2.2.2.1), hk1 _ _ _ (hOld.2.2.2.2.2.2.2.2.2.1), hf1 _ _ _ (hOld.2.2.2.2.2.2.2.2.1) (hOld.2.2.2.2.2.2.2.2.2.2.1), hf1 _ _ _ (hOld.2.2.2.2.2.2.2.2.2.1) (hOld.2.2.2.2.2.2.2.2.2.2.2.1), hk1 _ _ _ (hOld.2.2.2.2.2.2.2.2.2.2.2.2.1), hk1 _ _ _ (hOld.2.2.2.2.2.2.2.2.2.2.2.2.2.1), hf1 _ _ _ (hOld.2.2.2.2.2.2.2.2.2.2.2.2.1) (hOld.2.2.2.2.2.2.2.2.2.2.2.2.2.2.1), hf1 _ _ _ (hOld.2.2.2.2.2.2.2.2.2.2.2.2.2.1) (hOld.2.2.2.2.2.2.2.2.2.2.2.2.2.2.2.1), hk1 _ _ _ (hOld.2.2.2.2.2.2.2.2.2.2.2.2.2.2.2.2.1), hk1 _ _ _ (hOld.2.2.2.2.2.2.2.2.2.2.2.2.2.2.2.2.2.1), hf1 _ _ _ (hOld.2.2.2.2.2.2.2.2.2.2.2.2.2.2.2.2.1) (hOld.2.2.2.2.2.2.2.2.2.2.2.2.2.2.2.2.2.2.1), hf1 _ _ _ (hOld.2.2.2.2.2.2.2.2.2.2.2.2.2.2.2.2.2.1) (hOld.2.2.2.2.2.2.2.2.2.2.2.2.2.2.2.2.2.2.2)⟩) | ((try simp only [World.cell?_drew, World.frozen?_drew]); (repeat' apply And.intro) <;> (first | (with_reducible assumption) | (with_reducible exact ⟨_, by assumption⟩) | (with_reducible exact ⟨_, two_other (by assumption) (by omega)⟩) | (with_reducible exact two_0 (by assumption)) | (with_reducible exact two_1 (by assumption)) | (with_reducible exact two_other (by assumption) (by omega)) | (with_reducible exact two_fz (by assumption)) | (with_reducible exact keepA _ (by assumption)) | (with_reducible exact keepA _ (keepA _ (keepA _ (by assumption)))) | (simp (maxDischargeDepth := 8) [*, go_sem, World.cell?_alloc_some, World.cell?_setCell_far]; done))) | (go_keep; done) | (simp (maxDischargeDepth := 8) [*, go_sem, World.cell?_alloc_some, World.cell?_setCell_far]; done)))); clear hK K
              (try simp only [Act.put, List.setIfInBounds_toArray, List.set_cons_zero, List.set_cons_succ])
              refine wpAnyH_ready (rs := [10]) (by kernel_rfl) (by simp) ?_
              refine AllReadyH.cons (o := ⟨some 35, _, _, _, _, none⟩) rfl (fun K hK => ?_) (AllReadyH.nil)
              go_simp
              (first | (go_at_call 91; refine useF w (times_any al bl _ (by omega)) (by go_grown) ?_; rintro e w_r_1 rfl hB_1 hk_1 hf_1 hs_1; have hz_1 := hB_1.size))
              have hOld := hHeld; clear hHeld; refine hK.out _ _ ?_ (fun hHeld => ?_); (· ((try dsimp only); (first | (exact ⟨hk_1 _ _ _ (hOld.1), hk_1 _ _ _ (hOld.2.1), hk_1 _ _ _ (hOld.2.2.1), hk_1 _ _ _ (hOld.2.2.2.1), hk_1 _ _ _ (hOld.2.2.2.2.1), hk_1 _ _ _ (hOld.2.2.2.2.2.1), hk_1 _ _ _ (hOld.2.2.2.2.2.2.1), hk_1 _ _ _ (hOld.2.2.2.2.2.2.2.1), hk_1 _ _ _ (hOld.2.2.2.2.2.2.2.2.1), hk_1 _ _ _ (hOld.2.2.2.2.2.2.2.2.2.1), hf_1 _ _ _ (hOld.2.2.2.2.2.2.2.2.1) (hOld.2.2.2.2.2.2.2.2.2.2.1), hf_1 _ _ _ (hOld.2.2.2.2.2.2.2.2.2.1) (hOld.2.2.2.2.2.2.2.2.2.2.2.1), hk_1 _ _ _ (hOld.2.2.2.2.2.2.2.2.2.2.2.2.1), hk_1 _ _ _ (hOld.2.2.2.2.2.2.2.2.2.2.2.2.2.1), hf_1 _ _ _ (hOld.2.2.2.2.2.2.2.2.2.2.2.2.1) (hOld.2.2.2.2.2.2.2.2.2.2.2.2.2.2.1), hf_1 _ _ _ (hOld.2.2.2.2.2.2.2.2.2.2.2.2.2.1) (hOld.2.2.2.2.2.2.2.2.2.2.2.2.2.2.2.1), hk_1 _ _ _ (hOld.2.2.2.2.2.2.2.2.2.2.2.2.2.2.2.2.1), hk_1 _ _ _ (hOld.2.2.2.2.2.2.2.2.2.2.2.2.2.2.2.2.2.1), hf_1 _ _ _ (hOld.2.2.2.2.2.2.2.2.2.2.2.2.2.2.2.2.1) (hOld.2.2.2.2.2.2.2.2.2.2.2.2.2.2.2.2.2.2.1), hf_1 _ _ _ (hOld.2.2.2.2.2.2.2.2.2.2.2.2.2.2.2.2.2.1) (hOld.2.2.2.2.2.2.2.2.2.2.2.2.2.2.2.2.2.2.2)⟩) | ((try simp only [World.cell?_drew, World.frozen?_drew]); (repeat' apply And.intro) <;> (first | (with_reducible assumption) | (with_reducible exact ⟨_, by assumption⟩) | (with_reducible exact ⟨_, two_other (by assumption) (by omega)⟩) | (with_reducible exact two_0 (by assumption)) | (with_reducible exact two_1 (by assumption)) | (with_reducible exact two_other (by assumption) (by omega)) | (with_reducible exact two_fz (by assumption)) | (with_reducible exact keepA _ (by assumption)) | (with_reducible exact keepA _ (keepA _ (keepA _ (by assumption)))) | (simp (maxDischargeDepth := 8) [*, go_sem, World.cell?_alloc_some, World.cell?_setCell_far]; done))) | (go_keep; done) | (simp (maxDischargeDepth := 8) [*, go_sem, World.cell?_alloc_some, World.cell?_setCell_far]; done)))); clear hK K hOld
              have qf0 := hf_1 _ _ _ q0 qf0
              have qf1 := hf_1 _ _ _ q1 qf1
              have q0 := hk_1 _ _ _ q0
              have q1 := hk_1 _ _ _ q1
              clear hk_1 hf_1
              (try simp only [Act.put, List.setIfInBounds_toArray, List.set_cons_zero, List.set_cons_succ])
              refine wpAnyH_ready (rs := [12]) (by kernel_rfl) (by simp) ?_
              refine AllReadyH.cons (o := ⟨none, _, _, _, _, none⟩) rfl (fun K hK => ?_) (AllReadyH.nil)
              (try dsimp only at hHeld); have g0 := hHeld.1; have g1 := hHeld.2.1; have g2 := hHeld.2.2.1; have g3 := hHeld.2.2.2.1; have g4 := hHeld.2.2.2.2.1; have g5 := hHeld.2.2.2.2.2.1; have g6 := hHeld.2.2.2.2.2.2.1; have g7 := hHeld.2.2.2.2.2.2.2.1; have g8 := hHeld.2.2.2.2.2.2.2.2.1; have g9 := hHeld.2.2.2.2.2.2.2.2.2.1; have g10 := hHeld.2.2.2.2.2.2.2.2.2.2.1; have g11 := hHeld.2.2.2.2.2.2.2.2.2.2.2.1; have g12 := hHeld.2.2.2.2.2.2.2.2.2.2.2.2.1; have g13 := hHeld.2.2.2.2.2.2.2.2.2.2.2.2.2.1; have g14 := hHeld.2.2.2.2.2.2.2.2.2.2.2.2.2.2.1; have g15 := hHeld.2.2.2.2.2.2.2.2.2.2.2.2.2.2.2.1; have g16 := hHeld.2.2.2.2.2.2.2.2.2.2.2.2.2.2.2.2.1; have g17 := hHeld.2.2.2.2.2.2.2.2.2.2.2.2.2.2.2.2.2.1; have g18 := hHeld.2.2.2.2.2.2.2.2.2.2.2.2.2.2.2.2.2.2.1; have g19 := hHeld.2.2.2.2.2.2.2.2.2.2.2.2.2.2.2.2.2.2.2; clear hHeld; go_simp; refine hK.out _ _ ?_ (fun hHeld => ?_); (· ((try dsimp only); (first | (exact ⟨hk1 _ _ _ (hOld.1), hk1 _ _ _ (hOld.2.1), hk1 _ _ _ (hOld.2.2.1), hk1 _ _ _ (hOld.2.2.2.1), hk1 _ _ _ (hOld.2.2.2.2.1), hk1 _ _ _ (hOld.2.2.2.2.2.1), hk1 _ _ _ (hOld.2.2.2.2.2.2.1), hk1 _ _ _ (hOld.2.2.2.2.2.2.2.1), hk1 _ _ _ (hOld.2.2.2.2.2.2.2.2.1), hk1 _ _ _ (hOld.2.2.2.2.2.2.2.2.2.1), hf1 _ _ _ (hOld.2.2.2.2.2.2.2.2.1) (hOld.2.2.2.2.2.2.2.2.2.2.1), hf1 _ _ _ (hOld.2.2.2.2.2.2.2.2.2.1) (hOld.2.2.2.2.2.2.2.2.2.2.2.1), hk1 _ _ _ (hOld.2.2.2.2.2.2.2.2.2.2.2.2.1), hk1 _ _ _ (hOld.2.2.2.2.2.2.2.2.2.2.2.2.2.1), hf1 _ _ _ (hOld.2.2.2.2.2.2.2.2.2.2.2.2.1) (hOld.2.2.2.2.2.2.2.2.2.2.2.2.2.2.1), hf1 _ _ _ (hOld.2.2.2.2.2.2.2.2.2.2.2.2.2.1) (hOld.2.2.2.2.2.2.2.2.2.2.2.2.2.2.2.1), hk1 _ _ _ (hOld.2.2.2.2.2.2.2.2.2.2.2.2.2.2.2.2.1), hk1 _ _ _ (hOld.2.2.2.2.2.2.2.2.2.2.2.2.2.2.2.2.2.1), hf1 _ _ _ (hOld.2.2.2.2.2.2.2.2.2.2.2.2.2.2.2.2.1) (hOld.2.2.2.2.2.2.2.2.2.2.2.2.2.2.2.2.2.2.1), hf1 _ _ _ (hOld.2.2.2.2.2.2.2.2.2.2.2.2.2.2.2.2.2.1) (hOld.2.2.2.2.2.2.2.2.2.2.2.2.2.2.2.2.2.2.2)⟩) | ((try simp only [World.cell?_drew, World.frozen?_drew]); (repeat' apply And.intro) <;> (first | (with_reducible assumption) | (with_reducible exact ⟨_, by assumption⟩) | (with_reducible exact ⟨_, two_other (by assumption) (by omega)⟩) | (with_reducible exact two_0 (by assumption)) | (with_reducible exact two_1 (by assumption)) | (with_reducible exact two_other (by assumption) (by omega)) | (with_reducible exact two_fz (by assumption)) | (with_reducible exact keepA _ (by assumption)) | (with_reducible exact keepA _ (keepA _ (keepA _ (by assumption)))) | (simp (maxDischargeDepth := 8) [*, go_sem, World.cell?_alloc_some, World.cell?_setCell_far]; done))) | (go_keep; done) | (simp (maxDischargeDepth := 8) [*, go_sem, World.cell?_alloc_some, World.cell?_setCell_far]; done)))); clear hK K
              (try simp only [Act.put, List.setIfInBounds_toArray, List.set_cons_zero, List.set_cons_succ])
              refine wpAnyH_done (by kernel_rfl) ?_ _
              go_wp2_with fail
              go_meet
              exact ⟨_, rfl, by omega, hHeld, by first | exact two_0 q0 | (simp [go_sem]; done) | (simp [go_sem]; rfl), by first | exact two_1 q1 | (simp [go_sem]; done) | (simp [go_sem]; rfl), by go_grown⟩
          · skip
            refine wp_region_held_drew (S := (fun w' => w'.cell? ⟨B, 0, none⟩ = some (.int .i64 al) ∧ w'.cell? ⟨B, 1, none⟩ = some (.int .i64 bl) ∧ w'.cell? ⟨B, 2, none⟩ = some (.int .i64 al) ∧ w'.cell? ⟨B, 3, none⟩ = some (.int .i64 bh) ∧ w'.cell? ⟨B, 4, none⟩ = some (.int .i64 ah) ∧ w'.cell? ⟨B, 5, none⟩ = some (.int .i64 bl) ∧ w'.cell? ⟨B, 6, none⟩ = some (.int .i64 ah) ∧ w'.cell? ⟨B, 7, none⟩ = some (.int .i64 bh) ∧ w'.cell? ⟨Z, 0, none⟩ = some (.int .i64 0) ∧ w'.cell? ⟨Z, 1, none⟩ = some (.int .i64 0) ∧ w'.frozen? ⟨Z, 0, none⟩ = false ∧ w'.frozen? ⟨Z, 1, none⟩ = false ∧ w'.cell? ⟨Bl, 0, none⟩ = some (.int .i64 (hiW (mnK (pK al ah bl bh) 1))) ∧ w'.cell? ⟨Bl, 1, none⟩ = some (.int .u64 (loW (mnK (pK al ah bl bh) 1))) ∧ w'.frozen? ⟨Bl, 0, none⟩ = false ∧ w'.frozen? ⟨Bl, 1, none⟩ = false ∧ w'.cell? ⟨Bl + 1, 0, none⟩ = some (.int .i64 (hiW (mxK (pK al ah bl bh) 1))) ∧ w'.cell? ⟨Bl + 1, 1, none⟩ = some (.int .u64 (loW (mxK (pK al ah bl bh) 1))) ∧ w'.frozen? ⟨Bl + 1, 0, none⟩ = false ∧ w'.frozen? ⟨Bl + 1, 1, none⟩ = false)) (by kernel_rfl) (by (try dsimp only); (first | (exact ⟨hk1 _ _ _ (hOld.1), hk1 _ _ _ (hOld.2.1), hk1 _ _ _ (hOld.2.2.1), hk1 _ _ _ (hOld.2.2.2.1), hk1 _ _ _ (hOld.2.2.2.2.1), hk1 _ _ _ (hOld.2.2.2.2.2.1), hk1 _ _ _ (hOld.2.2.2.2.2.2.1), hk1 _ _ _ (hOld.2.2.2.2.2.2.2.1), hk1 _ _ _ (hOld.2.2.2.2.2.2.2.2.1), hk1 _ _ _ (hOld.2.2.2.2.2.2.2.2.2.1), hf1 _ _ _ (hOld.2.2.2.2.2.2.2.2.1) (hOld.2.2.2.2.2.2.2.2.2.2.1), hf1 _ _ _ (hOld.2.2.2.2.2.2.2.2.2.1) (hOld.2.2.2.2.2.2.2.2.2.2.2.1), hk1 _ _ _ (hOld.2.2.2.2.2.2.2.2.2.2.2.2.1), hk1 _ _ _ (hOld.2.2.2.2.2.2.2.2.2.2.2.2.2.1), hf1 _ _ _ (hOld.2.2.2.2.2.2.2.2.2.2.2.2.1) (hOld.2.2.2.2.2.2.2.2.2.2.2.2.2.2.1), hf1 _ _ _ (hOld.2.2.2.2.2.2.2.2.2.2.2.2.2.1) (hOld.2.2.2.2.2.2.2.2.2.2.2.2.2.2.2.1), hk1 _ _ _ (hOld.2.2.2.2.2.2.2.2.2.2.2.2.2.2.2.2.1), hk1 _ _ _ (hOld.2.2.2.2.2.2.2.2.2.2.2.2.2.2.2.2.2.1), hf1 _ _ _ (hOld.2.2.2.2.2.2.2.2.2.2.2.2.2.2.2.2.1) (hOld.2.2.2.2.2.2.2.2.2.2.2.2.2.2.2.2.2.2.1), hf1 _ _ _ (hOld.2.2.2.2.2.2.2.2.2.2.2.2.2.2.2.2.2.1) (hOld.2.2.2.2.2.2.2.2.2.2.2.2.2.2.2.2.2.2.2)⟩) | ((try simp only [World.cell?_drew, World.frozen?_drew]); (repeat' apply And.intro) <;> (first | (with_reducible assumption) | (with_reducible exact ⟨_, by assumption⟩) | (with_reducible exact ⟨_, two_other (by assumption) (by omega)⟩) | (with_reducible exact two_0 (by assumption)) | (with_reducible exact two_1 (by assumption)) | (with_reducible exact two_other (by assumption) (by omega)) | (with_reducible exact two_fz (by assumption)) | (with_reducible exact keepA _ (by assumption)) | (with_reducible exact keepA _ (keepA _ (keepA _ (by assumption)))) | (simp (maxDischargeDepth := 8) [*, go_sem, World.cell?_alloc_some, World.cell?_setCell_far]; done))) | (go_keep; done) | (simp (maxDischargeDepth := 8) [*, go_sem, World.cell?_alloc_some, World.cell?_setCell_far]; done))) (fun hHeld => ?_)
            (refine wpAnyH_take (i := 0) (oi := ⟨some 25, _, _, _, _, none⟩) (v := ?_) rfl (by kernel_rfl) (by kernel_rfl) (by kernel_rfl) (fun _ _ _ h => h) (Or.inl ⟨by rfl, ?_⟩) hHeld ?_; rotate_left; (· (intro w9 hSw; (try dsimp only at hSw); go_simp; (try with_reducible rfl))))
            (try simp only [Act.put, List.setIfInBounds_toArray, List.set_cons_zero, List.set_cons_succ])
            (refine wpAnyH_take (i := 1) (oi := ⟨some 26, _, _, _, _, none⟩) (v := ?_) rfl (by kernel_rfl) (by kernel_rfl) (by kernel_rfl) (fun _ _ _ h => h) (Or.inl ⟨by rfl, ?_⟩) hHeld ?_; rotate_left; (· (intro w9 hSw; (try dsimp only at hSw); go_simp; (try with_reducible rfl))))
            (try simp only [Act.put, List.setIfInBounds_toArray, List.set_cons_zero, List.set_cons_succ])
            (refine wpAnyH_take (i := 2) (oi := ⟨some 27, _, _, _, _, none⟩) (v := ?_) rfl (by kernel_rfl) (by kernel_rfl) (by kernel_rfl) (fun _ _ _ h => h) (Or.inl ⟨by rfl, ?_⟩) hHeld ?_; rotate_left; (· (intro w9 hSw; (try dsimp only at hSw); go_simp; (try with_reducible rfl))))
            (try simp only [Act.put, List.setIfInBounds_toArray, List.set_cons_zero, List.set_cons_succ])
            (refine wpAnyH_take (i := 3) (oi := ⟨some 28, _, _, _, _, none⟩) (v := ?_) rfl (by kernel_rfl) (by kernel_rfl) (by kernel_rfl) (fun _ _ _ h => h) (Or.inl ⟨by rfl, ?_⟩) hHeld ?_; rotate_left; (· (intro w9 hSw; (try dsimp only at hSw); go_simp; (try with_reducible rfl))))
            (try simp only [Act.put, List.setIfInBounds_toArray, List.set_cons_zero, List.set_cons_succ])
            (refine wpAnyH_take (i := 4) (oi := ⟨some 29, _, _, _, _, none⟩) (v := ?_) rfl (by kernel_rfl) (by kernel_rfl) (by kernel_rfl) (fun _ _ _ h => h) (Or.inl ⟨by rfl, ?_⟩) hHeld ?_; rotate_left; (· (intro w9 hSw; (try dsimp only at hSw); go_simp; (try with_reducible rfl))))
            (try simp only [Act.put, List.setIfInBounds_toArray, List.set_cons_zero, List.set_cons_succ])
            (refine wpAnyH_take (i := 5) (oi := ⟨some 30, _, _, _, _, none⟩) (v := ?_) rfl (by kernel_rfl) (by kernel_rfl) (by kernel_rfl) (fun _ _ _ h => h) (Or.inl ⟨by rfl, ?_⟩) hHeld ?_; rotate_left; (· (intro w9 hSw; (try dsimp only at hSw); go_simp; (try with_reducible rfl))))
            (try simp only [Act.put, List.setIfInBounds_toArray, List.set_cons_zero, List.set_cons_succ])
            (refine wpAnyH_take (i := 6) (oi := ⟨some 31, _, _, _, _, none⟩) (v := ?_) rfl (by kernel_rfl) (by kernel_rfl) (by kernel_rfl) (fun _ _ _ h => h) (Or.inl ⟨by rfl, ?_⟩) hHeld ?_; rotate_left; (· (intro w9 hSw; (try dsimp only at hSw); go_simp; (try with_reducible rfl))))
            (try simp only [Act.put, List.setIfInBounds_toArray, List.set_cons_zero, List.set_cons_succ])
            (refine wpAnyH_take (i := 7) (oi := ⟨some 32, _, _, _, _, none⟩) (v := ?_) rfl (by kernel_rfl) (by kernel_rfl) (by kernel_rfl) (fun _ _ _ h => h) (Or.inl ⟨by rfl, ?_⟩) hHeld ?_; rotate_left; (· (intro w9 hSw; (try dsimp only at hSw); go_simp; (try with_reducible rfl))))
            (try simp only [Act.put, List.setIfInBounds_toArray, List.set_cons_zero, List.set_cons_succ])
            (refine wpAnyH_take (i := 8) (oi := ⟨some 33, _, _, _, _, none⟩) (v := ?_) rfl (by kernel_rfl) (by kernel_rfl) (by kernel_rfl) (fun _ _ _ h => h) (Or.inl ⟨by rfl, ?_⟩) hHeld ?_; rotate_left; (· (intro w9 hSw; (try dsimp only at hSw); go_simp; (try with_reducible rfl))))
            (try simp only [Act.put, List.setIfInBounds_toArray, List.set_cons_zero, List.set_cons_succ])
            (refine wpAnyH_take (i := 9) (oi := ⟨some 34, _, _, _, _, none⟩) (v := ?_) rfl (by kernel_rfl) (by kernel_rfl) (by kernel_rfl) (fun _ _ _ h => h) (Or.inl ⟨by rfl, ?_⟩) hHeld ?_; rotate_left; (· (intro w9 hSw; (try dsimp only at hSw); go_simp; (try with_reducible rfl))))
            (try simp only [Act.put, List.setIfInBounds_toArray, List.set_cons_zero, List.set_cons_succ])
            refine wpAnyH_ready (rs := [10, 11]) (by kernel_rfl) (by simp) ?_
            refine AllReadyH.cons (o := ⟨some 35, _, _, _, _, none⟩) rfl (fun K hK => ?_) (AllReadyH.cons (o := ⟨some 10, _, _, _, _, none⟩) rfl (fun K hK => ?_) (AllReadyH.nil))
            ·
              go_simp
              (first | (go_at_call 91; refine useF w (times_any al bh _ (by omega)) (by go_grown) ?_; rintro e w_r_1 rfl hB_1 hk_1 hf_1 hs_1; have hz_1 := hB_1.size))
              have hOld := hHeld; clear hHeld; refine hK.out _ _ ?_ (fun hHeld => ?_); (· ((try dsimp only); (first | (exact ⟨hk_1 _ _ _ (hOld.1), hk_1 _ _ _ (hOld.2.1), hk_1 _ _ _ (hOld.2.2.1), hk_1 _ _ _ (hOld.2.2.2.1), hk_1 _ _ _ (hOld.2.2.2.2.1), hk_1 _ _ _ (hOld.2.2.2.2.2.1), hk_1 _ _ _ (hOld.2.2.2.2.2.2.1), hk_1 _ _ _ (hOld.2.2.2.2.2.2.2.1), hk_1 _ _ _ (hOld.2.2.2.2.2.2.2.2.1), hk_1 _ _ _ (hOld.2.2.2.2.2.2.2.2.2.1), hf_1 _ _ _ (hOld.2.2.2.2.2.2.2.2.1) (hOld.2.2.2.2.2.2.2.2.2.2.1), hf_1 _ _ _ (hOld.2.2.2.2.2.2.2.2.2.1) (hOld.2.2.2.2.2.2.2.2.2.2.2.1), hk_1 _ _ _ (hOld.2.2.2.2.2.2.2.2.2.2.2.2.1), hk_1 _ _ _ (hOld.2.2.2.2.2.2.2.2.2.2.2.2.2.1), hf_1 _ _ _ (hOld.2.2.2.2.2.2.2.2.2.2.2.2.1) (hOld.2.2.2.2.2.2.2.2.2.2.2.2.2.2.1), hf_1 _ _ _ (hOld.2.2.2.2.2.2.2.2.2.2.2.2.2.1) (hOld.2.2.2.2.2.2.2.2.2.2.2.2.2.2.2.1), hk_1 _ _ _ (hOld.2.2.2.2.2.2.2.2.2.2.2.2.2.2.2.2.1), hk_1 _ _ _ (hOld.2.2.2.2.2.2.2.2.2.2.2.2.2.2.2.2.2.1), hf_1 _ _ _ (hOld.2.2.2.2.2.2.2.2.2.2.2.2.2.2.2.2.1) (hOld.2.2.2.2.2.2.2.2.2.2.2.2.2.2.2.2.2.2.1), hf_1 _ _ _ (hOld.2.2.2.2.2.2.2.2.2.2.2.2.2.2.2.2.2.1) (hOld.2.2.2.2.2.2.2.2.2.2.2.2.2.2.2.2.2.2.2)⟩) | ((try simp only [World.cell?_drew, World.frozen?_drew]); (repeat' apply And.intro) <;> (first | (with_reducible assumption) | (with_reducible exact ⟨_, by assumption⟩) | (with_reducible exact ⟨_, two_other (by assumption) (by omega)⟩) | (with_reducible exact two_0 (by assumption)) | (with_reducible exact two_1 (by assumption)) | (with_reducible exact two_other (by assumption) (by omega)) | (with_reducible exact two_fz (by assumption)) | (with_reducible exact keepA _ (by assumption)) | (with_reducible exact keepA _ (keepA _ (keepA _ (by assumption)))) | (simp (maxDischargeDepth := 8) [*, go_sem, World.cell?_alloc_some, World.cell?_setCell_far]; done))) | (go_keep; done) | (simp (maxDischargeDepth := 8) [*, go_sem, World.cell?_alloc_some, World.cell?_setCell_far]; done)))); clear hK K hOld
              clear hk_1 hf_1
              (try simp only [Act.put, List.setIfInBounds_toArray, List.set_cons_zero, List.set_cons_succ])
              refine wpAnyH_ready (rs := [11]) (by kernel_rfl) (by simp) ?_
              refine AllReadyH.cons (o := ⟨some 10, _, _, _, _, none⟩) rfl (fun K hK => ?_) (AllReadyH.nil)
              (try dsimp only at hHeld); have g0 := hHeld.1; have g1 := hHeld.2.1; have g2 := hHeld.2.2.1; have g3 := hHeld.2.2.2.1; have g4 := hHeld.2.2.2.2.1; have g5 := hHeld.2.2.2.2.2.1; have g6 := hHeld.2.2.2.2.2.2.1; have g7 := hHeld.2.2.2.2.2.2.2.1; have g8 := hHeld.2.2.2.2.2.2.2.2.1; have g9 := hHeld.2.2.2.2.2.2.2.2.2.1; have g10 := hHeld.2.2.2.2.2.2.2.2.2.2.1; have g11 := hHeld.2.2.2.2.2.2.2.2.2.2.2.1; have g12 := hHeld.2.2.2.2.2.2.2.2.2.2.2.2.1; have g13 := hHeld.2.2.2.2.2.2.2.2.2.2.2.2.2.1; have g14 := hHeld.2.2.2.2.2.2.2.2.2.2.2.2.2.2.1; have g15 := hHeld.2.2.2.2.2.2.2.2.2.2.2.2.2.2.2.1; have g16 := hHeld.2.2.2.2.2.2.2.2.2.2.2.2.2.2.2.2.1; have g17 := hHeld.2.2.2.2.2.2.2.2.2.2.2.2.2.2.2.2.2.1; have g18 := hHeld.2.2.2.2.2.2.2.2.2.2.2.2.2.2.2.2.2.2.1; have g19 := hHeld.2.2.2.2.2.2.2.2.2.2.2.2.2.2.2.2.2.2.2
              have hlt0 : B < w_r_1.heap.size := World.block_lt_of_cell? _ ⟨B, 0, none⟩ g0
              have hne0 : B ≠ w_r_1.heap.size := by omega
              have hnf0 := hne0.symm
              have hlt1 : Z < w_r_1.heap.size := World.block_lt_of_cell? _ ⟨Z, 0, none⟩ g8
              have hne1 : Z ≠ w_r_1.heap.size := by omega
              have hnf1 := hne1.symm
              have hlt2 : Bl < w_r_1.heap.size := World.block_lt_of_cell? _ ⟨Bl, 0, none⟩ g12
              have hne2 : Bl ≠ w_r_1.heap.size := by omega
              have hnf2 := hne2.symm
              have hlt3 : Bl + 1 < w_r_1.heap.size := World.block_lt_of_cell? _ ⟨Bl + 1, 0, none⟩ g16
              have hne3 : Bl + 1 ≠ w_r_1.heap.size := by omega
              have hnf3 := hne3.symm
              have q0 : ((w_r_1).alloc (Obj.cells #[.int .i64 0, .int .u64 0] 78)).cell? ⟨w_r_1.heap.size, 0, none⟩ = some (.int .i64 0) := by simp [go_sem]
              have qf0 : ((w_r_1).alloc (Obj.cells #[.int .i64 0, .int .u64 0] 78)).frozen? ⟨w_r_1.heap.size, 0, none⟩ = false := by simp [go_sem]
              have q1 : ((w_r_1).alloc (Obj.cells #[.int .i64 0, .int .u64 0] 78)).cell? ⟨w_r_1.heap.size, 1, none⟩ = some (.int .u64 0) := by simp [go_sem]
              have qf1 : ((w_r_1).alloc (Obj.cells #[.int .i64 0, .int .u64 0] 78)).frozen? ⟨w_r_1.heap.size, 1, none⟩ = false := by simp [go_sem]
              clear hHeld; go_simp; refine hK.out _ _ ?_ (fun hHeld => ?_); (· ((try dsimp only); (first | (exact ⟨hk1 _ _ _ (hOld.1), hk1 _ _ _ (hOld.2.1), hk1 _ _ _ (hOld.2.2.1), hk1 _ _ _ (hOld.2.2.2.1), hk1 _ _ _ (hOld.2.2.2.2.1), hk1 _ _ _ (hOld.2.2.2.2.2.1), hk1 _ _ _ (hOld.2.2.2.2.2.2.1), hk1 _ _ _ (hOld.2.2.2.2.2.2.2.1), hk1 _ _ _ (hOld.2.2.2.2.2.2.2.2.1), hk1 _ _ _ (hOld.2.2.2.2.2.2.2.2.2.1), hf1 _ _ _ (hOld.2.2.2.2.2.2.2.2.1) (hOld.2.2.2.2.2.2.2.2.2.2.1), hf1 _ _ _ (hOld.2.2.2.2.2.2.2.2.2.1) (hOld.2.2.2.2.2.2.2.2.2.2.2.1), hk1 _ _ _ (hOld.2.2.2.2.2.2.2.2.2.2.2.2.1), hk1 _ _ _ (hOld.2.2.2.2.2.2.2.2.2.2.2.2.2.1), hf1 _ _ _ (hOld.2.2.2.2.2.2.2.2.2.2.2.2.1) (hOld.2.2.2.2.2.2.2.2.2.2.2.2.2.2.1), hf1 _ _ _ (hOld.2.2.2.2.2.2.2.2.2.2.2.2.2.1) (hOld.2.2.2.2.2.2.2.2.2.2.2.2.2.2.2.1), hk1 _ _ _ (hOld.2.2.2.2.2.2.2.2.2.2.2.2.2.2.2.2.1), hk1 _ _ _ (hOld.2.2.2.2.2.2.2.2.2.2.2.2.2.2.2.2.2.1), hf1 _ _ _ (hOld.2.2.2.2.2.2.2.2.2.2.2.2.2.2.2.2.1) (hOld.2.2.2.2.2.2.2.2.2.2.2.2.2.2.2.2.2.2.1), hf1 _ _ _ (hOld.2.2.2.2.2.2.2.2.2.2.2.2.2.2.2.2.2.1) (hOld.2.2.2.2.2.2.2.2.2.2.2.2.2.2.2.2.2.2.2)⟩) | ((try simp only [World.cell?_drew, World.frozen?_drew]); (repeat' apply And.intro) <;> (first | (with_reducible assumption) | (with_reducible exact ⟨_, by assumption⟩) | (with_reducible exact ⟨_, two_other (by assumption) (by omega)⟩) | (with_reducible exact two_0 (by assumption)) | (with_reducible exact two_1 (by assumption)) | (with_reducible exact two_other (by assumption) (by omega)) | (with_reducible exact two_fz (by assumption)) | (with_reducible exact keepA _ (by assumption)) | (with_reducible exact keepA _ (keepA _ (keepA _ (by assumption)))) | (simp (maxDischargeDepth := 8) [*, go_sem, World.cell?_alloc_some, World.cell?_setCell_far]; done))) | (go_keep; done) | (simp (maxDischargeDepth := 8) [*, go_sem, World.cell?_alloc_some, World.cell?_setCell_far]; done)))); clear hK K
              (try simp only [Act.put, List.setIfInBounds_toArray, List.set_cons_zero, List.set_cons_succ])
              refine wpAnyH_ready (rs := [12]) (by kernel_rfl) (by simp) ?_
              refine AllReadyH.cons (o := ⟨none, _, _, _, _, none⟩) rfl (fun K hK => ?_) (AllReadyH.nil)
              (try dsimp only at hHeld); have g0 := hHeld.1; have g1 := hHeld.2.1; have g2 := hHeld.2.2.1; have g3 := hHeld.2.2.2.1; have g4 := hHeld.2.2.2.2.1; have g5 := hHeld.2.2.2.2.2.1; have g6 := hHeld.2.2.2.2.2.2.1; have g7 := hHeld.2.2.2.2.2.2.2.1; have g8 := hHeld.2.2.2.2.2.2.2.2.1; have g9 := hHeld.2.2.2.2.2.2.2.2.2.1; have g10 := hHeld.2.2.2.2.2.2.2.2.2.2.1; have g11 := hHeld.2.2.2.2.2.2.2.2.2.2.2.1; have g12 := hHeld.2.2.2.2.2.2.2.2.2.2.2.2.1; have g13 := hHeld.2.2.2.2.2.2.2.2.2.2.2.2.2.1; have g14 := hHeld.2.2.2.2.2.2.2.2.2.2.2.2.2.2.1; have g15 := hHeld.2.2.2.2.2.2.2.2.2.2.2.2.2.2.2.1; have g16 := hHeld.2.2.2.2.2.2.2.2.2.2.2.2.2.2.2.2.1; have g17 := hHeld.2.2.2.2.2.2.2.2.2.2.2.2.2.2.2.2.2.1; have g18 := hHeld.2.2.2.2.2.2.2.2.2.2.2.2.2.2.2.2.2.2.1; have g19 := hHeld.2.2.2.2.2.2.2.2.2.2.2.2.2.2.2.2.2.2.2; clear hHeld; go_simp; refine hK.out _ _ ?_ (fun hHeld => ?_); (· ((try dsimp only); (first | (exact ⟨hk1 _ _ _ (hOld.1), hk1 _ _ _ (hOld.2.1), hk1 _ _ _ (hOld.2.2.1), hk1 _ _ _ (hOld.2.2.2.1), hk1 _ _ _ (hOld.2.2.2.2.1), hk1 _ _ _ (hOld.2.2.2.2.2.1), hk1 _ _ _ (hOld.2.2.2.2.2.2.1), hk1 _ _ _ (hOld.2.2.2.2.2.2.2.1), hk1 _ _ _ (hOld.2.2.2.2.2.2.2.2.1), hk1 _ _ _ (hOld.2.2.2.2.2.2.2.2.2.1), hf1 _ _ _ (hOld.2.2.2.2.2.2.2.2.1) (hOld.2.2.2.2.2.2.2.2.2.2.1), hf1 _ _ _ (hOld.2.2.2.2.2.2.2.2.2.1) (hOld.2.2.2.2.2.2.2.2.2.2.2.1), hk1 _ _ _ (hOld.2.2.2.2.2.2.2.2.2.2.2.2.1), hk1 _ _ _ (hOld.2.2.2.2.2.2.2.2.2.2.2.2.2.1), hf1 _ _ _ (hOld.2.2.2.2.2.2.2.2.2.2.2.2.1) (hOld.2.2.2.2.2.2.2.2.2.2.2.2.2.2.1), hf1 _ _ _ (hOld.2.2.2.2.2.2.2.2.2.2.2.2.2.1) (hOld.2.2.2.2.2.2.2.2.2.2.2.2.2.2.2.1), hk1 _ _ _ (hOld.2.2.2.2.2.2.2.2.2.2.2.2.2.2.2.2.1), hk1 _ _ _ (hOld.2.2.2.2.2.2.2.2.2.2.2.2.2.2.2.2.2.1), hf1 _ _ _ (hOld.2.2.2.2.2.2.2.2.2.2.2.2.2.2.2.2.1) (hOld.2.2.2.2.2.2.2.2.2.2.2.2.2.2.2.2.2.2.1), hf1 _ _ _ (hOld.2.2.2.2.2.2.2.2.2.2.2.2.2.2.2.2.2.1) (hOld.2.2.2.2.2.2.2.2.2.2.2.2.2.2.2.2.2.2.2)⟩) | ((try simp only [World.cell?_drew, World.frozen?_drew]); (repeat' apply And.intro) <;> (first | (with_reducible assumption) | (with_reducible exact ⟨_, by assumption⟩) | (with_reducible exact ⟨_, two_other (by assumption) (by omega)⟩) | (with_reducible exact two_0 (by assumption)) | (with_reducible exact two_1 (by assumption)) | (with_reducible exact two_other (by assumption) (by omega)) | (with_reducible exact two_fz (by assumption)) | (with_reducible exact keepA _ (by assumption)) | (with_reducible exact keepA _ (keepA _ (keepA _ (by assumption)))) | (simp (maxDischargeDepth := 8) [*, go_sem, World.cell?_alloc_some, World.cell?_setCell_far]; done))) | (go_keep; done) | (simp (maxDischargeDepth := 8) [*, go_sem, World.cell?_alloc_some, World.cell?_setCell_far]; done)))); clear hK K
              (try simp only [Act.put, List.setIfInBounds_toArray, List.set_cons_zero, List.set_cons_succ])
              refine wpAnyH_done (by kernel_rfl) ?_ _
              go_wp2_with fail
              go_meet
              exact ⟨_, rfl, by omega, hHeld, by first | exact two_0 q0 | (simp [go_sem]; done) | (simp [go_sem]; rfl), by first | exact two_1 q1 | (simp [go_sem]; done) | (simp [go_sem]; rfl), by go_grown⟩
            ·
              (try dsimp only at hHeld); have g0 := hHeld.1; have g1 := hHeld.2.1; have g2 := hHeld.2.2.1; have g3 := hHeld.2.2.2.1; have g4 := hHeld.2.2.2.2.1; have g5 := hHeld.2.2.2.2.2.1; have g6 := hHeld.2.2.2.2.2.2.1; have g7 := hHeld.2.2.2.2.2.2.2.1; have g8 := hHeld.2.2.2.2.2.2.2.2.1; have g9 := hHeld.2.2.2.2.2.2.2.2.2.1; have g10 := hHeld.2.2.2.2.2.2.2.2.2.2.1; have g11 := hHeld.2.2.2.2.2.2.2.2.2.2.2.1; have g12 := hHeld.2.2.2.2.2.2.2.2.2.2.2.2.1; have g13 := hHeld.2.2.2.2.2.2.2.2.2.2.2.2.2.1; have g14 := hHeld.2.2.2.2.2.2.2.2.2.2.2.2.2.2.1; have g15 := hHeld.2.2.2.2.2.2.2.2.2.2.2.2.2.2.2.1; have g16 := hHeld.2.2.2.2.2.2.2.2.2.2.2.2.2.2.2.2.1; have g17 := hHeld.2.2.2.2.2.2.2.2.2.2.2.2.2.2.2.2.2.1; have g18 := hHeld.2.2.2.2.2.2.2.2.2.2.2.2.2.2.2.2.2.2.1; have g19 := hHeld.2.2.2.2.2.2.2.2.2.2.2.2.2.2.2.2.2.2.2
              have hlt0 : B < wr.heap.size := World.block_lt_of_cell? _ ⟨B, 0, none⟩ g0
              have hne0 : B ≠ wr.heap.size := by omega
              have hnf0 := hne0.symm
              have hlt1 : Z < wr.heap.size := World.block_lt_of_cell? _ ⟨Z, 0, none⟩ g8
              have hne1 : Z ≠ wr.heap.size := by omega
              have hnf1 := hne1.symm
              have hlt2 : Bl < wr.heap.size := World.block_lt_of_cell? _ ⟨Bl, 0, none⟩ g12
              have hne2 : Bl ≠ wr.heap.size := by omega
              have hnf2 := hne2.symm
              have hlt3 : Bl + 1 < wr.heap.size := World.block_lt_of_cell? _ ⟨Bl + 1, 0, none⟩ g16
              have hne3 : Bl + 1 ≠ wr.heap.size := by omega
              have hnf3 := hne3.symm
              have q0 : ((wr.drew).alloc (Obj.cells #[.int .i64 0, .int .u64 0] 78)).cell? ⟨wr.heap.size, 0, none⟩ = some (.int .i64 0) := by simp [go_sem]
              have qf0 : ((wr.drew).alloc (Obj.cells #[.int .i64 0, .int .u64 0] 78)).frozen? ⟨wr.heap.size, 0, none⟩ = false := by simp [go_sem]
              have q1 : ((wr.drew).alloc (Obj.cells #[.int .i64 0, .int .u64 0] 78)).cell? ⟨wr.heap.size, 1, none⟩ = some (.int .u64 0) := by simp [go_sem]
              have qf1 : ((wr.drew).alloc (Obj.cells #[.int .i64 0, .int .u64 0] 78)).frozen? ⟨wr.heap.size, 1, none⟩ = false := by simp [go_sem]
              clear hHeld; go_simp; refine hK.out _ _ ?_ (fun hHeld => ?_); (· ((try dsimp only); (first | (exact ⟨hk1 _ _ _ (hOld.1), hk1 _ _ _ (hOld.2.1), hk1 _ _ _ (hOld.2.2.1), hk1 _ _ _ (hOld.2.2.2.1), hk1 _ _ _ (hOld.2.2.2.2.1), hk1 _ _ _ (hOld.2.2.2.2.2.1), hk1 _ _ _ (hOld.2.2.2.2.2.2.1), hk1 _ _ _ (hOld.2.2.2.2.2.2.2.1), hk1 _ _ _ (hOld.2.2.2.2.2.2.2.2.1), hk1 _ _ _ (hOld.2.2.2.2.2.2.2.2.2.1), hf1 _ _ _ (hOld.2.2.2.2.2.2.2.2.1) (hOld.2.2.2.2.2.2.2.2.2.2.1), hf1 _ _ _ (hOld.2.2.2.2.2.2.2.2.2.1) (hOld.2.2.2.2.2.2.2.2.2.2.2.1), hk1 _ _ _ (hOld.2.2.2.2.2.2.2.2.2.2.2.2.1), hk1 _ _ _ (hOld.2.2.2.2.2.2.2.2.2.2.2.2.2.1), hf1 _ _ _ (hOld.2.2.2.2.2.2.2.2.2.2.2.2.1) (hOld.2.2.2.2.2.2.2.2.2.2.2.2.2.2.1), hf1 _ _ _ (hOld.2.2.2.2.2.2.2.2.2.2.2.2.2.1) (hOld.2.2.2.2.2.2.2.2.2.2.2.2.2.2.2.1), hk1 _ _ _ (hOld.2.2.2.2.2.2.2.2.2.2.2.2.2.2.2.2.1), hk1 _ _ _ (hOld.2.2.2.2.2.2.2.2.2.2.2.2.2.2.2.2.2.1), hf1 _ _ _ (hOld.2.2.2.2.2.2.2.2.2.2.2.2.2.2.2.2.1) (hOld.2.2.2.2.2.2.2.2.2.2.2.2.2.2.2.2.2.2.1), hf1 _ _ _ (hOld.2.2.2.2.2.2.2.2.2.2.2.2.2.2.2.2.2.1) (hOld.2.2.2.2.2.2.2.2.2.2.2.2.2.2.2.2.2.2.2)⟩) | ((try simp only [World.cell?_drew, World.frozen?_drew]); (repeat' apply And.intro) <;> (first | (with_reducible assumption) | (with_reducible exact ⟨_, by assumption⟩) | (with_reducible exact ⟨_, two_other (by assumption) (by omega)⟩) | (with_reducible exact two_0 (by assumption)) | (with_reducible exact two_1 (by assumption)) | (with_reducible exact two_other (by assumption) (by omega)) | (with_reducible exact two_fz (by assumption)) | (with_reducible exact keepA _ (by assumption)) | (with_reducible exact keepA _ (keepA _ (keepA _ (by assumption)))) | (simp (maxDischargeDepth := 8) [*, go_sem, World.cell?_alloc_some, World.cell?_setCell_far]; done))) | (go_keep; done) | (simp (maxDischargeDepth := 8) [*, go_sem, World.cell?_alloc_some, World.cell?_setCell_far]; done)))); clear hK K
              (try simp only [Act.put, List.setIfInBounds_toArray, List.set_cons_zero, List.set_cons_succ])
              refine wpAnyH_ready (rs := [10]) (by kernel_rfl) (by simp) ?_
              refine AllReadyH.cons (o := ⟨some 35, _, _, _, _, none⟩) rfl (fun K hK => ?_) (AllReadyH.nil)
              go_simp
              (first | (go_at_call 91; refine useF w (times_any al bh _ (by omega)) (by go_grown) ?_; rintro e w_r_1 rfl hB_1 hk_1 hf_1 hs_1; have hz_1 := hB_1.size))
              have hOld := hHeld; clear hHeld; refine hK.out _ _ ?_ (fun hHeld => ?_); (· ((try dsimp only); (first | (exact ⟨hk_1 _ _ _ (hOld.1), hk_1 _ _ _ (hOld.2.1), hk_1 _ _ _ (hOld.2.2.1), hk_1 _ _ _ (hOld.2.2.2.1), hk_1 _ _ _ (hOld.2.2.2.2.1), hk_1 _ _ _ (hOld.2.2.2.2.2.1), hk_1 _ _ _ (hOld.2.2.2.2.2.2.1), hk_1 _ _ _ (hOld.2.2.2.2.2.2.2.1), hk_1 _ _ _ (hOld.2.2.2.2.2.2.2.2.1), hk_1 _ _ _ (hOld.2.2.2.2.2.2.2.2.2.1), hf_1 _ _ _ (hOld.2.2.2.2.2.2.2.2.1) (hOld.2.2.2.2.2.2.2.2.2.2.1), hf_1 _ _ _ (hOld.2.2.2.2.2.2.2.2.2.1) (hOld.2.2.2.2.2.2.2.2.2.2.2.1), hk_1 _ _ _ (hOld.2.2.2.2.2.2.2.2.2.2.2.2.1), hk_1 _ _ _ (hOld.2.2.2.2.2.2.2.2.2.2.2.2.2.1), hf_1 _ _ _ (hOld.2.2.2.2.2.2.2.2.2.2.2.2.1) (hOld.2.2.2.2.2.2.2.2.2.2.2.2.2.2.1), hf_1 _ _ _ (hOld.2.2.2.2.2.2.2.2.2.2.2.2.2.1) (hOld.2.2.2.2.2.2.2.2.2.2.2.2.2.2.2.1), hk_1 _ _ _ (hOld.2.2.2.2.2.2.2.2.2.2.2.2.2.2.2.2.1), hk_1 _ _ _ (hOld.2.2.2.2.2.2.2.2.2.2.2.2.2.2.2.2.2.1), hf_1 _ _ _ (hOld.2.2.2.2.2.2.2.2.2.2.2.2.2.2.2.2.1) (hOld.2.2.2.2.2.2.2.2.2.2.2.2.2.2.2.2.2.2.1), hf_1 _ _ _ (hOld.2.2.2.2.2.2.2.2.2.2.2.2.2.2.2.2.2.1) (hOld.2.2.2.2.2.2.2.2.2.2.2.2.2.2.2.2.2.2.2)⟩) | ((try simp only [World.cell?_drew, World.frozen?_drew]); (repeat' apply And.intro) <;> (first | (with_reducible assumption) | (with_reducible exact ⟨_, by assumption⟩) | (with_reducible exact ⟨_, two_other (by assumption) (by omega)⟩) | (with_reducible exact two_0 (by assumption)) | (with_reducible exact two_1 (by assumption)) | (with_reducible exact two_other (by assumption) (by omega)) | (with_reducible exact two_fz (by assumption)) | (with_reducible exact keepA _ (by assumption)) | (with_reducible exact keepA _ (keepA _ (keepA _ (by assumption)))) | (simp (maxDischargeDepth := 8) [*, go_sem, World.cell?_alloc_some, World.cell?_setCell_far]; done))) | (go_keep; done) | (simp (maxDischargeDepth := 8) [*, go_sem, World.cell?_alloc_some, World.cell?_setCell_far]; done)))); clear hK K hOld
              have qf0 := hf_1 _ _ _ q0 qf0
              have qf1 := hf_1 _ _ _ q1 qf1
              have q0 := hk_1 _ _ _ q0
              have q1 := hk_1 _ _ _ q1
              clear hk_1 hf_1
              (try simp only [Act.put, List.setIfInBounds_toArray, List.set_cons_zero, List.set_cons_succ])
              refine wpAnyH_ready (rs := [12]) (by kernel_rfl) (by simp) ?_
              refine AllReadyH.cons (o := ⟨none, _, _, _, _, none⟩) rfl (fun K hK => ?_) (AllReadyH.nil)
              (try dsimp only at hHeld); have g0 := hHeld.1; have g1 := hHeld.2.1; have g2 := hHeld.2.2.1; have g3 := hHeld.2.2.2.1; have g4 := hHeld.2.2.2.2.1; have g5 := hHeld.2.2.2.2.2.1; have g6 := hHeld.2.2.2.2.2.2.1; have g7 := hHeld.2.2.2.2.2.2.2.1; have g8 := hHeld.2.2.2.2.2.2.2.2.1; have g9 := hHeld.2.2.2.2.2.2.2.2.2.1; have g10 := hHeld.2.2.2.2.2.2.2.2.2.2.1; have g11 := hHeld.2.2.2.2.2.2.2.2.2.2.2.1; have g12 := hHeld.2.2.2.2.2.2.2.2.2.2.2.2.1; have g13 := hHeld.2.2.2.2.2.2.2.2.2.2.2.2.2.1; have g14 := hHeld.2.2.2.2.2.2.2.2.2.2.2.2.2.2.1; have g15 := hHeld.2.2.2.2.2.2.2.2.2.2.2.2.2.2.2.1; have g16 := hHeld.2.2.2.2.2.2.2.2.2.2.2.2.2.2.2.2.1; have g17 := hHeld.2.2.2.2.2.2.2.2.2.2.2.2.2.2.2.2.2.1; have g18 := hHeld.2.2.2.2.2.2.2.2.2.2.2.2.2.2.2.2.2.2.1; have g19 := hHeld.2.2.2.2.2.2.2.2.2.2.2.2.2.2.2.2.2.2.2; clear hHeld; go_simp; refine hK.out _ _ ?_ (fun hHeld => ?_); (· ((try dsimp only); (first | (exact ⟨hk1 _ _ _ (hOld.1), hk1 _ _ _ (hOld.2.1), hk1 _ _ _ (hOld.2.2.1), hk1 _ _ _ (hOld.2.2.2.1), hk1 _ _ _ (hOld.2.2.2.2.1), hk1 _ _ _ (hOld.2.2.2.2.2.1), hk1 _ _ _ (hOld.2.2.2.2.2.2.1), hk1 _ _ _ (hOld.2.2.2.2.2.2.2.1), hk1 _ _ _ (hOld.2.2.2.2.2.2.2.2.1), hk1 _ _ _ (hOld.2.2.2.2.2.2.2.2.2.1), hf1 _ _ _ (hOld.2.2.2.2.2.2.2.2.1) (hOld.2.2.2.2.2.2.2.2.2.2.1), hf1 _ _ _ (hOld.2.2.2.2.2.2.2.2.2.1) (hOld.2.2.2.2.2.2.2.2.2.2.2.1), hk1 _ _ _ (hOld.2.2.2.2.2.2.2.2.2.2.2.2.1), hk1 _ _ _ (hOld.2.2.2.2.2.2.2.2.2.2.2.2.2.1), hf1 _ _ _ (hOld.2.2.2.2.2.2.2.2.2.2.2.2.1) (hOld.2.2.2.2.2.2.2.2.2.2.2.2.2.2.1), hf1 _ _ _ (hOld.2.2.2.2.2.2.2.2.2.2.2.2.2.1) (hOld.2.2.2.2.2.2.2.2.2.2.2.2.2.2.2.1), hk1 _ _ _ (hOld.2.2.2.2.2.2.2.2.2.2.2.2.2.2.2.2.1), hk1 _ _ _ (hOld.2.2.2.2.2.2.2.2.2.2.2.2.2.2.2.2.2.1), hf1 _ _ _ (hOld.2.2.2.2.2.2.2.2.2.2.2.2.2.2.2.2.1) (hOld.2.2.2.2.2.2.2.2.2.2.2.2.2.2.2.2.2.2.1), hf1 _ _ _ (hOld.2.2.2.2.2.2.2.2.2.2.2.2.2.2.2.2.2.1) (hOld.2.2.2.2.2.2.2.2.2.2.2.2.2.2.2.2.2.2.2)⟩) | ((try simp only [World.cell?_drew, World.frozen?_drew]); (repeat' apply And.intro) <;> (first | (with_reducible assumption) | (with_reducible exact ⟨_, by assumption⟩) | (with_reducible exact ⟨_, two_other (by assumption) (by omega)⟩) | (with_reducible exact two_0 (by assumption)) | (with_reducible exact two_1 (by assumption)) | (with_reducible exact two_other (by assumption) (by omega)) | (with_reducible exact two_fz (by assumption)) | (with_reducible exact keepA _ (by assumption)) | (with_reducible exact keepA _ (keepA _ (keepA _ (by assumption)))) | (simp (maxDischargeDepth := 8) [*, go_sem, World.cell?_alloc_some, World.cell?_setCell_far]; done))) | (go_keep; done) | (simp (maxDischargeDepth := 8) [*, go_sem, World.cell?_alloc_some, World.cell?_setCell_far]; done)))); clear hK K
              (try simp only [Act.put, List.setIfInBounds_toArray, List.set_cons_zero, List.set_cons_succ])
              refine wpAnyH_done (by kernel_rfl) ?_ _
              go_wp2_with fail
              go_meet
              exact ⟨_, rfl, by omega, hHeld, by first | exact two_0 q0 | (simp [go_sem]; done) | (simp [go_sem]; rfl), by first | exact two_1 q1 | (simp [go_sem]; done) | (simp [go_sem]; rfl), by go_grown⟩
          · skip
            refine wp_region_held_drew (S := (fun w' => w'.cell? ⟨B, 0, none⟩ = some (.int .i64 al) ∧ w'.cell? ⟨B, 1, none⟩ = some (.int .i64 bl) ∧ w'.cell? ⟨B, 2, none⟩ = some (.int .i64 al) ∧ w'.cell? ⟨B, 3, none⟩ = some (.int .i64 bh) ∧ w'.cell? ⟨B, 4, none⟩ = some (.int .i64 ah) ∧ w'.cell? ⟨B, 5, none⟩ = some (.int .i64 bl) ∧ w'.cell? ⟨B, 6, none⟩ = some (.int .i64 ah) ∧ w'.cell? ⟨B, 7, none⟩ = some (.int .i64 bh) ∧ w'.cell? ⟨Z, 0, none⟩ = some (.int .i64 0) ∧ w'.cell? ⟨Z, 1, none⟩ = some (.int .i64 0) ∧ w'.frozen? ⟨Z, 0, none⟩ = false ∧ w'.frozen? ⟨Z, 1, none⟩ = false ∧ w'.cell? ⟨Bl, 0, none⟩ = some (.int .i64 (hiW (mnK (pK al ah bl bh) 2))) ∧ w'.cell? ⟨Bl, 1, none⟩ = some (.int .u64 (loW (mnK (pK al ah bl bh) 2))) ∧ w'.frozen? ⟨Bl, 0, none⟩ = false ∧ w'.frozen? ⟨Bl, 1, none⟩ = false ∧ w'.cell? ⟨Bl + 1, 0, none⟩ = some (.int .i64 (hiW (mxK (pK al ah bl bh) 2))) ∧ w'.cell? ⟨Bl + 1, 1, none⟩ = some (.int .u64 (loW (mxK (pK al ah bl bh) 2))) ∧ w'.frozen? ⟨Bl + 1, 0, none⟩ = false ∧ w'.frozen? ⟨Bl + 1, 1, none⟩ = false)) (by kernel_rfl) (by (try dsimp only); (first | (exact ⟨hk1 _ _ _ (hOld.1), hk1 _ _ _ (hOld.2.1), hk1 _ _ _ (hOld.2.2.1), hk1 _ _ _ (hOld.2.2.2.1), hk1 _ _ _ (hOld.2.2.2.2.1), hk1 _ _ _ (hOld.2.2.2.2.2.1), hk1 _ _ _ (hOld.2.2.2.2.2.2.1), hk1 _ _ _ (hOld.2.2.2.2.2.2.2.1), hk1 _ _ _ (hOld.2.2.2.2.2.2.2.2.1), hk1 _ _ _ (hOld.2.2.2.2.2.2.2.2.2.1), hf1 _ _ _ (hOld.2.2.2.2.2.2.2.2.1) (hOld.2.2.2.2.2.2.2.2.2.2.1), hf1 _ _ _ (hOld.2.2.2.2.2.2.2.2.2.1) (hOld.2.2.2.2.2.2.2.2.2.2.2.1), hk1 _ _ _ (hOld.2.2.2.2.2.2.2.2.2.2.2.2.1), hk1 _ _ _ (hOld.2.2.2.2.2.2.2.2.2.2.2.2.2.1), hf1 _ _ _ (hOld.2.2.2.2.2.2.2.2.2.2.2.2.1) (hOld.2.2.2.2.2.2.2.2.2.2.2.2.2.2.1), hf1 _ _ _ (hOld.2.2.2.2.2.2.2.2.2.2.2.2.2.1) (hOld.2.2.2.2.2.2.2.2.2.2.2.2.2.2.2.1), hk1 _ _ _ (hOld.2.2.2.2.2.2.2.2.2.2.2.2.2.2.2.2.1), hk1 _ _ _ (hOld.2.2.2.2.2.2.2.2.2.2.2.2.2.2.2.2.2.1), hf1 _ _ _ (hOld.2.2.2.2.2.2.2.2.2.2.2.2.2.2.2.2.1) (hOld.2.2.2.2.2.2.2.2.2.2.2.2.2.2.2.2.2.2.1), hf1 _ _ _ (hOld.2.2.2.2.2.2.2.2.2.2.2.2.2.2.2.2.2.1) (hOld.2.2.2.2.2.2.2.2.2.2.2.2.2.2.2.2.2.2.2)⟩) | ((try simp only [World.cell?_drew, World.frozen?_drew]); (repeat' apply And.intro) <;> (first | (with_reducible assumption) | (with_reducible exact ⟨_, by assumption⟩) | (with_reducible exact ⟨_, two_other (by assumption) (by omega)⟩) | (with_reducible exact two_0 (by assumption)) | (with_reducible exact two_1 (by assumption)) | (with_reducible exact two_other (by assumption) (by omega)) | (with_reducible exact two_fz (by assumption)) | (with_reducible exact keepA _ (by assumption)) | (with_reducible exact keepA _ (keepA _ (keepA _ (by assumption)))) | (simp (maxDischargeDepth := 8) [*, go_sem, World.cell?_alloc_some, World.cell?_setCell_far]; done))) | (go_keep; done) | (simp (maxDischargeDepth := 8) [*, go_sem, World.cell?_alloc_some, World.cell?_setCell_far]; done))) (fun hHeld => ?_)
            (refine wpAnyH_take (i := 0) (oi := ⟨some 25, _, _, _, _, none⟩) (v := ?_) rfl (by kernel_rfl) (by kernel_rfl) (by kernel_rfl) (fun _ _ _ h => h) (Or.inl ⟨by rfl, ?_⟩) hHeld ?_; rotate_left; (· (intro w9 hSw; (try dsimp only at hSw); go_simp; (try with_reducible rfl))))
            (try simp only [Act.put, List.setIfInBounds_toArray, List.set_cons_zero, List.set_cons_succ])
            (refine wpAnyH_take (i := 1) (oi := ⟨some 26, _, _, _, _, none⟩) (v := ?_) rfl (by kernel_rfl) (by kernel_rfl) (by kernel_rfl) (fun _ _ _ h => h) (Or.inl ⟨by rfl, ?_⟩) hHeld ?_; rotate_left; (· (intro w9 hSw; (try dsimp only at hSw); go_simp; (try with_reducible rfl))))
            (try simp only [Act.put, List.setIfInBounds_toArray, List.set_cons_zero, List.set_cons_succ])
            (refine wpAnyH_take (i := 2) (oi := ⟨some 27, _, _, _, _, none⟩) (v := ?_) rfl (by kernel_rfl) (by kernel_rfl) (by kernel_rfl) (fun _ _ _ h => h) (Or.inl ⟨by rfl, ?_⟩) hHeld ?_; rotate_left; (· (intro w9 hSw; (try dsimp only at hSw); go_simp; (try with_reducible rfl))))
            (try simp only [Act.put, List.setIfInBounds_toArray, List.set_cons_zero, List.set_cons_succ])
            (refine wpAnyH_take (i := 3) (oi := ⟨some 28, _, _, _, _, none⟩) (v := ?_) rfl (by kernel_rfl) (by kernel_rfl) (by kernel_rfl) (fun _ _ _ h => h) (Or.inl ⟨by rfl, ?_⟩) hHeld ?_; rotate_left; (· (intro w9 hSw; (try dsimp only at hSw); go_simp; (try with_reducible rfl))))
            (try simp only [Act.put, List.setIfInBounds_toArray, List.set_cons_zero, List.set_cons_succ])
            (refine wpAnyH_take (i := 4) (oi := ⟨some 29, _, _, _, _, none⟩) (v := ?_) rfl (by kernel_rfl) (by kernel_rfl) (by kernel_rfl) (fun _ _ _ h => h) (Or.inl ⟨by rfl, ?_⟩) hHeld ?_; rotate_left; (· (intro w9 hSw; (try dsimp only at hSw); go_simp; (try with_reducible rfl))))
            (try simp only [Act.put, List.setIfInBounds_toArray, List.set_cons_zero, List.set_cons_succ])
            (refine wpAnyH_take (i := 5) (oi := ⟨some 30, _, _, _, _, none⟩) (v := ?_) rfl (by kernel_rfl) (by kernel_rfl) (by kernel_rfl) (fun _ _ _ h => h) (Or.inl ⟨by rfl, ?_⟩) hHeld ?_; rotate_left; (· (intro w9 hSw; (try dsimp only at hSw); go_simp; (try with_reducible rfl))))
            (try simp only [Act.put, List.setIfInBounds_toArray, List.set_cons_zero, List.set_cons_succ])
            (refine wpAnyH_take (i := 6) (oi := ⟨some 31, _, _, _, _, none⟩) (v := ?_) rfl (by kernel_rfl) (by kernel_rfl) (by kernel_rfl) (fun _ _ _ h => h) (Or.inl ⟨by rfl, ?_⟩) hHeld ?_; rotate_left; (· (intro w9 hSw; (try dsimp only at hSw); go_simp; (try with_reducible rfl))))
            (try simp only [Act.put, List.setIfInBounds_toArray, List.set_cons_zero, List.set_cons_succ])
            (refine wpAnyH_take (i := 7) (oi := ⟨some 32, _, _, _, _, none⟩) (v := ?_) rfl (by kernel_rfl) (by kernel_rfl) (by kernel_rfl) (fun _ _ _ h => h) (Or.inl ⟨by rfl, ?_⟩) hHeld ?_; rotate_left; (· (intro w9 hSw; (try dsimp only at hSw); go_simp; (try with_reducible rfl))))
            (try simp only [Act.put, List.setIfInBounds_toArray, List.set_cons_zero, List.set_cons_succ])
            (refine wpAnyH_take (i := 8) (oi := ⟨some 33, _, _, _, _, none⟩) (v := ?_) rfl (by kernel_rfl) (by kernel_rfl) (by kernel_rfl) (fun _ _ _ h => h) (Or.inl ⟨by rfl, ?_⟩) hHeld ?_; rotate_left; (· (intro w9 hSw; (try dsimp only at hSw); go_simp; (try with_reducible rfl))))
            (try simp only [Act.put, List.setIfInBounds_toArray, List.set_cons_zero, List.set_cons_succ])
            (refine wpAnyH_take (i := 9) (oi := ⟨some 34, _, _, _, _, none⟩) (v := ?_) rfl (by kernel_rfl) (by kernel_rfl) (by kernel_rfl) (fun _ _ _ h => h) (Or.inl ⟨by rfl, ?_⟩) hHeld ?_; rotate_left; (· (intro w9 hSw; (try dsimp only at hSw); go_simp; (try with_reducible rfl))))
            (try simp only [Act.put, List.setIfInBounds_toArray, List.set_cons_zero, List.set_cons_succ])
            refine wpAnyH_ready (rs := [10, 11]) (by kernel_rfl) (by simp) ?_
            refine AllReadyH.cons (o := ⟨some 35, _, _, _, _, none⟩) rfl (fun K hK => ?_) (AllReadyH.cons (o := ⟨some 10, _, _, _, _, none⟩) rfl (fun K hK => ?_) (AllReadyH.nil))
            ·
              go_simp
              (first | (go_at_call 91; refine useF w (times_any ah bl _ (by omega)) (by go_grown) ?_; rintro e w_r_1 rfl hB_1 hk_1 hf_1 hs_1; have hz_1 := hB_1.size))
              have hOld := hHeld; clear hHeld; refine hK.out _ _ ?_ (fun hHeld => ?_); (· ((try dsimp only); (first | (exact ⟨hk_1 _ _ _ (hOld.1), hk_1 _ _ _ (hOld.2.1), hk_1 _ _ _ (hOld.2.2.1), hk_1 _ _ _ (hOld.2.2.2.1), hk_1 _ _ _ (hOld.2.2.2.2.1), hk_1 _ _ _ (hOld.2.2.2.2.2.1), hk_1 _ _ _ (hOld.2.2.2.2.2.2.1), hk_1 _ _ _ (hOld.2.2.2.2.2.2.2.1), hk_1 _ _ _ (hOld.2.2.2.2.2.2.2.2.1), hk_1 _ _ _ (hOld.2.2.2.2.2.2.2.2.2.1), hf_1 _ _ _ (hOld.2.2.2.2.2.2.2.2.1) (hOld.2.2.2.2.2.2.2.2.2.2.1), hf_1 _ _ _ (hOld.2.2.2.2.2.2.2.2.2.1) (hOld.2.2.2.2.2.2.2.2.2.2.2.1), hk_1 _ _ _ (hOld.2.2.2.2.2.2.2.2.2.2.2.2.1), hk_1 _ _ _ (hOld.2.2.2.2.2.2.2.2.2.2.2.2.2.1), hf_1 _ _ _ (hOld.2.2.2.2.2.2.2.2.2.2.2.2.1) (hOld.2.2.2.2.2.2.2.2.2.2.2.2.2.2.1), hf_1 _ _ _ (hOld.2.2.2.2.2.2.2.2.2.2.2.2.2.1) (hOld.2.2.2.2.2.2.2.2.2.2.2.2.2.2.2.1), hk_1 _ _ _ (hOld.2.2.2.2.2.2.2.2.2.2.2.2.2.2.2.2.1), hk_1 _ _ _ (hOld.2.2.2.2.2.2.2.2.2.2.2.2.2.2.2.2.2.1), hf_1 _ _ _ (hOld.2.2.2.2.2.2.2.2.2.2.2.2.2.2.2.2.1) (hOld.2.2.2.2.2.2.2.2.2.2.2.2.2.2.2.2.2.2.1), hf_1 _ _ _ (hOld.2.2.2.2.2.2.2.2.2.2.2.2.2.2.2.2.2.1) (hOld.2.2.2.2.2.2.2.2.2.2.2.2.2.2.2.2.2.2.2)⟩) | ((try simp only [World.cell?_drew, World.frozen?_drew]); (repeat' apply And.intro) <;> (first | (with_reducible assumption) | (with_reducible exact ⟨_, by assumption⟩) | (with_reducible exact ⟨_, two_other (by assumption) (by omega)⟩) | (with_reducible exact two_0 (by assumption)) | (with_reducible exact two_1 (by assumption)) | (with_reducible exact two_other (by assumption) (by omega)) | (with_reducible exact two_fz (by assumption)) | (with_reducible exact keepA _ (by assumption)) | (with_reducible exact keepA _ (keepA _ (keepA _ (by assumption)))) | (simp (maxDischargeDepth := 8) [*, go_sem, World.cell?_alloc_some, World.cell?_setCell_far]; done))) | (go_keep; done) | (simp (maxDischargeDepth := 8) [*, go_sem, World.cell?_alloc_some, World.cell?_setCell_far]; done)))); clear hK K hOld
              clear hk_1 hf_1
              (try simp only [Act.put, List.setIfInBounds_toArray, List.set_cons_zero, List.set_cons_succ])
              refine wpAnyH_ready (rs := [11]) (by kernel_rfl) (by simp) ?_
              refine AllReadyH.cons (o := ⟨some 10, _, _, _, _, none⟩) rfl (fun K hK => ?_) (AllReadyH.nil)
              (try dsimp only at hHeld); have g0 := hHeld.1; have g1 := hHeld.2.1; have g2 := hHeld.2.2.1; have g3 := hHeld.2.2.2.1; have g4 := hHeld.2.2.2.2.1; have g5 := hHeld.2.2.2.2.2.1; have g6 := hHeld.2.2.2.2.2.2.1; have g7 := hHeld.2.2.2.2.2.2.2.1; have g8 := hHeld.2.2.2.2.2.2.2.2.1; have g9 := hHeld.2.2.2.2.2.2.2.2.2.1; have g10 := hHeld.2.2.2.2.2.2.2.2.2.2.1; have g11 := hHeld.2.2.2.2.2.2.2.2.2.2.2.1; have g12 := hHeld.2.2.2.2.2.2.2.2.2.2.2.2.1; have g13 := hHeld.2.2.2.2.2.2.2.2.2.2.2.2.2.1; have g14 := hHeld.2.2.2.2.2.2.2.2.2.2.2.2.2.2.1; have g15 := hHeld.2.2.2.2.2.2.2.2.2.2.2.2.2.2.2.1; have g16 := hHeld.2.2.2.2.2.2.2.2.2.2.2.2.2.2.2.2.1; have g17 := hHeld.2.2.2.2.2.2.2.2.2.2.2.2.2.2.2.2.2.1; have g18 := hHeld.2.2.2.2.2.2.2.2.2.2.2.2.2.2.2.2.2.2.1; have g19 := hHeld.2.2.2.2.2.2.2.2.2.2.2.2.2.2.2.2.2.2.2
              have hlt0 : B < w_r_1.heap.size := World.block_lt_of_cell? _ ⟨B, 0, none⟩ g0
              have hne0 : B ≠ w_r_1.heap.size := by omega
              have hnf0 := hne0.symm
              have hlt1 : Z < w_r_1.heap.size := World.block_lt_of_cell? _ ⟨Z, 0, none⟩ g8
              have hne1 : Z ≠ w_r_1.heap.size := by omega
              have hnf1 := hne1.symm
              have hlt2 : Bl < w_r_1.heap.size := World.block_lt_of_cell? _ ⟨Bl, 0, none⟩ g12
              have hne2 : Bl ≠ w_r_1.heap.size := by omega
              have hnf2 := hne2.symm
              have hlt3 : Bl + 1 < w_r_1.heap.size := World.block_lt_of_cell? _ ⟨Bl + 1, 0, none⟩ g16
              have hne3 : Bl + 1 ≠ w_r_1.heap.size := by omega
              have hnf3 := hne3.symm
              have q0 : ((w_r_1).alloc (Obj.cells #[.int .i64 0, .int .u64 0] 78)).cell? ⟨w_r_1.heap.size, 0, none⟩ = some (.int .i64 0) := by simp [go_sem]
              have qf0 : ((w_r_1).alloc (Obj.cells #[.int .i64 0, .int .u64 0] 78)).frozen? ⟨w_r_1.heap.size, 0, none⟩ = false := by simp [go_sem]
              have q1 : ((w_r_1).alloc (Obj.cells #[.int .i64 0, .int .u64 0] 78)).cell? ⟨w_r_1.heap.size, 1, none⟩ = some (.int .u64 0) := by simp [go_sem]
              have qf1 : ((w_r_1).alloc (Obj.cells #[.int .i64 0, .int .u64 0] 78)).frozen? ⟨w_r_1.heap.size, 1, none⟩ = false := by simp [go_sem]
              clear hHeld; go_simp; refine hK.out _ _ ?_ (fun hHeld => ?_); (· ((try dsimp only); (first | (exact ⟨hk1 _ _ _ (hOld.1), hk1 _ _ _ (hOld.2.1), hk1 _ _ _ (hOld.2.2.1), hk1 _ _ _ (hOld.2.2.2.1), hk1 _ _ _ (hOld.2.2.2.2.1), hk1 _ _ _ (hOld.2.2.2.2.2.1), hk1 _ _ _ (hOld.2.2.2.2.2.2.1), hk1 _ _ _ (hOld.2.2.2.2.2.2.2.1), hk1 _ _ _ (hOld.2.2.2.2.2.2.2.2.1), hk1 _ _ _ (hOld.2.2.2.2.2.2.2.2.2.1), hf1 _ _ _ (hOld.2.2.2.2.2.2.2.2.1) (hOld.2.2.2.2.2.2.2.2.2.2.1), hf1 _ _ _ (hOld.2.2.2.2.2.2.2.2.2.1) (hOld.2.2.2.2.2.2.2.2.2.2.2.1), hk1 _ _ _ (hOld.2.2.2.2.2.2.2.2.2.2.2.2.1), hk1 _ _ _ (hOld.2.2.2.2.2.2.2.2.2.2.2.2.2.1), hf1 _ _ _ (hOld.2.2.2.2.2.2.2.2.2.2.2.2.1) (hOld.2.2.2.2.2.2.2.2.2.2.2.2.2.2.1), hf1 _ _ _ (hOld.2.2.2.2.2.2.2.2.2.2.2.2.2.1) (hOld.2.2.2.2.2.2.2.2.2.2.2.2.2.2.2.1), hk1 _ _ _ (hOld.2.2.2.2.2.2.2.2.2.2.2.2.2.2.2.2.1), hk1 _ _ _ (hOld.2.2.2.2.2.2.2.2.2.2.2.2.2.2.2.2.2.1), hf1 _ _ _ (hOld.2.2.2.2.2.2.2.2.2.2.2.2.2.2.2.2.1) (hOld.2.2.2.2.2.2.2.2.2.2.2.2.2.2.2.2.2.2.1), hf1 _ _ _ (hOld.2.2.2.2.2.2.2.2.2.2.2.2.2.2.2.2.2.1) (hOld.2.2.2.2.2.2.2.2.2.2.2.2.2.2.2.2.2.2.2)⟩) | ((try simp only [World.cell?_drew, World.frozen?_drew]); (repeat' apply And.intro) <;> (first | (with_reducible assumption) | (with_reducible exact ⟨_, by assumption⟩) | (with_reducible exact ⟨_, two_other (by assumption) (by omega)⟩) | (with_reducible exact two_0 (by assumption)) | (with_reducible exact two_1 (by assumption)) | (with_reducible exact two_other (by assumption) (by omega)) | (with_reducible exact two_fz (by assumption)) | (with_reducible exact keepA _ (by assumption)) | (with_reducible exact keepA _ (keepA _ (keepA _ (by assumption)))) | (simp (maxDischargeDepth := 8) [*, go_sem, World.cell?_alloc_some, World.cell?_setCell_far]; done))) | (go_keep; done) | (simp (maxDischargeDepth := 8) [*, go_sem, World.cell?_alloc_some, World.cell?_setCell_far]; done)))); clear hK K
              (try simp only [Act.put, List.setIfInBounds_toArray, List.set_cons_zero, List.set_cons_succ])
              refine wpAnyH_ready (rs := [12]) (by kernel_rfl) (by simp) ?_
              refine AllReadyH.cons (o := ⟨none, _, _, _, _, none⟩) rfl (fun K hK => ?_) (AllReadyH.nil)
              (try dsimp only at hHeld); have g0 := hHeld.1; have g1 := hHeld.2.1; have g2 := hHeld.2.2.1; have g3 := hHeld.2.2.2.1; have g4 := hHeld.2.2.2.2.1; have g5 := hHeld.2.2.2.2.2.1; have g6 := hHeld.2.2.2.2.2.2.1; have g7 := hHeld.2.2.2.2.2.2.2.1; have g8 := hHeld.2.2.2.2.2.2.2.2.1; have g9 := hHeld.2.2.2.2.2.2.2.2.2.1; have g10 := hHeld.2.2.2.2.2.2.2.2.2.2.1; have g11 := hHeld.2.2.2.2.2.2.2.2.2.2.2.1; have g12 := hHeld.2.2.2.2.2.2.2.2.2.2.2.2.1; have g13 := hHeld.2.2.2.2.2.2.2.2.2.2.2.2.2.1; have g14 := hHeld.2.2.2.2.2.2.2.2.2.2.2.2.2.2.1; have g15 := hHeld.2.2.2.2.2.2.2.2.2.2.2.2.2.2.2.1; have g16 := hHeld.2.2.2.2.2.2.2.2.2.2.2.2.2.2.2.2.1; have g17 := hHeld.2.2.2.2.2.2.2.2.2.2.2.2.2.2.2.2.2.1; have g18 := hHeld.2.2.2.2.2.2.2.2.2.2.2.2.2.2.2.2.2.2.1; have g19 := hHeld.2.2.2.2.2.2.2.2.2.2.2.2.2.2.2.2.2.2.2; clear hHeld; go_simp; refine hK.out _ _ ?_ (fun hHeld => ?_); (· ((try dsimp only); (first | (exact ⟨hk1 _ _ _ (hOld.1), hk1 _ _ _ (hOld.2.1), hk1 _ _ _ (hOld.2.2.1), hk1 _ _ _ (hOld.2.2.2.1), hk1 _ _ _ (hOld.2.2.2.2.1), hk1 _ _ _ (hOld.2.2.2.2.2.1), hk1 _ _ _ (hOld.2.2.2.2.2.2.1), hk1 _ _ _ (hOld.2.2.2.2.2.2.2.1), hk1 _ _ _ (hOld.2.2.2.2.2.2.2.2.1), hk1 _ _ _ (hOld.2.2.2.2.2.2.2.2.2.1), hf1 _ _ _ (hOld.2.2.2.2.2.2.2.2.1) (hOld.2.2.2.2.2.2.2.2.2.2.1), hf1 _ _ _ (hOld.2.2.2.2.2.2.2.2.2.1) (hOld.2.2.2.2.2.2.2.2.2.2.2.1), hk1 _ _ _ (hOld.2.2.2.2.2.2.2.2.2.2.2.2.1), hk1 _ _ _ (hOld.2.2.2.2.2.2.2.2.2.2.2.2.2.1), hf1 _ _ _ (hOld.2.2.2.2.2.2.2.2.2.2.2.2.1) (hOld.2.2.2.2.2.2.2.2.2.2.2.2.2.2.1), hf1 _ _ _ (hOld.2.2.2.2.2.2.2.2.2.2.2.2.2.1) (hOld.2.2.2.2.2.2.2.2.2.2.2.2.2.2.2.1), hk1 _ _ _ (hOld.2.2.2.2.2.2.2.2.2.2.2.2.2.2.2.2.1), hk1 _ _ _ (hOld.2.2.2.2.2.2.2.2.2.2.2.2.2.2.2.2.2.1), hf1 _ _ _ (hOld.2.2.2.2.2.2.2.2.2.2.2.2.2.2.2.2.1) (hOld.2.2.2.2.2.2.2.2.2.2.2.2.2.2.2.2.2.2.1), hf1 _ _ _ (hOld.2.2.2.2.2.2.2.2.2.2.2.2.2.2.2.2.2.1) (hOld.2.2.2.2.2.2.2.2.2.2.2.2.2.2.2.2.2.2.2)⟩) | ((try simp only [World.cell?_drew, World.frozen?_drew]); (repeat' apply And.intro) <;> (first | (with_reducible assumption) | (with_reducible exact ⟨_, by assumption⟩) | (with_reducible exact ⟨_, two_other (by assumption) (by omega)⟩) | (with_reducible exact two_0 (by assumption)) | (with_reducible exact two_1 (by assumption)) | (with_reducible exact two_other (by assumption) (by omega)) | (with_reducible exact two_fz (by assumption)) | (with_reducible exact keepA _ (by assumption)) | (with_reducible exact keepA _ (keepA _ (keepA _ (by assumption)))) | (simp (maxDischargeDepth := 8) [*, go_sem, World.cell?_alloc_some, World.cell?_setCell_far]; done))) | (go_keep; done) | (simp (maxDischargeDepth := 8) [*, go_sem, World.cell?_alloc_some, World.cell?_setCell_far]; done)))); clear hK K
              (try simp only [Act.put, List.setIfInBounds_toArray, List.set_cons_zero, List.set_cons_succ])
              refine wpAnyH_done (by kernel_rfl) ?_ _
              go_wp2_with fail
              go_meet
              exact ⟨_, rfl, by omega, hHeld, by first | exact two_0 q0 | (simp [go_sem]; done) | (simp [go_sem]; rfl), by first | exact two_1 q1 | (simp [go_sem]; done) | (simp [go_sem]; rfl), by go_grown⟩
            ·
              (try dsimp only at hHeld); have g0 := hHeld.1; have g1 := hHeld.2.1; have g2 := hHeld.2.2.1; have g3 := hHeld.2.2.2.1; have g4 := hHeld.2.2.2.2.1; have g5 := hHeld.2.2.2.2.2.1; have g6 := hHeld.2.2.2.2.2.2.1; have g7 := hHeld.2.2.2.2.2.2.2.1; have g8 := hHeld.2.2.2.2.2.2.2.2.1; have g9 := hHeld.2.2.2.2.2.2.2.2.2.1; have g10 := hHeld.2.2.2.2.2.2.2.2.2.2.1; have g11 := hHeld.2.2.2.2.2.2.2.2.2.2.2.1; have g12 := hHeld.2.2.2.2.2.2.2.2.2.2.2.2.1; have g13 := hHeld.2.2.2.2.2.2.2.2.2.2.2.2.2.1; have g14 := hHeld.2.2.2.2.2.2.2.2.2.2.2.2.2.2.1; have g15 := hHeld.2.2.2.2.2.2.2.2.2.2.2.2.2.2.2.1; have g16 := hHeld.2.2.2.2.2.2.2.2.2.2.2.2.2.2.2.2.1; have g17 := hHeld.2.2.2.2.2.2.2.2.2.2.2.2.2.2.2.2.2.1; have g18 := hHeld.2.2.2.2.2.2.2.2.2.2.2.2.2.2.2.2.2.2.1; have g19 := hHeld.2.2.2.2.2.2.2.2.2.2.2.2.2.2.2.2.2.2.2
              have hlt0 : B < wr.heap.size := World.block_lt_of_cell? _ ⟨B, 0, none⟩ g0
              have hne0 : B ≠ wr.heap.size := by omega
              have hnf0 := hne0.symm
              have hlt1 : Z < wr.heap.size := World.block_lt_of_cell? _ ⟨Z, 0, none⟩ g8
              have hne1 : Z ≠ wr.heap.size := by omega
              have hnf1 := hne1.symm
              have hlt2 : Bl < wr.heap.size := World.block_lt_of_cell? _ ⟨Bl, 0, none⟩ g12
              have hne2 : Bl ≠ wr.heap.size := by omega
              have hnf2 := hne2.symm
              have hlt3 : Bl + 1 < wr.heap.size := World.block_lt_of_cell? _ ⟨Bl + 1, 0, none⟩ g16
              have hne3 : Bl + 1 ≠ wr.heap.size := by omega
              have hnf3 := hne3.symm
              have q0 : ((wr.drew).alloc (Obj.cells #[.int .i64 0, .int .u64 0] 78)).cell? ⟨wr.heap.size, 0, none⟩ = some (.int .i64 0) := by simp [go_sem]
              have qf0 : ((wr.drew).alloc (Obj.cells #[.int .i64 0, .int .u64 0] 78)).frozen? ⟨wr.heap.size, 0, none⟩ = false := by simp [go_sem]
              have q1 : ((wr.drew).alloc (Obj.cells #[.int .i64 0, .int .u64 0] 78)).cell? ⟨wr.heap.size, 1, none⟩ = some (.int .u64 0) := by simp [go_sem]
              have qf1 : ((wr.drew).alloc (Obj.cells #[.int .i64 0, .int .u64 0] 78)).frozen? ⟨wr.heap.size, 1, none⟩ = false := by simp [go_sem]
              clear hHeld; go_simp; refine hK.out _ _ ?_ (fun hHeld => ?_); (· ((try dsimp only); (first | (exact ⟨hk1 _ _ _ (hOld.1), hk1 _ _ _ (hOld.2.1), hk1 _ _ _ (hOld.2.2.1), hk1 _ _ _ (hOld.2.2.2.1), hk1 _ _ _ (hOld.2.2.2.2.1), hk1 _ _ _ (hOld.2.2.2.2.2.1), hk1 _ _ _ (hOld.2.2.2.2.2.2.1), hk1 _ _ _ (hOld.2.2.2.2.2.2.2.1), hk1 _ _ _ (hOld.2.2.2.2.2.2.2.2.1), hk1 _ _ _ (hOld.2.2.2.2.2.2.2.2.2.1), hf1 _ _ _ (hOld.2.2.2.2.2.2.2.2.1) (hOld.2.2.2.2.2.2.2.2.2.2.1), hf1 _ _ _ (hOld.2.2.2.2.2.2.2.2.2.1) (hOld.2.2.2.2.2.2.2.2.2.2.2.1), hk1 _ _ _ (hOld.2.2.2.2.2.2.2.2.2.2.2.2.1), hk1 _ _ _ (hOld.2.2.2.2.2.2.2.2.2.2.2.2.2.1), hf1 _ _ _ (hOld.2.2.2.2.2.2.2.2.2.2.2.2.1) (hOld.2.2.2.2.2.2.2.2.2.2.2.2.2.2.1), hf1 _ _ _ (hOld.2.2.2.2.2.2.2.2.2.2.2.2.2.1) (hOld.2.2.2.2.2.2.2.2.2.2.2.2.2.2.2.1), hk1 _ _ _ (hOld.2.2.2.2.2.2.2.2.2.2.2.2.2.2.2.2.1), hk1 _ _ _ (hOld.2.2.2.2.2.2.2.2.2.2.2.2.2.2.2.2.2.1), hf1 _ _ _ (hOld.2.2.2.2.2.2.2.2.2.2.2.2.2.2.2.2.1) (hOld.2.2.2.2.2.2.2.2.2.2.2.2.2.2.2.2.2.2.1), hf1 _ _ _ (hOld.2.2.2.2.2.2.2.2.2.2.2.2.2.2.2.2.2.1) (hOld.2.2.2.2.2.2.2.2.2.2.2.2.2.2.2.2.2.2.2)⟩) | ((try simp only [World.cell?_drew, World.frozen?_drew]); (repeat' apply And.intro) <;> (first | (with_reducible assumption) | (with_reducible exact ⟨_, by assumption⟩) | (with_reducible exact ⟨_, two_other (by assumption) (by omega)⟩) | (with_reducible exact two_0 (by assumption)) | (with_reducible exact two_1 (by assumption)) | (with_reducible exact two_other (by assumption) (by omega)) | (with_reducible exact two_fz (by assumption)) | (with_reducible exact keepA _ (by assumption)) | (with_reducible exact keepA _ (keepA _ (keepA _ (by assumption)))) | (simp (maxDischargeDepth := 8) [*, go_sem, World.cell?_alloc_some, World.cell?_setCell_far]; done))) | (go_keep; done) | (simp (maxDischargeDepth := 8) [*, go_sem, World.cell?_alloc_some, World.cell?_setCell_far]; done)))); clear hK K
              (try simp only [Act.put, List.setIfInBounds_toArray, List.set_cons_zero, List.set_cons_succ])
              refine wpAnyH_ready (rs := [10]) (by kernel_rfl) (by simp) ?_
              refine AllReadyH.cons (o := ⟨some 35, _, _, _, _, none⟩) rfl (fun K hK => ?_) (AllReadyH.nil)
              go_simp
              (first | (go_at_call 91; refine useF w (times_any ah bl _ (by omega)) (by go_grown) ?_; rintro e w_r_1 rfl hB_1 hk_1 hf_1 hs_1; have hz_1 := hB_1.size))
              have hOld := hHeld; clear hHeld; refine hK.out _ _ ?_ (fun hHeld => ?_); (· ((try dsimp only); (first | (exact ⟨hk_1 _ _ _ (hOld.1), hk_1 _ _ _ (hOld.2.1), hk_1 _ _ _ (hOld.2.2.1), hk_1 _ _ _ (hOld.2.2.2.1), hk_1 _ _ _ (hOld.2.2.2.2.1), hk_1 _ _ _ (hOld.2.2.2.2.2.1), hk_1 _ _ _ (hOld.2.2.2.2.2.2.1), hk_1 _ _ _ (hOld.2.2.2.2.2.2.2.1), hk_1 _ _ _ (hOld.2.2.2.2.2.2.2.2.1), hk_1 _ _ _ (hOld.2.2.2.2.2.2.2.2.2.1), hf_1 _ _ _ (hOld.2.2.2.2.2.2.2.2.1) (hOld.2.2.2.2.2.2.2.2.2.2.1), hf_1 _ _ _ (hOld.2.2.2.2.2.2.2.2.2.1) (hOld.2.2.2.2.2.2.2.2.2.2.2.1), hk_1 _ _ _ (hOld.2.2.2.2.2.2.2.2.2.2.2.2.1), hk_1 _ _ _ (hOld.2.2.2.2.2.2.2.2.2.2.2.2.2.1), hf_1 _ _ _ (hOld.2.2.2.2.2.2.2.2.2.2.2.2.1) (hOld.2.2.2.2.2.2.2.2.2.2.2.2.2.2.1), hf_1 _ _ _ (hOld.2.2.2.2.2.2.2.2.2.2.2.2.2.1) (hOld.2.2.2.2.2.2.2.2.2.2.2.2.2.2.2.1), hk_1 _ _ _ (hOld.2.2.2.2.2.2.2.2.2.2.2.2.2.2.2.2.1), hk_1 _ _ _ (hOld.2.2.2.2.2.2.2.2.2.2.2.2.2.2.2.2.2.1), hf_1 _ _ _ (hOld.2.2.2.2.2.2.2.2.2.2.2.2.2.2.2.2.1) (hOld.2.2.2.2.2.2.2.2.2.2.2.2.2.2.2.2.2.2.1), hf_1 _ _ _ (hOld.2.2.2.2.2.2.2.2.2.2.2.2.2.2.2.2.2.1) (hOld.2.2.2.2.2.2.2.2.2.2.2.2.2.2.2.2.2.2.2)⟩) | ((try simp only [World.cell?_drew, World.frozen?_drew]); (repeat' apply And.intro) <;> (first | (with_reducible assumption) | (with_reducible exact ⟨_, by assumption⟩) | (with_reducible exact ⟨_, two_other (by assumption) (by omega)⟩) | (with_reducible exact two_0 (by assumption)) | (with_reducible exact two_1 (by assumption)) | (with_reducible exact two_other (by assumption) (by omega)) | (with_reducible exact two_fz (by assumption)) | (with_reducible exact keepA _ (by assumption)) | (with_reducible exact keepA _ (keepA _ (keepA _ (by assumption)))) | (simp (maxDischargeDepth := 8) [*, go_sem, World.cell?_alloc_some, World.cell?_setCell_far]; done))) | (go_keep; done) | (simp (maxDischargeDepth := 8) [*, go_sem, World.cell?_alloc_some, World.cell?_setCell_far]; done)))); clear hK K hOld
              have qf0 := hf_1 _ _ _ q0 qf0
              have qf1 := hf_1 _ _ _ q1 qf1
              have q0 := hk_1 _ _ _ q0
              have q1 := hk_1 _ _ _ q1
              clear hk_1 hf_1
              (try simp only [Act.put, List.setIfInBounds_toArray, List.set_cons_zero, List.set_cons_succ])
              refine wpAnyH_ready (rs := [12]) (by kernel_rfl) (by simp) ?_
              refine AllReadyH.cons (o := ⟨none, _, _, _, _, none⟩) rfl (fun K hK => ?_) (AllReadyH.nil)
              (try dsimp only at hHeld); have g0 := hHeld.1; have g1 := hHeld.2.1; have g2 := hHeld.2.2.1; have g3 := hHeld.2.2.2.1; have g4 := hHeld.2.2.2.2.1; have g5 := hHeld.2.2.2.2.2.1; have g6 := hHeld.2.2.2.2.2.2.1; have g7 := hHeld.2.2.2.2.2.2.2.1; have g8 := hHeld.2.2.2.2.2.2.2.2.1; have g9 := hHeld.2.2.2.2.2.2.2.2.2.1; have g10 := hHeld.2.2.2.2.2.2.2.2.2.2.1; have g11 := hHeld.2.2.2.2.2.2.2.2.2.2.2.1; have g12 := hHeld.2.2.2.2.2.2.2.2.2.2.2.2.1; have g13 := hHeld.2.2.2.2.2.2.2.2.2.2.2.2.2.1; have g14 := hHeld.2.2.2.2.2.2.2.2.2.2.2.2.2.2.1; have g15 := hHeld.2.2.2.2.2.2.2.2.2.2.2.2.2.2.2.1; have g16 := hHeld.2.2.2.2.2.2.2.2.2.2.2.2.2.2.2.2.1; have g17 := hHeld.2.2.2.2.2.2.2.2.2.2.2.2.2.2.2.2.2.1; have g18 := hHeld.2.2.2.2.2.2.2.2.2.2.2.2.2.2.2.2.2.2.1; have g19 := hHeld.2.2.2.2.2.2.2.2.2.2.2.2.2.2.2.2.2.2.2; clear hHeld; go_simp; refine hK.out _ _ ?_ (fun hHeld => ?_); (· ((try dsimp only); (first | (exact ⟨hk1 _ _ _ (hOld.1), hk1 _ _ _ (hOld.2.1), hk1 _ _ _ (hOld.2.2.1), hk1 _ _ _ (hOld.2.2.2.1), hk1 _ _ _ (hOld.2.2.2.2.1), hk1 _ _ _ (hOld.2.2.2.2.2.1), hk1 _ _ _ (hOld.2.2.2.2.2.2.1), hk1 _ _ _ (hOld.2.2.2.2.2.2.2.1), hk1 _ _ _ (hOld.2.2.2.2.2.2.2.2.1), hk1 _ _ _ (hOld.2.2.2.2.2.2.2.2.2.1), hf1 _ _ _ (hOld.2.2.2.2.2.2.2.2.1) (hOld.2.2.2.2.2.2.2.2.2.2.1), hf1 _ _ _ (hOld.2.2.2.2.2.2.2.2.2.1) (hOld.2.2.2.2.2.2.2.2.2.2.2.1), hk1 _ _ _ (hOld.2.2.2.2.2.2.2.2.2.2.2.2.1), hk1 _ _ _ (hOld.2.2.2.2.2.2.2.2.2.2.2.2.2.1), hf1 _ _ _ (hOld.2.2.2.2.2.2.2.2.2.2.2.2.1) (hOld.2.2.2.2.2.2.2.2.2.2.2.2.2.2.1), hf1 _ _ _ (hOld.2.2.2.2.2.2.2.2.2.2.2.2.2.1) (hOld.2.2.2.2.2.2.2.2.2.2.2.2.2.2.2.1), hk1 _ _ _ (hOld.2.2.2.2.2.2.2.2.2.2.2.2.2.2.2.2.1), hk1 _ _ _ (hOld.2.2.2.2.2.2.2.2.2.2.2.2.2.2.2.2.2.1), hf1 _ _ _ (hOld.2.2.2.2.2.2.2.2.2.2.2.2.2.2.2.2.1) (hOld.2.2.2.2.2.2.2.2.2.2.2.2.2.2.2.2.2.2.1), hf1 _ _ _ (hOld.2.2.2.2.2.2.2.2.2.2.2.2.2.2.2.2.2.1) (hOld.2.2.2.2.2.2.2.2.2.2.2.2.2.2.2.2.2.2.2)⟩) | ((try simp only [World.cell?_drew, World.frozen?_drew]); (repeat' apply And.intro) <;> (first | (with_reducible assumption) | (with_reducible exact ⟨_, by assumption⟩) | (with_reducible exact ⟨_, two_other (by assumption) (by omega)⟩) | (with_reducible exact two_0 (by assumption)) | (with_reducible exact two_1 (by assumption)) | (with_reducible exact two_other (by assumption) (by omega)) | (with_reducible exact two_fz (by assumption)) | (with_reducible exact keepA _ (by assumption)) | (with_reducible exact keepA _ (keepA _ (keepA _ (by assumption)))) | (simp (maxDischargeDepth := 8) [*, go_sem, World.cell?_alloc_some, World.cell?_setCell_far]; done))) | (go_keep; done) | (simp (maxDischargeDepth := 8) [*, go_sem, World.cell?_alloc_some, World.cell?_setCell_far]; done)))); clear hK K
              (try simp only [Act.put, List.setIfInBounds_toArray, List.set_cons_zero, List.set_cons_succ])
              refine wpAnyH_done (by kernel_rfl) ?_ _
              go_wp2_with fail
              go_meet
              exact ⟨_, rfl, by omega, hHeld, by first | exact two_0 q0 | (simp [go_sem]; done) | (simp [go_sem]; rfl), by first | exact two_1 q1 | (simp [go_sem]; done) | (simp [go_sem]; rfl), by go_grown⟩
          · skip
            refine wp_region_held_drew (S := (fun w' => w'.cell? ⟨B, 0, none⟩ = some (.int .i64 al) ∧ w'.cell? ⟨B, 1, none⟩ = some (.int .i64 bl) ∧ w'.cell? ⟨B, 2, none⟩ = some (.int .i64 al) ∧ w'.cell? ⟨B, 3, none⟩ = some (.int .i64 bh) ∧ w'.cell? ⟨B, 4, none⟩ = some (.int .i64 ah) ∧ w'.cell? ⟨B, 5, none⟩ = some (.int .i64 bl) ∧ w'.cell? ⟨B, 6, none⟩ = some (.int .i64 ah) ∧ w'.cell? ⟨B, 7, none⟩ = some (.int .i64 bh) ∧ w'.cell? ⟨Z, 0, none⟩ = some (.int .i64 0) ∧ w'.cell? ⟨Z, 1, none⟩ = some (.int .i64 0) ∧ w'.frozen? ⟨Z, 0, none⟩ = false ∧ w'.frozen? ⟨Z, 1, none⟩ = false ∧ w'.cell? ⟨Bl, 0, none⟩ = some (.int .i64 (hiW (mnK (pK al ah bl bh) 3))) ∧ w'.cell? ⟨Bl, 1, none⟩ = some (.int .u64 (loW (mnK (pK al ah bl bh) 3))) ∧ w'.frozen? ⟨Bl, 0, none⟩ = false ∧ w'.frozen? ⟨Bl, 1, none⟩ = false ∧ w'.cell? ⟨Bl + 1, 0, none⟩ = some (.int .i64 (hiW (mxK (pK al ah bl bh) 3))) ∧ w'.cell? ⟨Bl + 1, 1, none⟩ = some (.int .u64 (loW (mxK (pK al ah bl bh) 3))) ∧ w'.frozen? ⟨Bl + 1, 0, none⟩ = false ∧ w'.frozen? ⟨Bl + 1, 1, none⟩ = false)) (by kernel_rfl) (by (try dsimp only); (first | (exact ⟨hk1 _ _ _ (hOld.1), hk1 _ _ _ (hOld.2.1), hk1 _ _ _ (hOld.2.2.1), hk1 _ _ _ (hOld.2.2.2.1), hk1 _ _ _ (hOld.2.2.2.2.1), hk1 _ _ _ (hOld.2.2.2.2.2.1), hk1 _ _ _ (hOld.2.2.2.2.2.2.1), hk1 _ _ _ (hOld.2.2.2.2.2.2.2.1), hk1 _ _ _ (hOld.2.2.2.2.2.2.2.2.1), hk1 _ _ _ (hOld.2.2.2.2.2.2.2.2.2.1), hf1 _ _ _ (hOld.2.2.2.2.2.2.2.2.1) (hOld.2.2.2.2.2.2.2.2.2.2.1), hf1 _ _ _ (hOld.2.2.2.2.2.2.2.2.2.1) (hOld.2.2.2.2.2.2.2.2.2.2.2.1), hk1 _ _ _ (hOld.2.2.2.2.2.2.2.2.2.2.2.2.1), hk1 _ _ _ (hOld.2.2.2.2.2.2.2.2.2.2.2.2.2.1), hf1 _ _ _ (hOld.2.2.2.2.2.2.2.2.2.2.2.2.1) (hOld.2.2.2.2.2.2.2.2.2.2.2.2.2.2.1), hf1 _ _ _ (hOld.2.2.2.2.2.2.2.2.2.2.2.2.2.1) (hOld.2.2.2.2.2.2.2.2.2.2.2.2.2.2.2.1), hk1 _ _ _ (hOld.2.2.2.2.2.2.2.2.2.2.2.2.2.2.2.2.1), hk1 _ _ _ (hOld.2.2.2.2.2.2.2.2.2.2.2.2.2.2.2.2.2.1), hf1 _ _ _ (hOld.2.2.2.2.2.2.2.2.2.2.2.2.2.2.2.2.1) (hOld.2.2.2.2.2.2.2.2.2.2.2.2.2.2.2.2.2.2.1), hf1 _ _ _ (hOld.2.2.2.2.2.2.2.2.2.2.2.2.2.2.2.2.2.1) (hOld.2.2.2.2.2.2.2.2.2.2.2.2.2.2.2.2.2.2.2)⟩) | ((try simp only [World.cell?_drew, World.frozen?_drew]); (repeat' apply And.intro) <;> (first | (with_reducible assumption) | (with_reducible exact ⟨_, by assumption⟩) | (with_reducible exact ⟨_, two_other (by assumption) (by omega)⟩) | (with_reducible exact two_0 (by assumption)) | (with_reducible exact two_1 (by assumption)) | (with_reducible exact two_other (by assumption) (by omega)) | (with_reducible exact two_fz (by assumption)) | (with_reducible exact keepA _ (by assumption)) | (with_reducible exact keepA _ (keepA _ (keepA _ (by assumption)))) | (simp (maxDischargeDepth := 8) [*, go_sem, World.cell?_alloc_some, World.cell?_setCell_far]; done))) | (go_keep; done) | (simp (maxDischargeDepth := 8) [*, go_sem, World.cell?_alloc_some, World.cell?_setCell_far]; done))) (fun hHeld => ?_)
            (refine wpAnyH_take (i := 0) (oi := ⟨some 25, _, _, _, _, none⟩) (v := ?_) rfl (by kernel_rfl) (by kernel_rfl) (by kernel_rfl) (fun _ _ _ h => h) (Or.inl ⟨by rfl, ?_⟩) hHeld ?_; rotate_left; (· (intro w9 hSw; (try dsimp only at hSw); go_simp; (try with_reducible rfl))))
            (try simp only [Act.put, List.setIfInBounds_toArray, List.set_cons_zero, List.set_cons_succ])
            (refine wpAnyH_take (i := 1) (oi := ⟨some 26, _, _, _, _, none⟩) (v := ?_) rfl (by kernel_rfl) (by kernel_rfl) (by kernel_rfl) (fun _ _ _ h => h) (Or.inl ⟨by rfl, ?_⟩) hHeld ?_; rotate_left; (· (intro w9 hSw; (try dsimp only at hSw); go_simp; (try with_reducible rfl))))
            (try simp only [Act.put, List.setIfInBounds_toArray, List.set_cons_zero, List.set_cons_succ])
            (refine wpAnyH_take (i := 2) (oi := ⟨some 27, _, _, _, _, none⟩) (v := ?_) rfl (by kernel_rfl) (by kernel_rfl) (by kernel_rfl) (fun _ _ _ h => h) (Or.inl ⟨by rfl, ?_⟩) hHeld ?_; rotate_left; (· (intro w9 hSw; (try dsimp only at hSw); go_simp; (try with_reducible rfl))))
            (try simp only [Act.put, List.setIfInBounds_toArray, List.set_cons_zero, List.set_cons_succ])
            (refine wpAnyH_take (i := 3) (oi := ⟨some 28, _, _, _, _, none⟩) (v := ?_) rfl (by kernel_rfl) (by kernel_rfl) (by kernel_rfl) (fun _ _ _ h => h) (Or.inl ⟨by rfl, ?_⟩) hHeld ?_; rotate_left; (· (intro w9 hSw; (try dsimp only at hSw); go_simp; (try with_reducible rfl))))
            (try simp only [Act.put, List.setIfInBounds_toArray, List.set_cons_zero, List.set_cons_succ])
            (refine wpAnyH_take (i := 4) (oi := ⟨some 29, _, _, _, _, none⟩) (v := ?_) rfl (by kernel_rfl) (by kernel_rfl) (by kernel_rfl) (fun _ _ _ h => h) (Or.inl ⟨by rfl, ?_⟩) hHeld ?_; rotate_left; (· (intro w9 hSw; (try dsimp only at hSw); go_simp; (try with_reducible rfl))))
            (try simp only [Act.put, List.setIfInBounds_toArray, List.set_cons_zero, List.set_cons_succ])
            (refine wpAnyH_take (i := 5) (oi := ⟨some 30, _, _, _, _, none⟩) (v := ?_) rfl (by kernel_rfl) (by kernel_rfl) (by kernel_rfl) (fun _ _ _ h => h) (Or.inl ⟨by rfl, ?_⟩) hHeld ?_; rotate_left; (· (intro w9 hSw; (try dsimp only at hSw); go_simp; (try with_reducible rfl))))
            (try simp only [Act.put, List.setIfInBounds_toArray, List.set_cons_zero, List.set_cons_succ])
            (refine wpAnyH_take (i := 6) (oi := ⟨some 31, _, _, _, _, none⟩) (v := ?_) rfl (by kernel_rfl) (by kernel_rfl) (by kernel_rfl) (fun _ _ _ h => h) (Or.inl ⟨by rfl, ?_⟩) hHeld ?_; rotate_left; (· (intro w9 hSw; (try dsimp only at hSw); go_simp; (try with_reducible rfl))))
            (try simp only [Act.put, List.setIfInBounds_toArray, List.set_cons_zero, List.set_cons_succ])
            (refine wpAnyH_take (i := 7) (oi := ⟨some 32, _, _, _, _, none⟩) (v := ?_) rfl (by kernel_rfl) (by kernel_rfl) (by kernel_rfl) (fun _ _ _ h => h) (Or.inl ⟨by rfl, ?_⟩) hHeld ?_; rotate_left; (· (intro w9 hSw; (try dsimp only at hSw); go_simp; (try with_reducible rfl))))
            (try simp only [Act.put, List.setIfInBounds_toArray, List.set_cons_zero, List.set_cons_succ])
            (refine wpAnyH_take (i := 8) (oi := ⟨some 33, _, _, _, _, none⟩) (v := ?_) rfl (by kernel_rfl) (by kernel_rfl) (by kernel_rfl) (fun _ _ _ h => h) (Or.inl ⟨by rfl, ?_⟩) hHeld ?_; rotate_left; (· (intro w9 hSw; (try dsimp only at hSw); go_simp; (try with_reducible rfl))))
            (try simp only [Act.put, List.setIfInBounds_toArray, List.set_cons_zero, List.set_cons_succ])
            (refine wpAnyH_take (i := 9) (oi := ⟨some 34, _, _, _, _, none⟩) (v := ?_) rfl (by kernel_rfl) (by kernel_rfl) (by kernel_rfl) (fun _ _ _ h => h) (Or.inl ⟨by rfl, ?_⟩) hHeld ?_; rotate_left; (· (intro w9 hSw; (try dsimp only at hSw); go_simp; (try with_reducible rfl))))
            (try simp only [Act.put, List.setIfInBounds_toArray, List.set_cons_zero, List.set_cons_succ])
            refine wpAnyH_ready (rs := [10, 11]) (by kernel_rfl) (by simp) ?_
            refine AllReadyH.cons (o := ⟨some 35, _, _, _, _, none⟩) rfl (fun K hK => ?_) (AllReadyH.cons (o := ⟨some 10, _, _, _, _, none⟩) rfl (fun K hK => ?_) (AllReadyH.nil))
            ·
              go_simp
              (first | (go_at_call 91; refine useF w (times_any ah bh _ (by omega)) (by go_grown) ?_; rintro e w_r_1 rfl hB_1 hk_1 hf_1 hs_1; have hz_1 := hB_1.size))
              have hOld := hHeld; clear hHeld; refine hK.out _ _ ?_ (fun hHeld => ?_); (· ((try dsimp only); (first | (exact ⟨hk_1 _ _ _ (hOld.1), hk_1 _ _ _ (hOld.2.1), hk_1 _ _ _ (hOld.2.2.1), hk_1 _ _ _ (hOld.2.2.2.1), hk_1 _ _ _ (hOld.2.2.2.2.1), hk_1 _ _ _ (hOld.2.2.2.2.2.1), hk_1 _ _ _ (hOld.2.2.2.2.2.2.1), hk_1 _ _ _ (hOld.2.2.2.2.2.2.2.1), hk_1 _ _ _ (hOld.2.2.2.2.2.2.2.2.1), hk_1 _ _ _ (hOld.2.2.2.2.2.2.2.2.2.1), hf_1 _ _ _ (hOld.2.2.2.2.2.2.2.2.1) (hOld.2.2.2.2.2.2.2.2.2.2.1), hf_1 _ _ _ (hOld.2.2.2.2.2.2.2.2.2.1) (hOld.2.2.2.2.2.2.2.2.2.2.2.1), hk_1 _ _ _ (hOld.2.2.2.2.2.2.2.2.2.2.2.2.1), hk_1 _ _ _ (hOld.2.2.2.2.2.2.2.2.2.2.2.2.2.1), hf_1 _ _ _ (hOld.2.2.2.2.2.2.2.2.2.2.2.2.1) (hOld.2.2.2.2.2.2.2.2.2.2.2.2.2.2.1), hf_1 _ _ _ (hOld.2.2.2.2.2.2.2.2.2.2.2.2.2.1) (hOld.2.2.2.2.2.2.2.2.2.2.2.2.2.2.2.1), hk_1 _ _ _ (hOld.2.2.2.2.2.2.2.2.2.2.2.2.2.2.2.2.1), hk_1 _ _ _ (hOld.2.2.2.2.2.2.2.2.2.2.2.2.2.2.2.2.2.1), hf_1 _ _ _ (hOld.2.2.2.2.2.2.2.2.2.2.2.2.2.2.2.2.1) (hOld.2.2.2.2.2.2.2.2.2.2.2.2.2.2.2.2.2.2.1), hf_1 _ _ _ (hOld.2.2.2.2.2.2.2.2.2.2.2.2.2.2.2.2.2.1) (hOld.2.2.2.2.2.2.2.2.2.2.2.2.2.2.2.2.2.2.2)⟩) | ((try simp only [World.cell?_drew, World.frozen?_drew]); (repeat' apply And.intro) <;> (first | (with_reducible assumption) | (with_reducible exact ⟨_, by assumption⟩) | (with_reducible exact ⟨_, two_other (by assumption) (by omega)⟩) | (with_reducible exact two_0 (by assumption)) | (with_reducible exact two_1 (by assumption)) | (with_reducible exact two_other (by assumption) (by omega)) | (with_reducible exact two_fz (by assumption)) | (with_reducible exact keepA _ (by assumption)) | (with_reducible exact keepA _ (keepA _ (keepA _ (by assumption)))) | (simp (maxDischargeDepth := 8) [*, go_sem, World.cell?_alloc_some, World.cell?_setCell_far]; done))) | (go_keep; done) | (simp (maxDischargeDepth := 8) [*, go_sem, World.cell?_alloc_some, World.cell?_setCell_far]; done)))); clear hK K hOld
              clear hk_1 hf_1
              (try simp only [Act.put, List.setIfInBounds_toArray, List.set_cons_zero, List.set_cons_succ])
              refine wpAnyH_ready (rs := [11]) (by kernel_rfl) (by simp) ?_
              refine AllReadyH.cons (o := ⟨some 10, _, _, _, _, none⟩) rfl (fun K hK => ?_) (AllReadyH.nil)
              (try dsimp only at hHeld); have g0 := hHeld.1; have g1 := hHeld.2.1; have g2 := hHeld.2.2.1; have g3 := hHeld.2.2.2.1; have g4 := hHeld.2.2.2.2.1; have g5 := hHeld.2.2.2.2.2.1; have g6 := hHeld.2.2.2.2.2.2.1; have g7 := hHeld.2.2.2.2.2.2.2.1; have g8 := hHeld.2.2.2.2.2.2.2.2.1; have g9 := hHeld.2.2.2.2.2.2.2.2.2.1; have g10 := hHeld.2.2.2.2.2.2.2.2.2.2.1; have g11 := hHeld.2.2.2.2.2.2.2.2.2.2.2.1; have g12 := hHeld.2.2.2.2.2.2.2.2.2.2.2.2.1; have g13 := hHeld.2.2.2.2.2.2.2.2.2.2.2.2.2.1; have g14 := hHeld.2.2.2.2.2.2.2.2.2.2.2.2.2.2.1; have g15 := hHeld.2.2.2.2.2.2.2.2.2.2.2.2.2.2.2.1; have g16 := hHeld.2.2.2.2.2.2.2.2.2.2.2.2.2.2.2.2.1; have g17 := hHeld.2.2.2.2.2.2.2.2.2.2.2.2.2.2.2.2.2.1; have g18 := hHeld.2.2.2.2.2.2.2.2.2.2.2.2.2.2.2.2.2.2.1; have g19 := hHeld.2.2.2.2.2.2.2.2.2.2.2.2.2.2.2.2.2.2.2
              have hlt0 : B < w_r_1.heap.size := World.block_lt_of_cell? _ ⟨B, 0, none⟩ g0
              have hne0 : B ≠ w_r_1.heap.size := by omega
              have hnf0 := hne0.symm
              have hlt1 : Z < w_r_1.heap.size := World.block_lt_of_cell? _ ⟨Z, 0, none⟩ g8
              have hne1 : Z ≠ w_r_1.heap.size := by omega
              have hnf1 := hne1.symm
              have hlt2 : Bl < w_r_1.heap.size := World.block_lt_of_cell? _ ⟨Bl, 0, none⟩ g12
              have hne2 : Bl ≠ w_r_1.heap.size := by omega
              have hnf2 := hne2.symm
              have hlt3 : Bl + 1 < w_r_1.heap.size := World.block_lt_of_cell? _ ⟨Bl + 1, 0, none⟩ g16
              have hne3 : Bl + 1 ≠ w_r_1.heap.size := by omega
              have hnf3 := hne3.symm
              have q0 : ((w_r_1).alloc (Obj.cells #[.int .i64 0, .int .u64 0] 78)).cell? ⟨w_r_1.heap.size, 0, none⟩ = some (.int .i64 0) := by simp [go_sem]
              have qf0 : ((w_r_1).alloc (Obj.cells #[.int .i64 0, .int .u64 0] 78)).frozen? ⟨w_r_1.heap.size, 0, none⟩ = false := by simp [go_sem]
              have q1 : ((w_r_1).alloc (Obj.cells #[.int .i64 0, .int .u64 0] 78)).cell? ⟨w_r_1.heap.size, 1, none⟩ = some (.int .u64 0) := by simp [go_sem]
              have qf1 : ((w_r_1).alloc (Obj.cells #[.int .i64 0, .int .u64 0] 78)).frozen? ⟨w_r_1.heap.size, 1, none⟩ = false := by simp [go_sem]
              clear hHeld; go_simp; refine hK.out _ _ ?_ (fun hHeld => ?_); (· ((try dsimp only); (first | (exact ⟨hk1 _ _ _ (hOld.1), hk1 _ _ _ (hOld.2.1), hk1 _ _ _ (hOld.2.2.1), hk1 _ _ _ (hOld.2.2.2.1), hk1 _ _ _ (hOld.2.2.2.2.1), hk1 _ _ _ (hOld.2.2.2.2.2.1), hk1 _ _ _ (hOld.2.2.2.2.2.2.1), hk1 _ _ _ (hOld.2.2.2.2.2.2.2.1), hk1 _ _ _ (hOld.2.2.2.2.2.2.2.2.1), hk1 _ _ _ (hOld.2.2.2.2.2.2.2.2.2.1), hf1 _ _ _ (hOld.2.2.2.2.2.2.2.2.1) (hOld.2.2.2.2.2.2.2.2.2.2.1), hf1 _ _ _ (hOld.2.2.2.2.2.2.2.2.2.1) (hOld.2.2.2.2.2.2.2.2.2.2.2.1), hk1 _ _ _ (hOld.2.2.2.2.2.2.2.2.2.2.2.2.1), hk1 _ _ _ (hOld.2.2.2.2.2.2.2.2.2.2.2.2.2.1), hf1 _ _ _ (hOld.2.2.2.2.2.2.2.2.2.2.2.2.1) (hOld.2.2.2.2.2.2.2.2.2.2.2.2.2.2.1), hf1 _ _ _ (hOld.2.2.2.2.2.2.2.2.2.2.2.2.2.1) (hOld.2.2.2.2.2.2.2.2.2.2.2.2.2.2.2.1), hk1 _ _ _ (hOld.2.2.2.2.2.2.2.2.2.2.2.2.2.2.2.2.1), hk1 _ _ _ (hOld.2.2.2.2.2.2.2.2.2.2.2.2.2.2.2.2.2.1), hf1 _ _ _ (hOld.2.2.2.2.2.2.2.2.2.2.2.2.2.2.2.2.1) (hOld.2.2.2.2.2.2.2.2.2.2.2.2.2.2.2.2.2.2.1), hf1 _ _ _ (hOld.2.2.2.2.2.2.2.2.2.2.2.2.2.2.2.2.2.1) (hOld.2.2.2.2.2.2.2.2.2.2.2.2.2.2.2.2.2.2.2)⟩) | ((try simp only [World.cell?_drew, World.frozen?_drew]); (repeat' apply And.intro) <;> (first | (with_reducible assumption) | (with_reducible exact ⟨_, by assumption⟩) | (with_reducible exact ⟨_, two_other (by assumption) (by omega)⟩) | (with_reducible exact two_0 (by assumption)) | (with_reducible exact two_1 (by assumption)) | (with_reducible exact two_other (by assumption) (by omega)) | (with_reducible exact two_fz (by assumption)) | (with_reducible exact keepA _ (by assumption)) | (with_reducible exact keepA _ (keepA _ (keepA _ (by assumption)))) | (simp (maxDischargeDepth := 8) [*, go_sem, World.cell?_alloc_some, World.cell?_setCell_far]; done))) | (go_keep; done) | (simp (maxDischargeDepth := 8) [*, go_sem, World.cell?_alloc_some, World.cell?_setCell_far]; done)))); clear hK K
              (try simp only [Act.put, List.setIfInBounds_toArray, List.set_cons_zero, List.set_cons_succ])
              refine wpAnyH_ready (rs := [12]) (by kernel_rfl) (by simp) ?_
              refine AllReadyH.cons (o := ⟨none, _, _, _, _, none⟩) rfl (fun K hK => ?_) (AllReadyH.nil)
              (try dsimp only at hHeld); have g0 := hHeld.1; have g1 := hHeld.2.1; have g2 := hHeld.2.2.1; have g3 := hHeld.2.2.2.1; have g4 := hHeld.2.2.2.2.1; have g5 := hHeld.2.2.2.2.2.1; have g6 := hHeld.2.2.2.2.2.2.1; have g7 := hHeld.2.2.2.2.2.2.2.1; have g8 := hHeld.2.2.2.2.2.2.2.2.1; have g9 := hHeld.2.2.2.2.2.2.2.2.2.1; have g10 := hHeld.2.2.2.2.2.2.2.2.2.2.1; have g11 := hHeld.2.2.2.2.2.2.2.2.2.2.2.1; have g12 := hHeld.2.2.2.2.2.2.2.2.2.2.2.2.1; have g13 := hHeld.2.2.2.2.2.2.2.2.2.2.2.2.2.1; have g14 := hHeld.2.2.2.2.2.2.2.2.2.2.2.2.2.2.1; have g15 := hHeld.2.2.2.2.2.2.2.2.2.2.2.2.2.2.2.1; have g16 := hHeld.2.2.2.2.2.2.2.2.2.2.2.2.2.2.2.2.1; have g17 := hHeld.2.2.2.2.2.2.2.2.2.2.2.2.2.2.2.2.2.1; have g18 := hHeld.2.2.2.2.2.2.2.2.2.2.2.2.2.2.2.2.2.2.1; have g19 := hHeld.2.2.2.2.2.2.2.2.2.2.2.2.2.2.2.2.2.2.2; clear hHeld; go_simp; refine hK.out _ _ ?_ (fun hHeld => ?_); (· ((try dsimp only); (first | (exact ⟨hk1 _ _ _ (hOld.1), hk1 _ _ _ (hOld.2.1), hk1 _ _ _ (hOld.2.2.1), hk1 _ _ _ (hOld.2.2.2.1), hk1 _ _ _ (hOld.2.2.2.2.1), hk1 _ _ _ (hOld.2.2.2.2.2.1), hk1 _ _ _ (hOld.2.2.2.2.2.2.1), hk1 _ _ _ (hOld.2.2.2.2.2.2.2.1), hk1 _ _ _ (hOld.2.2.2.2.2.2.2.2.1), hk1 _ _ _ (hOld.2.2.2.2.2.2.2.2.2.1), hf1 _ _ _ (hOld.2.2.2.2.2.2.2.2.1) (hOld.2.2.2.2.2.2.2.2.2.2.1), hf1 _ _ _ (hOld.2.2.2.2.2.2.2.2.2.1) (hOld.2.2.2.2.2.2.2.2.2.2.2.1), hk1 _ _ _ (hOld.2.2.2.2.2.2.2.2.2.2.2.2.1), hk1 _ _ _ (hOld.2.2.2.2.2.2.2.2.2.2.2.2.2.1), hf1 _ _ _ (hOld.2.2.2.2.2.2.2.2.2.2.2.2.1) (hOld.2.2.2.2.2.2.2.2.2.2.2.2.2.2.1), hf1 _ _ _ (hOld.2.2.2.2.2.2.2.2.2.2.2.2.2.1) (hOld.2.2.2.2.2.2.2.2.2.2.2.2.2.2.2.1), hk1 _ _ _ (hOld.2.2.2.2.2.2.2.2.2.2.2.2.2.2.2.2.1), hk1 _ _ _ (hOld.2.2.2.2.2.2.2.2.2.2.2.2.2.2.2.2.2.1), hf1 _ _ _ (hOld.2.2.2.2.2.2.2.2.2.2.2.2.2.2.2.2.1) (hOld.2.2.2.2.2.2.2.2.2.2.2.2.2.2.2.2.2.2.1), hf1 _ _ _ (hOld.2.2.2.2.2.2.2.2.2.2.2.2.2.2.2.2.2.1) (hOld.2.2.2.2.2.2.2.2.2.2.2.2.2.2.2.2.2.2.2)⟩) | ((try simp only [World.cell?_drew, World.frozen?_drew]); (repeat' apply And.intro) <;> (first | (with_reducible assumption) | (with_reducible exact ⟨_, by assumption⟩) | (with_reducible exact ⟨_, two_other (by assumption) (by omega)⟩) | (with_reducible exact two_0 (by assumption)) | (with_reducible exact two_1 (by assumption)) | (with_reducible exact two_other (by assumption) (by omega)) | (with_reducible exact two_fz (by assumption)) | (with_reducible exact keepA _ (by assumption)) | (with_reducible exact keepA _ (keepA _ (keepA _ (by assumption)))) | (simp (maxDischargeDepth := 8) [*, go_sem, World.cell?_alloc_some, World.cell?_setCell_far]; done))) | (go_keep; done) | (simp (maxDischargeDepth := 8) [*, go_sem, World.cell?_alloc_some, World.cell?_setCell_far]; done)))); clear hK K
              (try simp only [Act.put, List.setIfInBounds_toArray, List.set_cons_zero, List.set_cons_succ])
              refine wpAnyH_done (by kernel_rfl) ?_ _
              go_wp2_with fail
              go_meet
              exact ⟨_, rfl, by omega, hHeld, by first | exact two_0 q0 | (simp [go_sem]; done) | (simp [go_sem]; rfl), by first | exact two_1 q1 | (simp [go_sem]; done) | (simp [go_sem]; rfl), by go_grown⟩
            ·
              (try dsimp only at hHeld); have g0 := hHeld.1; have g1 := hHeld.2.1; have g2 := hHeld.2.2.1; have g3 := hHeld.2.2.2.1; have g4 := hHeld.2.2.2.2.1; have g5 := hHeld.2.2.2.2.2.1; have g6 := hHeld.2.2.2.2.2.2.1; have g7 := hHeld.2.2.2.2.2.2.2.1; have g8 := hHeld.2.2.2.2.2.2.2.2.1; have g9 := hHeld.2.2.2.2.2.2.2.2.2.1; have g10 := hHeld.2.2.2.2.2.2.2.2.2.2.1; have g11 := hHeld.2.2.2.2.2.2.2.2.2.2.2.1; have g12 := hHeld.2.2.2.2.2.2.2.2.2.2.2.2.1; have g13 := hHeld.2.2.2.2.2.2.2.2.2.2.2.2.2.1; have g14 := hHeld.2.2.2.2.2.2.2.2.2.2.2.2.2.2.1; have g15 := hHeld.2.2.2.2.2.2.2.2.2.2.2.2.2.2.2.1; have g16 := hHeld.2.2.2.2.2.2.2.2.2.2.2.2.2.2.2.2.1; have g17 := hHeld.2.2.2.2.2.2.2.2.2.2.2.2.2.2.2.2.2.1; have g18 := hHeld.2.2.2.2.2.2.2.2.2.2.2.2.2.2.2.2.2.2.1; have g19 := hHeld.2.2.2.2.2.2.2.2.2.2.2.2.2.2.2.2.2.2.2
              have hlt0 : B < wr.heap.size := World.block_lt_of_cell? _ ⟨B, 0, none⟩ g0
              have hne0 : B ≠ wr.heap.size := by omega
              have hnf0 := hne0.symm
              have hlt1 : Z < wr.heap.size := World.block_lt_of_cell? _ ⟨Z, 0, none⟩ g8
              have hne1 : Z ≠ wr.heap.size := by omega
              have hnf1 := hne1.symm
              have hlt2 : Bl < wr.heap.size := World.block_lt_of_cell? _ ⟨Bl, 0, none⟩ g12
              have hne2 : Bl ≠ wr.heap.size := by omega
              have hnf2 := hne2.symm
              have hlt3 : Bl + 1 < wr.heap.size := World.block_lt_of_cell? _ ⟨Bl + 1, 0, none⟩ g16
              have hne3 : Bl + 1 ≠ wr.heap.size := by omega
              have hnf3 := hne3.symm
              have q0 : ((wr.drew).alloc (Obj.cells #[.int .i64 0, .int .u64 0] 78)).cell? ⟨wr.heap.size, 0, none⟩ = some (.int .i64 0) := by simp [go_sem]
              have qf0 : ((wr.drew).alloc (Obj.cells #[.int .i64 0, .int .u64 0] 78)).frozen? ⟨wr.heap.size, 0, none⟩ = false := by simp [go_sem]
              have q1 : ((wr.drew).alloc (Obj.cells #[.int .i64 0, .int .u64 0] 78)).cell? ⟨wr.heap.size, 1, none⟩ = some (.int .u64 0) := by simp [go_sem]
              have qf1 : ((wr.drew).alloc (Obj.cells #[.int .i64 0, .int .u64 0] 78)).frozen? ⟨wr.heap.size, 1, none⟩ = false := by simp [go_sem]
              clear hHeld; go_simp; refine hK.out _ _ ?_ (fun hHeld => ?_); (· ((try dsimp only); (first | (exact ⟨hk1 _ _ _ (hOld.1), hk1 _ _ _ (hOld.2.1), hk1 _ _ _ (hOld.2.2.1), hk1 _ _ _ (hOld.2.2.2.1), hk1 _ _ _ (hOld.2.2.2.2.1), hk1 _ _ _ (hOld.2.2.2.2.2.1), hk1 _ _ _ (hOld.2.2.2.2.2.2.1), hk1 _ _ _ (hOld.2.2.2.2.2.2.2.1), hk1 _ _ _ (hOld.2.2.2.2.2.2.2.2.1), hk1 _ _ _ (hOld.2.2.2.2.2.2.2.2.2.1), hf1 _ _ _ (hOld.2.2.2.2.2.2.2.2.1) (hOld.2.2.2.2.2.2.2.2.2.2.1), hf1 _ _ _ (hOld.2.2.2.2.2.2.2.2.2.1) (hOld.2.2.2.2.2.2.2.2.2.2.2.1), hk1 _ _ _ (hOld.2.2.2.2.2.2.2.2.2.2.2.2.1), hk1 _ _ _ (hOld.2.2.2.2.2.2.2.2.2.2.2.2.2.1), hf1 _ _ _ (hOld.2.2.2.2.2.2.2.2.2.2.2.2.1) (hOld.2.2.2.2.2.2.2.2.2.2.2.2.2.2.1), hf1 _ _ _ (hOld.2.2.2.2.2.2.2.2.2.2.2.2.2.1) (hOld.2.2.2.2.2.2.2.2.2.2.2.2.2.2.2.1), hk1 _ _ _ (hOld.2.2.2.2.2.2.2.2.2.2.2.2.2.2.2.2.1), hk1 _ _ _ (hOld.2.2.2.2.2.2.2.2.2.2.2.2.2.2.2.2.2.1), hf1 _ _ _ (hOld.2.2.2.2.2.2.2.2.2.2.2.2.2.2.2.2.1) (hOld.2.2.2.2.2.2.2.2.2.2.2.2.2.2.2.2.2.2.1), hf1 _ _ _ (hOld.2.2.2.2.2.2.2.2.2.2.2.2.2.2.2.2.2.1) (hOld.2.2.2.2.2.2.2.2.2.2.2.2.2.2.2.2.2.2.2)⟩) | ((try simp only [World.cell?_drew, World.frozen?_drew]); (repeat' apply And.intro) <;> (first | (with_reducible assumption) | (with_reducible exact ⟨_, by assumption⟩) | (with_reducible exact ⟨_, two_other (by assumption) (by omega)⟩) | (with_reducible exact two_0 (by assumption)) | (with_reducible exact two_1 (by assumption)) | (with_reducible exact two_other (by assumption) (by omega)) | (with_reducible exact two_fz (by assumption)) | (with_reducible exact keepA _ (by assumption)) | (with_reducible exact keepA _ (keepA _ (keepA _ (by assumption)))) | (simp (maxDischargeDepth := 8) [*, go_sem, World.cell?_alloc_some, World.cell?_setCell_far]; done))) | (go_keep; done) | (simp (maxDischargeDepth := 8) [*, go_sem, World.cell?_alloc_some, World.cell?_setCell_far]; done)))); clear hK K
              (try simp only [Act.put, List.setIfInBounds_toArray, List.set_cons_zero, List.set_cons_succ])
              refine wpAnyH_ready (rs := [10]) (by kernel_rfl) (by simp) ?_
              refine AllReadyH.cons (o := ⟨some 35, _, _, _, _, none⟩) rfl (fun K hK => ?_) (AllReadyH.nil)
              go_simp
              (first | (go_at_call 91; refine useF w (times_any ah bh _ (by omega)) (by go_grown) ?_; rintro e w_r_1 rfl hB_1 hk_1 hf_1 hs_1; have hz_1 := hB_1.size))
              have hOld := hHeld; clear hHeld; refine hK.out _ _ ?_ (fun hHeld => ?_); (· ((try dsimp only); (first | (exact ⟨hk_1 _ _ _ (hOld.1), hk_1 _ _ _ (hOld.2.1), hk_1 _ _ _ (hOld.2.2.1), hk_1 _ _ _ (hOld.2.2.2.1), hk_1 _ _ _ (hOld.2.2.2.2.1), hk_1 _ _ _ (hOld.2.2.2.2.2.1), hk_1 _ _ _ (hOld.2.2.2.2.2.2.1), hk_1 _ _ _ (hOld.2.2.2.2.2.2.2.1), hk_1 _ _ _ (hOld.2.2.2.2.2.2.2.2.1), hk_1 _ _ _ (hOld.2.2.2.2.2.2.2.2.2.1), hf_1 _ _ _ (hOld.2.2.2.2.2.2.2.2.1) (hOld.2.2.2.2.2.2.2.2.2.2.1), hf_1 _ _ _ (hOld.2.2.2.2.2.2.2.2.2.1) (hOld.2.2.2.2.2.2.2.2.2.2.2.1), hk_1 _ _ _ (hOld.2.2.2.2.2.2.2.2.2.2.2.2.1), hk_1 _ _ _ (hOld.2.2.2.2.2.2.2.2.2.2.2.2.2.1), hf_1 _ _ _ (hOld.2.2.2.2.2.2.2.2.2.2.2.2.1) (hOld.2.2.2.2.2.2.2.2.2.2.2.2.2.2.1), hf_1 _ _ _ (hOld.2.2.2.2.2.2.2.2.2.2.2.2.2.1) (hOld.2.2.2.2.2.2.2.2.2.2.2.2.2.2.2.1), hk_1 _ _ _ (hOld.2.2.2.2.2.2.2.2.2.2.2.2.2.2.2.2.1), hk_1 _ _ _ (hOld.2.2.2.2.2.2.2.2.2.2.2.2.2.2.2.2.2.1), hf_1 _ _ _ (hOld.2.2.2.2.2.2.2.2.2.2.2.2.2.2.2.2.1) (hOld.2.2.2.2.2.2.2.2.2.2.2.2.2.2.2.2.2.2.1), hf_1 _ _ _ (hOld.2.2.2.2.2.2.2.2.2.2.2.2.2.2.2.2.2.1) (hOld.2.2.2.2.2.2.2.2.2.2.2.2.2.2.2.2.2.2.2)⟩) | ((try simp only [World.cell?_drew, World.frozen?_drew]); (repeat' apply And.intro) <;> (first | (with_reducible assumption) | (with_reducible exact ⟨_, by assumption⟩) | (with_reducible exact ⟨_, two_other (by assumption) (by omega)⟩) | (with_reducible exact two_0 (by assumption)) | (with_reducible exact two_1 (by assumption)) | (with_reducible exact two_other (by assumption) (by omega)) | (with_reducible exact two_fz (by assumption)) | (with_reducible exact keepA _ (by assumption)) | (with_reducible exact keepA _ (keepA _ (keepA _ (by assumption)))) | (simp (maxDischargeDepth := 8) [*, go_sem, World.cell?_alloc_some, World.cell?_setCell_far]; done))) | (go_keep; done) | (simp (maxDischargeDepth := 8) [*, go_sem, World.cell?_alloc_some, World.cell?_setCell_far]; done)))); clear hK K hOld
              have qf0 := hf_1 _ _ _ q0 qf0
              have qf1 := hf_1 _ _ _ q1 qf1
              have q0 := hk_1 _ _ _ q0
              have q1 := hk_1 _ _ _ q1
              clear hk_1 hf_1
              (try simp only [Act.put, List.setIfInBounds_toArray, List.set_cons_zero, List.set_cons_succ])
              refine wpAnyH_ready (rs := [12]) (by kernel_rfl) (by simp) ?_
              refine AllReadyH.cons (o := ⟨none, _, _, _, _, none⟩) rfl (fun K hK => ?_) (AllReadyH.nil)
              (try dsimp only at hHeld); have g0 := hHeld.1; have g1 := hHeld.2.1; have g2 := hHeld.2.2.1; have g3 := hHeld.2.2.2.1; have g4 := hHeld.2.2.2.2.1; have g5 := hHeld.2.2.2.2.2.1; have g6 := hHeld.2.2.2.2.2.2.1; have g7 := hHeld.2.2.2.2.2.2.2.1; have g8 := hHeld.2.2.2.2.2.2.2.2.1; have g9 := hHeld.2.2.2.2.2.2.2.2.2.1; have g10 := hHeld.2.2.2.2.2.2.2.2.2.2.1; have g11 := hHeld.2.2.2.2.2.2.2.2.2.2.2.1; have g12 := hHeld.2.2.2.2.2.2.2.2.2.2.2.2.1; have g13 := hHeld.2.2.2.2.2.2.2.2.2.2.2.2.2.1; have g14 := hHeld.2.2.2.2.2.2.2.2.2.2.2.2.2.2.1; have g15 := hHeld.2.2.2.2.2.2.2.2.2.2.2.2.2.2.2.1; have g16 := hHeld.2.2.2.2.2.2.2.2.2.2.2.2.2.2.2.2.1; have g17 := hHeld.2.2.2.2.2.2.2.2.2.2.2.2.2.2.2.2.2.1; have g18 := hHeld.2.2.2.2.2.2.2.2.2.2.2.2.2.2.2.2.2.2.1; have g19 := hHeld.2.2.2.2.2.2.2.2.2.2.2.2.2.2.2.2.2.2.2; clear hHeld; go_simp; refine hK.out _ _ ?_ (fun hHeld => ?_); (· ((try dsimp only); (first | (exact ⟨hk1 _ _ _ (hOld.1), hk1 _ _ _ (hOld.2.1), hk1 _ _ _ (hOld.2.2.1), hk1 _ _ _ (hOld.2.2.2.1), hk1 _ _ _ (hOld.2.2.2.2.1), hk1 _ _ _ (hOld.2.2.2.2.2.1), hk1 _ _ _ (hOld.2.2.2.2.2.2.1), hk1 _ _ _ (hOld.2.2.2.2.2.2.2.1), hk1 _ _ _ (hOld.2.2.2.2.2.2.2.2.1), hk1 _ _ _ (hOld.2.2.2.2.2.2.2.2.2.1), hf1 _ _ _ (hOld.2.2.2.2.2.2.2.2.1) (hOld.2.2.2.2.2.2.2.2.2.2.1), hf1 _ _ _ (hOld.2.2.2.2.2.2.2.2.2.1) (hOld.2.2.2.2.2.2.2.2.2.2.2.1), hk1 _ _ _ (hOld.2.2.2.2.2.2.2.2.2.2.2.2.1), hk1 _ _ _ (hOld.2.2.2.2.2.2.2.2.2.2.2.2.2.1), hf1 _ _ _ (hOld.2.2.2.2.2.2.2.2.2.2.2.2.1) (hOld.2.2.2.2.2.2.2.2.2.2.2.2.2.2.1), hf1 _ _ _ (hOld.2.2.2.2.2.2.2.2.2.2.2.2.2.1) (hOld.2.2.2.2.2.2.2.2.2.2.2.2.2.2.2.1), hk1 _ _ _ (hOld.2.2.2.2.2.2.2.2.2.2.2.2.2.2.2.2.1), hk1 _ _ _ (hOld.2.2.2.2.2.2.2.2.2.2.2.2.2.2.2.2.2.1), hf1 _ _ _ (hOld.2.2.2.2.2.2.2.2.2.2.2.2.2.2.2.2.1) (hOld.2.2.2.2.2.2.2.2.2.2.2.2.2.2.2.2.2.2.1), hf1 _ _ _ (hOld.2.2.2.2.2.2.2.2.2.2.2.2.2.2.2.2.2.1) (hOld.2.2.2.2.2.2.2.2.2.2.2.2.2.2.2.2.2.2.2)⟩) | ((try simp only [World.cell?_drew, World.frozen?_drew]); (repeat' apply And.intro) <;> (first | (with_reducible assumption) | (with_reducible exact ⟨_, by assumption⟩) | (with_reducible exact ⟨_, two_other (by assumption) (by omega)⟩) | (with_reducible exact two_0 (by assumption)) | (with_reducible exact two_1 (by assumption)) | (with_reducible exact two_other (by assumption) (by omega)) | (with_reducible exact two_fz (by assumption)) | (with_reducible exact keepA _ (by assumption)) | (with_reducible exact keepA _ (keepA _ (keepA _ (by assumption)))) | (simp (maxDischargeDepth := 8) [*, go_sem, World.cell?_alloc_some, World.cell?_setCell_far]; done))) | (go_keep; done) | (simp (maxDischargeDepth := 8) [*, go_sem, World.cell?_alloc_some, World.cell?_setCell_far]; done)))); clear hK K
              (try simp only [Act.put, List.setIfInBounds_toArray, List.set_cons_zero, List.set_cons_succ])
              refine wpAnyH_done (by kernel_rfl) ?_ _
              go_wp2_with fail
              go_meet
              exact ⟨_, rfl, by omega, hHeld, by first | exact two_0 q0 | (simp [go_sem]; done) | (simp [go_sem]; rfl), by first | exact two_1 q1 | (simp [go_sem]; done) | (simp [go_sem]; rfl), by go_grown⟩
        case rest =>
          clear L0 L1 L2 L3 L4 L5 L6 L7 z0 z1 zf0 zf1 lo0 lo1 lof0 lof1 hi0 hi1 hif0 hif1 hB2
          obtain ⟨Bp, rfl, hBp, h8, p0, p1, hB2⟩ := hcut
          obtain ⟨L0, L1, L2, L3, L4, L5, L6, L7, z0, z1, zf0, zf1, lo0, lo1, lof0, lof1, hi0, hi1, hif0, hif1⟩ := h8
          by_cases k0 : k = 0
          · subst k0
            go_wp2_with fail
            go_roundw
            case rel => exact ⟨1, rfl, by omega, ⟨two_other (two_other L0 (by omega)) (by omega), two_other (two_other L1 (by omega)) (by omega), two_other (two_other L2 (by omega)) (by omega), two_other (two_other L3 (by omega)) (by omega), two_other (two_other L4 (by omega)) (by omega), two_other (two_other L5 (by omega)) (by omega), two_other (two_other L6 (by omega)) (by omega), two_other (two_other L7 (by omega)) (by omega), two_other (two_other z0 (by omega)) (by omega), two_other (two_other z1 (by omega)) (by omega), two_fz (two_fz zf0), two_fz (two_fz zf1), two_other (two_0 lo0) (by omega), two_other (two_1 lo1) (by omega), two_fz (two_fz lof0), two_fz (two_fz lof1), two_0 (two_other hi0 (by omega)), two_1 (two_other hi1 (by omega)), two_fz (two_fz hif0), two_fz (two_fz hif1)⟩, by go_grown⟩
            case measure => simp [intOf]
          · have hk0 : 0 < k := by omega
            have kz : ((k : Int) == 0) = false := by simpa using k0
            obtain ⟨m1, m2⟩ := mnmx_step (pK al ah bl bh) hk0
            have hmm := mnmx_bd _ _ (by omega) hpb.out k
            have hpk := hpb.out k
            have w1' := hid (show (-170141183460469231731687303715884105728 ≤ pK al ah bl bh k ∧ pK al ah bl bh k < 170141183460469231731687303715884105728) ∧ (-170141183460469231731687303715884105728 ≤ mnK (pK al ah bl bh) k ∧ mnK (pK al ah bl bh) k < 170141183460469231731687303715884105728) by omega)
            have w2' := hid (show (-170141183460469231731687303715884105728 ≤ mxK (pK al ah bl bh) k ∧ mxK (pK al ah bl bh) k < 170141183460469231731687303715884105728) ∧ (-170141183460469231731687303715884105728 ≤ pK al ah bl bh k ∧ pK al ah bl bh k < 170141183460469231731687303715884105728) by omega)
            clear hmm hpk k0
            by_cases c1 : pK al ah bl bh k < mnK (pK al ah bl bh) k
            · rw [if_pos c1] at m1
              have d1' := decide_eq_true c1
              by_cases c2 : mxK (pK al ah bl bh) k < pK al ah bl bh k
              · rw [if_pos c2] at m2
                have d2' := decide_eq_true c2
                have M1 := hid m1; have M2 := hid m2; clear m1 m2 c1 c2
                go_wp2_with fail
                refine useF w (less_any _ _ _ w1'.out) (by go_grown) ?_; rintro e w107 rfl hB107 hk107 hf107 hs107; clear hs107
                replace L0 : w107.cell? ⟨B, 0, none⟩ = some (.int .i64 al) := hk107 _ _ _ (L0)
                replace L1 : w107.cell? ⟨B, 1, none⟩ = some (.int .i64 bl) := hk107 _ _ _ (L1)
                replace L2 : w107.cell? ⟨B, 2, none⟩ = some (.int .i64 al) := hk107 _ _ _ (L2)
                replace L3 : w107.cell? ⟨B, 3, none⟩ = some (.int .i64 bh) := hk107 _ _ _ (L3)
                replace L4 : w107.cell? ⟨B, 4, none⟩ = some (.int .i64 ah) := hk107 _ _ _ (L4)
                replace L5 : w107.cell? ⟨B, 5, none⟩ = some (.int .i64 bl) := hk107 _ _ _ (L5)
                replace L6 : w107.cell? ⟨B, 6, none⟩ = some (.int .i64 ah) := hk107 _ _ _ (L6)
                replace L7 : w107.cell? ⟨B, 7, none⟩ = some (.int .i64 bh) := hk107 _ _ _ (L7)
                replace zf0 : w107.frozen? ⟨Z, 0, none⟩ = false := hf107 _ _ (.int .i64 0) (z0) (zf0)
                replace z0 : w107.cell? ⟨Z, 0, none⟩ = some (.int .i64 0) := hk107 _ _ _ (z0)
                replace zf1 : w107.frozen? ⟨Z, 1, none⟩ = false := hf107 _ _ (.int .i64 0) (z1) (zf1)
                replace z1 : w107.cell? ⟨Z, 1, none⟩ = some (.int .i64 0) := hk107 _ _ _ (z1)
                replace lof0 : w107.frozen? ⟨Bl, 0, none⟩ = false := hf107 _ _ (.int .i64 (hiW (mnK (pK al ah bl bh) k))) (lo0) (lof0)
                replace lo0 : w107.cell? ⟨Bl, 0, none⟩ = some (.int .i64 (hiW (mnK (pK al ah bl bh) k))) := hk107 _ _ _ (lo0)
                replace lof1 : w107.frozen? ⟨Bl, 1, none⟩ = false := hf107 _ _ (.int .u64 (loW (mnK (pK al ah bl bh) k))) (lo1) (lof1)
                replace lo1 : w107.cell? ⟨Bl, 1, none⟩ = some (.int .u64 (loW (mnK (pK al ah bl bh) k))) := hk107 _ _ _ (lo1)
                replace hif0 : w107.frozen? ⟨Bl + 1, 0, none⟩ = false := hf107 _ _ (.int .i64 (hiW (mxK (pK al ah bl bh) k))) (hi0) (hif0)
                replace hi0 : w107.cell? ⟨Bl + 1, 0, none⟩ = some (.int .i64 (hiW (mxK (pK al ah bl bh) k))) := hk107 _ _ _ (hi0)
                replace hif1 : w107.frozen? ⟨Bl + 1, 1, none⟩ = false := hf107 _ _ (.int .u64 (loW (mxK (pK al ah bl bh) k))) (hi1) (hif1)
                replace hi1 : w107.cell? ⟨Bl + 1, 1, none⟩ = some (.int .u64 (loW (mxK (pK al ah bl bh) k))) := hk107 _ _ _ (hi1)
                replace p0 : w107.cell? ⟨Bp, 0, none⟩ = some (.int .i64 (hiW (pK al ah bl bh k))) := hk107 _ _ _ (p0)
                replace p1 : w107.cell? ⟨Bp, 1, none⟩ = some (.int .u64 (loW (pK al ah bl bh k))) := hk107 _ _ _ (p1)
                (try clear Lb); have Lb : B < w107.heap.size := World.block_lt_of_cell? w107 ⟨B, 0, none⟩ L0
                (try clear zb); have zb : Z < w107.heap.size := World.block_lt_of_cell? w107 ⟨Z, 0, none⟩ z0
                (try clear lob); have lob : Bl < w107.heap.size := World.block_lt_of_cell? w107 ⟨Bl, 0, none⟩ lo0
                (try clear hib); have hib : Bl + 1 < w107.heap.size := World.block_lt_of_cell? w107 ⟨Bl + 1, 0, none⟩ hi0
                (try clear pb); have pb : Bp < w107.heap.size := World.block_lt_of_cell? w107 ⟨Bp, 0, none⟩ p0
                clear hk107 hf107
                go_wp2_with fail
                refine useF w (less_any _ _ _ w2'.out) (by go_grown) ?_; rintro e w108 rfl hB108 hk108 hf108 hs108; clear hs108
                replace L0 : w108.cell? ⟨B, 0, none⟩ = some (.int .i64 al) := hk108 _ _ _ (two_other L0 (by omega))
                replace L1 : w108.cell? ⟨B, 1, none⟩ = some (.int .i64 bl) := hk108 _ _ _ (two_other L1 (by omega))
                replace L2 : w108.cell? ⟨B, 2, none⟩ = some (.int .i64 al) := hk108 _ _ _ (two_other L2 (by omega))
                replace L3 : w108.cell? ⟨B, 3, none⟩ = some (.int .i64 bh) := hk108 _ _ _ (two_other L3 (by omega))
                replace L4 : w108.cell? ⟨B, 4, none⟩ = some (.int .i64 ah) := hk108 _ _ _ (two_other L4 (by omega))
                replace L5 : w108.cell? ⟨B, 5, none⟩ = some (.int .i64 bl) := hk108 _ _ _ (two_other L5 (by omega))
                replace L6 : w108.cell? ⟨B, 6, none⟩ = some (.int .i64 ah) := hk108 _ _ _ (two_other L6 (by omega))
                replace L7 : w108.cell? ⟨B, 7, none⟩ = some (.int .i64 bh) := hk108 _ _ _ (two_other L7 (by omega))
                replace zf0 : w108.frozen? ⟨Z, 0, none⟩ = false := hf108 _ _ (.int .i64 0) (two_other z0 (by omega)) (two_fz zf0)
                replace z0 : w108.cell? ⟨Z, 0, none⟩ = some (.int .i64 0) := hk108 _ _ _ (two_other z0 (by omega))
                replace zf1 : w108.frozen? ⟨Z, 1, none⟩ = false := hf108 _ _ (.int .i64 0) (two_other z1 (by omega)) (two_fz zf1)
                replace z1 : w108.cell? ⟨Z, 1, none⟩ = some (.int .i64 0) := hk108 _ _ _ (two_other z1 (by omega))
                replace lof0 : w108.frozen? ⟨Bl, 0, none⟩ = false := hf108 _ _ (.int .i64 (hiW (pK al ah bl bh k))) (two_0 lo0) (two_fz lof0)
                replace lo0 : w108.cell? ⟨Bl, 0, none⟩ = some (.int .i64 (hiW (pK al ah bl bh k))) := hk108 _ _ _ (two_0 lo0)
                replace lof1 : w108.frozen? ⟨Bl, 1, none⟩ = false := hf108 _ _ (.int .u64 (loW (pK al ah bl bh k))) (two_1 lo1) (two_fz lof1)
                replace lo1 : w108.cell? ⟨Bl, 1, none⟩ = some (.int .u64 (loW (pK al ah bl bh k))) := hk108 _ _ _ (two_1 lo1)
                replace hif0 : w108.frozen? ⟨Bl + 1, 0, none⟩ = false := hf108 _ _ (.int .i64 (hiW (mxK (pK al ah bl bh) k))) (two_other hi0 (by omega)) (two_fz hif0)
                replace hi0 : w108.cell? ⟨Bl + 1, 0, none⟩ = some (.int .i64 (hiW (mxK (pK al ah bl bh) k))) := hk108 _ _ _ (two_other hi0 (by omega))
                replace hif1 : w108.frozen? ⟨Bl + 1, 1, none⟩ = false := hf108 _ _ (.int .u64 (loW (mxK (pK al ah bl bh) k))) (two_other hi1 (by omega)) (two_fz hif1)
                replace hi1 : w108.cell? ⟨Bl + 1, 1, none⟩ = some (.int .u64 (loW (mxK (pK al ah bl bh) k))) := hk108 _ _ _ (two_other hi1 (by omega))
                replace p0 : w108.cell? ⟨Bp, 0, none⟩ = some (.int .i64 (hiW (pK al ah bl bh k))) := hk108 _ _ _ (two_other p0 (by omega))
                replace p1 : w108.cell? ⟨Bp, 1, none⟩ = some (.int .u64 (loW (pK al ah bl bh k))) := hk108 _ _ _ (two_other p1 (by omega))
                (try clear Lb); have Lb : B < w108.heap.size := World.block_lt_of_cell? w108 ⟨B, 0, none⟩ L0
                (try clear zb); have zb : Z < w108.heap.size := World.block_lt_of_cell? w108 ⟨Z, 0, none⟩ z0
                (try clear lob); have lob : Bl < w108.heap.size := World.block_lt_of_cell? w108 ⟨Bl, 0, none⟩ lo0
                (try clear hib); have hib : Bl + 1 < w108.heap.size := World.block_lt_of_cell? w108 ⟨Bl + 1, 0, none⟩ hi0
                (try clear pb); have pb : Bp < w108.heap.size := World.block_lt_of_cell? w108 ⟨Bp, 0, none⟩ p0
                clear hk108 hf108
                go_wp2_with fail
                have hBs : Below w.heap.size w ((w108.setCell ⟨Bl + 1, 0, none⟩ (.int .i64 (hiW (pK al ah bl bh k)))).setCell ⟨Bl + 1, 1, none⟩ (.int .u64 (loW (pK al ah bl bh k)))) := by go_grown
                replace L0 : ((w108.setCell ⟨Bl + 1, 0, none⟩ (.int .i64 (hiW (pK al ah bl bh k)))).setCell ⟨Bl + 1, 1, none⟩ (.int .u64 (loW (pK al ah bl bh k)))).cell? ⟨B, 0, none⟩ = some (.int .i64 al) := two_other L0 (by omega)
                replace L1 : ((w108.setCell ⟨Bl + 1, 0, none⟩ (.int .i64 (hiW (pK al ah bl bh k)))).setCell ⟨Bl + 1, 1, none⟩ (.int .u64 (loW (pK al ah bl bh k)))).cell? ⟨B, 1, none⟩ = some (.int .i64 bl) := two_other L1 (by omega)
                replace L2 : ((w108.setCell ⟨Bl + 1, 0, none⟩ (.int .i64 (hiW (pK al ah bl bh k)))).setCell ⟨Bl + 1, 1, none⟩ (.int .u64 (loW (pK al ah bl bh k)))).cell? ⟨B, 2, none⟩ = some (.int .i64 al) := two_other L2 (by omega)
                replace L3 : ((w108.setCell ⟨Bl + 1, 0, none⟩ (.int .i64 (hiW (pK al ah bl bh k)))).setCell ⟨Bl + 1, 1, none⟩ (.int .u64 (loW (pK al ah bl bh k)))).cell? ⟨B, 3, none⟩ = some (.int .i64 bh) := two_other L3 (by omega)
                replace L4 : ((w108.setCell ⟨Bl + 1, 0, none⟩ (.int .i64 (hiW (pK al ah bl bh k)))).setCell ⟨Bl + 1, 1, none⟩ (.int .u64 (loW (pK al ah bl bh k)))).cell? ⟨B, 4, none⟩ = some (.int .i64 ah) := two_other L4 (by omega)
                replace L5 : ((w108.setCell ⟨Bl + 1, 0, none⟩ (.int .i64 (hiW (pK al ah bl bh k)))).setCell ⟨Bl + 1, 1, none⟩ (.int .u64 (loW (pK al ah bl bh k)))).cell? ⟨B, 5, none⟩ = some (.int .i64 bl) := two_other L5 (by omega)
                replace L6 : ((w108.setCell ⟨Bl + 1, 0, none⟩ (.int .i64 (hiW (pK al ah bl bh k)))).setCell ⟨Bl + 1, 1, none⟩ (.int .u64 (loW (pK al ah bl bh k)))).cell? ⟨B, 6, none⟩ = some (.int .i64 ah) := two_other L6 (by omega)
                replace L7 : ((w108.setCell ⟨Bl + 1, 0, none⟩ (.int .i64 (hiW (pK al ah bl bh k)))).setCell ⟨Bl + 1, 1, none⟩ (.int .u64 (loW (pK al ah bl bh k)))).cell? ⟨B, 7, none⟩ = some (.int .i64 bh) := two_other L7 (by omega)
                replace zf0 : ((w108.setCell ⟨Bl + 1, 0, none⟩ (.int .i64 (hiW (pK al ah bl bh k)))).setCell ⟨Bl + 1, 1, none⟩ (.int .u64 (loW (pK al ah bl bh k)))).frozen? ⟨Z, 0, none⟩ = false := two_fz zf0
                replace z0 : ((w108.setCell ⟨Bl + 1, 0, none⟩ (.int .i64 (hiW (pK al ah bl bh k)))).setCell ⟨Bl + 1, 1, none⟩ (.int .u64 (loW (pK al ah bl bh k)))).cell? ⟨Z, 0, none⟩ = some (.int .i64 0) := two_other z0 (by omega)
                replace zf1 : ((w108.setCell ⟨Bl + 1, 0, none⟩ (.int .i64 (hiW (pK al ah bl bh k)))).setCell ⟨Bl + 1, 1, none⟩ (.int .u64 (loW (pK al ah bl bh k)))).frozen? ⟨Z, 1, none⟩ = false := two_fz zf1
                replace z1 : ((w108.setCell ⟨Bl + 1, 0, none⟩ (.int .i64 (hiW (pK al ah bl bh k)))).setCell ⟨Bl + 1, 1, none⟩ (.int .u64 (loW (pK al ah bl bh k)))).cell? ⟨Z, 1, none⟩ = some (.int .i64 0) := two_other z1 (by omega)
                replace lof0 : ((w108.setCell ⟨Bl + 1, 0, none⟩ (.int .i64 (hiW (pK al ah bl bh k)))).setCell ⟨Bl + 1, 1, none⟩ (.int .u64 (loW (pK al ah bl bh k)))).frozen? ⟨Bl, 0, none⟩ = false := two_fz lof0
                replace lo0 : ((w108.setCell ⟨Bl + 1, 0, none⟩ (.int .i64 (hiW (pK al ah bl bh k)))).setCell ⟨Bl + 1, 1, none⟩ (.int .u64 (loW (pK al ah bl bh k)))).cell? ⟨Bl, 0, none⟩ = some (.int .i64 (hiW (pK al ah bl bh k))) := two_other lo0 (by omega)
                replace lof1 : ((w108.setCell ⟨Bl + 1, 0, none⟩ (.int .i64 (hiW (pK al ah bl bh k)))).setCell ⟨Bl + 1, 1, none⟩ (.int .u64 (loW (pK al ah bl bh k)))).frozen? ⟨Bl, 1, none⟩ = false := two_fz lof1
                replace lo1 : ((w108.setCell ⟨Bl + 1, 0, none⟩ (.int .i64 (hiW (pK al ah bl bh k)))).setCell ⟨Bl + 1, 1, none⟩ (.int .u64 (loW (pK al ah bl bh k)))).cell? ⟨Bl, 1, none⟩ = some (.int .u64 (loW (pK al ah bl bh k))) := two_other lo1 (by omega)
                replace hif0 : ((w108.setCell ⟨Bl + 1, 0, none⟩ (.int .i64 (hiW (pK al ah bl bh k)))).setCell ⟨Bl + 1, 1, none⟩ (.int .u64 (loW (pK al ah bl bh k)))).frozen? ⟨Bl + 1, 0, none⟩ = false := two_fz hif0
                replace hi0 : ((w108.setCell ⟨Bl + 1, 0, none⟩ (.int .i64 (hiW (pK al ah bl bh k)))).setCell ⟨Bl + 1, 1, none⟩ (.int .u64 (loW (pK al ah bl bh k)))).cell? ⟨Bl + 1, 0, none⟩ = some (.int .i64 (hiW (pK al ah bl bh k))) := two_0 hi0
                replace hif1 : ((w108.setCell ⟨Bl + 1, 0, none⟩ (.int .i64 (hiW (pK al ah bl bh k)))).setCell ⟨Bl + 1, 1, none⟩ (.int .u64 (loW (pK al ah bl bh k)))).frozen? ⟨Bl + 1, 1, none⟩ = false := two_fz hif1
                replace hi1 : ((w108.setCell ⟨Bl + 1, 0, none⟩ (.int .i64 (hiW (pK al ah bl bh k)))).setCell ⟨Bl + 1, 1, none⟩ (.int .u64 (loW (pK al ah bl bh k)))).cell? ⟨Bl + 1, 1, none⟩ = some (.int .u64 (loW (pK al ah bl bh k))) := two_1 hi1
                replace p0 : ((w108.setCell ⟨Bl + 1, 0, none⟩ (.int .i64 (hiW (pK al ah bl bh k)))).setCell ⟨Bl + 1, 1, none⟩ (.int .u64 (loW (pK al ah bl bh k)))).cell? ⟨Bp, 0, none⟩ = some (.int .i64 (hiW (pK al ah bl bh k))) := two_other p0 (by omega)
                replace p1 : ((w108.setCell ⟨Bl + 1, 0, none⟩ (.int .i64 (hiW (pK al ah bl bh k)))).setCell ⟨Bl + 1, 1, none⟩ (.int .u64 (loW (pK al ah bl bh k)))).cell? ⟨Bp, 1, none⟩ = some (.int .u64 (loW (pK al ah bl bh k))) := two_other p1 (by omega)
                generalize ((w108.setCell ⟨Bl + 1, 0, none⟩ (.int .i64 (hiW (pK al ah bl bh k)))).setCell ⟨Bl + 1, 1, none⟩ (.int .u64 (loW (pK al ah bl bh k)))) = wS at *
                go_roundw
                case rel => exact ⟨k + 1, by go_num, by omega, by rw [M1.out, M2.out]; exact ⟨L0, L1, L2, L3, L4, L5, L6, L7, z0, z1, zf0, zf1, lo0, lo1, lof0, lof1, hi0, hi1, hif0, hif1⟩, by assumption⟩
                case measure => first | (simp [intOf]; done) | (simp [intOf]; omega)
              · rw [if_neg c2] at m2
                have d2' := decide_eq_false c2
                have M1 := hid m1; have M2 := hid m2; clear m1 m2 c1 c2
                go_wp2_with fail
                refine useF w (less_any _ _ _ w1'.out) (by go_grown) ?_; rintro e w105 rfl hB105 hk105 hf105 hs105; clear hs105
                replace L0 : w105.cell? ⟨B, 0, none⟩ = some (.int .i64 al) := hk105 _ _ _ (L0)
                replace L1 : w105.cell? ⟨B, 1, none⟩ = some (.int .i64 bl) := hk105 _ _ _ (L1)
                replace L2 : w105.cell? ⟨B, 2, none⟩ = some (.int .i64 al) := hk105 _ _ _ (L2)
                replace L3 : w105.cell? ⟨B, 3, none⟩ = some (.int .i64 bh) := hk105 _ _ _ (L3)
                replace L4 : w105.cell? ⟨B, 4, none⟩ = some (.int .i64 ah) := hk105 _ _ _ (L4)
                replace L5 : w105.cell? ⟨B, 5, none⟩ = some (.int .i64 bl) := hk105 _ _ _ (L5)
                replace L6 : w105.cell? ⟨B, 6, none⟩ = some (.int .i64 ah) := hk105 _ _ _ (L6)
                replace L7 : w105.cell? ⟨B, 7, none⟩ = some (.int .i64 bh) := hk105 _ _ _ (L7)
                replace zf0 : w105.frozen? ⟨Z, 0, none⟩ = false := hf105 _ _ (.int .i64 0) (z0) (zf0)
                replace z0 : w105.cell? ⟨Z, 0, none⟩ = some (.int .i64 0) := hk105 _ _ _ (z0)
                replace zf1 : w105.frozen? ⟨Z, 1, none⟩ = false := hf105 _ _ (.int .i64 0) (z1) (zf1)
                replace z1 : w105.cell? ⟨Z, 1, none⟩ = some (.int .i64 0) := hk105 _ _ _ (z1)
                replace lof0 : w105.frozen? ⟨Bl, 0, none⟩ = false := hf105 _ _ (.int .i64 (hiW (mnK (pK al ah bl bh) k))) (lo0) (lof0)
                replace lo0 : w105.cell? ⟨Bl, 0, none⟩ = some (.int .i64 (hiW (mnK (pK al ah bl bh) k))) := hk105 _ _ _ (lo0)
                replace lof1 : w105.frozen? ⟨Bl, 1, none⟩ = false := hf105 _ _ (.int .u64 (loW (mnK (pK al ah bl bh) k))) (lo1) (lof1)
                replace lo1 : w105.cell? ⟨Bl, 1, none⟩ = some (.int .u64 (loW (mnK (pK al ah bl bh) k))) := hk105 _ _ _ (lo1)
                replace hif0 : w105.frozen? ⟨Bl + 1, 0, none⟩ = false := hf105 _ _ (.int .i64 (hiW (mxK (pK al ah bl bh) k))) (hi0) (hif0)
                replace hi0 : w105.cell? ⟨Bl + 1, 0, none⟩ = some (.int .i64 (hiW (mxK (pK al ah bl bh) k))) := hk105 _ _ _ (hi0)
                replace hif1 : w105.frozen? ⟨Bl + 1, 1, none⟩ = false := hf105 _ _ (.int .u64 (loW (mxK (pK al ah bl bh) k))) (hi1) (hif1)
                replace hi1 : w105.cell? ⟨Bl + 1, 1, none⟩ = some (.int .u64 (loW (mxK (pK al ah bl bh) k))) := hk105 _ _ _ (hi1)
                replace p0 : w105.cell? ⟨Bp, 0, none⟩ = some (.int .i64 (hiW (pK al ah bl bh k))) := hk105 _ _ _ (p0)
                replace p1 : w105.cell? ⟨Bp, 1, none⟩ = some (.int .u64 (loW (pK al ah bl bh k))) := hk105 _ _ _ (p1)
                (try clear Lb); have Lb : B < w105.heap.size := World.block_lt_of_cell? w105 ⟨B, 0, none⟩ L0
                (try clear zb); have zb : Z < w105.heap.size := World.block_lt_of_cell? w105 ⟨Z, 0, none⟩ z0
                (try clear lob); have lob : Bl < w105.heap.size := World.block_lt_of_cell? w105 ⟨Bl, 0, none⟩ lo0
                (try clear hib); have hib : Bl + 1 < w105.heap.size := World.block_lt_of_cell? w105 ⟨Bl + 1, 0, none⟩ hi0
                (try clear pb); have pb : Bp < w105.heap.size := World.block_lt_of_cell? w105 ⟨Bp, 0, none⟩ p0
                clear hk105 hf105
                go_wp2_with fail
                refine useF w (less_any _ _ _ w2'.out) (by go_grown) ?_; rintro e w106 rfl hB106 hk106 hf106 hs106; clear hs106
                replace L0 : w106.cell? ⟨B, 0, none⟩ = some (.int .i64 al) := hk106 _ _ _ (two_other L0 (by omega))
                replace L1 : w106.cell? ⟨B, 1, none⟩ = some (.int .i64 bl) := hk106 _ _ _ (two_other L1 (by omega))
                replace L2 : w106.cell? ⟨B, 2, none⟩ = some (.int .i64 al) := hk106 _ _ _ (two_other L2 (by omega))
                replace L3 : w106.cell? ⟨B, 3, none⟩ = some (.int .i64 bh) := hk106 _ _ _ (two_other L3 (by omega))
                replace L4 : w106.cell? ⟨B, 4, none⟩ = some (.int .i64 ah) := hk106 _ _ _ (two_other L4 (by omega))
                replace L5 : w106.cell? ⟨B, 5, none⟩ = some (.int .i64 bl) := hk106 _ _ _ (two_other L5 (by omega))
                replace L6 : w106.cell? ⟨B, 6, none⟩ = some (.int .i64 ah) := hk106 _ _ _ (two_other L6 (by omega))
                replace L7 : w106.cell? ⟨B, 7, none⟩ = some (.int .i64 bh) := hk106 _ _ _ (two_other L7 (by omega))
                replace zf0 : w106.frozen? ⟨Z, 0, none⟩ = false := hf106 _ _ (.int .i64 0) (two_other z0 (by omega)) (two_fz zf0)
                replace z0 : w106.cell? ⟨Z, 0, none⟩ = some (.int .i64 0) := hk106 _ _ _ (two_other z0 (by omega))
                replace zf1 : w106.frozen? ⟨Z, 1, none⟩ = false := hf106 _ _ (.int .i64 0) (two_other z1 (by omega)) (two_fz zf1)
                replace z1 : w106.cell? ⟨Z, 1, none⟩ = some (.int .i64 0) := hk106 _ _ _ (two_other z1 (by omega))
                replace lof0 : w106.frozen? ⟨Bl, 0, none⟩ = false := hf106 _ _ (.int .i64 (hiW (pK al ah bl bh k))) (two_0 lo0) (two_fz lof0)
                replace lo0 : w106.cell? ⟨Bl, 0, none⟩ = some (.int .i64 (hiW (pK al ah bl bh k))) := hk106 _ _ _ (two_0 lo0)
                replace lof1 : w106.frozen? ⟨Bl, 1, none⟩ = false := hf106 _ _ (.int .u64 (loW (pK al ah bl bh k))) (two_1 lo1) (two_fz lof1)
                replace lo1 : w106.cell? ⟨Bl, 1, none⟩ = some (.int .u64 (loW (pK al ah bl bh k))) := hk106 _ _ _ (two_1 lo1)
                replace hif0 : w106.frozen? ⟨Bl + 1, 0, none⟩ = false := hf106 _ _ (.int .i64 (hiW (mxK (pK al ah bl bh) k))) (two_other hi0 (by omega)) (two_fz hif0)
                replace hi0 : w106.cell? ⟨Bl + 1, 0, none⟩ = some (.int .i64 (hiW (mxK (pK al ah bl bh) k))) := hk106 _ _ _ (two_other hi0 (by omega))
                replace hif1 : w106.frozen? ⟨Bl + 1, 1, none⟩ = false := hf106 _ _ (.int .u64 (loW (mxK (pK al ah bl bh) k))) (two_other hi1 (by omega)) (two_fz hif1)
                replace hi1 : w106.cell? ⟨Bl + 1, 1, none⟩ = some (.int .u64 (loW (mxK (pK al ah bl bh) k))) := hk106 _ _ _ (two_other hi1 (by omega))
                replace p0 : w106.cell? ⟨Bp, 0, none⟩ = some (.int .i64 (hiW (pK al ah bl bh k))) := hk106 _ _ _ (two_other p0 (by omega))
                replace p1 : w106.cell? ⟨Bp, 1, none⟩ = some (.int .u64 (loW (pK al ah bl bh k))) := hk106 _ _ _ (two_other p1 (by omega))
                (try clear Lb); have Lb : B < w106.heap.size := World.block_lt_of_cell? w106 ⟨B, 0, none⟩ L0
                (try clear zb); have zb : Z < w106.heap.size := World.block_lt_of_cell? w106 ⟨Z, 0, none⟩ z0
                (try clear lob); have lob : Bl < w106.heap.size := World.block_lt_of_cell? w106 ⟨Bl, 0, none⟩ lo0
                (try clear hib); have hib : Bl + 1 < w106.heap.size := World.block_lt_of_cell? w106 ⟨Bl + 1, 0, none⟩ hi0
                (try clear pb); have pb : Bp < w106.heap.size := World.block_lt_of_cell? w106 ⟨Bp, 0, none⟩ p0
                clear hk106 hf106
                go_wp2_with fail
                go_roundw
                case rel => exact ⟨k + 1, by go_num, by omega, by rw [M1.out, M2.out]; exact ⟨L0, L1, L2, L3, L4, L5, L6, L7, z0, z1, zf0, zf1, lo0, lo1, lof0, lof1, hi0, hi1, hif0, hif1⟩, by assumption⟩
                case measure => first | (simp [intOf]; done) | (simp [intOf]; omega)
            · rw [if_neg c1] at m1
              have d1' := decide_eq_false c1
              by_cases c2 : mxK (pK al ah bl bh) k < pK al ah bl bh k
              · rw [if_pos c2] at m2
                have d2' := decide_eq_true c2
                have M1 := hid m1; have M2 := hid m2; clear m1 m2 c1 c2
                go_wp2_with fail
                refine useF w (less_any _ _ _ w1'.out) (by go_grown) ?_; rintro e w103 rfl hB103 hk103 hf103 hs103; clear hs103
                replace L0 : w103.cell? ⟨B, 0, none⟩ = some (.int .i64 al) := hk103 _ _ _ (L0)
                replace L1 : w103.cell? ⟨B, 1, none⟩ = some (.int .i64 bl) := hk103 _ _ _ (L1)
                replace L2 : w103.cell? ⟨B, 2, none⟩ = some (.int .i64 al) := hk103 _ _ _ (L2)
                replace L3 : w103.cell? ⟨B, 3, none⟩ = some (.int .i64 bh) := hk103 _ _ _ (L3)
                replace L4 : w103.cell? ⟨B, 4, none⟩ = some (.int .i64 ah) := hk103 _ _ _ (L4)
                replace L5 : w103.cell? ⟨B, 5, none⟩ = some (.int .i64 bl) := hk103 _ _ _ (L5)
                replace L6 : w103.cell? ⟨B, 6, none⟩ = some (.int .i64 ah) := hk103 _ _ _ (L6)
                replace L7 : w103.cell? ⟨B, 7, none⟩ = some (.int .i64 bh) := hk103 _ _ _ (L7)
                replace zf0 : w103.frozen? ⟨Z, 0, none⟩ = false := hf103 _ _ (.int .i64 0) (z0) (zf0)
                replace z0 : w103.cell? ⟨Z, 0, none⟩ = some (.int .i64 0) := hk103 _ _ _ (z0)
                replace zf1 : w103.frozen? ⟨Z, 1, none⟩ = false := hf103 _ _ (.int .i64 0) (z1) (zf1)
                replace z1 : w103.cell? ⟨Z, 1, none⟩ = some (.int .i64 0) := hk103 _ _ _ (z1)
                replace lof0 : w103.frozen? ⟨Bl, 0, none⟩ = false := hf103 _ _ (.int .i64 (hiW (mnK (pK al ah bl bh) k))) (lo0) (lof0)
                replace lo0 : w103.cell? ⟨Bl, 0, none⟩ = some (.int .i64 (hiW (mnK (pK al ah bl bh) k))) := hk103 _ _ _ (lo0)
                replace lof1 : w103.frozen? ⟨Bl, 1, none⟩ = false := hf103 _ _ (.int .u64 (loW (mnK (pK al ah bl bh) k))) (lo1) (lof1)
                replace lo1 : w103.cell? ⟨Bl, 1, none⟩ = some (.int .u64 (loW (mnK (pK al ah bl bh) k))) := hk103 _ _ _ (lo1)
                replace hif0 : w103.frozen? ⟨Bl + 1, 0, none⟩ = false := hf103 _ _ (.int .i64 (hiW (mxK (pK al ah bl bh) k))) (hi0) (hif0)
                replace hi0 : w103.cell? ⟨Bl + 1, 0, none⟩ = some (.int .i64 (hiW (mxK (pK al ah bl bh) k))) := hk103 _ _ _ (hi0)
                replace hif1 : w103.frozen? ⟨Bl + 1, 1, none⟩ = false := hf103 _ _ (.int .u64 (loW (mxK (pK al ah bl bh) k))) (hi1) (hif1)
                replace hi1 : w103.cell? ⟨Bl + 1, 1, none⟩ = some (.int .u64 (loW (mxK (pK al ah bl bh) k))) := hk103 _ _ _ (hi1)
                replace p0 : w103.cell? ⟨Bp, 0, none⟩ = some (.int .i64 (hiW (pK al ah bl bh k))) := hk103 _ _ _ (p0)
                replace p1 : w103.cell? ⟨Bp, 1, none⟩ = some (.int .u64 (loW (pK al ah bl bh k))) := hk103 _ _ _ (p1)
                (try clear Lb); have Lb : B < w103.heap.size := World.block_lt_of_cell? w103 ⟨B, 0, none⟩ L0
                (try clear zb); have zb : Z < w103.heap.size := World.block_lt_of_cell? w103 ⟨Z, 0, none⟩ z0
                (try clear lob); have lob : Bl < w103.heap.size := World.block_lt_of_cell? w103 ⟨Bl, 0, none⟩ lo0
                (try clear hib); have hib : Bl + 1 < w103.heap.size := World.block_lt_of_cell? w103 ⟨Bl + 1, 0, none⟩ hi0
                (try clear pb); have pb : Bp < w103.heap.size := World.block_lt_of_cell? w103 ⟨Bp, 0, none⟩ p0
                clear hk103 hf103
                go_wp2_with fail
                refine useF w (less_any _ _ _ w2'.out) (by go_grown) ?_; rintro e w104 rfl hB104 hk104 hf104 hs104; clear hs104
                replace L0 : w104.cell? ⟨B, 0, none⟩ = some (.int .i64 al) := hk104 _ _ _ (L0)
                replace L1 : w104.cell? ⟨B, 1, none⟩ = some (.int .i64 bl) := hk104 _ _ _ (L1)
                replace L2 : w104.cell? ⟨B, 2, none⟩ = some (.int .i64 al) := hk104 _ _ _ (L2)
                replace L3 : w104.cell? ⟨B, 3, none⟩ = some (.int .i64 bh) := hk104 _ _ _ (L3)
                replace L4 : w104.cell? ⟨B, 4, none⟩ = some (.int .i64 ah) := hk104 _ _ _ (L4)
                replace L5 : w104.cell? ⟨B, 5, none⟩ = some (.int .i64 bl) := hk104 _ _ _ (L5)
                replace L6 : w104.cell? ⟨B, 6, none⟩ = some (.int .i64 ah) := hk104 _ _ _ (L6)
                replace L7 : w104.cell? ⟨B, 7, none⟩ = some (.int .i64 bh) := hk104 _ _ _ (L7)
                replace zf0 : w104.frozen? ⟨Z, 0, none⟩ = false := hf104 _ _ (.int .i64 0) (z0) (zf0)
                replace z0 : w104.cell? ⟨Z, 0, none⟩ = some (.int .i64 0) := hk104 _ _ _ (z0)
                replace zf1 : w104.frozen? ⟨Z, 1, none⟩ = false := hf104 _ _ (.int .i64 0) (z1) (zf1)
                replace z1 : w104.cell? ⟨Z, 1, none⟩ = some (.int .i64 0) := hk104 _ _ _ (z1)
                replace lof0 : w104.frozen? ⟨Bl, 0, none⟩ = false := hf104 _ _ (.int .i64 (hiW (mnK (pK al ah bl bh) k))) (lo0) (lof0)
                replace lo0 : w104.cell? ⟨Bl, 0, none⟩ = some (.int .i64 (hiW (mnK (pK al ah bl bh) k))) := hk104 _ _ _ (lo0)
                replace lof1 : w104.frozen? ⟨Bl, 1, none⟩ = false := hf104 _ _ (.int .u64 (loW (mnK (pK al ah bl bh) k))) (lo1) (lof1)
                replace lo1 : w104.cell? ⟨Bl, 1, none⟩ = some (.int .u64 (loW (mnK (pK al ah bl bh) k))) := hk104 _ _ _ (lo1)
                replace hif0 : w104.frozen? ⟨Bl + 1, 0, none⟩ = false := hf104 _ _ (.int .i64 (hiW (mxK (pK al ah bl bh) k))) (hi0) (hif0)
                replace hi0 : w104.cell? ⟨Bl + 1, 0, none⟩ = some (.int .i64 (hiW (mxK (pK al ah bl bh) k))) := hk104 _ _ _ (hi0)
                replace hif1 : w104.frozen? ⟨Bl + 1, 1, none⟩ = false := hf104 _ _ (.int .u64 (loW (mxK (pK al ah bl bh) k))) (hi1) (hif1)
                replace hi1 : w104.cell? ⟨Bl + 1, 1, none⟩ = some (.int .u64 (loW (mxK (pK al ah bl bh) k))) := hk104 _ _ _ (hi1)
                replace p0 : w104.cell? ⟨Bp, 0, none⟩ = some (.int .i64 (hiW (pK al ah bl bh k))) := hk104 _ _ _ (p0)
                replace p1 : w104.cell? ⟨Bp, 1, none⟩ = some (.int .u64 (loW (pK al ah bl bh k))) := hk104 _ _ _ (p1)
                (try clear Lb); have Lb : B < w104.heap.size := World.block_lt_of_cell? w104 ⟨B, 0, none⟩ L0
                (try clear zb); have zb : Z < w104.heap.size := World.block_lt_of_cell? w104 ⟨Z, 0, none⟩ z0
                (try clear lob); have lob : Bl < w104.heap.size := World.block_lt_of_cell? w104 ⟨Bl, 0, none⟩ lo0
                (try clear hib); have hib : Bl + 1 < w104.heap.size := World.block_lt_of_cell? w104 ⟨Bl + 1, 0, none⟩ hi0
                (try clear pb); have pb : Bp < w104.heap.size := World.block_lt_of_cell? w104 ⟨Bp, 0, none⟩ p0
                clear hk104 hf104
                go_wp2_with fail
                have hBs : Below w.heap.size w ((w104.setCell ⟨Bl + 1, 0, none⟩ (.int .i64 (hiW (pK al ah bl bh k)))).setCell ⟨Bl + 1, 1, none⟩ (.int .u64 (loW (pK al ah bl bh k)))) := by go_grown
                replace L0 : ((w104.setCell ⟨Bl + 1, 0, none⟩ (.int .i64 (hiW (pK al ah bl bh k)))).setCell ⟨Bl + 1, 1, none⟩ (.int .u64 (loW (pK al ah bl bh k)))).cell? ⟨B, 0, none⟩ = some (.int .i64 al) := two_other L0 (by omega)
                replace L1 : ((w104.setCell ⟨Bl + 1, 0, none⟩ (.int .i64 (hiW (pK al ah bl bh k)))).setCell ⟨Bl + 1, 1, none⟩ (.int .u64 (loW (pK al ah bl bh k)))).cell? ⟨B, 1, none⟩ = some (.int .i64 bl) := two_other L1 (by omega)
                replace L2 : ((w104.setCell ⟨Bl + 1, 0, none⟩ (.int .i64 (hiW (pK al ah bl bh k)))).setCell ⟨Bl + 1, 1, none⟩ (.int .u64 (loW (pK al ah bl bh k)))).cell? ⟨B, 2, none⟩ = some (.int .i64 al) := two_other L2 (by omega)
                replace L3 : ((w104.setCell ⟨Bl + 1, 0, none⟩ (.int .i64 (hiW (pK al ah bl bh k)))).setCell ⟨Bl + 1, 1, none⟩ (.int .u64 (loW (pK al ah bl bh k)))).cell? ⟨B, 3, none⟩ = some (.int .i64 bh) := two_other L3 (by omega)
                replace L4 : ((w104.setCell ⟨Bl + 1, 0, none⟩ (.int .i64 (hiW (pK al ah bl bh k)))).setCell ⟨Bl + 1, 1, none⟩ (.int .u64 (loW (pK al ah bl bh k)))).cell? ⟨B, 4, none⟩ = some (.int .i64 ah) := two_other L4 (by omega)
                replace L5 : ((w104.setCell ⟨Bl + 1, 0, none⟩ (.int .i64 (hiW (pK al ah bl bh k)))).setCell ⟨Bl + 1, 1, none⟩ (.int .u64 (loW (pK al ah bl bh k)))).cell? ⟨B, 5, none⟩ = some (.int .i64 bl) := two_other L5 (by omega)
                replace L6 : ((w104.setCell ⟨Bl + 1, 0, none⟩ (.int .i64 (hiW (pK al ah bl bh k)))).setCell ⟨Bl + 1, 1, none⟩ (.int .u64 (loW (pK al ah bl bh k)))).cell? ⟨B, 6, none⟩ = some (.int .i64 ah) := two_other L6 (by omega)
                replace L7 : ((w104.setCell ⟨Bl + 1, 0, none⟩ (.int .i64 (hiW (pK al ah bl bh k)))).setCell ⟨Bl + 1, 1, none⟩ (.int .u64 (loW (pK al ah bl bh k)))).cell? ⟨B, 7, none⟩ = some (.int .i64 bh) := two_other L7 (by omega)
                replace zf0 : ((w104.setCell ⟨Bl + 1, 0, none⟩ (.int .i64 (hiW (pK al ah bl bh k)))).setCell ⟨Bl + 1, 1, none⟩ (.int .u64 (loW (pK al ah bl bh k)))).frozen? ⟨Z, 0, none⟩ = false := two_fz zf0
                replace z0 : ((w104.setCell ⟨Bl + 1, 0, none⟩ (.int .i64 (hiW (pK al ah bl bh k)))).setCell ⟨Bl + 1, 1, none⟩ (.int .u64 (loW (pK al ah bl bh k)))).cell? ⟨Z, 0, none⟩ = some (.int .i64 0) := two_other z0 (by omega)
                replace zf1 : ((w104.setCell ⟨Bl + 1, 0, none⟩ (.int .i64 (hiW (pK al ah bl bh k)))).setCell ⟨Bl + 1, 1, none⟩ (.int .u64 (loW (pK al ah bl bh k)))).frozen? ⟨Z, 1, none⟩ = false := two_fz zf1
                replace z1 : ((w104.setCell ⟨Bl + 1, 0, none⟩ (.int .i64 (hiW (pK al ah bl bh k)))).setCell ⟨Bl + 1, 1, none⟩ (.int .u64 (loW (pK al ah bl bh k)))).cell? ⟨Z, 1, none⟩ = some (.int .i64 0) := two_other z1 (by omega)
                replace lof0 : ((w104.setCell ⟨Bl + 1, 0, none⟩ (.int .i64 (hiW (pK al ah bl bh k)))).setCell ⟨Bl + 1, 1, none⟩ (.int .u64 (loW (pK al ah bl bh k)))).frozen? ⟨Bl, 0, none⟩ = false := two_fz lof0
                replace lo0 : ((w104.setCell ⟨Bl + 1, 0, none⟩ (.int .i64 (hiW (pK al ah bl bh k)))).setCell ⟨Bl + 1, 1, none⟩ (.int .u64 (loW (pK al ah bl bh k)))).cell? ⟨Bl, 0, none⟩ = some (.int .i64 (hiW (mnK (pK al ah bl bh) k))) := two_other lo0 (by omega)
                replace lof1 : ((w104.setCell ⟨Bl + 1, 0, none⟩ (.int .i64 (hiW (pK al ah bl bh k)))).setCell ⟨Bl + 1, 1, none⟩ (.int .u64 (loW (pK al ah bl bh k)))).frozen? ⟨Bl, 1, none⟩ = false := two_fz lof1
                replace lo1 : ((w104.setCell ⟨Bl + 1, 0, none⟩ (.int .i64 (hiW (pK al ah bl bh k)))).setCell ⟨Bl + 1, 1, none⟩ (.int .u64 (loW (pK al ah bl bh k)))).cell? ⟨Bl, 1, none⟩ = some (.int .u64 (loW (mnK (pK al ah bl bh) k))) := two_other lo1 (by omega)
                replace hif0 : ((w104.setCell ⟨Bl + 1, 0, none⟩ (.int .i64 (hiW (pK al ah bl bh k)))).setCell ⟨Bl + 1, 1, none⟩ (.int .u64 (loW (pK al ah bl bh k)))).frozen? ⟨Bl + 1, 0, none⟩ = false := two_fz hif0
                replace hi0 : ((w104.setCell ⟨Bl + 1, 0, none⟩ (.int .i64 (hiW (pK al ah bl bh k)))).setCell ⟨Bl + 1, 1, none⟩ (.int .u64 (loW (pK al ah bl bh k)))).cell? ⟨Bl + 1, 0, none⟩ = some (.int .i64 (hiW (pK al ah bl bh k))) := two_0 hi0
                replace hif1 : ((w104.setCell ⟨Bl + 1, 0, none⟩ (.int .i64 (hiW (pK al ah bl bh k)))).setCell ⟨Bl + 1, 1, none⟩ (.int .u64 (loW (pK al ah bl bh k)))).frozen? ⟨Bl + 1, 1, none⟩ = false := two_fz hif1
                replace hi1 : ((w104.setCell ⟨Bl + 1, 0, none⟩ (.int .i64 (hiW (pK al ah bl bh k)))).setCell ⟨Bl + 1, 1, none⟩ (.int .u64 (loW (pK al ah bl bh k)))).cell? ⟨Bl + 1, 1, none⟩ = some (.int .u64 (loW (pK al ah bl bh k))) := two_1 hi1
                replace p0 : ((w104.setCell ⟨Bl + 1, 0, none⟩ (.int .i64 (hiW (pK al ah bl bh k)))).setCell ⟨Bl + 1, 1, none⟩ (.int .u64 (loW (pK al ah bl bh k)))).cell? ⟨Bp, 0, none⟩ = some (.int .i64 (hiW (pK al ah bl bh k))) := two_other p0 (by omega)
                replace p1 : ((w104.setCell ⟨Bl + 1, 0, none⟩ (.int .i64 (hiW (pK al ah bl bh k)))).setCell ⟨Bl + 1, 1, none⟩ (.int .u64 (loW (pK al ah bl bh k)))).cell? ⟨Bp, 1, none⟩ = some (.int .u64 (loW (pK al ah bl bh k))) := two_other p1 (by omega)
                generalize ((w104.setCell ⟨Bl + 1, 0, none⟩ (.int .i64 (hiW (pK al ah bl bh k)))).setCell ⟨Bl + 1, 1, none⟩ (.int .u64 (loW (pK al ah bl bh k)))) = wS at *
                go_roundw
                case rel => exact ⟨k + 1, by go_num, by omega, by rw [M1.out, M2.out]; exact ⟨L0, L1, L2, L3, L4, L5, L6, L7, z0, z1, zf0, zf1, lo0, lo1, lof0, lof1, hi0, hi1, hif0, hif1⟩, by assumption⟩
                case measure => first | (simp [intOf]; done) | (simp [intOf]; omega)
              · rw [if_neg c2] at m2
                have d2' := decide_eq_false c2
                have M1 := hid m1; have M2 := hid m2; clear m1 m2 c1 c2
                go_wp2_with fail
                refine useF w (less_any _ _ _ w1'.out) (by go_grown) ?_; rintro e w101 rfl hB101 hk101 hf101 hs101; clear hs101
                replace L0 : w101.cell? ⟨B, 0, none⟩ = some (.int .i64 al) := hk101 _ _ _ (L0)
                replace L1 : w101.cell? ⟨B, 1, none⟩ = some (.int .i64 bl) := hk101 _ _ _ (L1)
                replace L2 : w101.cell? ⟨B, 2, none⟩ = some (.int .i64 al) := hk101 _ _ _ (L2)
                replace L3 : w101.cell? ⟨B, 3, none⟩ = some (.int .i64 bh) := hk101 _ _ _ (L3)
                replace L4 : w101.cell? ⟨B, 4, none⟩ = some (.int .i64 ah) := hk101 _ _ _ (L4)
                replace L5 : w101.cell? ⟨B, 5, none⟩ = some (.int .i64 bl) := hk101 _ _ _ (L5)
                replace L6 : w101.cell? ⟨B, 6, none⟩ = some (.int .i64 ah) := hk101 _ _ _ (L6)
                replace L7 : w101.cell? ⟨B, 7, none⟩ = some (.int .i64 bh) := hk101 _ _ _ (L7)
                replace zf0 : w101.frozen? ⟨Z, 0, none⟩ = false := hf101 _ _ (.int .i64 0) (z0) (zf0)
                replace z0 : w101.cell? ⟨Z, 0, none⟩ = some (.int .i64 0) := hk101 _ _ _ (z0)
                replace zf1 : w101.frozen? ⟨Z, 1, none⟩ = false := hf101 _ _ (.int .i64 0) (z1) (zf1)
                replace z1 : w101.cell? ⟨Z, 1, none⟩ = some (.int .i64 0) := hk101 _ _ _ (z1)
                replace lof0 : w101.frozen? ⟨Bl, 0, none⟩ = false := hf101 _ _ (.int .i64 (hiW (mnK (pK al ah bl bh) k))) (lo0) (lof0)
                replace lo0 : w101.cell? ⟨Bl, 0, none⟩ = some (.int .i64 (hiW (mnK (pK al ah bl bh) k))) := hk101 _ _ _ (lo0)
                replace lof1 : w101.frozen? ⟨Bl, 1, none⟩ = false := hf101 _ _ (.int .u64 (loW (mnK (pK al ah bl bh) k))) (lo1) (lof1)
                replace lo1 : w101.cell? ⟨Bl, 1, none⟩ = some (.int .u64 (loW (mnK (pK al ah bl bh) k))) := hk101 _ _ _ (lo1)
                replace hif0 : w101.frozen? ⟨Bl + 1, 0, none⟩ = false := hf101 _ _ (.int .i64 (hiW (mxK (pK al ah bl bh) k))) (hi0) (hif0)
                replace hi0 : w101.cell? ⟨Bl + 1, 0, none⟩ = some (.int .i64 (hiW (mxK (pK al ah bl bh) k))) := hk101 _ _ _ (hi0)
                replace hif1 : w101.frozen? ⟨Bl + 1, 1, none⟩ = false := hf101 _ _ (.int .u64 (loW (mxK (pK al ah bl bh) k))) (hi1) (hif1)
                replace hi1 : w101.cell? ⟨Bl + 1, 1, none⟩ = some (.int .u64 (loW (mxK (pK al ah bl bh) k))) := hk101 _ _ _ (hi1)
                replace p0 : w101.cell? ⟨Bp, 0, none⟩ = some (.int .i64 (hiW (pK al ah bl bh k))) := hk101 _ _ _ (p0)
                replace p1 : w101.cell? ⟨Bp, 1, none⟩ = some (.int .u64 (loW (pK al ah bl bh k))) := hk101 _ _ _ (p1)
                (try clear Lb); have Lb : B < w101.heap.size := World.block_lt_of_cell? w101 ⟨B, 0, none⟩ L0
                (try clear zb); have zb : Z < w101.heap.size := World.block_lt_of_cell? w101 ⟨Z, 0, none⟩ z0
                (try clear lob); have lob : Bl < w101.heap.size := World.block_lt_of_cell? w101 ⟨Bl, 0, none⟩ lo0
                (try clear hib); have hib : Bl + 1 < w101.heap.size := World.block_lt_of_cell? w101 ⟨Bl + 1, 0, none⟩ hi0
                (try clear pb); have pb : Bp < w101.heap.size := World.block_lt_of_cell? w101 ⟨Bp, 0, none⟩ p0
                clear hk101 hf101
                go_wp2_with fail
                refine useF w (less_any _ _ _ w2'.out) (by go_grown) ?_; rintro e w102 rfl hB102 hk102 hf102 hs102; clear hs102
                replace L0 : w102.cell? ⟨B, 0, none⟩ = some (.int .i64 al) := hk102 _ _ _ (L0)
                replace L1 : w102.cell? ⟨B, 1, none⟩ = some (.int .i64 bl) := hk102 _ _ _ (L1)
                replace L2 : w102.cell? ⟨B, 2, none⟩ = some (.int .i64 al) := hk102 _ _ _ (L2)
                replace L3 : w102.cell? ⟨B, 3, none⟩ = some (.int .i64 bh) := hk102 _ _ _ (L3)
                replace L4 : w102.cell? ⟨B, 4, none⟩ = some (.int .i64 ah) := hk102 _ _ _ (L4)
                replace L5 : w102.cell? ⟨B, 5, none⟩ = some (.int .i64 bl) := hk102 _ _ _ (L5)
                replace L6 : w102.cell? ⟨B, 6, none⟩ = some (.int .i64 ah) := hk102 _ _ _ (L6)
                replace L7 : w102.cell? ⟨B, 7, none⟩ = some (.int .i64 bh) := hk102 _ _ _ (L7)
                replace zf0 : w102.frozen? ⟨Z, 0, none⟩ = false := hf102 _ _ (.int .i64 0) (z0) (zf0)
                replace z0 : w102.cell? ⟨Z, 0, none⟩ = some (.int .i64 0) := hk102 _ _ _ (z0)
                replace zf1 : w102.frozen? ⟨Z, 1, none⟩ = false := hf102 _ _ (.int .i64 0) (z1) (zf1)
                replace z1 : w102.cell? ⟨Z, 1, none⟩ = some (.int .i64 0) := hk102 _ _ _ (z1)
                replace lof0 : w102.frozen? ⟨Bl, 0, none⟩ = false := hf102 _ _ (.int .i64 (hiW (mnK (pK al ah bl bh) k))) (lo0) (lof0)
                replace lo0 : w102.cell? ⟨Bl, 0, none⟩ = some (.int .i64 (hiW (mnK (pK al ah bl bh) k))) := hk102 _ _ _ (lo0)
                replace lof1 : w102.frozen? ⟨Bl, 1, none⟩ = false := hf102 _ _ (.int .u64 (loW (mnK (pK al ah bl bh) k))) (lo1) (lof1)
                replace lo1 : w102.cell? ⟨Bl, 1, none⟩ = some (.int .u64 (loW (mnK (pK al ah bl bh) k))) := hk102 _ _ _ (lo1)
                replace hif0 : w102.frozen? ⟨Bl + 1, 0, none⟩ = false := hf102 _ _ (.int .i64 (hiW (mxK (pK al ah bl bh) k))) (hi0) (hif0)
                replace hi0 : w102.cell? ⟨Bl + 1, 0, none⟩ = some (.int .i64 (hiW (mxK (pK al ah bl bh) k))) := hk102 _ _ _ (hi0)
                replace hif1 : w102.frozen? ⟨Bl + 1, 1, none⟩ = false := hf102 _ _ (.int .u64 (loW (mxK (pK al ah bl bh) k))) (hi1) (hif1)
                replace hi1 : w102.cell? ⟨Bl + 1, 1, none⟩ = some (.int .u64 (loW (mxK (pK al ah bl bh) k))) := hk102 _ _ _ (hi1)
                replace p0 : w102.cell? ⟨Bp, 0, none⟩ = some (.int .i64 (hiW (pK al ah bl bh k))) := hk102 _ _ _ (p0)
                replace p1 : w102.cell? ⟨Bp, 1, none⟩ = some (.int .u64 (loW (pK al ah bl bh k))) := hk102 _ _ _ (p1)
                (try clear Lb); have Lb : B < w102.heap.size := World.block_lt_of_cell? w102 ⟨B, 0, none⟩ L0
                (try clear zb); have zb : Z < w102.heap.size := World.block_lt_of_cell? w102 ⟨Z, 0, none⟩ z0
                (try clear lob); have lob : Bl < w102.heap.size := World.block_lt_of_cell? w102 ⟨Bl, 0, none⟩ lo0
                (try clear hib); have hib : Bl + 1 < w102.heap.size := World.block_lt_of_cell? w102 ⟨Bl + 1, 0, none⟩ hi0
                (try clear pb); have pb : Bp < w102.heap.size := World.block_lt_of_cell? w102 ⟨Bp, 0, none⟩ p0
                clear hk102 hf102
                go_wp2_with fail
                go_roundw
                case rel => exact ⟨k + 1, by go_num, by omega, by rw [M1.out, M2.out]; exact ⟨L0, L1, L2, L3, L4, L5, L6, L7, z0, z1, zf0, zf1, lo0, lo1, lof0, lof1, hi0, hi1, hif0, hif1⟩, by assumption⟩
                case measure => first | (simp [intOf]; done) | (simp [intOf]; omega)
  · have hp := hid (show mulS al ah bl bh = (0, 0, 2) from if_neg (by omega))
    go_enter Try.func30, Try.ntmps30
    go_wp2_with fail
    refine useF w (rboth_any _ _ _ _ _ (by omega)) (by go_grown) ?_; rintro e w1 rfl hB1 hk1 hf1 hs1
    replace f20 : w1.frozen? ⟨w.heap.size + 1 + 1, 0, none⟩ = false := hf1 _ _ (.int .i64 0) (by simp [go_sem]) (by simp [go_sem])
    replace f21 : w1.frozen? ⟨w.heap.size + 1 + 1, 1, none⟩ = false := hf1 _ _ (.int .i64 0) (by simp [go_sem]) (by simp [go_sem])
    replace p00 : w1.cell? ⟨w.heap.size, 0, none⟩ = some (.int .i64 al) := hk1 _ _ _ (by simp [go_sem])
    replace p01 : w1.cell? ⟨w.heap.size, 1, none⟩ = some (.int .i64 ah) := hk1 _ _ _ (by simp [go_sem])
    replace p10 : w1.cell? ⟨w.heap.size + 1, 0, none⟩ = some (.int .i64 bl) := hk1 _ _ _ (by simp [go_sem])
    replace p11 : w1.cell? ⟨w.heap.size + 1, 1, none⟩ = some (.int .i64 bh) := hk1 _ _ _ (by simp [go_sem])
    replace p20 : w1.cell? ⟨w.heap.size + 1 + 1, 0, none⟩ = some (.int .i64 0) := hk1 _ _ _ (by simp [go_sem])
    replace p21 : w1.cell? ⟨w.heap.size + 1 + 1, 1, none⟩ = some (.int .i64 0) := hk1 _ _ _ (by simp [go_sem])
    have bp00 : w.heap.size < w1.heap.size := World.block_lt_of_cell? w1 ⟨w.heap.size, 0, none⟩ p00
    have bp10 : w.heap.size + 1 < w1.heap.size := World.block_lt_of_cell? w1 ⟨w.heap.size + 1, 0, none⟩ p10
    have bp20 : w.heap.size + 1 + 1 < w1.heap.size := World.block_lt_of_cell? w1 ⟨w.heap.size + 1 + 1, 0, none⟩ p20
    clear hk1 hf1
    go_wp2_with fail
    all_goals (refine' bodyPost_ret (res_st_t rfl isA_S isS_S rfl ?_ ?_) rfl ?_; rotate_left 2; (· ((try simp only [World.cell?_drew]); first | (with_reducible exact two_0 (by assumption)) | (with_reducible exact two_1 (by assumption)) | (with_reducible exact two_other (two_0 (by assumption)) (by simp)) | (with_reducible exact two_other (two_1 (by assumption)) (by simp)) | (with_reducible exact two_0 (two_other (by assumption) (by simp))) | (with_reducible exact two_1 (two_other (by assumption) (by simp))) | (simp (maxDischargeDepth := 8) [go_sem, hHeld]; rfl) | (simp (maxDischargeDepth := 8) [go_sem, *]; rfl) | (simp (maxDischargeDepth := 8) [go_sem, *]; done))); (· ((try simp only [World.cell?_drew]); first | (with_reducible exact two_0 (by assumption)) | (with_reducible exact two_1 (by assumption)) | (with_reducible exact two_other (two_0 (by assumption)) (by simp)) | (with_reducible exact two_other (two_1 (by assumption)) (by simp)) | (with_reducible exact two_0 (two_other (by assumption) (by simp))) | (with_reducible exact two_1 (two_other (by assumption) (by simp))) | (simp (maxDischargeDepth := 8) [go_sem, hHeld]; rfl) | (simp (maxDischargeDepth := 8) [go_sem, *]; rfl) | (simp (maxDischargeDepth := 8) [go_sem, *]; done))); refine ⟨ret_r ?_, by go_grown⟩; (exact hp.out.symm))
end Go.Proofs.Ytjleflfncijnpaa
