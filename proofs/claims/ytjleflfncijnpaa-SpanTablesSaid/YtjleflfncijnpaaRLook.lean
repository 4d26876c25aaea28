/- Look, of the document's answer: of a valid table and a valid span. -/
import Derived.Deep.DeepCutAuto
import Derived.Deep.CutBlock
import Derived.Deep.AppendLies
import Derived.Test.YtjleflfncijnpaaRows
import Derived.Test.YtjleflfncijnpaaBase
import Derived.Test.YtjleflfncijnpaaFacts
import Derived.Test.YtjleflfncijnpaaTwo
import Derived.Deep.RegionHeld3
import Derived.Deep.RegionWith
import Derived.Deep.QuietTactic
import Derived.BigQuiet
import Derived.Test.YtjleflfncijnpaaW
import Derived.Test.YtjleflfncijnpaaAsks
import Derived.Test.YtjleflfncijnpaaOut
import Derived.Test.YtjleflfncijnpaaSeq
import Derived.Test.YtjleflfncijnpaaTwo
import Derived.Test.YtjleflfncijnpaaQuo
import Derived.Test.YtjleflfncijnpaaTabM
import Derived.Test.YtjleflfncijnpaaLookM
import Derived.Test.YtjleflfncijnpaaThree
import Derived.Test.YtjleflfncijnpaaTable
import Derived.Test.YtjleflfncijnpaaLookB
import Derived.Test.YtjleflfncijnpaaLookC
import Derived.Test.YtjleflfncijnpaaRLookM
set_option linter.unusedVariables false
set_option linter.unusedSimpArgs false
set_option maxHeartbeats 4000000
set_option maxRecDepth 100000
namespace Go.Proofs.Ytjleflfncijnpaa
open Go Go.RowKit
/-- The cells of a list of numbers. -/
def Row (B o : Nat) (ps : List Int) (w : World) : Prop := ∀ (i : Nat) (n : Int), ps[i]? = some n → w.cell? ⟨B, o + i, none⟩ = some (.int .i64 n)
theorem Row.keep {B o : Nat} {l : List Int} {w w1 : World} (h : Row B o l w) (hk : ∀ b o v, w.cell? ⟨b, o, none⟩ = some v → w1.cell? ⟨b, o, none⟩ = some v) : Row B o l w1 := fun i p hp => hk _ _ _ (h i p hp)
theorem Row.alloc {B o : Nat} {l : List Int} {w : World} (h : Row B o l w) (x : Obj) : Row B o l (w.alloc x) := fun i p hp => keepA _ (h i p hp)
theorem Row.drew {B o : Nat} {l : List Int} {w : World} (h : Row B o l w) : Row B o l w.drew := fun i p hp => by rw [World.cell?_drew]; exact h i p hp
theorem Row.two {B o b : Nat} {l : List Int} {w : World} {x y : Value} (h : Row B o l w) (hne : b ≠ B) : Row B o l ((w.setCell ⟨b, 0, none⟩ x).setCell ⟨b, 1, none⟩ y) := fun i p hp => two_other (h i p hp) hne
theorem Try.infoN : (Try.prog.info? 22).map (fun i => (i.zero, i.size, i.bytes)) = some (some (.int .i64 0), 1, 8) := by kernel_rfl
theorem places_mono {l : List (Int × Int × Int)} {xl xh : Int} {k : Nat} {n : Int} (h : n ∈ placesL l xl xh k) : n = xl ∨ n = xh ∨ ∃ p ∈ l, n = p.1 := places_mem h
theorem add_at (g j : Nat) : (Addr.mk g 0 none).add j = ⟨g, j, none⟩ := by
  unfold Addr.add; split
  · rename_i h; subst h; rfl
  · simp
theorem row_own {w : World} {base : Nat} {v : Value} {ps : List Int} (h : w.ownsRow base 22 1 v ps.length (ps.map (fun n => .int .i64 n))) (hp : 0 < ps.length) :
    ∃ g cap, v = .slice (some ⟨g, 0, none⟩) ps.length cap ∧ base ≤ g ∧ g < w.heap.size ∧ Row g 0 ps w := by
  obtain ⟨g, cap, hv, hb, hlt⟩ := h.form hp
  refine ⟨g, cap, hv, hb, hlt, fun i n hi => ?_⟩
  have := h.cells (g := g) (by rw [hv]; rfl) i (.int .i64 n) (by rw [List.getElem?_map, hi]; rfl)
  rw [add_at] at this
  rw [Nat.zero_add]
  exact this
theorem own_start (w : World) (base : Nat) (x y : Int) (hb : base ≤ w.heap.size) : (w.alloc (.cells #[.int .i64 x, .int .i64 y] 22)).ownsRow base 22 1 (.slice (some ⟨w.heap.size, 0, none⟩) 2 2) 2 ([x, y].map (fun n => .int .i64 n)) :=
  ⟨by simp, .inr ⟨w.heap.size, 2, _, rfl, hb, heap_alloc_new w _, Nat.le_refl _, by unfold maxLen; omega, rfl, rfl⟩⟩
theorem grown_cell {w w1 : World} {base : Nat} {e : TypeId} {size n : Nat} {v : Value} {xs : List Value} (hown : w.ownsRow base e size v n xs) {W : World} (hW : ∀ b o x, w.cell? ⟨b, o, none⟩ = some x → W.cell? ⟨b, o, none⟩ = some x) (hg : W.grownBy w1 v.ownBlock) :
    ∀ b o x, b < base → w.cell? ⟨b, o, none⟩ = some x → w1.cell? ⟨b, o, none⟩ = some x := fun b o x hb h =>
  hg.cell (hW _ _ _ h) (fun e' => absurd (show base ≤ b from (hown.lt _ e'.symm).1) (by omega))
theorem grown_frozen {w w1 : World} {base : Nat} {e : TypeId} {size n : Nat} {v : Value} {xs : List Value} (hown : w.ownsRow base e size v n xs) {W : World} (hg : W.grownBy w1 v.ownBlock) {b o : Nat} (hb : b < base) (hbW : b < W.heap.size) (h : W.frozen? ⟨b, o, none⟩ = false) :
    w1.frozen? ⟨b, o, none⟩ = false := (World.frozen?_of_block (hg.block b hbW (fun e' => absurd (show base ≤ b from (hown.lt _ e'.symm).1) (by omega)))).trans h
theorem Tab.grown {B o base : Nat} {l : List (Int × Int × Int)} {w w1 : World} (h : Tab B o l w) (hB : B < base) (hk : ∀ b o x, b < base → w.cell? ⟨b, o, none⟩ = some x → w1.cell? ⟨b, o, none⟩ = some x) : Tab B o l w1 :=
  fun i p hp => let ⟨h0, h1, h2⟩ := h i p hp; ⟨hk _ _ _ hB h0, hk _ _ _ hB h1, hk _ _ _ hB h2⟩
/-- The cells of the span and of the result. -/
def LX (b : Nat) (xl xh : Int) : World → Prop := (fun w' => w'.cell? ⟨b, 0, none⟩ = some (.int .i64 xl) ∧ w'.cell? ⟨b, 1, none⟩ = some (.int .i64 xh) ∧ w'.cell? ⟨b + 1, 0, none⟩ = some (.int .i64 0) ∧ w'.cell? ⟨b + 1, 1, none⟩ = some (.int .i64 0) ∧ w'.frozen? ⟨b + 1, 0, none⟩ = false ∧ w'.frozen? ⟨b + 1, 1, none⟩ = false)
/-- The cells of the result, of the least and of the greatest value so far. -/
def LQ (b Bl : Nat) (lo hi : Int) : World → Prop := (fun w' => w'.cell? ⟨b + 1, 0, none⟩ = some (.int .i64 0) ∧ w'.cell? ⟨b + 1, 1, none⟩ = some (.int .i64 0) ∧ w'.frozen? ⟨b + 1, 0, none⟩ = false ∧ w'.frozen? ⟨b + 1, 1, none⟩ = false ∧ w'.cell? ⟨Bl, 0, none⟩ = some (.int .i64 (hiW lo)) ∧ w'.cell? ⟨Bl, 1, none⟩ = some (.int .u64 (loW lo)) ∧ w'.frozen? ⟨Bl, 0, none⟩ = false ∧ w'.frozen? ⟨Bl, 1, none⟩ = false ∧ w'.cell? ⟨Bl + 1, 0, none⟩ = some (.int .i64 (hiW hi)) ∧ w'.cell? ⟨Bl + 1, 1, none⟩ = some (.int .u64 (loW hi)) ∧ w'.frozen? ⟨Bl + 1, 0, none⟩ = false ∧ w'.frozen? ⟨Bl + 1, 1, none⟩ = false)
theorem rlook_go (l : List (Int × Int × Int)) (xl xh r1 r2 : Int) (p : Int × Int × Int) (hpq : Hid (fitS r1 r2 = p)) (B o cap : Nat) (w : World) (ht : Tab B o l w) (hn : 1 ≤ l.length ∧ l.length ≤ 64) (hx : (-9223372036854775808 ≤ xl ∧ xl ≤ 9223372036854775807) ∧ (-9223372036854775808 ≤ xh ∧ xh ≤ 9223372036854775807))
    (hp1 : Hid (∀ p ∈ l, -2305843009213693952 ≤ p.1 ∧ p.1 ≤ 2305843009213693952 ∧ -2305843009213693952 ≤ p.2.1 ∧ p.2.1 ≤ 2305843009213693952 ∧ -2305843009213693952 ≤ p.2.2 ∧ p.2.2 ≤ 2305843009213693952))
    (hr : Hid (accP l (placesL l xl xh l.length) (placesL l xl xh l.length).length = (r1, r2)))
    (hbb : Hid (∀ k, -2305843009213693952 ≤ (accP l (placesL l xl xh l.length) k).1 ∧ (accP l (placesL l xl xh l.length) k).1 ≤ 2305843009213693952 ∧ -2305843009213693952 ≤ (accP l (placesL l xl xh l.length) k).2 ∧ (accP l (placesL l xl xh l.length) k).2 ≤ 2305843009213693952))
    (hbl : Hid (∀ u n, -2305843009213693952 ≤ (rline l u n).1 ∧ (rline l u n).1 ≤ 2305843009213693952 ∧ -2305843009213693952 ≤ (rline l u n).2 ∧ (rline l u n).2 ≤ 2305843009213693952))
    (k1 : Hid (∀ w : World, Tab B o l w → Calls Try.prog 66 #[.slice (some ⟨B, o, none⟩) l.length cap] w fun e w' => e = .returned (.int .i64 0) ∧ Below w.heap.size w w'))
    (k2 : Hid (∀ w : World, Calls Try.prog 19 #[.agg #[.int .i64 xl, .int .i64 xh]] w fun e w' => e = .returned (.int .i64 0) ∧ Below w.heap.size w w'))
    (L : Hid (∀ (u : Bool) (n : Int) (w : World), (-9223372036854775808 ≤ n ∧ n ≤ 9223372036854775807) → Tab B o l w → Calls Try.prog 102 #[.slice (some ⟨B, o, none⟩) l.length cap, .bool u, .int .i64 n] w fun e w' => e = .returned (.tuple #[.agg #[.int .i64 (hiW ((rline l u n).1)), .int .u64 (loW ((rline l u n).1))], .agg #[.int .i64 (hiW ((rline l u n).2)), .int .u64 (loW ((rline l u n).2))] ]) ∧ Below w.heap.size w w')) :
    Calls Try.prog 64 #[.slice (some ⟨B, o, none⟩) l.length cap, .agg #[.int .i64 xl, .int .i64 xh]] w fun e w' => e = .returned (.tuple #[.agg #[.int .i64 p.1, .int .i64 p.2.1], .int .i64 p.2.2]) ∧ Below w.heap.size w w' := by
  have hBw : B < w.heap.size := Tab.lt ht (List.getElem?_eq_getElem (show 0 < l.length by omega))
  have hxx := hid hx
  obtain ⟨i0, hi0, hz0, hz1, hz2⟩ := info_parts Try.infoN
  have hii := hid (And.intro hi0 (And.intro hz0 (And.intro hz1 hz2)))
  clear hx hi0 hz0 hz1 hz2
  go_enter Try.func64, Try.ntmps64
  go_wp2_with fail
  have ht0 := Tab.alloc (.cells #[.int .i64 0, .int .i64 0] 24) (Tab.alloc (.cells #[.int .i64 xl, .int .i64 xh] 24) ht)
  refine useF w (k1.out _ ht0) (by go_grown) ?_; rintro e w1 rfl hB1 hk1 hf1 hs1
  replace ht := Tab.keep ht0 hk1
  have x0 := hk1 w.heap.size 0 (.int .i64 xl) (by simp [go_sem])
  have x1 := hk1 w.heap.size 1 (.int .i64 xh) (by simp [go_sem])
  have z0 := hk1 (w.heap.size + 1) 0 (.int .i64 0) (by simp [go_sem])
  have z1 := hk1 (w.heap.size + 1) 1 (.int .i64 0) (by simp [go_sem])
  have zf0 := hf1 (w.heap.size + 1) 0 (.int .i64 0) (by simp [go_sem]) (by simp [go_sem])
  have zf1 := hf1 (w.heap.size + 1) 1 (.int .i64 0) (by simp [go_sem]) (by simp [go_sem])
  clear hk1 hf1 ht0
  go_wp2_with fail
  refine useF w (k2.out _) (by go_grown) ?_; rintro e w2 rfl hB2 hk2 hf2 hs2
  replace x0 := hk2 _ _ _ x0
  replace x1 := hk2 _ _ _ x1
  (try clear xb); have xb := World.block_lt_of_cell? _ _ x0; (try dsimp only at xb)
  replace zf0 := hf2 _ _ _ z0 zf0
  replace z0 := hk2 _ _ _ z0
  replace zf1 := hf2 _ _ _ z1 zf1
  replace z1 := hk2 _ _ _ z1
  (try clear zb); have zb := World.block_lt_of_cell? _ _ z0; (try dsimp only at zb)
  replace ht := (ht).keep hk2
  have hz2 := hB2.size
  clear hk2 hf2 hs2
  go_upto_block 0 with fail
  have hBb : B < w2.heap.size := by omega
  have hLX : LX w.heap.size xl xh (w2.alloc (.cells #[.int .i64 xl, .int .i64 xh] 22)) := ⟨keepA _ x0, keepA _ x1, keepA _ z0, keepA _ z1, keepAF _ z0 zf0, keepAF _ z1 zf1⟩
  have hOw := own_start w2 (w.heap.size + 1 + 1) xl xh (by omega)
  have htW := Tab.alloc (.cells #[.int .i64 xl, .int .i64 xh] 22) ht
  have hBW : Below w.heap.size w (w2.alloc (.cells #[.int .i64 xl, .int .i64 xh] 22)) := by go_grown
  clear x0 x1 z0 z1 zf0 zf1 ht hB1 hs1 xb zb k1 k2
  generalize hW3 : w2.alloc (.cells #[.int .i64 xl, .int .i64 xh] 22) = W3 at *
  generalize w2.heap.size = G at *
  go_cut [6] (fun v wx => ∃ g cap, v = .slice (some ⟨g, 0, none⟩) (placesL l xl xh l.length).length cap ∧ w.heap.size + 1 < g ∧ Row g 0 (placesL l xl xh l.length) wx ∧ Tab B o l wx ∧ LX w.heap.size xl xh wx ∧ Below w.heap.size w wx)
  case first => as_aux_lemma =>
    go_wp2_with fail
    go_loopw [6, 7] (fun v s wx => ∃ k : Nat, s = .int .i64 k ∧ k ≤ l.length ∧ wx.ownsRow (w.heap.size + 1 + 1) 22 1 v (placesL l xl xh k).length ((placesL l xl xh k).map (fun n => .int .i64 n)) ∧ Tab B o l wx ∧ LX w.heap.size xl xh wx ∧ Below w.heap.size w wx) (fun _ s _ => (l.length - intOf s).toNat)
    case atStart => exact ⟨0, rfl, by omega, hOw, htW, hLX, hBW⟩
    case round =>
      clear hOw htW hLX hBW hW3
      obtain ⟨k, rfl, hk, hown, ht, ⟨x0, x1, z0, z1, zf0, zf1⟩, hB⟩ := hrel
      have hzw := hB.size
      have hbz := World.block_lt_of_cell? _ _ z0
      by_cases ke : k = l.length
      · obtain ⟨g, cap, hv, hg, hgl, hrow⟩ := row_own hown (by have := places_len l xl xh k; omega)
        subst hv
        subst ke
        have kk : ¬ (l.length : Int) < l.length := by omega
        clear hown
        go_wp2_with fail
        go_meet
        exact ⟨_, _, rfl, by omega, hrow, ht, ⟨x0, x1, z0, z1, zf0, zf1⟩, hB⟩
      · have hk1 : k < l.length := by omega
        obtain ⟨q, hq⟩ := get_some hk1
        have hps := places_succ (xl := xl) (xh := xh) hq
        have hpl := places_len l xl xh k
        obtain ⟨c0, -, -⟩ := ht k q hq
        obtain ⟨a, lo, hi⟩ := q
        dsimp only at c0 hps
        have hk0 : (0 : Int) ≤ k := by omega
        have hk2 : (k : Int) < l.length := by omega
        generalize hP : placesL l xl xh k = ps at *
        generalize hQ : placesL l xl xh (k + 1) = qs at *
        replace hps := hid hps
        clear hP
        by_cases c1 : xl ≤ a
        · by_cases c2 : a ≤ xh
          · have e1 : decide (xl ≤ a) = true := decide_eq_true c1
            have e2 : decide (a ≤ xh) = true := decide_eq_true c2
            have hps2 : Hid (qs = ps ++ [a]) := hid (by rw [hps.out, if_pos ⟨c1, c2⟩])
            have hown2 := hid hown
            have ht2 := hid ht
            clear hps c1 c2 hown ht hr hbb hbl hp1 L
            go_wp2_with fail
            refine wp_region_held_drew (S := (fun w' => w'.cell? ⟨w.heap.size, 0, none⟩ = some (.int .i64 xl) ∧ w'.cell? ⟨w.heap.size, 1, none⟩ = some (.int .i64 xh) ∧ w'.cell? ⟨w.heap.size + 1, 0, none⟩ = some (.int .i64 0) ∧ w'.cell? ⟨w.heap.size + 1, 1, none⟩ = some (.int .i64 0) ∧ w'.frozen? ⟨w.heap.size + 1, 0, none⟩ = false ∧ w'.frozen? ⟨w.heap.size + 1, 1, none⟩ = false ∧ w'.cell? ⟨B, o + k * 3, none⟩ = some (.int .i64 a))) (by kernel_rfl) (by (try dsimp only); (first | (exact ⟨hk1 _ _ _ (hOld.1), hk1 _ _ _ (hOld.2.1), hk1 _ _ _ (hOld.2.2.1), hk1 _ _ _ (hOld.2.2.2.1), hf1 _ _ _ (hOld.2.2.1) (hOld.2.2.2.2.1), hf1 _ _ _ (hOld.2.2.2.1) (hOld.2.2.2.2.2.1), hk1 _ _ _ (hOld.2.2.2.2.2.2)⟩) | ((try simp only [World.cell?_drew, World.frozen?_drew]); (repeat' apply And.intro) <;> (first | (with_reducible assumption) | (with_reducible exact ⟨_, by assumption⟩) | (with_reducible exact ⟨_, two_other (by assumption) (by omega)⟩) | (with_reducible exact two_0 (by assumption)) | (with_reducible exact two_1 (by assumption)) | (with_reducible exact two_other (by assumption) (by omega)) | (with_reducible exact two_fz (by assumption)) | (with_reducible exact keepA _ (by assumption)) | (with_reducible exact keepA _ (keepA _ (keepA _ (by assumption)))) | (simp (maxDischargeDepth := 8) [*, go_sem, World.cell?_alloc_some, World.cell?_setCell_far]; done))) | (go_keep; done) | (simp (maxDischargeDepth := 8) [*, go_sem, World.cell?_alloc_some, World.cell?_setCell_far]; done))) (fun hHeld => ?_)
            (refine wpAnyH_take (i := 0) (oi := ⟨some 35, _, _, _, _, none⟩) (v := ?_) rfl (by kernel_rfl) (by kernel_rfl) (by kernel_rfl) (fun _ _ _ h => h) (Or.inl ⟨by rfl, ?_⟩) hHeld ?_; rotate_left; (· (intro w9 hSw; (try dsimp only at hSw); go_simp; (try with_reducible rfl))))
            (try simp only [Act.put, List.setIfInBounds_toArray, List.set_cons_zero, List.set_cons_succ])
            (refine wpAnyH_take (i := 1) (oi := ⟨some 36, _, _, _, _, none⟩) (v := ?_) rfl (by kernel_rfl) (by kernel_rfl) (by kernel_rfl) (fun _ _ _ h => h) (Or.inl ⟨by rfl, ?_⟩) hHeld ?_; rotate_left; (· (intro w9 hSw; (try dsimp only at hSw); go_simp; (try with_reducible rfl))))
            (try simp only [Act.put, List.setIfInBounds_toArray, List.set_cons_zero, List.set_cons_succ])
            (refine wpAnyH_take (i := 2) (oi := ⟨some 37, _, _, _, _, none⟩) (v := ?_) rfl (by kernel_rfl) (by kernel_rfl) (by kernel_rfl) (fun _ _ _ h => h) (Or.inl ⟨by rfl, ?_⟩) hHeld ?_; rotate_left; (· (intro w9 hSw; (try dsimp only at hSw); go_simp; (try with_reducible rfl))))
            (try simp only [Act.put, List.setIfInBounds_toArray, List.set_cons_zero, List.set_cons_succ])
            (refine wpAnyH_take (i := 3) (oi := ⟨some 38, _, _, _, _, none⟩) (v := ?_) rfl (by kernel_rfl) (by kernel_rfl) (by kernel_rfl) (fun _ _ _ h => h) (Or.inl ⟨by rfl, ?_⟩) hHeld ?_; rotate_left; (· (intro w9 hSw; (try dsimp only at hSw); go_simp; (try with_reducible rfl))))
            (try simp only [Act.put, List.setIfInBounds_toArray, List.set_cons_zero, List.set_cons_succ])
            (refine wpAnyH_take (i := 4) (oi := ⟨some 39, _, _, _, _, none⟩) (v := ?_) rfl (by kernel_rfl) (by kernel_rfl) (by kernel_rfl) (fun _ _ _ h => h) (Or.inl ⟨by rfl, ?_⟩) hHeld ?_; rotate_left; (· (intro w9 hSw; (try dsimp only at hSw); go_simp; (try with_reducible rfl))))
            (try simp only [Act.put, List.setIfInBounds_toArray, List.set_cons_zero, List.set_cons_succ])
            (refine wpAnyH_take (i := 5) (oi := ⟨some 40, _, _, _, _, none⟩) (v := ?_) rfl (by kernel_rfl) (by kernel_rfl) (by kernel_rfl) (fun _ _ _ h => h) (Or.inl ⟨by rfl, ?_⟩) hHeld ?_; rotate_left; (· (intro w9 hSw; (try dsimp only at hSw); go_simp; (try with_reducible rfl))))
            (try simp only [Act.put, List.setIfInBounds_toArray, List.set_cons_zero, List.set_cons_succ])
            (refine wpAnyH_take (i := 6) (oi := ⟨some 41, _, _, _, _, none⟩) (v := ?_) rfl (by kernel_rfl) (by kernel_rfl) (by kernel_rfl) (fun _ _ _ h => h) (Or.inl ⟨by rfl, ?_⟩) hHeld ?_; rotate_left; (· (intro w9 hSw; (try dsimp only at hSw); go_simp; (try with_reducible rfl))))
            (try simp only [Act.put, List.setIfInBounds_toArray, List.set_cons_zero, List.set_cons_succ])
            (refine wpAnyH_take (i := 7) (oi := ⟨some 42, _, _, _, _, none⟩) (v := ?_) rfl (by kernel_rfl) (by kernel_rfl) (by kernel_rfl) (fun _ _ _ h => h) (Or.inl ⟨by rfl, ?_⟩) hHeld ?_; rotate_left; (· (intro w9 hSw; (try dsimp only at hSw); go_simp; (try with_reducible rfl))))
            (try simp only [Act.put, List.setIfInBounds_toArray, List.set_cons_zero, List.set_cons_succ])
            (refine wpAnyH_take (i := 8) (oi := ⟨some 43, _, _, _, _, none⟩) (v := ?_) rfl (by kernel_rfl) (by kernel_rfl) (by kernel_rfl) (fun _ _ _ h => h) (Or.inl ⟨by rfl, ?_⟩) hHeld ?_; rotate_left; (· (intro w9 hSw; (try dsimp only at hSw); go_simp; (try with_reducible rfl))))
            (try simp only [Act.put, List.setIfInBounds_toArray, List.set_cons_zero, List.set_cons_succ])
            (first | (refine wpAnyH_take (i := 9) (oi := ⟨some 44, _, _, _, _, some (8, true)⟩) (v := ?_) rfl (by kernel_rfl) (by kernel_rfl) (by kernel_rfl) (fun _ _ _ h => h) (Or.inl ⟨by rfl, ?_⟩) hHeld ?_; rotate_left; (· (intro w9 hSw; (try dsimp only at hSw); go_simp; (try with_reducible rfl)))) | (refine wpAnyH_take (i := 9) (oi := ⟨some 44, _, _, _, _, some (8, true)⟩) (v := undef) rfl (by kernel_rfl) (by kernel_rfl) (by kernel_rfl) (fun _ _ _ h => h) (Or.inr ⟨by rfl, rfl⟩) hHeld ?_))
            (try simp only [Act.put, List.setIfInBounds_toArray, List.set_cons_zero, List.set_cons_succ])
            (first | (refine wpAnyH_take (i := 10) (oi := ⟨some 45, _, _, _, _, some (8, true)⟩) (v := ?_) rfl (by kernel_rfl) (by kernel_rfl) (by kernel_rfl) (fun _ _ _ h => h) (Or.inl ⟨by rfl, ?_⟩) hHeld ?_; rotate_left; (· (intro w9 hSw; (try dsimp only at hSw); go_simp; (try with_reducible rfl)))) | (refine wpAnyH_take (i := 10) (oi := ⟨some 45, _, _, _, _, some (8, true)⟩) (v := undef) rfl (by kernel_rfl) (by kernel_rfl) (by kernel_rfl) (fun _ _ _ h => h) (Or.inr ⟨by rfl, rfl⟩) hHeld ?_))
            (try simp only [Act.put, List.setIfInBounds_toArray, List.set_cons_zero, List.set_cons_succ])
            (first | (refine wpAnyH_take (i := 11) (oi := ⟨some 46, _, _, _, _, some (8, true)⟩) (v := ?_) rfl (by kernel_rfl) (by kernel_rfl) (by kernel_rfl) (fun _ _ _ h => h) (Or.inl ⟨by rfl, ?_⟩) hHeld ?_; rotate_left; (· (intro w9 hSw; (try dsimp only at hSw); go_simp; (try with_reducible rfl)))) | (refine wpAnyH_take (i := 11) (oi := ⟨some 46, _, _, _, _, some (8, true)⟩) (v := undef) rfl (by kernel_rfl) (by kernel_rfl) (by kernel_rfl) (fun _ _ _ h => h) (Or.inr ⟨by rfl, rfl⟩) hHeld ?_))
            (try simp only [Act.put, List.setIfInBounds_toArray, List.set_cons_zero, List.set_cons_succ])
            (first | (refine wpAnyH_take (i := 12) (oi := ⟨some 47, _, _, _, _, some (8, true)⟩) (v := ?_) rfl (by kernel_rfl) (by kernel_rfl) (by kernel_rfl) (fun _ _ _ h => h) (Or.inl ⟨by rfl, ?_⟩) hHeld ?_; rotate_left; (· (intro w9 hSw; (try dsimp only at hSw); go_simp; (try with_reducible rfl)))) | (refine wpAnyH_take (i := 12) (oi := ⟨some 47, _, _, _, _, some (8, true)⟩) (v := undef) rfl (by kernel_rfl) (by kernel_rfl) (by kernel_rfl) (fun _ _ _ h => h) (Or.inr ⟨by rfl, rfl⟩) hHeld ?_))
            (try simp only [Act.put, List.setIfInBounds_toArray, List.set_cons_zero, List.set_cons_succ])
            (first | (refine wpAnyH_take (i := 13) (oi := ⟨some 48, _, _, _, _, some (8, true)⟩) (v := ?_) rfl (by kernel_rfl) (by kernel_rfl) (by kernel_rfl) (fun _ _ _ h => h) (Or.inl ⟨by rfl, ?_⟩) hHeld ?_; rotate_left; (· (intro w9 hSw; (try dsimp only at hSw); go_simp; (try with_reducible rfl)))) | (refine wpAnyH_take (i := 13) (oi := ⟨some 48, _, _, _, _, some (8, true)⟩) (v := undef) rfl (by kernel_rfl) (by kernel_rfl) (by kernel_rfl) (fun _ _ _ h => h) (Or.inr ⟨by rfl, rfl⟩) hHeld ?_))
            (try simp only [Act.put, List.setIfInBounds_toArray, List.set_cons_zero, List.set_cons_succ])
            (first | (refine wpAnyH_take (i := 14) (oi := ⟨some 49, _, _, _, _, some (8, true)⟩) (v := ?_) rfl (by kernel_rfl) (by kernel_rfl) (by kernel_rfl) (fun _ _ _ h => h) (Or.inl ⟨by rfl, ?_⟩) hHeld ?_; rotate_left; (· (intro w9 hSw; (try dsimp only at hSw); go_simp; (try with_reducible rfl)))) | (refine wpAnyH_take (i := 14) (oi := ⟨some 49, _, _, _, _, some (8, true)⟩) (v := undef) rfl (by kernel_rfl) (by kernel_rfl) (by kernel_rfl) (fun _ _ _ h => h) (Or.inr ⟨by rfl, rfl⟩) hHeld ?_))
            (try simp only [Act.put, List.setIfInBounds_toArray, List.set_cons_zero, List.set_cons_succ])
            (first | (refine wpAnyH_take (i := 15) (oi := ⟨some 50, _, _, _, _, some (8, true)⟩) (v := ?_) rfl (by kernel_rfl) (by kernel_rfl) (by kernel_rfl) (fun _ _ _ h => h) (Or.inl ⟨by rfl, ?_⟩) hHeld ?_; rotate_left; (· (intro w9 hSw; (try dsimp only at hSw); go_simp; (try with_reducible rfl)))) | (refine wpAnyH_take (i := 15) (oi := ⟨some 50, _, _, _, _, some (8, true)⟩) (v := undef) rfl (by kernel_rfl) (by kernel_rfl) (by kernel_rfl) (fun _ _ _ h => h) (Or.inr ⟨by rfl, rfl⟩) hHeld ?_))
            (try simp only [Act.put, List.setIfInBounds_toArray, List.set_cons_zero, List.set_cons_succ])
            (first | (refine wpAnyH_take (i := 16) (oi := ⟨some 51, _, _, _, _, some (8, true)⟩) (v := ?_) rfl (by kernel_rfl) (by kernel_rfl) (by kernel_rfl) (fun _ _ _ h => h) (Or.inl ⟨by rfl, ?_⟩) hHeld ?_; rotate_left; (· (intro w9 hSw; (try dsimp only at hSw); go_simp; (try with_reducible rfl)))) | (refine wpAnyH_take (i := 16) (oi := ⟨some 51, _, _, _, _, some (8, true)⟩) (v := undef) rfl (by kernel_rfl) (by kernel_rfl) (by kernel_rfl) (fun _ _ _ h => h) (Or.inr ⟨by rfl, rfl⟩) hHeld ?_))
            (try simp only [Act.put, List.setIfInBounds_toArray, List.set_cons_zero, List.set_cons_succ])
            (refine wpAnyH_take (i := 17) (oi := ⟨some 52, _, _, _, _, none⟩) (v := ?_) rfl (by kernel_rfl) (by kernel_rfl) (by kernel_rfl) (fun _ _ _ h => h) (Or.inl ⟨by rfl, ?_⟩) hHeld ?_; rotate_left; (· (intro w9 hSw; (try dsimp only at hSw); go_simp; (try with_reducible rfl))))
            (try simp only [Act.put, List.setIfInBounds_toArray, List.set_cons_zero, List.set_cons_succ])
            refine wpAnyH_done (by kernel_rfl) ?_ _
            obtain ⟨x0, x1, z0, z1, zf0, zf1, c0⟩ := hHeld
            have hown := hown2.out.drew
            have hmx : ps.length + 1 ≤ maxLen := by unfold maxLen; omega
            have hby : (ps.length + 1) * 8 ≤ 140737488355328 := by omega
            have hbs : w.heap.size + 1 + 1 ≤ (wr.drew.alloc (.cells #[.int .i64 a] 22)).heap.size := by simp; omega
            go_wp2_with ((at_builtin; refine wpList_append_own _ rfl _ _ 105 rfl (w.heap.size + 1 + 1) 22 i0 (.int .i64 0) 1 8 Try.underlying105 hii.out.1 hii.out.2.1 hii.out.2.2.1 hii.out.2.2.2 rfl (by decide) _ _ _ rfl (hown.alloc _) ⟨wr.drew.heap.size, 0, none⟩ 1 1 [.int .i64 a] rfl rfl (cell_one_new _ _ _) (by simp [Value.oneCell']) hmx hby hbs ?_; intro v1 w1 hown1 hgrow _))
            have hkc := grown_cell hown (fun b o x h => keepA (.cells #[.int .i64 a] 22) h) hgrow
            have hB1 : Below w.heap.size w w1 := (show Below w.heap.size w (wr.drew.alloc (.cells #[.int .i64 a] 22)) by go_grown).grown hgrow (by simp; omega) (fun j e => by have := (hown.lt _ e).1; omega)
            have hlx : LX w.heap.size xl xh w1 := ⟨hkc _ _ _ (by omega) x0, hkc _ _ _ (by omega) x1, hkc _ _ _ (by omega) z0, hkc _ _ _ (by omega) z1, grown_frozen hown hgrow (by omega) (by simp; omega) (keepAF _ z0 zf0), grown_frozen hown hgrow (by omega) (by simp; omega) (keepAF _ z1 zf1)⟩
            have ht1 : Tab B o l w1 := Tab.grown (Tab.drew ht2.out) (by omega) hkc
            have hown3 : w1.ownsRow (w.heap.size + 1 + 1) 22 1 v1 qs.length (qs.map (fun n => .int .i64 n)) := by
              rw [hps2.out, List.length_append, List.map_append]; exact hown1
            clear hkc hown1 hgrow hown x0 x1 z0 z1 zf0 zf1 c0
            go_wp2_with fail
            go_roundw
            case rel => exact ⟨k + 1, by go_num, by omega, by rw [hQ]; exact hown3, ht1, hlx, hB1⟩
            case measure => first | (simp [intOf]; done) | (simp [intOf]; omega)
          · have e1 : decide (xl ≤ a) = true := decide_eq_true c1
            have e2 : decide (a ≤ xh) = false := decide_eq_false c2
            have hps2 : Hid (qs = ps) := hid (by rw [hps.out, if_neg (by omega), List.append_nil])
            have hown2 := hid hown
            have ht2 := hid ht
            clear hps c1 c2 hown ht hr hbb hbl hp1 L
            go_wp2_with fail
            refine wp_region_held_drew (S := (fun w' => w'.cell? ⟨w.heap.size, 0, none⟩ = some (.int .i64 xl) ∧ w'.cell? ⟨w.heap.size, 1, none⟩ = some (.int .i64 xh) ∧ w'.cell? ⟨w.heap.size + 1, 0, none⟩ = some (.int .i64 0) ∧ w'.cell? ⟨w.heap.size + 1, 1, none⟩ = some (.int .i64 0) ∧ w'.frozen? ⟨w.heap.size + 1, 0, none⟩ = false ∧ w'.frozen? ⟨w.heap.size + 1, 1, none⟩ = false ∧ w'.cell? ⟨B, o + k * 3, none⟩ = some (.int .i64 a))) (by kernel_rfl) (by (try dsimp only); (first | (exact ⟨hk1 _ _ _ (hOld.1), hk1 _ _ _ (hOld.2.1), hk1 _ _ _ (hOld.2.2.1), hk1 _ _ _ (hOld.2.2.2.1), hf1 _ _ _ (hOld.2.2.1) (hOld.2.2.2.2.1), hf1 _ _ _ (hOld.2.2.2.1) (hOld.2.2.2.2.2.1), hk1 _ _ _ (hOld.2.2.2.2.2.2)⟩) | ((try simp only [World.cell?_drew, World.frozen?_drew]); (repeat' apply And.intro) <;> (first | (with_reducible assumption) | (with_reducible exact ⟨_, by assumption⟩) | (with_reducible exact ⟨_, two_other (by assumption) (by omega)⟩) | (with_reducible exact two_0 (by assumption)) | (with_reducible exact two_1 (by assumption)) | (with_reducible exact two_other (by assumption) (by omega)) | (with_reducible exact two_fz (by assumption)) | (with_reducible exact keepA _ (by assumption)) | (with_reducible exact keepA _ (keepA _ (keepA _ (by assumption)))) | (simp (maxDischargeDepth := 8) [*, go_sem, World.cell?_alloc_some, World.cell?_setCell_far]; done))) | (go_keep; done) | (simp (maxDischargeDepth := 8) [*, go_sem, World.cell?_alloc_some, World.cell?_setCell_far]; done))) (fun hHeld => ?_)
            (refine wpAnyH_take (i := 0) (oi := ⟨some 35, _, _, _, _, none⟩) (v := ?_) rfl (by kernel_rfl) (by kernel_rfl) (by kernel_rfl) (fun _ _ _ h => h) (Or.inl ⟨by rfl, ?_⟩) hHeld ?_; rotate_left; (· (intro w9 hSw; (try dsimp only at hSw); go_simp; (try with_reducible rfl))))
            (try simp only [Act.put, List.setIfInBounds_toArray, List.set_cons_zero, List.set_cons_succ])
            (refine wpAnyH_take (i := 1) (oi := ⟨some 36, _, _, _, _, none⟩) (v := ?_) rfl (by kernel_rfl) (by kernel_rfl) (by kernel_rfl) (fun _ _ _ h => h) (Or.inl ⟨by rfl, ?_⟩) hHeld ?_; rotate_left; (· (intro w9 hSw; (try dsimp only at hSw); go_simp; (try with_reducible rfl))))
            (try simp only [Act.put, List.setIfInBounds_toArray, List.set_cons_zero, List.set_cons_succ])
            (refine wpAnyH_take (i := 2) (oi := ⟨some 37, _, _, _, _, none⟩) (v := ?_) rfl (by kernel_rfl) (by kernel_rfl) (by kernel_rfl) (fun _ _ _ h => h) (Or.inl ⟨by rfl, ?_⟩) hHeld ?_; rotate_left; (· (intro w9 hSw; (try dsimp only at hSw); go_simp; (try with_reducible rfl))))
            (try simp only [Act.put, List.setIfInBounds_toArray, List.set_cons_zero, List.set_cons_succ])
            (refine wpAnyH_take (i := 3) (oi := ⟨some 38, _, _, _, _, none⟩) (v := ?_) rfl (by kernel_rfl) (by kernel_rfl) (by kernel_rfl) (fun _ _ _ h => h) (Or.inl ⟨by rfl, ?_⟩) hHeld ?_; rotate_left; (· (intro w9 hSw; (try dsimp only at hSw); go_simp; (try with_reducible rfl))))
            (try simp only [Act.put, List.setIfInBounds_toArray, List.set_cons_zero, List.set_cons_succ])
            (refine wpAnyH_take (i := 4) (oi := ⟨some 39, _, _, _, _, none⟩) (v := ?_) rfl (by kernel_rfl) (by kernel_rfl) (by kernel_rfl) (fun _ _ _ h => h) (Or.inl ⟨by rfl, ?_⟩) hHeld ?_; rotate_left; (· (intro w9 hSw; (try dsimp only at hSw); go_simp; (try with_reducible rfl))))
            (try simp only [Act.put, List.setIfInBounds_toArray, List.set_cons_zero, List.set_cons_succ])
            (refine wpAnyH_take (i := 5) (oi := ⟨some 40, _, _, _, _, none⟩) (v := ?_) rfl (by kernel_rfl) (by kernel_rfl) (by kernel_rfl) (fun _ _ _ h => h) (Or.inl ⟨by rfl, ?_⟩) hHeld ?_; rotate_left; (· (intro w9 hSw; (try dsimp only at hSw); go_simp; (try with_reducible rfl))))
            (try simp only [Act.put, List.setIfInBounds_toArray, List.set_cons_zero, List.set_cons_succ])
            (refine wpAnyH_take (i := 6) (oi := ⟨some 41, _, _, _, _, none⟩) (v := ?_) rfl (by kernel_rfl) (by kernel_rfl) (by kernel_rfl) (fun _ _ _ h => h) (Or.inl ⟨by rfl, ?_⟩) hHeld ?_; rotate_left; (· (intro w9 hSw; (try dsimp only at hSw); go_simp; (try with_reducible rfl))))
            (try simp only [Act.put, List.setIfInBounds_toArray, List.set_cons_zero, List.set_cons_succ])
            (refine wpAnyH_take (i := 7) (oi := ⟨some 42, _, _, _, _, none⟩) (v := ?_) rfl (by kernel_rfl) (by kernel_rfl) (by kernel_rfl) (fun _ _ _ h => h) (Or.inl ⟨by rfl, ?_⟩) hHeld ?_; rotate_left; (· (intro w9 hSw; (try dsimp only at hSw); go_simp; (try with_reducible rfl))))
            (try simp only [Act.put, List.setIfInBounds_toArray, List.set_cons_zero, List.set_cons_succ])
            (refine wpAnyH_take (i := 8) (oi := ⟨some 43, _, _, _, _, none⟩) (v := ?_) rfl (by kernel_rfl) (by kernel_rfl) (by kernel_rfl) (fun _ _ _ h => h) (Or.inl ⟨by rfl, ?_⟩) hHeld ?_; rotate_left; (· (intro w9 hSw; (try dsimp only at hSw); go_simp; (try with_reducible rfl))))
            (try simp only [Act.put, List.setIfInBounds_toArray, List.set_cons_zero, List.set_cons_succ])
            (first | (refine wpAnyH_take (i := 9) (oi := ⟨some 44, _, _, _, _, some (8, true)⟩) (v := ?_) rfl (by kernel_rfl) (by kernel_rfl) (by kernel_rfl) (fun _ _ _ h => h) (Or.inl ⟨by rfl, ?_⟩) hHeld ?_; rotate_left; (· (intro w9 hSw; (try dsimp only at hSw); go_simp; (try with_reducible rfl)))) | (refine wpAnyH_take (i := 9) (oi := ⟨some 44, _, _, _, _, some (8, true)⟩) (v := undef) rfl (by kernel_rfl) (by kernel_rfl) (by kernel_rfl) (fun _ _ _ h => h) (Or.inr ⟨by rfl, rfl⟩) hHeld ?_))
            (try simp only [Act.put, List.setIfInBounds_toArray, List.set_cons_zero, List.set_cons_succ])
            (first | (refine wpAnyH_take (i := 10) (oi := ⟨some 45, _, _, _, _, some (8, true)⟩) (v := ?_) rfl (by kernel_rfl) (by kernel_rfl) (by kernel_rfl) (fun _ _ _ h => h) (Or.inl ⟨by rfl, ?_⟩) hHeld ?_; rotate_left; (· (intro w9 hSw; (try dsimp only at hSw); go_simp; (try with_reducible rfl)))) | (refine wpAnyH_take (i := 10) (oi := ⟨some 45, _, _, _, _, some (8, true)⟩) (v := undef) rfl (by kernel_rfl) (by kernel_rfl) (by kernel_rfl) (fun _ _ _ h => h) (Or.inr ⟨by rfl, rfl⟩) hHeld ?_))
            (try simp only [Act.put, List.setIfInBounds_toArray, List.set_cons_zero, List.set_cons_succ])
            (first | (refine wpAnyH_take (i := 11) (oi := ⟨some 46, _, _, _, _, some (8, true)⟩) (v := ?_) rfl (by kernel_rfl) (by kernel_rfl) (by kernel_rfl) (fun _ _ _ h => h) (Or.inl ⟨by rfl, ?_⟩) hHeld ?_; rotate_left; (· (intro w9 hSw; (try dsimp only at hSw); go_simp; (try with_reducible rfl)))) | (refine wpAnyH_take (i := 11) (oi := ⟨some 46, _, _, _, _, some (8, true)⟩) (v := undef) rfl (by kernel_rfl) (by kernel_rfl) (by kernel_rfl) (fun _ _ _ h => h) (Or.inr ⟨by rfl, rfl⟩) hHeld ?_))
            (try simp only [Act.put, List.setIfInBounds_toArray, List.set_cons_zero, List.set_cons_succ])
            (first | (refine wpAnyH_take (i := 12) (oi := ⟨some 47, _, _, _, _, some (8, true)⟩) (v := ?_) rfl (by kernel_rfl) (by kernel_rfl) (by kernel_rfl) (fun _ _ _ h => h) (Or.inl ⟨by rfl, ?_⟩) hHeld ?_; rotate_left; (· (intro w9 hSw; (try dsimp only at hSw); go_simp; (try with_reducible rfl)))) | (refine wpAnyH_take (i := 12) (oi := ⟨some 47, _, _, _, _, some (8, true)⟩) (v := undef) rfl (by kernel_rfl) (by kernel_rfl) (by kernel_rfl) (fun _ _ _ h => h) (Or.inr ⟨by rfl, rfl⟩) hHeld ?_))
            (try simp only [Act.put, List.setIfInBounds_toArray, List.set_cons_zero, List.set_cons_succ])
            (first | (refine wpAnyH_take (i := 13) (oi := ⟨some 48, _, _, _, _, some (8, true)⟩) (v := ?_) rfl (by kernel_rfl) (by kernel_rfl) (by kernel_rfl) (fun _ _ _ h => h) (Or.inl ⟨by rfl, ?_⟩) hHeld ?_; rotate_left; (· (intro w9 hSw; (try dsimp only at hSw); go_simp; (try with_reducible rfl)))) | (refine wpAnyH_take (i := 13) (oi := ⟨some 48, _, _, _, _, some (8, true)⟩) (v := undef) rfl (by kernel_rfl) (by kernel_rfl) (by kernel_rfl) (fun _ _ _ h => h) (Or.inr ⟨by rfl, rfl⟩) hHeld ?_))
            (try simp only [Act.put, List.setIfInBounds_toArray, List.set_cons_zero, List.set_cons_succ])
            (first | (refine wpAnyH_take (i := 14) (oi := ⟨some 49, _, _, _, _, some (8, true)⟩) (v := ?_) rfl (by kernel_rfl) (by kernel_rfl) (by kernel_rfl) (fun _ _ _ h => h) (Or.inl ⟨by rfl, ?_⟩) hHeld ?_; rotate_left; (· (intro w9 hSw; (try dsimp only at hSw); go_simp; (try with_reducible rfl)))) | (refine wpAnyH_take (i := 14) (oi := ⟨some 49, _, _, _, _, some (8, true)⟩) (v := undef) rfl (by kernel_rfl) (by kernel_rfl) (by kernel_rfl) (fun _ _ _ h => h) (Or.inr ⟨by rfl, rfl⟩) hHeld ?_))
            (try simp only [Act.put, List.setIfInBounds_toArray, List.set_cons_zero, List.set_cons_succ])
            (first | (refine wpAnyH_take (i := 15) (oi := ⟨some 50, _, _, _, _, some (8, true)⟩) (v := ?_) rfl (by kernel_rfl) (by kernel_rfl) (by kernel_rfl) (fun _ _ _ h => h) (Or.inl ⟨by rfl, ?_⟩) hHeld ?_; rotate_left; (· (intro w9 hSw; (try dsimp only at hSw); go_simp; (try with_reducible rfl)))) | (refine wpAnyH_take (i := 15) (oi := ⟨some 50, _, _, _, _, some (8, true)⟩) (v := undef) rfl (by kernel_rfl) (by kernel_rfl) (by kernel_rfl) (fun _ _ _ h => h) (Or.inr ⟨by rfl, rfl⟩) hHeld ?_))
            (try simp only [Act.put, List.setIfInBounds_toArray, List.set_cons_zero, List.set_cons_succ])
            (first | (refine wpAnyH_take (i := 16) (oi := ⟨some 51, _, _, _, _, some (8, true)⟩) (v := ?_) rfl (by kernel_rfl) (by kernel_rfl) (by kernel_rfl) (fun _ _ _ h => h) (Or.inl ⟨by rfl, ?_⟩) hHeld ?_; rotate_left; (· (intro w9 hSw; (try dsimp only at hSw); go_simp; (try with_reducible rfl)))) | (refine wpAnyH_take (i := 16) (oi := ⟨some 51, _, _, _, _, some (8, true)⟩) (v := undef) rfl (by kernel_rfl) (by kernel_rfl) (by kernel_rfl) (fun _ _ _ h => h) (Or.inr ⟨by rfl, rfl⟩) hHeld ?_))
            (try simp only [Act.put, List.setIfInBounds_toArray, List.set_cons_zero, List.set_cons_succ])
            (refine wpAnyH_take (i := 17) (oi := ⟨some 52, _, _, _, _, none⟩) (v := ?_) rfl (by kernel_rfl) (by kernel_rfl) (by kernel_rfl) (fun _ _ _ h => h) (Or.inl ⟨by rfl, ?_⟩) hHeld ?_; rotate_left; (· (intro w9 hSw; (try dsimp only at hSw); go_simp; (try with_reducible rfl))))
            (try simp only [Act.put, List.setIfInBounds_toArray, List.set_cons_zero, List.set_cons_succ])
            refine wpAnyH_done (by kernel_rfl) ?_ _
            obtain ⟨x0, x1, z0, z1, zf0, zf1, c0⟩ := hHeld
            go_wp2_with fail
            go_roundw
            case rel => exact ⟨k + 1, by go_num, by omega, by rw [hQ, hps2.out]; exact hown2.out.drew, Tab.drew ht2.out, ⟨x0, x1, z0, z1, zf0, zf1⟩, by go_grown⟩
            case measure => first | (simp [intOf]; done) | (simp [intOf]; omega)
        · have e1 : decide (xl ≤ a) = false := decide_eq_false c1
          have hps2 : Hid (qs = ps) := hid (by rw [hps.out, if_neg (by omega), List.append_nil])
          have hown2 := hid hown
          have ht2 := hid ht
          clear hps c1 hown ht hr hbb hbl hp1 L
          go_wp2_with fail
          refine wp_region_held_drew (S := (fun w' => w'.cell? ⟨w.heap.size, 0, none⟩ = some (.int .i64 xl) ∧ w'.cell? ⟨w.heap.size, 1, none⟩ = some (.int .i64 xh) ∧ w'.cell? ⟨w.heap.size + 1, 0, none⟩ = some (.int .i64 0) ∧ w'.cell? ⟨w.heap.size + 1, 1, none⟩ = some (.int .i64 0) ∧ w'.frozen? ⟨w.heap.size + 1, 0, none⟩ = false ∧ w'.frozen? ⟨w.heap.size + 1, 1, none⟩ = false ∧ w'.cell? ⟨B, o + k * 3, none⟩ = some (.int .i64 a))) (by kernel_rfl) (by (try dsimp only); (first | (exact ⟨hk1 _ _ _ (hOld.1), hk1 _ _ _ (hOld.2.1), hk1 _ _ _ (hOld.2.2.1), hk1 _ _ _ (hOld.2.2.2.1), hf1 _ _ _ (hOld.2.2.1) (hOld.2.2.2.2.1), hf1 _ _ _ (hOld.2.2.2.1) (hOld.2.2.2.2.2.1), hk1 _ _ _ (hOld.2.2.2.2.2.2)⟩) | ((try simp only [World.cell?_drew, World.frozen?_drew]); (repeat' apply And.intro) <;> (first | (with_reducible assumption) | (with_reducible exact ⟨_, by assumption⟩) | (with_reducible exact ⟨_, two_other (by assumption) (by omega)⟩) | (with_reducible exact two_0 (by assumption)) | (with_reducible exact two_1 (by assumption)) | (with_reducible exact two_other (by assumption) (by omega)) | (with_reducible exact two_fz (by assumption)) | (with_reducible exact keepA _ (by assumption)) | (with_reducible exact keepA _ (keepA _ (keepA _ (by assumption)))) | (simp (maxDischargeDepth := 8) [*, go_sem, World.cell?_alloc_some, World.cell?_setCell_far]; done))) | (go_keep; done) | (simp (maxDischargeDepth := 8) [*, go_sem, World.cell?_alloc_some, World.cell?_setCell_far]; done))) (fun hHeld => ?_)
          (refine wpAnyH_take (i := 0) (oi := ⟨some 35, _, _, _, _, none⟩) (v := ?_) rfl (by kernel_rfl) (by kernel_rfl) (by kernel_rfl) (fun _ _ _ h => h) (Or.inl ⟨by rfl, ?_⟩) hHeld ?_; rotate_left; (· (intro w9 hSw; (try dsimp only at hSw); go_simp; (try with_reducible rfl))))
          (try simp only [Act.put, List.setIfInBounds_toArray, List.set_cons_zero, List.set_cons_succ])
          (refine wpAnyH_take (i := 1) (oi := ⟨some 36, _, _, _, _, none⟩) (v := ?_) rfl (by kernel_rfl) (by kernel_rfl) (by kernel_rfl) (fun _ _ _ h => h) (Or.inl ⟨by rfl, ?_⟩) hHeld ?_; rotate_left; (· (intro w9 hSw; (try dsimp only at hSw); go_simp; (try with_reducible rfl))))
          (try simp only [Act.put, List.setIfInBounds_toArray, List.set_cons_zero, List.set_cons_succ])
          (refine wpAnyH_take (i := 2) (oi := ⟨some 37, _, _, _, _, none⟩) (v := ?_) rfl (by kernel_rfl) (by kernel_rfl) (by kernel_rfl) (fun _ _ _ h => h) (Or.inl ⟨by rfl, ?_⟩) hHeld ?_; rotate_left; (· (intro w9 hSw; (try dsimp only at hSw); go_simp; (try with_reducible rfl))))
          (try simp only [Act.put, List.setIfInBounds_toArray, List.set_cons_zero, List.set_cons_succ])
          (refine wpAnyH_take (i := 3) (oi := ⟨some 38, _, _, _, _, none⟩) (v := ?_) rfl (by kernel_rfl) (by kernel_rfl) (by kernel_rfl) (fun _ _ _ h => h) (Or.inl ⟨by rfl, ?_⟩) hHeld ?_; rotate_left; (· (intro w9 hSw; (try dsimp only at hSw); go_simp; (try with_reducible rfl))))
          (try simp only [Act.put, List.setIfInBounds_toArray, List.set_cons_zero, List.set_cons_succ])
          (refine wpAnyH_take (i := 4) (oi := ⟨some 39, _, _, _, _, none⟩) (v := ?_) rfl (by kernel_rfl) (by kernel_rfl) (by kernel_rfl) (fun _ _ _ h => h) (Or.inl ⟨by rfl, ?_⟩) hHeld ?_; rotate_left; (· (intro w9 hSw; (try dsimp only at hSw); go_simp; (try with_reducible rfl))))
          (try simp only [Act.put, List.setIfInBounds_toArray, List.set_cons_zero, List.set_cons_succ])
          (refine wpAnyH_take (i := 5) (oi := ⟨some 40, _, _, _, _, none⟩) (v := ?_) rfl (by kernel_rfl) (by kernel_rfl) (by kernel_rfl) (fun _ _ _ h => h) (Or.inl ⟨by rfl, ?_⟩) hHeld ?_; rotate_left; (· (intro w9 hSw; (try dsimp only at hSw); go_simp; (try with_reducible rfl))))
          (try simp only [Act.put, List.setIfInBounds_toArray, List.set_cons_zero, List.set_cons_succ])
          (refine wpAnyH_take (i := 6) (oi := ⟨some 41, _, _, _, _, none⟩) (v := ?_) rfl (by kernel_rfl) (by kernel_rfl) (by kernel_rfl) (fun _ _ _ h => h) (Or.inl ⟨by rfl, ?_⟩) hHeld ?_; rotate_left; (· (intro w9 hSw; (try dsimp only at hSw); go_simp; (try with_reducible rfl))))
          (try simp only [Act.put, List.setIfInBounds_toArray, List.set_cons_zero, List.set_cons_succ])
          (refine wpAnyH_take (i := 7) (oi := ⟨some 42, _, _, _, _, none⟩) (v := ?_) rfl (by kernel_rfl) (by kernel_rfl) (by kernel_rfl) (fun _ _ _ h => h) (Or.inl ⟨by rfl, ?_⟩) hHeld ?_; rotate_left; (· (intro w9 hSw; (try dsimp only at hSw); go_simp; (try with_reducible rfl))))
          (try simp only [Act.put, List.setIfInBounds_toArray, List.set_cons_zero, List.set_cons_succ])
          (refine wpAnyH_take (i := 8) (oi := ⟨some 43, _, _, _, _, none⟩) (v := ?_) rfl (by kernel_rfl) (by kernel_rfl) (by kernel_rfl) (fun _ _ _ h => h) (Or.inl ⟨by rfl, ?_⟩) hHeld ?_; rotate_left; (· (intro w9 hSw; (try dsimp only at hSw); go_simp; (try with_reducible rfl))))
          (try simp only [Act.put, List.setIfInBounds_toArray, List.set_cons_zero, List.set_cons_succ])
          (first | (refine wpAnyH_take (i := 9) (oi := ⟨some 44, _, _, _, _, some (8, true)⟩) (v := ?_) rfl (by kernel_rfl) (by kernel_rfl) (by kernel_rfl) (fun _ _ _ h => h) (Or.inl ⟨by rfl, ?_⟩) hHeld ?_; rotate_left; (· (intro w9 hSw; (try dsimp only at hSw); go_simp; (try with_reducible rfl)))) | (refine wpAnyH_take (i := 9) (oi := ⟨some 44, _, _, _, _, some (8, true)⟩) (v := undef) rfl (by kernel_rfl) (by kernel_rfl) (by kernel_rfl) (fun _ _ _ h => h) (Or.inr ⟨by rfl, rfl⟩) hHeld ?_))
          (try simp only [Act.put, List.setIfInBounds_toArray, List.set_cons_zero, List.set_cons_succ])
          (first | (refine wpAnyH_take (i := 10) (oi := ⟨some 45, _, _, _, _, some (8, true)⟩) (v := ?_) rfl (by kernel_rfl) (by kernel_rfl) (by kernel_rfl) (fun _ _ _ h => h) (Or.inl ⟨by rfl, ?_⟩) hHeld ?_; rotate_left; (· (intro w9 hSw; (try dsimp only at hSw); go_simp; (try with_reducible rfl)))) | (refine wpAnyH_take (i := 10) (oi := ⟨some 45, _, _, _, _, some (8, true)⟩) (v := undef) rfl (by kernel_rfl) (by kernel_rfl) (by kernel_rfl) (fun _ _ _ h => h) (Or.inr ⟨by rfl, rfl⟩) hHeld ?_))
          (try simp only [Act.put, List.setIfInBounds_toArray, List.set_cons_zero, List.set_cons_succ])
          (first | (refine wpAnyH_take (i := 11) (oi := ⟨some 46, _, _, _, _, some (8, true)⟩) (v := ?_) rfl (by kernel_rfl) (by kernel_rfl) (by kernel_rfl) (fun _ _ _ h => h) (Or.inl ⟨by rfl, ?_⟩) hHeld ?_; rotate_left; (· (intro w9 hSw; (try dsimp only at hSw); go_simp; (try with_reducible rfl)))) | (refine wpAnyH_take (i := 11) (oi := ⟨some 46, _, _, _, _, some (8, true)⟩) (v := undef) rfl (by kernel_rfl) (by kernel_rfl) (by kernel_rfl) (fun _ _ _ h => h) (Or.inr ⟨by rfl, rfl⟩) hHeld ?_))
          (try simp only [Act.put, List.setIfInBounds_toArray, List.set_cons_zero, List.set_cons_succ])
          (first | (refine wpAnyH_take (i := 12) (oi := ⟨some 47, _, _, _, _, some (8, true)⟩) (v := ?_) rfl (by kernel_rfl) (by kernel_rfl) (by kernel_rfl) (fun _ _ _ h => h) (Or.inl ⟨by rfl, ?_⟩) hHeld ?_; rotate_left; (· (intro w9 hSw; (try dsimp only at hSw); go_simp; (try with_reducible rfl)))) | (refine wpAnyH_take (i := 12) (oi := ⟨some 47, _, _, _, _, some (8, true)⟩) (v := undef) rfl (by kernel_rfl) (by kernel_rfl) (by kernel_rfl) (fun _ _ _ h => h) (Or.inr ⟨by rfl, rfl⟩) hHeld ?_))
          (try simp only [Act.put, List.setIfInBounds_toArray, List.set_cons_zero, List.set_cons_succ])
          (first | (refine wpAnyH_take (i := 13) (oi := ⟨some 48, _, _, _, _, some (8, true)⟩) (v := ?_) rfl (by kernel_rfl) (by kernel_rfl) (by kernel_rfl) (fun _ _ _ h => h) (Or.inl ⟨by rfl, ?_⟩) hHeld ?_; rotate_left; (· (intro w9 hSw; (try dsimp only at hSw); go_simp; (try with_reducible rfl)))) | (refine wpAnyH_take (i := 13) (oi := ⟨some 48, _, _, _, _, some (8, true)⟩) (v := undef) rfl (by kernel_rfl) (by kernel_rfl) (by kernel_rfl) (fun _ _ _ h => h) (Or.inr ⟨by rfl, rfl⟩) hHeld ?_))
          (try simp only [Act.put, List.setIfInBounds_toArray, List.set_cons_zero, List.set_cons_succ])
          (first | (refine wpAnyH_take (i := 14) (oi := ⟨some 49, _, _, _, _, some (8, true)⟩) (v := ?_) rfl (by kernel_rfl) (by kernel_rfl) (by kernel_rfl) (fun _ _ _ h => h) (Or.inl ⟨by rfl, ?_⟩) hHeld ?_; rotate_left; (· (intro w9 hSw; (try dsimp only at hSw); go_simp; (try with_reducible rfl)))) | (refine wpAnyH_take (i := 14) (oi := ⟨some 49, _, _, _, _, some (8, true)⟩) (v := undef) rfl (by kernel_rfl) (by kernel_rfl) (by kernel_rfl) (fun _ _ _ h => h) (Or.inr ⟨by rfl, rfl⟩) hHeld ?_))
          (try simp only [Act.put, List.setIfInBounds_toArray, List.set_cons_zero, List.set_cons_succ])
          (first | (refine wpAnyH_take (i := 15) (oi := ⟨some 50, _, _, _, _, some (8, true)⟩) (v := ?_) rfl (by kernel_rfl) (by kernel_rfl) (by kernel_rfl) (fun _ _ _ h => h) (Or.inl ⟨by rfl, ?_⟩) hHeld ?_; rotate_left; (· (intro w9 hSw; (try dsimp only at hSw); go_simp; (try with_reducible rfl)))) | (refine wpAnyH_take (i := 15) (oi := ⟨some 50, _, _, _, _, some (8, true)⟩) (v := undef) rfl (by kernel_rfl) (by kernel_rfl) (by kernel_rfl) (fun _ _ _ h => h) (Or.inr ⟨by rfl, rfl⟩) hHeld ?_))
          (try simp only [Act.put, List.setIfInBounds_toArray, List.set_cons_zero, List.set_cons_succ])
          (first | (refine wpAnyH_take (i := 16) (oi := ⟨some 51, _, _, _, _, some (8, true)⟩) (v := ?_) rfl (by kernel_rfl) (by kernel_rfl) (by kernel_rfl) (fun _ _ _ h => h) (Or.inl ⟨by rfl, ?_⟩) hHeld ?_; rotate_left; (· (intro w9 hSw; (try dsimp only at hSw); go_simp; (try with_reducible rfl)))) | (refine wpAnyH_take (i := 16) (oi := ⟨some 51, _, _, _, _, some (8, true)⟩) (v := undef) rfl (by kernel_rfl) (by kernel_rfl) (by kernel_rfl) (fun _ _ _ h => h) (Or.inr ⟨by rfl, rfl⟩) hHeld ?_))
          (try simp only [Act.put, List.setIfInBounds_toArray, List.set_cons_zero, List.set_cons_succ])
          (refine wpAnyH_take (i := 17) (oi := ⟨some 52, _, _, _, _, none⟩) (v := ?_) rfl (by kernel_rfl) (by kernel_rfl) (by kernel_rfl) (fun _ _ _ h => h) (Or.inl ⟨by rfl, ?_⟩) hHeld ?_; rotate_left; (· (intro w9 hSw; (try dsimp only at hSw); go_simp; (try with_reducible rfl))))
          (try simp only [Act.put, List.setIfInBounds_toArray, List.set_cons_zero, List.set_cons_succ])
          refine wpAnyH_done (by kernel_rfl) ?_ _
          obtain ⟨x0, x1, z0, z1, zf0, zf1, c0⟩ := hHeld
          go_wp2_with fail
          go_roundw
          case rel => exact ⟨k + 1, by go_num, by omega, by rw [hQ, hps2.out]; exact hown2.out.drew, Tab.drew ht2.out, ⟨x0, x1, z0, z1, zf0, zf1⟩, by go_grown⟩
          case measure => first | (simp [intOf]; done) | (simp [intOf]; omega)
  case rest =>
    obtain ⟨g, cap6, rfl, hg, hrow, ht, ⟨x0, x1, z0, z1, zf0, zf1⟩, hB⟩ := hcut
    have hzw := hB.size
    have hbz := World.block_lt_of_cell? _ _ z0
    have hBc : B < wc.heap.size := by omega
    have hpl := places_len l xl xh l.length
    have hmem : Hid (∀ n ∈ placesL l xl xh l.length, (-9223372036854775808 ≤ n ∧ n ≤ 9223372036854775807)) := hid (fun n h => by
      rcases places_mem h with rfl | rfl | ⟨q, hq, rfl⟩
      · exact hxx.out.1
      · exact hxx.out.2
      · have := hp1.out q hq; omega)
    obtain ⟨n0, hn0⟩ : ∃ n, (placesL l xl xh l.length)[0]? = some n := ⟨xl, rfl⟩
    have hgc : g < wc.heap.size := World.block_lt_of_cell? _ _ (hrow 0 n0 hn0)
    clear hn0 x0 x1 hOw htW hLX hBW hW3
    generalize hP : placesL l xl xh l.length = ps at *
    clear hP
    go_upto_block 2 with fail
    have hLQ : LQ w.heap.size wc.heap.size 0 0 ((wc.alloc (.cells #[.int .i64 0, .int .u64 0] 78)).alloc (.cells #[.int .i64 0, .int .u64 0] 78)) :=
      ⟨keepA _ (keepA _ z0), keepA _ (keepA _ z1), keepAF _ (keepA _ z0) (keepAF _ z0 zf0), keepAF _ (keepA _ z1) (keepAF _ z1 zf1), by simp [go_sem]; decide, by simp [go_sem]; decide, by simp [go_sem], by simp [go_sem], by simp [go_sem]; decide, by simp [go_sem]; decide, by simp [go_sem], by simp [go_sem]⟩
    have ht4 := Tab.alloc (.cells #[.int .i64 0, .int .u64 0] 78) (Tab.alloc (.cells #[.int .i64 0, .int .u64 0] 78) ht)
    have hrow4 := Row.alloc (Row.alloc hrow (.cells #[.int .i64 0, .int .u64 0] 78)) (.cells #[.int .i64 0, .int .u64 0] 78)
    have hB4 : Below w.heap.size w ((wc.alloc (.cells #[.int .i64 0, .int .u64 0] 78)).alloc (.cells #[.int .i64 0, .int .u64 0] 78)) := by go_grown
    clear ht hrow z0 z1 zf0 zf1 hB
    generalize hW4 : ((wc.alloc (.cells #[.int .i64 0, .int .u64 0] 78)).alloc (.cells #[.int .i64 0, .int .u64 0] 78)) = W4 at *
    clear hW4
    generalize wc.heap.size = Bl at *
    go_cut [] (fun wx => LQ w.heap.size Bl r1 r2 wx ∧ Below w.heap.size w wx)
    case first => as_aux_lemma =>
      go_wp2_with fail
      go_loopw [10] (fun s wx => ∃ k : Nat, s = .int .i64 k ∧ k ≤ ps.length ∧ Tab B o l wx ∧ Row g 0 ps wx ∧ LQ w.heap.size Bl (accP l ps k).1 (accP l ps k).2 wx ∧ Below w.heap.size w wx) (fun s _ => (ps.length - intOf s).toNat)
      case atStart => exact ⟨0, rfl, by omega, ht4, hrow4, hLQ, hB4⟩
      case round =>
        clear ht4 hrow4 hLQ hB4
        obtain ⟨k, rfl, hk, ht, hrow, hLQ, hB⟩ := hrel
        by_cases ke : k = ps.length
        · subst ke
          rw [hr.out] at hLQ
          have kk : ¬ (ps.length : Int) < ps.length := by omega
          clear ht hrow hr hbb hbl L hmem
          go_wp2_with fail
          go_meet
          exact ⟨hLQ, hB⟩
        have hk1 : k < ps.length := by omega
        obtain ⟨n, hn⟩ : ∃ n, ps[k]? = some n := ⟨ps[k], List.getElem?_eq_getElem hk1⟩
        have hnb := hmem.out n (List.mem_of_getElem? hn)
        have c0 := hrow k n hn
        rw [Nat.zero_add] at c0
        have hst := hid (accP_step (l := l) hn)
        have La := hid (fun W T => L.out false n W hnb T)
        have Lb := hid (fun W T => L.out true n W hnb T)
        have b1 := hbl.out false n
        have b2 := hbl.out true n
        have hA := hbb.out k
        have hk0 : (0 : Int) ≤ k := by omega
        have hk2 : (k : Int) < ps.length := by omega
        generalize rline l false n = PP at *
        generalize rline l true n = QQ at *
        obtain ⟨P1, P2⟩ := PP
        obtain ⟨Q1, Q2⟩ := QQ
        generalize accP l ps k = A at *
        obtain ⟨A1, A2⟩ := A
        generalize hA9 : accP l ps (k + 1) = A9 at *
        dsimp only at La Lb b1 b2 hA hst hLQ
        have s1 := fun W => less_any P1 A1 W (by omega)
        have s2 := fun W => less_any A2 Q2 W (by omega)
        obtain ⟨z0, z1, zf0, zf1, lo0, lo1, lof0, lof1, hi0, hi1, hif0, hif1⟩ := hLQ
        have hzr := hB.size
        have hib := World.block_lt_of_cell? _ _ hi0
        replace hA9 := hid hA9
        clear hn hr hbb hbl L hmem hnb b1 b2 hA ke hp1
        by_cases k0 : k = 0
        · have hst2 : Hid (A9 = (P1, Q2)) := hid (by rw [hst.out, if_pos k0])
          subst k0
          clear hst s1 s2
          go_wp2_with fail
          refine useF w (La.out _ ht) (by go_grown) ?_; rintro e w71 rfl hB71 hk71 hf71 hs71
          replace zf0 := hf71 _ _ _ z0 zf0
          replace z0 := hk71 _ _ _ z0
          replace zf1 := hf71 _ _ _ z1 zf1
          replace z1 := hk71 _ _ _ z1
          (try clear zb); have zb := World.block_lt_of_cell? _ _ z0; (try dsimp only at zb)
          replace lof0 := hf71 _ _ _ lo0 lof0
          replace lo0 := hk71 _ _ _ lo0
          replace lof1 := hf71 _ _ _ lo1 lof1
          replace lo1 := hk71 _ _ _ lo1
          (try clear lob); have lob := World.block_lt_of_cell? _ _ lo0; (try dsimp only at lob)
          replace hif0 := hf71 _ _ _ hi0 hif0
          replace hi0 := hk71 _ _ _ hi0
          replace hif1 := hf71 _ _ _ hi1 hif1
          replace hi1 := hk71 _ _ _ hi1
          (try clear hib); have hib := World.block_lt_of_cell? _ _ hi0; (try dsimp only at hib)
          replace c0 := hk71 _ _ _ c0
          (try clear cb); have cb := World.block_lt_of_cell? _ _ c0; (try dsimp only at cb)
          replace ht := (ht).keep hk71
          replace hrow := (hrow).keep hk71
          have hz71 := hB71.size
          clear hk71 hf71 hs71
          have hB71x : Below w.heap.size w ((w71.alloc (.cells #[.int .i64 (hiW P1), .int .u64 (loW P1)] 78)).alloc (.cells #[.int .i64 (hiW P2), .int .u64 (loW P2)] 78)) := by go_grown
          have zf0' := (keepAF (.cells #[.int .i64 (hiW P2), .int .u64 (loW P2)] 78) (keepA (.cells #[.int .i64 (hiW P1), .int .u64 (loW P1)] 78) z0) (keepAF (.cells #[.int .i64 (hiW P1), .int .u64 (loW P1)] 78) z0 zf0))
          have z0' := (keepA (.cells #[.int .i64 (hiW P2), .int .u64 (loW P2)] 78) (keepA (.cells #[.int .i64 (hiW P1), .int .u64 (loW P1)] 78) z0))
          have zf1' := (keepAF (.cells #[.int .i64 (hiW P2), .int .u64 (loW P2)] 78) (keepA (.cells #[.int .i64 (hiW P1), .int .u64 (loW P1)] 78) z1) (keepAF (.cells #[.int .i64 (hiW P1), .int .u64 (loW P1)] 78) z1 zf1))
          have z1' := (keepA (.cells #[.int .i64 (hiW P2), .int .u64 (loW P2)] 78) (keepA (.cells #[.int .i64 (hiW P1), .int .u64 (loW P1)] 78) z1))
          have lof0' := (keepAF (.cells #[.int .i64 (hiW P2), .int .u64 (loW P2)] 78) (keepA (.cells #[.int .i64 (hiW P1), .int .u64 (loW P1)] 78) lo0) (keepAF (.cells #[.int .i64 (hiW P1), .int .u64 (loW P1)] 78) lo0 lof0))
          have lo0' := (keepA (.cells #[.int .i64 (hiW P2), .int .u64 (loW P2)] 78) (keepA (.cells #[.int .i64 (hiW P1), .int .u64 (loW P1)] 78) lo0))
          have lof1' := (keepAF (.cells #[.int .i64 (hiW P2), .int .u64 (loW P2)] 78) (keepA (.cells #[.int .i64 (hiW P1), .int .u64 (loW P1)] 78) lo1) (keepAF (.cells #[.int .i64 (hiW P1), .int .u64 (loW P1)] 78) lo1 lof1))
          have lo1' := (keepA (.cells #[.int .i64 (hiW P2), .int .u64 (loW P2)] 78) (keepA (.cells #[.int .i64 (hiW P1), .int .u64 (loW P1)] 78) lo1))
          have hif0' := (keepAF (.cells #[.int .i64 (hiW P2), .int .u64 (loW P2)] 78) (keepA (.cells #[.int .i64 (hiW P1), .int .u64 (loW P1)] 78) hi0) (keepAF (.cells #[.int .i64 (hiW P1), .int .u64 (loW P1)] 78) hi0 hif0))
          have hi0' := (keepA (.cells #[.int .i64 (hiW P2), .int .u64 (loW P2)] 78) (keepA (.cells #[.int .i64 (hiW P1), .int .u64 (loW P1)] 78) hi0))
          have hif1' := (keepAF (.cells #[.int .i64 (hiW P2), .int .u64 (loW P2)] 78) (keepA (.cells #[.int .i64 (hiW P1), .int .u64 (loW P1)] 78) hi1) (keepAF (.cells #[.int .i64 (hiW P1), .int .u64 (loW P1)] 78) hi1 hif1))
          have hi1' := (keepA (.cells #[.int .i64 (hiW P2), .int .u64 (loW P2)] 78) (keepA (.cells #[.int .i64 (hiW P1), .int .u64 (loW P1)] 78) hi1))
          have c0' := (keepA (.cells #[.int .i64 (hiW P2), .int .u64 (loW P2)] 78) (keepA (.cells #[.int .i64 (hiW P1), .int .u64 (loW P1)] 78) c0))
          have ht' := ((ht).alloc (.cells #[.int .i64 (hiW P1), .int .u64 (loW P1)] 78)).alloc (.cells #[.int .i64 (hiW P2), .int .u64 (loW P2)] 78)
          have hrow' := ((hrow).alloc (.cells #[.int .i64 (hiW P1), .int .u64 (loW P1)] 78)).alloc (.cells #[.int .i64 (hiW P2), .int .u64 (loW P2)] 78)
          have p0 := (keepA (.cells #[.int .i64 (hiW P2), .int .u64 (loW P2)] 78) (show (w71.alloc (.cells #[.int .i64 (hiW P1), .int .u64 (loW P1)] 78)).cell? ⟨w71.heap.size, 0, none⟩ = some (.int .i64 (hiW P1)) by simp [go_sem]))
          have pf0 := (keepAF (.cells #[.int .i64 (hiW P2), .int .u64 (loW P2)] 78) (show (w71.alloc (.cells #[.int .i64 (hiW P1), .int .u64 (loW P1)] 78)).cell? ⟨w71.heap.size, 0, none⟩ = some (.int .i64 (hiW P1)) by simp [go_sem]) (show (w71.alloc (.cells #[.int .i64 (hiW P1), .int .u64 (loW P1)] 78)).frozen? ⟨w71.heap.size, 0, none⟩ = false by simp [go_sem]))
          have p1 := (keepA (.cells #[.int .i64 (hiW P2), .int .u64 (loW P2)] 78) (show (w71.alloc (.cells #[.int .i64 (hiW P1), .int .u64 (loW P1)] 78)).cell? ⟨w71.heap.size, 1, none⟩ = some (.int .u64 (loW P1)) by simp [go_sem]))
          have pf1 := (keepAF (.cells #[.int .i64 (hiW P2), .int .u64 (loW P2)] 78) (show (w71.alloc (.cells #[.int .i64 (hiW P1), .int .u64 (loW P1)] 78)).cell? ⟨w71.heap.size, 1, none⟩ = some (.int .u64 (loW P1)) by simp [go_sem]) (show (w71.alloc (.cells #[.int .i64 (hiW P1), .int .u64 (loW P1)] 78)).frozen? ⟨w71.heap.size, 1, none⟩ = false by simp [go_sem]))
          go_wp2_with fail
          replace zf0 := zf0'; clear zf0'
          replace z0 := z0'; clear z0'
          replace zf1 := zf1'; clear zf1'
          replace z1 := z1'; clear z1'
          replace lof0 := lof0'; clear lof0'
          replace lo0 := lo0'; clear lo0'
          replace lof1 := lof1'; clear lof1'
          replace lo1 := lo1'; clear lo1'
          replace hif0 := hif0'; clear hif0'
          replace hi0 := hi0'; clear hi0'
          replace hif1 := hif1'; clear hif1'
          replace hi1 := hi1'; clear hi1'
          replace c0 := c0'; clear c0'
          replace ht := ht'; clear ht'
          replace hrow := hrow'; clear hrow'
          have hz71x := hB71x.size
          generalize hv71 : ((w71.alloc (.cells #[.int .i64 (hiW P1), .int .u64 (loW P1)] 78)).alloc (.cells #[.int .i64 (hiW P2), .int .u64 (loW P2)] 78)) = v71 at *
          have pb := World.block_lt_of_cell? _ _ p0; (try dsimp only at pb)
          have zb71 := zb
          have lob71 := lob
          have hib71 := hib
          have cb71 := cb
          clear hv71 hB71
          generalize w71.heap.size = B71 at *
          refine useF w (Lb.out _ ht) (by go_grown) ?_; rintro e w72 rfl hB72 hk72 hf72 hs72
          replace zf0 := hf72 _ _ _ z0 zf0
          replace z0 := hk72 _ _ _ z0
          replace zf1 := hf72 _ _ _ z1 zf1
          replace z1 := hk72 _ _ _ z1
          (try clear zb); have zb := World.block_lt_of_cell? _ _ z0; (try dsimp only at zb)
          replace lof0 := hf72 _ _ _ lo0 lof0
          replace lo0 := hk72 _ _ _ lo0
          replace lof1 := hf72 _ _ _ lo1 lof1
          replace lo1 := hk72 _ _ _ lo1
          (try clear lob); have lob := World.block_lt_of_cell? _ _ lo0; (try dsimp only at lob)
          replace hif0 := hf72 _ _ _ hi0 hif0
          replace hi0 := hk72 _ _ _ hi0
          replace hif1 := hf72 _ _ _ hi1 hif1
          replace hi1 := hk72 _ _ _ hi1
          (try clear hib); have hib := World.block_lt_of_cell? _ _ hi0; (try dsimp only at hib)
          replace p0 := hk72 _ _ _ p0
          replace p1 := hk72 _ _ _ p1
          (try clear pb); have pb := World.block_lt_of_cell? _ _ p0; (try dsimp only at pb)
          replace c0 := hk72 _ _ _ c0
          (try clear cb); have cb := World.block_lt_of_cell? _ _ c0; (try dsimp only at cb)
          replace ht := (ht).keep hk72
          replace hrow := (hrow).keep hk72
          have hz72 := hB72.size
          clear hk72 hf72 hs72
          have hB72x : Below w.heap.size w ((w72.alloc (.cells #[.int .i64 (hiW Q1), .int .u64 (loW Q1)] 78)).alloc (.cells #[.int .i64 (hiW Q2), .int .u64 (loW Q2)] 78)) := by go_grown
          have zf0' := (keepAF (.cells #[.int .i64 (hiW Q2), .int .u64 (loW Q2)] 78) (keepA (.cells #[.int .i64 (hiW Q1), .int .u64 (loW Q1)] 78) z0) (keepAF (.cells #[.int .i64 (hiW Q1), .int .u64 (loW Q1)] 78) z0 zf0))
          have z0' := (keepA (.cells #[.int .i64 (hiW Q2), .int .u64 (loW Q2)] 78) (keepA (.cells #[.int .i64 (hiW Q1), .int .u64 (loW Q1)] 78) z0))
          have zf1' := (keepAF (.cells #[.int .i64 (hiW Q2), .int .u64 (loW Q2)] 78) (keepA (.cells #[.int .i64 (hiW Q1), .int .u64 (loW Q1)] 78) z1) (keepAF (.cells #[.int .i64 (hiW Q1), .int .u64 (loW Q1)] 78) z1 zf1))
          have z1' := (keepA (.cells #[.int .i64 (hiW Q2), .int .u64 (loW Q2)] 78) (keepA (.cells #[.int .i64 (hiW Q1), .int .u64 (loW Q1)] 78) z1))
          have lof0' := (keepAF (.cells #[.int .i64 (hiW Q2), .int .u64 (loW Q2)] 78) (keepA (.cells #[.int .i64 (hiW Q1), .int .u64 (loW Q1)] 78) lo0) (keepAF (.cells #[.int .i64 (hiW Q1), .int .u64 (loW Q1)] 78) lo0 lof0))
          have lo0' := (keepA (.cells #[.int .i64 (hiW Q2), .int .u64 (loW Q2)] 78) (keepA (.cells #[.int .i64 (hiW Q1), .int .u64 (loW Q1)] 78) lo0))
          have lof1' := (keepAF (.cells #[.int .i64 (hiW Q2), .int .u64 (loW Q2)] 78) (keepA (.cells #[.int .i64 (hiW Q1), .int .u64 (loW Q1)] 78) lo1) (keepAF (.cells #[.int .i64 (hiW Q1), .int .u64 (loW Q1)] 78) lo1 lof1))
          have lo1' := (keepA (.cells #[.int .i64 (hiW Q2), .int .u64 (loW Q2)] 78) (keepA (.cells #[.int .i64 (hiW Q1), .int .u64 (loW Q1)] 78) lo1))
          have hif0' := (keepAF (.cells #[.int .i64 (hiW Q2), .int .u64 (loW Q2)] 78) (keepA (.cells #[.int .i64 (hiW Q1), .int .u64 (loW Q1)] 78) hi0) (keepAF (.cells #[.int .i64 (hiW Q1), .int .u64 (loW Q1)] 78) hi0 hif0))
          have hi0' := (keepA (.cells #[.int .i64 (hiW Q2), .int .u64 (loW Q2)] 78) (keepA (.cells #[.int .i64 (hiW Q1), .int .u64 (loW Q1)] 78) hi0))
          have hif1' := (keepAF (.cells #[.int .i64 (hiW Q2), .int .u64 (loW Q2)] 78) (keepA (.cells #[.int .i64 (hiW Q1), .int .u64 (loW Q1)] 78) hi1) (keepAF (.cells #[.int .i64 (hiW Q1), .int .u64 (loW Q1)] 78) hi1 hif1))
          have hi1' := (keepA (.cells #[.int .i64 (hiW Q2), .int .u64 (loW Q2)] 78) (keepA (.cells #[.int .i64 (hiW Q1), .int .u64 (loW Q1)] 78) hi1))
          have p0' := (keepA (.cells #[.int .i64 (hiW Q2), .int .u64 (loW Q2)] 78) (keepA (.cells #[.int .i64 (hiW Q1), .int .u64 (loW Q1)] 78) p0))
          have p1' := (keepA (.cells #[.int .i64 (hiW Q2), .int .u64 (loW Q2)] 78) (keepA (.cells #[.int .i64 (hiW Q1), .int .u64 (loW Q1)] 78) p1))
          have c0' := (keepA (.cells #[.int .i64 (hiW Q2), .int .u64 (loW Q2)] 78) (keepA (.cells #[.int .i64 (hiW Q1), .int .u64 (loW Q1)] 78) c0))
          have ht' := ((ht).alloc (.cells #[.int .i64 (hiW Q1), .int .u64 (loW Q1)] 78)).alloc (.cells #[.int .i64 (hiW Q2), .int .u64 (loW Q2)] 78)
          have hrow' := ((hrow).alloc (.cells #[.int .i64 (hiW Q1), .int .u64 (loW Q1)] 78)).alloc (.cells #[.int .i64 (hiW Q2), .int .u64 (loW Q2)] 78)
          have q0 := (show ((w72.alloc (.cells #[.int .i64 (hiW Q1), .int .u64 (loW Q1)] 78)).alloc (.cells #[.int .i64 (hiW Q2), .int .u64 (loW Q2)] 78)).cell? ⟨w72.heap.size + 1, 0, none⟩ = some (.int .i64 (hiW Q2)) by simp [go_sem])
          have qf0 := (show ((w72.alloc (.cells #[.int .i64 (hiW Q1), .int .u64 (loW Q1)] 78)).alloc (.cells #[.int .i64 (hiW Q2), .int .u64 (loW Q2)] 78)).frozen? ⟨w72.heap.size + 1, 0, none⟩ = false by simp [go_sem])
          have q1 := (show ((w72.alloc (.cells #[.int .i64 (hiW Q1), .int .u64 (loW Q1)] 78)).alloc (.cells #[.int .i64 (hiW Q2), .int .u64 (loW Q2)] 78)).cell? ⟨w72.heap.size + 1, 1, none⟩ = some (.int .u64 (loW Q2)) by simp [go_sem])
          have qf1 := (show ((w72.alloc (.cells #[.int .i64 (hiW Q1), .int .u64 (loW Q1)] 78)).alloc (.cells #[.int .i64 (hiW Q2), .int .u64 (loW Q2)] 78)).frozen? ⟨w72.heap.size + 1, 1, none⟩ = false by simp [go_sem])
          go_upto_region 16 with fail
          replace zf0 := zf0'; clear zf0'
          replace z0 := z0'; clear z0'
          replace zf1 := zf1'; clear zf1'
          replace z1 := z1'; clear z1'
          replace lof0 := lof0'; clear lof0'
          replace lo0 := lo0'; clear lo0'
          replace lof1 := lof1'; clear lof1'
          replace lo1 := lo1'; clear lo1'
          replace hif0 := hif0'; clear hif0'
          replace hi0 := hi0'; clear hi0'
          replace hif1 := hif1'; clear hif1'
          replace hi1 := hi1'; clear hi1'
          replace p0 := p0'; clear p0'
          replace p1 := p1'; clear p1'
          replace c0 := c0'; clear c0'
          replace ht := ht'; clear ht'
          replace hrow := hrow'; clear hrow'
          have hz72x := hB72x.size
          generalize hv72 : ((w72.alloc (.cells #[.int .i64 (hiW Q1), .int .u64 (loW Q1)] 78)).alloc (.cells #[.int .i64 (hiW Q2), .int .u64 (loW Q2)] 78)) = v72 at *
          have qb := World.block_lt_of_cell? _ _ q0; (try dsimp only at qb)
          have zb72 := zb
          have lob72 := lob
          have hib72 := hib
          have pb72 := pb
          have cb72 := cb
          clear hv72 hB72
          generalize w72.heap.size = B72 at *
          go_upto_region 18 with fail
          have hB81 : Below w.heap.size w ((v72.setCell ⟨Bl, 0, none⟩ (.int .i64 (hiW P1))).setCell ⟨Bl, 1, none⟩ (.int .u64 (loW P1))) := by go_grown
          replace zf0 := two_fz (b := Bl) (x := .int .i64 (hiW P1)) (y := .int .u64 (loW P1)) zf0
          replace z0 := two_other (b := Bl) (x := .int .i64 (hiW P1)) (y := .int .u64 (loW P1)) z0 (by omega)
          replace zf1 := two_fz (b := Bl) (x := .int .i64 (hiW P1)) (y := .int .u64 (loW P1)) zf1
          replace z1 := two_other (b := Bl) (x := .int .i64 (hiW P1)) (y := .int .u64 (loW P1)) z1 (by omega)
          replace lof0 := two_fz (b := Bl) (x := .int .i64 (hiW P1)) (y := .int .u64 (loW P1)) lof0
          replace lo0 := two_0 (x := .int .i64 (hiW P1)) (y := .int .u64 (loW P1)) lo0
          replace lof1 := two_fz (b := Bl) (x := .int .i64 (hiW P1)) (y := .int .u64 (loW P1)) lof1
          replace lo1 := two_1 (x := .int .i64 (hiW P1)) (y := .int .u64 (loW P1)) lo1
          replace hif0 := two_fz (b := Bl) (x := .int .i64 (hiW P1)) (y := .int .u64 (loW P1)) hif0
          replace hi0 := two_other (b := Bl) (x := .int .i64 (hiW P1)) (y := .int .u64 (loW P1)) hi0 (by omega)
          replace hif1 := two_fz (b := Bl) (x := .int .i64 (hiW P1)) (y := .int .u64 (loW P1)) hif1
          replace hi1 := two_other (b := Bl) (x := .int .i64 (hiW P1)) (y := .int .u64 (loW P1)) hi1 (by omega)
          replace p0 := two_other (b := Bl) (x := .int .i64 (hiW P1)) (y := .int .u64 (loW P1)) p0 (by omega)
          replace p1 := two_other (b := Bl) (x := .int .i64 (hiW P1)) (y := .int .u64 (loW P1)) p1 (by omega)
          replace q0 := two_other (b := Bl) (x := .int .i64 (hiW P1)) (y := .int .u64 (loW P1)) q0 (by omega)
          replace q1 := two_other (b := Bl) (x := .int .i64 (hiW P1)) (y := .int .u64 (loW P1)) q1 (by omega)
          replace ht := (ht).two (b := Bl) (x := .int .i64 (hiW P1)) (y := .int .u64 (loW P1)) (by omega)
          replace hrow := (hrow).two (b := Bl) (x := .int .i64 (hiW P1)) (y := .int .u64 (loW P1)) (by omega)
          have hz81 := hB81.size
          generalize ((v72.setCell ⟨Bl, 0, none⟩ (.int .i64 (hiW P1))).setCell ⟨Bl, 1, none⟩ (.int .u64 (loW P1))) = v81 at *
          go_wp2_with fail
          have hB82 : Below w.heap.size w ((v81.setCell ⟨Bl + 1, 0, none⟩ (.int .i64 (hiW Q2))).setCell ⟨Bl + 1, 1, none⟩ (.int .u64 (loW Q2))) := by go_grown
          replace zf0 := two_fz (b := Bl + 1) (x := .int .i64 (hiW Q2)) (y := .int .u64 (loW Q2)) zf0
          replace z0 := two_other (b := Bl + 1) (x := .int .i64 (hiW Q2)) (y := .int .u64 (loW Q2)) z0 (by omega)
          replace zf1 := two_fz (b := Bl + 1) (x := .int .i64 (hiW Q2)) (y := .int .u64 (loW Q2)) zf1
          replace z1 := two_other (b := Bl + 1) (x := .int .i64 (hiW Q2)) (y := .int .u64 (loW Q2)) z1 (by omega)
          replace lof0 := two_fz (b := Bl + 1) (x := .int .i64 (hiW Q2)) (y := .int .u64 (loW Q2)) lof0
          replace lo0 := two_other (b := Bl + 1) (x := .int .i64 (hiW Q2)) (y := .int .u64 (loW Q2)) lo0 (by omega)
          replace lof1 := two_fz (b := Bl + 1) (x := .int .i64 (hiW Q2)) (y := .int .u64 (loW Q2)) lof1
          replace lo1 := two_other (b := Bl + 1) (x := .int .i64 (hiW Q2)) (y := .int .u64 (loW Q2)) lo1 (by omega)
          replace hif0 := two_fz (b := Bl + 1) (x := .int .i64 (hiW Q2)) (y := .int .u64 (loW Q2)) hif0
          replace hi0 := two_0 (x := .int .i64 (hiW Q2)) (y := .int .u64 (loW Q2)) hi0
          replace hif1 := two_fz (b := Bl + 1) (x := .int .i64 (hiW Q2)) (y := .int .u64 (loW Q2)) hif1
          replace hi1 := two_1 (x := .int .i64 (hiW Q2)) (y := .int .u64 (loW Q2)) hi1
          replace p0 := two_other (b := Bl + 1) (x := .int .i64 (hiW Q2)) (y := .int .u64 (loW Q2)) p0 (by omega)
          replace p1 := two_other (b := Bl + 1) (x := .int .i64 (hiW Q2)) (y := .int .u64 (loW Q2)) p1 (by omega)
          replace q0 := two_other (b := Bl + 1) (x := .int .i64 (hiW Q2)) (y := .int .u64 (loW Q2)) q0 (by omega)
          replace q1 := two_other (b := Bl + 1) (x := .int .i64 (hiW Q2)) (y := .int .u64 (loW Q2)) q1 (by omega)
          replace ht := (ht).two (b := Bl + 1) (x := .int .i64 (hiW Q2)) (y := .int .u64 (loW Q2)) (by omega)
          replace hrow := (hrow).two (b := Bl + 1) (x := .int .i64 (hiW Q2)) (y := .int .u64 (loW Q2)) (by omega)
          have hz82 := hB82.size
          generalize ((v81.setCell ⟨Bl + 1, 0, none⟩ (.int .i64 (hiW Q2))).setCell ⟨Bl + 1, 1, none⟩ (.int .u64 (loW Q2))) = v82 at *
          go_roundw
          case rel => exact ⟨1, by go_num, by omega, ht, hrow, by rw [show accP l ps 1 = A9 from hA9.out, hst2.out]; exact ⟨z0, z1, zf0, zf1, lo0, lo1, lof0, lof1, hi0, hi1, hif0, hif1⟩, by assumption⟩
          case measure => first | (simp [intOf]; done) | (simp [intOf]; omega)
        have kz : ¬ (k : Int) = 0 := by omega
        have kb : ((k : Int) == 0) = false := beq_eq_false_iff_ne.2 kz
        have kd : (k == 0) = false := by simpa using k0
        replace s1 := hid s1; replace s2 := hid s2
        go_wp2_with fail
        refine useF w (La.out _ ht) (by go_grown) ?_; rintro e w71 rfl hB71 hk71 hf71 hs71
        replace zf0 := hf71 _ _ _ z0 zf0
        replace z0 := hk71 _ _ _ z0
        replace zf1 := hf71 _ _ _ z1 zf1
        replace z1 := hk71 _ _ _ z1
        (try clear zb); have zb := World.block_lt_of_cell? _ _ z0; (try dsimp only at zb)
        replace lof0 := hf71 _ _ _ lo0 lof0
        replace lo0 := hk71 _ _ _ lo0
        replace lof1 := hf71 _ _ _ lo1 lof1
        replace lo1 := hk71 _ _ _ lo1
        (try clear lob); have lob := World.block_lt_of_cell? _ _ lo0; (try dsimp only at lob)
        replace hif0 := hf71 _ _ _ hi0 hif0
        replace hi0 := hk71 _ _ _ hi0
        replace hif1 := hf71 _ _ _ hi1 hif1
        replace hi1 := hk71 _ _ _ hi1
        (try clear hib); have hib := World.block_lt_of_cell? _ _ hi0; (try dsimp only at hib)
        replace c0 := hk71 _ _ _ c0
        (try clear cb); have cb := World.block_lt_of_cell? _ _ c0; (try dsimp only at cb)
        replace ht := (ht).keep hk71
        replace hrow := (hrow).keep hk71
        have hz71 := hB71.size
        clear hk71 hf71 hs71
        have hB71x : Below w.heap.size w ((w71.alloc (.cells #[.int .i64 (hiW P1), .int .u64 (loW P1)] 78)).alloc (.cells #[.int .i64 (hiW P2), .int .u64 (loW P2)] 78)) := by go_grown
        have zf0' := (keepAF (.cells #[.int .i64 (hiW P2), .int .u64 (loW P2)] 78) (keepA (.cells #[.int .i64 (hiW P1), .int .u64 (loW P1)] 78) z0) (keepAF (.cells #[.int .i64 (hiW P1), .int .u64 (loW P1)] 78) z0 zf0))
        have z0' := (keepA (.cells #[.int .i64 (hiW P2), .int .u64 (loW P2)] 78) (keepA (.cells #[.int .i64 (hiW P1), .int .u64 (loW P1)] 78) z0))
        have zf1' := (keepAF (.cells #[.int .i64 (hiW P2), .int .u64 (loW P2)] 78) (keepA (.cells #[.int .i64 (hiW P1), .int .u64 (loW P1)] 78) z1) (keepAF (.cells #[.int .i64 (hiW P1), .int .u64 (loW P1)] 78) z1 zf1))
        have z1' := (keepA (.cells #[.int .i64 (hiW P2), .int .u64 (loW P2)] 78) (keepA (.cells #[.int .i64 (hiW P1), .int .u64 (loW P1)] 78) z1))
        have lof0' := (keepAF (.cells #[.int .i64 (hiW P2), .int .u64 (loW P2)] 78) (keepA (.cells #[.int .i64 (hiW P1), .int .u64 (loW P1)] 78) lo0) (keepAF (.cells #[.int .i64 (hiW P1), .int .u64 (loW P1)] 78) lo0 lof0))
        have lo0' := (keepA (.cells #[.int .i64 (hiW P2), .int .u64 (loW P2)] 78) (keepA (.cells #[.int .i64 (hiW P1), .int .u64 (loW P1)] 78) lo0))
        have lof1' := (keepAF (.cells #[.int .i64 (hiW P2), .int .u64 (loW P2)] 78) (keepA (.cells #[.int .i64 (hiW P1), .int .u64 (loW P1)] 78) lo1) (keepAF (.cells #[.int .i64 (hiW P1), .int .u64 (loW P1)] 78) lo1 lof1))
        have lo1' := (keepA (.cells #[.int .i64 (hiW P2), .int .u64 (loW P2)] 78) (keepA (.cells #[.int .i64 (hiW P1), .int .u64 (loW P1)] 78) lo1))
        have hif0' := (keepAF (.cells #[.int .i64 (hiW P2), .int .u64 (loW P2)] 78) (keepA (.cells #[.int .i64 (hiW P1), .int .u64 (loW P1)] 78) hi0) (keepAF (.cells #[.int .i64 (hiW P1), .int .u64 (loW P1)] 78) hi0 hif0))
        have hi0' := (keepA (.cells #[.int .i64 (hiW P2), .int .u64 (loW P2)] 78) (keepA (.cells #[.int .i64 (hiW P1), .int .u64 (loW P1)] 78) hi0))
        have hif1' := (keepAF (.cells #[.int .i64 (hiW P2), .int .u64 (loW P2)] 78) (keepA (.cells #[.int .i64 (hiW P1), .int .u64 (loW P1)] 78) hi1) (keepAF (.cells #[.int .i64 (hiW P1), .int .u64 (loW P1)] 78) hi1 hif1))
        have hi1' := (keepA (.cells #[.int .i64 (hiW P2), .int .u64 (loW P2)] 78) (keepA (.cells #[.int .i64 (hiW P1), .int .u64 (loW P1)] 78) hi1))
        have c0' := (keepA (.cells #[.int .i64 (hiW P2), .int .u64 (loW P2)] 78) (keepA (.cells #[.int .i64 (hiW P1), .int .u64 (loW P1)] 78) c0))
        have ht' := ((ht).alloc (.cells #[.int .i64 (hiW P1), .int .u64 (loW P1)] 78)).alloc (.cells #[.int .i64 (hiW P2), .int .u64 (loW P2)] 78)
        have hrow' := ((hrow).alloc (.cells #[.int .i64 (hiW P1), .int .u64 (loW P1)] 78)).alloc (.cells #[.int .i64 (hiW P2), .int .u64 (loW P2)] 78)
        have p0 := (keepA (.cells #[.int .i64 (hiW P2), .int .u64 (loW P2)] 78) (show (w71.alloc (.cells #[.int .i64 (hiW P1), .int .u64 (loW P1)] 78)).cell? ⟨w71.heap.size, 0, none⟩ = some (.int .i64 (hiW P1)) by simp [go_sem]))
        have pf0 := (keepAF (.cells #[.int .i64 (hiW P2), .int .u64 (loW P2)] 78) (show (w71.alloc (.cells #[.int .i64 (hiW P1), .int .u64 (loW P1)] 78)).cell? ⟨w71.heap.size, 0, none⟩ = some (.int .i64 (hiW P1)) by simp [go_sem]) (show (w71.alloc (.cells #[.int .i64 (hiW P1), .int .u64 (loW P1)] 78)).frozen? ⟨w71.heap.size, 0, none⟩ = false by simp [go_sem]))
        have p1 := (keepA (.cells #[.int .i64 (hiW P2), .int .u64 (loW P2)] 78) (show (w71.alloc (.cells #[.int .i64 (hiW P1), .int .u64 (loW P1)] 78)).cell? ⟨w71.heap.size, 1, none⟩ = some (.int .u64 (loW P1)) by simp [go_sem]))
        have pf1 := (keepAF (.cells #[.int .i64 (hiW P2), .int .u64 (loW P2)] 78) (show (w71.alloc (.cells #[.int .i64 (hiW P1), .int .u64 (loW P1)] 78)).cell? ⟨w71.heap.size, 1, none⟩ = some (.int .u64 (loW P1)) by simp [go_sem]) (show (w71.alloc (.cells #[.int .i64 (hiW P1), .int .u64 (loW P1)] 78)).frozen? ⟨w71.heap.size, 1, none⟩ = false by simp [go_sem]))
        go_wp2_with fail
        replace zf0 := zf0'; clear zf0'
        replace z0 := z0'; clear z0'
        replace zf1 := zf1'; clear zf1'
        replace z1 := z1'; clear z1'
        replace lof0 := lof0'; clear lof0'
        replace lo0 := lo0'; clear lo0'
        replace lof1 := lof1'; clear lof1'
        replace lo1 := lo1'; clear lo1'
        replace hif0 := hif0'; clear hif0'
        replace hi0 := hi0'; clear hi0'
        replace hif1 := hif1'; clear hif1'
        replace hi1 := hi1'; clear hi1'
        replace c0 := c0'; clear c0'
        replace ht := ht'; clear ht'
        replace hrow := hrow'; clear hrow'
        have hz71x := hB71x.size
        generalize hv71 : ((w71.alloc (.cells #[.int .i64 (hiW P1), .int .u64 (loW P1)] 78)).alloc (.cells #[.int .i64 (hiW P2), .int .u64 (loW P2)] 78)) = v71 at *
        have pb := World.block_lt_of_cell? _ _ p0; (try dsimp only at pb)
        have zb71 := zb
        have lob71 := lob
        have hib71 := hib
        have cb71 := cb
        clear hv71 hB71
        generalize w71.heap.size = B71 at *
        refine useF w (Lb.out _ ht) (by go_grown) ?_; rintro e w72 rfl hB72 hk72 hf72 hs72
        replace zf0 := hf72 _ _ _ z0 zf0
        replace z0 := hk72 _ _ _ z0
        replace zf1 := hf72 _ _ _ z1 zf1
        replace z1 := hk72 _ _ _ z1
        (try clear zb); have zb := World.block_lt_of_cell? _ _ z0; (try dsimp only at zb)
        replace lof0 := hf72 _ _ _ lo0 lof0
        replace lo0 := hk72 _ _ _ lo0
        replace lof1 := hf72 _ _ _ lo1 lof1
        replace lo1 := hk72 _ _ _ lo1
        (try clear lob); have lob := World.block_lt_of_cell? _ _ lo0; (try dsimp only at lob)
        replace hif0 := hf72 _ _ _ hi0 hif0
        replace hi0 := hk72 _ _ _ hi0
        replace hif1 := hf72 _ _ _ hi1 hif1
        replace hi1 := hk72 _ _ _ hi1
        (try clear hib); have hib := World.block_lt_of_cell? _ _ hi0; (try dsimp only at hib)
        replace p0 := hk72 _ _ _ p0
        replace p1 := hk72 _ _ _ p1
        (try clear pb); have pb := World.block_lt_of_cell? _ _ p0; (try dsimp only at pb)
        replace c0 := hk72 _ _ _ c0
        (try clear cb); have cb := World.block_lt_of_cell? _ _ c0; (try dsimp only at cb)
        replace ht := (ht).keep hk72
        replace hrow := (hrow).keep hk72
        have hz72 := hB72.size
        clear hk72 hf72 hs72
        have hB72x : Below w.heap.size w ((w72.alloc (.cells #[.int .i64 (hiW Q1), .int .u64 (loW Q1)] 78)).alloc (.cells #[.int .i64 (hiW Q2), .int .u64 (loW Q2)] 78)) := by go_grown
        have zf0' := (keepAF (.cells #[.int .i64 (hiW Q2), .int .u64 (loW Q2)] 78) (keepA (.cells #[.int .i64 (hiW Q1), .int .u64 (loW Q1)] 78) z0) (keepAF (.cells #[.int .i64 (hiW Q1), .int .u64 (loW Q1)] 78) z0 zf0))
        have z0' := (keepA (.cells #[.int .i64 (hiW Q2), .int .u64 (loW Q2)] 78) (keepA (.cells #[.int .i64 (hiW Q1), .int .u64 (loW Q1)] 78) z0))
        have zf1' := (keepAF (.cells #[.int .i64 (hiW Q2), .int .u64 (loW Q2)] 78) (keepA (.cells #[.int .i64 (hiW Q1), .int .u64 (loW Q1)] 78) z1) (keepAF (.cells #[.int .i64 (hiW Q1), .int .u64 (loW Q1)] 78) z1 zf1))
        have z1' := (keepA (.cells #[.int .i64 (hiW Q2), .int .u64 (loW Q2)] 78) (keepA (.cells #[.int .i64 (hiW Q1), .int .u64 (loW Q1)] 78) z1))
        have lof0' := (keepAF (.cells #[.int .i64 (hiW Q2), .int .u64 (loW Q2)] 78) (keepA (.cells #[.int .i64 (hiW Q1), .int .u64 (loW Q1)] 78) lo0) (keepAF (.cells #[.int .i64 (hiW Q1), .int .u64 (loW Q1)] 78) lo0 lof0))
        have lo0' := (keepA (.cells #[.int .i64 (hiW Q2), .int .u64 (loW Q2)] 78) (keepA (.cells #[.int .i64 (hiW Q1), .int .u64 (loW Q1)] 78) lo0))
        have lof1' := (keepAF (.cells #[.int .i64 (hiW Q2), .int .u64 (loW Q2)] 78) (keepA (.cells #[.int .i64 (hiW Q1), .int .u64 (loW Q1)] 78) lo1) (keepAF (.cells #[.int .i64 (hiW Q1), .int .u64 (loW Q1)] 78) lo1 lof1))
        have lo1' := (keepA (.cells #[.int .i64 (hiW Q2), .int .u64 (loW Q2)] 78) (keepA (.cells #[.int .i64 (hiW Q1), .int .u64 (loW Q1)] 78) lo1))
        have hif0' := (keepAF (.cells #[.int .i64 (hiW Q2), .int .u64 (loW Q2)] 78) (keepA (.cells #[.int .i64 (hiW Q1), .int .u64 (loW Q1)] 78) hi0) (keepAF (.cells #[.int .i64 (hiW Q1), .int .u64 (loW Q1)] 78) hi0 hif0))
        have hi0' := (keepA (.cells #[.int .i64 (hiW Q2), .int .u64 (loW Q2)] 78) (keepA (.cells #[.int .i64 (hiW Q1), .int .u64 (loW Q1)] 78) hi0))
        have hif1' := (keepAF (.cells #[.int .i64 (hiW Q2), .int .u64 (loW Q2)] 78) (keepA (.cells #[.int .i64 (hiW Q1), .int .u64 (loW Q1)] 78) hi1) (keepAF (.cells #[.int .i64 (hiW Q1), .int .u64 (loW Q1)] 78) hi1 hif1))
        have hi1' := (keepA (.cells #[.int .i64 (hiW Q2), .int .u64 (loW Q2)] 78) (keepA (.cells #[.int .i64 (hiW Q1), .int .u64 (loW Q1)] 78) hi1))
        have p0' := (keepA (.cells #[.int .i64 (hiW Q2), .int .u64 (loW Q2)] 78) (keepA (.cells #[.int .i64 (hiW Q1), .int .u64 (loW Q1)] 78) p0))
        have p1' := (keepA (.cells #[.int .i64 (hiW Q2), .int .u64 (loW Q2)] 78) (keepA (.cells #[.int .i64 (hiW Q1), .int .u64 (loW Q1)] 78) p1))
        have c0' := (keepA (.cells #[.int .i64 (hiW Q2), .int .u64 (loW Q2)] 78) (keepA (.cells #[.int .i64 (hiW Q1), .int .u64 (loW Q1)] 78) c0))
        have ht' := ((ht).alloc (.cells #[.int .i64 (hiW Q1), .int .u64 (loW Q1)] 78)).alloc (.cells #[.int .i64 (hiW Q2), .int .u64 (loW Q2)] 78)
        have hrow' := ((hrow).alloc (.cells #[.int .i64 (hiW Q1), .int .u64 (loW Q1)] 78)).alloc (.cells #[.int .i64 (hiW Q2), .int .u64 (loW Q2)] 78)
        have q0 := (show ((w72.alloc (.cells #[.int .i64 (hiW Q1), .int .u64 (loW Q1)] 78)).alloc (.cells #[.int .i64 (hiW Q2), .int .u64 (loW Q2)] 78)).cell? ⟨w72.heap.size + 1, 0, none⟩ = some (.int .i64 (hiW Q2)) by simp [go_sem])
        have qf0 := (show ((w72.alloc (.cells #[.int .i64 (hiW Q1), .int .u64 (loW Q1)] 78)).alloc (.cells #[.int .i64 (hiW Q2), .int .u64 (loW Q2)] 78)).frozen? ⟨w72.heap.size + 1, 0, none⟩ = false by simp [go_sem])
        have q1 := (show ((w72.alloc (.cells #[.int .i64 (hiW Q1), .int .u64 (loW Q1)] 78)).alloc (.cells #[.int .i64 (hiW Q2), .int .u64 (loW Q2)] 78)).cell? ⟨w72.heap.size + 1, 1, none⟩ = some (.int .u64 (loW Q2)) by simp [go_sem])
        have qf1 := (show ((w72.alloc (.cells #[.int .i64 (hiW Q1), .int .u64 (loW Q1)] 78)).alloc (.cells #[.int .i64 (hiW Q2), .int .u64 (loW Q2)] 78)).frozen? ⟨w72.heap.size + 1, 1, none⟩ = false by simp [go_sem])
        go_wp2_with fail
        replace zf0 := zf0'; clear zf0'
        replace z0 := z0'; clear z0'
        replace zf1 := zf1'; clear zf1'
        replace z1 := z1'; clear z1'
        replace lof0 := lof0'; clear lof0'
        replace lo0 := lo0'; clear lo0'
        replace lof1 := lof1'; clear lof1'
        replace lo1 := lo1'; clear lo1'
        replace hif0 := hif0'; clear hif0'
        replace hi0 := hi0'; clear hi0'
        replace hif1 := hif1'; clear hif1'
        replace hi1 := hi1'; clear hi1'
        replace p0 := p0'; clear p0'
        replace p1 := p1'; clear p1'
        replace c0 := c0'; clear c0'
        replace ht := ht'; clear ht'
        replace hrow := hrow'; clear hrow'
        have hz72x := hB72x.size
        generalize hv72 : ((w72.alloc (.cells #[.int .i64 (hiW Q1), .int .u64 (loW Q1)] 78)).alloc (.cells #[.int .i64 (hiW Q2), .int .u64 (loW Q2)] 78)) = v72 at *
        have qb := World.block_lt_of_cell? _ _ q0; (try dsimp only at qb)
        have zb72 := zb
        have lob72 := lob
        have hib72 := hib
        have pb72 := pb
        have cb72 := cb
        clear hv72 hB72
        generalize w72.heap.size = B72 at *
        clear La Lb c0
        replace s1 := s1.out; replace s2 := s2.out
        by_cases y1 : P1 < A1
        · by_cases y2 : A2 < Q2
          · have e1 : decide (P1 < A1) = true := decide_eq_true y1
            have e2 : decide (A2 < Q2) = true := decide_eq_true y2
            rw [e1] at s1; rw [e2] at s2
            replace s1 := hid s1; replace s2 := hid s2
            have hst2 : Hid (A9 = (P1, Q2)) := hid (by rw [hst.out, if_neg k0]; exact Prod.ext (by dsimp only; omega) (by dsimp only; omega))
            clear e1 e2 y1 y2 hst
            refine useF w (s1.out _) (by go_grown) ?_; rintro e w73 rfl hB73 hk73 hf73 hs73
            replace zf0 := hf73 _ _ _ z0 zf0
            replace z0 := hk73 _ _ _ z0
            replace zf1 := hf73 _ _ _ z1 zf1
            replace z1 := hk73 _ _ _ z1
            (try clear zb); have zb := World.block_lt_of_cell? _ _ z0; (try dsimp only at zb)
            replace lof0 := hf73 _ _ _ lo0 lof0
            replace lo0 := hk73 _ _ _ lo0
            replace lof1 := hf73 _ _ _ lo1 lof1
            replace lo1 := hk73 _ _ _ lo1
            (try clear lob); have lob := World.block_lt_of_cell? _ _ lo0; (try dsimp only at lob)
            replace hif0 := hf73 _ _ _ hi0 hif0
            replace hi0 := hk73 _ _ _ hi0
            replace hif1 := hf73 _ _ _ hi1 hif1
            replace hi1 := hk73 _ _ _ hi1
            (try clear hib); have hib := World.block_lt_of_cell? _ _ hi0; (try dsimp only at hib)
            replace p0 := hk73 _ _ _ p0
            replace p1 := hk73 _ _ _ p1
            (try clear pb); have pb := World.block_lt_of_cell? _ _ p0; (try dsimp only at pb)
            replace q0 := hk73 _ _ _ q0
            replace q1 := hk73 _ _ _ q1
            (try clear qb); have qb := World.block_lt_of_cell? _ _ q0; (try dsimp only at qb)
            replace ht := (ht).keep hk73
            replace hrow := (hrow).keep hk73
            have hz73 := hB73.size
            clear hk73 hf73 hs73
            go_upto_region 18 with fail
            have hB81 : Below w.heap.size w ((w73.setCell ⟨Bl, 0, none⟩ (.int .i64 (hiW P1))).setCell ⟨Bl, 1, none⟩ (.int .u64 (loW P1))) := by go_grown
            replace zf0 := two_fz (b := Bl) (x := .int .i64 (hiW P1)) (y := .int .u64 (loW P1)) zf0
            replace z0 := two_other (b := Bl) (x := .int .i64 (hiW P1)) (y := .int .u64 (loW P1)) z0 (by omega)
            replace zf1 := two_fz (b := Bl) (x := .int .i64 (hiW P1)) (y := .int .u64 (loW P1)) zf1
            replace z1 := two_other (b := Bl) (x := .int .i64 (hiW P1)) (y := .int .u64 (loW P1)) z1 (by omega)
            replace lof0 := two_fz (b := Bl) (x := .int .i64 (hiW P1)) (y := .int .u64 (loW P1)) lof0
            replace lo0 := two_0 (x := .int .i64 (hiW P1)) (y := .int .u64 (loW P1)) lo0
            replace lof1 := two_fz (b := Bl) (x := .int .i64 (hiW P1)) (y := .int .u64 (loW P1)) lof1
            replace lo1 := two_1 (x := .int .i64 (hiW P1)) (y := .int .u64 (loW P1)) lo1
            replace hif0 := two_fz (b := Bl) (x := .int .i64 (hiW P1)) (y := .int .u64 (loW P1)) hif0
            replace hi0 := two_other (b := Bl) (x := .int .i64 (hiW P1)) (y := .int .u64 (loW P1)) hi0 (by omega)
            replace hif1 := two_fz (b := Bl) (x := .int .i64 (hiW P1)) (y := .int .u64 (loW P1)) hif1
            replace hi1 := two_other (b := Bl) (x := .int .i64 (hiW P1)) (y := .int .u64 (loW P1)) hi1 (by omega)
            replace p0 := two_other (b := Bl) (x := .int .i64 (hiW P1)) (y := .int .u64 (loW P1)) p0 (by omega)
            replace p1 := two_other (b := Bl) (x := .int .i64 (hiW P1)) (y := .int .u64 (loW P1)) p1 (by omega)
            replace q0 := two_other (b := Bl) (x := .int .i64 (hiW P1)) (y := .int .u64 (loW P1)) q0 (by omega)
            replace q1 := two_other (b := Bl) (x := .int .i64 (hiW P1)) (y := .int .u64 (loW P1)) q1 (by omega)
            replace ht := (ht).two (b := Bl) (x := .int .i64 (hiW P1)) (y := .int .u64 (loW P1)) (by omega)
            replace hrow := (hrow).two (b := Bl) (x := .int .i64 (hiW P1)) (y := .int .u64 (loW P1)) (by omega)
            have hz81 := hB81.size
            generalize ((w73.setCell ⟨Bl, 0, none⟩ (.int .i64 (hiW P1))).setCell ⟨Bl, 1, none⟩ (.int .u64 (loW P1))) = v81 at *
            go_wp2_with fail
            refine useF w (s2.out _) (by go_grown) ?_; rintro e w74 rfl hB74 hk74 hf74 hs74
            replace zf0 := hf74 _ _ _ z0 zf0
            replace z0 := hk74 _ _ _ z0
            replace zf1 := hf74 _ _ _ z1 zf1
            replace z1 := hk74 _ _ _ z1
            (try clear zb); have zb := World.block_lt_of_cell? _ _ z0; (try dsimp only at zb)
            replace lof0 := hf74 _ _ _ lo0 lof0
            replace lo0 := hk74 _ _ _ lo0
            replace lof1 := hf74 _ _ _ lo1 lof1
            replace lo1 := hk74 _ _ _ lo1
            (try clear lob); have lob := World.block_lt_of_cell? _ _ lo0; (try dsimp only at lob)
            replace hif0 := hf74 _ _ _ hi0 hif0
            replace hi0 := hk74 _ _ _ hi0
            replace hif1 := hf74 _ _ _ hi1 hif1
            replace hi1 := hk74 _ _ _ hi1
            (try clear hib); have hib := World.block_lt_of_cell? _ _ hi0; (try dsimp only at hib)
            replace p0 := hk74 _ _ _ p0
            replace p1 := hk74 _ _ _ p1
            (try clear pb); have pb := World.block_lt_of_cell? _ _ p0; (try dsimp only at pb)
            replace q0 := hk74 _ _ _ q0
            replace q1 := hk74 _ _ _ q1
            (try clear qb); have qb := World.block_lt_of_cell? _ _ q0; (try dsimp only at qb)
            replace ht := (ht).keep hk74
            replace hrow := (hrow).keep hk74
            have hz74 := hB74.size
            clear hk74 hf74 hs74
            go_wp2_with fail
            have hB82 : Below w.heap.size w ((w74.setCell ⟨Bl + 1, 0, none⟩ (.int .i64 (hiW Q2))).setCell ⟨Bl + 1, 1, none⟩ (.int .u64 (loW Q2))) := by go_grown
            replace zf0 := two_fz (b := Bl + 1) (x := .int .i64 (hiW Q2)) (y := .int .u64 (loW Q2)) zf0
            replace z0 := two_other (b := Bl + 1) (x := .int .i64 (hiW Q2)) (y := .int .u64 (loW Q2)) z0 (by omega)
            replace zf1 := two_fz (b := Bl + 1) (x := .int .i64 (hiW Q2)) (y := .int .u64 (loW Q2)) zf1
            replace z1 := two_other (b := Bl + 1) (x := .int .i64 (hiW Q2)) (y := .int .u64 (loW Q2)) z1 (by omega)
            replace lof0 := two_fz (b := Bl + 1) (x := .int .i64 (hiW Q2)) (y := .int .u64 (loW Q2)) lof0
            replace lo0 := two_other (b := Bl + 1) (x := .int .i64 (hiW Q2)) (y := .int .u64 (loW Q2)) lo0 (by omega)
            replace lof1 := two_fz (b := Bl + 1) (x := .int .i64 (hiW Q2)) (y := .int .u64 (loW Q2)) lof1
            replace lo1 := two_other (b := Bl + 1) (x := .int .i64 (hiW Q2)) (y := .int .u64 (loW Q2)) lo1 (by omega)
            replace hif0 := two_fz (b := Bl + 1) (x := .int .i64 (hiW Q2)) (y := .int .u64 (loW Q2)) hif0
            replace hi0 := two_0 (x := .int .i64 (hiW Q2)) (y := .int .u64 (loW Q2)) hi0
            replace hif1 := two_fz (b := Bl + 1) (x := .int .i64 (hiW Q2)) (y := .int .u64 (loW Q2)) hif1
            replace hi1 := two_1 (x := .int .i64 (hiW Q2)) (y := .int .u64 (loW Q2)) hi1
            replace p0 := two_other (b := Bl + 1) (x := .int .i64 (hiW Q2)) (y := .int .u64 (loW Q2)) p0 (by omega)
            replace p1 := two_other (b := Bl + 1) (x := .int .i64 (hiW Q2)) (y := .int .u64 (loW Q2)) p1 (by omega)
            replace q0 := two_other (b := Bl + 1) (x := .int .i64 (hiW Q2)) (y := .int .u64 (loW Q2)) q0 (by omega)
            replace q1 := two_other (b := Bl + 1) (x := .int .i64 (hiW Q2)) (y := .int .u64 (loW Q2)) q1 (by omega)
            replace ht := (ht).two (b := Bl + 1) (x := .int .i64 (hiW Q2)) (y := .int .u64 (loW Q2)) (by omega)
            replace hrow := (hrow).two (b := Bl + 1) (x := .int .i64 (hiW Q2)) (y := .int .u64 (loW Q2)) (by omega)
            have hz82 := hB82.size
            generalize ((w74.setCell ⟨Bl + 1, 0, none⟩ (.int .i64 (hiW Q2))).setCell ⟨Bl + 1, 1, none⟩ (.int .u64 (loW Q2))) = v82 at *
            go_roundw
            case rel => exact ⟨k + 1, by go_num, by omega, ht, hrow, by rw [hA9, hst2.out]; exact ⟨z0, z1, zf0, zf1, lo0, lo1, lof0, lof1, hi0, hi1, hif0, hif1⟩, by assumption⟩
            case measure => first | (simp [intOf]; done) | (simp [intOf]; omega)
          · have e1 : decide (P1 < A1) = true := decide_eq_true y1
            have e2 : decide (A2 < Q2) = false := decide_eq_false y2
            rw [e1] at s1; rw [e2] at s2
            replace s1 := hid s1; replace s2 := hid s2
            have hst2 : Hid (A9 = (P1, A2)) := hid (by rw [hst.out, if_neg k0]; exact Prod.ext (by dsimp only; omega) (by dsimp only; omega))
            clear e1 e2 y1 y2 hst
            refine useF w (s1.out _) (by go_grown) ?_; rintro e w73 rfl hB73 hk73 hf73 hs73
            replace zf0 := hf73 _ _ _ z0 zf0
            replace z0 := hk73 _ _ _ z0
            replace zf1 := hf73 _ _ _ z1 zf1
            replace z1 := hk73 _ _ _ z1
            (try clear zb); have zb := World.block_lt_of_cell? _ _ z0; (try dsimp only at zb)
            replace lof0 := hf73 _ _ _ lo0 lof0
            replace lo0 := hk73 _ _ _ lo0
            replace lof1 := hf73 _ _ _ lo1 lof1
            replace lo1 := hk73 _ _ _ lo1
            (try clear lob); have lob := World.block_lt_of_cell? _ _ lo0; (try dsimp only at lob)
            replace hif0 := hf73 _ _ _ hi0 hif0
            replace hi0 := hk73 _ _ _ hi0
            replace hif1 := hf73 _ _ _ hi1 hif1
            replace hi1 := hk73 _ _ _ hi1
            (try clear hib); have hib := World.block_lt_of_cell? _ _ hi0; (try dsimp only at hib)
            replace p0 := hk73 _ _ _ p0
            replace p1 := hk73 _ _ _ p1
            (try clear pb); have pb := World.block_lt_of_cell? _ _ p0; (try dsimp only at pb)
            replace q0 := hk73 _ _ _ q0
            replace q1 := hk73 _ _ _ q1
            (try clear qb); have qb := World.block_lt_of_cell? _ _ q0; (try dsimp only at qb)
            replace ht := (ht).keep hk73
            replace hrow := (hrow).keep hk73
            have hz73 := hB73.size
            clear hk73 hf73 hs73
            go_upto_region 18 with fail
            have hB81 : Below w.heap.size w ((w73.setCell ⟨Bl, 0, none⟩ (.int .i64 (hiW P1))).setCell ⟨Bl, 1, none⟩ (.int .u64 (loW P1))) := by go_grown
            replace zf0 := two_fz (b := Bl) (x := .int .i64 (hiW P1)) (y := .int .u64 (loW P1)) zf0
            replace z0 := two_other (b := Bl) (x := .int .i64 (hiW P1)) (y := .int .u64 (loW P1)) z0 (by omega)
            replace zf1 := two_fz (b := Bl) (x := .int .i64 (hiW P1)) (y := .int .u64 (loW P1)) zf1
            replace z1 := two_other (b := Bl) (x := .int .i64 (hiW P1)) (y := .int .u64 (loW P1)) z1 (by omega)
            replace lof0 := two_fz (b := Bl) (x := .int .i64 (hiW P1)) (y := .int .u64 (loW P1)) lof0
            replace lo0 := two_0 (x := .int .i64 (hiW P1)) (y := .int .u64 (loW P1)) lo0
            replace lof1 := two_fz (b := Bl) (x := .int .i64 (hiW P1)) (y := .int .u64 (loW P1)) lof1
            replace lo1 := two_1 (x := .int .i64 (hiW P1)) (y := .int .u64 (loW P1)) lo1
            replace hif0 := two_fz (b := Bl) (x := .int .i64 (hiW P1)) (y := .int .u64 (loW P1)) hif0
            replace hi0 := two_other (b := Bl) (x := .int .i64 (hiW P1)) (y := .int .u64 (loW P1)) hi0 (by omega)
            replace hif1 := two_fz (b := Bl) (x := .int .i64 (hiW P1)) (y := .int .u64 (loW P1)) hif1
            replace hi1 := two_other (b := Bl) (x := .int .i64 (hiW P1)) (y := .int .u64 (loW P1)) hi1 (by omega)
            replace p0 := two_other (b := Bl) (x := .int .i64 (hiW P1)) (y := .int .u64 (loW P1)) p0 (by omega)
            replace p1 := two_other (b := Bl) (x := .int .i64 (hiW P1)) (y := .int .u64 (loW P1)) p1 (by omega)
            replace q0 := two_other (b := Bl) (x := .int .i64 (hiW P1)) (y := .int .u64 (loW P1)) q0 (by omega)
            replace q1 := two_other (b := Bl) (x := .int .i64 (hiW P1)) (y := .int .u64 (loW P1)) q1 (by omega)
            replace ht := (ht).two (b := Bl) (x := .int .i64 (hiW P1)) (y := .int .u64 (loW P1)) (by omega)
            replace hrow := (hrow).two (b := Bl) (x := .int .i64 (hiW P1)) (y := .int .u64 (loW P1)) (by omega)
            have hz81 := hB81.size
            generalize ((w73.setCell ⟨Bl, 0, none⟩ (.int .i64 (hiW P1))).setCell ⟨Bl, 1, none⟩ (.int .u64 (loW P1))) = v81 at *
            go_wp2_with fail
            refine useF w (s2.out _) (by go_grown) ?_; rintro e w74 rfl hB74 hk74 hf74 hs74
            replace zf0 := hf74 _ _ _ z0 zf0
            replace z0 := hk74 _ _ _ z0
            replace zf1 := hf74 _ _ _ z1 zf1
            replace z1 := hk74 _ _ _ z1
            (try clear zb); have zb := World.block_lt_of_cell? _ _ z0; (try dsimp only at zb)
            replace lof0 := hf74 _ _ _ lo0 lof0
            replace lo0 := hk74 _ _ _ lo0
            replace lof1 := hf74 _ _ _ lo1 lof1
            replace lo1 := hk74 _ _ _ lo1
            (try clear lob); have lob := World.block_lt_of_cell? _ _ lo0; (try dsimp only at lob)
            replace hif0 := hf74 _ _ _ hi0 hif0
            replace hi0 := hk74 _ _ _ hi0
            replace hif1 := hf74 _ _ _ hi1 hif1
            replace hi1 := hk74 _ _ _ hi1
            (try clear hib); have hib := World.block_lt_of_cell? _ _ hi0; (try dsimp only at hib)
            replace p0 := hk74 _ _ _ p0
            replace p1 := hk74 _ _ _ p1
            (try clear pb); have pb := World.block_lt_of_cell? _ _ p0; (try dsimp only at pb)
            replace q0 := hk74 _ _ _ q0
            replace q1 := hk74 _ _ _ q1
            (try clear qb); have qb := World.block_lt_of_cell? _ _ q0; (try dsimp only at qb)
            replace ht := (ht).keep hk74
            replace hrow := (hrow).keep hk74
            have hz74 := hB74.size
            clear hk74 hf74 hs74
            go_wp2_with fail
            go_roundw
            case rel => exact ⟨k + 1, by go_num, by omega, ht, hrow, by rw [hA9, hst2.out]; exact ⟨z0, z1, zf0, zf1, lo0, lo1, lof0, lof1, hi0, hi1, hif0, hif1⟩, by assumption⟩
            case measure => first | (simp [intOf]; done) | (simp [intOf]; omega)
        · by_cases y2 : A2 < Q2
          · have e1 : decide (P1 < A1) = false := decide_eq_false y1
            have e2 : decide (A2 < Q2) = true := decide_eq_true y2
            rw [e1] at s1; rw [e2] at s2
            replace s1 := hid s1; replace s2 := hid s2
            have hst2 : Hid (A9 = (A1, Q2)) := hid (by rw [hst.out, if_neg k0]; exact Prod.ext (by dsimp only; omega) (by dsimp only; omega))
            clear e1 e2 y1 y2 hst
            refine useF w (s1.out _) (by go_grown) ?_; rintro e w73 rfl hB73 hk73 hf73 hs73
            replace zf0 := hf73 _ _ _ z0 zf0
            replace z0 := hk73 _ _ _ z0
            replace zf1 := hf73 _ _ _ z1 zf1
            replace z1 := hk73 _ _ _ z1
            (try clear zb); have zb := World.block_lt_of_cell? _ _ z0; (try dsimp only at zb)
            replace lof0 := hf73 _ _ _ lo0 lof0
            replace lo0 := hk73 _ _ _ lo0
            replace lof1 := hf73 _ _ _ lo1 lof1
            replace lo1 := hk73 _ _ _ lo1
            (try clear lob); have lob := World.block_lt_of_cell? _ _ lo0; (try dsimp only at lob)
            replace hif0 := hf73 _ _ _ hi0 hif0
            replace hi0 := hk73 _ _ _ hi0
            replace hif1 := hf73 _ _ _ hi1 hif1
            replace hi1 := hk73 _ _ _ hi1
            (try clear hib); have hib := World.block_lt_of_cell? _ _ hi0; (try dsimp only at hib)
            replace p0 := hk73 _ _ _ p0
            replace p1 := hk73 _ _ _ p1
            (try clear pb); have pb := World.block_lt_of_cell? _ _ p0; (try dsimp only at pb)
            replace q0 := hk73 _ _ _ q0
            replace q1 := hk73 _ _ _ q1
            (try clear qb); have qb := World.block_lt_of_cell? _ _ q0; (try dsimp only at qb)
            replace ht := (ht).keep hk73
            replace hrow := (hrow).keep hk73
            have hz73 := hB73.size
            clear hk73 hf73 hs73
            go_upto_region 18 with fail
            go_wp2_with fail
            refine useF w (s2.out _) (by go_grown) ?_; rintro e w74 rfl hB74 hk74 hf74 hs74
            replace zf0 := hf74 _ _ _ z0 zf0
            replace z0 := hk74 _ _ _ z0
            replace zf1 := hf74 _ _ _ z1 zf1
            replace z1 := hk74 _ _ _ z1
            (try clear zb); have zb := World.block_lt_of_cell? _ _ z0; (try dsimp only at zb)
            replace lof0 := hf74 _ _ _ lo0 lof0
            replace lo0 := hk74 _ _ _ lo0
            replace lof1 := hf74 _ _ _ lo1 lof1
            replace lo1 := hk74 _ _ _ lo1
            (try clear lob); have lob := World.block_lt_of_cell? _ _ lo0; (try dsimp only at lob)
            replace hif0 := hf74 _ _ _ hi0 hif0
            replace hi0 := hk74 _ _ _ hi0
            replace hif1 := hf74 _ _ _ hi1 hif1
            replace hi1 := hk74 _ _ _ hi1
            (try clear hib); have hib := World.block_lt_of_cell? _ _ hi0; (try dsimp only at hib)
            replace p0 := hk74 _ _ _ p0
            replace p1 := hk74 _ _ _ p1
            (try clear pb); have pb := World.block_lt_of_cell? _ _ p0; (try dsimp only at pb)
            replace q0 := hk74 _ _ _ q0
            replace q1 := hk74 _ _ _ q1
            (try clear qb); have qb := World.block_lt_of_cell? _ _ q0; (try dsimp only at qb)
            replace ht := (ht).keep hk74
            replace hrow := (hrow).keep hk74
            have hz74 := hB74.size
            clear hk74 hf74 hs74
            go_wp2_with fail
            have hB82 : Below w.heap.size w ((w74.setCell ⟨Bl + 1, 0, none⟩ (.int .i64 (hiW Q2))).setCell ⟨Bl + 1, 1, none⟩ (.int .u64 (loW Q2))) := by go_grown
            replace zf0 := two_fz (b := Bl + 1) (x := .int .i64 (hiW Q2)) (y := .int .u64 (loW Q2)) zf0
            replace z0 := two_other (b := Bl + 1) (x := .int .i64 (hiW Q2)) (y := .int .u64 (loW Q2)) z0 (by omega)
            replace zf1 := two_fz (b := Bl + 1) (x := .int .i64 (hiW Q2)) (y := .int .u64 (loW Q2)) zf1
            replace z1 := two_other (b := Bl + 1) (x := .int .i64 (hiW Q2)) (y := .int .u64 (loW Q2)) z1 (by omega)
            replace lof0 := two_fz (b := Bl + 1) (x := .int .i64 (hiW Q2)) (y := .int .u64 (loW Q2)) lof0
            replace lo0 := two_other (b := Bl + 1) (x := .int .i64 (hiW Q2)) (y := .int .u64 (loW Q2)) lo0 (by omega)
            replace lof1 := two_fz (b := Bl + 1) (x := .int .i64 (hiW Q2)) (y := .int .u64 (loW Q2)) lof1
            replace lo1 := two_other (b := Bl + 1) (x := .int .i64 (hiW Q2)) (y := .int .u64 (loW Q2)) lo1 (by omega)
            replace hif0 := two_fz (b := Bl + 1) (x := .int .i64 (hiW Q2)) (y := .int .u64 (loW Q2)) hif0
            replace hi0 := two_0 (x := .int .i64 (hiW Q2)) (y := .int .u64 (loW Q2)) hi0
            replace hif1 := two_fz (b := Bl + 1) (x := .int .i64 (hiW Q2)) (y := .int .u64 (loW Q2)) hif1
            replace hi1 := two_1 (x := .int .i64 (hiW Q2)) (y := .int .u64 (loW Q2)) hi1
            replace p0 := two_other (b := Bl + 1) (x := .int .i64 (hiW Q2)) (y := .int .u64 (loW Q2)) p0 (by omega)
            replace p1 := two_other (b := Bl + 1) (x := .int .i64 (hiW Q2)) (y := .int .u64 (loW Q2)) p1 (by omega)
            replace q0 := two_other (b := Bl + 1) (x := .int .i64 (hiW Q2)) (y := .int .u64 (loW Q2)) q0 (by omega)
            replace q1 := two_other (b := Bl + 1) (x := .int .i64 (hiW Q2)) (y := .int .u64 (loW Q2)) q1 (by omega)
            replace ht := (ht).two (b := Bl + 1) (x := .int .i64 (hiW Q2)) (y := .int .u64 (loW Q2)) (by omega)
            replace hrow := (hrow).two (b := Bl + 1) (x := .int .i64 (hiW Q2)) (y := .int .u64 (loW Q2)) (by omega)
            have hz82 := hB82.size
            generalize ((w74.setCell ⟨Bl + 1, 0, none⟩ (.int .i64 (hiW Q2))).setCell ⟨Bl + 1, 1, none⟩ (.int .u64 (loW Q2))) = v82 at *
            go_roundw
            case rel => exact ⟨k + 1, by go_num, by omega, ht, hrow, by rw [hA9, hst2.out]; exact ⟨z0, z1, zf0, zf1, lo0, lo1, lof0, lof1, hi0, hi1, hif0, hif1⟩, by assumption⟩
            case measure => first | (simp [intOf]; done) | (simp [intOf]; omega)
          · have e1 : decide (P1 < A1) = false := decide_eq_false y1
            have e2 : decide (A2 < Q2) = false := decide_eq_false y2
            rw [e1] at s1; rw [e2] at s2
            replace s1 := hid s1; replace s2 := hid s2
            have hst2 : Hid (A9 = (A1, A2)) := hid (by rw [hst.out, if_neg k0]; exact Prod.ext (by dsimp only; omega) (by dsimp only; omega))
            clear e1 e2 y1 y2 hst
            refine useF w (s1.out _) (by go_grown) ?_; rintro e w73 rfl hB73 hk73 hf73 hs73
            replace zf0 := hf73 _ _ _ z0 zf0
            replace z0 := hk73 _ _ _ z0
            replace zf1 := hf73 _ _ _ z1 zf1
            replace z1 := hk73 _ _ _ z1
            (try clear zb); have zb := World.block_lt_of_cell? _ _ z0; (try dsimp only at zb)
            replace lof0 := hf73 _ _ _ lo0 lof0
            replace lo0 := hk73 _ _ _ lo0
            replace lof1 := hf73 _ _ _ lo1 lof1
            replace lo1 := hk73 _ _ _ lo1
            (try clear lob); have lob := World.block_lt_of_cell? _ _ lo0; (try dsimp only at lob)
            replace hif0 := hf73 _ _ _ hi0 hif0
            replace hi0 := hk73 _ _ _ hi0
            replace hif1 := hf73 _ _ _ hi1 hif1
            replace hi1 := hk73 _ _ _ hi1
            (try clear hib); have hib := World.block_lt_of_cell? _ _ hi0; (try dsimp only at hib)
            replace p0 := hk73 _ _ _ p0
            replace p1 := hk73 _ _ _ p1
            (try clear pb); have pb := World.block_lt_of_cell? _ _ p0; (try dsimp only at pb)
            replace q0 := hk73 _ _ _ q0
            replace q1 := hk73 _ _ _ q1
            (try clear qb); have qb := World.block_lt_of_cell? _ _ q0; (try dsimp only at qb)
            replace ht := (ht).keep hk73
            replace hrow := (hrow).keep hk73
            have hz73 := hB73.size
            clear hk73 hf73 hs73
            go_upto_region 18 with fail
            go_wp2_with fail
            refine useF w (s2.out _) (by go_grown) ?_; rintro e w74 rfl hB74 hk74 hf74 hs74
            replace zf0 := hf74 _ _ _ z0 zf0
            replace z0 := hk74 _ _ _ z0
            replace zf1 := hf74 _ _ _ z1 zf1
            replace z1 := hk74 _ _ _ z1
            (try clear zb); have zb := World.block_lt_of_cell? _ _ z0; (try dsimp only at zb)
            replace lof0 := hf74 _ _ _ lo0 lof0
            replace lo0 := hk74 _ _ _ lo0
            replace lof1 := hf74 _ _ _ lo1 lof1
            replace lo1 := hk74 _ _ _ lo1
            (try clear lob); have lob := World.block_lt_of_cell? _ _ lo0; (try dsimp only at lob)
            replace hif0 := hf74 _ _ _ hi0 hif0
            replace hi0 := hk74 _ _ _ hi0
            replace hif1 := hf74 _ _ _ hi1 hif1
            replace hi1 := hk74 _ _ _ hi1
            (try clear hib); have hib := World.block_lt_of_cell? _ _ hi0; (try dsimp only at hib)
            replace p0 := hk74 _ _ _ p0
            replace p1 := hk74 _ _ _ p1
            (try clear pb); have pb := World.block_lt_of_cell? _ _ p0; (try dsimp only at pb)
            replace q0 := hk74 _ _ _ q0
            replace q1 := hk74 _ _ _ q1
            (try clear qb); have qb := World.block_lt_of_cell? _ _ q0; (try dsimp only at qb)
            replace ht := (ht).keep hk74
            replace hrow := (hrow).keep hk74
            have hz74 := hB74.size
            clear hk74 hf74 hs74
            go_wp2_with fail
            go_roundw
            case rel => exact ⟨k + 1, by go_num, by omega, ht, hrow, by rw [hA9, hst2.out]; exact ⟨z0, z1, zf0, zf1, lo0, lo1, lof0, lof1, hi0, hi1, hif0, hif1⟩, by assumption⟩
            case measure => first | (simp [intOf]; done) | (simp [intOf]; omega)
    case rest =>
      obtain ⟨⟨z0, z1, zf0, zf1, lo0, lo1, lof0, lof1, hi0, hi1, hif0, hif1⟩, hB⟩ := hcut
      have hb := hbb.out ps.length
      rw [hr.out] at hb
      dsimp only at hb
      have s1 := fun W => out_any r1 r2 W (by omega)
      rw [hpq.out] at s1
      replace s1 := hid s1
      have hib := World.block_lt_of_cell? _ _ hi0
      clear hr hbb hbl L hmem hpq hb hLQ hrow4 ht4 hB4
      go_wp2_with fail
      refine useF w (s1.out _) (by go_grown) ?_; rintro e w90 rfl hB90 hk90 hf90 hs90
      replace zf0 := hf90 _ _ _ z0 zf0
      replace z0 := hk90 _ _ _ z0
      replace zf1 := hf90 _ _ _ z1 zf1
      replace z1 := hk90 _ _ _ z1
      (try clear zb); have zb := World.block_lt_of_cell? _ _ z0; (try dsimp only at zb)
      have hz90 := hB90.size
      clear hk90 hf90 hs90
      go_wp2_with fail
      all_goals (refine' bodyPost_ret (res_st_t rfl isA_S isS_S rfl ?_ ?_) rfl ?_; rotate_left 2; (· ((try simp only [World.cell?_drew]); first | (with_reducible exact two_0 (by assumption)) | (with_reducible exact two_1 (by assumption)) | (with_reducible exact two_other (two_0 (by assumption)) (by simp)) | (with_reducible exact two_other (two_1 (by assumption)) (by simp)) | (with_reducible exact two_0 (two_other (by assumption) (by simp))) | (with_reducible exact two_1 (two_other (by assumption) (by simp))) | (simp (maxDischargeDepth := 8) [go_sem, hHeld]; rfl) | (simp (maxDischargeDepth := 8) [go_sem, *]; rfl) | (simp (maxDischargeDepth := 8) [go_sem, *]; done))); (· ((try simp only [World.cell?_drew]); first | (with_reducible exact two_0 (by assumption)) | (with_reducible exact two_1 (by assumption)) | (with_reducible exact two_other (two_0 (by assumption)) (by simp)) | (with_reducible exact two_other (two_1 (by assumption)) (by simp)) | (with_reducible exact two_0 (two_other (by assumption) (by simp))) | (with_reducible exact two_1 (two_other (by assumption) (by simp))) | (simp (maxDischargeDepth := 8) [go_sem, hHeld]; rfl) | (simp (maxDischargeDepth := 8) [go_sem, *]; rfl) | (simp (maxDischargeDepth := 8) [go_sem, *]; done))); refine ⟨ret_r ?_, by go_grown⟩; (rfl))
end Go.Proofs.Ytjleflfncijnpaa
