/- Quotients of spans, of both packages. -/
import Derived.Deep.DeepCutAuto
import Derived.Deep.CutBlock
import Derived.Test.YtjleflfncijnpaaRows
import Derived.Test.YtjleflfncijnpaaBase
import Derived.Test.YtjleflfncijnpaaFacts
import Derived.Test.YtjleflfncijnpaaTwo
import Derived.Deep.RegionHeld3
import Derived.Deep.RegionWith
import Derived.Deep.QuietTactic
import Derived.BigQuiet
import Derived.Test.YtjleflfncijnpaaW
import Derived.Test.YtjleflfncijnpaaAsks
import Derived.Test.YtjleflfncijnpaaOut
import Derived.Test.YtjleflfncijnpaaSeq
import Derived.Test.YtjleflfncijnpaaTwo
import Derived.Test.YtjleflfncijnpaaQuo
import Derived.Test.YtjleflfncijnpaaTimes
import Derived.Test.YtjleflfncijnpaaDown
import Derived.Test.YtjleflfncijnpaaScaleM
import Derived.Test.YtjleflfncijnpaaMul
import Derived.Test.YtjleflfncijnpaaMulR
import Derived.Test.YtjleflfncijnpaaOver
import Derived.Test.YtjleflfncijnpaaRatioR
set_option linter.unusedVariables false
set_option linter.unusedSimpArgs false
set_option maxHeartbeats 4000000
set_option maxRecDepth 100000
namespace Go.Proofs.Ytjleflfncijnpaa
open Go Go.RowKit
def xK (al ah : Int) : Nat → Int
  | 0 => al
  | 1 => al
  | _ => ah
def yK (bl bh : Int) : Nat → Int
  | 0 => bl
  | 1 => bh
  | 2 => bl
  | _ => bh
def dK (al ah bl bh : Int) (k : Nat) : Int := dnQ (xK al ah k * 4294967296) (yK bl bh k)
def uK (al ah bl bh : Int) (k : Nat) : Int := upQ (xK al ah k * 4294967296) (yK bl bh k)
theorem xy_bd (al ah bl bh : Int) (h : (-9223372036854775808 ≤ al ∧ al ≤ 9223372036854775807) ∧ (-9223372036854775808 ≤ ah ∧ ah ≤ 9223372036854775807) ∧ (-9223372036854775808 ≤ bl ∧ bl ≤ 9223372036854775807) ∧ (-9223372036854775808 ≤ bh ∧ bh ≤ 9223372036854775807)) (hl : bl ≠ 0) (hh : bh ≠ 0) (k : Nat) : ((-9223372036854775808 ≤ xK al ah k ∧ xK al ah k ≤ 9223372036854775807) ∧ (-9223372036854775808 ≤ yK bl bh k ∧ yK bl bh k ≤ 9223372036854775807)) ∧ yK bl bh k ≠ 0 := by
  obtain ⟨h1, h2, h3, h4⟩ := h
  unfold xK yK
  split
  · exact ⟨⟨h1, h3⟩, hl⟩
  · exact ⟨⟨h1, h4⟩, hh⟩
  · exact ⟨⟨h2, by split <;> assumption⟩, by split <;> assumption⟩
theorem overK_any (al ah bl bh : Int) (k : Nat) (w : World) (h : (-9223372036854775808 ≤ xK al ah k ∧ xK al ah k ≤ 9223372036854775807) ∧ (-9223372036854775808 ≤ yK bl bh k ∧ yK bl bh k ≤ 9223372036854775807)) (hb : yK bl bh k ≠ 0) :
    Calls Try.prog 81 #[.agg #[.int .i64 (hiW (xK al ah k)), .int .u64 (loW (xK al ah k))], .agg #[.int .i64 (hiW (yK bl bh k)), .int .u64 (loW (yK bl bh k))]] w fun e w' => e = .returned (.tuple #[.agg #[.int .i64 (hiW (dK al ah bl bh k)), .int .u64 (loW (dK al ah bl bh k))], .agg #[.int .i64 (hiW (uK al ah bl bh k)), .int .u64 (loW (uK al ah bl bh k))] ]) ∧ Below w.heap.size w w' := over_any _ _ w h hb
theorem du_bd (al ah bl bh : Int) (h : (-9223372036854775808 ≤ al ∧ al ≤ 9223372036854775807) ∧ (-9223372036854775808 ≤ ah ∧ ah ≤ 9223372036854775807) ∧ (-9223372036854775808 ≤ bl ∧ bl ≤ 9223372036854775807) ∧ (-9223372036854775808 ≤ bh ∧ bh ≤ 9223372036854775807)) (hl : bl ≠ 0) (hh : bh ≠ 0) (k : Nat) : (-39614081257132168796771975168 ≤ dK al ah bl bh k ∧ dK al ah bl bh k ≤ 39614081257132168796771975168) ∧ -39614081257132168796771975168 ≤ uK al ah bl bh k ∧ uK al ah bl bh k ≤ 39614081257132168796771975168 := by
  obtain ⟨⟨h1, h2⟩, h3⟩ := xy_bd al ah bl bh h hl hh k
  have hb := dn_ab (xK al ah k * 4294967296) (yK bl bh k) h3
  have ha := ab_bd h1
  have he : ab (xK al ah k * 4294967296) = ab (xK al ah k) * 4294967296 := by unfold ab; split <;> split <;> omega
  rw [he] at hb
  unfold dK uK
  omega
def divS (al ah bl bh : Int) : Int × Int × Int := if bothS al ah bl bh = 0 then (if bl ≤ 0 ∧ 0 ≤ bh then (0, 0, 10) else cornS (fun x y => rdQ (x * 4294967296) y) (fun x y => ruQ (x * 4294967296) y) (fun x y => ftQ (x * 4294967296) y) al ah bl bh) else (0, 0, 2)
theorem div_fit (al ah bl bh : Int) (hl : bl ≠ 0) (hh : bh ≠ 0) : cornS (fun x y => rdQ (x * 4294967296) y) (fun x y => ruQ (x * 4294967296) y) (fun x y => ftQ (x * 4294967296) y) al ah bl bh = fitS (mnK (dK al ah bl bh) 4) (mxK (uK al ah bl bh) 4) := by
  rw [corn_fit (fun x _ => x * 4294967296) (fun _ y => y) al ah bl bh (dn_le _ _ _ hl) (dn_le _ _ _ hh) (dn_le _ _ _ hl) (dn_le _ _ _ hh), mn4_val, mx4_val]
  rfl
theorem div_any (al ah bl bh : Int) (w : World) (h : (-9223372036854775808 ≤ al ∧ al ≤ 9223372036854775807) ∧ (-9223372036854775808 ≤ ah ∧ ah ≤ 9223372036854775807) ∧ (-9223372036854775808 ≤ bl ∧ bl ≤ 9223372036854775807) ∧ (-9223372036854775808 ≤ bh ∧ bh ≤ 9223372036854775807)) :
    Calls Try.prog 31 #[.agg #[.int .i64 al, .int .i64 ah], .agg #[.int .i64 bl, .int .i64 bh]] w fun e w' => e = .returned (.tuple #[.agg #[.int .i64 ((divS al ah bl bh).1), .int .i64 ((divS al ah bl bh).2.1)], .int .i64 ((divS al ah bl bh).2.2)]) ∧ Below w.heap.size w w' := by
  obtain ⟨⟨a1, a2⟩, ⟨b1, b2⟩, ⟨c1, c2⟩, d1, d2⟩ := h
  rcases both_cases al ah bl bh with ⟨e, _, e2, _, _, k1, k2⟩ | e
  · have hp := show divS al ah bl bh = _ from if_pos e
    have hi : inS bl bh 0 = decide (bl ≤ 0 ∧ 0 ≤ bh) := by unfold inS; rw [e2]; simp
    by_cases c : bl ≤ 0 ∧ 0 ≤ bh
    · rw [if_pos c] at hp
      rw [decide_eq_true c] at hi
      have hp := hid hp
      clear c k1 k2
      go_enter Try.func31, Try.ntmps31
      go_wp2_with (first | (go_at_call 82; refine use w (w.heap.size + 1 + 1 + 1) (both_any _ _ _ _ _ (by omega)) (by go_grown) (by go_size) ?_; rintro e w1 rfl hB1 hc1 hf1 hl1 hs1; have hl10 : w.heap.size < w1.heap.size := hl1 _ (by omega); have hl11 : w.heap.size + 1 < w1.heap.size := hl1 _ (by omega); have hl12 : w.heap.size + 1 + 1 < w1.heap.size := hl1 _ (by omega)) | (go_at_call 55; refine use w (w.heap.size + 1 + 1 + 1) (in_any _ _ _ _ (by omega)) (by go_grown) (by go_size) ?_; rintro e w1 rfl hB1 hc1 hf1 hl1 hs1; have hl10 : w.heap.size < w1.heap.size := hl1 _ (by omega); have hl11 : w.heap.size + 1 < w1.heap.size := hl1 _ (by omega); have hl12 : w.heap.size + 1 + 1 < w1.heap.size := hl1 _ (by omega)))
      all_goals (refine' bodyPost_ret (res_st_t rfl isA_S isS_S rfl ?_ ?_) rfl ?_; rotate_left 2; (· ((try simp only [World.cell?_drew]); first | (with_reducible exact two_0 (by assumption)) | (with_reducible exact two_1 (by assumption)) | (with_reducible exact two_other (two_0 (by assumption)) (by simp)) | (with_reducible exact two_other (two_1 (by assumption)) (by simp)) | (with_reducible exact two_0 (two_other (by assumption) (by simp))) | (with_reducible exact two_1 (two_other (by assumption) (by simp))) | (simp (maxDischargeDepth := 8) [go_sem, hHeld]; rfl) | (simp (maxDischargeDepth := 8) [go_sem, *]; rfl) | (simp (maxDischargeDepth := 8) [go_sem, *]; done))); (· ((try simp only [World.cell?_drew]); first | (with_reducible exact two_0 (by assumption)) | (with_reducible exact two_1 (by assumption)) | (with_reducible exact two_other (two_0 (by assumption)) (by simp)) | (with_reducible exact two_other (two_1 (by assumption)) (by simp)) | (with_reducible exact two_0 (two_other (by assumption) (by simp))) | (with_reducible exact two_1 (two_other (by assumption) (by simp))) | (simp (maxDischargeDepth := 8) [go_sem, hHeld]; rfl) | (simp (maxDischargeDepth := 8) [go_sem, *]; rfl) | (simp (maxDischargeDepth := 8) [go_sem, *]; done))); refine ⟨ret_r ?_, by go_grown⟩; (rw [hp.out]))
    · rw [if_neg c] at hp
      rw [decide_eq_false c] at hi
      have hp := hid hp
      have hc := hid (fun W => corners_Div al ah bl bh W ⟨⟨a1, a2⟩, ⟨b1, b2⟩, ⟨c1, c2⟩, d1, d2⟩ (by omega) (by omega))
      clear c k1 k2
      go_enter Try.func31, Try.ntmps31
      go_wp2_with (first | (go_at_call 82; refine use w (w.heap.size + 1 + 1 + 1) (both_any _ _ _ _ _ (by omega)) (by go_grown) (by go_size) ?_; rintro e w1 rfl hB1 hc1 hf1 hl1 hs1; have hl10 : w.heap.size < w1.heap.size := hl1 _ (by omega); have hl11 : w.heap.size + 1 < w1.heap.size := hl1 _ (by omega); have hl12 : w.heap.size + 1 + 1 < w1.heap.size := hl1 _ (by omega)) | (go_at_call 55; refine use w (w.heap.size + 1 + 1 + 1) (in_any _ _ _ _ (by omega)) (by go_grown) (by go_size) ?_; rintro e w1 rfl hB1 hc1 hf1 hl1 hs1; have hl10 : w.heap.size < w1.heap.size := hl1 _ (by omega); have hl11 : w.heap.size + 1 < w1.heap.size := hl1 _ (by omega); have hl12 : w.heap.size + 1 + 1 < w1.heap.size := hl1 _ (by omega)) | (go_at_call 88; refine use w (w.heap.size + 1 + 1 + 1) (hc.out _) (by go_grown) (by go_size) ?_; rintro e w1 rfl hB1 hc1 hf1 hl1 hs1; have hl10 : w.heap.size < w1.heap.size := hl1 _ (by omega); have hl11 : w.heap.size + 1 < w1.heap.size := hl1 _ (by omega); have hl12 : w.heap.size + 1 + 1 < w1.heap.size := hl1 _ (by omega)))
      all_goals (refine' bodyPost_ret (res_st_t rfl isA_S isS_S rfl ?_ ?_) rfl ?_; rotate_left 2; (· ((try simp only [World.cell?_drew]); first | (with_reducible exact two_0 (by assumption)) | (with_reducible exact two_1 (by assumption)) | (with_reducible exact two_other (two_0 (by assumption)) (by simp)) | (with_reducible exact two_other (two_1 (by assumption)) (by simp)) | (with_reducible exact two_0 (two_other (by assumption) (by simp))) | (with_reducible exact two_1 (two_other (by assumption) (by simp))) | (simp (maxDischargeDepth := 8) [go_sem, hHeld]; rfl) | (simp (maxDischargeDepth := 8) [go_sem, *]; rfl) | (simp (maxDischargeDepth := 8) [go_sem, *]; done))); (· ((try simp only [World.cell?_drew]); first | (with_reducible exact two_0 (by assumption)) | (with_reducible exact two_1 (by assumption)) | (with_reducible exact two_other (two_0 (by assumption)) (by simp)) | (with_reducible exact two_other (two_1 (by assumption)) (by simp)) | (with_reducible exact two_0 (two_other (by assumption) (by simp))) | (with_reducible exact two_1 (two_other (by assumption) (by simp))) | (simp (maxDischargeDepth := 8) [go_sem, hHeld]; rfl) | (simp (maxDischargeDepth := 8) [go_sem, *]; rfl) | (simp (maxDischargeDepth := 8) [go_sem, *]; done))); refine ⟨ret_r ?_, by go_grown⟩; (rw [hp.out]))
  · have hp := hid (show divS al ah bl bh = (0, 0, 2) from if_neg (by omega))
    go_enter Try.func31, Try.ntmps31
    go_wp2_with (first | (go_at_call 82; refine use w (w.heap.size + 1 + 1 + 1) (both_any _ _ _ _ _ (by omega)) (by go_grown) (by go_size) ?_; rintro e w1 rfl hB1 hc1 hf1 hl1 hs1; have hl10 : w.heap.size < w1.heap.size := hl1 _ (by omega); have hl11 : w.heap.size + 1 < w1.heap.size := hl1 _ (by omega); have hl12 : w.heap.size + 1 + 1 < w1.heap.size := hl1 _ (by omega)))
    all_goals (refine' bodyPost_ret (res_st_t rfl isA_S isS_S rfl ?_ ?_) rfl ?_; rotate_left 2; (· ((try simp only [World.cell?_drew]); first | (with_reducible exact two_0 (by assumption)) | (with_reducible exact two_1 (by assumption)) | (with_reducible exact two_other (two_0 (by assumption)) (by simp)) | (with_reducible exact two_other (two_1 (by assumption)) (by simp)) | (with_reducible exact two_0 (two_other (by assumption) (by simp))) | (with_reducible exact two_1 (two_other (by assumption) (by simp))) | (simp (maxDischargeDepth := 8) [go_sem, hHeld]; rfl) | (simp (maxDischargeDepth := 8) [go_sem, *]; rfl) | (simp (maxDischargeDepth := 8) [go_sem, *]; done))); (· ((try simp only [World.cell?_drew]); first | (with_reducible exact two_0 (by assumption)) | (with_reducible exact two_1 (by assumption)) | (with_reducible exact two_other (two_0 (by assumption)) (by simp)) | (with_reducible exact two_other (two_1 (by assumption)) (by simp)) | (with_reducible exact two_0 (two_other (by assumption) (by simp))) | (with_reducible exact two_1 (two_other (by assumption) (by simp))) | (simp (maxDischargeDepth := 8) [go_sem, hHeld]; rfl) | (simp (maxDischargeDepth := 8) [go_sem, *]; rfl) | (simp (maxDischargeDepth := 8) [go_sem, *]; done))); refine ⟨ret_r ?_, by go_grown⟩; (rw [hp.out]))
def MD (Z Bl B : Nat) (al ah bl bh x y lo hi : Int) (k : Nat) (w' : World) : Prop := w'.cell? ⟨B, 0, none⟩ = some (.int .i64 al) ∧ w'.cell? ⟨B, 1, none⟩ = some (.int .i64 bl) ∧ w'.cell? ⟨B, 2, none⟩ = some (.int .i64 al) ∧ w'.cell? ⟨B, 3, none⟩ = some (.int .i64 bh) ∧ w'.cell? ⟨B, 4, none⟩ = some (.int .i64 ah) ∧ w'.cell? ⟨B, 5, none⟩ = some (.int .i64 bl) ∧ w'.cell? ⟨B, 6, none⟩ = some (.int .i64 ah) ∧ w'.cell? ⟨B, 7, none⟩ = some (.int .i64 bh) ∧ w'.cell? ⟨B, k * 2, none⟩ = some (.int .i64 x) ∧ w'.cell? ⟨B, k * 2 + 1, none⟩ = some (.int .i64 y) ∧ w'.cell? ⟨Z, 0, none⟩ = some (.int .i64 0) ∧ w'.cell? ⟨Z, 1, none⟩ = some (.int .i64 0) ∧ w'.frozen? ⟨Z, 0, none⟩ = false ∧ w'.frozen? ⟨Z, 1, none⟩ = false ∧ w'.cell? ⟨Bl, 0, none⟩ = some (.int .i64 (hiW lo)) ∧ w'.cell? ⟨Bl, 1, none⟩ = some (.int .u64 (loW lo)) ∧ w'.frozen? ⟨Bl, 0, none⟩ = false ∧ w'.frozen? ⟨Bl, 1, none⟩ = false ∧ w'.cell? ⟨Bl + 1, 0, none⟩ = some (.int .i64 (hiW hi)) ∧ w'.cell? ⟨Bl + 1, 1, none⟩ = some (.int .u64 (loW hi)) ∧ w'.frozen? ⟨Bl + 1, 0, none⟩ = false ∧ w'.frozen? ⟨Bl + 1, 1, none⟩ = false
theorem MD_keep {Z Bl B : Nat} {al ah bl bh x y lo hi : Int} {k : Nat} {w w1 : World} (h : MD Z Bl B al ah bl bh x y lo hi k w) (hk : ∀ b o v, w.cell? ⟨b, o, none⟩ = some v → w1.cell? ⟨b, o, none⟩ = some v) (hf : ∀ b o v, w.cell? ⟨b, o, none⟩ = some v → w.frozen? ⟨b, o, none⟩ = false → w1.frozen? ⟨b, o, none⟩ = false) : MD Z Bl B al ah bl bh x y lo hi k w1 :=
  ⟨hk _ _ _ (h.1), hk _ _ _ (h.2.1), hk _ _ _ (h.2.2.1), hk _ _ _ (h.2.2.2.1), hk _ _ _ (h.2.2.2.2.1), hk _ _ _ (h.2.2.2.2.2.1), hk _ _ _ (h.2.2.2.2.2.2.1), hk _ _ _ (h.2.2.2.2.2.2.2.1), hk _ _ _ (h.2.2.2.2.2.2.2.2.1), hk _ _ _ (h.2.2.2.2.2.2.2.2.2.1), hk _ _ _ (h.2.2.2.2.2.2.2.2.2.2.1), hk _ _ _ (h.2.2.2.2.2.2.2.2.2.2.2.1), hf _ _ _ (h.2.2.2.2.2.2.2.2.2.2.1) (h.2.2.2.2.2.2.2.2.2.2.2.2.1), hf _ _ _ (h.2.2.2.2.2.2.2.2.2.2.2.1) (h.2.2.2.2.2.2.2.2.2.2.2.2.2.1), hk _ _ _ (h.2.2.2.2.2.2.2.2.2.2.2.2.2.2.1), hk _ _ _ (h.2.2.2.2.2.2.2.2.2.2.2.2.2.2.2.1), hf _ _ _ (h.2.2.2.2.2.2.2.2.2.2.2.2.2.2.1) (h.2.2.2.2.2.2.2.2.2.2.2.2.2.2.2.2.1), hf _ _ _ (h.2.2.2.2.2.2.2.2.2.2.2.2.2.2.2.1) (h.2.2.2.2.2.2.2.2.2.2.2.2.2.2.2.2.2.1), hk _ _ _ (h.2.2.2.2.2.2.2.2.2.2.2.2.2.2.2.2.2.2.1), hk _ _ _ (h.2.2.2.2.2.2.2.2.2.2.2.2.2.2.2.2.2.2.2.1), hf _ _ _ (h.2.2.2.2.2.2.2.2.2.2.2.2.2.2.2.2.2.2.1) (h.2.2.2.2.2.2.2.2.2.2.2.2.2.2.2.2.2.2.2.2.1), hf _ _ _ (h.2.2.2.2.2.2.2.2.2.2.2.2.2.2.2.2.2.2.2.1) (h.2.2.2.2.2.2.2.2.2.2.2.2.2.2.2.2.2.2.2.2.2)⟩
theorem MD_alloc {Z Bl B : Nat} {al ah bl bh x y lo hi : Int} {k : Nat} {w : World} (o : Obj) (h : MD Z Bl B al ah bl bh x y lo hi k w) : MD Z Bl B al ah bl bh x y lo hi k (w.alloc o) :=
  ⟨keepA _ (h.1), keepA _ (h.2.1), keepA _ (h.2.2.1), keepA _ (h.2.2.2.1), keepA _ (h.2.2.2.2.1), keepA _ (h.2.2.2.2.2.1), keepA _ (h.2.2.2.2.2.2.1), keepA _ (h.2.2.2.2.2.2.2.1), keepA _ (h.2.2.2.2.2.2.2.2.1), keepA _ (h.2.2.2.2.2.2.2.2.2.1), keepA _ (h.2.2.2.2.2.2.2.2.2.2.1), keepA _ (h.2.2.2.2.2.2.2.2.2.2.2.1), keepAF _ (h.2.2.2.2.2.2.2.2.2.2.1) (h.2.2.2.2.2.2.2.2.2.2.2.2.1), keepAF _ (h.2.2.2.2.2.2.2.2.2.2.2.1) (h.2.2.2.2.2.2.2.2.2.2.2.2.2.1), keepA _ (h.2.2.2.2.2.2.2.2.2.2.2.2.2.2.1), keepA _ (h.2.2.2.2.2.2.2.2.2.2.2.2.2.2.2.1), keepAF _ (h.2.2.2.2.2.2.2.2.2.2.2.2.2.2.1) (h.2.2.2.2.2.2.2.2.2.2.2.2.2.2.2.2.1), keepAF _ (h.2.2.2.2.2.2.2.2.2.2.2.2.2.2.2.1) (h.2.2.2.2.2.2.2.2.2.2.2.2.2.2.2.2.2.1), keepA _ (h.2.2.2.2.2.2.2.2.2.2.2.2.2.2.2.2.2.2.1), keepA _ (h.2.2.2.2.2.2.2.2.2.2.2.2.2.2.2.2.2.2.2.1), keepAF _ (h.2.2.2.2.2.2.2.2.2.2.2.2.2.2.2.2.2.2.1) (h.2.2.2.2.2.2.2.2.2.2.2.2.2.2.2.2.2.2.2.2.1), keepAF _ (h.2.2.2.2.2.2.2.2.2.2.2.2.2.2.2.2.2.2.2.1) (h.2.2.2.2.2.2.2.2.2.2.2.2.2.2.2.2.2.2.2.2.2)⟩
theorem MD_lt {Z Bl B : Nat} {al ah bl bh x y lo hi : Int} {k : Nat} {w : World} (h : MD Z Bl B al ah bl bh x y lo hi k w) : B < w.heap.size ∧ Z < w.heap.size ∧ Bl < w.heap.size ∧ Bl + 1 < w.heap.size :=
  ⟨World.block_lt_of_cell? _ ⟨B, 0, none⟩ (h.1), World.block_lt_of_cell? _ ⟨Z, 0, none⟩ (h.2.2.2.2.2.2.2.2.2.2.1), World.block_lt_of_cell? _ ⟨Bl, 0, none⟩ (h.2.2.2.2.2.2.2.2.2.2.2.2.2.2.1), World.block_lt_of_cell? _ ⟨Bl + 1, 0, none⟩ (h.2.2.2.2.2.2.2.2.2.2.2.2.2.2.2.2.2.2.1)⟩
theorem MD_store {Z Bl B : Nat} {al ah bl bh x y lo hi : Int} {k : Nat} {w : World} {nb : Nat} {u9 v9 : Value} (h : MD Z Bl B al ah bl bh x y lo hi k w) (l0 : B < nb) (l1 : Z < nb) (l2 : Bl < nb) (l3 : Bl + 1 < nb) : MD Z Bl B al ah bl bh x y lo hi k ((w.setCell ⟨nb, 0, none⟩ u9).setCell ⟨nb, 1, none⟩ v9) :=
  ⟨two_other (h.1) (Nat.ne_of_gt l0), two_other (h.2.1) (Nat.ne_of_gt l0), two_other (h.2.2.1) (Nat.ne_of_gt l0), two_other (h.2.2.2.1) (Nat.ne_of_gt l0), two_other (h.2.2.2.2.1) (Nat.ne_of_gt l0), two_other (h.2.2.2.2.2.1) (Nat.ne_of_gt l0), two_other (h.2.2.2.2.2.2.1) (Nat.ne_of_gt l0), two_other (h.2.2.2.2.2.2.2.1) (Nat.ne_of_gt l0), two_other (h.2.2.2.2.2.2.2.2.1) (Nat.ne_of_gt l0), two_other (h.2.2.2.2.2.2.2.2.2.1) (Nat.ne_of_gt l0), two_other (h.2.2.2.2.2.2.2.2.2.2.1) (Nat.ne_of_gt l1), two_other (h.2.2.2.2.2.2.2.2.2.2.2.1) (Nat.ne_of_gt l1), two_fz (h.2.2.2.2.2.2.2.2.2.2.2.2.1), two_fz (h.2.2.2.2.2.2.2.2.2.2.2.2.2.1), two_other (h.2.2.2.2.2.2.2.2.2.2.2.2.2.2.1) (Nat.ne_of_gt l2), two_other (h.2.2.2.2.2.2.2.2.2.2.2.2.2.2.2.1) (Nat.ne_of_gt l2), two_fz (h.2.2.2.2.2.2.2.2.2.2.2.2.2.2.2.2.1), two_fz (h.2.2.2.2.2.2.2.2.2.2.2.2.2.2.2.2.2.1), two_other (h.2.2.2.2.2.2.2.2.2.2.2.2.2.2.2.2.2.2.1) (Nat.ne_of_gt l3), two_other (h.2.2.2.2.2.2.2.2.2.2.2.2.2.2.2.2.2.2.2.1) (Nat.ne_of_gt l3), two_fz (h.2.2.2.2.2.2.2.2.2.2.2.2.2.2.2.2.2.2.2.2.1), two_fz (h.2.2.2.2.2.2.2.2.2.2.2.2.2.2.2.2.2.2.2.2.2)⟩
theorem rdiv_go (al ah bl bh : Int) (w : World) (h : (-9223372036854775808 ≤ al ∧ al ≤ 9223372036854775807) ∧ (-9223372036854775808 ≤ ah ∧ ah ≤ 9223372036854775807) ∧ (-9223372036854775808 ≤ bl ∧ bl ≤ 9223372036854775807) ∧ (-9223372036854775808 ≤ bh ∧ bh ≤ 9223372036854775807)) (e : bothS al ah bl bh = 0) (hl : bl ≠ 0) (hh : bh ≠ 0) (hn : Hid (¬ (bl ≤ 0 ∧ 0 ≤ bh))) :
    Calls Try.prog 32 #[.agg #[.int .i64 al, .int .i64 ah], .agg #[.int .i64 bl, .int .i64 bh]] w fun e w' => e = .returned (.tuple #[.agg #[.int .i64 ((divS al ah bl bh).1), .int .i64 ((divS al ah bl bh).2.1)], .int .i64 ((divS al ah bl bh).2.2)]) ∧ Below w.heap.size w w' := by
  have hpb := hid (du_bd al ah bl bh h hl hh)
  have hxy := hid (xy_bd al ah bl bh h hl hh)
  have hp := hid ((show divS al ah bl bh = _ from if_pos e).trans ((if_neg hn.out).trans (div_fit al ah bl bh hl hh)))
  obtain ⟨⟨a1, a2⟩, ⟨b1, b2⟩, ⟨c1, c2⟩, d1, d2⟩ := h
  clear hl hh
  go_enter Try.func32, Try.ntmps32
  go_upto_region 3 with (go_at_call 84; refine use w (w.heap.size + 1 + 1 + 1) (rboth_any _ _ _ _ _ (by omega)) (by go_grown) (by go_size) ?_; rintro e w1 rfl hB1 hc1 hf1 hl1 hs1; have hl10 : w.heap.size < w1.heap.size := hl1 _ (by omega); have hl11 : w.heap.size + 1 < w1.heap.size := hl1 _ (by omega); have hl12 : w.heap.size + 1 + 1 < w1.heap.size := hl1 _ (by omega))
  go_cut [24] (fun s wx => s = .bool false ∧ (fun w' => w'.cell? ⟨w.heap.size, 0, none⟩ = some (.int .i64 al) ∧ w'.cell? ⟨w.heap.size, 1, none⟩ = some (.int .i64 ah) ∧ w'.cell? ⟨w.heap.size + 1, 0, none⟩ = some (.int .i64 bl) ∧ w'.cell? ⟨w.heap.size + 1, 1, none⟩ = some (.int .i64 bh) ∧ w'.cell? ⟨w.heap.size + 1 + 1, 0, none⟩ = some (.int .i64 0) ∧ w'.cell? ⟨w.heap.size + 1 + 1, 1, none⟩ = some (.int .i64 0) ∧ w'.frozen? ⟨w.heap.size + 1 + 1, 0, none⟩ = false ∧ w'.frozen? ⟨w.heap.size + 1 + 1, 1, none⟩ = false) wx ∧ w.heap.size + 1 + 1 < wx.heap.size ∧ Below w.heap.size w wx)
  case first =>
    have hn := hn.out
    by_cases c : bl ≤ 0
    · have c2 : ¬ 0 ≤ bh := fun h => hn ⟨c, h⟩
      clear hn
      go_wp2_with fail
      go_meet
      exact ⟨rfl, by simp [*, go_sem], by omega, by go_grown⟩
    · clear hn
      go_wp2_with fail
      go_meet
      exact ⟨rfl, by simp [*, go_sem], by omega, by go_grown⟩
  case rest =>
    obtain ⟨rfl, ⟨p00, p01, p10, p11, p20, p21, f20, f21⟩, bp20, hB1⟩ := hcut
    have bp00 : w.heap.size < wc.heap.size := by omega
    have bp10 : w.heap.size + 1 < wc.heap.size := by omega
    go_wp2_with fail
    have g0 := rcorners_any al ah bl bh
    refine useG w (g0 _ (by omega)) (by go_grown) ?_; rintro e w2 ⟨rfl, h8⟩ hB2 hk2 hf2 hs2
    have z0 := hk2 _ _ _ (keepA _ (keepA _ p20)); have z1 := hk2 _ _ _ (keepA _ (keepA _ p21))
    have zf0 := hf2 _ _ _ (keepA _ (keepA _ p20)) (keepAF _ (keepA _ p20) (keepAF _ p20 f20)); have zf1 := hf2 _ _ _ (keepA _ (keepA _ p21)) (keepAF _ (keepA _ p21) (keepAF _ p21 f21))
    have lo0 := hk2 wc.heap.size 0 (.int .i64 0) (by simp [go_sem]); have lo1 := hk2 wc.heap.size 1 (.int .u64 0) (by simp [go_sem])
    have lof0 := hf2 wc.heap.size 0 (.int .i64 0) (by simp [go_sem]) (by simp [go_sem]); have lof1 := hf2 wc.heap.size 1 (.int .u64 0) (by simp [go_sem]) (by simp [go_sem])
    have hi0 := hk2 (wc.heap.size + 1) 0 (.int .i64 0) (by simp [go_sem]); have hi1 := hk2 (wc.heap.size + 1) 1 (.int .u64 0) (by simp [go_sem])
    have hif0 := hf2 (wc.heap.size + 1) 0 (.int .i64 0) (by simp [go_sem]) (by simp [go_sem]); have hif1 := hf2 (wc.heap.size + 1) 1 (.int .u64 0) (by simp [go_sem]) (by simp [go_sem])
    clear hk2 hf2 hs2 g0 p00 p01 p10 p11 p20 p21 f20 f21 bp00 bp10
    simp only [World.size_alloc] at h8 ⊢
    generalize hZ : w.heap.size + 1 + 1 = Z at *
    generalize wc.heap.size = Bl at *
    generalize hB : Bl + 1 + 1 + 1 + 1 = B at *
    have hwZ : w.heap.size ≤ Z := by omega
    have hZl : Z < Bl := bp20
    have hlB : Bl + 1 < B := by omega
    have hwl : w.heap.size ≤ Bl := by omega
    clear hZ hB bp20
    obtain ⟨L0, L1, L2, L3, L4, L5, L6, L7⟩ := h8
    go_wp2_with fail
    go_loopw [9] (fun s wx => ∃ k : Nat, s = .int .i64 k ∧ k ≤ 4 ∧ M8 Z Bl B al ah bl bh (mnK (dK al ah bl bh) k) (mxK (uK al ah bl bh) k) wx ∧ Below w.heap.size w wx) (fun s _ => (4 - intOf s).toNat)
    case atStart => exact ⟨0, rfl, by omega, ⟨L0, L1, L2, L3, L4, L5, L6, L7, z0, z1, zf0, zf1, lo0, lo1, lof0, lof1, hi0, hi1, hif0, hif1⟩, hB2⟩
    case round =>
      clear L0 L1 L2 L3 L4 L5 L6 L7 z0 z1 zf0 zf1 lo0 lo1 lof0 lof1 hi0 hi1 hif0 hif1 hB2
      obtain ⟨k, rfl, hk, h8, hB2⟩ := hrel
      obtain ⟨L0, L1, L2, L3, L4, L5, L6, L7, z0, z1, zf0, zf1, lo0, lo1, lof0, lof1, hi0, hi1, hif0, hif1⟩ := h8
      by_cases k4 : k = 4
      · subst k4
        have hm1 := (mnmx_bd (dK al ah bl bh) _ (by omega) (fun k => (hpb.out k).1) 4).1
        have hm2 := (mnmx_bd (uK al ah bl bh) _ (by omega) (fun k => (hpb.out k).2) 4).2
        have r3' := hid (show (-170141183460469231731687303715884105728 ≤ mnK (dK al ah bl bh) 4 ∧ mnK (dK al ah bl bh) 4 < 170141183460469231731687303715884105728) ∧ (-170141183460469231731687303715884105728 ≤ mxK (uK al ah bl bh) 4 ∧ mxK (uK al ah bl bh) 4 < 170141183460469231731687303715884105728) by omega)
        clear hm1 hm2
        go_wp2_with fail
        refine useF w (out_any _ _ _ r3'.out) (by go_grown) ?_; rintro e w109 rfl hB109 hk109 hf109 hs109; clear hs109
        replace L0 : w109.cell? ⟨B, 0, none⟩ = some (.int .i64 al) := hk109 _ _ _ (L0)
        replace L1 : w109.cell? ⟨B, 1, none⟩ = some (.int .i64 bl) := hk109 _ _ _ (L1)
        replace L2 : w109.cell? ⟨B, 2, none⟩ = some (.int .i64 al) := hk109 _ _ _ (L2)
        replace L3 : w109.cell? ⟨B, 3, none⟩ = some (.int .i64 bh) := hk109 _ _ _ (L3)
        replace L4 : w109.cell? ⟨B, 4, none⟩ = some (.int .i64 ah) := hk109 _ _ _ (L4)
        replace L5 : w109.cell? ⟨B, 5, none⟩ = some (.int .i64 bl) := hk109 _ _ _ (L5)
        replace L6 : w109.cell? ⟨B, 6, none⟩ = some (.int .i64 ah) := hk109 _ _ _ (L6)
        replace L7 : w109.cell? ⟨B, 7, none⟩ = some (.int .i64 bh) := hk109 _ _ _ (L7)
        replace zf0 : w109.frozen? ⟨Z, 0, none⟩ = false := hf109 _ _ (.int .i64 0) (z0) (zf0)
        replace z0 : w109.cell? ⟨Z, 0, none⟩ = some (.int .i64 0) := hk109 _ _ _ (z0)
        replace zf1 : w109.frozen? ⟨Z, 1, none⟩ = false := hf109 _ _ (.int .i64 0) (z1) (zf1)
        replace z1 : w109.cell? ⟨Z, 1, none⟩ = some (.int .i64 0) := hk109 _ _ _ (z1)
        replace lof0 : w109.frozen? ⟨Bl, 0, none⟩ = false := hf109 _ _ (.int .i64 (hiW (mnK (dK al ah bl bh) 4))) (lo0) (lof0)
        replace lo0 : w109.cell? ⟨Bl, 0, none⟩ = some (.int .i64 (hiW (mnK (dK al ah bl bh) 4))) := hk109 _ _ _ (lo0)
        replace lof1 : w109.frozen? ⟨Bl, 1, none⟩ = false := hf109 _ _ (.int .u64 (loW (mnK (dK al ah bl bh) 4))) (lo1) (lof1)
        replace lo1 : w109.cell? ⟨Bl, 1, none⟩ = some (.int .u64 (loW (mnK (dK al ah bl bh) 4))) := hk109 _ _ _ (lo1)
        replace hif0 : w109.frozen? ⟨Bl + 1, 0, none⟩ = false := hf109 _ _ (.int .i64 (hiW (mxK (uK al ah bl bh) 4))) (hi0) (hif0)
        replace hi0 : w109.cell? ⟨Bl + 1, 0, none⟩ = some (.int .i64 (hiW (mxK (uK al ah bl bh) 4))) := hk109 _ _ _ (hi0)
        replace hif1 : w109.frozen? ⟨Bl + 1, 1, none⟩ = false := hf109 _ _ (.int .u64 (loW (mxK (uK al ah bl bh) 4))) (hi1) (hif1)
        replace hi1 : w109.cell? ⟨Bl + 1, 1, none⟩ = some (.int .u64 (loW (mxK (uK al ah bl bh) 4))) := hk109 _ _ _ (hi1)
        (try clear Lb); have Lb : B < w109.heap.size := World.block_lt_of_cell? w109 ⟨B, 0, none⟩ L0
        (try clear zb); have zb : Z < w109.heap.size := World.block_lt_of_cell? w109 ⟨Z, 0, none⟩ z0
        (try clear lob); have lob : Bl < w109.heap.size := World.block_lt_of_cell? w109 ⟨Bl, 0, none⟩ lo0
        (try clear hib); have hib : Bl + 1 < w109.heap.size := World.block_lt_of_cell? w109 ⟨Bl + 1, 0, none⟩ hi0
        clear hk109 hf109
        go_wp2_with fail
        all_goals (refine' bodyPost_ret (res_st_t rfl isA_S isS_S rfl ?_ ?_) rfl ?_; rotate_left 2; (· ((try simp only [World.cell?_drew]); first | (with_reducible exact two_0 (by assumption)) | (with_reducible exact two_1 (by assumption)) | (with_reducible exact two_other (two_0 (by assumption)) (by simp)) | (with_reducible exact two_other (two_1 (by assumption)) (by simp)) | (with_reducible exact two_0 (two_other (by assumption) (by simp))) | (with_reducible exact two_1 (two_other (by assumption) (by simp))) | (simp (maxDischargeDepth := 8) [go_sem, hHeld]; rfl) | (simp (maxDischargeDepth := 8) [go_sem, *]; rfl) | (simp (maxDischargeDepth := 8) [go_sem, *]; done))); (· ((try simp only [World.cell?_drew]); first | (with_reducible exact two_0 (by assumption)) | (with_reducible exact two_1 (by assumption)) | (with_reducible exact two_other (two_0 (by assumption)) (by simp)) | (with_reducible exact two_other (two_1 (by assumption)) (by simp)) | (with_reducible exact two_0 (two_other (by assumption) (by simp))) | (with_reducible exact two_1 (two_other (by assumption) (by simp))) | (simp (maxDischargeDepth := 8) [go_sem, hHeld]; rfl) | (simp (maxDischargeDepth := 8) [go_sem, *]; rfl) | (simp (maxDischargeDepth := 8) [go_sem, *]; done))); refine ⟨ret_r ?_, by go_grown⟩; (exact hp.out.symm))
      · have hk4 : k < 4 := by omega
        have hki : (k : Int) < 4 := by omega
        clear k4
        go_upto_region 11 with fail
        go_cut [10, 11] (fun s t wx => ∃ Bp Bq : Nat, s = .pointer (some ⟨Bp, 0, none⟩) ∧ t = .pointer (some ⟨Bq, 0, none⟩) ∧ Bl + 1 < Bp ∧ Bl + 1 < Bq ∧ M8 Z Bl B al ah bl bh (mnK (dK al ah bl bh) k) (mxK (uK al ah bl bh) k) wx ∧ (fun w' => w'.cell? ⟨Bp, 0, none⟩ = some (.int .i64 (hiW (dK al ah bl bh k))) ∧ w'.cell? ⟨Bp, 1, none⟩ = some (.int .u64 (loW (dK al ah bl bh k))) ∧ w'.cell? ⟨Bq, 0, none⟩ = some (.int .i64 (hiW (uK al ah bl bh k))) ∧ w'.cell? ⟨Bq, 1, none⟩ = some (.int .u64 (loW (uK al ah bl bh k)))) wx ∧ Below w.heap.size w wx)
        case first =>
          obtain ⟨Lx0, Lx1⟩ : wr.cell? ⟨B, k * 2, none⟩ = some (.int .i64 (xK al ah k)) ∧ wr.cell? ⟨B, k * 2 + 1, none⟩ = some (.int .i64 (yK bl bh k)) := by
            rcases (by omega : k = 0 ∨ k = 1 ∨ k = 2 ∨ k = 3) with rfl | rfl | rfl | rfl
            · exact ⟨L0, L1⟩
            · exact ⟨L2, L3⟩
            · exact ⟨L4, L5⟩
            · exact ⟨L6, L7⟩
          obtain ⟨⟨x1, y1⟩, y0⟩ := hxy.out k
          have hov := hid (fun W => overK_any al ah bl bh k W ⟨x1, y1⟩ y0)
          have hwx := hid (fun W => wide_any (xK al ah k) W x1)
          have hwy := hid (fun W => wide_any (yK bl bh k) W y1)
          clear x1 y1 y0
          refine wp_region_held_drew (S := (fun w' => MD Z Bl B al ah bl bh (xK al ah k) (yK bl bh k) (mnK (dK al ah bl bh) k) (mxK (uK al ah bl bh) k) k w')) (by kernel_rfl) (by (try dsimp only); (unfold MD); simp only [World.cell?_drew, World.frozen?_drew]; exact ⟨L0, L1, L2, L3, L4, L5, L6, L7, Lx0, Lx1, z0, z1, zf0, zf1, lo0, lo1, lof0, lof1, hi0, hi1, hif0, hif1⟩) (fun hHeld => ?_)
          have hBq0 : Below w.heap.size w wr.drew := by go_grown
          (try dsimp only at hHeld)
          clear L0 L1 L2 L3 L4 L5 L6 L7 Lx0 Lx1 z0 z1 zf0 zf1 lo0 lo1 lof0 lof1 hi0 hi1 hif0 hif1
          generalize wr.drew = wq0 at *
          have hzq0 : w.heap.size ≤ wq0.heap.size := hBq0.size
          (refine wpAnyH_take (i := 0) (oi := ⟨some 36, _, _, _, _, none⟩) (v := ?_) rfl (by kernel_rfl) (by kernel_rfl) (by kernel_rfl) (fun _ _ _ h => h) (Or.inl ⟨by rfl, ?_⟩) hHeld ?_; rotate_left; (· (intro w9 hSw; (try dsimp only at hSw); (unfold MD at hSw); go_simp; (try with_reducible rfl))))
          (try simp only [Act.put, List.setIfInBounds_toArray, List.set_cons_zero, List.set_cons_succ])
          (refine wpAnyH_take (i := 1) (oi := ⟨some 37, _, _, _, _, none⟩) (v := ?_) rfl (by kernel_rfl) (by kernel_rfl) (by kernel_rfl) (fun _ _ _ h => h) (Or.inl ⟨by rfl, ?_⟩) hHeld ?_; rotate_left; (· (intro w9 hSw; (try dsimp only at hSw); (unfold MD at hSw); go_simp; (try with_reducible rfl))))
          (try simp only [Act.put, List.setIfInBounds_toArray, List.set_cons_zero, List.set_cons_succ])
          (refine wpAnyH_take (i := 2) (oi := ⟨some 38, _, _, _, _, none⟩) (v := ?_) rfl (by kernel_rfl) (by kernel_rfl) (by kernel_rfl) (fun _ _ _ h => h) (Or.inl ⟨by rfl, ?_⟩) hHeld ?_; rotate_left; (· (intro w9 hSw; (try dsimp only at hSw); (unfold MD at hSw); go_simp; (try with_reducible rfl))))
          (try simp only [Act.put, List.setIfInBounds_toArray, List.set_cons_zero, List.set_cons_succ])
          (refine wpAnyH_take (i := 3) (oi := ⟨some 39, _, _, _, _, none⟩) (v := ?_) rfl (by kernel_rfl) (by kernel_rfl) (by kernel_rfl) (fun _ _ _ h => h) (Or.inl ⟨by rfl, ?_⟩) hHeld ?_; rotate_left; (· (intro w9 hSw; (try dsimp only at hSw); (unfold MD at hSw); go_simp; (try with_reducible rfl))))
          (try simp only [Act.put, List.setIfInBounds_toArray, List.set_cons_zero, List.set_cons_succ])
          (refine wpAnyH_take (i := 4) (oi := ⟨some 40, _, _, _, _, none⟩) (v := ?_) rfl (by kernel_rfl) (by kernel_rfl) (by kernel_rfl) (fun _ _ _ h => h) (Or.inl ⟨by rfl, ?_⟩) hHeld ?_; rotate_left; (· (intro w9 hSw; (try dsimp only at hSw); (unfold MD at hSw); go_simp; (try with_reducible rfl))))
          (try simp only [Act.put, List.setIfInBounds_toArray, List.set_cons_zero, List.set_cons_succ])
          (refine wpAnyH_take (i := 6) (oi := ⟨some 42, _, _, _, _, none⟩) (v := ?_) rfl (by kernel_rfl) (by kernel_rfl) (by kernel_rfl) (fun _ _ _ h => h) (Or.inl ⟨by rfl, ?_⟩) hHeld ?_; rotate_left; (· (intro w9 hSw; (try dsimp only at hSw); (unfold MD at hSw); go_simp; (try with_reducible rfl))))
          (try simp only [Act.put, List.setIfInBounds_toArray, List.set_cons_zero, List.set_cons_succ])
          (refine wpAnyH_take (i := 7) (oi := ⟨some 43, _, _, _, _, none⟩) (v := ?_) rfl (by kernel_rfl) (by kernel_rfl) (by kernel_rfl) (fun _ _ _ h => h) (Or.inl ⟨by rfl, ?_⟩) hHeld ?_; rotate_left; (· (intro w9 hSw; (try dsimp only at hSw); (unfold MD at hSw); go_simp; (try with_reducible rfl))))
          (try simp only [Act.put, List.setIfInBounds_toArray, List.set_cons_zero, List.set_cons_succ])
          (refine wpAnyH_take (i := 8) (oi := ⟨some 44, _, _, _, _, none⟩) (v := ?_) rfl (by kernel_rfl) (by kernel_rfl) (by kernel_rfl) (fun _ _ _ h => h) (Or.inl ⟨by rfl, ?_⟩) hHeld ?_; rotate_left; (· (intro w9 hSw; (try dsimp only at hSw); (unfold MD at hSw); go_simp; (try with_reducible rfl))))
          (try simp only [Act.put, List.setIfInBounds_toArray, List.set_cons_zero, List.set_cons_succ])
          (refine wpAnyH_take (i := 9) (oi := ⟨some 45, _, _, _, _, none⟩) (v := ?_) rfl (by kernel_rfl) (by kernel_rfl) (by kernel_rfl) (fun _ _ _ h => h) (Or.inl ⟨by rfl, ?_⟩) hHeld ?_; rotate_left; (· (intro w9 hSw; (try dsimp only at hSw); (unfold MD at hSw); go_simp; (try with_reducible rfl))))
          (try simp only [Act.put, List.setIfInBounds_toArray, List.set_cons_zero, List.set_cons_succ])
          (refine wpAnyH_take (i := 10) (oi := ⟨some 46, _, _, _, _, none⟩) (v := ?_) rfl (by kernel_rfl) (by kernel_rfl) (by kernel_rfl) (fun _ _ _ h => h) (Or.inl ⟨by rfl, ?_⟩) hHeld ?_; rotate_left; (· (intro w9 hSw; (try dsimp only at hSw); (unfold MD at hSw); go_simp; (try with_reducible rfl))))
          (try simp only [Act.put, List.setIfInBounds_toArray, List.set_cons_zero, List.set_cons_succ])
          refine wpAnyH_ready (rs := [5, 16, 17]) (by kernel_rfl) (by simp) ?_
          refine AllReadyH.cons (o := ⟨some 41, _, _, _, _, none⟩) rfl (fun K hK => ?_) (AllReadyH.cons (o := ⟨some 10, _, _, _, _, none⟩) rfl (fun K hK => ?_) (AllReadyH.cons (o := ⟨some 11, _, _, _, _, none⟩) rfl (fun K hK => ?_) (AllReadyH.nil)))
          ·
           go_simp
           (go_at_call 86; refine useF w ((by first | exact hwx.out _ | exact hwy.out _)) (by go_grown) ?_; rintro e wq1 rfl hBq1 hkq1 hfq1 hsq1)
           have hOld := hHeld; clear hHeld; refine hK.out _ _ ?_ (fun hHeld => ?_)
           · exact MD_keep hOld hkq1 hfq1
           clear hK K hOld
           clear hkq1 hfq1 hsq1
           have hzq1 : w.heap.size ≤ wq1.heap.size := hBq1.size
           (try simp only [Act.put, List.setIfInBounds_toArray, List.set_cons_zero, List.set_cons_succ])
           refine wpAnyH_ready (rs := [11, 16, 17]) (by kernel_rfl) (by simp) ?_
           refine AllReadyH.cons (o := ⟨some 47, _, _, _, _, none⟩) rfl (fun K hK => ?_) (AllReadyH.cons (o := ⟨some 10, _, _, _, _, none⟩) rfl (fun K hK => ?_) (AllReadyH.cons (o := ⟨some 11, _, _, _, _, none⟩) rfl (fun K hK => ?_) (AllReadyH.nil)))
           ·
            go_simp
            (go_at_call 86; refine useF w ((by first | exact hwx.out _ | exact hwy.out _)) (by go_grown) ?_; rintro e wq2 rfl hBq2 hkq2 hfq2 hsq2)
            have hOld := hHeld; clear hHeld; refine hK.out _ _ ?_ (fun hHeld => ?_)
            · exact MD_keep hOld hkq2 hfq2
            clear hK K hOld
            clear hkq2 hfq2 hsq2
            have hzq2 : w.heap.size ≤ wq2.heap.size := hBq2.size
            (try simp only [Act.put, List.setIfInBounds_toArray, List.set_cons_zero, List.set_cons_succ])
            refine wpAnyH_ready (rs := [12, 16, 17]) (by kernel_rfl) (by simp) ?_
            refine AllReadyH.cons (o := ⟨some 48, _, _, _, _, none⟩) rfl (fun K hK => ?_) (AllReadyH.cons (o := ⟨some 10, _, _, _, _, none⟩) rfl (fun K hK => ?_) (AllReadyH.cons (o := ⟨some 11, _, _, _, _, none⟩) rfl (fun K hK => ?_) (AllReadyH.nil)))
            ·
             go_simp
             (go_at_call 81; refine useF w (hov.out _) (by go_grown) ?_; rintro e wq3 rfl hBq3 hkq3 hfq3 hsq3)
             have hOld := hHeld; clear hHeld; refine hK.out _ _ ?_ (fun hHeld => ?_)
             · exact MD_keep hOld hkq3 hfq3
             clear hK K hOld
             clear hkq3 hfq3 hsq3
             have hzq3 : w.heap.size ≤ wq3.heap.size := hBq3.size
             (try simp only [Act.put, List.setIfInBounds_toArray, List.set_cons_zero, List.set_cons_succ])
             (refine wpAnyH_take (i := 13) (oi := ⟨some 35, _, _, _, _, none⟩) (v := ?_) rfl (by kernel_rfl) (by kernel_rfl) (by kernel_rfl) (fun _ _ _ h => h) (Or.inl ⟨by rfl, ?_⟩) hHeld ?_; rotate_left; (· (intro w9 hSw; (try dsimp only at hSw); (unfold MD at hSw); go_simp; (try with_reducible rfl))))
             (try simp only [Act.put, List.setIfInBounds_toArray, List.set_cons_zero, List.set_cons_succ])
             (refine wpAnyH_take (i := 14) (oi := ⟨some 49, _, _, _, _, none⟩) (v := ?_) rfl (by kernel_rfl) (by kernel_rfl) (by kernel_rfl) (fun _ _ _ h => h) (Or.inl ⟨by rfl, ?_⟩) hHeld ?_; rotate_left; (· (intro w9 hSw; (try dsimp only at hSw); (unfold MD at hSw); go_simp; (try with_reducible rfl))))
             (try simp only [Act.put, List.setIfInBounds_toArray, List.set_cons_zero, List.set_cons_succ])
             (refine wpAnyH_take (i := 15) (oi := ⟨some 50, _, _, _, _, none⟩) (v := ?_) rfl (by kernel_rfl) (by kernel_rfl) (by kernel_rfl) (fun _ _ _ h => h) (Or.inl ⟨by rfl, ?_⟩) hHeld ?_; rotate_left; (· (intro w9 hSw; (try dsimp only at hSw); (unfold MD at hSw); go_simp; (try with_reducible rfl))))
             (try simp only [Act.put, List.setIfInBounds_toArray, List.set_cons_zero, List.set_cons_succ])
             refine wpAnyH_ready (rs := [16, 17]) (by kernel_rfl) (by simp) ?_
             refine AllReadyH.cons (o := ⟨some 10, _, _, _, _, none⟩) rfl (fun K hK => ?_) (AllReadyH.cons (o := ⟨some 11, _, _, _, _, none⟩) rfl (fun K hK => ?_) (AllReadyH.nil))
             ·
              (try dsimp only at hHeld)
              have hBq4 : Below w.heap.size w (wq3.alloc (Obj.cells #[.int .i64 0, .int .u64 0] 78)) := by go_grown
              have nn160 : (wq3.alloc (Obj.cells #[.int .i64 0, .int .u64 0] 78)).cell? ⟨wq3.heap.size, 0, none⟩ = some (.int .i64 0) := by simp [go_sem]
              have nn16f0 : (wq3.alloc (Obj.cells #[.int .i64 0, .int .u64 0] 78)).frozen? ⟨wq3.heap.size, 0, none⟩ = false := by simp [go_sem]
              have nn161 : (wq3.alloc (Obj.cells #[.int .i64 0, .int .u64 0] 78)).cell? ⟨wq3.heap.size, 1, none⟩ = some (.int .u64 0) := by simp [go_sem]
              have nn16f1 : (wq3.alloc (Obj.cells #[.int .i64 0, .int .u64 0] 78)).frozen? ⟨wq3.heap.size, 1, none⟩ = false := by simp [go_sem]
              obtain ⟨nn16l0, nn16l1, nn16l2, nn16l3⟩ := MD_lt hHeld
              have hOld := hHeld; clear hHeld; go_simp; refine hK.out _ _ ?_ (fun hHeld => ?_)
              · exact MD_alloc _ hOld
              clear hK K hOld
              (try dsimp only at hHeld)
              generalize (wq3.alloc (Obj.cells #[.int .i64 0, .int .u64 0] 78)) = wq4 at *
              have hzq4 : w.heap.size ≤ wq4.heap.size := hBq4.size
              (try simp only [Act.put, List.setIfInBounds_toArray, List.set_cons_zero, List.set_cons_succ])
              refine wpAnyH_ready (rs := [17]) (by kernel_rfl) (by simp) ?_
              refine AllReadyH.cons (o := ⟨some 11, _, _, _, _, none⟩) rfl (fun K hK => ?_) (AllReadyH.nil)
              (try dsimp only at hHeld)
              have hBq5 : Below w.heap.size w (wq4.alloc (Obj.cells #[.int .i64 0, .int .u64 0] 78)) := by go_grown
              have nn170 : (wq4.alloc (Obj.cells #[.int .i64 0, .int .u64 0] 78)).cell? ⟨wq4.heap.size, 0, none⟩ = some (.int .i64 0) := by simp [go_sem]
              have nn17f0 : (wq4.alloc (Obj.cells #[.int .i64 0, .int .u64 0] 78)).frozen? ⟨wq4.heap.size, 0, none⟩ = false := by simp [go_sem]
              have nn171 : (wq4.alloc (Obj.cells #[.int .i64 0, .int .u64 0] 78)).cell? ⟨wq4.heap.size, 1, none⟩ = some (.int .u64 0) := by simp [go_sem]
              have nn17f1 : (wq4.alloc (Obj.cells #[.int .i64 0, .int .u64 0] 78)).frozen? ⟨wq4.heap.size, 1, none⟩ = false := by simp [go_sem]
              obtain ⟨nn17l0, nn17l1, nn17l2, nn17l3⟩ := MD_lt hHeld
              have nn17m16 : wq3.heap.size < wq4.heap.size := World.block_lt_of_cell? _ ⟨wq3.heap.size, 0, none⟩ nn160
              replace nn16f0 := keepAF (Obj.cells #[.int .i64 0, .int .u64 0] 78) nn160 nn16f0
              replace nn160 := keepA (Obj.cells #[.int .i64 0, .int .u64 0] 78) nn160
              replace nn16f1 := keepAF (Obj.cells #[.int .i64 0, .int .u64 0] 78) nn161 nn16f1
              replace nn161 := keepA (Obj.cells #[.int .i64 0, .int .u64 0] 78) nn161
              have hOld := hHeld; clear hHeld; go_simp; refine hK.out _ _ ?_ (fun hHeld => ?_)
              · exact MD_alloc _ hOld
              clear hK K hOld
              (try dsimp only at hHeld)
              generalize (wq4.alloc (Obj.cells #[.int .i64 0, .int .u64 0] 78)) = wq5 at *
              have hzq5 : w.heap.size ≤ wq5.heap.size := hBq5.size
              (try simp only [Act.put, List.setIfInBounds_toArray, List.set_cons_zero, List.set_cons_succ])
              refine wpAnyH_ready (rs := [18]) (by kernel_rfl) (by simp) ?_
              refine AllReadyH.cons (o := ⟨none, _, _, _, _, none⟩) rfl (fun K hK => ?_) (AllReadyH.nil)
              (try dsimp only at hHeld)
              have hBq6 : Below w.heap.size w ((wq5.setCell ⟨wq3.heap.size, 0, none⟩ (.int .i64 (hiW (dK al ah bl bh k)))).setCell ⟨wq3.heap.size, 1, none⟩ (.int .u64 (loW (dK al ah bl bh k)))) := by go_grown
              have hOld := hHeld; clear hHeld; go_simp; refine hK.out _ _ ?_ (fun hHeld => ?_)
              · exact MD_store hOld nn16l0 nn16l1 nn16l2 nn16l3
              clear hK K hOld
              (try dsimp only at hHeld)
              replace nn16f0 := two_fz (b := wq3.heap.size) (x := .int .i64 (hiW (dK al ah bl bh k))) (y := .int .u64 (loW (dK al ah bl bh k))) nn16f0
              replace nn160 := two_0 (x := .int .i64 (hiW (dK al ah bl bh k))) (y := .int .u64 (loW (dK al ah bl bh k))) nn160
              replace nn16f1 := two_fz (b := wq3.heap.size) (x := .int .i64 (hiW (dK al ah bl bh k))) (y := .int .u64 (loW (dK al ah bl bh k))) nn16f1
              replace nn161 := two_1 (x := .int .i64 (hiW (dK al ah bl bh k))) (y := .int .u64 (loW (dK al ah bl bh k))) nn161
              replace nn17f0 := two_fz (b := wq3.heap.size) (x := .int .i64 (hiW (dK al ah bl bh k))) (y := .int .u64 (loW (dK al ah bl bh k))) nn17f0
              replace nn170 := two_other (b := wq3.heap.size) (x := .int .i64 (hiW (dK al ah bl bh k))) (y := .int .u64 (loW (dK al ah bl bh k))) nn170 (by omega)
              replace nn17f1 := two_fz (b := wq3.heap.size) (x := .int .i64 (hiW (dK al ah bl bh k))) (y := .int .u64 (loW (dK al ah bl bh k))) nn17f1
              replace nn171 := two_other (b := wq3.heap.size) (x := .int .i64 (hiW (dK al ah bl bh k))) (y := .int .u64 (loW (dK al ah bl bh k))) nn171 (by omega)
              generalize ((wq5.setCell ⟨wq3.heap.size, 0, none⟩ (.int .i64 (hiW (dK al ah bl bh k)))).setCell ⟨wq3.heap.size, 1, none⟩ (.int .u64 (loW (dK al ah bl bh k)))) = wq6 at *
              have hzq6 : w.heap.size ≤ wq6.heap.size := hBq6.size
              (try simp only [Act.put, List.setIfInBounds_toArray, List.set_cons_zero, List.set_cons_succ])
              refine wpAnyH_ready (rs := [19]) (by kernel_rfl) (by simp) ?_
              refine AllReadyH.cons (o := ⟨none, _, _, _, _, none⟩) rfl (fun K hK => ?_) (AllReadyH.nil)
              (try dsimp only at hHeld)
              have hBq7 : Below w.heap.size w ((wq6.setCell ⟨wq4.heap.size, 0, none⟩ (.int .i64 (hiW (uK al ah bl bh k)))).setCell ⟨wq4.heap.size, 1, none⟩ (.int .u64 (loW (uK al ah bl bh k)))) := by go_grown
              have hOld := hHeld; clear hHeld; go_simp; refine hK.out _ _ ?_ (fun hHeld => ?_)
              · exact MD_store hOld nn17l0 nn17l1 nn17l2 nn17l3
              clear hK K hOld
              (try dsimp only at hHeld)
              replace nn16f0 := two_fz (b := wq4.heap.size) (x := .int .i64 (hiW (uK al ah bl bh k))) (y := .int .u64 (loW (uK al ah bl bh k))) nn16f0
              replace nn160 := two_other (b := wq4.heap.size) (x := .int .i64 (hiW (uK al ah bl bh k))) (y := .int .u64 (loW (uK al ah bl bh k))) nn160 (by omega)
              replace nn16f1 := two_fz (b := wq4.heap.size) (x := .int .i64 (hiW (uK al ah bl bh k))) (y := .int .u64 (loW (uK al ah bl bh k))) nn16f1
              replace nn161 := two_other (b := wq4.heap.size) (x := .int .i64 (hiW (uK al ah bl bh k))) (y := .int .u64 (loW (uK al ah bl bh k))) nn161 (by omega)
              replace nn17f0 := two_fz (b := wq4.heap.size) (x := .int .i64 (hiW (uK al ah bl bh k))) (y := .int .u64 (loW (uK al ah bl bh k))) nn17f0
              replace nn170 := two_0 (x := .int .i64 (hiW (uK al ah bl bh k))) (y := .int .u64 (loW (uK al ah bl bh k))) nn170
              replace nn17f1 := two_fz (b := wq4.heap.size) (x := .int .i64 (hiW (uK al ah bl bh k))) (y := .int .u64 (loW (uK al ah bl bh k))) nn17f1
              replace nn171 := two_1 (x := .int .i64 (hiW (uK al ah bl bh k))) (y := .int .u64 (loW (uK al ah bl bh k))) nn171
              generalize ((wq6.setCell ⟨wq4.heap.size, 0, none⟩ (.int .i64 (hiW (uK al ah bl bh k)))).setCell ⟨wq4.heap.size, 1, none⟩ (.int .u64 (loW (uK al ah bl bh k)))) = wq7 at *
              have hzq7 : w.heap.size ≤ wq7.heap.size := hBq7.size
              (try simp only [Act.put, List.setIfInBounds_toArray, List.set_cons_zero, List.set_cons_succ])
              refine wpAnyH_done (by kernel_rfl) ?_ _
              go_wp2_with fail
              go_meet
              obtain ⟨L0, L1, L2, L3, L4, L5, L6, L7, _, _, z0, z1, zf0, zf1, lo0, lo1, lof0, lof1, hi0, hi1, hif0, hif1⟩ := hHeld
              exact ⟨_, _, rfl, rfl, by omega, by omega, ⟨L0, L1, L2, L3, L4, L5, L6, L7, z0, z1, zf0, zf1, lo0, lo1, lof0, lof1, hi0, hi1, hif0, hif1⟩, ⟨nn160, nn161, nn170, nn171⟩, by assumption⟩
             ·
              (try dsimp only at hHeld)
              have hBq4 : Below w.heap.size w (wq3.alloc (Obj.cells #[.int .i64 0, .int .u64 0] 78)) := by go_grown
              have nn170 : (wq3.alloc (Obj.cells #[.int .i64 0, .int .u64 0] 78)).cell? ⟨wq3.heap.size, 0, none⟩ = some (.int .i64 0) := by simp [go_sem]
              have nn17f0 : (wq3.alloc (Obj.cells #[.int .i64 0, .int .u64 0] 78)).frozen? ⟨wq3.heap.size, 0, none⟩ = false := by simp [go_sem]
              have nn171 : (wq3.alloc (Obj.cells #[.int .i64 0, .int .u64 0] 78)).cell? ⟨wq3.heap.size, 1, none⟩ = some (.int .u64 0) := by simp [go_sem]
              have nn17f1 : (wq3.alloc (Obj.cells #[.int .i64 0, .int .u64 0] 78)).frozen? ⟨wq3.heap.size, 1, none⟩ = false := by simp [go_sem]
              obtain ⟨nn17l0, nn17l1, nn17l2, nn17l3⟩ := MD_lt hHeld
              have hOld := hHeld; clear hHeld; go_simp; refine hK.out _ _ ?_ (fun hHeld => ?_)
              · exact MD_alloc _ hOld
              clear hK K hOld
              (try dsimp only at hHeld)
              generalize (wq3.alloc (Obj.cells #[.int .i64 0, .int .u64 0] 78)) = wq4 at *
              have hzq4 : w.heap.size ≤ wq4.heap.size := hBq4.size
              (try simp only [Act.put, List.setIfInBounds_toArray, List.set_cons_zero, List.set_cons_succ])
              refine wpAnyH_ready (rs := [16]) (by kernel_rfl) (by simp) ?_
              refine AllReadyH.cons (o := ⟨some 10, _, _, _, _, none⟩) rfl (fun K hK => ?_) (AllReadyH.nil)
              (try dsimp only at hHeld)
              have hBq5 : Below w.heap.size w (wq4.alloc (Obj.cells #[.int .i64 0, .int .u64 0] 78)) := by go_grown
              have nn160 : (wq4.alloc (Obj.cells #[.int .i64 0, .int .u64 0] 78)).cell? ⟨wq4.heap.size, 0, none⟩ = some (.int .i64 0) := by simp [go_sem]
              have nn16f0 : (wq4.alloc (Obj.cells #[.int .i64 0, .int .u64 0] 78)).frozen? ⟨wq4.heap.size, 0, none⟩ = false := by simp [go_sem]
              have nn161 : (wq4.alloc (Obj.cells #[.int .i64 0, .int .u64 0] 78)).cell? ⟨wq4.heap.size, 1, none⟩ = some (.int .u64 0) := by simp [go_sem]
              have nn16f1 : (wq4.alloc (Obj.cells #[.int .i64 0, .int .u64 0] 78)).frozen? ⟨wq4.heap.size, 1, none⟩ = false := by simp [go_sem]
              obtain ⟨nn16l0, nn16l1, nn16l2, nn16l3⟩ := MD_lt hHeld
              have nn16m17 : wq3.heap.size < wq4.heap.size := World.block_lt_of_cell? _ ⟨wq3.heap.size, 0, none⟩ nn170
              replace nn17f0 := keepAF (Obj.cells #[.int .i64 0, .int .u64 0] 78) nn170 nn17f0
              replace nn170 := keepA (Obj.cells #[.int .i64 0, .int .u64 0] 78) nn170
              replace nn17f1 := keepAF (Obj.cells #[.int .i64 0, .int .u64 0] 78) nn171 nn17f1
              replace nn171 := keepA (Obj.cells #[.int .i64 0, .int .u64 0] 78) nn171
              have hOld := hHeld; clear hHeld; go_simp; refine hK.out _ _ ?_ (fun hHeld => ?_)
              · exact MD_alloc _ hOld
              clear hK K hOld
              (try dsimp only at hHeld)
              generalize (wq4.alloc (Obj.cells #[.int .i64 0, .int .u64 0] 78)) = wq5 at *
              have hzq5 : w.heap.size ≤ wq5.heap.size := hBq5.size
              (try simp only [Act.put, List.setIfInBounds_toArray, List.set_cons_zero, List.set_cons_succ])
              refine wpAnyH_ready (rs := [18]) (by kernel_rfl) (by simp) ?_
              refine AllReadyH.cons (o := ⟨none, _, _, _, _, none⟩) rfl (fun K hK => ?_) (AllReadyH.nil)
              (try dsimp only at hHeld)
              have hBq6 : Below w.heap.size w ((wq5.setCell ⟨wq4.heap.size, 0, none⟩ (.int .i64 (hiW (dK al ah bl bh k)))).setCell ⟨wq4.heap.size, 1, none⟩ (.int .u64 (loW (dK al ah bl bh k)))) := by go_grown
              have hOld := hHeld; clear hHeld; go_simp; refine hK.out _ _ ?_ (fun hHeld => ?_)
              · exact MD_store hOld nn16l0 nn16l1 nn16l2 nn16l3
              clear hK K hOld
              (try dsimp only at hHeld)
              replace nn17f0 := two_fz (b := wq4.heap.size) (x := .int .i64 (hiW (dK al ah bl bh k))) (y := .int .u64 (loW (dK al ah bl bh k))) nn17f0
              replace nn170 := two_other (b := wq4.heap.size) (x := .int .i64 (hiW (dK al ah bl bh k))) (y := .int .u64 (loW (dK al ah bl bh k))) nn170 (by omega)
              replace nn17f1 := two_fz (b := wq4.heap.size) (x := .int .i64 (hiW (dK al ah bl bh k))) (y := .int .u64 (loW (dK al ah bl bh k))) nn17f1
              replace nn171 := two_other (b := wq4.heap.size) (x := .int .i64 (hiW (dK al ah bl bh k))) (y := .int .u64 (loW (dK al ah bl bh k))) nn171 (by omega)
              replace nn16f0 := two_fz (b := wq4.heap.size) (x := .int .i64 (hiW (dK al ah bl bh k))) (y := .int .u64 (loW (dK al ah bl bh k))) nn16f0
              replace nn160 := two_0 (x := .int .i64 (hiW (dK al ah bl bh k))) (y := .int .u64 (loW (dK al ah bl bh k))) nn160
              replace nn16f1 := two_fz (b := wq4.heap.size) (x := .int .i64 (hiW (dK al ah bl bh k))) (y := .int .u64 (loW (dK al ah bl bh k))) nn16f1
              replace nn161 := two_1 (x := .int .i64 (hiW (dK al ah bl bh k))) (y := .int .u64 (loW (dK al ah bl bh k))) nn161
              generalize ((wq5.setCell ⟨wq4.heap.size, 0, none⟩ (.int .i64 (hiW (dK al ah bl bh k)))).setCell ⟨wq4.heap.size, 1, none⟩ (.int .u64 (loW (dK al ah bl bh k)))) = wq6 at *
              have hzq6 : w.heap.size ≤ wq6.heap.size := hBq6.size
              (try simp only [Act.put, List.setIfInBounds_toArray, List.set_cons_zero, List.set_cons_succ])
              refine wpAnyH_ready (rs := [19]) (by kernel_rfl) (by simp) ?_
              refine AllReadyH.cons (o := ⟨none, _, _, _, _, none⟩) rfl (fun K hK => ?_) (AllReadyH.nil)
              (try dsimp only at hHeld)
              have hBq7 : Below w.heap.size w ((wq6.setCell ⟨wq3.heap.size, 0, none⟩ (.int .i64 (hiW (uK al ah bl bh k)))).setCell ⟨wq3.heap.size, 1, none⟩ (.int .u64 (loW (uK al ah bl bh k)))) := by go_grown
              have hOld := hHeld; clear hHeld; go_simp; refine hK.out _ _ ?_ (fun hHeld => ?_)
              · exact MD_store hOld nn17l0 nn17l1 nn17l2 nn17l3
              clear hK K hOld
              (try dsimp only at hHeld)
              replace nn17f0 := two_fz (b := wq3.heap.size) (x := .int .i64 (hiW (uK al ah bl bh k))) (y := .int .u64 (loW (uK al ah bl bh k))) nn17f0
              replace nn170 := two_0 (x := .int .i64 (hiW (uK al ah bl bh k))) (y := .int .u64 (loW (uK al ah bl bh k))) nn170
              replace nn17f1 := two_fz (b := wq3.heap.size) (x := .int .i64 (hiW (uK al ah bl bh k))) (y := .int .u64 (loW (uK al ah bl bh k))) nn17f1
              replace nn171 := two_1 (x := .int .i64 (hiW (uK al ah bl bh k))) (y := .int .u64 (loW (uK al ah bl bh k))) nn171
              replace nn16f0 := two_fz (b := wq3.heap.size) (x := .int .i64 (hiW (uK al ah bl bh k))) (y := .int .u64 (loW (uK al ah bl bh k))) nn16f0
              replace nn160 := two_other (b := wq3.heap.size) (x := .int .i64 (hiW (uK al ah bl bh k))) (y := .int .u64 (loW (uK al ah bl bh k))) nn160 (by omega)
              replace nn16f1 := two_fz (b := wq3.heap.size) (x := .int .i64 (hiW (uK al ah bl bh k))) (y := .int .u64 (loW (uK al ah bl bh k))) nn16f1
              replace nn161 := two_other (b := wq3.heap.size) (x := .int .i64 (hiW (uK al ah bl bh k))) (y := .int .u64 (loW (uK al ah bl bh k))) nn161 (by omega)
              generalize ((wq6.setCell ⟨wq3.heap.size, 0, none⟩ (.int .i64 (hiW (uK al ah bl bh k)))).setCell ⟨wq3.heap.size, 1, none⟩ (.int .u64 (loW (uK al ah bl bh k)))) = wq7 at *
              have hzq7 : w.heap.size ≤ wq7.heap.size := hBq7.size
              (try simp only [Act.put, List.setIfInBounds_toArray, List.set_cons_zero, List.set_cons_succ])
              refine wpAnyH_done (by kernel_rfl) ?_ _
              go_wp2_with fail
              go_meet
              obtain ⟨L0, L1, L2, L3, L4, L5, L6, L7, _, _, z0, z1, zf0, zf1, lo0, lo1, lof0, lof1, hi0, hi1, hif0, hif1⟩ := hHeld
              exact ⟨_, _, rfl, rfl, by omega, by omega, ⟨L0, L1, L2, L3, L4, L5, L6, L7, z0, z1, zf0, zf1, lo0, lo1, lof0, lof1, hi0, hi1, hif0, hif1⟩, ⟨nn160, nn161, nn170, nn171⟩, by assumption⟩
            ·
             (try dsimp only at hHeld)
             have hBq3 : Below w.heap.size w (wq2.alloc (Obj.cells #[.int .i64 0, .int .u64 0] 78)) := by go_grown
             have nn160 : (wq2.alloc (Obj.cells #[.int .i64 0, .int .u64 0] 78)).cell? ⟨wq2.heap.size, 0, none⟩ = some (.int .i64 0) := by simp [go_sem]
             have nn16f0 : (wq2.alloc (Obj.cells #[.int .i64 0, .int .u64 0] 78)).frozen? ⟨wq2.heap.size, 0, none⟩ = false := by simp [go_sem]
             have nn161 : (wq2.alloc (Obj.cells #[.int .i64 0, .int .u64 0] 78)).cell? ⟨wq2.heap.size, 1, none⟩ = some (.int .u64 0) := by simp [go_sem]
             have nn16f1 : (wq2.alloc (Obj.cells #[.int .i64 0, .int .u64 0] 78)).frozen? ⟨wq2.heap.size, 1, none⟩ = false := by simp [go_sem]
             obtain ⟨nn16l0, nn16l1, nn16l2, nn16l3⟩ := MD_lt hHeld
             have hOld := hHeld; clear hHeld; go_simp; refine hK.out _ _ ?_ (fun hHeld => ?_)
             · exact MD_alloc _ hOld
             clear hK K hOld
             (try dsimp only at hHeld)
             generalize (wq2.alloc (Obj.cells #[.int .i64 0, .int .u64 0] 78)) = wq3 at *
             have hzq3 : w.heap.size ≤ wq3.heap.size := hBq3.size
             (try simp only [Act.put, List.setIfInBounds_toArray, List.set_cons_zero, List.set_cons_succ])
             refine wpAnyH_ready (rs := [12, 17]) (by kernel_rfl) (by simp) ?_
             refine AllReadyH.cons (o := ⟨some 48, _, _, _, _, none⟩) rfl (fun K hK => ?_) (AllReadyH.cons (o := ⟨some 11, _, _, _, _, none⟩) rfl (fun K hK => ?_) (AllReadyH.nil))
             ·
              go_simp
              (go_at_call 81; refine useF w (hov.out _) (by go_grown) ?_; rintro e wq4 rfl hBq4 hkq4 hfq4 hsq4)
              have hOld := hHeld; clear hHeld; refine hK.out _ _ ?_ (fun hHeld => ?_)
              · exact MD_keep hOld hkq4 hfq4
              clear hK K hOld
              replace nn16f0 := hfq4 _ _ _ nn160 nn16f0
              replace nn160 := hkq4 _ _ _ nn160
              replace nn16f1 := hfq4 _ _ _ nn161 nn16f1
              replace nn161 := hkq4 _ _ _ nn161
              clear hkq4 hfq4 hsq4
              have hzq4 : w.heap.size ≤ wq4.heap.size := hBq4.size
              (try simp only [Act.put, List.setIfInBounds_toArray, List.set_cons_zero, List.set_cons_succ])
              (refine wpAnyH_take (i := 13) (oi := ⟨some 35, _, _, _, _, none⟩) (v := ?_) rfl (by kernel_rfl) (by kernel_rfl) (by kernel_rfl) (fun _ _ _ h => h) (Or.inl ⟨by rfl, ?_⟩) hHeld ?_; rotate_left; (· (intro w9 hSw; (try dsimp only at hSw); (unfold MD at hSw); go_simp; (try with_reducible rfl))))
              (try simp only [Act.put, List.setIfInBounds_toArray, List.set_cons_zero, List.set_cons_succ])
              (refine wpAnyH_take (i := 14) (oi := ⟨some 49, _, _, _, _, none⟩) (v := ?_) rfl (by kernel_rfl) (by kernel_rfl) (by kernel_rfl) (fun _ _ _ h => h) (Or.inl ⟨by rfl, ?_⟩) hHeld ?_; rotate_left; (· (intro w9 hSw; (try dsimp only at hSw); (unfold MD at hSw); go_simp; (try with_reducible rfl))))
              (try simp only [Act.put, List.setIfInBounds_toArray, List.set_cons_zero, List.set_cons_succ])
              (refine wpAnyH_take (i := 15) (oi := ⟨some 50, _, _, _, _, none⟩) (v := ?_) rfl (by kernel_rfl) (by kernel_rfl) (by kernel_rfl) (fun _ _ _ h => h) (Or.inl ⟨by rfl, ?_⟩) hHeld ?_; rotate_left; (· (intro w9 hSw; (try dsimp only at hSw); (unfold MD at hSw); go_simp; (try with_reducible rfl))))
              (try simp only [Act.put, List.setIfInBounds_toArray, List.set_cons_zero, List.set_cons_succ])
              refine wpAnyH_ready (rs := [17]) (by kernel_rfl) (by simp) ?_
              refine AllReadyH.cons (o := ⟨some 11, _, _, _, _, none⟩) rfl (fun K hK => ?_) (AllReadyH.nil)
              (try dsimp only at hHeld)
              have hBq5 : Below w.heap.size w (wq4.alloc (Obj.cells #[.int .i64 0, .int .u64 0] 78)) := by go_grown
              have nn170 : (wq4.alloc (Obj.cells #[.int .i64 0, .int .u64 0] 78)).cell? ⟨wq4.heap.size, 0, none⟩ = some (.int .i64 0) := by simp [go_sem]
              have nn17f0 : (wq4.alloc (Obj.cells #[.int .i64 0, .int .u64 0] 78)).frozen? ⟨wq4.heap.size, 0, none⟩ = false := by simp [go_sem]
              have nn171 : (wq4.alloc (Obj.cells #[.int .i64 0, .int .u64 0] 78)).cell? ⟨wq4.heap.size, 1, none⟩ = some (.int .u64 0) := by simp [go_sem]
              have nn17f1 : (wq4.alloc (Obj.cells #[.int .i64 0, .int .u64 0] 78)).frozen? ⟨wq4.heap.size, 1, none⟩ = false := by simp [go_sem]
              obtain ⟨nn17l0, nn17l1, nn17l2, nn17l3⟩ := MD_lt hHeld
              have nn17m16 : wq2.heap.size < wq4.heap.size := World.block_lt_of_cell? _ ⟨wq2.heap.size, 0, none⟩ nn160
              replace nn16f0 := keepAF (Obj.cells #[.int .i64 0, .int .u64 0] 78) nn160 nn16f0
              replace nn160 := keepA (Obj.cells #[.int .i64 0, .int .u64 0] 78) nn160
              replace nn16f1 := keepAF (Obj.cells #[.int .i64 0, .int .u64 0] 78) nn161 nn16f1
              replace nn161 := keepA (Obj.cells #[.int .i64 0, .int .u64 0] 78) nn161
              have hOld := hHeld; clear hHeld; go_simp; refine hK.out _ _ ?_ (fun hHeld => ?_)
              · exact MD_alloc _ hOld
              clear hK K hOld
              (try dsimp only at hHeld)
              generalize (wq4.alloc (Obj.cells #[.int .i64 0, .int .u64 0] 78)) = wq5 at *
              have hzq5 : w.heap.size ≤ wq5.heap.size := hBq5.size
              (try simp only [Act.put, List.setIfInBounds_toArray, List.set_cons_zero, List.set_cons_succ])
              refine wpAnyH_ready (rs := [18]) (by kernel_rfl) (by simp) ?_
              refine AllReadyH.cons (o := ⟨none, _, _, _, _, none⟩) rfl (fun K hK => ?_) (AllReadyH.nil)
              (try dsimp only at hHeld)
              have hBq6 : Below w.heap.size w ((wq5.setCell ⟨wq2.heap.size, 0, none⟩ (.int .i64 (hiW (dK al ah bl bh k)))).setCell ⟨wq2.heap.size, 1, none⟩ (.int .u64 (loW (dK al ah bl bh k)))) := by go_grown
              have hOld := hHeld; clear hHeld; go_simp; refine hK.out _ _ ?_ (fun hHeld => ?_)
              · exact MD_store hOld nn16l0 nn16l1 nn16l2 nn16l3
              clear hK K hOld
              (try dsimp only at hHeld)
              replace nn16f0 := two_fz (b := wq2.heap.size) (x := .int .i64 (hiW (dK al ah bl bh k))) (y := .int .u64 (loW (dK al ah bl bh k))) nn16f0
              replace nn160 := two_0 (x := .int .i64 (hiW (dK al ah bl bh k))) (y := .int .u64 (loW (dK al ah bl bh k))) nn160
              replace nn16f1 := two_fz (b := wq2.heap.size) (x := .int .i64 (hiW (dK al ah bl bh k))) (y := .int .u64 (loW (dK al ah bl bh k))) nn16f1
              replace nn161 := two_1 (x := .int .i64 (hiW (dK al ah bl bh k))) (y := .int .u64 (loW (dK al ah bl bh k))) nn161
              replace nn17f0 := two_fz (b := wq2.heap.size) (x := .int .i64 (hiW (dK al ah bl bh k))) (y := .int .u64 (loW (dK al ah bl bh k))) nn17f0
              replace nn170 := two_other (b := wq2.heap.size) (x := .int .i64 (hiW (dK al ah bl bh k))) (y := .int .u64 (loW (dK al ah bl bh k))) nn170 (by omega)
              replace nn17f1 := two_fz (b := wq2.heap.size) (x := .int .i64 (hiW (dK al ah bl bh k))) (y := .int .u64 (loW (dK al ah bl bh k))) nn17f1
              replace nn171 := two_other (b := wq2.heap.size) (x := .int .i64 (hiW (dK al ah bl bh k))) (y := .int .u64 (loW (dK al ah bl bh k))) nn171 (by omega)
              generalize ((wq5.setCell ⟨wq2.heap.size, 0, none⟩ (.int .i64 (hiW (dK al ah bl bh k)))).setCell ⟨wq2.heap.size, 1, none⟩ (.int .u64 (loW (dK al ah bl bh k)))) = wq6 at *
              have hzq6 : w.heap.size ≤ wq6.heap.size := hBq6.size
              (try simp only [Act.put, List.setIfInBounds_toArray, List.set_cons_zero, List.set_cons_succ])
              refine wpAnyH_ready (rs := [19]) (by kernel_rfl) (by simp) ?_
              refine AllReadyH.cons (o := ⟨none, _, _, _, _, none⟩) rfl (fun K hK => ?_) (AllReadyH.nil)
              (try dsimp only at hHeld)
              have hBq7 : Below w.heap.size w ((wq6.setCell ⟨wq4.heap.size, 0, none⟩ (.int .i64 (hiW (uK al ah bl bh k)))).setCell ⟨wq4.heap.size, 1, none⟩ (.int .u64 (loW (uK al ah bl bh k)))) := by go_grown
              have hOld := hHeld; clear hHeld; go_simp; refine hK.out _ _ ?_ (fun hHeld => ?_)
              · exact MD_store hOld nn17l0 nn17l1 nn17l2 nn17l3
              clear hK K hOld
              (try dsimp only at hHeld)
              replace nn16f0 := two_fz (b := wq4.heap.size) (x := .int .i64 (hiW (uK al ah bl bh k))) (y := .int .u64 (loW (uK al ah bl bh k))) nn16f0
              replace nn160 := two_other (b := wq4.heap.size) (x := .int .i64 (hiW (uK al ah bl bh k))) (y := .int .u64 (loW (uK al ah bl bh k))) nn160 (by omega)
              replace nn16f1 := two_fz (b := wq4.heap.size) (x := .int .i64 (hiW (uK al ah bl bh k))) (y := .int .u64 (loW (uK al ah bl bh k))) nn16f1
              replace nn161 := two_other (b := wq4.heap.size) (x := .int .i64 (hiW (uK al ah bl bh k))) (y := .int .u64 (loW (uK al ah bl bh k))) nn161 (by omega)
              replace nn17f0 := two_fz (b := wq4.heap.size) (x := .int .i64 (hiW (uK al ah bl bh k))) (y := .int .u64 (loW (uK al ah bl bh k))) nn17f0
              replace nn170 := two_0 (x := .int .i64 (hiW (uK al ah bl bh k))) (y := .int .u64 (loW (uK al ah bl bh k))) nn170
              replace nn17f1 := two_fz (b := wq4.heap.size) (x := .int .i64 (hiW (uK al ah bl bh k))) (y := .int .u64 (loW (uK al ah bl bh k))) nn17f1
              replace nn171 := two_1 (x := .int .i64 (hiW (uK al ah bl bh k))) (y := .int .u64 (loW (uK al ah bl bh k))) nn171
              generalize ((wq6.setCell ⟨wq4.heap.size, 0, none⟩ (.int .i64 (hiW (uK al ah bl bh k)))).setCell ⟨wq4.heap.size, 1, none⟩ (.int .u64 (loW (uK al ah bl bh k)))) = wq7 at *
              have hzq7 : w.heap.size ≤ wq7.heap.size := hBq7.size
              (try simp only [Act.put, List.setIfInBounds_toArray, List.set_cons_zero, List.set_cons_succ])
              refine wpAnyH_done (by kernel_rfl) ?_ _
              go_wp2_with fail
              go_meet
              obtain ⟨L0, L1, L2, L3, L4, L5, L6, L7, _, _, z0, z1, zf0, zf1, lo0, lo1, lof0, lof1, hi0, hi1, hif0, hif1⟩ := hHeld
              exact ⟨_, _, rfl, rfl, by omega, by omega, ⟨L0, L1, L2, L3, L4, L5, L6, L7, z0, z1, zf0, zf1, lo0, lo1, lof0, lof1, hi0, hi1, hif0, hif1⟩, ⟨nn160, nn161, nn170, nn171⟩, by assumption⟩
             ·
              (try dsimp only at hHeld)
              have hBq4 : Below w.heap.size w (wq3.alloc (Obj.cells #[.int .i64 0, .int .u64 0] 78)) := by go_grown
              have nn170 : (wq3.alloc (Obj.cells #[.int .i64 0, .int .u64 0] 78)).cell? ⟨wq3.heap.size, 0, none⟩ = some (.int .i64 0) := by simp [go_sem]
              have nn17f0 : (wq3.alloc (Obj.cells #[.int .i64 0, .int .u64 0] 78)).frozen? ⟨wq3.heap.size, 0, none⟩ = false := by simp [go_sem]
              have nn171 : (wq3.alloc (Obj.cells #[.int .i64 0, .int .u64 0] 78)).cell? ⟨wq3.heap.size, 1, none⟩ = some (.int .u64 0) := by simp [go_sem]
              have nn17f1 : (wq3.alloc (Obj.cells #[.int .i64 0, .int .u64 0] 78)).frozen? ⟨wq3.heap.size, 1, none⟩ = false := by simp [go_sem]
              obtain ⟨nn17l0, nn17l1, nn17l2, nn17l3⟩ := MD_lt hHeld
              have nn17m16 : wq2.heap.size < wq3.heap.size := World.block_lt_of_cell? _ ⟨wq2.heap.size, 0, none⟩ nn160
              replace nn16f0 := keepAF (Obj.cells #[.int .i64 0, .int .u64 0] 78) nn160 nn16f0
              replace nn160 := keepA (Obj.cells #[.int .i64 0, .int .u64 0] 78) nn160
              replace nn16f1 := keepAF (Obj.cells #[.int .i64 0, .int .u64 0] 78) nn161 nn16f1
              replace nn161 := keepA (Obj.cells #[.int .i64 0, .int .u64 0] 78) nn161
              have hOld := hHeld; clear hHeld; go_simp; refine hK.out _ _ ?_ (fun hHeld => ?_)
              · exact MD_alloc _ hOld
              clear hK K hOld
              (try dsimp only at hHeld)
              generalize (wq3.alloc (Obj.cells #[.int .i64 0, .int .u64 0] 78)) = wq4 at *
              have hzq4 : w.heap.size ≤ wq4.heap.size := hBq4.size
              (try simp only [Act.put, List.setIfInBounds_toArray, List.set_cons_zero, List.set_cons_succ])
              refine wpAnyH_ready (rs := [12]) (by kernel_rfl) (by simp) ?_
              refine AllReadyH.cons (o := ⟨some 48, _, _, _, _, none⟩) rfl (fun K hK => ?_) (AllReadyH.nil)
              go_simp
              (go_at_call 81; refine useF w (hov.out _) (by go_grown) ?_; rintro e wq5 rfl hBq5 hkq5 hfq5 hsq5)
              have hOld := hHeld; clear hHeld; refine hK.out _ _ ?_ (fun hHeld => ?_)
              · exact MD_keep hOld hkq5 hfq5
              clear hK K hOld
              replace nn16f0 := hfq5 _ _ _ nn160 nn16f0
              replace nn160 := hkq5 _ _ _ nn160
              replace nn16f1 := hfq5 _ _ _ nn161 nn16f1
              replace nn161 := hkq5 _ _ _ nn161
              replace nn17f0 := hfq5 _ _ _ nn170 nn17f0
              replace nn170 := hkq5 _ _ _ nn170
              replace nn17f1 := hfq5 _ _ _ nn171 nn17f1
              replace nn171 := hkq5 _ _ _ nn171
              clear hkq5 hfq5 hsq5
              have hzq5 : w.heap.size ≤ wq5.heap.size := hBq5.size
              (try simp only [Act.put, List.setIfInBounds_toArray, List.set_cons_zero, List.set_cons_succ])
              (refine wpAnyH_take (i := 13) (oi := ⟨some 35, _, _, _, _, none⟩) (v := ?_) rfl (by kernel_rfl) (by kernel_rfl) (by kernel_rfl) (fun _ _ _ h => h) (Or.inl ⟨by rfl, ?_⟩) hHeld ?_; rotate_left; (· (intro w9 hSw; (try dsimp only at hSw); (unfold MD at hSw); go_simp; (try with_reducible rfl))))
              (try simp only [Act.put, List.setIfInBounds_toArray, List.set_cons_zero, List.set_cons_succ])
              (refine wpAnyH_take (i := 14) (oi := ⟨some 49, _, _, _, _, none⟩) (v := ?_) rfl (by kernel_rfl) (by kernel_rfl) (by kernel_rfl) (fun _ _ _ h => h) (Or.inl ⟨by rfl, ?_⟩) hHeld ?_; rotate_left; (· (intro w9 hSw; (try dsimp only at hSw); (unfold MD at hSw); go_simp; (try with_reducible rfl))))
              (try simp only [Act.put, List.setIfInBounds_toArray, List.set_cons_zero, List.set_cons_succ])
              (refine wpAnyH_take (i := 15) (oi := ⟨some 50, _, _, _, _, none⟩) (v := ?_) rfl (by kernel_rfl) (by kernel_rfl) (by kernel_rfl) (fun _ _ _ h => h) (Or.inl ⟨by rfl, ?_⟩) hHeld ?_; rotate_left; (· (intro w9 hSw; (try dsimp only at hSw); (unfold MD at hSw); go_simp; (try with_reducible rfl))))
              (try simp only [Act.put, List.setIfInBounds_toArray, List.set_cons_zero, List.set_cons_succ])
              refine wpAnyH_ready (rs := [18]) (by kernel_rfl) (by simp) ?_
              refine AllReadyH.cons (o := ⟨none, _, _, _, _, none⟩) rfl (fun K hK => ?_) (AllReadyH.nil)
              (try dsimp only at hHeld)
              have hBq6 : Below w.heap.size w ((wq5.setCell ⟨wq2.heap.size, 0, none⟩ (.int .i64 (hiW (dK al ah bl bh k)))).setCell ⟨wq2.heap.size, 1, none⟩ (.int .u64 (loW (dK al ah bl bh k)))) := by go_grown
              have hOld := hHeld; clear hHeld; go_simp; refine hK.out _ _ ?_ (fun hHeld => ?_)
              · exact MD_store hOld nn16l0 nn16l1 nn16l2 nn16l3
              clear hK K hOld
              (try dsimp only at hHeld)
              replace nn16f0 := two_fz (b := wq2.heap.size) (x := .int .i64 (hiW (dK al ah bl bh k))) (y := .int .u64 (loW (dK al ah bl bh k))) nn16f0
              replace nn160 := two_0 (x := .int .i64 (hiW (dK al ah bl bh k))) (y := .int .u64 (loW (dK al ah bl bh k))) nn160
              replace nn16f1 := two_fz (b := wq2.heap.size) (x := .int .i64 (hiW (dK al ah bl bh k))) (y := .int .u64 (loW (dK al ah bl bh k))) nn16f1
              replace nn161 := two_1 (x := .int .i64 (hiW (dK al ah bl bh k))) (y := .int .u64 (loW (dK al ah bl bh k))) nn161
              replace nn17f0 := two_fz (b := wq2.heap.size) (x := .int .i64 (hiW (dK al ah bl bh k))) (y := .int .u64 (loW (dK al ah bl bh k))) nn17f0
              replace nn170 := two_other (b := wq2.heap.size) (x := .int .i64 (hiW (dK al ah bl bh k))) (y := .int .u64 (loW (dK al ah bl bh k))) nn170 (by omega)
              replace nn17f1 := two_fz (b := wq2.heap.size) (x := .int .i64 (hiW (dK al ah bl bh k))) (y := .int .u64 (loW (dK al ah bl bh k))) nn17f1
              replace nn171 := two_other (b := wq2.heap.size) (x := .int .i64 (hiW (dK al ah bl bh k))) (y := .int .u64 (loW (dK al ah bl bh k))) nn171 (by omega)
              generalize ((wq5.setCell ⟨wq2.heap.size, 0, none⟩ (.int .i64 (hiW (dK al ah bl bh k)))).setCell ⟨wq2.heap.size, 1, none⟩ (.int .u64 (loW (dK al ah bl bh k)))) = wq6 at *
              have hzq6 : w.heap.size ≤ wq6.heap.size := hBq6.size
              (try simp only [Act.put, List.setIfInBounds_toArray, List.set_cons_zero, List.set_cons_succ])
              refine wpAnyH_ready (rs := [19]) (by kernel_rfl) (by simp) ?_
              refine AllReadyH.cons (o := ⟨none, _, _, _, _, none⟩) rfl (fun K hK => ?_) (AllReadyH.nil)
              (try dsimp only at hHeld)
              have hBq7 : Below w.heap.size w ((wq6.setCell ⟨wq3.heap.size, 0, none⟩ (.int .i64 (hiW (uK al ah bl bh k)))).setCell ⟨wq3.heap.size, 1, none⟩ (.int .u64 (loW (uK al ah bl bh k)))) := by go_grown
              have hOld := hHeld; clear hHeld; go_simp; refine hK.out _ _ ?_ (fun hHeld => ?_)
              · exact MD_store hOld nn17l0 nn17l1 nn17l2 nn17l3
              clear hK K hOld
              (try dsimp only at hHeld)
              replace nn16f0 := two_fz (b := wq3.heap.size) (x := .int .i64 (hiW (uK al ah bl bh k))) (y := .int .u64 (loW (uK al ah bl bh k))) nn16f0
              replace nn160 := two_other (b := wq3.heap.size) (x := .int .i64 (hiW (uK al ah bl bh k))) (y := .int .u64 (loW (uK al ah bl bh k))) nn160 (by omega)
              replace nn16f1 := two_fz (b := wq3.heap.size) (x := .int .i64 (hiW (uK al ah bl bh k))) (y := .int .u64 (loW (uK al ah bl bh k))) nn16f1
              replace nn161 := two_other (b := wq3.heap.size) (x := .int .i64 (hiW (uK al ah bl bh k))) (y := .int .u64 (loW (uK al ah bl bh k))) nn161 (by omega)
              replace nn17f0 := two_fz (b := wq3.heap.size) (x := .int .i64 (hiW (uK al ah bl bh k))) (y := .int .u64 (loW (uK al ah bl bh k))) nn17f0
              replace nn170 := two_0 (x := .int .i64 (hiW (uK al ah bl bh k))) (y := .int .u64 (loW (uK al ah bl bh k))) nn170
              replace nn17f1 := two_fz (b := wq3.heap.size) (x := .int .i64 (hiW (uK al ah bl bh k))) (y := .int .u64 (loW (uK al ah bl bh k))) nn17f1
              replace nn171 := two_1 (x := .int .i64 (hiW (uK al ah bl bh k))) (y := .int .u64 (loW (uK al ah bl bh k))) nn171
              generalize ((wq6.setCell ⟨wq3.heap.size, 0, none⟩ (.int .i64 (hiW (uK al ah bl bh k)))).setCell ⟨wq3.heap.size, 1, none⟩ (.int .u64 (loW (uK al ah bl bh k)))) = wq7 at *
              have hzq7 : w.heap.size ≤ wq7.heap.size := hBq7.size
              (try simp only [Act.put, List.setIfInBounds_toArray, List.set_cons_zero, List.set_cons_succ])
              refine wpAnyH_done (by kernel_rfl) ?_ _
              go_wp2_with fail
              go_meet
              obtain ⟨L0, L1, L2, L3, L4, L5, L6, L7, _, _, z0, z1, zf0, zf1, lo0, lo1, lof0, lof1, hi0, hi1, hif0, hif1⟩ := hHeld
              exact ⟨_, _, rfl, rfl, by omega, by omega, ⟨L0, L1, L2, L3, L4, L5, L6, L7, z0, z1, zf0, zf1, lo0, lo1, lof0, lof1, hi0, hi1, hif0, hif1⟩, ⟨nn160, nn161, nn170, nn171⟩, by assumption⟩
            ·
             (try dsimp only at hHeld)
             have hBq3 : Below w.heap.size w (wq2.alloc (Obj.cells #[.int .i64 0, .int .u64 0] 78)) := by go_grown
             have nn170 : (wq2.alloc (Obj.cells #[.int .i64 0, .int .u64 0] 78)).cell? ⟨wq2.heap.size, 0, none⟩ = some (.int .i64 0) := by simp [go_sem]
             have nn17f0 : (wq2.alloc (Obj.cells #[.int .i64 0, .int .u64 0] 78)).frozen? ⟨wq2.heap.size, 0, none⟩ = false := by simp [go_sem]
             have nn171 : (wq2.alloc (Obj.cells #[.int .i64 0, .int .u64 0] 78)).cell? ⟨wq2.heap.size, 1, none⟩ = some (.int .u64 0) := by simp [go_sem]
             have nn17f1 : (wq2.alloc (Obj.cells #[.int .i64 0, .int .u64 0] 78)).frozen? ⟨wq2.heap.size, 1, none⟩ = false := by simp [go_sem]
             obtain ⟨nn17l0, nn17l1, nn17l2, nn17l3⟩ := MD_lt hHeld
             have hOld := hHeld; clear hHeld; go_simp; refine hK.out _ _ ?_ (fun hHeld => ?_)
             · exact MD_alloc _ hOld
             clear hK K hOld
             (try dsimp only at hHeld)
             generalize (wq2.alloc (Obj.cells #[.int .i64 0, .int .u64 0] 78)) = wq3 at *
             have hzq3 : w.heap.size ≤ wq3.heap.size := hBq3.size
             (try simp only [Act.put, List.setIfInBounds_toArray, List.set_cons_zero, List.set_cons_succ])
             refine wpAnyH_ready (rs := [12, 16]) (by kernel_rfl) (by simp) ?_
             refine AllReadyH.cons (o := ⟨some 48, _, _, _, _, none⟩) rfl (fun K hK => ?_) (AllReadyH.cons (o := ⟨some 10, _, _, _, _, none⟩) rfl (fun K hK => ?_) (AllReadyH.nil))
             ·
              go_simp
              (go_at_call 81; refine useF w (hov.out _) (by go_grown) ?_; rintro e wq4 rfl hBq4 hkq4 hfq4 hsq4)
              have hOld := hHeld; clear hHeld; refine hK.out _ _ ?_ (fun hHeld => ?_)
              · exact MD_keep hOld hkq4 hfq4
              clear hK K hOld
              replace nn17f0 := hfq4 _ _ _ nn170 nn17f0
              replace nn170 := hkq4 _ _ _ nn170
              replace nn17f1 := hfq4 _ _ _ nn171 nn17f1
              replace nn171 := hkq4 _ _ _ nn171
              clear hkq4 hfq4 hsq4
              have hzq4 : w.heap.size ≤ wq4.heap.size := hBq4.size
              (try simp only [Act.put, List.setIfInBounds_toArray, List.set_cons_zero, List.set_cons_succ])
              (refine wpAnyH_take (i := 13) (oi := ⟨some 35, _, _, _, _, none⟩) (v := ?_) rfl (by kernel_rfl) (by kernel_rfl) (by kernel_rfl) (fun _ _ _ h => h) (Or.inl ⟨by rfl, ?_⟩) hHeld ?_; rotate_left; (· (intro w9 hSw; (try dsimp only at hSw); (unfold MD at hSw); go_simp; (try with_reducible rfl))))
              (try simp only [Act.put, List.setIfInBounds_toArray, List.set_cons_zero, List.set_cons_succ])
              (refine wpAnyH_take (i := 14) (oi := ⟨some 49, _, _, _, _, none⟩) (v := ?_) rfl (by kernel_rfl) (by kernel_rfl) (by kernel_rfl) (fun _ _ _ h => h) (Or.inl ⟨by rfl, ?_⟩) hHeld ?_; rotate_left; (· (intro w9 hSw; (try dsimp only at hSw); (unfold MD at hSw); go_simp; (try with_reducible rfl))))
              (try simp only [Act.put, List.setIfInBounds_toArray, List.set_cons_zero, List.set_cons_succ])
              (refine wpAnyH_take (i := 15) (oi := ⟨some 50, _, _, _, _, none⟩) (v := ?_) rfl (by kernel_rfl) (by kernel_rfl) (by kernel_rfl) (fun _ _ _ h => h) (Or.inl ⟨by rfl, ?_⟩) hHeld ?_; rotate_left; (· (intro w9 hSw; (try dsimp only at hSw); (unfold MD at hSw); go_simp; (try with_reducible rfl))))
              (try simp only [Act.put, List.setIfInBounds_toArray, List.set_cons_zero, List.set_cons_succ])
              refine wpAnyH_ready (rs := [16]) (by kernel_rfl) (by simp) ?_
              refine AllReadyH.cons (o := ⟨some 10, _, _, _, _, none⟩) rfl (fun K hK => ?_) (AllReadyH.nil)
              (try dsimp only at hHeld)
              have hBq5 : Below w.heap.size w (wq4.alloc (Obj.cells #[.int .i64 0, .int .u64 0] 78)) := by go_grown
              have nn160 : (wq4.alloc (Obj.cells #[.int .i64 0, .int .u64 0] 78)).cell? ⟨wq4.heap.size, 0, none⟩ = some (.int .i64 0) := by simp [go_sem]
              have nn16f0 : (wq4.alloc (Obj.cells #[.int .i64 0, .int .u64 0] 78)).frozen? ⟨wq4.heap.size, 0, none⟩ = false := by simp [go_sem]
              have nn161 : (wq4.alloc (Obj.cells #[.int .i64 0, .int .u64 0] 78)).cell? ⟨wq4.heap.size, 1, none⟩ = some (.int .u64 0) := by simp [go_sem]
              have nn16f1 : (wq4.alloc (Obj.cells #[.int .i64 0, .int .u64 0] 78)).frozen? ⟨wq4.heap.size, 1, none⟩ = false := by simp [go_sem]
              obtain ⟨nn16l0, nn16l1, nn16l2, nn16l3⟩ := MD_lt hHeld
              have nn16m17 : wq2.heap.size < wq4.heap.size := World.block_lt_of_cell? _ ⟨wq2.heap.size, 0, none⟩ nn170
              replace nn17f0 := keepAF (Obj.cells #[.int .i64 0, .int .u64 0] 78) nn170 nn17f0
              replace nn170 := keepA (Obj.cells #[.int .i64 0, .int .u64 0] 78) nn170
              replace nn17f1 := keepAF (Obj.cells #[.int .i64 0, .int .u64 0] 78) nn171 nn17f1
              replace nn171 := keepA (Obj.cells #[.int .i64 0, .int .u64 0] 78) nn171
              have hOld := hHeld; clear hHeld; go_simp; refine hK.out _ _ ?_ (fun hHeld => ?_)
              · exact MD_alloc _ hOld
              clear hK K hOld
              (try dsimp only at hHeld)
              generalize (wq4.alloc (Obj.cells #[.int .i64 0, .int .u64 0] 78)) = wq5 at *
              have hzq5 : w.heap.size ≤ wq5.heap.size := hBq5.size
              (try simp only [Act.put, List.setIfInBounds_toArray, List.set_cons_zero, List.set_cons_succ])
              refine wpAnyH_ready (rs := [18]) (by kernel_rfl) (by simp) ?_
              refine AllReadyH.cons (o := ⟨none, _, _, _, _, none⟩) rfl (fun K hK => ?_) (AllReadyH.nil)
              (try dsimp only at hHeld)
              have hBq6 : Below w.heap.size w ((wq5.setCell ⟨wq4.heap.size, 0, none⟩ (.int .i64 (hiW (dK al ah bl bh k)))).setCell ⟨wq4.heap.size, 1, none⟩ (.int .u64 (loW (dK al ah bl bh k)))) := by go_grown
              have hOld := hHeld; clear hHeld; go_simp; refine hK.out _ _ ?_ (fun hHeld => ?_)
              · exact MD_store hOld nn16l0 nn16l1 nn16l2 nn16l3
              clear hK K hOld
              (try dsimp only at hHeld)
              replace nn17f0 := two_fz (b := wq4.heap.size) (x := .int .i64 (hiW (dK al ah bl bh k))) (y := .int .u64 (loW (dK al ah bl bh k))) nn17f0
              replace nn170 := two_other (b := wq4.heap.size) (x := .int .i64 (hiW (dK al ah bl bh k))) (y := .int .u64 (loW (dK al ah bl bh k))) nn170 (by omega)
              replace nn17f1 := two_fz (b := wq4.heap.size) (x := .int .i64 (hiW (dK al ah bl bh k))) (y := .int .u64 (loW (dK al ah bl bh k))) nn17f1
              replace nn171 := two_other (b := wq4.heap.size) (x := .int .i64 (hiW (dK al ah bl bh k))) (y := .int .u64 (loW (dK al ah bl bh k))) nn171 (by omega)
              replace nn16f0 := two_fz (b := wq4.heap.size) (x := .int .i64 (hiW (dK al ah bl bh k))) (y := .int .u64 (loW (dK al ah bl bh k))) nn16f0
              replace nn160 := two_0 (x := .int .i64 (hiW (dK al ah bl bh k))) (y := .int .u64 (loW (dK al ah bl bh k))) nn160
              replace nn16f1 := two_fz (b := wq4.heap.size) (x := .int .i64 (hiW (dK al ah bl bh k))) (y := .int .u64 (loW (dK al ah bl bh k))) nn16f1
              replace nn161 := two_1 (x := .int .i64 (hiW (dK al ah bl bh k))) (y := .int .u64 (loW (dK al ah bl bh k))) nn161
              generalize ((wq5.setCell ⟨wq4.heap.size, 0, none⟩ (.int .i64 (hiW (dK al ah bl bh k)))).setCell ⟨wq4.heap.size, 1, none⟩ (.int .u64 (loW (dK al ah bl bh k)))) = wq6 at *
              have hzq6 : w.heap.size ≤ wq6.heap.size := hBq6.size
              (try simp only [Act.put, List.setIfInBounds_toArray, List.set_cons_zero, List.set_cons_succ])
              refine wpAnyH_ready (rs := [19]) (by kernel_rfl) (by simp) ?_
              refine AllReadyH.cons (o := ⟨none, _, _, _, _, none⟩) rfl (fun K hK => ?_) (AllReadyH.nil)
              (try dsimp only at hHeld)
              have hBq7 : Below w.heap.size w ((wq6.setCell ⟨wq2.heap.size, 0, none⟩ (.int .i64 (hiW (uK al ah bl bh k)))).setCell ⟨wq2.heap.size, 1, none⟩ (.int .u64 (loW (uK al ah bl bh k)))) := by go_grown
              have hOld := hHeld; clear hHeld; go_simp; refine hK.out _ _ ?_ (fun hHeld => ?_)
              · exact MD_store hOld nn17l0 nn17l1 nn17l2 nn17l3
              clear hK K hOld
              (try dsimp only at hHeld)
              replace nn17f0 := two_fz (b := wq2.heap.size) (x := .int .i64 (hiW (uK al ah bl bh k))) (y := .int .u64 (loW (uK al ah bl bh k))) nn17f0
              replace nn170 := two_0 (x := .int .i64 (hiW (uK al ah bl bh k))) (y := .int .u64 (loW (uK al ah bl bh k))) nn170
              replace nn17f1 := two_fz (b := wq2.heap.size) (x := .int .i64 (hiW (uK al ah bl bh k))) (y := .int .u64 (loW (uK al ah bl bh k))) nn17f1
              replace nn171 := two_1 (x := .int .i64 (hiW (uK al ah bl bh k))) (y := .int .u64 (loW (uK al ah bl bh k))) nn171
              replace nn16f0 := two_fz (b := wq2.heap.size) (x := .int .i64 (hiW (uK al ah bl bh k))) (y := .int .u64 (loW (uK al ah bl bh k))) nn16f0
              replace nn160 := two_other (b := wq2.heap.size) (x := .int .i64 (hiW (uK al ah bl bh k))) (y := .int .u64 (loW (uK al ah bl bh k))) nn160 (by omega)
              replace nn16f1 := two_fz (b := wq2.heap.size) (x := .int .i64 (hiW (uK al ah bl bh k))) (y := .int .u64 (loW (uK al ah bl bh k))) nn16f1
              replace nn161 := two_other (b := wq2.heap.size) (x := .int .i64 (hiW (uK al ah bl bh k))) (y := .int .u64 (loW (uK al ah bl bh k))) nn161 (by omega)
              generalize ((wq6.setCell ⟨wq2.heap.size, 0, none⟩ (.int .i64 (hiW (uK al ah bl bh k)))).setCell ⟨wq2.heap.size, 1, none⟩ (.int .u64 (loW (uK al ah bl bh k)))) = wq7 at *
              have hzq7 : w.heap.size ≤ wq7.heap.size := hBq7.size
              (try simp only [Act.put, List.setIfInBounds_toArray, List.set_cons_zero, List.set_cons_succ])
              refine wpAnyH_done (by kernel_rfl) ?_ _
              go_wp2_with fail
              go_meet
              obtain ⟨L0, L1, L2, L3, L4, L5, L6, L7, _, _, z0, z1, zf0, zf1, lo0, lo1, lof0, lof1, hi0, hi1, hif0, hif1⟩ := hHeld
              exact ⟨_, _, rfl, rfl, by omega, by omega, ⟨L0, L1, L2, L3, L4, L5, L6, L7, z0, z1, zf0, zf1, lo0, lo1, lof0, lof1, hi0, hi1, hif0, hif1⟩, ⟨nn160, nn161, nn170, nn171⟩, by assumption⟩
             ·
              (try dsimp only at hHeld)
              have hBq4 : Below w.heap.size w (wq3.alloc (Obj.cells #[.int .i64 0, .int .u64 0] 78)) := by go_grown
              have nn160 : (wq3.alloc (Obj.cells #[.int .i64 0, .int .u64 0] 78)).cell? ⟨wq3.heap.size, 0, none⟩ = some (.int .i64 0) := by simp [go_sem]
              have nn16f0 : (wq3.alloc (Obj.cells #[.int .i64 0, .int .u64 0] 78)).frozen? ⟨wq3.heap.size, 0, none⟩ = false := by simp [go_sem]
              have nn161 : (wq3.alloc (Obj.cells #[.int .i64 0, .int .u64 0] 78)).cell? ⟨wq3.heap.size, 1, none⟩ = some (.int .u64 0) := by simp [go_sem]
              have nn16f1 : (wq3.alloc (Obj.cells #[.int .i64 0, .int .u64 0] 78)).frozen? ⟨wq3.heap.size, 1, none⟩ = false := by simp [go_sem]
              obtain ⟨nn16l0, nn16l1, nn16l2, nn16l3⟩ := MD_lt hHeld
              have nn16m17 : wq2.heap.size < wq3.heap.size := World.block_lt_of_cell? _ ⟨wq2.heap.size, 0, none⟩ nn170
              replace nn17f0 := keepAF (Obj.cells #[.int .i64 0, .int .u64 0] 78) nn170 nn17f0
              replace nn170 := keepA (Obj.cells #[.int .i64 0, .int .u64 0] 78) nn170
              replace nn17f1 := keepAF (Obj.cells #[.int .i64 0, .int .u64 0] 78) nn171 nn17f1
              replace nn171 := keepA (Obj.cells #[.int .i64 0, .int .u64 0] 78) nn171
              have hOld := hHeld; clear hHeld; go_simp; refine hK.out _ _ ?_ (fun hHeld => ?_)
              · exact MD_alloc _ hOld
              clear hK K hOld
              (try dsimp only at hHeld)
              generalize (wq3.alloc (Obj.cells #[.int .i64 0, .int .u64 0] 78)) = wq4 at *
              have hzq4 : w.heap.size ≤ wq4.heap.size := hBq4.size
              (try simp only [Act.put, List.setIfInBounds_toArray, List.set_cons_zero, List.set_cons_succ])
              refine wpAnyH_ready (rs := [12]) (by kernel_rfl) (by simp) ?_
              refine AllReadyH.cons (o := ⟨some 48, _, _, _, _, none⟩) rfl (fun K hK => ?_) (AllReadyH.nil)
              go_simp
              (go_at_call 81; refine useF w (hov.out _) (by go_grown) ?_; rintro e wq5 rfl hBq5 hkq5 hfq5 hsq5)
              have hOld := hHeld; clear hHeld; refine hK.out _ _ ?_ (fun hHeld => ?_)
              · exact MD_keep hOld hkq5 hfq5
              clear hK K hOld
              replace nn17f0 := hfq5 _ _ _ nn170 nn17f0
              replace nn170 := hkq5 _ _ _ nn170
              replace nn17f1 := hfq5 _ _ _ nn171 nn17f1
              replace nn171 := hkq5 _ _ _ nn171
              replace nn16f0 := hfq5 _ _ _ nn160 nn16f0
              replace nn160 := hkq5 _ _ _ nn160
              replace nn16f1 := hfq5 _ _ _ nn161 nn16f1
              replace nn161 := hkq5 _ _ _ nn161
              clear hkq5 hfq5 hsq5
              have hzq5 : w.heap.size ≤ wq5.heap.size := hBq5.size
              (try simp only [Act.put, List.setIfInBounds_toArray, List.set_cons_zero, List.set_cons_succ])
              (refine wpAnyH_take (i := 13) (oi := ⟨some 35, _, _, _, _, none⟩) (v := ?_) rfl (by kernel_rfl) (by kernel_rfl) (by kernel_rfl) (fun _ _ _ h => h) (Or.inl ⟨by rfl, ?_⟩) hHeld ?_; rotate_left; (· (intro w9 hSw; (try dsimp only at hSw); (unfold MD at hSw); go_simp; (try with_reducible rfl))))
              (try simp only [Act.put, List.setIfInBounds_toArray, List.set_cons_zero, List.set_cons_succ])
              (refine wpAnyH_take (i := 14) (oi := ⟨some 49, _, _, _, _, none⟩) (v := ?_) rfl (by kernel_rfl) (by kernel_rfl) (by kernel_rfl) (fun _ _ _ h => h) (Or.inl ⟨by rfl, ?_⟩) hHeld ?_; rotate_left; (· (intro w9 hSw; (try dsimp only at hSw); (unfold MD at hSw); go_simp; (try with_reducible rfl))))
              (try simp only [Act.put, List.setIfInBounds_toArray, List.set_cons_zero, List.set_cons_succ])
              (refine wpAnyH_take (i := 15) (oi := ⟨some 50, _, _, _, _, none⟩) (v := ?_) rfl (by kernel_rfl) (by kernel_rfl) (by kernel_rfl) (fun _ _ _ h => h) (Or.inl ⟨by rfl, ?_⟩) hHeld ?_; rotate_left; (· (intro w9 hSw; (try dsimp only at hSw); (unfold MD at hSw); go_simp; (try with_reducible rfl))))
              (try simp only [Act.put, List.setIfInBounds_toArray, List.set_cons_zero, List.set_cons_succ])
              refine wpAnyH_ready (rs := [18]) (by kernel_rfl) (by simp) ?_
              refine AllReadyH.cons (o := ⟨none, _, _, _, _, none⟩) rfl (fun K hK => ?_) (AllReadyH.nil)
              (try dsimp only at hHeld)
              have hBq6 : Below w.heap.size w ((wq5.setCell ⟨wq3.heap.size, 0, none⟩ (.int .i64 (hiW (dK al ah bl bh k)))).setCell ⟨wq3.heap.size, 1, none⟩ (.int .u64 (loW (dK al ah bl bh k)))) := by go_grown
              have hOld := hHeld; clear hHeld; go_simp; refine hK.out _ _ ?_ (fun hHeld => ?_)
              · exact MD_store hOld nn16l0 nn16l1 nn16l2 nn16l3
              clear hK K hOld
              (try dsimp only at hHeld)
              replace nn17f0 := two_fz (b := wq3.heap.size) (x := .int .i64 (hiW (dK al ah bl bh k))) (y := .int .u64 (loW (dK al ah bl bh k))) nn17f0
              replace nn170 := two_other (b := wq3.heap.size) (x := .int .i64 (hiW (dK al ah bl bh k))) (y := .int .u64 (loW (dK al ah bl bh k))) nn170 (by omega)
              replace nn17f1 := two_fz (b := wq3.heap.size) (x := .int .i64 (hiW (dK al ah bl bh k))) (y := .int .u64 (loW (dK al ah bl bh k))) nn17f1
              replace nn171 := two_other (b := wq3.heap.size) (x := .int .i64 (hiW (dK al ah bl bh k))) (y := .int .u64 (loW (dK al ah bl bh k))) nn171 (by omega)
              replace nn16f0 := two_fz (b := wq3.heap.size) (x := .int .i64 (hiW (dK al ah bl bh k))) (y := .int .u64 (loW (dK al ah bl bh k))) nn16f0
              replace nn160 := two_0 (x := .int .i64 (hiW (dK al ah bl bh k))) (y := .int .u64 (loW (dK al ah bl bh k))) nn160
              replace nn16f1 := two_fz (b := wq3.heap.size) (x := .int .i64 (hiW (dK al ah bl bh k))) (y := .int .u64 (loW (dK al ah bl bh k))) nn16f1
              replace nn161 := two_1 (x := .int .i64 (hiW (dK al ah bl bh k))) (y := .int .u64 (loW (dK al ah bl bh k))) nn161
              generalize ((wq5.setCell ⟨wq3.heap.size, 0, none⟩ (.int .i64 (hiW (dK al ah bl bh k)))).setCell ⟨wq3.heap.size, 1, none⟩ (.int .u64 (loW (dK al ah bl bh k)))) = wq6 at *
              have hzq6 : w.heap.size ≤ wq6.heap.size := hBq6.size
              (try simp only [Act.put, List.setIfInBounds_toArray, List.set_cons_zero, List.set_cons_succ])
              refine wpAnyH_ready (rs := [19]) (by kernel_rfl) (by simp) ?_
              refine AllReadyH.cons (o := ⟨none, _, _, _, _, none⟩) rfl (fun K hK => ?_) (AllReadyH.nil)
              (try dsimp only at hHeld)
              have hBq7 : Below w.heap.size w ((wq6.setCell ⟨wq2.heap.size, 0, none⟩ (.int .i64 (hiW (uK al ah bl bh k)))).setCell ⟨wq2.heap.size, 1, none⟩ (.int .u64 (loW (uK al ah bl bh k)))) := by go_grown
              have hOld := hHeld; clear hHeld; go_simp; refine hK.out _ _ ?_ (fun hHeld => ?_)
              · exact MD_store hOld nn17l0 nn17l1 nn17l2 nn17l3
              clear hK K hOld
              (try dsimp only at hHeld)
              replace nn17f0 := two_fz (b := wq2.heap.size) (x := .int .i64 (hiW (uK al ah bl bh k))) (y := .int .u64 (loW (uK al ah bl bh k))) nn17f0
              replace nn170 := two_0 (x := .int .i64 (hiW (uK al ah bl bh k))) (y := .int .u64 (loW (uK al ah bl bh k))) nn170
              replace nn17f1 := two_fz (b := wq2.heap.size) (x := .int .i64 (hiW (uK al ah bl bh k))) (y := .int .u64 (loW (uK al ah bl bh k))) nn17f1
              replace nn171 := two_1 (x := .int .i64 (hiW (uK al ah bl bh k))) (y := .int .u64 (loW (uK al ah bl bh k))) nn171
              replace nn16f0 := two_fz (b := wq2.heap.size) (x := .int .i64 (hiW (uK al ah bl bh k))) (y := .int .u64 (loW (uK al ah bl bh k))) nn16f0
              replace nn160 := two_other (b := wq2.heap.size) (x := .int .i64 (hiW (uK al ah bl bh k))) (y := .int .u64 (loW (uK al ah bl bh k))) nn160 (by omega)
              replace nn16f1 := two_fz (b := wq2.heap.size) (x := .int .i64 (hiW (uK al ah bl bh k))) (y := .int .u64 (loW (uK al ah bl bh k))) nn16f1
              replace nn161 := two_other (b := wq2.heap.size) (x := .int .i64 (hiW (uK al ah bl bh k))) (y := .int .u64 (loW (uK al ah bl bh k))) nn161 (by omega)
              generalize ((wq6.setCell ⟨wq2.heap.size, 0, none⟩ (.int .i64 (hiW (uK al ah bl bh k)))).setCell ⟨wq2.heap.size, 1, none⟩ (.int .u64 (loW (uK al ah bl bh k)))) = wq7 at *
              have hzq7 : w.heap.size ≤ wq7.heap.size := hBq7.size
              (try simp only [Act.put, List.setIfInBounds_toArray, List.set_cons_zero, List.set_cons_succ])
              refine wpAnyH_done (by kernel_rfl) ?_ _
              go_wp2_with fail
              go_meet
              obtain ⟨L0, L1, L2, L3, L4, L5, L6, L7, _, _, z0, z1, zf0, zf1, lo0, lo1, lof0, lof1, hi0, hi1, hif0, hif1⟩ := hHeld
              exact ⟨_, _, rfl, rfl, by omega, by omega, ⟨L0, L1, L2, L3, L4, L5, L6, L7, z0, z1, zf0, zf1, lo0, lo1, lof0, lof1, hi0, hi1, hif0, hif1⟩, ⟨nn160, nn161, nn170, nn171⟩, by assumption⟩
           ·
            (try dsimp only at hHeld)
            have hBq2 : Below w.heap.size w (wq1.alloc (Obj.cells #[.int .i64 0, .int .u64 0] 78)) := by go_grown
            have nn160 : (wq1.alloc (Obj.cells #[.int .i64 0, .int .u64 0] 78)).cell? ⟨wq1.heap.size, 0, none⟩ = some (.int .i64 0) := by simp [go_sem]
            have nn16f0 : (wq1.alloc (Obj.cells #[.int .i64 0, .int .u64 0] 78)).frozen? ⟨wq1.heap.size, 0, none⟩ = false := by simp [go_sem]
            have nn161 : (wq1.alloc (Obj.cells #[.int .i64 0, .int .u64 0] 78)).cell? ⟨wq1.heap.size, 1, none⟩ = some (.int .u64 0) := by simp [go_sem]
            have nn16f1 : (wq1.alloc (Obj.cells #[.int .i64 0, .int .u64 0] 78)).frozen? ⟨wq1.heap.size, 1, none⟩ = false := by simp [go_sem]
            obtain ⟨nn16l0, nn16l1, nn16l2, nn16l3⟩ := MD_lt hHeld
            have hOld := hHeld; clear hHeld; go_simp; refine hK.out _ _ ?_ (fun hHeld => ?_)
            · exact MD_alloc _ hOld
            clear hK K hOld
            (try dsimp only at hHeld)
            generalize (wq1.alloc (Obj.cells #[.int .i64 0, .int .u64 0] 78)) = wq2 at *
            have hzq2 : w.heap.size ≤ wq2.heap.size := hBq2.size
            (try simp only [Act.put, List.setIfInBounds_toArray, List.set_cons_zero, List.set_cons_succ])
            refine wpAnyH_ready (rs := [11, 17]) (by kernel_rfl) (by simp) ?_
            refine AllReadyH.cons (o := ⟨some 47, _, _, _, _, none⟩) rfl (fun K hK => ?_) (AllReadyH.cons (o := ⟨some 11, _, _, _, _, none⟩) rfl (fun K hK => ?_) (AllReadyH.nil))
            ·
             go_simp
             (go_at_call 86; refine useF w ((by first | exact hwx.out _ | exact hwy.out _)) (by go_grown) ?_; rintro e wq3 rfl hBq3 hkq3 hfq3 hsq3)
             have hOld := hHeld; clear hHeld; refine hK.out _ _ ?_ (fun hHeld => ?_)
             · exact MD_keep hOld hkq3 hfq3
             clear hK K hOld
             replace nn16f0 := hfq3 _ _ _ nn160 nn16f0
             replace nn160 := hkq3 _ _ _ nn160
             replace nn16f1 := hfq3 _ _ _ nn161 nn16f1
             replace nn161 := hkq3 _ _ _ nn161
             clear hkq3 hfq3 hsq3
             have hzq3 : w.heap.size ≤ wq3.heap.size := hBq3.size
             (try simp only [Act.put, List.setIfInBounds_toArray, List.set_cons_zero, List.set_cons_succ])
             refine wpAnyH_ready (rs := [12, 17]) (by kernel_rfl) (by simp) ?_
             refine AllReadyH.cons (o := ⟨some 48, _, _, _, _, none⟩) rfl (fun K hK => ?_) (AllReadyH.cons (o := ⟨some 11, _, _, _, _, none⟩) rfl (fun K hK => ?_) (AllReadyH.nil))
             ·
              go_simp
              (go_at_call 81; refine useF w (hov.out _) (by go_grown) ?_; rintro e wq4 rfl hBq4 hkq4 hfq4 hsq4)
              have hOld := hHeld; clear hHeld; refine hK.out _ _ ?_ (fun hHeld => ?_)
              · exact MD_keep hOld hkq4 hfq4
              clear hK K hOld
              replace nn16f0 := hfq4 _ _ _ nn160 nn16f0
              replace nn160 := hkq4 _ _ _ nn160
              replace nn16f1 := hfq4 _ _ _ nn161 nn16f1
              replace nn161 := hkq4 _ _ _ nn161
              clear hkq4 hfq4 hsq4
              have hzq4 : w.heap.size ≤ wq4.heap.size := hBq4.size
              (try simp only [Act.put, List.setIfInBounds_toArray, List.set_cons_zero, List.set_cons_succ])
              (refine wpAnyH_take (i := 13) (oi := ⟨some 35, _, _, _, _, none⟩) (v := ?_) rfl (by kernel_rfl) (by kernel_rfl) (by kernel_rfl) (fun _ _ _ h => h) (Or.inl ⟨by rfl, ?_⟩) hHeld ?_; rotate_left; (· (intro w9 hSw; (try dsimp only at hSw); (unfold MD at hSw); go_simp; (try with_reducible rfl))))
              (try simp only [Act.put, List.setIfInBounds_toArray, List.set_cons_zero, List.set_cons_succ])
              (refine wpAnyH_take (i := 14) (oi := ⟨some 49, _, _, _, _, none⟩) (v := ?_) rfl (by kernel_rfl) (by kernel_rfl) (by kernel_rfl) (fun _ _ _ h => h) (Or.inl ⟨by rfl, ?_⟩) hHeld ?_; rotate_left; (· (intro w9 hSw; (try dsimp only at hSw); (unfold MD at hSw); go_simp; (try with_reducible rfl))))
              (try simp only [Act.put, List.setIfInBounds_toArray, List.set_cons_zero, List.set_cons_succ])
              (refine wpAnyH_take (i := 15) (oi := ⟨some 50, _, _, _, _, none⟩) (v := ?_) rfl (by kernel_rfl) (by kernel_rfl) (by kernel_rfl) (fun _ _ _ h => h) (Or.inl ⟨by rfl, ?_⟩) hHeld ?_; rotate_left; (· (intro w9 hSw; (try dsimp only at hSw); (unfold MD at hSw); go_simp; (try with_reducible rfl))))
              (try simp only [Act.put, List.setIfInBounds_toArray, List.set_cons_zero, List.set_cons_succ])
              refine wpAnyH_ready (rs := [17]) (by kernel_rfl) (by simp) ?_
              refine AllReadyH.cons (o := ⟨some 11, _, _, _, _, none⟩) rfl (fun K hK => ?_) (AllReadyH.nil)
              (try dsimp only at hHeld)
              have hBq5 : Below w.heap.size w (wq4.alloc (Obj.cells #[.int .i64 0, .int .u64 0] 78)) := by go_grown
              have nn170 : (wq4.alloc (Obj.cells #[.int .i64 0, .int .u64 0] 78)).cell? ⟨wq4.heap.size, 0, none⟩ = some (.int .i64 0) := by simp [go_sem]
              have nn17f0 : (wq4.alloc (Obj.cells #[.int .i64 0, .int .u64 0] 78)).frozen? ⟨wq4.heap.size, 0, none⟩ = false := by simp [go_sem]
              have nn171 : (wq4.alloc (Obj.cells #[.int .i64 0, .int .u64 0] 78)).cell? ⟨wq4.heap.size, 1, none⟩ = some (.int .u64 0) := by simp [go_sem]
              have nn17f1 : (wq4.alloc (Obj.cells #[.int .i64 0, .int .u64 0] 78)).frozen? ⟨wq4.heap.size, 1, none⟩ = false := by simp [go_sem]
              obtain ⟨nn17l0, nn17l1, nn17l2, nn17l3⟩ := MD_lt hHeld
              have nn17m16 : wq1.heap.size < wq4.heap.size := World.block_lt_of_cell? _ ⟨wq1.heap.size, 0, none⟩ nn160
              replace nn16f0 := keepAF (Obj.cells #[.int .i64 0, .int .u64 0] 78) nn160 nn16f0
              replace nn160 := keepA (Obj.cells #[.int .i64 0, .int .u64 0] 78) nn160
              replace nn16f1 := keepAF (Obj.cells #[.int .i64 0, .int .u64 0] 78) nn161 nn16f1
              replace nn161 := keepA (Obj.cells #[.int .i64 0, .int .u64 0] 78) nn161
              have hOld := hHeld; clear hHeld; go_simp; refine hK.out _ _ ?_ (fun hHeld => ?_)
              · exact MD_alloc _ hOld
              clear hK K hOld
              (try dsimp only at hHeld)
              generalize (wq4.alloc (Obj.cells #[.int .i64 0, .int .u64 0] 78)) = wq5 at *
              have hzq5 : w.heap.size ≤ wq5.heap.size := hBq5.size
              (try simp only [Act.put, List.setIfInBounds_toArray, List.set_cons_zero, List.set_cons_succ])
              refine wpAnyH_ready (rs := [18]) (by kernel_rfl) (by simp) ?_
              refine AllReadyH.cons (o := ⟨none, _, _, _, _, none⟩) rfl (fun K hK => ?_) (AllReadyH.nil)
              (try dsimp only at hHeld)
              have hBq6 : Below w.heap.size w ((wq5.setCell ⟨wq1.heap.size, 0, none⟩ (.int .i64 (hiW (dK al ah bl bh k)))).setCell ⟨wq1.heap.size, 1, none⟩ (.int .u64 (loW (dK al ah bl bh k)))) := by go_grown
              have hOld := hHeld; clear hHeld; go_simp; refine hK.out _ _ ?_ (fun hHeld => ?_)
              · exact MD_store hOld nn16l0 nn16l1 nn16l2 nn16l3
              clear hK K hOld
              (try dsimp only at hHeld)
              replace nn16f0 := two_fz (b := wq1.heap.size) (x := .int .i64 (hiW (dK al ah bl bh k))) (y := .int .u64 (loW (dK al ah bl bh k))) nn16f0
              replace nn160 := two_0 (x := .int .i64 (hiW (dK al ah bl bh k))) (y := .int .u64 (loW (dK al ah bl bh k))) nn160
              replace nn16f1 := two_fz (b := wq1.heap.size) (x := .int .i64 (hiW (dK al ah bl bh k))) (y := .int .u64 (loW (dK al ah bl bh k))) nn16f1
              replace nn161 := two_1 (x := .int .i64 (hiW (dK al ah bl bh k))) (y := .int .u64 (loW (dK al ah bl bh k))) nn161
              replace nn17f0 := two_fz (b := wq1.heap.size) (x := .int .i64 (hiW (dK al ah bl bh k))) (y := .int .u64 (loW (dK al ah bl bh k))) nn17f0
              replace nn170 := two_other (b := wq1.heap.size) (x := .int .i64 (hiW (dK al ah bl bh k))) (y := .int .u64 (loW (dK al ah bl bh k))) nn170 (by omega)
              replace nn17f1 := two_fz (b := wq1.heap.size) (x := .int .i64 (hiW (dK al ah bl bh k))) (y := .int .u64 (loW (dK al ah bl bh k))) nn17f1
              replace nn171 := two_other (b := wq1.heap.size) (x := .int .i64 (hiW (dK al ah bl bh k))) (y := .int .u64 (loW (dK al ah bl bh k))) nn171 (by omega)
              generalize ((wq5.setCell ⟨wq1.heap.size, 0, none⟩ (.int .i64 (hiW (dK al ah bl bh k)))).setCell ⟨wq1.heap.size, 1, none⟩ (.int .u64 (loW (dK al ah bl bh k)))) = wq6 at *
              have hzq6 : w.heap.size ≤ wq6.heap.size := hBq6.size
              (try simp only [Act.put, List.setIfInBounds_toArray, List.set_cons_zero, List.set_cons_succ])
              refine wpAnyH_ready (rs := [19]) (by kernel_rfl) (by simp) ?_
              refine AllReadyH.cons (o := ⟨none, _, _, _, _, none⟩) rfl (fun K hK => ?_) (AllReadyH.nil)
              (try dsimp only at hHeld)
              have hBq7 : Below w.heap.size w ((wq6.setCell ⟨wq4.heap.size, 0, none⟩ (.int .i64 (hiW (uK al ah bl bh k)))).setCell ⟨wq4.heap.size, 1, none⟩ (.int .u64 (loW (uK al ah bl bh k)))) := by go_grown
              have hOld := hHeld; clear hHeld; go_simp; refine hK.out _ _ ?_ (fun hHeld => ?_)
              · exact MD_store hOld nn17l0 nn17l1 nn17l2 nn17l3
              clear hK K hOld
              (try dsimp only at hHeld)
              replace nn16f0 := two_fz (b := wq4.heap.size) (x := .int .i64 (hiW (uK al ah bl bh k))) (y := .int .u64 (loW (uK al ah bl bh k))) nn16f0
              replace nn160 := two_other (b := wq4.heap.size) (x := .int .i64 (hiW (uK al ah bl bh k))) (y := .int .u64 (loW (uK al ah bl bh k))) nn160 (by omega)
              replace nn16f1 := two_fz (b := wq4.heap.size) (x := .int .i64 (hiW (uK al ah bl bh k))) (y := .int .u64 (loW (uK al ah bl bh k))) nn16f1
              replace nn161 := two_other (b := wq4.heap.size) (x := .int .i64 (hiW (uK al ah bl bh k))) (y := .int .u64 (loW (uK al ah bl bh k))) nn161 (by omega)
              replace nn17f0 := two_fz (b := wq4.heap.size) (x := .int .i64 (hiW (uK al ah bl bh k))) (y := .int .u64 (loW (uK al ah bl bh k))) nn17f0
              replace nn170 := two_0 (x := .int .i64 (hiW (uK al ah bl bh k))) (y := .int .u64 (loW (uK al ah bl bh k))) nn170
              replace nn17f1 := two_fz (b := wq4.heap.size) (x := .int .i64 (hiW (uK al ah bl bh k))) (y := .int .u64 (loW (uK al ah bl bh k))) nn17f1
              replace nn171 := two_1 (x := .int .i64 (hiW (uK al ah bl bh k))) (y := .int .u64 (loW (uK al ah bl bh k))) nn171
              generalize ((wq6.setCell ⟨wq4.heap.size, 0, none⟩ (.int .i64 (hiW (uK al ah bl bh k)))).setCell ⟨wq4.heap.size, 1, none⟩ (.int .u64 (loW (uK al ah bl bh k)))) = wq7 at *
              have hzq7 : w.heap.size ≤ wq7.heap.size := hBq7.size
              (try simp only [Act.put, List.setIfInBounds_toArray, List.set_cons_zero, List.set_cons_succ])
              refine wpAnyH_done (by kernel_rfl) ?_ _
              go_wp2_with fail
              go_meet
              obtain ⟨L0, L1, L2, L3, L4, L5, L6, L7, _, _, z0, z1, zf0, zf1, lo0, lo1, lof0, lof1, hi0, hi1, hif0, hif1⟩ := hHeld
              exact ⟨_, _, rfl, rfl, by omega, by omega, ⟨L0, L1, L2, L3, L4, L5, L6, L7, z0, z1, zf0, zf1, lo0, lo1, lof0, lof1, hi0, hi1, hif0, hif1⟩, ⟨nn160, nn161, nn170, nn171⟩, by assumption⟩
             ·
              (try dsimp only at hHeld)
              have hBq4 : Below w.heap.size w (wq3.alloc (Obj.cells #[.int .i64 0, .int .u64 0] 78)) := by go_grown
              have nn170 : (wq3.alloc (Obj.cells #[.int .i64 0, .int .u64 0] 78)).cell? ⟨wq3.heap.size, 0, none⟩ = some (.int .i64 0) := by simp [go_sem]
              have nn17f0 : (wq3.alloc (Obj.cells #[.int .i64 0, .int .u64 0] 78)).frozen? ⟨wq3.heap.size, 0, none⟩ = false := by simp [go_sem]
              have nn171 : (wq3.alloc (Obj.cells #[.int .i64 0, .int .u64 0] 78)).cell? ⟨wq3.heap.size, 1, none⟩ = some (.int .u64 0) := by simp [go_sem]
              have nn17f1 : (wq3.alloc (Obj.cells #[.int .i64 0, .int .u64 0] 78)).frozen? ⟨wq3.heap.size, 1, none⟩ = false := by simp [go_sem]
              obtain ⟨nn17l0, nn17l1, nn17l2, nn17l3⟩ := MD_lt hHeld
              have nn17m16 : wq1.heap.size < wq3.heap.size := World.block_lt_of_cell? _ ⟨wq1.heap.size, 0, none⟩ nn160
              replace nn16f0 := keepAF (Obj.cells #[.int .i64 0, .int .u64 0] 78) nn160 nn16f0
              replace nn160 := keepA (Obj.cells #[.int .i64 0, .int .u64 0] 78) nn160
              replace nn16f1 := keepAF (Obj.cells #[.int .i64 0, .int .u64 0] 78) nn161 nn16f1
              replace nn161 := keepA (Obj.cells #[.int .i64 0, .int .u64 0] 78) nn161
              have hOld := hHeld; clear hHeld; go_simp; refine hK.out _ _ ?_ (fun hHeld => ?_)
              · exact MD_alloc _ hOld
              clear hK K hOld
              (try dsimp only at hHeld)
              generalize (wq3.alloc (Obj.cells #[.int .i64 0, .int .u64 0] 78)) = wq4 at *
              have hzq4 : w.heap.size ≤ wq4.heap.size := hBq4.size
              (try simp only [Act.put, List.setIfInBounds_toArray, List.set_cons_zero, List.set_cons_succ])
              refine wpAnyH_ready (rs := [12]) (by kernel_rfl) (by simp) ?_
              refine AllReadyH.cons (o := ⟨some 48, _, _, _, _, none⟩) rfl (fun K hK => ?_) (AllReadyH.nil)
              go_simp
              (go_at_call 81; refine useF w (hov.out _) (by go_grown) ?_; rintro e wq5 rfl hBq5 hkq5 hfq5 hsq5)
              have hOld := hHeld; clear hHeld; refine hK.out _ _ ?_ (fun hHeld => ?_)
              · exact MD_keep hOld hkq5 hfq5
              clear hK K hOld
              replace nn16f0 := hfq5 _ _ _ nn160 nn16f0
              replace nn160 := hkq5 _ _ _ nn160
              replace nn16f1 := hfq5 _ _ _ nn161 nn16f1
              replace nn161 := hkq5 _ _ _ nn161
              replace nn17f0 := hfq5 _ _ _ nn170 nn17f0
              replace nn170 := hkq5 _ _ _ nn170
              replace nn17f1 := hfq5 _ _ _ nn171 nn17f1
              replace nn171 := hkq5 _ _ _ nn171
              clear hkq5 hfq5 hsq5
              have hzq5 : w.heap.size ≤ wq5.heap.size := hBq5.size
              (try simp only [Act.put, List.setIfInBounds_toArray, List.set_cons_zero, List.set_cons_succ])
              (refine wpAnyH_take (i := 13) (oi := ⟨some 35, _, _, _, _, none⟩) (v := ?_) rfl (by kernel_rfl) (by kernel_rfl) (by kernel_rfl) (fun _ _ _ h => h) (Or.inl ⟨by rfl, ?_⟩) hHeld ?_; rotate_left; (· (intro w9 hSw; (try dsimp only at hSw); (unfold MD at hSw); go_simp; (try with_reducible rfl))))
              (try simp only [Act.put, List.setIfInBounds_toArray, List.set_cons_zero, List.set_cons_succ])
              (refine wpAnyH_take (i := 14) (oi := ⟨some 49, _, _, _, _, none⟩) (v := ?_) rfl (by kernel_rfl) (by kernel_rfl) (by kernel_rfl) (fun _ _ _ h => h) (Or.inl ⟨by rfl, ?_⟩) hHeld ?_; rotate_left; (· (intro w9 hSw; (try dsimp only at hSw); (unfold MD at hSw); go_simp; (try with_reducible rfl))))
              (try simp only [Act.put, List.setIfInBounds_toArray, List.set_cons_zero, List.set_cons_succ])
              (refine wpAnyH_take (i := 15) (oi := ⟨some 50, _, _, _, _, none⟩) (v := ?_) rfl (by kernel_rfl) (by kernel_rfl) (by kernel_rfl) (fun _ _ _ h => h) (Or.inl ⟨by rfl, ?_⟩) hHeld ?_; rotate_left; (· (intro w9 hSw; (try dsimp only at hSw); (unfold MD at hSw); go_simp; (try with_reducible rfl))))
              (try simp only [Act.put, List.setIfInBounds_toArray, List.set_cons_zero, List.set_cons_succ])
              refine wpAnyH_ready (rs := [18]) (by kernel_rfl) (by simp) ?_
              refine AllReadyH.cons (o := ⟨none, _, _, _, _, none⟩) rfl (fun K hK => ?_) (AllReadyH.nil)
              (try dsimp only at hHeld)
              have hBq6 : Below w.heap.size w ((wq5.setCell ⟨wq1.heap.size, 0, none⟩ (.int .i64 (hiW (dK al ah bl bh k)))).setCell ⟨wq1.heap.size, 1, none⟩ (.int .u64 (loW (dK al ah bl bh k)))) := by go_grown
              have hOld := hHeld; clear hHeld; go_simp; refine hK.out _ _ ?_ (fun hHeld => ?_)
              · exact MD_store hOld nn16l0 nn16l1 nn16l2 nn16l3
              clear hK K hOld
              (try dsimp only at hHeld)
              replace nn16f0 := two_fz (b := wq1.heap.size) (x := .int .i64 (hiW (dK al ah bl bh k))) (y := .int .u64 (loW (dK al ah bl bh k))) nn16f0
              replace nn160 := two_0 (x := .int .i64 (hiW (dK al ah bl bh k))) (y := .int .u64 (loW (dK al ah bl bh k))) nn160
              replace nn16f1 := two_fz (b := wq1.heap.size) (x := .int .i64 (hiW (dK al ah bl bh k))) (y := .int .u64 (loW (dK al ah bl bh k))) nn16f1
              replace nn161 := two_1 (x := .int .i64 (hiW (dK al ah bl bh k))) (y := .int .u64 (loW (dK al ah bl bh k))) nn161
              replace nn17f0 := two_fz (b := wq1.heap.size) (x := .int .i64 (hiW (dK al ah bl bh k))) (y := .int .u64 (loW (dK al ah bl bh k))) nn17f0
              replace nn170 := two_other (b := wq1.heap.size) (x := .int .i64 (hiW (dK al ah bl bh k))) (y := .int .u64 (loW (dK al ah bl bh k))) nn170 (by omega)
              replace nn17f1 := two_fz (b := wq1.heap.size) (x := .int .i64 (hiW (dK al ah bl bh k))) (y := .int .u64 (loW (dK al ah bl bh k))) nn17f1
              replace nn171 := two_other (b := wq1.heap.size) (x := .int .i64 (hiW (dK al ah bl bh k))) (y := .int .u64 (loW (dK al ah bl bh k))) nn171 (by omega)
              generalize ((wq5.setCell ⟨wq1.heap.size, 0, none⟩ (.int .i64 (hiW (dK al ah bl bh k)))).setCell ⟨wq1.heap.size, 1, none⟩ (.int .u64 (loW (dK al ah bl bh k)))) = wq6 at *
              have hzq6 : w.heap.size ≤ wq6.heap.size := hBq6.size
              (try simp only [Act.put, List.setIfInBounds_toArray, List.set_cons_zero, List.set_cons_succ])
              refine wpAnyH_ready (rs := [19]) (by kernel_rfl) (by simp) ?_
              refine AllReadyH.cons (o := ⟨none, _, _, _, _, none⟩) rfl (fun K hK => ?_) (AllReadyH.nil)
              (try dsimp only at hHeld)
              have hBq7 : Below w.heap.size w ((wq6.setCell ⟨wq3.heap.size, 0, none⟩ (.int .i64 (hiW (uK al ah bl bh k)))).setCell ⟨wq3.heap.size, 1, none⟩ (.int .u64 (loW (uK al ah bl bh k)))) := by go_grown
              have hOld := hHeld; clear hHeld; go_simp; refine hK.out _ _ ?_ (fun hHeld => ?_)
              · exact MD_store hOld nn17l0 nn17l1 nn17l2 nn17l3
              clear hK K hOld
              (try dsimp only at hHeld)
              replace nn16f0 := two_fz (b := wq3.heap.size) (x := .int .i64 (hiW (uK al ah bl bh k))) (y := .int .u64 (loW (uK al ah bl bh k))) nn16f0
              replace nn160 := two_other (b := wq3.heap.size) (x := .int .i64 (hiW (uK al ah bl bh k))) (y := .int .u64 (loW (uK al ah bl bh k))) nn160 (by omega)
              replace nn16f1 := two_fz (b := wq3.heap.size) (x := .int .i64 (hiW (uK al ah bl bh k))) (y := .int .u64 (loW (uK al ah bl bh k))) nn16f1
              replace nn161 := two_other (b := wq3.heap.size) (x := .int .i64 (hiW (uK al ah bl bh k))) (y := .int .u64 (loW (uK al ah bl bh k))) nn161 (by omega)
              replace nn17f0 := two_fz (b := wq3.heap.size) (x := .int .i64 (hiW (uK al ah bl bh k))) (y := .int .u64 (loW (uK al ah bl bh k))) nn17f0
              replace nn170 := two_0 (x := .int .i64 (hiW (uK al ah bl bh k))) (y := .int .u64 (loW (uK al ah bl bh k))) nn170
              replace nn17f1 := two_fz (b := wq3.heap.size) (x := .int .i64 (hiW (uK al ah bl bh k))) (y := .int .u64 (loW (uK al ah bl bh k))) nn17f1
              replace nn171 := two_1 (x := .int .i64 (hiW (uK al ah bl bh k))) (y := .int .u64 (loW (uK al ah bl bh k))) nn171
              generalize ((wq6.setCell ⟨wq3.heap.size, 0, none⟩ (.int .i64 (hiW (uK al ah bl bh k)))).setCell ⟨wq3.heap.size, 1, none⟩ (.int .u64 (loW (uK al ah bl bh k)))) = wq7 at *
              have hzq7 : w.heap.size ≤ wq7.heap.size := hBq7.size
              (try simp only [Act.put, List.setIfInBounds_toArray, List.set_cons_zero, List.set_cons_succ])
              refine wpAnyH_done (by kernel_rfl) ?_ _
              go_wp2_with fail
              go_meet
              obtain ⟨L0, L1, L2, L3, L4, L5, L6, L7, _, _, z0, z1, zf0, zf1, lo0, lo1, lof0, lof1, hi0, hi1, hif0, hif1⟩ := hHeld
              exact ⟨_, _, rfl, rfl, by omega, by omega, ⟨L0, L1, L2, L3, L4, L5, L6, L7, z0, z1, zf0, zf1, lo0, lo1, lof0, lof1, hi0, hi1, hif0, hif1⟩, ⟨nn160, nn161, nn170, nn171⟩, by assumption⟩
            ·
             (try dsimp only at hHeld)
             have hBq3 : Below w.heap.size w (wq2.alloc (Obj.cells #[.int .i64 0, .int .u64 0] 78)) := by go_grown
             have nn170 : (wq2.alloc (Obj.cells #[.int .i64 0, .int .u64 0] 78)).cell? ⟨wq2.heap.size, 0, none⟩ = some (.int .i64 0) := by simp [go_sem]
             have nn17f0 : (wq2.alloc (Obj.cells #[.int .i64 0, .int .u64 0] 78)).frozen? ⟨wq2.heap.size, 0, none⟩ = false := by simp [go_sem]
             have nn171 : (wq2.alloc (Obj.cells #[.int .i64 0, .int .u64 0] 78)).cell? ⟨wq2.heap.size, 1, none⟩ = some (.int .u64 0) := by simp [go_sem]
             have nn17f1 : (wq2.alloc (Obj.cells #[.int .i64 0, .int .u64 0] 78)).frozen? ⟨wq2.heap.size, 1, none⟩ = false := by simp [go_sem]
             obtain ⟨nn17l0, nn17l1, nn17l2, nn17l3⟩ := MD_lt hHeld
             have nn17m16 : wq1.heap.size < wq2.heap.size := World.block_lt_of_cell? _ ⟨wq1.heap.size, 0, none⟩ nn160
             replace nn16f0 := keepAF (Obj.cells #[.int .i64 0, .int .u64 0] 78) nn160 nn16f0
             replace nn160 := keepA (Obj.cells #[.int .i64 0, .int .u64 0] 78) nn160
             replace nn16f1 := keepAF (Obj.cells #[.int .i64 0, .int .u64 0] 78) nn161 nn16f1
             replace nn161 := keepA (Obj.cells #[.int .i64 0, .int .u64 0] 78) nn161
             have hOld := hHeld; clear hHeld; go_simp; refine hK.out _ _ ?_ (fun hHeld => ?_)
             · exact MD_alloc _ hOld
             clear hK K hOld
             (try dsimp only at hHeld)
             generalize (wq2.alloc (Obj.cells #[.int .i64 0, .int .u64 0] 78)) = wq3 at *
             have hzq3 : w.heap.size ≤ wq3.heap.size := hBq3.size
             (try simp only [Act.put, List.setIfInBounds_toArray, List.set_cons_zero, List.set_cons_succ])
             refine wpAnyH_ready (rs := [11]) (by kernel_rfl) (by simp) ?_
             refine AllReadyH.cons (o := ⟨some 47, _, _, _, _, none⟩) rfl (fun K hK => ?_) (AllReadyH.nil)
             go_simp
             (go_at_call 86; refine useF w ((by first | exact hwx.out _ | exact hwy.out _)) (by go_grown) ?_; rintro e wq4 rfl hBq4 hkq4 hfq4 hsq4)
             have hOld := hHeld; clear hHeld; refine hK.out _ _ ?_ (fun hHeld => ?_)
             · exact MD_keep hOld hkq4 hfq4
             clear hK K hOld
             replace nn16f0 := hfq4 _ _ _ nn160 nn16f0
             replace nn160 := hkq4 _ _ _ nn160
             replace nn16f1 := hfq4 _ _ _ nn161 nn16f1
             replace nn161 := hkq4 _ _ _ nn161
             replace nn17f0 := hfq4 _ _ _ nn170 nn17f0
             replace nn170 := hkq4 _ _ _ nn170
             replace nn17f1 := hfq4 _ _ _ nn171 nn17f1
             replace nn171 := hkq4 _ _ _ nn171
             clear hkq4 hfq4 hsq4
             have hzq4 : w.heap.size ≤ wq4.heap.size := hBq4.size
             (try simp only [Act.put, List.setIfInBounds_toArray, List.set_cons_zero, List.set_cons_succ])
             refine wpAnyH_ready (rs := [12]) (by kernel_rfl) (by simp) ?_
             refine AllReadyH.cons (o := ⟨some 48, _, _, _, _, none⟩) rfl (fun K hK => ?_) (AllReadyH.nil)
             go_simp
             (go_at_call 81; refine useF w (hov.out _) (by go_grown) ?_; rintro e wq5 rfl hBq5 hkq5 hfq5 hsq5)
             have hOld := hHeld; clear hHeld; refine hK.out _ _ ?_ (fun hHeld => ?_)
             · exact MD_keep hOld hkq5 hfq5
             clear hK K hOld
             replace nn16f0 := hfq5 _ _ _ nn160 nn16f0
             replace nn160 := hkq5 _ _ _ nn160
             replace nn16f1 := hfq5 _ _ _ nn161 nn16f1
             replace nn161 := hkq5 _ _ _ nn161
             replace nn17f0 := hfq5 _ _ _ nn170 nn17f0
             replace nn170 := hkq5 _ _ _ nn170
             replace nn17f1 := hfq5 _ _ _ nn171 nn17f1
             replace nn171 := hkq5 _ _ _ nn171
             clear hkq5 hfq5 hsq5
             have hzq5 : w.heap.size ≤ wq5.heap.size := hBq5.size
             (try simp only [Act.put, List.setIfInBounds_toArray, List.set_cons_zero, List.set_cons_succ])
             (refine wpAnyH_take (i := 13) (oi := ⟨some 35, _, _, _, _, none⟩) (v := ?_) rfl (by kernel_rfl) (by kernel_rfl) (by kernel_rfl) (fun _ _ _ h => h) (Or.inl ⟨by rfl, ?_⟩) hHeld ?_; rotate_left; (· (intro w9 hSw; (try dsimp only at hSw); (unfold MD at hSw); go_simp; (try with_reducible rfl))))
             (try simp only [Act.put, List.setIfInBounds_toArray, List.set_cons_zero, List.set_cons_succ])
             (refine wpAnyH_take (i := 14) (oi := ⟨some 49, _, _, _, _, none⟩) (v := ?_) rfl (by kernel_rfl) (by kernel_rfl) (by kernel_rfl) (fun _ _ _ h => h) (Or.inl ⟨by rfl, ?_⟩) hHeld ?_; rotate_left; (· (intro w9 hSw; (try dsimp only at hSw); (unfold MD at hSw); go_simp; (try with_reducible rfl))))
             (try simp only [Act.put, List.setIfInBounds_toArray, List.set_cons_zero, List.set_cons_succ])
             (refine wpAnyH_take (i := 15) (oi := ⟨some 50, _, _, _, _, none⟩) (v := ?_) rfl (by kernel_rfl) (by kernel_rfl) (by kernel_rfl) (fun _ _ _ h => h) (Or.inl ⟨by rfl, ?_⟩) hHeld ?_; rotate_left; (· (intro w9 hSw; (try dsimp only at hSw); (unfold MD at hSw); go_simp; (try with_reducible rfl))))
             (try simp only [Act.put, List.setIfInBounds_toArray, List.set_cons_zero, List.set_cons_succ])
             refine wpAnyH_ready (rs := [18]) (by kernel_rfl) (by simp) ?_
             refine AllReadyH.cons (o := ⟨none, _, _, _, _, none⟩) rfl (fun K hK => ?_) (AllReadyH.nil)
             (try dsimp only at hHeld)
             have hBq6 : Below w.heap.size w ((wq5.setCell ⟨wq1.heap.size, 0, none⟩ (.int .i64 (hiW (dK al ah bl bh k)))).setCell ⟨wq1.heap.size, 1, none⟩ (.int .u64 (loW (dK al ah bl bh k)))) := by go_grown
             have hOld := hHeld; clear hHeld; go_simp; refine hK.out _ _ ?_ (fun hHeld => ?_)
             · exact MD_store hOld nn16l0 nn16l1 nn16l2 nn16l3
             clear hK K hOld
             (try dsimp only at hHeld)
             replace nn16f0 := two_fz (b := wq1.heap.size) (x := .int .i64 (hiW (dK al ah bl bh k))) (y := .int .u64 (loW (dK al ah bl bh k))) nn16f0
             replace nn160 := two_0 (x := .int .i64 (hiW (dK al ah bl bh k))) (y := .int .u64 (loW (dK al ah bl bh k))) nn160
             replace nn16f1 := two_fz (b := wq1.heap.size) (x := .int .i64 (hiW (dK al ah bl bh k))) (y := .int .u64 (loW (dK al ah bl bh k))) nn16f1
             replace nn161 := two_1 (x := .int .i64 (hiW (dK al ah bl bh k))) (y := .int .u64 (loW (dK al ah bl bh k))) nn161
             replace nn17f0 := two_fz (b := wq1.heap.size) (x := .int .i64 (hiW (dK al ah bl bh k))) (y := .int .u64 (loW (dK al ah bl bh k))) nn17f0
             replace nn170 := two_other (b := wq1.heap.size) (x := .int .i64 (hiW (dK al ah bl bh k))) (y := .int .u64 (loW (dK al ah bl bh k))) nn170 (by omega)
             replace nn17f1 := two_fz (b := wq1.heap.size) (x := .int .i64 (hiW (dK al ah bl bh k))) (y := .int .u64 (loW (dK al ah bl bh k))) nn17f1
             replace nn171 := two_other (b := wq1.heap.size) (x := .int .i64 (hiW (dK al ah bl bh k))) (y := .int .u64 (loW (dK al ah bl bh k))) nn171 (by omega)
             generalize ((wq5.setCell ⟨wq1.heap.size, 0, none⟩ (.int .i64 (hiW (dK al ah bl bh k)))).setCell ⟨wq1.heap.size, 1, none⟩ (.int .u64 (loW (dK al ah bl bh k)))) = wq6 at *
             have hzq6 : w.heap.size ≤ wq6.heap.size := hBq6.size
             (try simp only [Act.put, List.setIfInBounds_toArray, List.set_cons_zero, List.set_cons_succ])
             refine wpAnyH_ready (rs := [19]) (by kernel_rfl) (by simp) ?_
             refine AllReadyH.cons (o := ⟨none, _, _, _, _, none⟩) rfl (fun K hK => ?_) (AllReadyH.nil)
             (try dsimp only at hHeld)
             have hBq7 : Below w.heap.size w ((wq6.setCell ⟨wq2.heap.size, 0, none⟩ (.int .i64 (hiW (uK al ah bl bh k)))).setCell ⟨wq2.heap.size, 1, none⟩ (.int .u64 (loW (uK al ah bl bh k)))) := by go_grown
             have hOld := hHeld; clear hHeld; go_simp; refine hK.out _ _ ?_ (fun hHeld => ?_)
             · exact MD_store hOld nn17l0 nn17l1 nn17l2 nn17l3
             clear hK K hOld
             (try dsimp only at hHeld)
             replace nn16f0 := two_fz (b := wq2.heap.size) (x := .int .i64 (hiW (uK al ah bl bh k))) (y := .int .u64 (loW (uK al ah bl bh k))) nn16f0
             replace nn160 := two_other (b := wq2.heap.size) (x := .int .i64 (hiW (uK al ah bl bh k))) (y := .int .u64 (loW (uK al ah bl bh k))) nn160 (by omega)
             replace nn16f1 := two_fz (b := wq2.heap.size) (x := .int .i64 (hiW (uK al ah bl bh k))) (y := .int .u64 (loW (uK al ah bl bh k))) nn16f1
             replace nn161 := two_other (b := wq2.heap.size) (x := .int .i64 (hiW (uK al ah bl bh k))) (y := .int .u64 (loW (uK al ah bl bh k))) nn161 (by omega)
             replace nn17f0 := two_fz (b := wq2.heap.size) (x := .int .i64 (hiW (uK al ah bl bh k))) (y := .int .u64 (loW (uK al ah bl bh k))) nn17f0
             replace nn170 := two_0 (x := .int .i64 (hiW (uK al ah bl bh k))) (y := .int .u64 (loW (uK al ah bl bh k))) nn170
             replace nn17f1 := two_fz (b := wq2.heap.size) (x := .int .i64 (hiW (uK al ah bl bh k))) (y := .int .u64 (loW (uK al ah bl bh k))) nn17f1
             replace nn171 := two_1 (x := .int .i64 (hiW (uK al ah bl bh k))) (y := .int .u64 (loW (uK al ah bl bh k))) nn171
             generalize ((wq6.setCell ⟨wq2.heap.size, 0, none⟩ (.int .i64 (hiW (uK al ah bl bh k)))).setCell ⟨wq2.heap.size, 1, none⟩ (.int .u64 (loW (uK al ah bl bh k)))) = wq7 at *
             have hzq7 : w.heap.size ≤ wq7.heap.size := hBq7.size
             (try simp only [Act.put, List.setIfInBounds_toArray, List.set_cons_zero, List.set_cons_succ])
             refine wpAnyH_done (by kernel_rfl) ?_ _
             go_wp2_with fail
             go_meet
             obtain ⟨L0, L1, L2, L3, L4, L5, L6, L7, _, _, z0, z1, zf0, zf1, lo0, lo1, lof0, lof1, hi0, hi1, hif0, hif1⟩ := hHeld
             exact ⟨_, _, rfl, rfl, by omega, by omega, ⟨L0, L1, L2, L3, L4, L5, L6, L7, z0, z1, zf0, zf1, lo0, lo1, lof0, lof1, hi0, hi1, hif0, hif1⟩, ⟨nn160, nn161, nn170, nn171⟩, by assumption⟩
           ·
            (try dsimp only at hHeld)
            have hBq2 : Below w.heap.size w (wq1.alloc (Obj.cells #[.int .i64 0, .int .u64 0] 78)) := by go_grown
            have nn170 : (wq1.alloc (Obj.cells #[.int .i64 0, .int .u64 0] 78)).cell? ⟨wq1.heap.size, 0, none⟩ = some (.int .i64 0) := by simp [go_sem]
            have nn17f0 : (wq1.alloc (Obj.cells #[.int .i64 0, .int .u64 0] 78)).frozen? ⟨wq1.heap.size, 0, none⟩ = false := by simp [go_sem]
            have nn171 : (wq1.alloc (Obj.cells #[.int .i64 0, .int .u64 0] 78)).cell? ⟨wq1.heap.size, 1, none⟩ = some (.int .u64 0) := by simp [go_sem]
            have nn17f1 : (wq1.alloc (Obj.cells #[.int .i64 0, .int .u64 0] 78)).frozen? ⟨wq1.heap.size, 1, none⟩ = false := by simp [go_sem]
            obtain ⟨nn17l0, nn17l1, nn17l2, nn17l3⟩ := MD_lt hHeld
            have hOld := hHeld; clear hHeld; go_simp; refine hK.out _ _ ?_ (fun hHeld => ?_)
            · exact MD_alloc _ hOld
            clear hK K hOld
            (try dsimp only at hHeld)
            generalize (wq1.alloc (Obj.cells #[.int .i64 0, .int .u64 0] 78)) = wq2 at *
            have hzq2 : w.heap.size ≤ wq2.heap.size := hBq2.size
            (try simp only [Act.put, List.setIfInBounds_toArray, List.set_cons_zero, List.set_cons_succ])
            refine wpAnyH_ready (rs := [11, 16]) (by kernel_rfl) (by simp) ?_
            refine AllReadyH.cons (o := ⟨some 47, _, _, _, _, none⟩) rfl (fun K hK => ?_) (AllReadyH.cons (o := ⟨some 10, _, _, _, _, none⟩) rfl (fun K hK => ?_) (AllReadyH.nil))
            ·
             go_simp
             (go_at_call 86; refine useF w ((by first | exact hwx.out _ | exact hwy.out _)) (by go_grown) ?_; rintro e wq3 rfl hBq3 hkq3 hfq3 hsq3)
             have hOld := hHeld; clear hHeld; refine hK.out _ _ ?_ (fun hHeld => ?_)
             · exact MD_keep hOld hkq3 hfq3
             clear hK K hOld
             replace nn17f0 := hfq3 _ _ _ nn170 nn17f0
             replace nn170 := hkq3 _ _ _ nn170
             replace nn17f1 := hfq3 _ _ _ nn171 nn17f1
             replace nn171 := hkq3 _ _ _ nn171
             clear hkq3 hfq3 hsq3
             have hzq3 : w.heap.size ≤ wq3.heap.size := hBq3.size
             (try simp only [Act.put, List.setIfInBounds_toArray, List.set_cons_zero, List.set_cons_succ])
             refine wpAnyH_ready (rs := [12, 16]) (by kernel_rfl) (by simp) ?_
             refine AllReadyH.cons (o := ⟨some 48, _, _, _, _, none⟩) rfl (fun K hK => ?_) (AllReadyH.cons (o := ⟨some 10, _, _, _, _, none⟩) rfl (fun K hK => ?_) (AllReadyH.nil))
             ·
              go_simp
              (go_at_call 81; refine useF w (hov.out _) (by go_grown) ?_; rintro e wq4 rfl hBq4 hkq4 hfq4 hsq4)
              have hOld := hHeld; clear hHeld; refine hK.out _ _ ?_ (fun hHeld => ?_)
              · exact MD_keep hOld hkq4 hfq4
              clear hK K hOld
              replace nn17f0 := hfq4 _ _ _ nn170 nn17f0
              replace nn170 := hkq4 _ _ _ nn170
              replace nn17f1 := hfq4 _ _ _ nn171 nn17f1
              replace nn171 := hkq4 _ _ _ nn171
              clear hkq4 hfq4 hsq4
              have hzq4 : w.heap.size ≤ wq4.heap.size := hBq4.size
              (try simp only [Act.put, List.setIfInBounds_toArray, List.set_cons_zero, List.set_cons_succ])
              (refine wpAnyH_take (i := 13) (oi := ⟨some 35, _, _, _, _, none⟩) (v := ?_) rfl (by kernel_rfl) (by kernel_rfl) (by kernel_rfl) (fun _ _ _ h => h) (Or.inl ⟨by rfl, ?_⟩) hHeld ?_; rotate_left; (· (intro w9 hSw; (try dsimp only at hSw); (unfold MD at hSw); go_simp; (try with_reducible rfl))))
              (try simp only [Act.put, List.setIfInBounds_toArray, List.set_cons_zero, List.set_cons_succ])
              (refine wpAnyH_take (i := 14) (oi := ⟨some 49, _, _, _, _, none⟩) (v := ?_) rfl (by kernel_rfl) (by kernel_rfl) (by kernel_rfl) (fun _ _ _ h => h) (Or.inl ⟨by rfl, ?_⟩) hHeld ?_; rotate_left; (· (intro w9 hSw; (try dsimp only at hSw); (unfold MD at hSw); go_simp; (try with_reducible rfl))))
              (try simp only [Act.put, List.setIfInBounds_toArray, List.set_cons_zero, List.set_cons_succ])
              (refine wpAnyH_take (i := 15) (oi := ⟨some 50, _, _, _, _, none⟩) (v := ?_) rfl (by kernel_rfl) (by kernel_rfl) (by kernel_rfl) (fun _ _ _ h => h) (Or.inl ⟨by rfl, ?_⟩) hHeld ?_; rotate_left; (· (intro w9 hSw; (try dsimp only at hSw); (unfold MD at hSw); go_simp; (try with_reducible rfl))))
              (try simp only [Act.put, List.setIfInBounds_toArray, List.set_cons_zero, List.set_cons_succ])
              refine wpAnyH_ready (rs := [16]) (by kernel_rfl) (by simp) ?_
              refine AllReadyH.cons (o := ⟨some 10, _, _, _, _, none⟩) rfl (fun K hK => ?_) (AllReadyH.nil)
              (try dsimp only at hHeld)
              have hBq5 : Below w.heap.size w (wq4.alloc (Obj.cells #[.int .i64 0, .int .u64 0] 78)) := by go_grown
              have nn160 : (wq4.alloc (Obj.cells #[.int .i64 0, .int .u64 0] 78)).cell? ⟨wq4.heap.size, 0, none⟩ = some (.int .i64 0) := by simp [go_sem]
              have nn16f0 : (wq4.alloc (Obj.cells #[.int .i64 0, .int .u64 0] 78)).frozen? ⟨wq4.heap.size, 0, none⟩ = false := by simp [go_sem]
              have nn161 : (wq4.alloc (Obj.cells #[.int .i64 0, .int .u64 0] 78)).cell? ⟨wq4.heap.size, 1, none⟩ = some (.int .u64 0) := by simp [go_sem]
              have nn16f1 : (wq4.alloc (Obj.cells #[.int .i64 0, .int .u64 0] 78)).frozen? ⟨wq4.heap.size, 1, none⟩ = false := by simp [go_sem]
              obtain ⟨nn16l0, nn16l1, nn16l2, nn16l3⟩ := MD_lt hHeld
              have nn16m17 : wq1.heap.size < wq4.heap.size := World.block_lt_of_cell? _ ⟨wq1.heap.size, 0, none⟩ nn170
              replace nn17f0 := keepAF (Obj.cells #[.int .i64 0, .int .u64 0] 78) nn170 nn17f0
              replace nn170 := keepA (Obj.cells #[.int .i64 0, .int .u64 0] 78) nn170
              replace nn17f1 := keepAF (Obj.cells #[.int .i64 0, .int .u64 0] 78) nn171 nn17f1
              replace nn171 := keepA (Obj.cells #[.int .i64 0, .int .u64 0] 78) nn171
              have hOld := hHeld; clear hHeld; go_simp; refine hK.out _ _ ?_ (fun hHeld => ?_)
              · exact MD_alloc _ hOld
              clear hK K hOld
              (try dsimp only at hHeld)
              generalize (wq4.alloc (Obj.cells #[.int .i64 0, .int .u64 0] 78)) = wq5 at *
              have hzq5 : w.heap.size ≤ wq5.heap.size := hBq5.size
              (try simp only [Act.put, List.setIfInBounds_toArray, List.set_cons_zero, List.set_cons_succ])
              refine wpAnyH_ready (rs := [18]) (by kernel_rfl) (by simp) ?_
              refine AllReadyH.cons (o := ⟨none, _, _, _, _, none⟩) rfl (fun K hK => ?_) (AllReadyH.nil)
              (try dsimp only at hHeld)
              have hBq6 : Below w.heap.size w ((wq5.setCell ⟨wq4.heap.size, 0, none⟩ (.int .i64 (hiW (dK al ah bl bh k)))).setCell ⟨wq4.heap.size, 1, none⟩ (.int .u64 (loW (dK al ah bl bh k)))) := by go_grown
              have hOld := hHeld; clear hHeld; go_simp; refine hK.out _ _ ?_ (fun hHeld => ?_)
              · exact MD_store hOld nn16l0 nn16l1 nn16l2 nn16l3
              clear hK K hOld
              (try dsimp only at hHeld)
              replace nn17f0 := two_fz (b := wq4.heap.size) (x := .int .i64 (hiW (dK al ah bl bh k))) (y := .int .u64 (loW (dK al ah bl bh k))) nn17f0
              replace nn170 := two_other (b := wq4.heap.size) (x := .int .i64 (hiW (dK al ah bl bh k))) (y := .int .u64 (loW (dK al ah bl bh k))) nn170 (by omega)
              replace nn17f1 := two_fz (b := wq4.heap.size) (x := .int .i64 (hiW (dK al ah bl bh k))) (y := .int .u64 (loW (dK al ah bl bh k))) nn17f1
              replace nn171 := two_other (b := wq4.heap.size) (x := .int .i64 (hiW (dK al ah bl bh k))) (y := .int .u64 (loW (dK al ah bl bh k))) nn171 (by omega)
              replace nn16f0 := two_fz (b := wq4.heap.size) (x := .int .i64 (hiW (dK al ah bl bh k))) (y := .int .u64 (loW (dK al ah bl bh k))) nn16f0
              replace nn160 := two_0 (x := .int .i64 (hiW (dK al ah bl bh k))) (y := .int .u64 (loW (dK al ah bl bh k))) nn160
              replace nn16f1 := two_fz (b := wq4.heap.size) (x := .int .i64 (hiW (dK al ah bl bh k))) (y := .int .u64 (loW (dK al ah bl bh k))) nn16f1
              replace nn161 := two_1 (x := .int .i64 (hiW (dK al ah bl bh k))) (y := .int .u64 (loW (dK al ah bl bh k))) nn161
              generalize ((wq5.setCell ⟨wq4.heap.size, 0, none⟩ (.int .i64 (hiW (dK al ah bl bh k)))).setCell ⟨wq4.heap.size, 1, none⟩ (.int .u64 (loW (dK al ah bl bh k)))) = wq6 at *
              have hzq6 : w.heap.size ≤ wq6.heap.size := hBq6.size
              (try simp only [Act.put, List.setIfInBounds_toArray, List.set_cons_zero, List.set_cons_succ])
              refine wpAnyH_ready (rs := [19]) (by kernel_rfl) (by simp) ?_
              refine AllReadyH.cons (o := ⟨none, _, _, _, _, none⟩) rfl (fun K hK => ?_) (AllReadyH.nil)
              (try dsimp only at hHeld)
              have hBq7 : Below w.heap.size w ((wq6.setCell ⟨wq1.heap.size, 0, none⟩ (.int .i64 (hiW (uK al ah bl bh k)))).setCell ⟨wq1.heap.size, 1, none⟩ (.int .u64 (loW (uK al ah bl bh k)))) := by go_grown
              have hOld := hHeld; clear hHeld; go_simp; refine hK.out _ _ ?_ (fun hHeld => ?_)
              · exact MD_store hOld nn17l0 nn17l1 nn17l2 nn17l3
              clear hK K hOld
              (try dsimp only at hHeld)
              replace nn17f0 := two_fz (b := wq1.heap.size) (x := .int .i64 (hiW (uK al ah bl bh k))) (y := .int .u64 (loW (uK al ah bl bh k))) nn17f0
              replace nn170 := two_0 (x := .int .i64 (hiW (uK al ah bl bh k))) (y := .int .u64 (loW (uK al ah bl bh k))) nn170
              replace nn17f1 := two_fz (b := wq1.heap.size) (x := .int .i64 (hiW (uK al ah bl bh k))) (y := .int .u64 (loW (uK al ah bl bh k))) nn17f1
              replace nn171 := two_1 (x := .int .i64 (hiW (uK al ah bl bh k))) (y := .int .u64 (loW (uK al ah bl bh k))) nn171
              replace nn16f0 := two_fz (b := wq1.heap.size) (x := .int .i64 (hiW (uK al ah bl bh k))) (y := .int .u64 (loW (uK al ah bl bh k))) nn16f0
              replace nn160 := two_other (b := wq1.heap.size) (x := .int .i64 (hiW (uK al ah bl bh k))) (y := .int .u64 (loW (uK al ah bl bh k))) nn160 (by omega)
              replace nn16f1 := two_fz (b := wq1.heap.size) (x := .int .i64 (hiW (uK al ah bl bh k))) (y := .int .u64 (loW (uK al ah bl bh k))) nn16f1
              replace nn161 := two_other (b := wq1.heap.size) (x := .int .i64 (hiW (uK al ah bl bh k))) (y := .int .u64 (loW (uK al ah bl bh k))) nn161 (by omega)
              generalize ((wq6.setCell ⟨wq1.heap.size, 0, none⟩ (.int .i64 (hiW (uK al ah bl bh k)))).setCell ⟨wq1.heap.size, 1, none⟩ (.int .u64 (loW (uK al ah bl bh k)))) = wq7 at *
              have hzq7 : w.heap.size ≤ wq7.heap.size := hBq7.size
              (try simp only [Act.put, List.setIfInBounds_toArray, List.set_cons_zero, List.set_cons_succ])
              refine wpAnyH_done (by kernel_rfl) ?_ _
              go_wp2_with fail
              go_meet
              obtain ⟨L0, L1, L2, L3, L4, L5, L6, L7, _, _, z0, z1, zf0, zf1, lo0, lo1, lof0, lof1, hi0, hi1, hif0, hif1⟩ := hHeld
              exact ⟨_, _, rfl, rfl, by omega, by omega, ⟨L0, L1, L2, L3, L4, L5, L6, L7, z0, z1, zf0, zf1, lo0, lo1, lof0, lof1, hi0, hi1, hif0, hif1⟩, ⟨nn160, nn161, nn170, nn171⟩, by assumption⟩
             ·
              (try dsimp only at hHeld)
              have hBq4 : Below w.heap.size w (wq3.alloc (Obj.cells #[.int .i64 0, .int .u64 0] 78)) := by go_grown
              have nn160 : (wq3.alloc (Obj.cells #[.int .i64 0, .int .u64 0] 78)).cell? ⟨wq3.heap.size, 0, none⟩ = some (.int .i64 0) := by simp [go_sem]
              have nn16f0 : (wq3.alloc (Obj.cells #[.int .i64 0, .int .u64 0] 78)).frozen? ⟨wq3.heap.size, 0, none⟩ = false := by simp [go_sem]
              have nn161 : (wq3.alloc (Obj.cells #[.int .i64 0, .int .u64 0] 78)).cell? ⟨wq3.heap.size, 1, none⟩ = some (.int .u64 0) := by simp [go_sem]
              have nn16f1 : (wq3.alloc (Obj.cells #[.int .i64 0, .int .u64 0] 78)).frozen? ⟨wq3.heap.size, 1, none⟩ = false := by simp [go_sem]
              obtain ⟨nn16l0, nn16l1, nn16l2, nn16l3⟩ := MD_lt hHeld
              have nn16m17 : wq1.heap.size < wq3.heap.size := World.block_lt_of_cell? _ ⟨wq1.heap.size, 0, none⟩ nn170
              replace nn17f0 := keepAF (Obj.cells #[.int .i64 0, .int .u64 0] 78) nn170 nn17f0
              replace nn170 := keepA (Obj.cells #[.int .i64 0, .int .u64 0] 78) nn170
              replace nn17f1 := keepAF (Obj.cells #[.int .i64 0, .int .u64 0] 78) nn171 nn17f1
              replace nn171 := keepA (Obj.cells #[.int .i64 0, .int .u64 0] 78) nn171
              have hOld := hHeld; clear hHeld; go_simp; refine hK.out _ _ ?_ (fun hHeld => ?_)
              · exact MD_alloc _ hOld
              clear hK K hOld
              (try dsimp only at hHeld)
              generalize (wq3.alloc (Obj.cells #[.int .i64 0, .int .u64 0] 78)) = wq4 at *
              have hzq4 : w.heap.size ≤ wq4.heap.size := hBq4.size
              (try simp only [Act.put, List.setIfInBounds_toArray, List.set_cons_zero, List.set_cons_succ])
              refine wpAnyH_ready (rs := [12]) (by kernel_rfl) (by simp) ?_
              refine AllReadyH.cons (o := ⟨some 48, _, _, _, _, none⟩) rfl (fun K hK => ?_) (AllReadyH.nil)
              go_simp
              (go_at_call 81; refine useF w (hov.out _) (by go_grown) ?_; rintro e wq5 rfl hBq5 hkq5 hfq5 hsq5)
              have hOld := hHeld; clear hHeld; refine hK.out _ _ ?_ (fun hHeld => ?_)
              · exact MD_keep hOld hkq5 hfq5
              clear hK K hOld
              replace nn17f0 := hfq5 _ _ _ nn170 nn17f0
              replace nn170 := hkq5 _ _ _ nn170
              replace nn17f1 := hfq5 _ _ _ nn171 nn17f1
              replace nn171 := hkq5 _ _ _ nn171
              replace nn16f0 := hfq5 _ _ _ nn160 nn16f0
              replace nn160 := hkq5 _ _ _ nn160
              replace nn16f1 := hfq5 _ _ _ nn161 nn16f1
              replace nn161 := hkq5 _ _ _ nn161
              clear hkq5 hfq5 hsq5
              have hzq5 : w.heap.size ≤ wq5.heap.size := hBq5.size
              (try simp only [Act.put, List.setIfInBounds_toArray, List.set_cons_zero, List.set_cons_succ])
              (refine wpAnyH_take (i := 13) (oi := ⟨some 35, _, _, _, _, none⟩) (v := ?_) rfl (by kernel_rfl) (by kernel_rfl) (by kernel_rfl) (fun _ _ _ h => h) (Or.inl ⟨by rfl, ?_⟩) hHeld ?_; rotate_left; (· (intro w9 hSw; (try dsimp only at hSw); (unfold MD at hSw); go_simp; (try with_reducible rfl))))
              (try simp only [Act.put, List.setIfInBounds_toArray, List.set_cons_zero, List.set_cons_succ])
              (refine wpAnyH_take (i := 14) (oi := ⟨some 49, _, _, _, _, none⟩) (v := ?_) rfl (by kernel_rfl) (by kernel_rfl) (by kernel_rfl) (fun _ _ _ h => h) (Or.inl ⟨by rfl, ?_⟩) hHeld ?_; rotate_left; (· (intro w9 hSw; (try dsimp only at hSw); (unfold MD at hSw); go_simp; (try with_reducible rfl))))
              (try simp only [Act.put, List.setIfInBounds_toArray, List.set_cons_zero, List.set_cons_succ])
              (refine wpAnyH_take (i := 15) (oi := ⟨some 50, _, _, _, _, none⟩) (v := ?_) rfl (by kernel_rfl) (by kernel_rfl) (by kernel_rfl) (fun _ _ _ h => h) (Or.inl ⟨by rfl, ?_⟩) hHeld ?_; rotate_left; (· (intro w9 hSw; (try dsimp only at hSw); (unfold MD at hSw); go_simp; (try with_reducible rfl))))
              (try simp only [Act.put, List.setIfInBounds_toArray, List.set_cons_zero, List.set_cons_succ])
              refine wpAnyH_ready (rs := [18]) (by kernel_rfl) (by simp) ?_
              refine AllReadyH.cons (o := ⟨none, _, _, _, _, none⟩) rfl (fun K hK => ?_) (AllReadyH.nil)
              (try dsimp only at hHeld)
              have hBq6 : Below w.heap.size w ((wq5.setCell ⟨wq3.heap.size, 0, none⟩ (.int .i64 (hiW (dK al ah bl bh k)))).setCell ⟨wq3.heap.size, 1, none⟩ (.int .u64 (loW (dK al ah bl bh k)))) := by go_grown
              have hOld := hHeld; clear hHeld; go_simp; refine hK.out _ _ ?_ (fun hHeld => ?_)
              · exact MD_store hOld nn16l0 nn16l1 nn16l2 nn16l3
              clear hK K hOld
              (try dsimp only at hHeld)
              replace nn17f0 := two_fz (b := wq3.heap.size) (x := .int .i64 (hiW (dK al ah bl bh k))) (y := .int .u64 (loW (dK al ah bl bh k))) nn17f0
              replace nn170 := two_other (b := wq3.heap.size) (x := .int .i64 (hiW (dK al ah bl bh k))) (y := .int .u64 (loW (dK al ah bl bh k))) nn170 (by omega)
              replace nn17f1 := two_fz (b := wq3.heap.size) (x := .int .i64 (hiW (dK al ah bl bh k))) (y := .int .u64 (loW (dK al ah bl bh k))) nn17f1
              replace nn171 := two_other (b := wq3.heap.size) (x := .int .i64 (hiW (dK al ah bl bh k))) (y := .int .u64 (loW (dK al ah bl bh k))) nn171 (by omega)
              replace nn16f0 := two_fz (b := wq3.heap.size) (x := .int .i64 (hiW (dK al ah bl bh k))) (y := .int .u64 (loW (dK al ah bl bh k))) nn16f0
              replace nn160 := two_0 (x := .int .i64 (hiW (dK al ah bl bh k))) (y := .int .u64 (loW (dK al ah bl bh k))) nn160
              replace nn16f1 := two_fz (b := wq3.heap.size) (x := .int .i64 (hiW (dK al ah bl bh k))) (y := .int .u64 (loW (dK al ah bl bh k))) nn16f1
              replace nn161 := two_1 (x := .int .i64 (hiW (dK al ah bl bh k))) (y := .int .u64 (loW (dK al ah bl bh k))) nn161
              generalize ((wq5.setCell ⟨wq3.heap.size, 0, none⟩ (.int .i64 (hiW (dK al ah bl bh k)))).setCell ⟨wq3.heap.size, 1, none⟩ (.int .u64 (loW (dK al ah bl bh k)))) = wq6 at *
              have hzq6 : w.heap.size ≤ wq6.heap.size := hBq6.size
              (try simp only [Act.put, List.setIfInBounds_toArray, List.set_cons_zero, List.set_cons_succ])
              refine wpAnyH_ready (rs := [19]) (by kernel_rfl) (by simp) ?_
              refine AllReadyH.cons (o := ⟨none, _, _, _, _, none⟩) rfl (fun K hK => ?_) (AllReadyH.nil)
              (try dsimp only at hHeld)
              have hBq7 : Below w.heap.size w ((wq6.setCell ⟨wq1.heap.size, 0, none⟩ (.int .i64 (hiW (uK al ah bl bh k)))).setCell ⟨wq1.heap.size, 1, none⟩ (.int .u64 (loW (uK al ah bl bh k)))) := by go_grown
              have hOld := hHeld; clear hHeld; go_simp; refine hK.out _ _ ?_ (fun hHeld => ?_)
              · exact MD_store hOld nn17l0 nn17l1 nn17l2 nn17l3
              clear hK K hOld
              (try dsimp only at hHeld)
              replace nn17f0 := two_fz (b := wq1.heap.size) (x := .int .i64 (hiW (uK al ah bl bh k))) (y := .int .u64 (loW (uK al ah bl bh k))) nn17f0
              replace nn170 := two_0 (x := .int .i64 (hiW (uK al ah bl bh k))) (y := .int .u64 (loW (uK al ah bl bh k))) nn170
              replace nn17f1 := two_fz (b := wq1.heap.size) (x := .int .i64 (hiW (uK al ah bl bh k))) (y := .int .u64 (loW (uK al ah bl bh k))) nn17f1
              replace nn171 := two_1 (x := .int .i64 (hiW (uK al ah bl bh k))) (y := .int .u64 (loW (uK al ah bl bh k))) nn171
              replace nn16f0 := two_fz (b := wq1.heap.size) (x := .int .i64 (hiW (uK al ah bl bh k))) (y := .int .u64 (loW (uK al ah bl bh k))) nn16f0
              replace nn160 := two_other (b := wq1.heap.size) (x := .int .i64 (hiW (uK al ah bl bh k))) (y := .int .u64 (loW (uK al ah bl bh k))) nn160 (by omega)
              replace nn16f1 := two_fz (b := wq1.heap.size) (x := .int .i64 (hiW (uK al ah bl bh k))) (y := .int .u64 (loW (uK al ah bl bh k))) nn16f1
              replace nn161 := two_other (b := wq1.heap.size) (x := .int .i64 (hiW (uK al ah bl bh k))) (y := .int .u64 (loW (uK al ah bl bh k))) nn161 (by omega)
              generalize ((wq6.setCell ⟨wq1.heap.size, 0, none⟩ (.int .i64 (hiW (uK al ah bl bh k)))).setCell ⟨wq1.heap.size, 1, none⟩ (.int .u64 (loW (uK al ah bl bh k)))) = wq7 at *
              have hzq7 : w.heap.size ≤ wq7.heap.size := hBq7.size
              (try simp only [Act.put, List.setIfInBounds_toArray, List.set_cons_zero, List.set_cons_succ])
              refine wpAnyH_done (by kernel_rfl) ?_ _
              go_wp2_with fail
              go_meet
              obtain ⟨L0, L1, L2, L3, L4, L5, L6, L7, _, _, z0, z1, zf0, zf1, lo0, lo1, lof0, lof1, hi0, hi1, hif0, hif1⟩ := hHeld
              exact ⟨_, _, rfl, rfl, by omega, by omega, ⟨L0, L1, L2, L3, L4, L5, L6, L7, z0, z1, zf0, zf1, lo0, lo1, lof0, lof1, hi0, hi1, hif0, hif1⟩, ⟨nn160, nn161, nn170, nn171⟩, by assumption⟩
            ·
             (try dsimp only at hHeld)
             have hBq3 : Below w.heap.size w (wq2.alloc (Obj.cells #[.int .i64 0, .int .u64 0] 78)) := by go_grown
             have nn160 : (wq2.alloc (Obj.cells #[.int .i64 0, .int .u64 0] 78)).cell? ⟨wq2.heap.size, 0, none⟩ = some (.int .i64 0) := by simp [go_sem]
             have nn16f0 : (wq2.alloc (Obj.cells #[.int .i64 0, .int .u64 0] 78)).frozen? ⟨wq2.heap.size, 0, none⟩ = false := by simp [go_sem]
             have nn161 : (wq2.alloc (Obj.cells #[.int .i64 0, .int .u64 0] 78)).cell? ⟨wq2.heap.size, 1, none⟩ = some (.int .u64 0) := by simp [go_sem]
             have nn16f1 : (wq2.alloc (Obj.cells #[.int .i64 0, .int .u64 0] 78)).frozen? ⟨wq2.heap.size, 1, none⟩ = false := by simp [go_sem]
             obtain ⟨nn16l0, nn16l1, nn16l2, nn16l3⟩ := MD_lt hHeld
             have nn16m17 : wq1.heap.size < wq2.heap.size := World.block_lt_of_cell? _ ⟨wq1.heap.size, 0, none⟩ nn170
             replace nn17f0 := keepAF (Obj.cells #[.int .i64 0, .int .u64 0] 78) nn170 nn17f0
             replace nn170 := keepA (Obj.cells #[.int .i64 0, .int .u64 0] 78) nn170
             replace nn17f1 := keepAF (Obj.cells #[.int .i64 0, .int .u64 0] 78) nn171 nn17f1
             replace nn171 := keepA (Obj.cells #[.int .i64 0, .int .u64 0] 78) nn171
             have hOld := hHeld; clear hHeld; go_simp; refine hK.out _ _ ?_ (fun hHeld => ?_)
             · exact MD_alloc _ hOld
             clear hK K hOld
             (try dsimp only at hHeld)
             generalize (wq2.alloc (Obj.cells #[.int .i64 0, .int .u64 0] 78)) = wq3 at *
             have hzq3 : w.heap.size ≤ wq3.heap.size := hBq3.size
             (try simp only [Act.put, List.setIfInBounds_toArray, List.set_cons_zero, List.set_cons_succ])
             refine wpAnyH_ready (rs := [11]) (by kernel_rfl) (by simp) ?_
             refine AllReadyH.cons (o := ⟨some 47, _, _, _, _, none⟩) rfl (fun K hK => ?_) (AllReadyH.nil)
             go_simp
             (go_at_call 86; refine useF w ((by first | exact hwx.out _ | exact hwy.out _)) (by go_grown) ?_; rintro e wq4 rfl hBq4 hkq4 hfq4 hsq4)
             have hOld := hHeld; clear hHeld; refine hK.out _ _ ?_ (fun hHeld => ?_)
             · exact MD_keep hOld hkq4 hfq4
             clear hK K hOld
             replace nn17f0 := hfq4 _ _ _ nn170 nn17f0
             replace nn170 := hkq4 _ _ _ nn170
             replace nn17f1 := hfq4 _ _ _ nn171 nn17f1
             replace nn171 := hkq4 _ _ _ nn171
             replace nn16f0 := hfq4 _ _ _ nn160 nn16f0
             replace nn160 := hkq4 _ _ _ nn160
             replace nn16f1 := hfq4 _ _ _ nn161 nn16f1
             replace nn161 := hkq4 _ _ _ nn161
             clear hkq4 hfq4 hsq4
             have hzq4 : w.heap.size ≤ wq4.heap.size := hBq4.size
             (try simp only [Act.put, List.setIfInBounds_toArray, List.set_cons_zero, List.set_cons_succ])
             refine wpAnyH_ready (rs := [12]) (by kernel_rfl) (by simp) ?_
             refine AllReadyH.cons (o := ⟨some 48, _, _, _, _, none⟩) rfl (fun K hK => ?_) (AllReadyH.nil)
             go_simp
             (go_at_call 81; refine useF w (hov.out _) (by go_grown) ?_; rintro e wq5 rfl hBq5 hkq5 hfq5 hsq5)
             have hOld := hHeld; clear hHeld; refine hK.out _ _ ?_ (fun hHeld => ?_)
             · exact MD_keep hOld hkq5 hfq5
             clear hK K hOld
             replace nn17f0 := hfq5 _ _ _ nn170 nn17f0
             replace nn170 := hkq5 _ _ _ nn170
             replace nn17f1 := hfq5 _ _ _ nn171 nn17f1
             replace nn171 := hkq5 _ _ _ nn171
             replace nn16f0 := hfq5 _ _ _ nn160 nn16f0
             replace nn160 := hkq5 _ _ _ nn160
             replace nn16f1 := hfq5 _ _ _ nn161 nn16f1
             replace nn161 := hkq5 _ _ _ nn161
             clear hkq5 hfq5 hsq5
             have hzq5 : w.heap.size ≤ wq5.heap.size := hBq5.size
             (try simp only [Act.put, List.setIfInBounds_toArray, List.set_cons_zero, List.set_cons_succ])
             (refine wpAnyH_take (i := 13) (oi := ⟨some 35, _, _, _, _, none⟩) (v := ?_) rfl (by kernel_rfl) (by kernel_rfl) (by kernel_rfl) (fun _ _ _ h => h) (Or.inl ⟨by rfl, ?_⟩) hHeld ?_; rotate_left; (· (intro w9 hSw; (try dsimp only at hSw); (unfold MD at hSw); go_simp; (try with_reducible rfl))))
             (try simp only [Act.put, List.setIfInBounds_toArray, List.set_cons_zero, List.set_cons_succ])
             (refine wpAnyH_take (i := 14) (oi := ⟨some 49, _, _, _, _, none⟩) (v := ?_) rfl (by kernel_rfl) (by kernel_rfl) (by kernel_rfl) (fun _ _ _ h => h) (Or.inl ⟨by rfl, ?_⟩) hHeld ?_; rotate_left; (· (intro w9 hSw; (try dsimp only at hSw); (unfold MD at hSw); go_simp; (try with_reducible rfl))))
             (try simp only [Act.put, List.setIfInBounds_toArray, List.set_cons_zero, List.set_cons_succ])
             (refine wpAnyH_take (i := 15) (oi := ⟨some 50, _, _, _, _, none⟩) (v := ?_) rfl (by kernel_rfl) (by kernel_rfl) (by kernel_rfl) (fun _ _ _ h => h) (Or.inl ⟨by rfl, ?_⟩) hHeld ?_; rotate_left; (· (intro w9 hSw; (try dsimp only at hSw); (unfold MD at hSw); go_simp; (try with_reducible rfl))))
             (try simp only [Act.put, List.setIfInBounds_toArray, List.set_cons_zero, List.set_cons_succ])
             refine wpAnyH_ready (rs := [18]) (by kernel_rfl) (by simp) ?_
             refine AllReadyH.cons (o := ⟨none, _, _, _, _, none⟩) rfl (fun K hK => ?_) (AllReadyH.nil)
             (try dsimp only at hHeld)
             have hBq6 : Below w.heap.size w ((wq5.setCell ⟨wq2.heap.size, 0, none⟩ (.int .i64 (hiW (dK al ah bl bh k)))).setCell ⟨wq2.heap.size, 1, none⟩ (.int .u64 (loW (dK al ah bl bh k)))) := by go_grown
             have hOld := hHeld; clear hHeld; go_simp; refine hK.out _ _ ?_ (fun hHeld => ?_)
             · exact MD_store hOld nn16l0 nn16l1 nn16l2 nn16l3
             clear hK K hOld
             (try dsimp only at hHeld)
             replace nn17f0 := two_fz (b := wq2.heap.size) (x := .int .i64 (hiW (dK al ah bl bh k))) (y := .int .u64 (loW (dK al ah bl bh k))) nn17f0
             replace nn170 := two_other (b := wq2.heap.size) (x := .int .i64 (hiW (dK al ah bl bh k))) (y := .int .u64 (loW (dK al ah bl bh k))) nn170 (by omega)
             replace nn17f1 := two_fz (b := wq2.heap.size) (x := .int .i64 (hiW (dK al ah bl bh k))) (y := .int .u64 (loW (dK al ah bl bh k))) nn17f1
             replace nn171 := two_other (b := wq2.heap.size) (x := .int .i64 (hiW (dK al ah bl bh k))) (y := .int .u64 (loW (dK al ah bl bh k))) nn171 (by omega)
             replace nn16f0 := two_fz (b := wq2.heap.size) (x := .int .i64 (hiW (dK al ah bl bh k))) (y := .int .u64 (loW (dK al ah bl bh k))) nn16f0
             replace nn160 := two_0 (x := .int .i64 (hiW (dK al ah bl bh k))) (y := .int .u64 (loW (dK al ah bl bh k))) nn160
             replace nn16f1 := two_fz (b := wq2.heap.size) (x := .int .i64 (hiW (dK al ah bl bh k))) (y := .int .u64 (loW (dK al ah bl bh k))) nn16f1
             replace nn161 := two_1 (x := .int .i64 (hiW (dK al ah bl bh k))) (y := .int .u64 (loW (dK al ah bl bh k))) nn161
             generalize ((wq5.setCell ⟨wq2.heap.size, 0, none⟩ (.int .i64 (hiW (dK al ah bl bh k)))).setCell ⟨wq2.heap.size, 1, none⟩ (.int .u64 (loW (dK al ah bl bh k)))) = wq6 at *
             have hzq6 : w.heap.size ≤ wq6.heap.size := hBq6.size
             (try simp only [Act.put, List.setIfInBounds_toArray, List.set_cons_zero, List.set_cons_succ])
             refine wpAnyH_ready (rs := [19]) (by kernel_rfl) (by simp) ?_
             refine AllReadyH.cons (o := ⟨none, _, _, _, _, none⟩) rfl (fun K hK => ?_) (AllReadyH.nil)
             (try dsimp only at hHeld)
             have hBq7 : Below w.heap.size w ((wq6.setCell ⟨wq1.heap.size, 0, none⟩ (.int .i64 (hiW (uK al ah bl bh k)))).setCell ⟨wq1.heap.size, 1, none⟩ (.int .u64 (loW (uK al ah bl bh k)))) := by go_grown
             have hOld := hHeld; clear hHeld; go_simp; refine hK.out _ _ ?_ (fun hHeld => ?_)
             · exact MD_store hOld nn17l0 nn17l1 nn17l2 nn17l3
             clear hK K hOld
             (try dsimp only at hHeld)
             replace nn17f0 := two_fz (b := wq1.heap.size) (x := .int .i64 (hiW (uK al ah bl bh k))) (y := .int .u64 (loW (uK al ah bl bh k))) nn17f0
             replace nn170 := two_0 (x := .int .i64 (hiW (uK al ah bl bh k))) (y := .int .u64 (loW (uK al ah bl bh k))) nn170
             replace nn17f1 := two_fz (b := wq1.heap.size) (x := .int .i64 (hiW (uK al ah bl bh k))) (y := .int .u64 (loW (uK al ah bl bh k))) nn17f1
             replace nn171 := two_1 (x := .int .i64 (hiW (uK al ah bl bh k))) (y := .int .u64 (loW (uK al ah bl bh k))) nn171
             replace nn16f0 := two_fz (b := wq1.heap.size) (x := .int .i64 (hiW (uK al ah bl bh k))) (y := .int .u64 (loW (uK al ah bl bh k))) nn16f0
             replace nn160 := two_other (b := wq1.heap.size) (x := .int .i64 (hiW (uK al ah bl bh k))) (y := .int .u64 (loW (uK al ah bl bh k))) nn160 (by omega)
             replace nn16f1 := two_fz (b := wq1.heap.size) (x := .int .i64 (hiW (uK al ah bl bh k))) (y := .int .u64 (loW (uK al ah bl bh k))) nn16f1
             replace nn161 := two_other (b := wq1.heap.size) (x := .int .i64 (hiW (uK al ah bl bh k))) (y := .int .u64 (loW (uK al ah bl bh k))) nn161 (by omega)
             generalize ((wq6.setCell ⟨wq1.heap.size, 0, none⟩ (.int .i64 (hiW (uK al ah bl bh k)))).setCell ⟨wq1.heap.size, 1, none⟩ (.int .u64 (loW (uK al ah bl bh k)))) = wq7 at *
             have hzq7 : w.heap.size ≤ wq7.heap.size := hBq7.size
             (try simp only [Act.put, List.setIfInBounds_toArray, List.set_cons_zero, List.set_cons_succ])
             refine wpAnyH_done (by kernel_rfl) ?_ _
             go_wp2_with fail
             go_meet
             obtain ⟨L0, L1, L2, L3, L4, L5, L6, L7, _, _, z0, z1, zf0, zf1, lo0, lo1, lof0, lof1, hi0, hi1, hif0, hif1⟩ := hHeld
             exact ⟨_, _, rfl, rfl, by omega, by omega, ⟨L0, L1, L2, L3, L4, L5, L6, L7, z0, z1, zf0, zf1, lo0, lo1, lof0, lof1, hi0, hi1, hif0, hif1⟩, ⟨nn160, nn161, nn170, nn171⟩, by assumption⟩
          ·
           (try dsimp only at hHeld)
           have hBq1 : Below w.heap.size w (wq0.alloc (Obj.cells #[.int .i64 0, .int .u64 0] 78)) := by go_grown
           have nn160 : (wq0.alloc (Obj.cells #[.int .i64 0, .int .u64 0] 78)).cell? ⟨wq0.heap.size, 0, none⟩ = some (.int .i64 0) := by simp [go_sem]
           have nn16f0 : (wq0.alloc (Obj.cells #[.int .i64 0, .int .u64 0] 78)).frozen? ⟨wq0.heap.size, 0, none⟩ = false := by simp [go_sem]
           have nn161 : (wq0.alloc (Obj.cells #[.int .i64 0, .int .u64 0] 78)).cell? ⟨wq0.heap.size, 1, none⟩ = some (.int .u64 0) := by simp [go_sem]
           have nn16f1 : (wq0.alloc (Obj.cells #[.int .i64 0, .int .u64 0] 78)).frozen? ⟨wq0.heap.size, 1, none⟩ = false := by simp [go_sem]
           obtain ⟨nn16l0, nn16l1, nn16l2, nn16l3⟩ := MD_lt hHeld
           have hOld := hHeld; clear hHeld; go_simp; refine hK.out _ _ ?_ (fun hHeld => ?_)
           · exact MD_alloc _ hOld
           clear hK K hOld
           (try dsimp only at hHeld)
           generalize (wq0.alloc (Obj.cells #[.int .i64 0, .int .u64 0] 78)) = wq1 at *
           have hzq1 : w.heap.size ≤ wq1.heap.size := hBq1.size
           (try simp only [Act.put, List.setIfInBounds_toArray, List.set_cons_zero, List.set_cons_succ])
           refine wpAnyH_ready (rs := [5, 17]) (by kernel_rfl) (by simp) ?_
           refine AllReadyH.cons (o := ⟨some 41, _, _, _, _, none⟩) rfl (fun K hK => ?_) (AllReadyH.cons (o := ⟨some 11, _, _, _, _, none⟩) rfl (fun K hK => ?_) (AllReadyH.nil))
           ·
            go_simp
            (go_at_call 86; refine useF w ((by first | exact hwx.out _ | exact hwy.out _)) (by go_grown) ?_; rintro e wq2 rfl hBq2 hkq2 hfq2 hsq2)
            have hOld := hHeld; clear hHeld; refine hK.out _ _ ?_ (fun hHeld => ?_)
            · exact MD_keep hOld hkq2 hfq2
            clear hK K hOld
            replace nn16f0 := hfq2 _ _ _ nn160 nn16f0
            replace nn160 := hkq2 _ _ _ nn160
            replace nn16f1 := hfq2 _ _ _ nn161 nn16f1
            replace nn161 := hkq2 _ _ _ nn161
            clear hkq2 hfq2 hsq2
            have hzq2 : w.heap.size ≤ wq2.heap.size := hBq2.size
            (try simp only [Act.put, List.setIfInBounds_toArray, List.set_cons_zero, List.set_cons_succ])
            refine wpAnyH_ready (rs := [11, 17]) (by kernel_rfl) (by simp) ?_
            refine AllReadyH.cons (o := ⟨some 47, _, _, _, _, none⟩) rfl (fun K hK => ?_) (AllReadyH.cons (o := ⟨some 11, _, _, _, _, none⟩) rfl (fun K hK => ?_) (AllReadyH.nil))
            ·
             go_simp
             (go_at_call 86; refine useF w ((by first | exact hwx.out _ | exact hwy.out _)) (by go_grown) ?_; rintro e wq3 rfl hBq3 hkq3 hfq3 hsq3)
             have hOld := hHeld; clear hHeld; refine hK.out _ _ ?_ (fun hHeld => ?_)
             · exact MD_keep hOld hkq3 hfq3
             clear hK K hOld
             replace nn16f0 := hfq3 _ _ _ nn160 nn16f0
             replace nn160 := hkq3 _ _ _ nn160
             replace nn16f1 := hfq3 _ _ _ nn161 nn16f1
             replace nn161 := hkq3 _ _ _ nn161
             clear hkq3 hfq3 hsq3
             have hzq3 : w.heap.size ≤ wq3.heap.size := hBq3.size
             (try simp only [Act.put, List.setIfInBounds_toArray, List.set_cons_zero, List.set_cons_succ])
             refine wpAnyH_ready (rs := [12, 17]) (by kernel_rfl) (by simp) ?_
             refine AllReadyH.cons (o := ⟨some 48, _, _, _, _, none⟩) rfl (fun K hK => ?_) (AllReadyH.cons (o := ⟨some 11, _, _, _, _, none⟩) rfl (fun K hK => ?_) (AllReadyH.nil))
             ·
              go_simp
              (go_at_call 81; refine useF w (hov.out _) (by go_grown) ?_; rintro e wq4 rfl hBq4 hkq4 hfq4 hsq4)
              have hOld := hHeld; clear hHeld; refine hK.out _ _ ?_ (fun hHeld => ?_)
              · exact MD_keep hOld hkq4 hfq4
              clear hK K hOld
              replace nn16f0 := hfq4 _ _ _ nn160 nn16f0
              replace nn160 := hkq4 _ _ _ nn160
              replace nn16f1 := hfq4 _ _ _ nn161 nn16f1
              replace nn161 := hkq4 _ _ _ nn161
              clear hkq4 hfq4 hsq4
              have hzq4 : w.heap.size ≤ wq4.heap.size := hBq4.size
              (try simp only [Act.put, List.setIfInBounds_toArray, List.set_cons_zero, List.set_cons_succ])
              (refine wpAnyH_take (i := 13) (oi := ⟨some 35, _, _, _, _, none⟩) (v := ?_) rfl (by kernel_rfl) (by kernel_rfl) (by kernel_rfl) (fun _ _ _ h => h) (Or.inl ⟨by rfl, ?_⟩) hHeld ?_; rotate_left; (· (intro w9 hSw; (try dsimp only at hSw); (unfold MD at hSw); go_simp; (try with_reducible rfl))))
              (try simp only [Act.put, List.setIfInBounds_toArray, List.set_cons_zero, List.set_cons_succ])
              (refine wpAnyH_take (i := 14) (oi := ⟨some 49, _, _, _, _, none⟩) (v := ?_) rfl (by kernel_rfl) (by kernel_rfl) (by kernel_rfl) (fun _ _ _ h => h) (Or.inl ⟨by rfl, ?_⟩) hHeld ?_; rotate_left; (· (intro w9 hSw; (try dsimp only at hSw); (unfold MD at hSw); go_simp; (try with_reducible rfl))))
              (try simp only [Act.put, List.setIfInBounds_toArray, List.set_cons_zero, List.set_cons_succ])
              (refine wpAnyH_take (i := 15) (oi := ⟨some 50, _, _, _, _, none⟩) (v := ?_) rfl (by kernel_rfl) (by kernel_rfl) (by kernel_rfl) (fun _ _ _ h => h) (Or.inl ⟨by rfl, ?_⟩) hHeld ?_; rotate_left; (· (intro w9 hSw; (try dsimp only at hSw); (unfold MD at hSw); go_simp; (try with_reducible rfl))))
              (try simp only [Act.put, List.setIfInBounds_toArray, List.set_cons_zero, List.set_cons_succ])
              refine wpAnyH_ready (rs := [17]) (by kernel_rfl) (by simp) ?_
              refine AllReadyH.cons (o := ⟨some 11, _, _, _, _, none⟩) rfl (fun K hK => ?_) (AllReadyH.nil)
              (try dsimp only at hHeld)
              have hBq5 : Below w.heap.size w (wq4.alloc (Obj.cells #[.int .i64 0, .int .u64 0] 78)) := by go_grown
              have nn170 : (wq4.alloc (Obj.cells #[.int .i64 0, .int .u64 0] 78)).cell? ⟨wq4.heap.size, 0, none⟩ = some (.int .i64 0) := by simp [go_sem]
              have nn17f0 : (wq4.alloc (Obj.cells #[.int .i64 0, .int .u64 0] 78)).frozen? ⟨wq4.heap.size, 0, none⟩ = false := by simp [go_sem]
              have nn171 : (wq4.alloc (Obj.cells #[.int .i64 0, .int .u64 0] 78)).cell? ⟨wq4.heap.size, 1, none⟩ = some (.int .u64 0) := by simp [go_sem]
              have nn17f1 : (wq4.alloc (Obj.cells #[.int .i64 0, .int .u64 0] 78)).frozen? ⟨wq4.heap.size, 1, none⟩ = false := by simp [go_sem]
              obtain ⟨nn17l0, nn17l1, nn17l2, nn17l3⟩ := MD_lt hHeld
              have nn17m16 : wq0.heap.size < wq4.heap.size := World.block_lt_of_cell? _ ⟨wq0.heap.size, 0, none⟩ nn160
              replace nn16f0 := keepAF (Obj.cells #[.int .i64 0, .int .u64 0] 78) nn160 nn16f0
              replace nn160 := keepA (Obj.cells #[.int .i64 0, .int .u64 0] 78) nn160
              replace nn16f1 := keepAF (Obj.cells #[.int .i64 0, .int .u64 0] 78) nn161 nn16f1
              replace nn161 := keepA (Obj.cells #[.int .i64 0, .int .u64 0] 78) nn161
              have hOld := hHeld; clear hHeld; go_simp; refine hK.out _ _ ?_ (fun hHeld => ?_)
              · exact MD_alloc _ hOld
              clear hK K hOld
              (try dsimp only at hHeld)
              generalize (wq4.alloc (Obj.cells #[.int .i64 0, .int .u64 0] 78)) = wq5 at *
              have hzq5 : w.heap.size ≤ wq5.heap.size := hBq5.size
              (try simp only [Act.put, List.setIfInBounds_toArray, List.set_cons_zero, List.set_cons_succ])
              refine wpAnyH_ready (rs := [18]) (by kernel_rfl) (by simp) ?_
              refine AllReadyH.cons (o := ⟨none, _, _, _, _, none⟩) rfl (fun K hK => ?_) (AllReadyH.nil)
              (try dsimp only at hHeld)
              have hBq6 : Below w.heap.size w ((wq5.setCell ⟨wq0.heap.size, 0, none⟩ (.int .i64 (hiW (dK al ah bl bh k)))).setCell ⟨wq0.heap.size, 1, none⟩ (.int .u64 (loW (dK al ah bl bh k)))) := by go_grown
              have hOld := hHeld; clear hHeld; go_simp; refine hK.out _ _ ?_ (fun hHeld => ?_)
              · exact MD_store hOld nn16l0 nn16l1 nn16l2 nn16l3
              clear hK K hOld
              (try dsimp only at hHeld)
              replace nn16f0 := two_fz (b := wq0.heap.size) (x := .int .i64 (hiW (dK al ah bl bh k))) (y := .int .u64 (loW (dK al ah bl bh k))) nn16f0
              replace nn160 := two_0 (x := .int .i64 (hiW (dK al ah bl bh k))) (y := .int .u64 (loW (dK al ah bl bh k))) nn160
              replace nn16f1 := two_fz (b := wq0.heap.size) (x := .int .i64 (hiW (dK al ah bl bh k))) (y := .int .u64 (loW (dK al ah bl bh k))) nn16f1
              replace nn161 := two_1 (x := .int .i64 (hiW (dK al ah bl bh k))) (y := .int .u64 (loW (dK al ah bl bh k))) nn161
              replace nn17f0 := two_fz (b := wq0.heap.size) (x := .int .i64 (hiW (dK al ah bl bh k))) (y := .int .u64 (loW (dK al ah bl bh k))) nn17f0
              replace nn170 := two_other (b := wq0.heap.size) (x := .int .i64 (hiW (dK al ah bl bh k))) (y := .int .u64 (loW (dK al ah bl bh k))) nn170 (by omega)
              replace nn17f1 := two_fz (b := wq0.heap.size) (x := .int .i64 (hiW (dK al ah bl bh k))) (y := .int .u64 (loW (dK al ah bl bh k))) nn17f1
              replace nn171 := two_other (b := wq0.heap.size) (x := .int .i64 (hiW (dK al ah bl bh k))) (y := .int .u64 (loW (dK al ah bl bh k))) nn171 (by omega)
              generalize ((wq5.setCell ⟨wq0.heap.size, 0, none⟩ (.int .i64 (hiW (dK al ah bl bh k)))).setCell ⟨wq0.heap.size, 1, none⟩ (.int .u64 (loW (dK al ah bl bh k)))) = wq6 at *
              have hzq6 : w.heap.size ≤ wq6.heap.size := hBq6.size
              (try simp only [Act.put, List.setIfInBounds_toArray, List.set_cons_zero, List.set_cons_succ])
              refine wpAnyH_ready (rs := [19]) (by kernel_rfl) (by simp) ?_
              refine AllReadyH.cons (o := ⟨none, _, _, _, _, none⟩) rfl (fun K hK => ?_) (AllReadyH.nil)
              (try dsimp only at hHeld)
              have hBq7 : Below w.heap.size w ((wq6.setCell ⟨wq4.heap.size, 0, none⟩ (.int .i64 (hiW (uK al ah bl bh k)))).setCell ⟨wq4.heap.size, 1, none⟩ (.int .u64 (loW (uK al ah bl bh k)))) := by go_grown
              have hOld := hHeld; clear hHeld; go_simp; refine hK.out _ _ ?_ (fun hHeld => ?_)
              · exact MD_store hOld nn17l0 nn17l1 nn17l2 nn17l3
              clear hK K hOld
              (try dsimp only at hHeld)
              replace nn16f0 := two_fz (b := wq4.heap.size) (x := .int .i64 (hiW (uK al ah bl bh k))) (y := .int .u64 (loW (uK al ah bl bh k))) nn16f0
              replace nn160 := two_other (b := wq4.heap.size) (x := .int .i64 (hiW (uK al ah bl bh k))) (y := .int .u64 (loW (uK al ah bl bh k))) nn160 (by omega)
              replace nn16f1 := two_fz (b := wq4.heap.size) (x := .int .i64 (hiW (uK al ah bl bh k))) (y := .int .u64 (loW (uK al ah bl bh k))) nn16f1
              replace nn161 := two_other (b := wq4.heap.size) (x := .int .i64 (hiW (uK al ah bl bh k))) (y := .int .u64 (loW (uK al ah bl bh k))) nn161 (by omega)
              replace nn17f0 := two_fz (b := wq4.heap.size) (x := .int .i64 (hiW (uK al ah bl bh k))) (y := .int .u64 (loW (uK al ah bl bh k))) nn17f0
              replace nn170 := two_0 (x := .int .i64 (hiW (uK al ah bl bh k))) (y := .int .u64 (loW (uK al ah bl bh k))) nn170
              replace nn17f1 := two_fz (b := wq4.heap.size) (x := .int .i64 (hiW (uK al ah bl bh k))) (y := .int .u64 (loW (uK al ah bl bh k))) nn17f1
              replace nn171 := two_1 (x := .int .i64 (hiW (uK al ah bl bh k))) (y := .int .u64 (loW (uK al ah bl bh k))) nn171
              generalize ((wq6.setCell ⟨wq4.heap.size, 0, none⟩ (.int .i64 (hiW (uK al ah bl bh k)))).setCell ⟨wq4.heap.size, 1, none⟩ (.int .u64 (loW (uK al ah bl bh k)))) = wq7 at *
              have hzq7 : w.heap.size ≤ wq7.heap.size := hBq7.size
              (try simp only [Act.put, List.setIfInBounds_toArray, List.set_cons_zero, List.set_cons_succ])
              refine wpAnyH_done (by kernel_rfl) ?_ _
              go_wp2_with fail
              go_meet
              obtain ⟨L0, L1, L2, L3, L4, L5, L6, L7, _, _, z0, z1, zf0, zf1, lo0, lo1, lof0, lof1, hi0, hi1, hif0, hif1⟩ := hHeld
              exact ⟨_, _, rfl, rfl, by omega, by omega, ⟨L0, L1, L2, L3, L4, L5, L6, L7, z0, z1, zf0, zf1, lo0, lo1, lof0, lof1, hi0, hi1, hif0, hif1⟩, ⟨nn160, nn161, nn170, nn171⟩, by assumption⟩
             ·
              (try dsimp only at hHeld)
              have hBq4 : Below w.heap.size w (wq3.alloc (Obj.cells #[.int .i64 0, .int .u64 0] 78)) := by go_grown
              have nn170 : (wq3.alloc (Obj.cells #[.int .i64 0, .int .u64 0] 78)).cell? ⟨wq3.heap.size, 0, none⟩ = some (.int .i64 0) := by simp [go_sem]
              have nn17f0 : (wq3.alloc (Obj.cells #[.int .i64 0, .int .u64 0] 78)).frozen? ⟨wq3.heap.size, 0, none⟩ = false := by simp [go_sem]
              have nn171 : (wq3.alloc (Obj.cells #[.int .i64 0, .int .u64 0] 78)).cell? ⟨wq3.heap.size, 1, none⟩ = some (.int .u64 0) := by simp [go_sem]
              have nn17f1 : (wq3.alloc (Obj.cells #[.int .i64 0, .int .u64 0] 78)).frozen? ⟨wq3.heap.size, 1, none⟩ = false := by simp [go_sem]
              obtain ⟨nn17l0, nn17l1, nn17l2, nn17l3⟩ := MD_lt hHeld
              have nn17m16 : wq0.heap.size < wq3.heap.size := World.block_lt_of_cell? _ ⟨wq0.heap.size, 0, none⟩ nn160
              replace nn16f0 := keepAF (Obj.cells #[.int .i64 0, .int .u64 0] 78) nn160 nn16f0
              replace nn160 := keepA (Obj.cells #[.int .i64 0, .int .u64 0] 78) nn160
              replace nn16f1 := keepAF (Obj.cells #[.int .i64 0, .int .u64 0] 78) nn161 nn16f1
              replace nn161 := keepA (Obj.cells #[.int .i64 0, .int .u64 0] 78) nn161
              have hOld := hHeld; clear hHeld; go_simp; refine hK.out _ _ ?_ (fun hHeld => ?_)
              · exact MD_alloc _ hOld
              clear hK K hOld
              (try dsimp only at hHeld)
              generalize (wq3.alloc (Obj.cells #[.int .i64 0, .int .u64 0] 78)) = wq4 at *
              have hzq4 : w.heap.size ≤ wq4.heap.size := hBq4.size
              (try simp only [Act.put, List.setIfInBounds_toArray, List.set_cons_zero, List.set_cons_succ])
              refine wpAnyH_ready (rs := [12]) (by kernel_rfl) (by simp) ?_
              refine AllReadyH.cons (o := ⟨some 48, _, _, _, _, none⟩) rfl (fun K hK => ?_) (AllReadyH.nil)
              go_simp
              (go_at_call 81; refine useF w (hov.out _) (by go_grown) ?_; rintro e wq5 rfl hBq5 hkq5 hfq5 hsq5)
              have hOld := hHeld; clear hHeld; refine hK.out _ _ ?_ (fun hHeld => ?_)
              · exact MD_keep hOld hkq5 hfq5
              clear hK K hOld
              replace nn16f0 := hfq5 _ _ _ nn160 nn16f0
              replace nn160 := hkq5 _ _ _ nn160
              replace nn16f1 := hfq5 _ _ _ nn161 nn16f1
              replace nn161 := hkq5 _ _ _ nn161
              replace nn17f0 := hfq5 _ _ _ nn170 nn17f0
              replace nn170 := hkq5 _ _ _ nn170
              replace nn17f1 := hfq5 _ _ _ nn171 nn17f1
              replace nn171 := hkq5 _ _ _ nn171
              clear hkq5 hfq5 hsq5
              have hzq5 : w.heap.size ≤ wq5.heap.size := hBq5.size
              (try simp only [Act.put, List.setIfInBounds_toArray, List.set_cons_zero, List.set_cons_succ])
              (refine wpAnyH_take (i := 13) (oi := ⟨some 35, _, _, _, _, none⟩) (v := ?_) rfl (by kernel_rfl) (by kernel_rfl) (by kernel_rfl) (fun _ _ _ h => h) (Or.inl ⟨by rfl, ?_⟩) hHeld ?_; rotate_left; (· (intro w9 hSw; (try dsimp only at hSw); (unfold MD at hSw); go_simp; (try with_reducible rfl))))
              (try simp only [Act.put, List.setIfInBounds_toArray, List.set_cons_zero, List.set_cons_succ])
              (refine wpAnyH_take (i := 14) (oi := ⟨some 49, _, _, _, _, none⟩) (v := ?_) rfl (by kernel_rfl) (by kernel_rfl) (by kernel_rfl) (fun _ _ _ h => h) (Or.inl ⟨by rfl, ?_⟩) hHeld ?_; rotate_left; (· (intro w9 hSw; (try dsimp only at hSw); (unfold MD at hSw); go_simp; (try with_reducible rfl))))
              (try simp only [Act.put, List.setIfInBounds_toArray, List.set_cons_zero, List.set_cons_succ])
              (refine wpAnyH_take (i := 15) (oi := ⟨some 50, _, _, _, _, none⟩) (v := ?_) rfl (by kernel_rfl) (by kernel_rfl) (by kernel_rfl) (fun _ _ _ h => h) (Or.inl ⟨by rfl, ?_⟩) hHeld ?_; rotate_left; (· (intro w9 hSw; (try dsimp only at hSw); (unfold MD at hSw); go_simp; (try with_reducible rfl))))
              (try simp only [Act.put, List.setIfInBounds_toArray, List.set_cons_zero, List.set_cons_succ])
              refine wpAnyH_ready (rs := [18]) (by kernel_rfl) (by simp) ?_
              refine AllReadyH.cons (o := ⟨none, _, _, _, _, none⟩) rfl (fun K hK => ?_) (AllReadyH.nil)
              (try dsimp only at hHeld)
              have hBq6 : Below w.heap.size w ((wq5.setCell ⟨wq0.heap.size, 0, none⟩ (.int .i64 (hiW (dK al ah bl bh k)))).setCell ⟨wq0.heap.size, 1, none⟩ (.int .u64 (loW (dK al ah bl bh k)))) := by go_grown
              have hOld := hHeld; clear hHeld; go_simp; refine hK.out _ _ ?_ (fun hHeld => ?_)
              · exact MD_store hOld nn16l0 nn16l1 nn16l2 nn16l3
              clear hK K hOld
              (try dsimp only at hHeld)
              replace nn16f0 := two_fz (b := wq0.heap.size) (x := .int .i64 (hiW (dK al ah bl bh k))) (y := .int .u64 (loW (dK al ah bl bh k))) nn16f0
              replace nn160 := two_0 (x := .int .i64 (hiW (dK al ah bl bh k))) (y := .int .u64 (loW (dK al ah bl bh k))) nn160
              replace nn16f1 := two_fz (b := wq0.heap.size) (x := .int .i64 (hiW (dK al ah bl bh k))) (y := .int .u64 (loW (dK al ah bl bh k))) nn16f1
              replace nn161 := two_1 (x := .int .i64 (hiW (dK al ah bl bh k))) (y := .int .u64 (loW (dK al ah bl bh k))) nn161
              replace nn17f0 := two_fz (b := wq0.heap.size) (x := .int .i64 (hiW (dK al ah bl bh k))) (y := .int .u64 (loW (dK al ah bl bh k))) nn17f0
              replace nn170 := two_other (b := wq0.heap.size) (x := .int .i64 (hiW (dK al ah bl bh k))) (y := .int .u64 (loW (dK al ah bl bh k))) nn170 (by omega)
              replace nn17f1 := two_fz (b := wq0.heap.size) (x := .int .i64 (hiW (dK al ah bl bh k))) (y := .int .u64 (loW (dK al ah bl bh k))) nn17f1
              replace nn171 := two_other (b := wq0.heap.size) (x := .int .i64 (hiW (dK al ah bl bh k))) (y := .int .u64 (loW (dK al ah bl bh k))) nn171 (by omega)
              generalize ((wq5.setCell ⟨wq0.heap.size, 0, none⟩ (.int .i64 (hiW (dK al ah bl bh k)))).setCell ⟨wq0.heap.size, 1, none⟩ (.int .u64 (loW (dK al ah bl bh k)))) = wq6 at *
              have hzq6 : w.heap.size ≤ wq6.heap.size := hBq6.size
              (try simp only [Act.put, List.setIfInBounds_toArray, List.set_cons_zero, List.set_cons_succ])
              refine wpAnyH_ready (rs := [19]) (by kernel_rfl) (by simp) ?_
              refine AllReadyH.cons (o := ⟨none, _, _, _, _, none⟩) rfl (fun K hK => ?_) (AllReadyH.nil)
              (try dsimp only at hHeld)
              have hBq7 : Below w.heap.size w ((wq6.setCell ⟨wq3.heap.size, 0, none⟩ (.int .i64 (hiW (uK al ah bl bh k)))).setCell ⟨wq3.heap.size, 1, none⟩ (.int .u64 (loW (uK al ah bl bh k)))) := by go_grown
              have hOld := hHeld; clear hHeld; go_simp; refine hK.out _ _ ?_ (fun hHeld => ?_)
              · exact MD_store hOld nn17l0 nn17l1 nn17l2 nn17l3
              clear hK K hOld
              (try dsimp only at hHeld)
              replace nn16f0 := two_fz (b := wq3.heap.size) (x := .int .i64 (hiW (uK al ah bl bh k))) (y := .int .u64 (loW (uK al ah bl bh k))) nn16f0
              replace nn160 := two_other (b := wq3.heap.size) (x := .int .i64 (hiW (uK al ah bl bh k))) (y := .int .u64 (loW (uK al ah bl bh k))) nn160 (by omega)
              replace nn16f1 := two_fz (b := wq3.heap.size) (x := .int .i64 (hiW (uK al ah bl bh k))) (y := .int .u64 (loW (uK al ah bl bh k))) nn16f1
              replace nn161 := two_other (b := wq3.heap.size) (x := .int .i64 (hiW (uK al ah bl bh k))) (y := .int .u64 (loW (uK al ah bl bh k))) nn161 (by omega)
              replace nn17f0 := two_fz (b := wq3.heap.size) (x := .int .i64 (hiW (uK al ah bl bh k))) (y := .int .u64 (loW (uK al ah bl bh k))) nn17f0
              replace nn170 := two_0 (x := .int .i64 (hiW (uK al ah bl bh k))) (y := .int .u64 (loW (uK al ah bl bh k))) nn170
              replace nn17f1 := two_fz (b := wq3.heap.size) (x := .int .i64 (hiW (uK al ah bl bh k))) (y := .int .u64 (loW (uK al ah bl bh k))) nn17f1
              replace nn171 := two_1 (x := .int .i64 (hiW (uK al ah bl bh k))) (y := .int .u64 (loW (uK al ah bl bh k))) nn171
              generalize ((wq6.setCell ⟨wq3.heap.size, 0, none⟩ (.int .i64 (hiW (uK al ah bl bh k)))).setCell ⟨wq3.heap.size, 1, none⟩ (.int .u64 (loW (uK al ah bl bh k)))) = wq7 at *
              have hzq7 : w.heap.size ≤ wq7.heap.size := hBq7.size
              (try simp only [Act.put, List.setIfInBounds_toArray, List.set_cons_zero, List.set_cons_succ])
              refine wpAnyH_done (by kernel_rfl) ?_ _
              go_wp2_with fail
              go_meet
              obtain ⟨L0, L1, L2, L3, L4, L5, L6, L7, _, _, z0, z1, zf0, zf1, lo0, lo1, lof0, lof1, hi0, hi1, hif0, hif1⟩ := hHeld
              exact ⟨_, _, rfl, rfl, by omega, by omega, ⟨L0, L1, L2, L3, L4, L5, L6, L7, z0, z1, zf0, zf1, lo0, lo1, lof0, lof1, hi0, hi1, hif0, hif1⟩, ⟨nn160, nn161, nn170, nn171⟩, by assumption⟩
            ·
             (try dsimp only at hHeld)
             have hBq3 : Below w.heap.size w (wq2.alloc (Obj.cells #[.int .i64 0, .int .u64 0] 78)) := by go_grown
             have nn170 : (wq2.alloc (Obj.cells #[.int .i64 0, .int .u64 0] 78)).cell? ⟨wq2.heap.size, 0, none⟩ = some (.int .i64 0) := by simp [go_sem]
             have nn17f0 : (wq2.alloc (Obj.cells #[.int .i64 0, .int .u64 0] 78)).frozen? ⟨wq2.heap.size, 0, none⟩ = false := by simp [go_sem]
             have nn171 : (wq2.alloc (Obj.cells #[.int .i64 0, .int .u64 0] 78)).cell? ⟨wq2.heap.size, 1, none⟩ = some (.int .u64 0) := by simp [go_sem]
             have nn17f1 : (wq2.alloc (Obj.cells #[.int .i64 0, .int .u64 0] 78)).frozen? ⟨wq2.heap.size, 1, none⟩ = false := by simp [go_sem]
             obtain ⟨nn17l0, nn17l1, nn17l2, nn17l3⟩ := MD_lt hHeld
             have nn17m16 : wq0.heap.size < wq2.heap.size := World.block_lt_of_cell? _ ⟨wq0.heap.size, 0, none⟩ nn160
             replace nn16f0 := keepAF (Obj.cells #[.int .i64 0, .int .u64 0] 78) nn160 nn16f0
             replace nn160 := keepA (Obj.cells #[.int .i64 0, .int .u64 0] 78) nn160
             replace nn16f1 := keepAF (Obj.cells #[.int .i64 0, .int .u64 0] 78) nn161 nn16f1
             replace nn161 := keepA (Obj.cells #[.int .i64 0, .int .u64 0] 78) nn161
             have hOld := hHeld; clear hHeld; go_simp; refine hK.out _ _ ?_ (fun hHeld => ?_)
             · exact MD_alloc _ hOld
             clear hK K hOld
             (try dsimp only at hHeld)
             generalize (wq2.alloc (Obj.cells #[.int .i64 0, .int .u64 0] 78)) = wq3 at *
             have hzq3 : w.heap.size ≤ wq3.heap.size := hBq3.size
             (try simp only [Act.put, List.setIfInBounds_toArray, List.set_cons_zero, List.set_cons_succ])
             refine wpAnyH_ready (rs := [11]) (by kernel_rfl) (by simp) ?_
             refine AllReadyH.cons (o := ⟨some 47, _, _, _, _, none⟩) rfl (fun K hK => ?_) (AllReadyH.nil)
             go_simp
             (go_at_call 86; refine useF w ((by first | exact hwx.out _ | exact hwy.out _)) (by go_grown) ?_; rintro e wq4 rfl hBq4 hkq4 hfq4 hsq4)
             have hOld := hHeld; clear hHeld; refine hK.out _ _ ?_ (fun hHeld => ?_)
             · exact MD_keep hOld hkq4 hfq4
             clear hK K hOld
             replace nn16f0 := hfq4 _ _ _ nn160 nn16f0
             replace nn160 := hkq4 _ _ _ nn160
             replace nn16f1 := hfq4 _ _ _ nn161 nn16f1
             replace nn161 := hkq4 _ _ _ nn161
             replace nn17f0 := hfq4 _ _ _ nn170 nn17f0
             replace nn170 := hkq4 _ _ _ nn170
             replace nn17f1 := hfq4 _ _ _ nn171 nn17f1
             replace nn171 := hkq4 _ _ _ nn171
             clear hkq4 hfq4 hsq4
             have hzq4 : w.heap.size ≤ wq4.heap.size := hBq4.size
             (try simp only [Act.put, List.setIfInBounds_toArray, List.set_cons_zero, List.set_cons_succ])
             refine wpAnyH_ready (rs := [12]) (by kernel_rfl) (by simp) ?_
             refine AllReadyH.cons (o := ⟨some 48, _, _, _, _, none⟩) rfl (fun K hK => ?_) (AllReadyH.nil)
             go_simp
             (go_at_call 81; refine useF w (hov.out _) (by go_grown) ?_; rintro e wq5 rfl hBq5 hkq5 hfq5 hsq5)
             have hOld := hHeld; clear hHeld; refine hK.out _ _ ?_ (fun hHeld => ?_)
             · exact MD_keep hOld hkq5 hfq5
             clear hK K hOld
             replace nn16f0 := hfq5 _ _ _ nn160 nn16f0
             replace nn160 := hkq5 _ _ _ nn160
             replace nn16f1 := hfq5 _ _ _ nn161 nn16f1
             replace nn161 := hkq5 _ _ _ nn161
             replace nn17f0 := hfq5 _ _ _ nn170 nn17f0
             replace nn170 := hkq5 _ _ _ nn170
             replace nn17f1 := hfq5 _ _ _ nn171 nn17f1
             replace nn171 := hkq5 _ _ _ nn171
             clear hkq5 hfq5 hsq5
             have hzq5 : w.heap.size ≤ wq5.heap.size := hBq5.size
             (try simp only [Act.put, List.setIfInBounds_toArray, List.set_cons_zero, List.set_cons_succ])
             (refine wpAnyH_take (i := 13) (oi := ⟨some 35, _, _, _, _, none⟩) (v := ?_) rfl (by kernel_rfl) (by kernel_rfl) (by kernel_rfl) (fun _ _ _ h => h) (Or.inl ⟨by rfl, ?_⟩) hHeld ?_; rotate_left; (· (intro w9 hSw; (try dsimp only at hSw); (unfold MD at hSw); go_simp; (try with_reducible rfl))))
             (try simp only [Act.put, List.setIfInBounds_toArray, List.set_cons_zero, List.set_cons_succ])
             (refine wpAnyH_take (i := 14) (oi := ⟨some 49, _, _, _, _, none⟩) (v := ?_) rfl (by kernel_rfl) (by kernel_rfl) (by kernel_rfl) (fun _ _ _ h => h) (Or.inl ⟨by rfl, ?_⟩) hHeld ?_; rotate_left; (· (intro w9 hSw; (try dsimp only at hSw); (unfold MD at hSw); go_simp; (try with_reducible rfl))))
             (try simp only [Act.put, List.setIfInBounds_toArray, List.set_cons_zero, List.set_cons_succ])
             (refine wpAnyH_take (i := 15) (oi := ⟨some 50, _, _, _, _, none⟩) (v := ?_) rfl (by kernel_rfl) (by kernel_rfl) (by kernel_rfl) (fun _ _ _ h => h) (Or.inl ⟨by rfl, ?_⟩) hHeld ?_; rotate_left; (· (intro w9 hSw; (try dsimp only at hSw); (unfold MD at hSw); go_simp; (try with_reducible rfl))))
             (try simp only [Act.put, List.setIfInBounds_toArray, List.set_cons_zero, List.set_cons_succ])
             refine wpAnyH_ready (rs := [18]) (by kernel_rfl) (by simp) ?_
             refine AllReadyH.cons (o := ⟨none, _, _, _, _, none⟩) rfl (fun K hK => ?_) (AllReadyH.nil)
             (try dsimp only at hHeld)
             have hBq6 : Below w.heap.size w ((wq5.setCell ⟨wq0.heap.size, 0, none⟩ (.int .i64 (hiW (dK al ah bl bh k)))).setCell ⟨wq0.heap.size, 1, none⟩ (.int .u64 (loW (dK al ah bl bh k)))) := by go_grown
             have hOld := hHeld; clear hHeld; go_simp; refine hK.out _ _ ?_ (fun hHeld => ?_)
             · exact MD_store hOld nn16l0 nn16l1 nn16l2 nn16l3
             clear hK K hOld
             (try dsimp only at hHeld)
             replace nn16f0 := two_fz (b := wq0.heap.size) (x := .int .i64 (hiW (dK al ah bl bh k))) (y := .int .u64 (loW (dK al ah bl bh k))) nn16f0
             replace nn160 := two_0 (x := .int .i64 (hiW (dK al ah bl bh k))) (y := .int .u64 (loW (dK al ah bl bh k))) nn160
             replace nn16f1 := two_fz (b := wq0.heap.size) (x := .int .i64 (hiW (dK al ah bl bh k))) (y := .int .u64 (loW (dK al ah bl bh k))) nn16f1
             replace nn161 := two_1 (x := .int .i64 (hiW (dK al ah bl bh k))) (y := .int .u64 (loW (dK al ah bl bh k))) nn161
             replace nn17f0 := two_fz (b := wq0.heap.size) (x := .int .i64 (hiW (dK al ah bl bh k))) (y := .int .u64 (loW (dK al ah bl bh k))) nn17f0
             replace nn170 := two_other (b := wq0.heap.size) (x := .int .i64 (hiW (dK al ah bl bh k))) (y := .int .u64 (loW (dK al ah bl bh k))) nn170 (by omega)
             replace nn17f1 := two_fz (b := wq0.heap.size) (x := .int .i64 (hiW (dK al ah bl bh k))) (y := .int .u64 (loW (dK al ah bl bh k))) nn17f1
             replace nn171 := two_other (b := wq0.heap.size) (x := .int .i64 (hiW (dK al ah bl bh k))) (y := .int .u64 (loW (dK al ah bl bh k))) nn171 (by omega)
             generalize ((wq5.setCell ⟨wq0.heap.size, 0, none⟩ (.int .i64 (hiW (dK al ah bl bh k)))).setCell ⟨wq0.heap.size, 1, none⟩ (.int .u64 (loW (dK al ah bl bh k)))) = wq6 at *
             have hzq6 : w.heap.size ≤ wq6.heap.size := hBq6.size
             (try simp only [Act.put, List.setIfInBounds_toArray, List.set_cons_zero, List.set_cons_succ])
             refine wpAnyH_ready (rs := [19]) (by kernel_rfl) (by simp) ?_
             refine AllReadyH.cons (o := ⟨none, _, _, _, _, none⟩) rfl (fun K hK => ?_) (AllReadyH.nil)
             (try dsimp only at hHeld)
             have hBq7 : Below w.heap.size w ((wq6.setCell ⟨wq2.heap.size, 0, none⟩ (.int .i64 (hiW (uK al ah bl bh k)))).setCell ⟨wq2.heap.size, 1, none⟩ (.int .u64 (loW (uK al ah bl bh k)))) := by go_grown
             have hOld := hHeld; clear hHeld; go_simp; refine hK.out _ _ ?_ (fun hHeld => ?_)
             · exact MD_store hOld nn17l0 nn17l1 nn17l2 nn17l3
             clear hK K hOld
             (try dsimp only at hHeld)
             replace nn16f0 := two_fz (b := wq2.heap.size) (x := .int .i64 (hiW (uK al ah bl bh k))) (y := .int .u64 (loW (uK al ah bl bh k))) nn16f0
             replace nn160 := two_other (b := wq2.heap.size) (x := .int .i64 (hiW (uK al ah bl bh k))) (y := .int .u64 (loW (uK al ah bl bh k))) nn160 (by omega)
             replace nn16f1 := two_fz (b := wq2.heap.size) (x := .int .i64 (hiW (uK al ah bl bh k))) (y := .int .u64 (loW (uK al ah bl bh k))) nn16f1
             replace nn161 := two_other (b := wq2.heap.size) (x := .int .i64 (hiW (uK al ah bl bh k))) (y := .int .u64 (loW (uK al ah bl bh k))) nn161 (by omega)
             replace nn17f0 := two_fz (b := wq2.heap.size) (x := .int .i64 (hiW (uK al ah bl bh k))) (y := .int .u64 (loW (uK al ah bl bh k))) nn17f0
             replace nn170 := two_0 (x := .int .i64 (hiW (uK al ah bl bh k))) (y := .int .u64 (loW (uK al ah bl bh k))) nn170
             replace nn17f1 := two_fz (b := wq2.heap.size) (x := .int .i64 (hiW (uK al ah bl bh k))) (y := .int .u64 (loW (uK al ah bl bh k))) nn17f1
             replace nn171 := two_1 (x := .int .i64 (hiW (uK al ah bl bh k))) (y := .int .u64 (loW (uK al ah bl bh k))) nn171
             generalize ((wq6.setCell ⟨wq2.heap.size, 0, none⟩ (.int .i64 (hiW (uK al ah bl bh k)))).setCell ⟨wq2.heap.size, 1, none⟩ (.int .u64 (loW (uK al ah bl bh k)))) = wq7 at *
             have hzq7 : w.heap.size ≤ wq7.heap.size := hBq7.size
             (try simp only [Act.put, List.setIfInBounds_toArray, List.set_cons_zero, List.set_cons_succ])
             refine wpAnyH_done (by kernel_rfl) ?_ _
             go_wp2_with fail
             go_meet
             obtain ⟨L0, L1, L2, L3, L4, L5, L6, L7, _, _, z0, z1, zf0, zf1, lo0, lo1, lof0, lof1, hi0, hi1, hif0, hif1⟩ := hHeld
             exact ⟨_, _, rfl, rfl, by omega, by omega, ⟨L0, L1, L2, L3, L4, L5, L6, L7, z0, z1, zf0, zf1, lo0, lo1, lof0, lof1, hi0, hi1, hif0, hif1⟩, ⟨nn160, nn161, nn170, nn171⟩, by assumption⟩
           ·
            (try dsimp only at hHeld)
            have hBq2 : Below w.heap.size w (wq1.alloc (Obj.cells #[.int .i64 0, .int .u64 0] 78)) := by go_grown
            have nn170 : (wq1.alloc (Obj.cells #[.int .i64 0, .int .u64 0] 78)).cell? ⟨wq1.heap.size, 0, none⟩ = some (.int .i64 0) := by simp [go_sem]
            have nn17f0 : (wq1.alloc (Obj.cells #[.int .i64 0, .int .u64 0] 78)).frozen? ⟨wq1.heap.size, 0, none⟩ = false := by simp [go_sem]
            have nn171 : (wq1.alloc (Obj.cells #[.int .i64 0, .int .u64 0] 78)).cell? ⟨wq1.heap.size, 1, none⟩ = some (.int .u64 0) := by simp [go_sem]
            have nn17f1 : (wq1.alloc (Obj.cells #[.int .i64 0, .int .u64 0] 78)).frozen? ⟨wq1.heap.size, 1, none⟩ = false := by simp [go_sem]
            obtain ⟨nn17l0, nn17l1, nn17l2, nn17l3⟩ := MD_lt hHeld
            have nn17m16 : wq0.heap.size < wq1.heap.size := World.block_lt_of_cell? _ ⟨wq0.heap.size, 0, none⟩ nn160
            replace nn16f0 := keepAF (Obj.cells #[.int .i64 0, .int .u64 0] 78) nn160 nn16f0
            replace nn160 := keepA (Obj.cells #[.int .i64 0, .int .u64 0] 78) nn160
            replace nn16f1 := keepAF (Obj.cells #[.int .i64 0, .int .u64 0] 78) nn161 nn16f1
            replace nn161 := keepA (Obj.cells #[.int .i64 0, .int .u64 0] 78) nn161
            have hOld := hHeld; clear hHeld; go_simp; refine hK.out _ _ ?_ (fun hHeld => ?_)
            · exact MD_alloc _ hOld
            clear hK K hOld
            (try dsimp only at hHeld)
            generalize (wq1.alloc (Obj.cells #[.int .i64 0, .int .u64 0] 78)) = wq2 at *
            have hzq2 : w.heap.size ≤ wq2.heap.size := hBq2.size
            (try simp only [Act.put, List.setIfInBounds_toArray, List.set_cons_zero, List.set_cons_succ])
            refine wpAnyH_ready (rs := [5]) (by kernel_rfl) (by simp) ?_
            refine AllReadyH.cons (o := ⟨some 41, _, _, _, _, none⟩) rfl (fun K hK => ?_) (AllReadyH.nil)
            go_simp
            (go_at_call 86; refine useF w ((by first | exact hwx.out _ | exact hwy.out _)) (by go_grown) ?_; rintro e wq3 rfl hBq3 hkq3 hfq3 hsq3)
            have hOld := hHeld; clear hHeld; refine hK.out _ _ ?_ (fun hHeld => ?_)
            · exact MD_keep hOld hkq3 hfq3
            clear hK K hOld
            replace nn16f0 := hfq3 _ _ _ nn160 nn16f0
            replace nn160 := hkq3 _ _ _ nn160
            replace nn16f1 := hfq3 _ _ _ nn161 nn16f1
            replace nn161 := hkq3 _ _ _ nn161
            replace nn17f0 := hfq3 _ _ _ nn170 nn17f0
            replace nn170 := hkq3 _ _ _ nn170
            replace nn17f1 := hfq3 _ _ _ nn171 nn17f1
            replace nn171 := hkq3 _ _ _ nn171
            clear hkq3 hfq3 hsq3
            have hzq3 : w.heap.size ≤ wq3.heap.size := hBq3.size
            (try simp only [Act.put, List.setIfInBounds_toArray, List.set_cons_zero, List.set_cons_succ])
            refine wpAnyH_ready (rs := [11]) (by kernel_rfl) (by simp) ?_
            refine AllReadyH.cons (o := ⟨some 47, _, _, _, _, none⟩) rfl (fun K hK => ?_) (AllReadyH.nil)
            go_simp
            (go_at_call 86; refine useF w ((by first | exact hwx.out _ | exact hwy.out _)) (by go_grown) ?_; rintro e wq4 rfl hBq4 hkq4 hfq4 hsq4)
            have hOld := hHeld; clear hHeld; refine hK.out _ _ ?_ (fun hHeld => ?_)
            · exact MD_keep hOld hkq4 hfq4
            clear hK K hOld
            replace nn16f0 := hfq4 _ _ _ nn160 nn16f0
            replace nn160 := hkq4 _ _ _ nn160
            replace nn16f1 := hfq4 _ _ _ nn161 nn16f1
            replace nn161 := hkq4 _ _ _ nn161
            replace nn17f0 := hfq4 _ _ _ nn170 nn17f0
            replace nn170 := hkq4 _ _ _ nn170
            replace nn17f1 := hfq4 _ _ _ nn171 nn17f1
            replace nn171 := hkq4 _ _ _ nn171
            clear hkq4 hfq4 hsq4
            have hzq4 : w.heap.size ≤ wq4.heap.size := hBq4.size
            (try simp only [Act.put, List.setIfInBounds_toArray, List.set_cons_zero, List.set_cons_succ])
            refine wpAnyH_ready (rs := [12]) (by kernel_rfl) (by simp) ?_
            refine AllReadyH.cons (o := ⟨some 48, _, _, _, _, none⟩) rfl (fun K hK => ?_) (AllReadyH.nil)
            go_simp
            (go_at_call 81; refine useF w (hov.out _) (by go_grown) ?_; rintro e wq5 rfl hBq5 hkq5 hfq5 hsq5)
            have hOld := hHeld; clear hHeld; refine hK.out _ _ ?_ (fun hHeld => ?_)
            · exact MD_keep hOld hkq5 hfq5
            clear hK K hOld
            replace nn16f0 := hfq5 _ _ _ nn160 nn16f0
            replace nn160 := hkq5 _ _ _ nn160
            replace nn16f1 := hfq5 _ _ _ nn161 nn16f1
            replace nn161 := hkq5 _ _ _ nn161
            replace nn17f0 := hfq5 _ _ _ nn170 nn17f0
            replace nn170 := hkq5 _ _ _ nn170
            replace nn17f1 := hfq5 _ _ _ nn171 nn17f1
            replace nn171 := hkq5 _ _ _ nn171
            clear hkq5 hfq5 hsq5
            have hzq5 : w.heap.size ≤ wq5.heap.size := hBq5.size
            (try simp only [Act.put, List.setIfInBounds_toArray, List.set_cons_zero, List.set_cons_succ])
            (refine wpAnyH_take (i := 13) (oi := ⟨some 35, _, _, _, _, none⟩) (v := ?_) rfl (by kernel_rfl) (by kernel_rfl) (by kernel_rfl) (fun _ _ _ h => h) (Or.inl ⟨by rfl, ?_⟩) hHeld ?_; rotate_left; (· (intro w9 hSw; (try dsimp only at hSw); (unfold MD at hSw); go_simp; (try with_reducible rfl))))
            (try simp only [Act.put, List.setIfInBounds_toArray, List.set_cons_zero, List.set_cons_succ])
            (refine wpAnyH_take (i := 14) (oi := ⟨some 49, _, _, _, _, none⟩) (v := ?_) rfl (by kernel_rfl) (by kernel_rfl) (by kernel_rfl) (fun _ _ _ h => h) (Or.inl ⟨by rfl, ?_⟩) hHeld ?_; rotate_left; (· (intro w9 hSw; (try dsimp only at hSw); (unfold MD at hSw); go_simp; (try with_reducible rfl))))
            (try simp only [Act.put, List.setIfInBounds_toArray, List.set_cons_zero, List.set_cons_succ])
            (refine wpAnyH_take (i := 15) (oi := ⟨some 50, _, _, _, _, none⟩) (v := ?_) rfl (by kernel_rfl) (by kernel_rfl) (by kernel_rfl) (fun _ _ _ h => h) (Or.inl ⟨by rfl, ?_⟩) hHeld ?_; rotate_left; (· (intro w9 hSw; (try dsimp only at hSw); (unfold MD at hSw); go_simp; (try with_reducible rfl))))
            (try simp only [Act.put, List.setIfInBounds_toArray, List.set_cons_zero, List.set_cons_succ])
            refine wpAnyH_ready (rs := [18]) (by kernel_rfl) (by simp) ?_
            refine AllReadyH.cons (o := ⟨none, _, _, _, _, none⟩) rfl (fun K hK => ?_) (AllReadyH.nil)
            (try dsimp only at hHeld)
            have hBq6 : Below w.heap.size w ((wq5.setCell ⟨wq0.heap.size, 0, none⟩ (.int .i64 (hiW (dK al ah bl bh k)))).setCell ⟨wq0.heap.size, 1, none⟩ (.int .u64 (loW (dK al ah bl bh k)))) := by go_grown
            have hOld := hHeld; clear hHeld; go_simp; refine hK.out _ _ ?_ (fun hHeld => ?_)
            · exact MD_store hOld nn16l0 nn16l1 nn16l2 nn16l3
            clear hK K hOld
            (try dsimp only at hHeld)
            replace nn16f0 := two_fz (b := wq0.heap.size) (x := .int .i64 (hiW (dK al ah bl bh k))) (y := .int .u64 (loW (dK al ah bl bh k))) nn16f0
            replace nn160 := two_0 (x := .int .i64 (hiW (dK al ah bl bh k))) (y := .int .u64 (loW (dK al ah bl bh k))) nn160
            replace nn16f1 := two_fz (b := wq0.heap.size) (x := .int .i64 (hiW (dK al ah bl bh k))) (y := .int .u64 (loW (dK al ah bl bh k))) nn16f1
            replace nn161 := two_1 (x := .int .i64 (hiW (dK al ah bl bh k))) (y := .int .u64 (loW (dK al ah bl bh k))) nn161
            replace nn17f0 := two_fz (b := wq0.heap.size) (x := .int .i64 (hiW (dK al ah bl bh k))) (y := .int .u64 (loW (dK al ah bl bh k))) nn17f0
            replace nn170 := two_other (b := wq0.heap.size) (x := .int .i64 (hiW (dK al ah bl bh k))) (y := .int .u64 (loW (dK al ah bl bh k))) nn170 (by omega)
            replace nn17f1 := two_fz (b := wq0.heap.size) (x := .int .i64 (hiW (dK al ah bl bh k))) (y := .int .u64 (loW (dK al ah bl bh k))) nn17f1
            replace nn171 := two_other (b := wq0.heap.size) (x := .int .i64 (hiW (dK al ah bl bh k))) (y := .int .u64 (loW (dK al ah bl bh k))) nn171 (by omega)
            generalize ((wq5.setCell ⟨wq0.heap.size, 0, none⟩ (.int .i64 (hiW (dK al ah bl bh k)))).setCell ⟨wq0.heap.size, 1, none⟩ (.int .u64 (loW (dK al ah bl bh k)))) = wq6 at *
            have hzq6 : w.heap.size ≤ wq6.heap.size := hBq6.size
            (try simp only [Act.put, List.setIfInBounds_toArray, List.set_cons_zero, List.set_cons_succ])
            refine wpAnyH_ready (rs := [19]) (by kernel_rfl) (by simp) ?_
            refine AllReadyH.cons (o := ⟨none, _, _, _, _, none⟩) rfl (fun K hK => ?_) (AllReadyH.nil)
            (try dsimp only at hHeld)
            have hBq7 : Below w.heap.size w ((wq6.setCell ⟨wq1.heap.size, 0, none⟩ (.int .i64 (hiW (uK al ah bl bh k)))).setCell ⟨wq1.heap.size, 1, none⟩ (.int .u64 (loW (uK al ah bl bh k)))) := by go_grown
            have hOld := hHeld; clear hHeld; go_simp; refine hK.out _ _ ?_ (fun hHeld => ?_)
            · exact MD_store hOld nn17l0 nn17l1 nn17l2 nn17l3
            clear hK K hOld
            (try dsimp only at hHeld)
            replace nn16f0 := two_fz (b := wq1.heap.size) (x := .int .i64 (hiW (uK al ah bl bh k))) (y := .int .u64 (loW (uK al ah bl bh k))) nn16f0
            replace nn160 := two_other (b := wq1.heap.size) (x := .int .i64 (hiW (uK al ah bl bh k))) (y := .int .u64 (loW (uK al ah bl bh k))) nn160 (by omega)
            replace nn16f1 := two_fz (b := wq1.heap.size) (x := .int .i64 (hiW (uK al ah bl bh k))) (y := .int .u64 (loW (uK al ah bl bh k))) nn16f1
            replace nn161 := two_other (b := wq1.heap.size) (x := .int .i64 (hiW (uK al ah bl bh k))) (y := .int .u64 (loW (uK al ah bl bh k))) nn161 (by omega)
            replace nn17f0 := two_fz (b := wq1.heap.size) (x := .int .i64 (hiW (uK al ah bl bh k))) (y := .int .u64 (loW (uK al ah bl bh k))) nn17f0
            replace nn170 := two_0 (x := .int .i64 (hiW (uK al ah bl bh k))) (y := .int .u64 (loW (uK al ah bl bh k))) nn170
            replace nn17f1 := two_fz (b := wq1.heap.size) (x := .int .i64 (hiW (uK al ah bl bh k))) (y := .int .u64 (loW (uK al ah bl bh k))) nn17f1
            replace nn171 := two_1 (x := .int .i64 (hiW (uK al ah bl bh k))) (y := .int .u64 (loW (uK al ah bl bh k))) nn171
            generalize ((wq6.setCell ⟨wq1.heap.size, 0, none⟩ (.int .i64 (hiW (uK al ah bl bh k)))).setCell ⟨wq1.heap.size, 1, none⟩ (.int .u64 (loW (uK al ah bl bh k)))) = wq7 at *
            have hzq7 : w.heap.size ≤ wq7.heap.size := hBq7.size
            (try simp only [Act.put, List.setIfInBounds_toArray, List.set_cons_zero, List.set_cons_succ])
            refine wpAnyH_done (by kernel_rfl) ?_ _
            go_wp2_with fail
            go_meet
            obtain ⟨L0, L1, L2, L3, L4, L5, L6, L7, _, _, z0, z1, zf0, zf1, lo0, lo1, lof0, lof1, hi0, hi1, hif0, hif1⟩ := hHeld
            exact ⟨_, _, rfl, rfl, by omega, by omega, ⟨L0, L1, L2, L3, L4, L5, L6, L7, z0, z1, zf0, zf1, lo0, lo1, lof0, lof1, hi0, hi1, hif0, hif1⟩, ⟨nn160, nn161, nn170, nn171⟩, by assumption⟩
          ·
           (try dsimp only at hHeld)
           have hBq1 : Below w.heap.size w (wq0.alloc (Obj.cells #[.int .i64 0, .int .u64 0] 78)) := by go_grown
           have nn170 : (wq0.alloc (Obj.cells #[.int .i64 0, .int .u64 0] 78)).cell? ⟨wq0.heap.size, 0, none⟩ = some (.int .i64 0) := by simp [go_sem]
           have nn17f0 : (wq0.alloc (Obj.cells #[.int .i64 0, .int .u64 0] 78)).frozen? ⟨wq0.heap.size, 0, none⟩ = false := by simp [go_sem]
           have nn171 : (wq0.alloc (Obj.cells #[.int .i64 0, .int .u64 0] 78)).cell? ⟨wq0.heap.size, 1, none⟩ = some (.int .u64 0) := by simp [go_sem]
           have nn17f1 : (wq0.alloc (Obj.cells #[.int .i64 0, .int .u64 0] 78)).frozen? ⟨wq0.heap.size, 1, none⟩ = false := by simp [go_sem]
           obtain ⟨nn17l0, nn17l1, nn17l2, nn17l3⟩ := MD_lt hHeld
           have hOld := hHeld; clear hHeld; go_simp; refine hK.out _ _ ?_ (fun hHeld => ?_)
           · exact MD_alloc _ hOld
           clear hK K hOld
           (try dsimp only at hHeld)
           generalize (wq0.alloc (Obj.cells #[.int .i64 0, .int .u64 0] 78)) = wq1 at *
           have hzq1 : w.heap.size ≤ wq1.heap.size := hBq1.size
           (try simp only [Act.put, List.setIfInBounds_toArray, List.set_cons_zero, List.set_cons_succ])
           refine wpAnyH_ready (rs := [5, 16]) (by kernel_rfl) (by simp) ?_
           refine AllReadyH.cons (o := ⟨some 41, _, _, _, _, none⟩) rfl (fun K hK => ?_) (AllReadyH.cons (o := ⟨some 10, _, _, _, _, none⟩) rfl (fun K hK => ?_) (AllReadyH.nil))
           ·
            go_simp
            (go_at_call 86; refine useF w ((by first | exact hwx.out _ | exact hwy.out _)) (by go_grown) ?_; rintro e wq2 rfl hBq2 hkq2 hfq2 hsq2)
            have hOld := hHeld; clear hHeld; refine hK.out _ _ ?_ (fun hHeld => ?_)
            · exact MD_keep hOld hkq2 hfq2
            clear hK K hOld
            replace nn17f0 := hfq2 _ _ _ nn170 nn17f0
            replace nn170 := hkq2 _ _ _ nn170
            replace nn17f1 := hfq2 _ _ _ nn171 nn17f1
            replace nn171 := hkq2 _ _ _ nn171
            clear hkq2 hfq2 hsq2
            have hzq2 : w.heap.size ≤ wq2.heap.size := hBq2.size
            (try simp only [Act.put, List.setIfInBounds_toArray, List.set_cons_zero, List.set_cons_succ])
            refine wpAnyH_ready (rs := [11, 16]) (by kernel_rfl) (by simp) ?_
            refine AllReadyH.cons (o := ⟨some 47, _, _, _, _, none⟩) rfl (fun K hK => ?_) (AllReadyH.cons (o := ⟨some 10, _, _, _, _, none⟩) rfl (fun K hK => ?_) (AllReadyH.nil))
            ·
             go_simp
             (go_at_call 86; refine useF w ((by first | exact hwx.out _ | exact hwy.out _)) (by go_grown) ?_; rintro e wq3 rfl hBq3 hkq3 hfq3 hsq3)
             have hOld := hHeld; clear hHeld; refine hK.out _ _ ?_ (fun hHeld => ?_)
             · exact MD_keep hOld hkq3 hfq3
             clear hK K hOld
             replace nn17f0 := hfq3 _ _ _ nn170 nn17f0
             replace nn170 := hkq3 _ _ _ nn170
             replace nn17f1 := hfq3 _ _ _ nn171 nn17f1
             replace nn171 := hkq3 _ _ _ nn171
             clear hkq3 hfq3 hsq3
             have hzq3 : w.heap.size ≤ wq3.heap.size := hBq3.size
             (try simp only [Act.put, List.setIfInBounds_toArray, List.set_cons_zero, List.set_cons_succ])
             refine wpAnyH_ready (rs := [12, 16]) (by kernel_rfl) (by simp) ?_
             refine AllReadyH.cons (o := ⟨some 48, _, _, _, _, none⟩) rfl (fun K hK => ?_) (AllReadyH.cons (o := ⟨some 10, _, _, _, _, none⟩) rfl (fun K hK => ?_) (AllReadyH.nil))
             ·
              go_simp
              (go_at_call 81; refine useF w (hov.out _) (by go_grown) ?_; rintro e wq4 rfl hBq4 hkq4 hfq4 hsq4)
              have hOld := hHeld; clear hHeld; refine hK.out _ _ ?_ (fun hHeld => ?_)
              · exact MD_keep hOld hkq4 hfq4
              clear hK K hOld
              replace nn17f0 := hfq4 _ _ _ nn170 nn17f0
              replace nn170 := hkq4 _ _ _ nn170
              replace nn17f1 := hfq4 _ _ _ nn171 nn17f1
              replace nn171 := hkq4 _ _ _ nn171
              clear hkq4 hfq4 hsq4
              have hzq4 : w.heap.size ≤ wq4.heap.size := hBq4.size
              (try simp only [Act.put, List.setIfInBounds_toArray, List.set_cons_zero, List.set_cons_succ])
              (refine wpAnyH_take (i := 13) (oi := ⟨some 35, _, _, _, _, none⟩) (v := ?_) rfl (by kernel_rfl) (by kernel_rfl) (by kernel_rfl) (fun _ _ _ h => h) (Or.inl ⟨by rfl, ?_⟩) hHeld ?_; rotate_left; (· (intro w9 hSw; (try dsimp only at hSw); (unfold MD at hSw); go_simp; (try with_reducible rfl))))
              (try simp only [Act.put, List.setIfInBounds_toArray, List.set_cons_zero, List.set_cons_succ])
              (refine wpAnyH_take (i := 14) (oi := ⟨some 49, _, _, _, _, none⟩) (v := ?_) rfl (by kernel_rfl) (by kernel_rfl) (by kernel_rfl) (fun _ _ _ h => h) (Or.inl ⟨by rfl, ?_⟩) hHeld ?_; rotate_left; (· (intro w9 hSw; (try dsimp only at hSw); (unfold MD at hSw); go_simp; (try with_reducible rfl))))
              (try simp only [Act.put, List.setIfInBounds_toArray, List.set_cons_zero, List.set_cons_succ])
              (refine wpAnyH_take (i := 15) (oi := ⟨some 50, _, _, _, _, none⟩) (v := ?_) rfl (by kernel_rfl) (by kernel_rfl) (by kernel_rfl) (fun _ _ _ h => h) (Or.inl ⟨by rfl, ?_⟩) hHeld ?_; rotate_left; (· (intro w9 hSw; (try dsimp only at hSw); (unfold MD at hSw); go_simp; (try with_reducible rfl))))
              (try simp only [Act.put, List.setIfInBounds_toArray, List.set_cons_zero, List.set_cons_succ])
              refine wpAnyH_ready (rs := [16]) (by kernel_rfl) (by simp) ?_
              refine AllReadyH.cons (o := ⟨some 10, _, _, _, _, none⟩) rfl (fun K hK => ?_) (AllReadyH.nil)
              (try dsimp only at hHeld)
              have hBq5 : Below w.heap.size w (wq4.alloc (Obj.cells #[.int .i64 0, .int .u64 0] 78)) := by go_grown
              have nn160 : (wq4.alloc (Obj.cells #[.int .i64 0, .int .u64 0] 78)).cell? ⟨wq4.heap.size, 0, none⟩ = some (.int .i64 0) := by simp [go_sem]
              have nn16f0 : (wq4.alloc (Obj.cells #[.int .i64 0, .int .u64 0] 78)).frozen? ⟨wq4.heap.size, 0, none⟩ = false := by simp [go_sem]
              have nn161 : (wq4.alloc (Obj.cells #[.int .i64 0, .int .u64 0] 78)).cell? ⟨wq4.heap.size, 1, none⟩ = some (.int .u64 0) := by simp [go_sem]
              have nn16f1 : (wq4.alloc (Obj.cells #[.int .i64 0, .int .u64 0] 78)).frozen? ⟨wq4.heap.size, 1, none⟩ = false := by simp [go_sem]
              obtain ⟨nn16l0, nn16l1, nn16l2, nn16l3⟩ := MD_lt hHeld
              have nn16m17 : wq0.heap.size < wq4.heap.size := World.block_lt_of_cell? _ ⟨wq0.heap.size, 0, none⟩ nn170
              replace nn17f0 := keepAF (Obj.cells #[.int .i64 0, .int .u64 0] 78) nn170 nn17f0
              replace nn170 := keepA (Obj.cells #[.int .i64 0, .int .u64 0] 78) nn170
              replace nn17f1 := keepAF (Obj.cells #[.int .i64 0, .int .u64 0] 78) nn171 nn17f1
              replace nn171 := keepA (Obj.cells #[.int .i64 0, .int .u64 0] 78) nn171
              have hOld := hHeld; clear hHeld; go_simp; refine hK.out _ _ ?_ (fun hHeld => ?_)
              · exact MD_alloc _ hOld
              clear hK K hOld
              (try dsimp only at hHeld)
              generalize (wq4.alloc (Obj.cells #[.int .i64 0, .int .u64 0] 78)) = wq5 at *
              have hzq5 : w.heap.size ≤ wq5.heap.size := hBq5.size
              (try simp only [Act.put, List.setIfInBounds_toArray, List.set_cons_zero, List.set_cons_succ])
              refine wpAnyH_ready (rs := [18]) (by kernel_rfl) (by simp) ?_
              refine AllReadyH.cons (o := ⟨none, _, _, _, _, none⟩) rfl (fun K hK => ?_) (AllReadyH.nil)
              (try dsimp only at hHeld)
              have hBq6 : Below w.heap.size w ((wq5.setCell ⟨wq4.heap.size, 0, none⟩ (.int .i64 (hiW (dK al ah bl bh k)))).setCell ⟨wq4.heap.size, 1, none⟩ (.int .u64 (loW (dK al ah bl bh k)))) := by go_grown
              have hOld := hHeld; clear hHeld; go_simp; refine hK.out _ _ ?_ (fun hHeld => ?_)
              · exact MD_store hOld nn16l0 nn16l1 nn16l2 nn16l3
              clear hK K hOld
              (try dsimp only at hHeld)
              replace nn17f0 := two_fz (b := wq4.heap.size) (x := .int .i64 (hiW (dK al ah bl bh k))) (y := .int .u64 (loW (dK al ah bl bh k))) nn17f0
              replace nn170 := two_other (b := wq4.heap.size) (x := .int .i64 (hiW (dK al ah bl bh k))) (y := .int .u64 (loW (dK al ah bl bh k))) nn170 (by omega)
              replace nn17f1 := two_fz (b := wq4.heap.size) (x := .int .i64 (hiW (dK al ah bl bh k))) (y := .int .u64 (loW (dK al ah bl bh k))) nn17f1
              replace nn171 := two_other (b := wq4.heap.size) (x := .int .i64 (hiW (dK al ah bl bh k))) (y := .int .u64 (loW (dK al ah bl bh k))) nn171 (by omega)
              replace nn16f0 := two_fz (b := wq4.heap.size) (x := .int .i64 (hiW (dK al ah bl bh k))) (y := .int .u64 (loW (dK al ah bl bh k))) nn16f0
              replace nn160 := two_0 (x := .int .i64 (hiW (dK al ah bl bh k))) (y := .int .u64 (loW (dK al ah bl bh k))) nn160
              replace nn16f1 := two_fz (b := wq4.heap.size) (x := .int .i64 (hiW (dK al ah bl bh k))) (y := .int .u64 (loW (dK al ah bl bh k))) nn16f1
              replace nn161 := two_1 (x := .int .i64 (hiW (dK al ah bl bh k))) (y := .int .u64 (loW (dK al ah bl bh k))) nn161
              generalize ((wq5.setCell ⟨wq4.heap.size, 0, none⟩ (.int .i64 (hiW (dK al ah bl bh k)))).setCell ⟨wq4.heap.size, 1, none⟩ (.int .u64 (loW (dK al ah bl bh k)))) = wq6 at *
              have hzq6 : w.heap.size ≤ wq6.heap.size := hBq6.size
              (try simp only [Act.put, List.setIfInBounds_toArray, List.set_cons_zero, List.set_cons_succ])
              refine wpAnyH_ready (rs := [19]) (by kernel_rfl) (by simp) ?_
              refine AllReadyH.cons (o := ⟨none, _, _, _, _, none⟩) rfl (fun K hK => ?_) (AllReadyH.nil)
              (try dsimp only at hHeld)
              have hBq7 : Below w.heap.size w ((wq6.setCell ⟨wq0.heap.size, 0, none⟩ (.int .i64 (hiW (uK al ah bl bh k)))).setCell ⟨wq0.heap.size, 1, none⟩ (.int .u64 (loW (uK al ah bl bh k)))) := by go_grown
              have hOld := hHeld; clear hHeld; go_simp; refine hK.out _ _ ?_ (fun hHeld => ?_)
              · exact MD_store hOld nn17l0 nn17l1 nn17l2 nn17l3
              clear hK K hOld
              (try dsimp only at hHeld)
              replace nn17f0 := two_fz (b := wq0.heap.size) (x := .int .i64 (hiW (uK al ah bl bh k))) (y := .int .u64 (loW (uK al ah bl bh k))) nn17f0
              replace nn170 := two_0 (x := .int .i64 (hiW (uK al ah bl bh k))) (y := .int .u64 (loW (uK al ah bl bh k))) nn170
              replace nn17f1 := two_fz (b := wq0.heap.size) (x := .int .i64 (hiW (uK al ah bl bh k))) (y := .int .u64 (loW (uK al ah bl bh k))) nn17f1
              replace nn171 := two_1 (x := .int .i64 (hiW (uK al ah bl bh k))) (y := .int .u64 (loW (uK al ah bl bh k))) nn171
              replace nn16f0 := two_fz (b := wq0.heap.size) (x := .int .i64 (hiW (uK al ah bl bh k))) (y := .int .u64 (loW (uK al ah bl bh k))) nn16f0
              replace nn160 := two_other (b := wq0.heap.size) (x := .int .i64 (hiW (uK al ah bl bh k))) (y := .int .u64 (loW (uK al ah bl bh k))) nn160 (by omega)
              replace nn16f1 := two_fz (b := wq0.heap.size) (x := .int .i64 (hiW (uK al ah bl bh k))) (y := .int .u64 (loW (uK al ah bl bh k))) nn16f1
              replace nn161 := two_other (b := wq0.heap.size) (x := .int .i64 (hiW (uK al ah bl bh k))) (y := .int .u64 (loW (uK al ah bl bh k))) nn161 (by omega)
              generalize ((wq6.setCell ⟨wq0.heap.size, 0, none⟩ (.int .i64 (hiW (uK al ah bl bh k)))).setCell ⟨wq0.heap.size, 1, none⟩ (.int .u64 (loW (uK al ah bl bh k)))) = wq7 at *
              have hzq7 : w.heap.size ≤ wq7.heap.size := hBq7.size
              (try simp only [Act.put, List.setIfInBounds_toArray, List.set_cons_zero, List.set_cons_succ])
              refine wpAnyH_done (by kernel_rfl) ?_ _
              go_wp2_with fail
              go_meet
              obtain ⟨L0, L1, L2, L3, L4, L5, L6, L7, _, _, z0, z1, zf0, zf1, lo0, lo1, lof0, lof1, hi0, hi1, hif0, hif1⟩ := hHeld
              exact ⟨_, _, rfl, rfl, by omega, by omega, ⟨L0, L1, L2, L3, L4, L5, L6, L7, z0, z1, zf0, zf1, lo0, lo1, lof0, lof1, hi0, hi1, hif0, hif1⟩, ⟨nn160, nn161, nn170, nn171⟩, by assumption⟩
             ·
              (try dsimp only at hHeld)
              have hBq4 : Below w.heap.size w (wq3.alloc (Obj.cells #[.int .i64 0, .int .u64 0] 78)) := by go_grown
              have nn160 : (wq3.alloc (Obj.cells #[.int .i64 0, .int .u64 0] 78)).cell? ⟨wq3.heap.size, 0, none⟩ = some (.int .i64 0) := by simp [go_sem]
              have nn16f0 : (wq3.alloc (Obj.cells #[.int .i64 0, .int .u64 0] 78)).frozen? ⟨wq3.heap.size, 0, none⟩ = false := by simp [go_sem]
              have nn161 : (wq3.alloc (Obj.cells #[.int .i64 0, .int .u64 0] 78)).cell? ⟨wq3.heap.size, 1, none⟩ = some (.int .u64 0) := by simp [go_sem]
              have nn16f1 : (wq3.alloc (Obj.cells #[.int .i64 0, .int .u64 0] 78)).frozen? ⟨wq3.heap.size, 1, none⟩ = false := by simp [go_sem]
              obtain ⟨nn16l0, nn16l1, nn16l2, nn16l3⟩ := MD_lt hHeld
              have nn16m17 : wq0.heap.size < wq3.heap.size := World.block_lt_of_cell? _ ⟨wq0.heap.size, 0, none⟩ nn170
              replace nn17f0 := keepAF (Obj.cells #[.int .i64 0, .int .u64 0] 78) nn170 nn17f0
              replace nn170 := keepA (Obj.cells #[.int .i64 0, .int .u64 0] 78) nn170
              replace nn17f1 := keepAF (Obj.cells #[.int .i64 0, .int .u64 0] 78) nn171 nn17f1
              replace nn171 := keepA (Obj.cells #[.int .i64 0, .int .u64 0] 78) nn171
              have hOld := hHeld; clear hHeld; go_simp; refine hK.out _ _ ?_ (fun hHeld => ?_)
              · exact MD_alloc _ hOld
              clear hK K hOld
              (try dsimp only at hHeld)
              generalize (wq3.alloc (Obj.cells #[.int .i64 0, .int .u64 0] 78)) = wq4 at *
              have hzq4 : w.heap.size ≤ wq4.heap.size := hBq4.size
              (try simp only [Act.put, List.setIfInBounds_toArray, List.set_cons_zero, List.set_cons_succ])
              refine wpAnyH_ready (rs := [12]) (by kernel_rfl) (by simp) ?_
              refine AllReadyH.cons (o := ⟨some 48, _, _, _, _, none⟩) rfl (fun K hK => ?_) (AllReadyH.nil)
              go_simp
              (go_at_call 81; refine useF w (hov.out _) (by go_grown) ?_; rintro e wq5 rfl hBq5 hkq5 hfq5 hsq5)
              have hOld := hHeld; clear hHeld; refine hK.out _ _ ?_ (fun hHeld => ?_)
              · exact MD_keep hOld hkq5 hfq5
              clear hK K hOld
              replace nn17f0 := hfq5 _ _ _ nn170 nn17f0
              replace nn170 := hkq5 _ _ _ nn170
              replace nn17f1 := hfq5 _ _ _ nn171 nn17f1
              replace nn171 := hkq5 _ _ _ nn171
              replace nn16f0 := hfq5 _ _ _ nn160 nn16f0
              replace nn160 := hkq5 _ _ _ nn160
              replace nn16f1 := hfq5 _ _ _ nn161 nn16f1
              replace nn161 := hkq5 _ _ _ nn161
              clear hkq5 hfq5 hsq5
              have hzq5 : w.heap.size ≤ wq5.heap.size := hBq5.size
              (try simp only [Act.put, List.setIfInBounds_toArray, List.set_cons_zero, List.set_cons_succ])
              (refine wpAnyH_take (i := 13) (oi := ⟨some 35, _, _, _, _, none⟩) (v := ?_) rfl (by kernel_rfl) (by kernel_rfl) (by kernel_rfl) (fun _ _ _ h => h) (Or.inl ⟨by rfl, ?_⟩) hHeld ?_; rotate_left; (· (intro w9 hSw; (try dsimp only at hSw); (unfold MD at hSw); go_simp; (try with_reducible rfl))))
              (try simp only [Act.put, List.setIfInBounds_toArray, List.set_cons_zero, List.set_cons_succ])
              (refine wpAnyH_take (i := 14) (oi := ⟨some 49, _, _, _, _, none⟩) (v := ?_) rfl (by kernel_rfl) (by kernel_rfl) (by kernel_rfl) (fun _ _ _ h => h) (Or.inl ⟨by rfl, ?_⟩) hHeld ?_; rotate_left; (· (intro w9 hSw; (try dsimp only at hSw); (unfold MD at hSw); go_simp; (try with_reducible rfl))))
              (try simp only [Act.put, List.setIfInBounds_toArray, List.set_cons_zero, List.set_cons_succ])
              (refine wpAnyH_take (i := 15) (oi := ⟨some 50, _, _, _, _, none⟩) (v := ?_) rfl (by kernel_rfl) (by kernel_rfl) (by kernel_rfl) (fun _ _ _ h => h) (Or.inl ⟨by rfl, ?_⟩) hHeld ?_; rotate_left; (· (intro w9 hSw; (try dsimp only at hSw); (unfold MD at hSw); go_simp; (try with_reducible rfl))))
              (try simp only [Act.put, List.setIfInBounds_toArray, List.set_cons_zero, List.set_cons_succ])
              refine wpAnyH_ready (rs := [18]) (by kernel_rfl) (by simp) ?_
              refine AllReadyH.cons (o := ⟨none, _, _, _, _, none⟩) rfl (fun K hK => ?_) (AllReadyH.nil)
              (try dsimp only at hHeld)
              have hBq6 : Below w.heap.size w ((wq5.setCell ⟨wq3.heap.size, 0, none⟩ (.int .i64 (hiW (dK al ah bl bh k)))).setCell ⟨wq3.heap.size, 1, none⟩ (.int .u64 (loW (dK al ah bl bh k)))) := by go_grown
              have hOld := hHeld; clear hHeld; go_simp; refine hK.out _ _ ?_ (fun hHeld => ?_)
              · exact MD_store hOld nn16l0 nn16l1 nn16l2 nn16l3
              clear hK K hOld
              (try dsimp only at hHeld)
              replace nn17f0 := two_fz (b := wq3.heap.size) (x := .int .i64 (hiW (dK al ah bl bh k))) (y := .int .u64 (loW (dK al ah bl bh k))) nn17f0
              replace nn170 := two_other (b := wq3.heap.size) (x := .int .i64 (hiW (dK al ah bl bh k))) (y := .int .u64 (loW (dK al ah bl bh k))) nn170 (by omega)
              replace nn17f1 := two_fz (b := wq3.heap.size) (x := .int .i64 (hiW (dK al ah bl bh k))) (y := .int .u64 (loW (dK al ah bl bh k))) nn17f1
              replace nn171 := two_other (b := wq3.heap.size) (x := .int .i64 (hiW (dK al ah bl bh k))) (y := .int .u64 (loW (dK al ah bl bh k))) nn171 (by omega)
              replace nn16f0 := two_fz (b := wq3.heap.size) (x := .int .i64 (hiW (dK al ah bl bh k))) (y := .int .u64 (loW (dK al ah bl bh k))) nn16f0
              replace nn160 := two_0 (x := .int .i64 (hiW (dK al ah bl bh k))) (y := .int .u64 (loW (dK al ah bl bh k))) nn160
              replace nn16f1 := two_fz (b := wq3.heap.size) (x := .int .i64 (hiW (dK al ah bl bh k))) (y := .int .u64 (loW (dK al ah bl bh k))) nn16f1
              replace nn161 := two_1 (x := .int .i64 (hiW (dK al ah bl bh k))) (y := .int .u64 (loW (dK al ah bl bh k))) nn161
              generalize ((wq5.setCell ⟨wq3.heap.size, 0, none⟩ (.int .i64 (hiW (dK al ah bl bh k)))).setCell ⟨wq3.heap.size, 1, none⟩ (.int .u64 (loW (dK al ah bl bh k)))) = wq6 at *
              have hzq6 : w.heap.size ≤ wq6.heap.size := hBq6.size
              (try simp only [Act.put, List.setIfInBounds_toArray, List.set_cons_zero, List.set_cons_succ])
              refine wpAnyH_ready (rs := [19]) (by kernel_rfl) (by simp) ?_
              refine AllReadyH.cons (o := ⟨none, _, _, _, _, none⟩) rfl (fun K hK => ?_) (AllReadyH.nil)
              (try dsimp only at hHeld)
              have hBq7 : Below w.heap.size w ((wq6.setCell ⟨wq0.heap.size, 0, none⟩ (.int .i64 (hiW (uK al ah bl bh k)))).setCell ⟨wq0.heap.size, 1, none⟩ (.int .u64 (loW (uK al ah bl bh k)))) := by go_grown
              have hOld := hHeld; clear hHeld; go_simp; refine hK.out _ _ ?_ (fun hHeld => ?_)
              · exact MD_store hOld nn17l0 nn17l1 nn17l2 nn17l3
              clear hK K hOld
              (try dsimp only at hHeld)
              replace nn17f0 := two_fz (b := wq0.heap.size) (x := .int .i64 (hiW (uK al ah bl bh k))) (y := .int .u64 (loW (uK al ah bl bh k))) nn17f0
              replace nn170 := two_0 (x := .int .i64 (hiW (uK al ah bl bh k))) (y := .int .u64 (loW (uK al ah bl bh k))) nn170
              replace nn17f1 := two_fz (b := wq0.heap.size) (x := .int .i64 (hiW (uK al ah bl bh k))) (y := .int .u64 (loW (uK al ah bl bh k))) nn17f1
              replace nn171 := two_1 (x := .int .i64 (hiW (uK al ah bl bh k))) (y := .int .u64 (loW (uK al ah bl bh k))) nn171
              replace nn16f0 := two_fz (b := wq0.heap.size) (x := .int .i64 (hiW (uK al ah bl bh k))) (y := .int .u64 (loW (uK al ah bl bh k))) nn16f0
              replace nn160 := two_other (b := wq0.heap.size) (x := .int .i64 (hiW (uK al ah bl bh k))) (y := .int .u64 (loW (uK al ah bl bh k))) nn160 (by omega)
              replace nn16f1 := two_fz (b := wq0.heap.size) (x := .int .i64 (hiW (uK al ah bl bh k))) (y := .int .u64 (loW (uK al ah bl bh k))) nn16f1
              replace nn161 := two_other (b := wq0.heap.size) (x := .int .i64 (hiW (uK al ah bl bh k))) (y := .int .u64 (loW (uK al ah bl bh k))) nn161 (by omega)
              generalize ((wq6.setCell ⟨wq0.heap.size, 0, none⟩ (.int .i64 (hiW (uK al ah bl bh k)))).setCell ⟨wq0.heap.size, 1, none⟩ (.int .u64 (loW (uK al ah bl bh k)))) = wq7 at *
              have hzq7 : w.heap.size ≤ wq7.heap.size := hBq7.size
              (try simp only [Act.put, List.setIfInBounds_toArray, List.set_cons_zero, List.set_cons_succ])
              refine wpAnyH_done (by kernel_rfl) ?_ _
              go_wp2_with fail
              go_meet
              obtain ⟨L0, L1, L2, L3, L4, L5, L6, L7, _, _, z0, z1, zf0, zf1, lo0, lo1, lof0, lof1, hi0, hi1, hif0, hif1⟩ := hHeld
              exact ⟨_, _, rfl, rfl, by omega, by omega, ⟨L0, L1, L2, L3, L4, L5, L6, L7, z0, z1, zf0, zf1, lo0, lo1, lof0, lof1, hi0, hi1, hif0, hif1⟩, ⟨nn160, nn161, nn170, nn171⟩, by assumption⟩
            ·
             (try dsimp only at hHeld)
             have hBq3 : Below w.heap.size w (wq2.alloc (Obj.cells #[.int .i64 0, .int .u64 0] 78)) := by go_grown
             have nn160 : (wq2.alloc (Obj.cells #[.int .i64 0, .int .u64 0] 78)).cell? ⟨wq2.heap.size, 0, none⟩ = some (.int .i64 0) := by simp [go_sem]
             have nn16f0 : (wq2.alloc (Obj.cells #[.int .i64 0, .int .u64 0] 78)).frozen? ⟨wq2.heap.size, 0, none⟩ = false := by simp [go_sem]
             have nn161 : (wq2.alloc (Obj.cells #[.int .i64 0, .int .u64 0] 78)).cell? ⟨wq2.heap.size, 1, none⟩ = some (.int .u64 0) := by simp [go_sem]
             have nn16f1 : (wq2.alloc (Obj.cells #[.int .i64 0, .int .u64 0] 78)).frozen? ⟨wq2.heap.size, 1, none⟩ = false := by simp [go_sem]
             obtain ⟨nn16l0, nn16l1, nn16l2, nn16l3⟩ := MD_lt hHeld
             have nn16m17 : wq0.heap.size < wq2.heap.size := World.block_lt_of_cell? _ ⟨wq0.heap.size, 0, none⟩ nn170
             replace nn17f0 := keepAF (Obj.cells #[.int .i64 0, .int .u64 0] 78) nn170 nn17f0
             replace nn170 := keepA (Obj.cells #[.int .i64 0, .int .u64 0] 78) nn170
             replace nn17f1 := keepAF (Obj.cells #[.int .i64 0, .int .u64 0] 78) nn171 nn17f1
             replace nn171 := keepA (Obj.cells #[.int .i64 0, .int .u64 0] 78) nn171
             have hOld := hHeld; clear hHeld; go_simp; refine hK.out _ _ ?_ (fun hHeld => ?_)
             · exact MD_alloc _ hOld
             clear hK K hOld
             (try dsimp only at hHeld)
             generalize (wq2.alloc (Obj.cells #[.int .i64 0, .int .u64 0] 78)) = wq3 at *
             have hzq3 : w.heap.size ≤ wq3.heap.size := hBq3.size
             (try simp only [Act.put, List.setIfInBounds_toArray, List.set_cons_zero, List.set_cons_succ])
             refine wpAnyH_ready (rs := [11]) (by kernel_rfl) (by simp) ?_
             refine AllReadyH.cons (o := ⟨some 47, _, _, _, _, none⟩) rfl (fun K hK => ?_) (AllReadyH.nil)
             go_simp
             (go_at_call 86; refine useF w ((by first | exact hwx.out _ | exact hwy.out _)) (by go_grown) ?_; rintro e wq4 rfl hBq4 hkq4 hfq4 hsq4)
             have hOld := hHeld; clear hHeld; refine hK.out _ _ ?_ (fun hHeld => ?_)
             · exact MD_keep hOld hkq4 hfq4
             clear hK K hOld
             replace nn17f0 := hfq4 _ _ _ nn170 nn17f0
             replace nn170 := hkq4 _ _ _ nn170
             replace nn17f1 := hfq4 _ _ _ nn171 nn17f1
             replace nn171 := hkq4 _ _ _ nn171
             replace nn16f0 := hfq4 _ _ _ nn160 nn16f0
             replace nn160 := hkq4 _ _ _ nn160
             replace nn16f1 := hfq4 _ _ _ nn161 nn16f1
             replace nn161 := hkq4 _ _ _ nn161
             clear hkq4 hfq4 hsq4
             have hzq4 : w.heap.size ≤ wq4.heap.size := hBq4.size
             (try simp only [Act.put, List.setIfInBounds_toArray, List.set_cons_zero, List.set_cons_succ])
             refine wpAnyH_ready (rs := [12]) (by kernel_rfl) (by simp) ?_
             refine AllReadyH.cons (o := ⟨some 48, _, _, _, _, none⟩) rfl (fun K hK => ?_) (AllReadyH.nil)
             go_simp
             (go_at_call 81; refine useF w (hov.out _) (by go_grown) ?_; rintro e wq5 rfl hBq5 hkq5 hfq5 hsq5)
             have hOld := hHeld; clear hHeld; refine hK.out _ _ ?_ (fun hHeld => ?_)
             · exact MD_keep hOld hkq5 hfq5
             clear hK K hOld
             replace nn17f0 := hfq5 _ _ _ nn170 nn17f0
             replace nn170 := hkq5 _ _ _ nn170
             replace nn17f1 := hfq5 _ _ _ nn171 nn17f1
             replace nn171 := hkq5 _ _ _ nn171
             replace nn16f0 := hfq5 _ _ _ nn160 nn16f0
             replace nn160 := hkq5 _ _ _ nn160
             replace nn16f1 := hfq5 _ _ _ nn161 nn16f1
             replace nn161 := hkq5 _ _ _ nn161
             clear hkq5 hfq5 hsq5
             have hzq5 : w.heap.size ≤ wq5.heap.size := hBq5.size
             (try simp only [Act.put, List.setIfInBounds_toArray, List.set_cons_zero, List.set_cons_succ])
             (refine wpAnyH_take (i := 13) (oi := ⟨some 35, _, _, _, _, none⟩) (v := ?_) rfl (by kernel_rfl) (by kernel_rfl) (by kernel_rfl) (fun _ _ _ h => h) (Or.inl ⟨by rfl, ?_⟩) hHeld ?_; rotate_left; (· (intro w9 hSw; (try dsimp only at hSw); (unfold MD at hSw); go_simp; (try with_reducible rfl))))
             (try simp only [Act.put, List.setIfInBounds_toArray, List.set_cons_zero, List.set_cons_succ])
             (refine wpAnyH_take (i := 14) (oi := ⟨some 49, _, _, _, _, none⟩) (v := ?_) rfl (by kernel_rfl) (by kernel_rfl) (by kernel_rfl) (fun _ _ _ h => h) (Or.inl ⟨by rfl, ?_⟩) hHeld ?_; rotate_left; (· (intro w9 hSw; (try dsimp only at hSw); (unfold MD at hSw); go_simp; (try with_reducible rfl))))
             (try simp only [Act.put, List.setIfInBounds_toArray, List.set_cons_zero, List.set_cons_succ])
             (refine wpAnyH_take (i := 15) (oi := ⟨some 50, _, _, _, _, none⟩) (v := ?_) rfl (by kernel_rfl) (by kernel_rfl) (by kernel_rfl) (fun _ _ _ h => h) (Or.inl ⟨by rfl, ?_⟩) hHeld ?_; rotate_left; (· (intro w9 hSw; (try dsimp only at hSw); (unfold MD at hSw); go_simp; (try with_reducible rfl))))
             (try simp only [Act.put, List.setIfInBounds_toArray, List.set_cons_zero, List.set_cons_succ])
             refine wpAnyH_ready (rs := [18]) (by kernel_rfl) (by simp) ?_
             refine AllReadyH.cons (o := ⟨none, _, _, _, _, none⟩) rfl (fun K hK => ?_) (AllReadyH.nil)
             (try dsimp only at hHeld)
             have hBq6 : Below w.heap.size w ((wq5.setCell ⟨wq2.heap.size, 0, none⟩ (.int .i64 (hiW (dK al ah bl bh k)))).setCell ⟨wq2.heap.size, 1, none⟩ (.int .u64 (loW (dK al ah bl bh k)))) := by go_grown
             have hOld := hHeld; clear hHeld; go_simp; refine hK.out _ _ ?_ (fun hHeld => ?_)
             · exact MD_store hOld nn16l0 nn16l1 nn16l2 nn16l3
             clear hK K hOld
             (try dsimp only at hHeld)
             replace nn17f0 := two_fz (b := wq2.heap.size) (x := .int .i64 (hiW (dK al ah bl bh k))) (y := .int .u64 (loW (dK al ah bl bh k))) nn17f0
             replace nn170 := two_other (b := wq2.heap.size) (x := .int .i64 (hiW (dK al ah bl bh k))) (y := .int .u64 (loW (dK al ah bl bh k))) nn170 (by omega)
             replace nn17f1 := two_fz (b := wq2.heap.size) (x := .int .i64 (hiW (dK al ah bl bh k))) (y := .int .u64 (loW (dK al ah bl bh k))) nn17f1
             replace nn171 := two_other (b := wq2.heap.size) (x := .int .i64 (hiW (dK al ah bl bh k))) (y := .int .u64 (loW (dK al ah bl bh k))) nn171 (by omega)
             replace nn16f0 := two_fz (b := wq2.heap.size) (x := .int .i64 (hiW (dK al ah bl bh k))) (y := .int .u64 (loW (dK al ah bl bh k))) nn16f0
             replace nn160 := two_0 (x := .int .i64 (hiW (dK al ah bl bh k))) (y := .int .u64 (loW (dK al ah bl bh k))) nn160
             replace nn16f1 := two_fz (b := wq2.heap.size) (x := .int .i64 (hiW (dK al ah bl bh k))) (y := .int .u64 (loW (dK al ah bl bh k))) nn16f1
             replace nn161 := two_1 (x := .int .i64 (hiW (dK al ah bl bh k))) (y := .int .u64 (loW (dK al ah bl bh k))) nn161
             generalize ((wq5.setCell ⟨wq2.heap.size, 0, none⟩ (.int .i64 (hiW (dK al ah bl bh k)))).setCell ⟨wq2.heap.size, 1, none⟩ (.int .u64 (loW (dK al ah bl bh k)))) = wq6 at *
             have hzq6 : w.heap.size ≤ wq6.heap.size := hBq6.size
             (try simp only [Act.put, List.setIfInBounds_toArray, List.set_cons_zero, List.set_cons_succ])
             refine wpAnyH_ready (rs := [19]) (by kernel_rfl) (by simp) ?_
             refine AllReadyH.cons (o := ⟨none, _, _, _, _, none⟩) rfl (fun K hK => ?_) (AllReadyH.nil)
             (try dsimp only at hHeld)
             have hBq7 : Below w.heap.size w ((wq6.setCell ⟨wq0.heap.size, 0, none⟩ (.int .i64 (hiW (uK al ah bl bh k)))).setCell ⟨wq0.heap.size, 1, none⟩ (.int .u64 (loW (uK al ah bl bh k)))) := by go_grown
             have hOld := hHeld; clear hHeld; go_simp; refine hK.out _ _ ?_ (fun hHeld => ?_)
             · exact MD_store hOld nn17l0 nn17l1 nn17l2 nn17l3
             clear hK K hOld
             (try dsimp only at hHeld)
             replace nn17f0 := two_fz (b := wq0.heap.size) (x := .int .i64 (hiW (uK al ah bl bh k))) (y := .int .u64 (loW (uK al ah bl bh k))) nn17f0
             replace nn170 := two_0 (x := .int .i64 (hiW (uK al ah bl bh k))) (y := .int .u64 (loW (uK al ah bl bh k))) nn170
             replace nn17f1 := two_fz (b := wq0.heap.size) (x := .int .i64 (hiW (uK al ah bl bh k))) (y := .int .u64 (loW (uK al ah bl bh k))) nn17f1
             replace nn171 := two_1 (x := .int .i64 (hiW (uK al ah bl bh k))) (y := .int .u64 (loW (uK al ah bl bh k))) nn171
             replace nn16f0 := two_fz (b := wq0.heap.size) (x := .int .i64 (hiW (uK al ah bl bh k))) (y := .int .u64 (loW (uK al ah bl bh k))) nn16f0
             replace nn160 := two_other (b := wq0.heap.size) (x := .int .i64 (hiW (uK al ah bl bh k))) (y := .int .u64 (loW (uK al ah bl bh k))) nn160 (by omega)
             replace nn16f1 := two_fz (b := wq0.heap.size) (x := .int .i64 (hiW (uK al ah bl bh k))) (y := .int .u64 (loW (uK al ah bl bh k))) nn16f1
             replace nn161 := two_other (b := wq0.heap.size) (x := .int .i64 (hiW (uK al ah bl bh k))) (y := .int .u64 (loW (uK al ah bl bh k))) nn161 (by omega)
             generalize ((wq6.setCell ⟨wq0.heap.size, 0, none⟩ (.int .i64 (hiW (uK al ah bl bh k)))).setCell ⟨wq0.heap.size, 1, none⟩ (.int .u64 (loW (uK al ah bl bh k)))) = wq7 at *
             have hzq7 : w.heap.size ≤ wq7.heap.size := hBq7.size
             (try simp only [Act.put, List.setIfInBounds_toArray, List.set_cons_zero, List.set_cons_succ])
             refine wpAnyH_done (by kernel_rfl) ?_ _
             go_wp2_with fail
             go_meet
             obtain ⟨L0, L1, L2, L3, L4, L5, L6, L7, _, _, z0, z1, zf0, zf1, lo0, lo1, lof0, lof1, hi0, hi1, hif0, hif1⟩ := hHeld
             exact ⟨_, _, rfl, rfl, by omega, by omega, ⟨L0, L1, L2, L3, L4, L5, L6, L7, z0, z1, zf0, zf1, lo0, lo1, lof0, lof1, hi0, hi1, hif0, hif1⟩, ⟨nn160, nn161, nn170, nn171⟩, by assumption⟩
           ·
            (try dsimp only at hHeld)
            have hBq2 : Below w.heap.size w (wq1.alloc (Obj.cells #[.int .i64 0, .int .u64 0] 78)) := by go_grown
            have nn160 : (wq1.alloc (Obj.cells #[.int .i64 0, .int .u64 0] 78)).cell? ⟨wq1.heap.size, 0, none⟩ = some (.int .i64 0) := by simp [go_sem]
            have nn16f0 : (wq1.alloc (Obj.cells #[.int .i64 0, .int .u64 0] 78)).frozen? ⟨wq1.heap.size, 0, none⟩ = false := by simp [go_sem]
            have nn161 : (wq1.alloc (Obj.cells #[.int .i64 0, .int .u64 0] 78)).cell? ⟨wq1.heap.size, 1, none⟩ = some (.int .u64 0) := by simp [go_sem]
            have nn16f1 : (wq1.alloc (Obj.cells #[.int .i64 0, .int .u64 0] 78)).frozen? ⟨wq1.heap.size, 1, none⟩ = false := by simp [go_sem]
            obtain ⟨nn16l0, nn16l1, nn16l2, nn16l3⟩ := MD_lt hHeld
            have nn16m17 : wq0.heap.size < wq1.heap.size := World.block_lt_of_cell? _ ⟨wq0.heap.size, 0, none⟩ nn170
            replace nn17f0 := keepAF (Obj.cells #[.int .i64 0, .int .u64 0] 78) nn170 nn17f0
            replace nn170 := keepA (Obj.cells #[.int .i64 0, .int .u64 0] 78) nn170
            replace nn17f1 := keepAF (Obj.cells #[.int .i64 0, .int .u64 0] 78) nn171 nn17f1
            replace nn171 := keepA (Obj.cells #[.int .i64 0, .int .u64 0] 78) nn171
            have hOld := hHeld; clear hHeld; go_simp; refine hK.out _ _ ?_ (fun hHeld => ?_)
            · exact MD_alloc _ hOld
            clear hK K hOld
            (try dsimp only at hHeld)
            generalize (wq1.alloc (Obj.cells #[.int .i64 0, .int .u64 0] 78)) = wq2 at *
            have hzq2 : w.heap.size ≤ wq2.heap.size := hBq2.size
            (try simp only [Act.put, List.setIfInBounds_toArray, List.set_cons_zero, List.set_cons_succ])
            refine wpAnyH_ready (rs := [5]) (by kernel_rfl) (by simp) ?_
            refine AllReadyH.cons (o := ⟨some 41, _, _, _, _, none⟩) rfl (fun K hK => ?_) (AllReadyH.nil)
            go_simp
            (go_at_call 86; refine useF w ((by first | exact hwx.out _ | exact hwy.out _)) (by go_grown) ?_; rintro e wq3 rfl hBq3 hkq3 hfq3 hsq3)
            have hOld := hHeld; clear hHeld; refine hK.out _ _ ?_ (fun hHeld => ?_)
            · exact MD_keep hOld hkq3 hfq3
            clear hK K hOld
            replace nn17f0 := hfq3 _ _ _ nn170 nn17f0
            replace nn170 := hkq3 _ _ _ nn170
            replace nn17f1 := hfq3 _ _ _ nn171 nn17f1
            replace nn171 := hkq3 _ _ _ nn171
            replace nn16f0 := hfq3 _ _ _ nn160 nn16f0
            replace nn160 := hkq3 _ _ _ nn160
            replace nn16f1 := hfq3 _ _ _ nn161 nn16f1
            replace nn161 := hkq3 _ _ _ nn161
            clear hkq3 hfq3 hsq3
            have hzq3 : w.heap.size ≤ wq3.heap.size := hBq3.size
            (try simp only [Act.put, List.setIfInBounds_toArray, List.set_cons_zero, List.set_cons_succ])
            refine wpAnyH_ready (rs := [11]) (by kernel_rfl) (by simp) ?_
            refine AllReadyH.cons (o := ⟨some 47, _, _, _, _, none⟩) rfl (fun K hK => ?_) (AllReadyH.nil)
            go_simp
            (go_at_call 86; refine useF w ((by first | exact hwx.out _ | exact hwy.out _)) (by go_grown) ?_; rintro e wq4 rfl hBq4 hkq4 hfq4 hsq4)
            have hOld := hHeld; clear hHeld; refine hK.out _ _ ?_ (fun hHeld => ?_)
            · exact MD_keep hOld hkq4 hfq4
            clear hK K hOld
            replace nn17f0 := hfq4 _ _ _ nn170 nn17f0
            replace nn170 := hkq4 _ _ _ nn170
            replace nn17f1 := hfq4 _ _ _ nn171 nn17f1
            replace nn171 := hkq4 _ _ _ nn171
            replace nn16f0 := hfq4 _ _ _ nn160 nn16f0
            replace nn160 := hkq4 _ _ _ nn160
            replace nn16f1 := hfq4 _ _ _ nn161 nn16f1
            replace nn161 := hkq4 _ _ _ nn161
            clear hkq4 hfq4 hsq4
            have hzq4 : w.heap.size ≤ wq4.heap.size := hBq4.size
            (try simp only [Act.put, List.setIfInBounds_toArray, List.set_cons_zero, List.set_cons_succ])
            refine wpAnyH_ready (rs := [12]) (by kernel_rfl) (by simp) ?_
            refine AllReadyH.cons (o := ⟨some 48, _, _, _, _, none⟩) rfl (fun K hK => ?_) (AllReadyH.nil)
            go_simp
            (go_at_call 81; refine useF w (hov.out _) (by go_grown) ?_; rintro e wq5 rfl hBq5 hkq5 hfq5 hsq5)
            have hOld := hHeld; clear hHeld; refine hK.out _ _ ?_ (fun hHeld => ?_)
            · exact MD_keep hOld hkq5 hfq5
            clear hK K hOld
            replace nn17f0 := hfq5 _ _ _ nn170 nn17f0
            replace nn170 := hkq5 _ _ _ nn170
            replace nn17f1 := hfq5 _ _ _ nn171 nn17f1
            replace nn171 := hkq5 _ _ _ nn171
            replace nn16f0 := hfq5 _ _ _ nn160 nn16f0
            replace nn160 := hkq5 _ _ _ nn160
            replace nn16f1 := hfq5 _ _ _ nn161 nn16f1
            replace nn161 := hkq5 _ _ _ nn161
            clear hkq5 hfq5 hsq5
            have hzq5 : w.heap.size ≤ wq5.heap.size := hBq5.size
            (try simp only [Act.put, List.setIfInBounds_toArray, List.set_cons_zero, List.set_cons_succ])
            (refine wpAnyH_take (i := 13) (oi := ⟨some 35, _, _, _, _, none⟩) (v := ?_) rfl (by kernel_rfl) (by kernel_rfl) (by kernel_rfl) (fun _ _ _ h => h) (Or.inl ⟨by rfl, ?_⟩) hHeld ?_; rotate_left; (· (intro w9 hSw; (try dsimp only at hSw); (unfold MD at hSw); go_simp; (try with_reducible rfl))))
            (try simp only [Act.put, List.setIfInBounds_toArray, List.set_cons_zero, List.set_cons_succ])
            (refine wpAnyH_take (i := 14) (oi := ⟨some 49, _, _, _, _, none⟩) (v := ?_) rfl (by kernel_rfl) (by kernel_rfl) (by kernel_rfl) (fun _ _ _ h => h) (Or.inl ⟨by rfl, ?_⟩) hHeld ?_; rotate_left; (· (intro w9 hSw; (try dsimp only at hSw); (unfold MD at hSw); go_simp; (try with_reducible rfl))))
            (try simp only [Act.put, List.setIfInBounds_toArray, List.set_cons_zero, List.set_cons_succ])
            (refine wpAnyH_take (i := 15) (oi := ⟨some 50, _, _, _, _, none⟩) (v := ?_) rfl (by kernel_rfl) (by kernel_rfl) (by kernel_rfl) (fun _ _ _ h => h) (Or.inl ⟨by rfl, ?_⟩) hHeld ?_; rotate_left; (· (intro w9 hSw; (try dsimp only at hSw); (unfold MD at hSw); go_simp; (try with_reducible rfl))))
            (try simp only [Act.put, List.setIfInBounds_toArray, List.set_cons_zero, List.set_cons_succ])
            refine wpAnyH_ready (rs := [18]) (by kernel_rfl) (by simp) ?_
            refine AllReadyH.cons (o := ⟨none, _, _, _, _, none⟩) rfl (fun K hK => ?_) (AllReadyH.nil)
            (try dsimp only at hHeld)
            have hBq6 : Below w.heap.size w ((wq5.setCell ⟨wq1.heap.size, 0, none⟩ (.int .i64 (hiW (dK al ah bl bh k)))).setCell ⟨wq1.heap.size, 1, none⟩ (.int .u64 (loW (dK al ah bl bh k)))) := by go_grown
            have hOld := hHeld; clear hHeld; go_simp; refine hK.out _ _ ?_ (fun hHeld => ?_)
            · exact MD_store hOld nn16l0 nn16l1 nn16l2 nn16l3
            clear hK K hOld
            (try dsimp only at hHeld)
            replace nn17f0 := two_fz (b := wq1.heap.size) (x := .int .i64 (hiW (dK al ah bl bh k))) (y := .int .u64 (loW (dK al ah bl bh k))) nn17f0
            replace nn170 := two_other (b := wq1.heap.size) (x := .int .i64 (hiW (dK al ah bl bh k))) (y := .int .u64 (loW (dK al ah bl bh k))) nn170 (by omega)
            replace nn17f1 := two_fz (b := wq1.heap.size) (x := .int .i64 (hiW (dK al ah bl bh k))) (y := .int .u64 (loW (dK al ah bl bh k))) nn17f1
            replace nn171 := two_other (b := wq1.heap.size) (x := .int .i64 (hiW (dK al ah bl bh k))) (y := .int .u64 (loW (dK al ah bl bh k))) nn171 (by omega)
            replace nn16f0 := two_fz (b := wq1.heap.size) (x := .int .i64 (hiW (dK al ah bl bh k))) (y := .int .u64 (loW (dK al ah bl bh k))) nn16f0
            replace nn160 := two_0 (x := .int .i64 (hiW (dK al ah bl bh k))) (y := .int .u64 (loW (dK al ah bl bh k))) nn160
            replace nn16f1 := two_fz (b := wq1.heap.size) (x := .int .i64 (hiW (dK al ah bl bh k))) (y := .int .u64 (loW (dK al ah bl bh k))) nn16f1
            replace nn161 := two_1 (x := .int .i64 (hiW (dK al ah bl bh k))) (y := .int .u64 (loW (dK al ah bl bh k))) nn161
            generalize ((wq5.setCell ⟨wq1.heap.size, 0, none⟩ (.int .i64 (hiW (dK al ah bl bh k)))).setCell ⟨wq1.heap.size, 1, none⟩ (.int .u64 (loW (dK al ah bl bh k)))) = wq6 at *
            have hzq6 : w.heap.size ≤ wq6.heap.size := hBq6.size
            (try simp only [Act.put, List.setIfInBounds_toArray, List.set_cons_zero, List.set_cons_succ])
            refine wpAnyH_ready (rs := [19]) (by kernel_rfl) (by simp) ?_
            refine AllReadyH.cons (o := ⟨none, _, _, _, _, none⟩) rfl (fun K hK => ?_) (AllReadyH.nil)
            (try dsimp only at hHeld)
            have hBq7 : Below w.heap.size w ((wq6.setCell ⟨wq0.heap.size, 0, none⟩ (.int .i64 (hiW (uK al ah bl bh k)))).setCell ⟨wq0.heap.size, 1, none⟩ (.int .u64 (loW (uK al ah bl bh k)))) := by go_grown
            have hOld := hHeld; clear hHeld; go_simp; refine hK.out _ _ ?_ (fun hHeld => ?_)
            · exact MD_store hOld nn17l0 nn17l1 nn17l2 nn17l3
            clear hK K hOld
            (try dsimp only at hHeld)
            replace nn17f0 := two_fz (b := wq0.heap.size) (x := .int .i64 (hiW (uK al ah bl bh k))) (y := .int .u64 (loW (uK al ah bl bh k))) nn17f0
            replace nn170 := two_0 (x := .int .i64 (hiW (uK al ah bl bh k))) (y := .int .u64 (loW (uK al ah bl bh k))) nn170
            replace nn17f1 := two_fz (b := wq0.heap.size) (x := .int .i64 (hiW (uK al ah bl bh k))) (y := .int .u64 (loW (uK al ah bl bh k))) nn17f1
            replace nn171 := two_1 (x := .int .i64 (hiW (uK al ah bl bh k))) (y := .int .u64 (loW (uK al ah bl bh k))) nn171
            replace nn16f0 := two_fz (b := wq0.heap.size) (x := .int .i64 (hiW (uK al ah bl bh k))) (y := .int .u64 (loW (uK al ah bl bh k))) nn16f0
            replace nn160 := two_other (b := wq0.heap.size) (x := .int .i64 (hiW (uK al ah bl bh k))) (y := .int .u64 (loW (uK al ah bl bh k))) nn160 (by omega)
            replace nn16f1 := two_fz (b := wq0.heap.size) (x := .int .i64 (hiW (uK al ah bl bh k))) (y := .int .u64 (loW (uK al ah bl bh k))) nn16f1
            replace nn161 := two_other (b := wq0.heap.size) (x := .int .i64 (hiW (uK al ah bl bh k))) (y := .int .u64 (loW (uK al ah bl bh k))) nn161 (by omega)
            generalize ((wq6.setCell ⟨wq0.heap.size, 0, none⟩ (.int .i64 (hiW (uK al ah bl bh k)))).setCell ⟨wq0.heap.size, 1, none⟩ (.int .u64 (loW (uK al ah bl bh k)))) = wq7 at *
            have hzq7 : w.heap.size ≤ wq7.heap.size := hBq7.size
            (try simp only [Act.put, List.setIfInBounds_toArray, List.set_cons_zero, List.set_cons_succ])
            refine wpAnyH_done (by kernel_rfl) ?_ _
            go_wp2_with fail
            go_meet
            obtain ⟨L0, L1, L2, L3, L4, L5, L6, L7, _, _, z0, z1, zf0, zf1, lo0, lo1, lof0, lof1, hi0, hi1, hif0, hif1⟩ := hHeld
            exact ⟨_, _, rfl, rfl, by omega, by omega, ⟨L0, L1, L2, L3, L4, L5, L6, L7, z0, z1, zf0, zf1, lo0, lo1, lof0, lof1, hi0, hi1, hif0, hif1⟩, ⟨nn160, nn161, nn170, nn171⟩, by assumption⟩
        case rest =>
          clear L0 L1 L2 L3 L4 L5 L6 L7 z0 z1 zf0 zf1 lo0 lo1 lof0 lof1 hi0 hi1 hif0 hif1 hB2
          obtain ⟨Bp, Bq, rfl, rfl, hBp, hBq, h8, ⟨p0, p1, q0, q1⟩, hB2⟩ := hcut
          obtain ⟨L0, L1, L2, L3, L4, L5, L6, L7, z0, z1, zf0, zf1, lo0, lo1, lof0, lof1, hi0, hi1, hif0, hif1⟩ := h8
          by_cases k0 : k = 0
          · subst k0
            go_wp2_with fail
            go_roundw
            case rel => exact ⟨1, rfl, by omega, ⟨two_other (two_other L0 (by omega)) (by omega), two_other (two_other L1 (by omega)) (by omega), two_other (two_other L2 (by omega)) (by omega), two_other (two_other L3 (by omega)) (by omega), two_other (two_other L4 (by omega)) (by omega), two_other (two_other L5 (by omega)) (by omega), two_other (two_other L6 (by omega)) (by omega), two_other (two_other L7 (by omega)) (by omega), two_other (two_other z0 (by omega)) (by omega), two_other (two_other z1 (by omega)) (by omega), two_fz (two_fz zf0), two_fz (two_fz zf1), two_other (two_0 lo0) (by omega), two_other (two_1 lo1) (by omega), two_fz (two_fz lof0), two_fz (two_fz lof1), two_0 (two_other hi0 (by omega)), two_1 (two_other hi1 (by omega)), two_fz (two_fz hif0), two_fz (two_fz hif1)⟩, by go_grown⟩
            case measure => simp [intOf]
          · have hk0 : 0 < k := by omega
            have kz : ((k : Int) == 0) = false := by simpa using k0
            have m1 := (mnmx_step (dK al ah bl bh) hk0).1
            have m2 := (mnmx_step (uK al ah bl bh) hk0).2
            have hm1 := (mnmx_bd (dK al ah bl bh) _ (by omega) (fun k => (hpb.out k).1) k).1
            have hm2 := (mnmx_bd (uK al ah bl bh) _ (by omega) (fun k => (hpb.out k).2) k).2
            have hpk := hpb.out k
            have w1' := hid (show (-170141183460469231731687303715884105728 ≤ dK al ah bl bh k ∧ dK al ah bl bh k < 170141183460469231731687303715884105728) ∧ (-170141183460469231731687303715884105728 ≤ mnK (dK al ah bl bh) k ∧ mnK (dK al ah bl bh) k < 170141183460469231731687303715884105728) by omega)
            have w2' := hid (show (-170141183460469231731687303715884105728 ≤ mxK (uK al ah bl bh) k ∧ mxK (uK al ah bl bh) k < 170141183460469231731687303715884105728) ∧ (-170141183460469231731687303715884105728 ≤ uK al ah bl bh k ∧ uK al ah bl bh k < 170141183460469231731687303715884105728) by omega)
            clear hm1 hm2 hpk k0
            by_cases c1 : dK al ah bl bh k < mnK (dK al ah bl bh) k
            · rw [if_pos c1] at m1
              have d1' := decide_eq_true c1
              by_cases c2 : mxK (uK al ah bl bh) k < uK al ah bl bh k
              · rw [if_pos c2] at m2
                have d2' := decide_eq_true c2
                have M1 := hid m1; have M2 := hid m2; clear m1 m2 c1 c2
                go_wp2_with fail
                refine useF w (less_any _ _ _ w1'.out) (by go_grown) ?_; rintro e w107 rfl hB107 hk107 hf107 hs107; clear hs107
                replace L0 : w107.cell? ⟨B, 0, none⟩ = some (.int .i64 al) := hk107 _ _ _ (L0)
                replace L1 : w107.cell? ⟨B, 1, none⟩ = some (.int .i64 bl) := hk107 _ _ _ (L1)
                replace L2 : w107.cell? ⟨B, 2, none⟩ = some (.int .i64 al) := hk107 _ _ _ (L2)
                replace L3 : w107.cell? ⟨B, 3, none⟩ = some (.int .i64 bh) := hk107 _ _ _ (L3)
                replace L4 : w107.cell? ⟨B, 4, none⟩ = some (.int .i64 ah) := hk107 _ _ _ (L4)
                replace L5 : w107.cell? ⟨B, 5, none⟩ = some (.int .i64 bl) := hk107 _ _ _ (L5)
                replace L6 : w107.cell? ⟨B, 6, none⟩ = some (.int .i64 ah) := hk107 _ _ _ (L6)
                replace L7 : w107.cell? ⟨B, 7, none⟩ = some (.int .i64 bh) := hk107 _ _ _ (L7)
                replace zf0 : w107.frozen? ⟨Z, 0, none⟩ = false := hf107 _ _ (.int .i64 0) (z0) (zf0)
                replace z0 : w107.cell? ⟨Z, 0, none⟩ = some (.int .i64 0) := hk107 _ _ _ (z0)
                replace zf1 : w107.frozen? ⟨Z, 1, none⟩ = false := hf107 _ _ (.int .i64 0) (z1) (zf1)
                replace z1 : w107.cell? ⟨Z, 1, none⟩ = some (.int .i64 0) := hk107 _ _ _ (z1)
                replace lof0 : w107.frozen? ⟨Bl, 0, none⟩ = false := hf107 _ _ (.int .i64 (hiW (mnK (dK al ah bl bh) k))) (lo0) (lof0)
                replace lo0 : w107.cell? ⟨Bl, 0, none⟩ = some (.int .i64 (hiW (mnK (dK al ah bl bh) k))) := hk107 _ _ _ (lo0)
                replace lof1 : w107.frozen? ⟨Bl, 1, none⟩ = false := hf107 _ _ (.int .u64 (loW (mnK (dK al ah bl bh) k))) (lo1) (lof1)
                replace lo1 : w107.cell? ⟨Bl, 1, none⟩ = some (.int .u64 (loW (mnK (dK al ah bl bh) k))) := hk107 _ _ _ (lo1)
                replace hif0 : w107.frozen? ⟨Bl + 1, 0, none⟩ = false := hf107 _ _ (.int .i64 (hiW (mxK (uK al ah bl bh) k))) (hi0) (hif0)
                replace hi0 : w107.cell? ⟨Bl + 1, 0, none⟩ = some (.int .i64 (hiW (mxK (uK al ah bl bh) k))) := hk107 _ _ _ (hi0)
                replace hif1 : w107.frozen? ⟨Bl + 1, 1, none⟩ = false := hf107 _ _ (.int .u64 (loW (mxK (uK al ah bl bh) k))) (hi1) (hif1)
                replace hi1 : w107.cell? ⟨Bl + 1, 1, none⟩ = some (.int .u64 (loW (mxK (uK al ah bl bh) k))) := hk107 _ _ _ (hi1)
                replace p0 : w107.cell? ⟨Bp, 0, none⟩ = some (.int .i64 (hiW (dK al ah bl bh k))) := hk107 _ _ _ (p0)
                replace p1 : w107.cell? ⟨Bp, 1, none⟩ = some (.int .u64 (loW (dK al ah bl bh k))) := hk107 _ _ _ (p1)
                replace q0 : w107.cell? ⟨Bq, 0, none⟩ = some (.int .i64 (hiW (uK al ah bl bh k))) := hk107 _ _ _ (q0)
                replace q1 : w107.cell? ⟨Bq, 1, none⟩ = some (.int .u64 (loW (uK al ah bl bh k))) := hk107 _ _ _ (q1)
                (try clear Lb); have Lb : B < w107.heap.size := World.block_lt_of_cell? w107 ⟨B, 0, none⟩ L0
                (try clear zb); have zb : Z < w107.heap.size := World.block_lt_of_cell? w107 ⟨Z, 0, none⟩ z0
                (try clear lob); have lob : Bl < w107.heap.size := World.block_lt_of_cell? w107 ⟨Bl, 0, none⟩ lo0
                (try clear hib); have hib : Bl + 1 < w107.heap.size := World.block_lt_of_cell? w107 ⟨Bl + 1, 0, none⟩ hi0
                (try clear pb); have pb : Bp < w107.heap.size := World.block_lt_of_cell? w107 ⟨Bp, 0, none⟩ p0
                (try clear qb); have qb : Bq < w107.heap.size := World.block_lt_of_cell? w107 ⟨Bq, 0, none⟩ q0
                clear hk107 hf107
                go_wp2_with fail
                refine useF w (less_any _ _ _ w2'.out) (by go_grown) ?_; rintro e w108 rfl hB108 hk108 hf108 hs108; clear hs108
                replace L0 : w108.cell? ⟨B, 0, none⟩ = some (.int .i64 al) := hk108 _ _ _ (two_other L0 (by omega))
                replace L1 : w108.cell? ⟨B, 1, none⟩ = some (.int .i64 bl) := hk108 _ _ _ (two_other L1 (by omega))
                replace L2 : w108.cell? ⟨B, 2, none⟩ = some (.int .i64 al) := hk108 _ _ _ (two_other L2 (by omega))
                replace L3 : w108.cell? ⟨B, 3, none⟩ = some (.int .i64 bh) := hk108 _ _ _ (two_other L3 (by omega))
                replace L4 : w108.cell? ⟨B, 4, none⟩ = some (.int .i64 ah) := hk108 _ _ _ (two_other L4 (by omega))
                replace L5 : w108.cell? ⟨B, 5, none⟩ = some (.int .i64 bl) := hk108 _ _ _ (two_other L5 (by omega))
                replace L6 : w108.cell? ⟨B, 6, none⟩ = some (.int .i64 ah) := hk108 _ _ _ (two_other L6 (by omega))
                replace L7 : w108.cell? ⟨B, 7, none⟩ = some (.int .i64 bh) := hk108 _ _ _ (two_other L7 (by omega))
                replace zf0 : w108.frozen? ⟨Z, 0, none⟩ = false := hf108 _ _ (.int .i64 0) (two_other z0 (by omega)) (two_fz zf0)
                replace z0 : w108.cell? ⟨Z, 0, none⟩ = some (.int .i64 0) := hk108 _ _ _ (two_other z0 (by omega))
                replace zf1 : w108.frozen? ⟨Z, 1, none⟩ = false := hf108 _ _ (.int .i64 0) (two_other z1 (by omega)) (two_fz zf1)
                replace z1 : w108.cell? ⟨Z, 1, none⟩ = some (.int .i64 0) := hk108 _ _ _ (two_other z1 (by omega))
                replace lof0 : w108.frozen? ⟨Bl, 0, none⟩ = false := hf108 _ _ (.int .i64 (hiW (dK al ah bl bh k))) (two_0 lo0) (two_fz lof0)
                replace lo0 : w108.cell? ⟨Bl, 0, none⟩ = some (.int .i64 (hiW (dK al ah bl bh k))) := hk108 _ _ _ (two_0 lo0)
                replace lof1 : w108.frozen? ⟨Bl, 1, none⟩ = false := hf108 _ _ (.int .u64 (loW (dK al ah bl bh k))) (two_1 lo1) (two_fz lof1)
                replace lo1 : w108.cell? ⟨Bl, 1, none⟩ = some (.int .u64 (loW (dK al ah bl bh k))) := hk108 _ _ _ (two_1 lo1)
                replace hif0 : w108.frozen? ⟨Bl + 1, 0, none⟩ = false := hf108 _ _ (.int .i64 (hiW (mxK (uK al ah bl bh) k))) (two_other hi0 (by omega)) (two_fz hif0)
                replace hi0 : w108.cell? ⟨Bl + 1, 0, none⟩ = some (.int .i64 (hiW (mxK (uK al ah bl bh) k))) := hk108 _ _ _ (two_other hi0 (by omega))
                replace hif1 : w108.frozen? ⟨Bl + 1, 1, none⟩ = false := hf108 _ _ (.int .u64 (loW (mxK (uK al ah bl bh) k))) (two_other hi1 (by omega)) (two_fz hif1)
                replace hi1 : w108.cell? ⟨Bl + 1, 1, none⟩ = some (.int .u64 (loW (mxK (uK al ah bl bh) k))) := hk108 _ _ _ (two_other hi1 (by omega))
                replace p0 : w108.cell? ⟨Bp, 0, none⟩ = some (.int .i64 (hiW (dK al ah bl bh k))) := hk108 _ _ _ (two_other p0 (by omega))
                replace p1 : w108.cell? ⟨Bp, 1, none⟩ = some (.int .u64 (loW (dK al ah bl bh k))) := hk108 _ _ _ (two_other p1 (by omega))
                replace q0 : w108.cell? ⟨Bq, 0, none⟩ = some (.int .i64 (hiW (uK al ah bl bh k))) := hk108 _ _ _ (two_other q0 (by omega))
                replace q1 : w108.cell? ⟨Bq, 1, none⟩ = some (.int .u64 (loW (uK al ah bl bh k))) := hk108 _ _ _ (two_other q1 (by omega))
                (try clear Lb); have Lb : B < w108.heap.size := World.block_lt_of_cell? w108 ⟨B, 0, none⟩ L0
                (try clear zb); have zb : Z < w108.heap.size := World.block_lt_of_cell? w108 ⟨Z, 0, none⟩ z0
                (try clear lob); have lob : Bl < w108.heap.size := World.block_lt_of_cell? w108 ⟨Bl, 0, none⟩ lo0
                (try clear hib); have hib : Bl + 1 < w108.heap.size := World.block_lt_of_cell? w108 ⟨Bl + 1, 0, none⟩ hi0
                (try clear pb); have pb : Bp < w108.heap.size := World.block_lt_of_cell? w108 ⟨Bp, 0, none⟩ p0
                (try clear qb); have qb : Bq < w108.heap.size := World.block_lt_of_cell? w108 ⟨Bq, 0, none⟩ q0
                clear hk108 hf108
                go_wp2_with fail
                have hBs : Below w.heap.size w ((w108.setCell ⟨Bl + 1, 0, none⟩ (.int .i64 (hiW (uK al ah bl bh k)))).setCell ⟨Bl + 1, 1, none⟩ (.int .u64 (loW (uK al ah bl bh k)))) := by go_grown
                replace L0 : ((w108.setCell ⟨Bl + 1, 0, none⟩ (.int .i64 (hiW (uK al ah bl bh k)))).setCell ⟨Bl + 1, 1, none⟩ (.int .u64 (loW (uK al ah bl bh k)))).cell? ⟨B, 0, none⟩ = some (.int .i64 al) := two_other L0 (by omega)
                replace L1 : ((w108.setCell ⟨Bl + 1, 0, none⟩ (.int .i64 (hiW (uK al ah bl bh k)))).setCell ⟨Bl + 1, 1, none⟩ (.int .u64 (loW (uK al ah bl bh k)))).cell? ⟨B, 1, none⟩ = some (.int .i64 bl) := two_other L1 (by omega)
                replace L2 : ((w108.setCell ⟨Bl + 1, 0, none⟩ (.int .i64 (hiW (uK al ah bl bh k)))).setCell ⟨Bl + 1, 1, none⟩ (.int .u64 (loW (uK al ah bl bh k)))).cell? ⟨B, 2, none⟩ = some (.int .i64 al) := two_other L2 (by omega)
                replace L3 : ((w108.setCell ⟨Bl + 1, 0, none⟩ (.int .i64 (hiW (uK al ah bl bh k)))).setCell ⟨Bl + 1, 1, none⟩ (.int .u64 (loW (uK al ah bl bh k)))).cell? ⟨B, 3, none⟩ = some (.int .i64 bh) := two_other L3 (by omega)
                replace L4 : ((w108.setCell ⟨Bl + 1, 0, none⟩ (.int .i64 (hiW (uK al ah bl bh k)))).setCell ⟨Bl + 1, 1, none⟩ (.int .u64 (loW (uK al ah bl bh k)))).cell? ⟨B, 4, none⟩ = some (.int .i64 ah) := two_other L4 (by omega)
                replace L5 : ((w108.setCell ⟨Bl + 1, 0, none⟩ (.int .i64 (hiW (uK al ah bl bh k)))).setCell ⟨Bl + 1, 1, none⟩ (.int .u64 (loW (uK al ah bl bh k)))).cell? ⟨B, 5, none⟩ = some (.int .i64 bl) := two_other L5 (by omega)
                replace L6 : ((w108.setCell ⟨Bl + 1, 0, none⟩ (.int .i64 (hiW (uK al ah bl bh k)))).setCell ⟨Bl + 1, 1, none⟩ (.int .u64 (loW (uK al ah bl bh k)))).cell? ⟨B, 6, none⟩ = some (.int .i64 ah) := two_other L6 (by omega)
                replace L7 : ((w108.setCell ⟨Bl + 1, 0, none⟩ (.int .i64 (hiW (uK al ah bl bh k)))).setCell ⟨Bl + 1, 1, none⟩ (.int .u64 (loW (uK al ah bl bh k)))).cell? ⟨B, 7, none⟩ = some (.int .i64 bh) := two_other L7 (by omega)
                replace zf0 : ((w108.setCell ⟨Bl + 1, 0, none⟩ (.int .i64 (hiW (uK al ah bl bh k)))).setCell ⟨Bl + 1, 1, none⟩ (.int .u64 (loW (uK al ah bl bh k)))).frozen? ⟨Z, 0, none⟩ = false := two_fz zf0
                replace z0 : ((w108.setCell ⟨Bl + 1, 0, none⟩ (.int .i64 (hiW (uK al ah bl bh k)))).setCell ⟨Bl + 1, 1, none⟩ (.int .u64 (loW (uK al ah bl bh k)))).cell? ⟨Z, 0, none⟩ = some (.int .i64 0) := two_other z0 (by omega)
                replace zf1 : ((w108.setCell ⟨Bl + 1, 0, none⟩ (.int .i64 (hiW (uK al ah bl bh k)))).setCell ⟨Bl + 1, 1, none⟩ (.int .u64 (loW (uK al ah bl bh k)))).frozen? ⟨Z, 1, none⟩ = false := two_fz zf1
                replace z1 : ((w108.setCell ⟨Bl + 1, 0, none⟩ (.int .i64 (hiW (uK al ah bl bh k)))).setCell ⟨Bl + 1, 1, none⟩ (.int .u64 (loW (uK al ah bl bh k)))).cell? ⟨Z, 1, none⟩ = some (.int .i64 0) := two_other z1 (by omega)
                replace lof0 : ((w108.setCell ⟨Bl + 1, 0, none⟩ (.int .i64 (hiW (uK al ah bl bh k)))).setCell ⟨Bl + 1, 1, none⟩ (.int .u64 (loW (uK al ah bl bh k)))).frozen? ⟨Bl, 0, none⟩ = false := two_fz lof0
                replace lo0 : ((w108.setCell ⟨Bl + 1, 0, none⟩ (.int .i64 (hiW (uK al ah bl bh k)))).setCell ⟨Bl + 1, 1, none⟩ (.int .u64 (loW (uK al ah bl bh k)))).cell? ⟨Bl, 0, none⟩ = some (.int .i64 (hiW (dK al ah bl bh k))) := two_other lo0 (by omega)
                replace lof1 : ((w108.setCell ⟨Bl + 1, 0, none⟩ (.int .i64 (hiW (uK al ah bl bh k)))).setCell ⟨Bl + 1, 1, none⟩ (.int .u64 (loW (uK al ah bl bh k)))).frozen? ⟨Bl, 1, none⟩ = false := two_fz lof1
                replace lo1 : ((w108.setCell ⟨Bl + 1, 0, none⟩ (.int .i64 (hiW (uK al ah bl bh k)))).setCell ⟨Bl + 1, 1, none⟩ (.int .u64 (loW (uK al ah bl bh k)))).cell? ⟨Bl, 1, none⟩ = some (.int .u64 (loW (dK al ah bl bh k))) := two_other lo1 (by omega)
                replace hif0 : ((w108.setCell ⟨Bl + 1, 0, none⟩ (.int .i64 (hiW (uK al ah bl bh k)))).setCell ⟨Bl + 1, 1, none⟩ (.int .u64 (loW (uK al ah bl bh k)))).frozen? ⟨Bl + 1, 0, none⟩ = false := two_fz hif0
                replace hi0 : ((w108.setCell ⟨Bl + 1, 0, none⟩ (.int .i64 (hiW (uK al ah bl bh k)))).setCell ⟨Bl + 1, 1, none⟩ (.int .u64 (loW (uK al ah bl bh k)))).cell? ⟨Bl + 1, 0, none⟩ = some (.int .i64 (hiW (uK al ah bl bh k))) := two_0 hi0
                replace hif1 : ((w108.setCell ⟨Bl + 1, 0, none⟩ (.int .i64 (hiW (uK al ah bl bh k)))).setCell ⟨Bl + 1, 1, none⟩ (.int .u64 (loW (uK al ah bl bh k)))).frozen? ⟨Bl + 1, 1, none⟩ = false := two_fz hif1
                replace hi1 : ((w108.setCell ⟨Bl + 1, 0, none⟩ (.int .i64 (hiW (uK al ah bl bh k)))).setCell ⟨Bl + 1, 1, none⟩ (.int .u64 (loW (uK al ah bl bh k)))).cell? ⟨Bl + 1, 1, none⟩ = some (.int .u64 (loW (uK al ah bl bh k))) := two_1 hi1
                replace p0 : ((w108.setCell ⟨Bl + 1, 0, none⟩ (.int .i64 (hiW (uK al ah bl bh k)))).setCell ⟨Bl + 1, 1, none⟩ (.int .u64 (loW (uK al ah bl bh k)))).cell? ⟨Bp, 0, none⟩ = some (.int .i64 (hiW (dK al ah bl bh k))) := two_other p0 (by omega)
                replace p1 : ((w108.setCell ⟨Bl + 1, 0, none⟩ (.int .i64 (hiW (uK al ah bl bh k)))).setCell ⟨Bl + 1, 1, none⟩ (.int .u64 (loW (uK al ah bl bh k)))).cell? ⟨Bp, 1, none⟩ = some (.int .u64 (loW (dK al ah bl bh k))) := two_other p1 (by omega)
                replace q0 : ((w108.setCell ⟨Bl + 1, 0, none⟩ (.int .i64 (hiW (uK al ah bl bh k)))).setCell ⟨Bl + 1, 1, none⟩ (.int .u64 (loW (uK al ah bl bh k)))).cell? ⟨Bq, 0, none⟩ = some (.int .i64 (hiW (uK al ah bl bh k))) := two_other q0 (by omega)
                replace q1 : ((w108.setCell ⟨Bl + 1, 0, none⟩ (.int .i64 (hiW (uK al ah bl bh k)))).setCell ⟨Bl + 1, 1, none⟩ (.int .u64 (loW (uK al ah bl bh k)))).cell? ⟨Bq, 1, none⟩ = some (.int .u64 (loW (uK al ah bl bh k))) := two_other q1 (by omega)
                generalize ((w108.setCell ⟨Bl + 1, 0, none⟩ (.int .i64 (hiW (uK al ah bl bh k)))).setCell ⟨Bl + 1, 1, none⟩ (.int .u64 (loW (uK al ah bl bh k)))) = wS at *
                go_roundw
                case rel => exact ⟨k + 1, by go_num, by omega, by rw [M1.out, M2.out]; exact ⟨L0, L1, L2, L3, L4, L5, L6, L7, z0, z1, zf0, zf1, lo0, lo1, lof0, lof1, hi0, hi1, hif0, hif1⟩, by assumption⟩
                case measure => first | (simp [intOf]; done) | (simp [intOf]; omega)
              · rw [if_neg c2] at m2
                have d2' := decide_eq_false c2
                have M1 := hid m1; have M2 := hid m2; clear m1 m2 c1 c2
                go_wp2_with fail
                refine useF w (less_any _ _ _ w1'.out) (by go_grown) ?_; rintro e w105 rfl hB105 hk105 hf105 hs105; clear hs105
                replace L0 : w105.cell? ⟨B, 0, none⟩ = some (.int .i64 al) := hk105 _ _ _ (L0)
                replace L1 : w105.cell? ⟨B, 1, none⟩ = some (.int .i64 bl) := hk105 _ _ _ (L1)
                replace L2 : w105.cell? ⟨B, 2, none⟩ = some (.int .i64 al) := hk105 _ _ _ (L2)
                replace L3 : w105.cell? ⟨B, 3, none⟩ = some (.int .i64 bh) := hk105 _ _ _ (L3)
                replace L4 : w105.cell? ⟨B, 4, none⟩ = some (.int .i64 ah) := hk105 _ _ _ (L4)
                replace L5 : w105.cell? ⟨B, 5, none⟩ = some (.int .i64 bl) := hk105 _ _ _ (L5)
                replace L6 : w105.cell? ⟨B, 6, none⟩ = some (.int .i64 ah) := hk105 _ _ _ (L6)
                replace L7 : w105.cell? ⟨B, 7, none⟩ = some (.int .i64 bh) := hk105 _ _ _ (L7)
                replace zf0 : w105.frozen? ⟨Z, 0, none⟩ = false := hf105 _ _ (.int .i64 0) (z0) (zf0)
                replace z0 : w105.cell? ⟨Z, 0, none⟩ = some (.int .i64 0) := hk105 _ _ _ (z0)
                replace zf1 : w105.frozen? ⟨Z, 1, none⟩ = false := hf105 _ _ (.int .i64 0) (z1) (zf1)
                replace z1 : w105.cell? ⟨Z, 1, none⟩ = some (.int .i64 0) := hk105 _ _ _ (z1)
                replace lof0 : w105.frozen? ⟨Bl, 0, none⟩ = false := hf105 _ _ (.int .i64 (hiW (mnK (dK al ah bl bh) k))) (lo0) (lof0)
                replace lo0 : w105.cell? ⟨Bl, 0, none⟩ = some (.int .i64 (hiW (mnK (dK al ah bl bh) k))) := hk105 _ _ _ (lo0)
                replace lof1 : w105.frozen? ⟨Bl, 1, none⟩ = false := hf105 _ _ (.int .u64 (loW (mnK (dK al ah bl bh) k))) (lo1) (lof1)
                replace lo1 : w105.cell? ⟨Bl, 1, none⟩ = some (.int .u64 (loW (mnK (dK al ah bl bh) k))) := hk105 _ _ _ (lo1)
                replace hif0 : w105.frozen? ⟨Bl + 1, 0, none⟩ = false := hf105 _ _ (.int .i64 (hiW (mxK (uK al ah bl bh) k))) (hi0) (hif0)
                replace hi0 : w105.cell? ⟨Bl + 1, 0, none⟩ = some (.int .i64 (hiW (mxK (uK al ah bl bh) k))) := hk105 _ _ _ (hi0)
                replace hif1 : w105.frozen? ⟨Bl + 1, 1, none⟩ = false := hf105 _ _ (.int .u64 (loW (mxK (uK al ah bl bh) k))) (hi1) (hif1)
                replace hi1 : w105.cell? ⟨Bl + 1, 1, none⟩ = some (.int .u64 (loW (mxK (uK al ah bl bh) k))) := hk105 _ _ _ (hi1)
                replace p0 : w105.cell? ⟨Bp, 0, none⟩ = some (.int .i64 (hiW (dK al ah bl bh k))) := hk105 _ _ _ (p0)
                replace p1 : w105.cell? ⟨Bp, 1, none⟩ = some (.int .u64 (loW (dK al ah bl bh k))) := hk105 _ _ _ (p1)
                replace q0 : w105.cell? ⟨Bq, 0, none⟩ = some (.int .i64 (hiW (uK al ah bl bh k))) := hk105 _ _ _ (q0)
                replace q1 : w105.cell? ⟨Bq, 1, none⟩ = some (.int .u64 (loW (uK al ah bl bh k))) := hk105 _ _ _ (q1)
                (try clear Lb); have Lb : B < w105.heap.size := World.block_lt_of_cell? w105 ⟨B, 0, none⟩ L0
                (try clear zb); have zb : Z < w105.heap.size := World.block_lt_of_cell? w105 ⟨Z, 0, none⟩ z0
                (try clear lob); have lob : Bl < w105.heap.size := World.block_lt_of_cell? w105 ⟨Bl, 0, none⟩ lo0
                (try clear hib); have hib : Bl + 1 < w105.heap.size := World.block_lt_of_cell? w105 ⟨Bl + 1, 0, none⟩ hi0
                (try clear pb); have pb : Bp < w105.heap.size := World.block_lt_of_cell? w105 ⟨Bp, 0, none⟩ p0
                (try clear qb); have qb : Bq < w105.heap.size := World.block_lt_of_cell? w105 ⟨Bq, 0, none⟩ q0
                clear hk105 hf105
                go_wp2_with fail
                refine useF w (less_any _ _ _ w2'.out) (by go_grown) ?_; rintro e w106 rfl hB106 hk106 hf106 hs106; clear hs106
                replace L0 : w106.cell? ⟨B, 0, none⟩ = some (.int .i64 al) := hk106 _ _ _ (two_other L0 (by omega))
                replace L1 : w106.cell? ⟨B, 1, none⟩ = some (.int .i64 bl) := hk106 _ _ _ (two_other L1 (by omega))
                replace L2 : w106.cell? ⟨B, 2, none⟩ = some (.int .i64 al) := hk106 _ _ _ (two_other L2 (by omega))
                replace L3 : w106.cell? ⟨B, 3, none⟩ = some (.int .i64 bh) := hk106 _ _ _ (two_other L3 (by omega))
                replace L4 : w106.cell? ⟨B, 4, none⟩ = some (.int .i64 ah) := hk106 _ _ _ (two_other L4 (by omega))
                replace L5 : w106.cell? ⟨B, 5, none⟩ = some (.int .i64 bl) := hk106 _ _ _ (two_other L5 (by omega))
                replace L6 : w106.cell? ⟨B, 6, none⟩ = some (.int .i64 ah) := hk106 _ _ _ (two_other L6 (by omega))
                replace L7 : w106.cell? ⟨B, 7, none⟩ = some (.int .i64 bh) := hk106 _ _ _ (two_other L7 (by omega))
                replace zf0 : w106.frozen? ⟨Z, 0, none⟩ = false := hf106 _ _ (.int .i64 0) (two_other z0 (by omega)) (two_fz zf0)
                replace z0 : w106.cell? ⟨Z, 0, none⟩ = some (.int .i64 0) := hk106 _ _ _ (two_other z0 (by omega))
                replace zf1 : w106.frozen? ⟨Z, 1, none⟩ = false := hf106 _ _ (.int .i64 0) (two_other z1 (by omega)) (two_fz zf1)
                replace z1 : w106.cell? ⟨Z, 1, none⟩ = some (.int .i64 0) := hk106 _ _ _ (two_other z1 (by omega))
                replace lof0 : w106.frozen? ⟨Bl, 0, none⟩ = false := hf106 _ _ (.int .i64 (hiW (dK al ah bl bh k))) (two_0 lo0) (two_fz lof0)
                replace lo0 : w106.cell? ⟨Bl, 0, none⟩ = some (.int .i64 (hiW (dK al ah bl bh k))) := hk106 _ _ _ (two_0 lo0)
                replace lof1 : w106.frozen? ⟨Bl, 1, none⟩ = false := hf106 _ _ (.int .u64 (loW (dK al ah bl bh k))) (two_1 lo1) (two_fz lof1)
                replace lo1 : w106.cell? ⟨Bl, 1, none⟩ = some (.int .u64 (loW (dK al ah bl bh k))) := hk106 _ _ _ (two_1 lo1)
                replace hif0 : w106.frozen? ⟨Bl + 1, 0, none⟩ = false := hf106 _ _ (.int .i64 (hiW (mxK (uK al ah bl bh) k))) (two_other hi0 (by omega)) (two_fz hif0)
                replace hi0 : w106.cell? ⟨Bl + 1, 0, none⟩ = some (.int .i64 (hiW (mxK (uK al ah bl bh) k))) := hk106 _ _ _ (two_other hi0 (by omega))
                replace hif1 : w106.frozen? ⟨Bl + 1, 1, none⟩ = false := hf106 _ _ (.int .u64 (loW (mxK (uK al ah bl bh) k))) (two_other hi1 (by omega)) (two_fz hif1)
                replace hi1 : w106.cell? ⟨Bl + 1, 1, none⟩ = some (.int .u64 (loW (mxK (uK al ah bl bh) k))) := hk106 _ _ _ (two_other hi1 (by omega))
                replace p0 : w106.cell? ⟨Bp, 0, none⟩ = some (.int .i64 (hiW (dK al ah bl bh k))) := hk106 _ _ _ (two_other p0 (by omega))
                replace p1 : w106.cell? ⟨Bp, 1, none⟩ = some (.int .u64 (loW (dK al ah bl bh k))) := hk106 _ _ _ (two_other p1 (by omega))
                replace q0 : w106.cell? ⟨Bq, 0, none⟩ = some (.int .i64 (hiW (uK al ah bl bh k))) := hk106 _ _ _ (two_other q0 (by omega))
                replace q1 : w106.cell? ⟨Bq, 1, none⟩ = some (.int .u64 (loW (uK al ah bl bh k))) := hk106 _ _ _ (two_other q1 (by omega))
                (try clear Lb); have Lb : B < w106.heap.size := World.block_lt_of_cell? w106 ⟨B, 0, none⟩ L0
                (try clear zb); have zb : Z < w106.heap.size := World.block_lt_of_cell? w106 ⟨Z, 0, none⟩ z0
                (try clear lob); have lob : Bl < w106.heap.size := World.block_lt_of_cell? w106 ⟨Bl, 0, none⟩ lo0
                (try clear hib); have hib : Bl + 1 < w106.heap.size := World.block_lt_of_cell? w106 ⟨Bl + 1, 0, none⟩ hi0
                (try clear pb); have pb : Bp < w106.heap.size := World.block_lt_of_cell? w106 ⟨Bp, 0, none⟩ p0
                (try clear qb); have qb : Bq < w106.heap.size := World.block_lt_of_cell? w106 ⟨Bq, 0, none⟩ q0
                clear hk106 hf106
                go_wp2_with fail
                go_roundw
                case rel => exact ⟨k + 1, by go_num, by omega, by rw [M1.out, M2.out]; exact ⟨L0, L1, L2, L3, L4, L5, L6, L7, z0, z1, zf0, zf1, lo0, lo1, lof0, lof1, hi0, hi1, hif0, hif1⟩, by assumption⟩
                case measure => first | (simp [intOf]; done) | (simp [intOf]; omega)
            · rw [if_neg c1] at m1
              have d1' := decide_eq_false c1
              by_cases c2 : mxK (uK al ah bl bh) k < uK al ah bl bh k
              · rw [if_pos c2] at m2
                have d2' := decide_eq_true c2
                have M1 := hid m1; have M2 := hid m2; clear m1 m2 c1 c2
                go_wp2_with fail
                refine useF w (less_any _ _ _ w1'.out) (by go_grown) ?_; rintro e w103 rfl hB103 hk103 hf103 hs103; clear hs103
                replace L0 : w103.cell? ⟨B, 0, none⟩ = some (.int .i64 al) := hk103 _ _ _ (L0)
                replace L1 : w103.cell? ⟨B, 1, none⟩ = some (.int .i64 bl) := hk103 _ _ _ (L1)
                replace L2 : w103.cell? ⟨B, 2, none⟩ = some (.int .i64 al) := hk103 _ _ _ (L2)
                replace L3 : w103.cell? ⟨B, 3, none⟩ = some (.int .i64 bh) := hk103 _ _ _ (L3)
                replace L4 : w103.cell? ⟨B, 4, none⟩ = some (.int .i64 ah) := hk103 _ _ _ (L4)
                replace L5 : w103.cell? ⟨B, 5, none⟩ = some (.int .i64 bl) := hk103 _ _ _ (L5)
                replace L6 : w103.cell? ⟨B, 6, none⟩ = some (.int .i64 ah) := hk103 _ _ _ (L6)
                replace L7 : w103.cell? ⟨B, 7, none⟩ = some (.int .i64 bh) := hk103 _ _ _ (L7)
                replace zf0 : w103.frozen? ⟨Z, 0, none⟩ = false := hf103 _ _ (.int .i64 0) (z0) (zf0)
                replace z0 : w103.cell? ⟨Z, 0, none⟩ = some (.int .i64 0) := hk103 _ _ _ (z0)
                replace zf1 : w103.frozen? ⟨Z, 1, none⟩ = false := hf103 _ _ (.int .i64 0) (z1) (zf1)
                replace z1 : w103.cell? ⟨Z, 1, none⟩ = some (.int .i64 0) := hk103 _ _ _ (z1)
                replace lof0 : w103.frozen? ⟨Bl, 0, none⟩ = false := hf103 _ _ (.int .i64 (hiW (mnK (dK al ah bl bh) k))) (lo0) (lof0)
                replace lo0 : w103.cell? ⟨Bl, 0, none⟩ = some (.int .i64 (hiW (mnK (dK al ah bl bh) k))) := hk103 _ _ _ (lo0)
                replace lof1 : w103.frozen? ⟨Bl, 1, none⟩ = false := hf103 _ _ (.int .u64 (loW (mnK (dK al ah bl bh) k))) (lo1) (lof1)
                replace lo1 : w103.cell? ⟨Bl, 1, none⟩ = some (.int .u64 (loW (mnK (dK al ah bl bh) k))) := hk103 _ _ _ (lo1)
                replace hif0 : w103.frozen? ⟨Bl + 1, 0, none⟩ = false := hf103 _ _ (.int .i64 (hiW (mxK (uK al ah bl bh) k))) (hi0) (hif0)
                replace hi0 : w103.cell? ⟨Bl + 1, 0, none⟩ = some (.int .i64 (hiW (mxK (uK al ah bl bh) k))) := hk103 _ _ _ (hi0)
                replace hif1 : w103.frozen? ⟨Bl + 1, 1, none⟩ = false := hf103 _ _ (.int .u64 (loW (mxK (uK al ah bl bh) k))) (hi1) (hif1)
                replace hi1 : w103.cell? ⟨Bl + 1, 1, none⟩ = some (.int .u64 (loW (mxK (uK al ah bl bh) k))) := hk103 _ _ _ (hi1)
                replace p0 : w103.cell? ⟨Bp, 0, none⟩ = some (.int .i64 (hiW (dK al ah bl bh k))) := hk103 _ _ _ (p0)
                replace p1 : w103.cell? ⟨Bp, 1, none⟩ = some (.int .u64 (loW (dK al ah bl bh k))) := hk103 _ _ _ (p1)
                replace q0 : w103.cell? ⟨Bq, 0, none⟩ = some (.int .i64 (hiW (uK al ah bl bh k))) := hk103 _ _ _ (q0)
                replace q1 : w103.cell? ⟨Bq, 1, none⟩ = some (.int .u64 (loW (uK al ah bl bh k))) := hk103 _ _ _ (q1)
                (try clear Lb); have Lb : B < w103.heap.size := World.block_lt_of_cell? w103 ⟨B, 0, none⟩ L0
                (try clear zb); have zb : Z < w103.heap.size := World.block_lt_of_cell? w103 ⟨Z, 0, none⟩ z0
                (try clear lob); have lob : Bl < w103.heap.size := World.block_lt_of_cell? w103 ⟨Bl, 0, none⟩ lo0
                (try clear hib); have hib : Bl + 1 < w103.heap.size := World.block_lt_of_cell? w103 ⟨Bl + 1, 0, none⟩ hi0
                (try clear pb); have pb : Bp < w103.heap.size := World.block_lt_of_cell? w103 ⟨Bp, 0, none⟩ p0
                (try clear qb); have qb : Bq < w103.heap.size := World.block_lt_of_cell? w103 ⟨Bq, 0, none⟩ q0
                clear hk103 hf103
                go_wp2_with fail
                refine useF w (less_any _ _ _ w2'.out) (by go_grown) ?_; rintro e w104 rfl hB104 hk104 hf104 hs104; clear hs104
                replace L0 : w104.cell? ⟨B, 0, none⟩ = some (.int .i64 al) := hk104 _ _ _ (L0)
                replace L1 : w104.cell? ⟨B, 1, none⟩ = some (.int .i64 bl) := hk104 _ _ _ (L1)
                replace L2 : w104.cell? ⟨B, 2, none⟩ = some (.int .i64 al) := hk104 _ _ _ (L2)
                replace L3 : w104.cell? ⟨B, 3, none⟩ = some (.int .i64 bh) := hk104 _ _ _ (L3)
                replace L4 : w104.cell? ⟨B, 4, none⟩ = some (.int .i64 ah) := hk104 _ _ _ (L4)
                replace L5 : w104.cell? ⟨B, 5, none⟩ = some (.int .i64 bl) := hk104 _ _ _ (L5)
                replace L6 : w104.cell? ⟨B, 6, none⟩ = some (.int .i64 ah) := hk104 _ _ _ (L6)
                replace L7 : w104.cell? ⟨B, 7, none⟩ = some (.int .i64 bh) := hk104 _ _ _ (L7)
                replace zf0 : w104.frozen? ⟨Z, 0, none⟩ = false := hf104 _ _ (.int .i64 0) (z0) (zf0)
                replace z0 : w104.cell? ⟨Z, 0, none⟩ = some (.int .i64 0) := hk104 _ _ _ (z0)
                replace zf1 : w104.frozen? ⟨Z, 1, none⟩ = false := hf104 _ _ (.int .i64 0) (z1) (zf1)
                replace z1 : w104.cell? ⟨Z, 1, none⟩ = some (.int .i64 0) := hk104 _ _ _ (z1)
                replace lof0 : w104.frozen? ⟨Bl, 0, none⟩ = false := hf104 _ _ (.int .i64 (hiW (mnK (dK al ah bl bh) k))) (lo0) (lof0)
                replace lo0 : w104.cell? ⟨Bl, 0, none⟩ = some (.int .i64 (hiW (mnK (dK al ah bl bh) k))) := hk104 _ _ _ (lo0)
                replace lof1 : w104.frozen? ⟨Bl, 1, none⟩ = false := hf104 _ _ (.int .u64 (loW (mnK (dK al ah bl bh) k))) (lo1) (lof1)
                replace lo1 : w104.cell? ⟨Bl, 1, none⟩ = some (.int .u64 (loW (mnK (dK al ah bl bh) k))) := hk104 _ _ _ (lo1)
                replace hif0 : w104.frozen? ⟨Bl + 1, 0, none⟩ = false := hf104 _ _ (.int .i64 (hiW (mxK (uK al ah bl bh) k))) (hi0) (hif0)
                replace hi0 : w104.cell? ⟨Bl + 1, 0, none⟩ = some (.int .i64 (hiW (mxK (uK al ah bl bh) k))) := hk104 _ _ _ (hi0)
                replace hif1 : w104.frozen? ⟨Bl + 1, 1, none⟩ = false := hf104 _ _ (.int .u64 (loW (mxK (uK al ah bl bh) k))) (hi1) (hif1)
                replace hi1 : w104.cell? ⟨Bl + 1, 1, none⟩ = some (.int .u64 (loW (mxK (uK al ah bl bh) k))) := hk104 _ _ _ (hi1)
                replace p0 : w104.cell? ⟨Bp, 0, none⟩ = some (.int .i64 (hiW (dK al ah bl bh k))) := hk104 _ _ _ (p0)
                replace p1 : w104.cell? ⟨Bp, 1, none⟩ = some (.int .u64 (loW (dK al ah bl bh k))) := hk104 _ _ _ (p1)
                replace q0 : w104.cell? ⟨Bq, 0, none⟩ = some (.int .i64 (hiW (uK al ah bl bh k))) := hk104 _ _ _ (q0)
                replace q1 : w104.cell? ⟨Bq, 1, none⟩ = some (.int .u64 (loW (uK al ah bl bh k))) := hk104 _ _ _ (q1)
                (try clear Lb); have Lb : B < w104.heap.size := World.block_lt_of_cell? w104 ⟨B, 0, none⟩ L0
                (try clear zb); have zb : Z < w104.heap.size := World.block_lt_of_cell? w104 ⟨Z, 0, none⟩ z0
                (try clear lob); have lob : Bl < w104.heap.size := World.block_lt_of_cell? w104 ⟨Bl, 0, none⟩ lo0
                (try clear hib); have hib : Bl + 1 < w104.heap.size := World.block_lt_of_cell? w104 ⟨Bl + 1, 0, none⟩ hi0
                (try clear pb); have pb : Bp < w104.heap.size := World.block_lt_of_cell? w104 ⟨Bp, 0, none⟩ p0
                (try clear qb); have qb : Bq < w104.heap.size := World.block_lt_of_cell? w104 ⟨Bq, 0, none⟩ q0
                clear hk104 hf104
                go_wp2_with fail
                have hBs : Below w.heap.size w ((w104.setCell ⟨Bl + 1, 0, none⟩ (.int .i64 (hiW (uK al ah bl bh k)))).setCell ⟨Bl + 1, 1, none⟩ (.int .u64 (loW (uK al ah bl bh k)))) := by go_grown
                replace L0 : ((w104.setCell ⟨Bl + 1, 0, none⟩ (.int .i64 (hiW (uK al ah bl bh k)))).setCell ⟨Bl + 1, 1, none⟩ (.int .u64 (loW (uK al ah bl bh k)))).cell? ⟨B, 0, none⟩ = some (.int .i64 al) := two_other L0 (by omega)
                replace L1 : ((w104.setCell ⟨Bl + 1, 0, none⟩ (.int .i64 (hiW (uK al ah bl bh k)))).setCell ⟨Bl + 1, 1, none⟩ (.int .u64 (loW (uK al ah bl bh k)))).cell? ⟨B, 1, none⟩ = some (.int .i64 bl) := two_other L1 (by omega)
                replace L2 : ((w104.setCell ⟨Bl + 1, 0, none⟩ (.int .i64 (hiW (uK al ah bl bh k)))).setCell ⟨Bl + 1, 1, none⟩ (.int .u64 (loW (uK al ah bl bh k)))).cell? ⟨B, 2, none⟩ = some (.int .i64 al) := two_other L2 (by omega)
                replace L3 : ((w104.setCell ⟨Bl + 1, 0, none⟩ (.int .i64 (hiW (uK al ah bl bh k)))).setCell ⟨Bl + 1, 1, none⟩ (.int .u64 (loW (uK al ah bl bh k)))).cell? ⟨B, 3, none⟩ = some (.int .i64 bh) := two_other L3 (by omega)
                replace L4 : ((w104.setCell ⟨Bl + 1, 0, none⟩ (.int .i64 (hiW (uK al ah bl bh k)))).setCell ⟨Bl + 1, 1, none⟩ (.int .u64 (loW (uK al ah bl bh k)))).cell? ⟨B, 4, none⟩ = some (.int .i64 ah) := two_other L4 (by omega)
                replace L5 : ((w104.setCell ⟨Bl + 1, 0, none⟩ (.int .i64 (hiW (uK al ah bl bh k)))).setCell ⟨Bl + 1, 1, none⟩ (.int .u64 (loW (uK al ah bl bh k)))).cell? ⟨B, 5, none⟩ = some (.int .i64 bl) := two_other L5 (by omega)
                replace L6 : ((w104.setCell ⟨Bl + 1, 0, none⟩ (.int .i64 (hiW (uK al ah bl bh k)))).setCell ⟨Bl + 1, 1, none⟩ (.int .u64 (loW (uK al ah bl bh k)))).cell? ⟨B, 6, none⟩ = some (.int .i64 ah) := two_other L6 (by omega)
                replace L7 : ((w104.setCell ⟨Bl + 1, 0, none⟩ (.int .i64 (hiW (uK al ah bl bh k)))).setCell ⟨Bl + 1, 1, none⟩ (.int .u64 (loW (uK al ah bl bh k)))).cell? ⟨B, 7, none⟩ = some (.int .i64 bh) := two_other L7 (by omega)
                replace zf0 : ((w104.setCell ⟨Bl + 1, 0, none⟩ (.int .i64 (hiW (uK al ah bl bh k)))).setCell ⟨Bl + 1, 1, none⟩ (.int .u64 (loW (uK al ah bl bh k)))).frozen? ⟨Z, 0, none⟩ = false := two_fz zf0
                replace z0 : ((w104.setCell ⟨Bl + 1, 0, none⟩ (.int .i64 (hiW (uK al ah bl bh k)))).setCell ⟨Bl + 1, 1, none⟩ (.int .u64 (loW (uK al ah bl bh k)))).cell? ⟨Z, 0, none⟩ = some (.int .i64 0) := two_other z0 (by omega)
                replace zf1 : ((w104.setCell ⟨Bl + 1, 0, none⟩ (.int .i64 (hiW (uK al ah bl bh k)))).setCell ⟨Bl + 1, 1, none⟩ (.int .u64 (loW (uK al ah bl bh k)))).frozen? ⟨Z, 1, none⟩ = false := two_fz zf1
                replace z1 : ((w104.setCell ⟨Bl + 1, 0, none⟩ (.int .i64 (hiW (uK al ah bl bh k)))).setCell ⟨Bl + 1, 1, none⟩ (.int .u64 (loW (uK al ah bl bh k)))).cell? ⟨Z, 1, none⟩ = some (.int .i64 0) := two_other z1 (by omega)
                replace lof0 : ((w104.setCell ⟨Bl + 1, 0, none⟩ (.int .i64 (hiW (uK al ah bl bh k)))).setCell ⟨Bl + 1, 1, none⟩ (.int .u64 (loW (uK al ah bl bh k)))).frozen? ⟨Bl, 0, none⟩ = false := two_fz lof0
                replace lo0 : ((w104.setCell ⟨Bl + 1, 0, none⟩ (.int .i64 (hiW (uK al ah bl bh k)))).setCell ⟨Bl + 1, 1, none⟩ (.int .u64 (loW (uK al ah bl bh k)))).cell? ⟨Bl, 0, none⟩ = some (.int .i64 (hiW (mnK (dK al ah bl bh) k))) := two_other lo0 (by omega)
                replace lof1 : ((w104.setCell ⟨Bl + 1, 0, none⟩ (.int .i64 (hiW (uK al ah bl bh k)))).setCell ⟨Bl + 1, 1, none⟩ (.int .u64 (loW (uK al ah bl bh k)))).frozen? ⟨Bl, 1, none⟩ = false := two_fz lof1
                replace lo1 : ((w104.setCell ⟨Bl + 1, 0, none⟩ (.int .i64 (hiW (uK al ah bl bh k)))).setCell ⟨Bl + 1, 1, none⟩ (.int .u64 (loW (uK al ah bl bh k)))).cell? ⟨Bl, 1, none⟩ = some (.int .u64 (loW (mnK (dK al ah bl bh) k))) := two_other lo1 (by omega)
                replace hif0 : ((w104.setCell ⟨Bl + 1, 0, none⟩ (.int .i64 (hiW (uK al ah bl bh k)))).setCell ⟨Bl + 1, 1, none⟩ (.int .u64 (loW (uK al ah bl bh k)))).frozen? ⟨Bl + 1, 0, none⟩ = false := two_fz hif0
                replace hi0 : ((w104.setCell ⟨Bl + 1, 0, none⟩ (.int .i64 (hiW (uK al ah bl bh k)))).setCell ⟨Bl + 1, 1, none⟩ (.int .u64 (loW (uK al ah bl bh k)))).cell? ⟨Bl + 1, 0, none⟩ = some (.int .i64 (hiW (uK al ah bl bh k))) := two_0 hi0
                replace hif1 : ((w104.setCell ⟨Bl + 1, 0, none⟩ (.int .i64 (hiW (uK al ah bl bh k)))).setCell ⟨Bl + 1, 1, none⟩ (.int .u64 (loW (uK al ah bl bh k)))).frozen? ⟨Bl + 1, 1, none⟩ = false := two_fz hif1
                replace hi1 : ((w104.setCell ⟨Bl + 1, 0, none⟩ (.int .i64 (hiW (uK al ah bl bh k)))).setCell ⟨Bl + 1, 1, none⟩ (.int .u64 (loW (uK al ah bl bh k)))).cell? ⟨Bl + 1, 1, none⟩ = some (.int .u64 (loW (uK al ah bl bh k))) := two_1 hi1
                replace p0 : ((w104.setCell ⟨Bl + 1, 0, none⟩ (.int .i64 (hiW (uK al ah bl bh k)))).setCell ⟨Bl + 1, 1, none⟩ (.int .u64 (loW (uK al ah bl bh k)))).cell? ⟨Bp, 0, none⟩ = some (.int .i64 (hiW (dK al ah bl bh k))) := two_other p0 (by omega)
                replace p1 : ((w104.setCell ⟨Bl + 1, 0, none⟩ (.int .i64 (hiW (uK al ah bl bh k)))).setCell ⟨Bl + 1, 1, none⟩ (.int .u64 (loW (uK al ah bl bh k)))).cell? ⟨Bp, 1, none⟩ = some (.int .u64 (loW (dK al ah bl bh k))) := two_other p1 (by omega)
                replace q0 : ((w104.setCell ⟨Bl + 1, 0, none⟩ (.int .i64 (hiW (uK al ah bl bh k)))).setCell ⟨Bl + 1, 1, none⟩ (.int .u64 (loW (uK al ah bl bh k)))).cell? ⟨Bq, 0, none⟩ = some (.int .i64 (hiW (uK al ah bl bh k))) := two_other q0 (by omega)
                replace q1 : ((w104.setCell ⟨Bl + 1, 0, none⟩ (.int .i64 (hiW (uK al ah bl bh k)))).setCell ⟨Bl + 1, 1, none⟩ (.int .u64 (loW (uK al ah bl bh k)))).cell? ⟨Bq, 1, none⟩ = some (.int .u64 (loW (uK al ah bl bh k))) := two_other q1 (by omega)
                generalize ((w104.setCell ⟨Bl + 1, 0, none⟩ (.int .i64 (hiW (uK al ah bl bh k)))).setCell ⟨Bl + 1, 1, none⟩ (.int .u64 (loW (uK al ah bl bh k)))) = wS at *
                go_roundw
                case rel => exact ⟨k + 1, by go_num, by omega, by rw [M1.out, M2.out]; exact ⟨L0, L1, L2, L3, L4, L5, L6, L7, z0, z1, zf0, zf1, lo0, lo1, lof0, lof1, hi0, hi1, hif0, hif1⟩, by assumption⟩
                case measure => first | (simp [intOf]; done) | (simp [intOf]; omega)
              · rw [if_neg c2] at m2
                have d2' := decide_eq_false c2
                have M1 := hid m1; have M2 := hid m2; clear m1 m2 c1 c2
                go_wp2_with fail
                refine useF w (less_any _ _ _ w1'.out) (by go_grown) ?_; rintro e w101 rfl hB101 hk101 hf101 hs101; clear hs101
                replace L0 : w101.cell? ⟨B, 0, none⟩ = some (.int .i64 al) := hk101 _ _ _ (L0)
                replace L1 : w101.cell? ⟨B, 1, none⟩ = some (.int .i64 bl) := hk101 _ _ _ (L1)
                replace L2 : w101.cell? ⟨B, 2, none⟩ = some (.int .i64 al) := hk101 _ _ _ (L2)
                replace L3 : w101.cell? ⟨B, 3, none⟩ = some (.int .i64 bh) := hk101 _ _ _ (L3)
                replace L4 : w101.cell? ⟨B, 4, none⟩ = some (.int .i64 ah) := hk101 _ _ _ (L4)
                replace L5 : w101.cell? ⟨B, 5, none⟩ = some (.int .i64 bl) := hk101 _ _ _ (L5)
                replace L6 : w101.cell? ⟨B, 6, none⟩ = some (.int .i64 ah) := hk101 _ _ _ (L6)
                replace L7 : w101.cell? ⟨B, 7, none⟩ = some (.int .i64 bh) := hk101 _ _ _ (L7)
                replace zf0 : w101.frozen? ⟨Z, 0, none⟩ = false := hf101 _ _ (.int .i64 0) (z0) (zf0)
                replace z0 : w101.cell? ⟨Z, 0, none⟩ = some (.int .i64 0) := hk101 _ _ _ (z0)
                replace zf1 : w101.frozen? ⟨Z, 1, none⟩ = false := hf101 _ _ (.int .i64 0) (z1) (zf1)
                replace z1 : w101.cell? ⟨Z, 1, none⟩ = some (.int .i64 0) := hk101 _ _ _ (z1)
                replace lof0 : w101.frozen? ⟨Bl, 0, none⟩ = false := hf101 _ _ (.int .i64 (hiW (mnK (dK al ah bl bh) k))) (lo0) (lof0)
                replace lo0 : w101.cell? ⟨Bl, 0, none⟩ = some (.int .i64 (hiW (mnK (dK al ah bl bh) k))) := hk101 _ _ _ (lo0)
                replace lof1 : w101.frozen? ⟨Bl, 1, none⟩ = false := hf101 _ _ (.int .u64 (loW (mnK (dK al ah bl bh) k))) (lo1) (lof1)
                replace lo1 : w101.cell? ⟨Bl, 1, none⟩ = some (.int .u64 (loW (mnK (dK al ah bl bh) k))) := hk101 _ _ _ (lo1)
                replace hif0 : w101.frozen? ⟨Bl + 1, 0, none⟩ = false := hf101 _ _ (.int .i64 (hiW (mxK (uK al ah bl bh) k))) (hi0) (hif0)
                replace hi0 : w101.cell? ⟨Bl + 1, 0, none⟩ = some (.int .i64 (hiW (mxK (uK al ah bl bh) k))) := hk101 _ _ _ (hi0)
                replace hif1 : w101.frozen? ⟨Bl + 1, 1, none⟩ = false := hf101 _ _ (.int .u64 (loW (mxK (uK al ah bl bh) k))) (hi1) (hif1)
                replace hi1 : w101.cell? ⟨Bl + 1, 1, none⟩ = some (.int .u64 (loW (mxK (uK al ah bl bh) k))) := hk101 _ _ _ (hi1)
                replace p0 : w101.cell? ⟨Bp, 0, none⟩ = some (.int .i64 (hiW (dK al ah bl bh k))) := hk101 _ _ _ (p0)
                replace p1 : w101.cell? ⟨Bp, 1, none⟩ = some (.int .u64 (loW (dK al ah bl bh k))) := hk101 _ _ _ (p1)
                replace q0 : w101.cell? ⟨Bq, 0, none⟩ = some (.int .i64 (hiW (uK al ah bl bh k))) := hk101 _ _ _ (q0)
                replace q1 : w101.cell? ⟨Bq, 1, none⟩ = some (.int .u64 (loW (uK al ah bl bh k))) := hk101 _ _ _ (q1)
                (try clear Lb); have Lb : B < w101.heap.size := World.block_lt_of_cell? w101 ⟨B, 0, none⟩ L0
                (try clear zb); have zb : Z < w101.heap.size := World.block_lt_of_cell? w101 ⟨Z, 0, none⟩ z0
                (try clear lob); have lob : Bl < w101.heap.size := World.block_lt_of_cell? w101 ⟨Bl, 0, none⟩ lo0
                (try clear hib); have hib : Bl + 1 < w101.heap.size := World.block_lt_of_cell? w101 ⟨Bl + 1, 0, none⟩ hi0
                (try clear pb); have pb : Bp < w101.heap.size := World.block_lt_of_cell? w101 ⟨Bp, 0, none⟩ p0
                (try clear qb); have qb : Bq < w101.heap.size := World.block_lt_of_cell? w101 ⟨Bq, 0, none⟩ q0
                clear hk101 hf101
                go_wp2_with fail
                refine useF w (less_any _ _ _ w2'.out) (by go_grown) ?_; rintro e w102 rfl hB102 hk102 hf102 hs102; clear hs102
                replace L0 : w102.cell? ⟨B, 0, none⟩ = some (.int .i64 al) := hk102 _ _ _ (L0)
                replace L1 : w102.cell? ⟨B, 1, none⟩ = some (.int .i64 bl) := hk102 _ _ _ (L1)
                replace L2 : w102.cell? ⟨B, 2, none⟩ = some (.int .i64 al) := hk102 _ _ _ (L2)
                replace L3 : w102.cell? ⟨B, 3, none⟩ = some (.int .i64 bh) := hk102 _ _ _ (L3)
                replace L4 : w102.cell? ⟨B, 4, none⟩ = some (.int .i64 ah) := hk102 _ _ _ (L4)
                replace L5 : w102.cell? ⟨B, 5, none⟩ = some (.int .i64 bl) := hk102 _ _ _ (L5)
                replace L6 : w102.cell? ⟨B, 6, none⟩ = some (.int .i64 ah) := hk102 _ _ _ (L6)
                replace L7 : w102.cell? ⟨B, 7, none⟩ = some (.int .i64 bh) := hk102 _ _ _ (L7)
                replace zf0 : w102.frozen? ⟨Z, 0, none⟩ = false := hf102 _ _ (.int .i64 0) (z0) (zf0)
                replace z0 : w102.cell? ⟨Z, 0, none⟩ = some (.int .i64 0) := hk102 _ _ _ (z0)
                replace zf1 : w102.frozen? ⟨Z, 1, none⟩ = false := hf102 _ _ (.int .i64 0) (z1) (zf1)
                replace z1 : w102.cell? ⟨Z, 1, none⟩ = some (.int .i64 0) := hk102 _ _ _ (z1)
                replace lof0 : w102.frozen? ⟨Bl, 0, none⟩ = false := hf102 _ _ (.int .i64 (hiW (mnK (dK al ah bl bh) k))) (lo0) (lof0)
                replace lo0 : w102.cell? ⟨Bl, 0, none⟩ = some (.int .i64 (hiW (mnK (dK al ah bl bh) k))) := hk102 _ _ _ (lo0)
                replace lof1 : w102.frozen? ⟨Bl, 1, none⟩ = false := hf102 _ _ (.int .u64 (loW (mnK (dK al ah bl bh) k))) (lo1) (lof1)
                replace lo1 : w102.cell? ⟨Bl, 1, none⟩ = some (.int .u64 (loW (mnK (dK al ah bl bh) k))) := hk102 _ _ _ (lo1)
                replace hif0 : w102.frozen? ⟨Bl + 1, 0, none⟩ = false := hf102 _ _ (.int .i64 (hiW (mxK (uK al ah bl bh) k))) (hi0) (hif0)
                replace hi0 : w102.cell? ⟨Bl + 1, 0, none⟩ = some (.int .i64 (hiW (mxK (uK al ah bl bh) k))) := hk102 _ _ _ (hi0)
                replace hif1 : w102.frozen? ⟨Bl + 1, 1, none⟩ = false := hf102 _ _ (.int .u64 (loW (mxK (uK al ah bl bh) k))) (hi1) (hif1)
                replace hi1 : w102.cell? ⟨Bl + 1, 1, none⟩ = some (.int .u64 (loW (mxK (uK al ah bl bh) k))) := hk102 _ _ _ (hi1)
                replace p0 : w102.cell? ⟨Bp, 0, none⟩ = some (.int .i64 (hiW (dK al ah bl bh k))) := hk102 _ _ _ (p0)
                replace p1 : w102.cell? ⟨Bp, 1, none⟩ = some (.int .u64 (loW (dK al ah bl bh k))) := hk102 _ _ _ (p1)
                replace q0 : w102.cell? ⟨Bq, 0, none⟩ = some (.int .i64 (hiW (uK al ah bl bh k))) := hk102 _ _ _ (q0)
                replace q1 : w102.cell? ⟨Bq, 1, none⟩ = some (.int .u64 (loW (uK al ah bl bh k))) := hk102 _ _ _ (q1)
                (try clear Lb); have Lb : B < w102.heap.size := World.block_lt_of_cell? w102 ⟨B, 0, none⟩ L0
                (try clear zb); have zb : Z < w102.heap.size := World.block_lt_of_cell? w102 ⟨Z, 0, none⟩ z0
                (try clear lob); have lob : Bl < w102.heap.size := World.block_lt_of_cell? w102 ⟨Bl, 0, none⟩ lo0
                (try clear hib); have hib : Bl + 1 < w102.heap.size := World.block_lt_of_cell? w102 ⟨Bl + 1, 0, none⟩ hi0
                (try clear pb); have pb : Bp < w102.heap.size := World.block_lt_of_cell? w102 ⟨Bp, 0, none⟩ p0
                (try clear qb); have qb : Bq < w102.heap.size := World.block_lt_of_cell? w102 ⟨Bq, 0, none⟩ q0
                clear hk102 hf102
                go_wp2_with fail
                go_roundw
                case rel => exact ⟨k + 1, by go_num, by omega, by rw [M1.out, M2.out]; exact ⟨L0, L1, L2, L3, L4, L5, L6, L7, z0, z1, zf0, zf1, lo0, lo1, lof0, lof1, hi0, hi1, hif0, hif1⟩, by assumption⟩
                case measure => first | (simp [intOf]; done) | (simp [intOf]; omega)
theorem rdiv_any (al ah bl bh : Int) (w : World) (h : (-9223372036854775808 ≤ al ∧ al ≤ 9223372036854775807) ∧ (-9223372036854775808 ≤ ah ∧ ah ≤ 9223372036854775807) ∧ (-9223372036854775808 ≤ bl ∧ bl ≤ 9223372036854775807) ∧ (-9223372036854775808 ≤ bh ∧ bh ≤ 9223372036854775807)) :
    Calls Try.prog 32 #[.agg #[.int .i64 al, .int .i64 ah], .agg #[.int .i64 bl, .int .i64 bh]] w fun e w' => e = .returned (.tuple #[.agg #[.int .i64 ((divS al ah bl bh).1), .int .i64 ((divS al ah bl bh).2.1)], .int .i64 ((divS al ah bl bh).2.2)]) ∧ Below w.heap.size w w' := by
  rcases both_cases al ah bl bh with ⟨e, _, _, _, _, k1, k2⟩ | e
  · by_cases c : bl ≤ 0 ∧ 0 ≤ bh
    · have hp := hid ((show divS al ah bl bh = _ from if_pos e).trans (if_pos c))
      obtain ⟨c1', c2'⟩ := c
      obtain ⟨⟨a1, a2⟩, ⟨b1, b2⟩, ⟨c1, c2⟩, d1, d2⟩ := h
      go_enter Try.func32, Try.ntmps32
      go_wp2_with fail
      refine useF w (rboth_any _ _ _ _ _ (by omega)) (by go_grown) ?_; rintro e w1 rfl hB1 hk1 hf1 hs1
      replace f20 : w1.frozen? ⟨w.heap.size + 1 + 1, 0, none⟩ = false := hf1 _ _ (.int .i64 0) (by simp [go_sem]) (by simp [go_sem])
      replace f21 : w1.frozen? ⟨w.heap.size + 1 + 1, 1, none⟩ = false := hf1 _ _ (.int .i64 0) (by simp [go_sem]) (by simp [go_sem])
      replace p00 : w1.cell? ⟨w.heap.size, 0, none⟩ = some (.int .i64 al) := hk1 _ _ _ (by simp [go_sem])
      replace p01 : w1.cell? ⟨w.heap.size, 1, none⟩ = some (.int .i64 ah) := hk1 _ _ _ (by simp [go_sem])
      replace p10 : w1.cell? ⟨w.heap.size + 1, 0, none⟩ = some (.int .i64 bl) := hk1 _ _ _ (by simp [go_sem])
      replace p11 : w1.cell? ⟨w.heap.size + 1, 1, none⟩ = some (.int .i64 bh) := hk1 _ _ _ (by simp [go_sem])
      replace p20 : w1.cell? ⟨w.heap.size + 1 + 1, 0, none⟩ = some (.int .i64 0) := hk1 _ _ _ (by simp [go_sem])
      replace p21 : w1.cell? ⟨w.heap.size + 1 + 1, 1, none⟩ = some (.int .i64 0) := hk1 _ _ _ (by simp [go_sem])
      have bp00 : w.heap.size < w1.heap.size := World.block_lt_of_cell? w1 ⟨w.heap.size, 0, none⟩ p00
      have bp10 : w.heap.size + 1 < w1.heap.size := World.block_lt_of_cell? w1 ⟨w.heap.size + 1, 0, none⟩ p10
      have bp20 : w.heap.size + 1 + 1 < w1.heap.size := World.block_lt_of_cell? w1 ⟨w.heap.size + 1 + 1, 0, none⟩ p20
      clear hk1 hf1
      go_wp2_with fail
      all_goals (refine' bodyPost_ret (res_st_t rfl isA_S isS_S rfl ?_ ?_) rfl ?_; rotate_left 2; (· ((try simp only [World.cell?_drew]); first | (with_reducible exact two_0 (by assumption)) | (with_reducible exact two_1 (by assumption)) | (with_reducible exact two_other (two_0 (by assumption)) (by simp)) | (with_reducible exact two_other (two_1 (by assumption)) (by simp)) | (with_reducible exact two_0 (two_other (by assumption) (by simp))) | (with_reducible exact two_1 (two_other (by assumption) (by simp))) | (simp (maxDischargeDepth := 8) [go_sem, hHeld]; rfl) | (simp (maxDischargeDepth := 8) [go_sem, *]; rfl) | (simp (maxDischargeDepth := 8) [go_sem, *]; done))); (· ((try simp only [World.cell?_drew]); first | (with_reducible exact two_0 (by assumption)) | (with_reducible exact two_1 (by assumption)) | (with_reducible exact two_other (two_0 (by assumption)) (by simp)) | (with_reducible exact two_other (two_1 (by assumption)) (by simp)) | (with_reducible exact two_0 (two_other (by assumption) (by simp))) | (with_reducible exact two_1 (two_other (by assumption) (by simp))) | (simp (maxDischargeDepth := 8) [go_sem, hHeld]; rfl) | (simp (maxDischargeDepth := 8) [go_sem, *]; rfl) | (simp (maxDischargeDepth := 8) [go_sem, *]; done))); refine ⟨ret_r ?_, by go_grown⟩; (exact hp.out.symm))
    · exact rdiv_go al ah bl bh w h e (by omega) (by omega) (hid c)
  · have hp := hid (show divS al ah bl bh = (0, 0, 2) from if_neg (by omega))
    obtain ⟨⟨a1, a2⟩, ⟨b1, b2⟩, ⟨c1, c2⟩, d1, d2⟩ := h
    go_enter Try.func32, Try.ntmps32
    go_wp2_with fail
    refine useF w (rboth_any _ _ _ _ _ (by omega)) (by go_grown) ?_; rintro e w1 rfl hB1 hk1 hf1 hs1
    replace f20 : w1.frozen? ⟨w.heap.size + 1 + 1, 0, none⟩ = false := hf1 _ _ (.int .i64 0) (by simp [go_sem]) (by simp [go_sem])
    replace f21 : w1.frozen? ⟨w.heap.size + 1 + 1, 1, none⟩ = false := hf1 _ _ (.int .i64 0) (by simp [go_sem]) (by simp [go_sem])
    replace p00 : w1.cell? ⟨w.heap.size, 0, none⟩ = some (.int .i64 al) := hk1 _ _ _ (by simp [go_sem])
    replace p01 : w1.cell? ⟨w.heap.size, 1, none⟩ = some (.int .i64 ah) := hk1 _ _ _ (by simp [go_sem])
    replace p10 : w1.cell? ⟨w.heap.size + 1, 0, none⟩ = some (.int .i64 bl) := hk1 _ _ _ (by simp [go_sem])
    replace p11 : w1.cell? ⟨w.heap.size + 1, 1, none⟩ = some (.int .i64 bh) := hk1 _ _ _ (by simp [go_sem])
    replace p20 : w1.cell? ⟨w.heap.size + 1 + 1, 0, none⟩ = some (.int .i64 0) := hk1 _ _ _ (by simp [go_sem])
    replace p21 : w1.cell? ⟨w.heap.size + 1 + 1, 1, none⟩ = some (.int .i64 0) := hk1 _ _ _ (by simp [go_sem])
    have bp00 : w.heap.size < w1.heap.size := World.block_lt_of_cell? w1 ⟨w.heap.size, 0, none⟩ p00
    have bp10 : w.heap.size + 1 < w1.heap.size := World.block_lt_of_cell? w1 ⟨w.heap.size + 1, 0, none⟩ p10
    have bp20 : w.heap.size + 1 + 1 < w1.heap.size := World.block_lt_of_cell? w1 ⟨w.heap.size + 1 + 1, 0, none⟩ p20
    clear hk1 hf1
    go_wp2_with fail
    all_goals (refine' bodyPost_ret (res_st_t rfl isA_S isS_S rfl ?_ ?_) rfl ?_; rotate_left 2; (· ((try simp only [World.cell?_drew]); first | (with_reducible exact two_0 (by assumption)) | (with_reducible exact two_1 (by assumption)) | (with_reducible exact two_other (two_0 (by assumption)) (by simp)) | (with_reducible exact two_other (two_1 (by assumption)) (by simp)) | (with_reducible exact two_0 (two_other (by assumption) (by simp))) | (with_reducible exact two_1 (two_other (by assumption) (by simp))) | (simp (maxDischargeDepth := 8) [go_sem, hHeld]; rfl) | (simp (maxDischargeDepth := 8) [go_sem, *]; rfl) | (simp (maxDischargeDepth := 8) [go_sem, *]; done))); (· ((try simp only [World.cell?_drew]); first | (with_reducible exact two_0 (by assumption)) | (with_reducible exact two_1 (by assumption)) | (with_reducible exact two_other (two_0 (by assumption)) (by simp)) | (with_reducible exact two_other (two_1 (by assumption)) (by simp)) | (with_reducible exact two_0 (two_other (by assumption) (by simp))) | (with_reducible exact two_1 (two_other (by assumption) (by simp))) | (simp (maxDischargeDepth := 8) [go_sem, hHeld]; rfl) | (simp (maxDischargeDepth := 8) [go_sem, *]; rfl) | (simp (maxDischargeDepth := 8) [go_sem, *]; done))); refine ⟨ret_r ?_, by go_grown⟩; (exact hp.out.symm))
end Go.Proofs.Ytjleflfncijnpaa
