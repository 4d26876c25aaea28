/- Quotients of spans, of both packages. -/
import Derived.Deep.DeepCutAuto
import Derived.Deep.CutBlock
import Derived.Test.YtjleflfncijnpaaDoorRows
import Derived.Test.YtjleflfncijnpaaDoorBase
import Derived.Test.YtjleflfncijnpaaDoorFacts
import Derived.Test.YtjleflfncijnpaaDoorTwo
import Derived.Deep.RegionHeld3
import Derived.Deep.RegionWith
import Derived.Deep.QuietTactic
import Derived.BigQuiet
import Derived.Test.YtjleflfncijnpaaDoorW
import Derived.Test.YtjleflfncijnpaaDoorAsks
import Derived.Test.YtjleflfncijnpaaDoorOut
import Derived.Test.YtjleflfncijnpaaDoorSeq
import Derived.Test.YtjleflfncijnpaaDoorTwo
import Derived.Test.YtjleflfncijnpaaDoorQuo
import Derived.Test.YtjleflfncijnpaaDoorTimes
import Derived.Test.YtjleflfncijnpaaDoorDown
import Derived.Test.YtjleflfncijnpaaDoorScaleM
import Derived.Test.YtjleflfncijnpaaDoorMul
import Derived.Test.YtjleflfncijnpaaDoorMulR
import Derived.Test.YtjleflfncijnpaaDoorRatioR
set_option linter.unusedVariables false
set_option linter.unusedSimpArgs false
set_option maxHeartbeats 4000000
set_option maxRecDepth 100000
namespace Go.Proofs.YtjleflfncijnpaaDoor
open Go Go.RowKit
def xK (al ah : Int) : Nat → Int
  | 0 => al
  | 1 => al
  | _ => ah
def yK (bl bh : Int) : Nat → Int
  | 0 => bl
  | 1 => bh
  | 2 => bl
  | _ => bh
def dK (al ah bl bh : Int) (k : Nat) : Int := dnQ (xK al ah k * 4294967296) (yK bl bh k)
def uK (al ah bl bh : Int) (k : Nat) : Int := upQ (xK al ah k * 4294967296) (yK bl bh k)
theorem xy_bd (al ah bl bh : Int) (h : (-9223372036854775808 ≤ al ∧ al ≤ 9223372036854775807) ∧ (-9223372036854775808 ≤ ah ∧ ah ≤ 9223372036854775807) ∧ (-9223372036854775808 ≤ bl ∧ bl ≤ 9223372036854775807) ∧ (-9223372036854775808 ≤ bh ∧ bh ≤ 9223372036854775807)) (hl : bl ≠ 0) (hh : bh ≠ 0) (k : Nat) : ((-9223372036854775808 ≤ xK al ah k ∧ xK al ah k ≤ 9223372036854775807) ∧ (-9223372036854775808 ≤ yK bl bh k ∧ yK bl bh k ≤ 9223372036854775807)) ∧ yK bl bh k ≠ 0 := by
  obtain ⟨h1, h2, h3, h4⟩ := h
  unfold xK yK
  split
  · exact ⟨⟨h1, h3⟩, hl⟩
  · exact ⟨⟨h1, h4⟩, hh⟩
  · exact ⟨⟨h2, by split <;> assumption⟩, by split <;> assumption⟩
theorem du_bd (al ah bl bh : Int) (h : (-9223372036854775808 ≤ al ∧ al ≤ 9223372036854775807) ∧ (-9223372036854775808 ≤ ah ∧ ah ≤ 9223372036854775807) ∧ (-9223372036854775808 ≤ bl ∧ bl ≤ 9223372036854775807) ∧ (-9223372036854775808 ≤ bh ∧ bh ≤ 9223372036854775807)) (hl : bl ≠ 0) (hh : bh ≠ 0) (k : Nat) : (-39614081257132168796771975168 ≤ dK al ah bl bh k ∧ dK al ah bl bh k ≤ 39614081257132168796771975168) ∧ -39614081257132168796771975168 ≤ uK al ah bl bh k ∧ uK al ah bl bh k ≤ 39614081257132168796771975168 := by
  obtain ⟨⟨h1, h2⟩, h3⟩ := xy_bd al ah bl bh h hl hh k
  have hb := dn_ab (xK al ah k * 4294967296) (yK bl bh k) h3
  have ha := ab_bd h1
  have he : ab (xK al ah k * 4294967296) = ab (xK al ah k) * 4294967296 := by unfold ab; split <;> split <;> omega
  rw [he] at hb
  unfold dK uK
  omega
def divS (al ah bl bh : Int) : Int × Int × Int := if bothS al ah bl bh = 0 then (if bl ≤ 0 ∧ 0 ≤ bh then (0, 0, 10) else cornS (fun x y => rdQ (x * 4294967296) y) (fun x y => ruQ (x * 4294967296) y) (fun x y => ftQ (x * 4294967296) y) al ah bl bh) else (0, 0, 2)
theorem div_fit (al ah bl bh : Int) (hl : bl ≠ 0) (hh : bh ≠ 0) : cornS (fun x y => rdQ (x * 4294967296) y) (fun x y => ruQ (x * 4294967296) y) (fun x y => ftQ (x * 4294967296) y) al ah bl bh = fitS (mnK (dK al ah bl bh) 4) (mxK (uK al ah bl bh) 4) := by
  rw [corn_fit (fun x _ => x * 4294967296) (fun _ y => y) al ah bl bh (dn_le _ _ _ hl) (dn_le _ _ _ hh) (dn_le _ _ _ hl) (dn_le _ _ _ hh), mn4_val, mx4_val]
  rfl
theorem div_any (al ah bl bh : Int) (w : World) (h : (-9223372036854775808 ≤ al ∧ al ≤ 9223372036854775807) ∧ (-9223372036854775808 ≤ ah ∧ ah ≤ 9223372036854775807) ∧ (-9223372036854775808 ≤ bl ∧ bl ≤ 9223372036854775807) ∧ (-9223372036854775808 ≤ bh ∧ bh ≤ 9223372036854775807)) :
    Calls Tryd.prog 19 #[.agg #[.int .i64 al, .int .i64 ah], .agg #[.int .i64 bl, .int .i64 bh]] w fun e w' => e = .returned (.tuple #[.agg #[.int .i64 ((divS al ah bl bh).1), .int .i64 ((divS al ah bl bh).2.1)], .int .i64 ((divS al ah bl bh).2.2)]) ∧ Below w.heap.size w w' := by
  obtain ⟨⟨a1, a2⟩, ⟨b1, b2⟩, ⟨c1, c2⟩, d1, d2⟩ := h
  rcases both_cases al ah bl bh with ⟨e, _, e2, _, _, k1, k2⟩ | e
  · have hp := show divS al ah bl bh = _ from if_pos e
    have hi : inS bl bh 0 = decide (bl ≤ 0 ∧ 0 ≤ bh) := by unfold inS; rw [e2]; simp
    by_cases c : bl ≤ 0 ∧ 0 ≤ bh
    · rw [if_pos c] at hp
      rw [decide_eq_true c] at hi
      have hp := hid hp
      clear c k1 k2
      go_enter Tryd.func19, Tryd.ntmps19
      go_wp2_with (first | (go_at_call 69; refine use w (w.heap.size + 1 + 1 + 1) (both_any _ _ _ _ _ (by omega)) (by go_grown) (by go_size) ?_; rintro e w1 rfl hB1 hc1 hf1 hl1 hs1; have hl10 : w.heap.size < w1.heap.size := hl1 _ (by omega); have hl11 : w.heap.size + 1 < w1.heap.size := hl1 _ (by omega); have hl12 : w.heap.size + 1 + 1 < w1.heap.size := hl1 _ (by omega)) | (go_at_call 52; refine use w (w.heap.size + 1 + 1 + 1) (in_any _ _ _ _ (by omega)) (by go_grown) (by go_size) ?_; rintro e w1 rfl hB1 hc1 hf1 hl1 hs1; have hl10 : w.heap.size < w1.heap.size := hl1 _ (by omega); have hl11 : w.heap.size + 1 < w1.heap.size := hl1 _ (by omega); have hl12 : w.heap.size + 1 + 1 < w1.heap.size := hl1 _ (by omega)))
      all_goals (refine' bodyPost_ret (res_st_t rfl isA_S isS_S rfl ?_ ?_) rfl ?_; rotate_left 2; (· ((try simp only [World.cell?_drew]); first | (with_reducible exact two_0 (by assumption)) | (with_reducible exact two_1 (by assumption)) | (with_reducible exact two_other (two_0 (by assumption)) (by simp)) | (with_reducible exact two_other (two_1 (by assumption)) (by simp)) | (with_reducible exact two_0 (two_other (by assumption) (by simp))) | (with_reducible exact two_1 (two_other (by assumption) (by simp))) | (simp (maxDischargeDepth := 8) [go_sem, hHeld]; rfl) | (simp (maxDischargeDepth := 8) [go_sem, *]; rfl) | (simp (maxDischargeDepth := 8) [go_sem, *]; done))); (· ((try simp only [World.cell?_drew]); first | (with_reducible exact two_0 (by assumption)) | (with_reducible exact two_1 (by assumption)) | (with_reducible exact two_other (two_0 (by assumption)) (by simp)) | (with_reducible exact two_other (two_1 (by assumption)) (by simp)) | (with_reducible exact two_0 (two_other (by assumption) (by simp))) | (with_reducible exact two_1 (two_other (by assumption) (by simp))) | (simp (maxDischargeDepth := 8) [go_sem, hHeld]; rfl) | (simp (maxDischargeDepth := 8) [go_sem, *]; rfl) | (simp (maxDischargeDepth := 8) [go_sem, *]; done))); refine ⟨ret_r ?_, by go_grown⟩; (rw [hp.out]))
    · rw [if_neg c] at hp
      rw [decide_eq_false c] at hi
      have hp := hid hp
      have hc := hid (fun W => corners_Div al ah bl bh W ⟨⟨a1, a2⟩, ⟨b1, b2⟩, ⟨c1, c2⟩, d1, d2⟩ (by omega) (by omega))
      clear c k1 k2
      go_enter Tryd.func19, Tryd.ntmps19
      go_wp2_with (first | (go_at_call 69; refine use w (w.heap.size + 1 + 1 + 1) (both_any _ _ _ _ _ (by omega)) (by go_grown) (by go_size) ?_; rintro e w1 rfl hB1 hc1 hf1 hl1 hs1; have hl10 : w.heap.size < w1.heap.size := hl1 _ (by omega); have hl11 : w.heap.size + 1 < w1.heap.size := hl1 _ (by omega); have hl12 : w.heap.size + 1 + 1 < w1.heap.size := hl1 _ (by omega)) | (go_at_call 52; refine use w (w.heap.size + 1 + 1 + 1) (in_any _ _ _ _ (by omega)) (by go_grown) (by go_size) ?_; rintro e w1 rfl hB1 hc1 hf1 hl1 hs1; have hl10 : w.heap.size < w1.heap.size := hl1 _ (by omega); have hl11 : w.heap.size + 1 < w1.heap.size := hl1 _ (by omega); have hl12 : w.heap.size + 1 + 1 < w1.heap.size := hl1 _ (by omega)) | (go_at_call 70; refine use w (w.heap.size + 1 + 1 + 1) (hc.out _) (by go_grown) (by go_size) ?_; rintro e w1 rfl hB1 hc1 hf1 hl1 hs1; have hl10 : w.heap.size < w1.heap.size := hl1 _ (by omega); have hl11 : w.heap.size + 1 < w1.heap.size := hl1 _ (by omega); have hl12 : w.heap.size + 1 + 1 < w1.heap.size := hl1 _ (by omega)))
      all_goals (refine' bodyPost_ret (res_st_t rfl isA_S isS_S rfl ?_ ?_) rfl ?_; rotate_left 2; (· ((try simp only [World.cell?_drew]); first | (with_reducible exact two_0 (by assumption)) | (with_reducible exact two_1 (by assumption)) | (with_reducible exact two_other (two_0 (by assumption)) (by simp)) | (with_reducible exact two_other (two_1 (by assumption)) (by simp)) | (with_reducible exact two_0 (two_other (by assumption) (by simp))) | (with_reducible exact two_1 (two_other (by assumption) (by simp))) | (simp (maxDischargeDepth := 8) [go_sem, hHeld]; rfl) | (simp (maxDischargeDepth := 8) [go_sem, *]; rfl) | (simp (maxDischargeDepth := 8) [go_sem, *]; done))); (· ((try simp only [World.cell?_drew]); first | (with_reducible exact two_0 (by assumption)) | (with_reducible exact two_1 (by assumption)) | (with_reducible exact two_other (two_0 (by assumption)) (by simp)) | (with_reducible exact two_other (two_1 (by assumption)) (by simp)) | (with_reducible exact two_0 (two_other (by assumption) (by simp))) | (with_reducible exact two_1 (two_other (by assumption) (by simp))) | (simp (maxDischargeDepth := 8) [go_sem, hHeld]; rfl) | (simp (maxDischargeDepth := 8) [go_sem, *]; rfl) | (simp (maxDischargeDepth := 8) [go_sem, *]; done))); refine ⟨ret_r ?_, by go_grown⟩; (rw [hp.out]))
  · have hp := hid (show divS al ah bl bh = (0, 0, 2) from if_neg (by omega))
    go_enter Tryd.func19, Tryd.ntmps19
    go_wp2_with (first | (go_at_call 69; refine use w (w.heap.size + 1 + 1 + 1) (both_any _ _ _ _ _ (by omega)) (by go_grown) (by go_size) ?_; rintro e w1 rfl hB1 hc1 hf1 hl1 hs1; have hl10 : w.heap.size < w1.heap.size := hl1 _ (by omega); have hl11 : w.heap.size + 1 < w1.heap.size := hl1 _ (by omega); have hl12 : w.heap.size + 1 + 1 < w1.heap.size := hl1 _ (by omega)))
    all_goals (refine' bodyPost_ret (res_st_t rfl isA_S isS_S rfl ?_ ?_) rfl ?_; rotate_left 2; (· ((try simp only [World.cell?_drew]); first | (with_reducible exact two_0 (by assumption)) | (with_reducible exact two_1 (by assumption)) | (with_reducible exact two_other (two_0 (by assumption)) (by simp)) | (with_reducible exact two_other (two_1 (by assumption)) (by simp)) | (with_reducible exact two_0 (two_other (by assumption) (by simp))) | (with_reducible exact two_1 (two_other (by assumption) (by simp))) | (simp (maxDischargeDepth := 8) [go_sem, hHeld]; rfl) | (simp (maxDischargeDepth := 8) [go_sem, *]; rfl) | (simp (maxDischargeDepth := 8) [go_sem, *]; done))); (· ((try simp only [World.cell?_drew]); first | (with_reducible exact two_0 (by assumption)) | (with_reducible exact two_1 (by assumption)) | (with_reducible exact two_other (two_0 (by assumption)) (by simp)) | (with_reducible exact two_other (two_1 (by assumption)) (by simp)) | (with_reducible exact two_0 (two_other (by assumption) (by simp))) | (with_reducible exact two_1 (two_other (by assumption) (by simp))) | (simp (maxDischargeDepth := 8) [go_sem, hHeld]; rfl) | (simp (maxDischargeDepth := 8) [go_sem, *]; rfl) | (simp (maxDischargeDepth := 8) [go_sem, *]; done))); refine ⟨ret_r ?_, by go_grown⟩; (rw [hp.out]))
def MD (Z Bl B : Nat) (al ah bl bh x y lo hi : Int) (k : Nat) (w' : World) : Prop := w'.cell? ⟨B, 0, none⟩ = some (.int .i64 al) ∧ w'.cell? ⟨B, 1, none⟩ = some (.int .i64 bl) ∧ w'.cell? ⟨B, 2, none⟩ = some (.int .i64 al) ∧ w'.cell? ⟨B, 3, none⟩ = some (.int .i64 bh) ∧ w'.cell? ⟨B, 4, none⟩ = some (.int .i64 ah) ∧ w'.cell? ⟨B, 5, none⟩ = some (.int .i64 bl) ∧ w'.cell? ⟨B, 6, none⟩ = some (.int .i64 ah) ∧ w'.cell? ⟨B, 7, none⟩ = some (.int .i64 bh) ∧ w'.cell? ⟨B, k * 2, none⟩ = some (.int .i64 x) ∧ w'.cell? ⟨B, k * 2 + 1, none⟩ = some (.int .i64 y) ∧ w'.cell? ⟨Z, 0, none⟩ = some (.int .i64 0) ∧ w'.cell? ⟨Z, 1, none⟩ = some (.int .i64 0) ∧ w'.frozen? ⟨Z, 0, none⟩ = false ∧ w'.frozen? ⟨Z, 1, none⟩ = false ∧ w'.cell? ⟨Bl, 0, none⟩ = some (.int .i64 (hiW lo)) ∧ w'.cell? ⟨Bl, 1, none⟩ = some (.int .u64 (loW lo)) ∧ w'.frozen? ⟨Bl, 0, none⟩ = false ∧ w'.frozen? ⟨Bl, 1, none⟩ = false ∧ w'.cell? ⟨Bl + 1, 0, none⟩ = some (.int .i64 (hiW hi)) ∧ w'.cell? ⟨Bl + 1, 1, none⟩ = some (.int .u64 (loW hi)) ∧ w'.frozen? ⟨Bl + 1, 0, none⟩ = false ∧ w'.frozen? ⟨Bl + 1, 1, none⟩ = false
theorem MD_keep {Z Bl B : Nat} {al ah bl bh x y lo hi : Int} {k : Nat} {w w1 : World} (h : MD Z Bl B al ah bl bh x y lo hi k w) (hk : ∀ b o v, w.cell? ⟨b, o, none⟩ = some v → w1.cell? ⟨b, o, none⟩ = some v) (hf : ∀ b o v, w.cell? ⟨b, o, none⟩ = some v → w.frozen? ⟨b, o, none⟩ = false → w1.frozen? ⟨b, o, none⟩ = false) : MD Z Bl B al ah bl bh x y lo hi k w1 :=
  ⟨hk _ _ _ (h.1), hk _ _ _ (h.2.1), hk _ _ _ (h.2.2.1), hk _ _ _ (h.2.2.2.1), hk _ _ _ (h.2.2.2.2.1), hk _ _ _ (h.2.2.2.2.2.1), hk _ _ _ (h.2.2.2.2.2.2.1), hk _ _ _ (h.2.2.2.2.2.2.2.1), hk _ _ _ (h.2.2.2.2.2.2.2.2.1), hk _ _ _ (h.2.2.2.2.2.2.2.2.2.1), hk _ _ _ (h.2.2.2.2.2.2.2.2.2.2.1), hk _ _ _ (h.2.2.2.2.2.2.2.2.2.2.2.1), hf _ _ _ (h.2.2.2.2.2.2.2.2.2.2.1) (h.2.2.2.2.2.2.2.2.2.2.2.2.1), hf _ _ _ (h.2.2.2.2.2.2.2.2.2.2.2.1) (h.2.2.2.2.2.2.2.2.2.2.2.2.2.1), hk _ _ _ (h.2.2.2.2.2.2.2.2.2.2.2.2.2.2.1), hk _ _ _ (h.2.2.2.2.2.2.2.2.2.2.2.2.2.2.2.1), hf _ _ _ (h.2.2.2.2.2.2.2.2.2.2.2.2.2.2.1) (h.2.2.2.2.2.2.2.2.2.2.2.2.2.2.2.2.1), hf _ _ _ (h.2.2.2.2.2.2.2.2.2.2.2.2.2.2.2.1) (h.2.2.2.2.2.2.2.2.2.2.2.2.2.2.2.2.2.1), hk _ _ _ (h.2.2.2.2.2.2.2.2.2.2.2.2.2.2.2.2.2.2.1), hk _ _ _ (h.2.2.2.2.2.2.2.2.2.2.2.2.2.2.2.2.2.2.2.1), hf _ _ _ (h.2.2.2.2.2.2.2.2.2.2.2.2.2.2.2.2.2.2.1) (h.2.2.2.2.2.2.2.2.2.2.2.2.2.2.2.2.2.2.2.2.1), hf _ _ _ (h.2.2.2.2.2.2.2.2.2.2.2.2.2.2.2.2.2.2.2.1) (h.2.2.2.2.2.2.2.2.2.2.2.2.2.2.2.2.2.2.2.2.2)⟩
theorem MD_alloc {Z Bl B : Nat} {al ah bl bh x y lo hi : Int} {k : Nat} {w : World} (o : Obj) (h : MD Z Bl B al ah bl bh x y lo hi k w) : MD Z Bl B al ah bl bh x y lo hi k (w.alloc o) :=
  ⟨keepA _ (h.1), keepA _ (h.2.1), keepA _ (h.2.2.1), keepA _ (h.2.2.2.1), keepA _ (h.2.2.2.2.1), keepA _ (h.2.2.2.2.2.1), keepA _ (h.2.2.2.2.2.2.1), keepA _ (h.2.2.2.2.2.2.2.1), keepA _ (h.2.2.2.2.2.2.2.2.1), keepA _ (h.2.2.2.2.2.2.2.2.2.1), keepA _ (h.2.2.2.2.2.2.2.2.2.2.1), keepA _ (h.2.2.2.2.2.2.2.2.2.2.2.1), keepAF _ (h.2.2.2.2.2.2.2.2.2.2.1) (h.2.2.2.2.2.2.2.2.2.2.2.2.1), keepAF _ (h.2.2.2.2.2.2.2.2.2.2.2.1) (h.2.2.2.2.2.2.2.2.2.2.2.2.2.1), keepA _ (h.2.2.2.2.2.2.2.2.2.2.2.2.2.2.1), keepA _ (h.2.2.2.2.2.2.2.2.2.2.2.2.2.2.2.1), keepAF _ (h.2.2.2.2.2.2.2.2.2.2.2.2.2.2.1) (h.2.2.2.2.2.2.2.2.2.2.2.2.2.2.2.2.1), keepAF _ (h.2.2.2.2.2.2.2.2.2.2.2.2.2.2.2.1) (h.2.2.2.2.2.2.2.2.2.2.2.2.2.2.2.2.2.1), keepA _ (h.2.2.2.2.2.2.2.2.2.2.2.2.2.2.2.2.2.2.1), keepA _ (h.2.2.2.2.2.2.2.2.2.2.2.2.2.2.2.2.2.2.2.1), keepAF _ (h.2.2.2.2.2.2.2.2.2.2.2.2.2.2.2.2.2.2.1) (h.2.2.2.2.2.2.2.2.2.2.2.2.2.2.2.2.2.2.2.2.1), keepAF _ (h.2.2.2.2.2.2.2.2.2.2.2.2.2.2.2.2.2.2.2.1) (h.2.2.2.2.2.2.2.2.2.2.2.2.2.2.2.2.2.2.2.2.2)⟩
theorem MD_lt {Z Bl B : Nat} {al ah bl bh x y lo hi : Int} {k : Nat} {w : World} (h : MD Z Bl B al ah bl bh x y lo hi k w) : B < w.heap.size ∧ Z < w.heap.size ∧ Bl < w.heap.size ∧ Bl + 1 < w.heap.size :=
  ⟨World.block_lt_of_cell? _ ⟨B, 0, none⟩ (h.1), World.block_lt_of_cell? _ ⟨Z, 0, none⟩ (h.2.2.2.2.2.2.2.2.2.2.1), World.block_lt_of_cell? _ ⟨Bl, 0, none⟩ (h.2.2.2.2.2.2.2.2.2.2.2.2.2.2.1), World.block_lt_of_cell? _ ⟨Bl + 1, 0, none⟩ (h.2.2.2.2.2.2.2.2.2.2.2.2.2.2.2.2.2.2.1)⟩
theorem MD_store {Z Bl B : Nat} {al ah bl bh x y lo hi : Int} {k : Nat} {w : World} {nb : Nat} {u9 v9 : Value} (h : MD Z Bl B al ah bl bh x y lo hi k w) (l0 : B < nb) (l1 : Z < nb) (l2 : Bl < nb) (l3 : Bl + 1 < nb) : MD Z Bl B al ah bl bh x y lo hi k ((w.setCell ⟨nb, 0, none⟩ u9).setCell ⟨nb, 1, none⟩ v9) :=
  ⟨two_other (h.1) (Nat.ne_of_gt l0), two_other (h.2.1) (Nat.ne_of_gt l0), two_other (h.2.2.1) (Nat.ne_of_gt l0), two_other (h.2.2.2.1) (Nat.ne_of_gt l0), two_other (h.2.2.2.2.1) (Nat.ne_of_gt l0), two_other (h.2.2.2.2.2.1) (Nat.ne_of_gt l0), two_other (h.2.2.2.2.2.2.1) (Nat.ne_of_gt l0), two_other (h.2.2.2.2.2.2.2.1) (Nat.ne_of_gt l0), two_other (h.2.2.2.2.2.2.2.2.1) (Nat.ne_of_gt l0), two_other (h.2.2.2.2.2.2.2.2.2.1) (Nat.ne_of_gt l0), two_other (h.2.2.2.2.2.2.2.2.2.2.1) (Nat.ne_of_gt l1), two_other (h.2.2.2.2.2.2.2.2.2.2.2.1) (Nat.ne_of_gt l1), two_fz (h.2.2.2.2.2.2.2.2.2.2.2.2.1), two_fz (h.2.2.2.2.2.2.2.2.2.2.2.2.2.1), two_other (h.2.2.2.2.2.2.2.2.2.2.2.2.2.2.1) (Nat.ne_of_gt l2), two_other (h.2.2.2.2.2.2.2.2.2.2.2.2.2.2.2.1) (Nat.ne_of_gt l2), two_fz (h.2.2.2.2.2.2.2.2.2.2.2.2.2.2.2.2.1), two_fz (h.2.2.2.2.2.2.2.2.2.2.2.2.2.2.2.2.2.1), two_other (h.2.2.2.2.2.2.2.2.2.2.2.2.2.2.2.2.2.2.1) (Nat.ne_of_gt l3), two_other (h.2.2.2.2.2.2.2.2.2.2.2.2.2.2.2.2.2.2.2.1) (Nat.ne_of_gt l3), two_fz (h.2.2.2.2.2.2.2.2.2.2.2.2.2.2.2.2.2.2.2.2.1), two_fz (h.2.2.2.2.2.2.2.2.2.2.2.2.2.2.2.2.2.2.2.2.2)⟩
end Go.Proofs.YtjleflfncijnpaaDoor
