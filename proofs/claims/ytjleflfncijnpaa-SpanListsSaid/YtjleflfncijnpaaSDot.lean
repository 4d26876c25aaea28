/- Dot, of package span. -/
import Derived.Deep.DeepCutAuto
import Derived.Test.YtjleflfncijnpaaRows
import Derived.Test.YtjleflfncijnpaaBase
import Derived.Test.YtjleflfncijnpaaFacts
import Derived.Test.YtjleflfncijnpaaTwo
import Derived.Deep.RegionHeld3
import Derived.Deep.RegionWith
import Derived.Deep.QuietTactic
import Derived.BigQuiet
import Derived.Test.YtjleflfncijnpaaW
import Derived.Test.YtjleflfncijnpaaAsks
import Derived.Test.YtjleflfncijnpaaOut
import Derived.Test.YtjleflfncijnpaaSeq
import Derived.Test.YtjleflfncijnpaaTwo
import Derived.Test.YtjleflfncijnpaaOne
import Derived.Test.YtjleflfncijnpaaQuo
import Derived.Test.YtjleflfncijnpaaSums
import Derived.Test.YtjleflfncijnpaaScaleM
import Derived.Test.YtjleflfncijnpaaMul
import Derived.Test.YtjleflfncijnpaaRootM
import Derived.Test.YtjleflfncijnpaaRootT
import Derived.Test.YtjleflfncijnpaaListM
import Derived.Test.YtjleflfncijnpaaTake
import Derived.Test.YtjleflfncijnpaaFold
import Derived.Test.YtjleflfncijnpaaFoldP
import Derived.Test.YtjleflfncijnpaaChkLists
import Derived.Test.YtjleflfncijnpaaLists
set_option linter.unusedVariables false
set_option linter.unusedSimpArgs false
set_option maxHeartbeats 4000000
set_option maxRecDepth 100000
namespace Go.Proofs.Ytjleflfncijnpaa
open Go Go.RowKit
theorem ents_two (q1 q2 : Option Addr) (c1 c2 : Nat) (a b : List (Int × Int)) : entsE [(q1, c1, a), (q2, c2, b)] = if 64 < a.length ∨ 64 < b.length then 3 else if goodL a a.length = true ∧ goodL b b.length = true then 0 else 2 := by
  unfold entsE
  by_cases x1 : 64 < a.length <;> by_cases x2 : 64 < b.length <;> simp [x1, x2]
def twoE (a b : List (Int × Int)) : Int := if 64 < a.length ∨ 64 < b.length then 3 else if goodL a a.length = true ∧ goodL b b.length = true then 0 else 2
theorem ents_at {B : Nat} {q1 q2 : Option Addr} {c1 c2 : Nat} {a b : List (Int × Int)} {w : World} (h0 : w.cell? ⟨B, 0, none⟩ = some (.slice q1 a.length c1)) (h1 : w.cell? ⟨B, 1, none⟩ = some (.slice q2 b.length c2)) (ha : SLp q1 a w) (hb : SLp q2 b w) : Ents B [(q1, c1, a), (q2, c2, b)] w := fun i x hx => by
  match i, hx with
  | 0, hx => simp at hx; subst hx; exact ⟨h0, ha⟩
  | 1, hx => simp at hx; subst hx; exact ⟨h1, hb⟩
theorem sdot_bad (q1 q2 : Option Addr) (c1 c2 : Nat) (a b : List (Int × Int)) (w : World) (ha : SLp q1 a w) (hb : SLp q2 b w) (ee : Int) (he : ee ≠ 0) (R : Int × Int × Int) (hR : Hid (R = (0, 0, ee)))
    (K1 : Hid (∀ (B : Nat) (w : World), Ents B [(q1, c1, a), (q2, c2, b)] w → Calls Try.prog 108 #[.slice (some ⟨B, 0, none⟩) 2 2] w fun e w' => e = .returned (.int .i64 ee) ∧ Below w.heap.size w w')) :
    Calls Try.prog 71 #[.slice q1 a.length c1, .slice q2 b.length c2] w fun e w' => e = .returned (.tuple #[.agg #[.int .i64 R.1, .int .i64 R.2.1], .int .i64 R.2.2]) ∧ Below w.heap.size w w' := by
  have cb : (ee != 0) = true := by simpa using he
  go_enter Try.func71, Try.ntmps71
  go_wp2_with fail
  have hE : Ents (w.heap.size + 1) [(q1, c1, a), (q2, c2, b)] ((w.alloc (.cells #[.int .i64 0, .int .i64 0] 24)).alloc (.cells #[.slice q1 a.length c1, .slice q2 b.length c2] 68)) := ents_at (by simp [go_sem]) (by simp [go_sem]) ((ha.alloc _).alloc _) ((hb.alloc _).alloc _)
  refine useF w (K1.out _ _ hE) (by go_grown) ?_; rintro e w1 rfl hB1 hk1 hf1 hs1
  have z0 := hk1 w.heap.size 0 (.int .i64 0) (by simp [go_sem])
  have z1 := hk1 w.heap.size 1 (.int .i64 0) (by simp [go_sem])
  have zf0 := hf1 w.heap.size 0 (.int .i64 0) (by simp [go_sem]) (by simp [go_sem])
  have zf1 := hf1 w.heap.size 1 (.int .i64 0) (by simp [go_sem]) (by simp [go_sem])
  clear hk1 hf1 hE
  go_wp2_with fail
  all_goals (refine' bodyPost_ret (res_st_t rfl isA_S isS_S rfl ?_ ?_) rfl ?_; rotate_left 2; (· ((try simp only [World.cell?_drew]); first | (with_reducible exact two_0 (by assumption)) | (with_reducible exact two_1 (by assumption)) | (with_reducible exact two_other (two_0 (by assumption)) (by simp)) | (with_reducible exact two_other (two_1 (by assumption)) (by simp)) | (with_reducible exact two_0 (two_other (by assumption) (by simp))) | (with_reducible exact two_1 (two_other (by assumption) (by simp))) | (simp (maxDischargeDepth := 8) [go_sem, hHeld]; rfl) | (simp (maxDischargeDepth := 8) [go_sem, *]; rfl) | (simp (maxDischargeDepth := 8) [go_sem, *]; done))); (· ((try simp only [World.cell?_drew]); first | (with_reducible exact two_0 (by assumption)) | (with_reducible exact two_1 (by assumption)) | (with_reducible exact two_other (two_0 (by assumption)) (by simp)) | (with_reducible exact two_other (two_1 (by assumption)) (by simp)) | (with_reducible exact two_0 (two_other (by assumption) (by simp))) | (with_reducible exact two_1 (two_other (by assumption) (by simp))) | (simp (maxDischargeDepth := 8) [go_sem, hHeld]; rfl) | (simp (maxDischargeDepth := 8) [go_sem, *]; rfl) | (simp (maxDischargeDepth := 8) [go_sem, *]; done))); refine ⟨ret_r ?_, by go_grown⟩; (exact hR.out.symm))
theorem sdot_len (q1 q2 : Option Addr) (c1 c2 : Nat) (a b : List (Int × Int)) (w : World) (ha : SLp q1 a w) (hb : SLp q2 b w) (hn : a.length ≠ b.length) (R : Int × Int × Int) (hR : Hid (R = (0, 0, 2)))
    (K1 : Hid (∀ (B : Nat) (w : World), Ents B [(q1, c1, a), (q2, c2, b)] w → Calls Try.prog 108 #[.slice (some ⟨B, 0, none⟩) 2 2] w fun e w' => e = .returned (.int .i64 0) ∧ Below w.heap.size w w')) :
    Calls Try.prog 71 #[.slice q1 a.length c1, .slice q2 b.length c2] w fun e w' => e = .returned (.tuple #[.agg #[.int .i64 R.1, .int .i64 R.2.1], .int .i64 R.2.2]) ∧ Below w.heap.size w w' := by
  have f1 : ¬ (a.length : Int) = b.length := by omega
  have g1 : ((a.length : Int) != (b.length : Int)) = true := bne_iff_ne.2 f1
  have g2 : (a.length != b.length) = true := by simpa using hn
  go_enter Try.func71, Try.ntmps71
  go_wp2_with fail
  have hE : Ents (w.heap.size + 1) [(q1, c1, a), (q2, c2, b)] ((w.alloc (.cells #[.int .i64 0, .int .i64 0] 24)).alloc (.cells #[.slice q1 a.length c1, .slice q2 b.length c2] 68)) := ents_at (by simp [go_sem]) (by simp [go_sem]) ((ha.alloc _).alloc _) ((hb.alloc _).alloc _)
  refine useF w (K1.out _ _ hE) (by go_grown) ?_; rintro e w1 rfl hB1 hk1 hf1 hs1
  have z0 := hk1 w.heap.size 0 (.int .i64 0) (by simp [go_sem])
  have z1 := hk1 w.heap.size 1 (.int .i64 0) (by simp [go_sem])
  have zf0 := hf1 w.heap.size 0 (.int .i64 0) (by simp [go_sem]) (by simp [go_sem])
  have zf1 := hf1 w.heap.size 1 (.int .i64 0) (by simp [go_sem]) (by simp [go_sem])
  clear hk1 hf1 hE
  go_wp2_with fail
  all_goals (refine' bodyPost_ret (res_st_t rfl isA_S isS_S rfl ?_ ?_) rfl ?_; rotate_left 2; (· ((try simp only [World.cell?_drew]); first | (with_reducible exact two_0 (by assumption)) | (with_reducible exact two_1 (by assumption)) | (with_reducible exact two_other (two_0 (by assumption)) (by simp)) | (with_reducible exact two_other (two_1 (by assumption)) (by simp)) | (with_reducible exact two_0 (two_other (by assumption) (by simp))) | (with_reducible exact two_1 (two_other (by assumption) (by simp))) | (simp (maxDischargeDepth := 8) [go_sem, hHeld]; rfl) | (simp (maxDischargeDepth := 8) [go_sem, *]; rfl) | (simp (maxDischargeDepth := 8) [go_sem, *]; done))); (· ((try simp only [World.cell?_drew]); first | (with_reducible exact two_0 (by assumption)) | (with_reducible exact two_1 (by assumption)) | (with_reducible exact two_other (two_0 (by assumption)) (by simp)) | (with_reducible exact two_other (two_1 (by assumption)) (by simp)) | (with_reducible exact two_0 (two_other (by assumption) (by simp))) | (with_reducible exact two_1 (two_other (by assumption) (by simp))) | (simp (maxDischargeDepth := 8) [go_sem, hHeld]; rfl) | (simp (maxDischargeDepth := 8) [go_sem, *]; rfl) | (simp (maxDischargeDepth := 8) [go_sem, *]; done))); refine ⟨ret_r ?_, by go_grown⟩; (exact hR.out.symm))
theorem sdot_ok (q1 q2 : Option Addr) (n c1 c2 : Nat) (a b : List (Int × Int)) (w : World) (ha : SLp q1 a w) (hb : SLp q2 b w) (hna : Hid (a.length = n)) (hnb : Hid (b.length = n)) (r1 r2 r3 : Int) (R : Int × Int × Int) (hR : Hid (R = (r1, r2, r3)))
    (K1 : Hid (∀ (B : Nat) (w : World), Ents B [(q1, c1, a), (q2, c2, b)] w → Calls Try.prog 108 #[.slice (some ⟨B, 0, none⟩) 2 2] w fun e w' => e = .returned (.int .i64 0) ∧ Below w.heap.size w w'))
    (K2 : Hid (∀ (Ba Bb : Nat) (w : World), w.cell? ⟨Ba, 0, none⟩ = some (.slice q1 n c1) → w.cell? ⟨Bb, 0, none⟩ = some (.slice q2 n c2) → SLp q1 a w → SLp q2 b w → Calls Try.prog 112 #[.func (.func 133) #[] #[.pointer (some ⟨Ba, 0, none⟩), .pointer (some ⟨Bb, 0, none⟩)], .func (.func 114) #[] #[]] w fun e w' => e = .returned (.tuple #[.agg #[.int .i64 r1, .int .i64 r2], .int .i64 r3 ]) ∧ Below w.heap.size w w')) :
    Calls Try.prog 71 #[.slice q1 n c1, .slice q2 n c2] w fun e w' => e = .returned (.tuple #[.agg #[.int .i64 R.1, .int .i64 R.2.1], .int .i64 R.2.2]) ∧ Below w.heap.size w w' := by
  go_enter Try.func71, Try.ntmps71
  go_wp2_with fail
  have hE : Ents (w.heap.size + 1) [(q1, c1, a), (q2, c2, b)] ((w.alloc (.cells #[.int .i64 0, .int .i64 0] 24)).alloc (.cells #[.slice q1 n c1, .slice q2 n c2] 68)) := ents_at (by rw [hna.out]; simp [go_sem]) (by rw [hnb.out]; simp [go_sem]) ((ha.alloc _).alloc _) ((hb.alloc _).alloc _)
  have ha2 := (ha.alloc (.cells #[.int .i64 0, .int .i64 0] 24)).alloc (.cells #[.slice q1 n c1, .slice q2 n c2] 68)
  have hb2 := (hb.alloc (.cells #[.int .i64 0, .int .i64 0] 24)).alloc (.cells #[.slice q1 n c1, .slice q2 n c2] 68)
  refine useF w (K1.out _ _ hE) (by go_grown) ?_; rintro e w1 rfl hB1 hk1 hf1 hs1
  have z0 := hk1 w.heap.size 0 (.int .i64 0) (by simp [go_sem])
  have z1 := hk1 w.heap.size 1 (.int .i64 0) (by simp [go_sem])
  have zf0 := hf1 w.heap.size 0 (.int .i64 0) (by simp [go_sem]) (by simp [go_sem])
  have zf1 := hf1 w.heap.size 1 (.int .i64 0) (by simp [go_sem]) (by simp [go_sem])
  replace ha2 := ha2.keep hk1
  replace hb2 := hb2.keep hk1
  have zb := World.block_lt_of_cell? _ _ z0
  dsimp only at zb
  clear hk1 hf1 hE ha hb
  go_wp2_with fail
  refine Calls.mono (pairs_any q1 q2 n c1 n c2 w1) ?_; rintro e w2 ⟨rfl, rfl⟩
  have hqa : ((w1.alloc (.cells #[.slice q1 n c1] 68)).alloc (.cells #[.slice q2 n c2] 68)).cell? ⟨w1.heap.size, 0, none⟩ = some (.slice q1 n c1) := by simp [go_sem]
  have hqb : ((w1.alloc (.cells #[.slice q1 n c1] 68)).alloc (.cells #[.slice q2 n c2] 68)).cell? ⟨w1.heap.size + 1, 0, none⟩ = some (.slice q2 n c2) := by simp [go_sem]
  have ha3 := (ha2.alloc (.cells #[.slice q1 n c1] 68)).alloc (.cells #[.slice q2 n c2] 68)
  have hb3 := (hb2.alloc (.cells #[.slice q1 n c1] 68)).alloc (.cells #[.slice q2 n c2] 68)
  replace zf0 := keepAF (.cells #[.slice q2 n c2] 68) (keepA (.cells #[.slice q1 n c1] 68) z0) (keepAF (.cells #[.slice q1 n c1] 68) z0 zf0)
  replace zf1 := keepAF (.cells #[.slice q2 n c2] 68) (keepA (.cells #[.slice q1 n c1] 68) z1) (keepAF (.cells #[.slice q1 n c1] 68) z1 zf1)
  replace z0 := keepA (.cells #[.slice q2 n c2] 68) (keepA (.cells #[.slice q1 n c1] 68) z0)
  replace z1 := keepA (.cells #[.slice q2 n c2] 68) (keepA (.cells #[.slice q1 n c1] 68) z1)
  clear ha2 hb2
  go_wp2_with fail
  refine useF w (K2.out _ _ _ hqa hqb ha3 hb3) (by go_grown) ?_; rintro e w4 rfl hB4 hk4 hf4 hs4
  replace zf0 := hf4 _ _ _ z0 zf0
  replace z0 := hk4 _ _ _ z0
  replace zf1 := hf4 _ _ _ z1 zf1
  replace z1 := hk4 _ _ _ z1
  (try clear zb); have zb := World.block_lt_of_cell? _ _ z0; (try dsimp only at zb)
  have hz4 := hB4.size
  clear hk4 hf4 hs4
  go_wp2_with fail
  all_goals (refine' bodyPost_ret (res_st_t rfl isA_S isS_S rfl ?_ ?_) rfl ?_; rotate_left 2; (· ((try simp only [World.cell?_drew]); first | (with_reducible exact two_0 (by assumption)) | (with_reducible exact two_1 (by assumption)) | (with_reducible exact two_other (two_0 (by assumption)) (by simp)) | (with_reducible exact two_other (two_1 (by assumption)) (by simp)) | (with_reducible exact two_0 (two_other (by assumption) (by simp))) | (with_reducible exact two_1 (two_other (by assumption) (by simp))) | (simp (maxDischargeDepth := 8) [go_sem, hHeld]; rfl) | (simp (maxDischargeDepth := 8) [go_sem, *]; rfl) | (simp (maxDischargeDepth := 8) [go_sem, *]; done))); (· ((try simp only [World.cell?_drew]); first | (with_reducible exact two_0 (by assumption)) | (with_reducible exact two_1 (by assumption)) | (with_reducible exact two_other (two_0 (by assumption)) (by simp)) | (with_reducible exact two_other (two_1 (by assumption)) (by simp)) | (with_reducible exact two_0 (two_other (by assumption) (by simp))) | (with_reducible exact two_1 (two_other (by assumption) (by simp))) | (simp (maxDischargeDepth := 8) [go_sem, hHeld]; rfl) | (simp (maxDischargeDepth := 8) [go_sem, *]; rfl) | (simp (maxDischargeDepth := 8) [go_sem, *]; done))); refine ⟨ret_r ?_, by go_grown⟩; (exact hR.out.symm))
theorem lift_vp : ∀ (a b : List (Int × Int)), a.length = b.length → (∀ p ∈ a, (-9223372036854775808 ≤ p.1 ∧ p.1 ≤ 9223372036854775807) ∧ (-9223372036854775808 ≤ p.2 ∧ p.2 ≤ 9223372036854775807)) → (∀ p ∈ b, (-9223372036854775808 ≤ p.1 ∧ p.1 ≤ 9223372036854775807) ∧ (-9223372036854775808 ≤ p.2 ∧ p.2 ≤ 9223372036854775807)) → ∃ zs : List VP, zs.map (·.1.1) = a ∧ zs.map (·.1.2) = b
  | [], [], _, _, _ => ⟨[], rfl, rfl⟩
  | p :: a, q :: b, hl, ha, hb => by
    obtain ⟨zs, h1, h2⟩ := lift_vp a b (by simpa using hl) (fun x hx => ha x (List.mem_cons_of_mem _ hx)) (fun x hx => hb x (List.mem_cons_of_mem _ hx))
    have x1 := ha p (List.mem_cons_self ..)
    have x2 := hb q (List.mem_cons_self ..)
    exact ⟨⟨(p, q), ⟨x1.1, x1.2, x2⟩⟩ :: zs, by rw [List.map_cons, h1], by rw [List.map_cons, h2]⟩
theorem zip_of (zs : List VP) : zs.map (·.1) = (zs.map (·.1.1)).zip (zs.map (·.1.2)) := by
  induction zs with
  | nil => rfl
  | cons z zs ih => simp only [List.map_cons, List.zip_cons_cons, ih]
theorem run_mapP (f : Int × Int → (Int × Int) × Int × Int → Int × Int × Int) (zs : List VP) : runL (fun s (x : VP) => f s x.1) zs = runL f (zs.map (·.1)) := by
  unfold runL
  rw [List.foldl_map]
  rfl
theorem pv_of {q1 q2 : Option Addr} {a b : List (Int × Int)} {w : World} {zs : List VP} (ha : SLp q1 a w) (hb : SLp q2 b w) (e1 : zs.map (·.1.1) = a) (e2 : zs.map (·.1.2) = b) : PV w.heap.size q1 q2 zs w := by
  by_cases c : zs = []
  · exact .inl c
  · have hl : 0 < zs.length := List.length_pos_iff.2 c
    have la : 0 < a.length := by rw [← e1, List.length_map]; exact hl
    have lb : 0 < b.length := by rw [← e2, List.length_map]; exact hl
    rcases ha with rfl | ⟨B1, o1, f1, h1⟩
    · simp at la
    · rcases hb with rfl | ⟨B2, o2, f2, h2⟩
      · simp at lb
      · obtain ⟨p, hp⟩ := span_some la
        obtain ⟨p', hp'⟩ := span_some lb
        exact .inr ⟨B1, o1, B2, o2, f1, f2, h1.lt hp, h2.lt hp', by rw [e1]; exact h1, by rw [e2]; exact h2⟩
theorem foldDot_any (Ba Bb c1 c2 : Nat) (q1 q2 : Option Addr) (a b : List (Int × Int)) (n : Nat) (hna : a.length = n) (hnb : b.length = n) (hl : n ≤ 64) (hba : ∀ p ∈ a, (-9223372036854775808 ≤ p.1 ∧ p.1 ≤ 9223372036854775807) ∧ (-9223372036854775808 ≤ p.2 ∧ p.2 ≤ 9223372036854775807)) (hbb : ∀ p ∈ b, (-9223372036854775808 ≤ p.1 ∧ p.1 ≤ 9223372036854775807) ∧ (-9223372036854775808 ≤ p.2 ∧ p.2 ≤ 9223372036854775807)) (w : World) (hca : w.cell? ⟨Ba, 0, none⟩ = some (.slice q1 n c1)) (hcb : w.cell? ⟨Bb, 0, none⟩ = some (.slice q2 n c2)) (ha : SLp q1 a w) (hb : SLp q2 b w) :
    Calls Try.prog 112 #[.func (.func 133) #[] #[.pointer (some ⟨Ba, 0, none⟩), .pointer (some ⟨Bb, 0, none⟩)], .func (.func 114) #[] #[]] w fun e w' => e = .returned (.tuple #[.agg #[.int .i64 ((runL takeM (a.zip b)).1), .int .i64 ((runL takeM (a.zip b)).2.1)], .int .i64 ((runL takeM (a.zip b)).2.2)]) ∧ Below w.heap.size w w' := by
  obtain ⟨zs, e1, e2⟩ := lift_vp a b (by omega) hba hbb
  have hz : zs.length = n := by rw [← hna, ← e1, List.length_map]
  have h := callsIn_wide.1 (foldDot_in 3 (by omega) Ba Bb c1 c2 q1 q2 zs (by omega) w (World.block_lt_of_cell? w ⟨Ba, 0, none⟩ hca) (World.block_lt_of_cell? w ⟨Bb, 0, none⟩ hcb) (by rw [hz]; exact hca) (by rw [hz]; exact hcb) (pv_of ha hb e1 e2) (fun s x => takeM s x.1) (fun s x => takeM_box s x.1)
    (fun s x w h => dotTake_any s x.1 w ⟨h.1, h.2, x.2⟩))
  rw [run_mapP takeM zs, zip_of, e1, e2] at h
  exact h
theorem chk_two (q1 q2 : Option Addr) (c1 c2 : Nat) (a b : List (Int × Int)) (hba : ∀ p ∈ a, (-9223372036854775808 ≤ p.1 ∧ p.1 ≤ 9223372036854775807) ∧ (-9223372036854775808 ≤ p.2 ∧ p.2 ≤ 9223372036854775807)) (hbb : ∀ p ∈ b, (-9223372036854775808 ≤ p.1 ∧ p.1 ≤ 9223372036854775807) ∧ (-9223372036854775808 ≤ p.2 ∧ p.2 ≤ 9223372036854775807)) (hma : a.length ≤ 9223372036854775807) (hmb : b.length ≤ 9223372036854775807) (B : Nat) (w : World) (h : Ents B [(q1, c1, a), (q2, c2, b)] w) :
    Calls Try.prog 108 #[.slice (some ⟨B, 0, none⟩) 2 2] w fun e w' => e = .returned (.int .i64 (twoE a b)) ∧ Below w.heap.size w w' :=
  checkLists_go [(q1, c1, a), (q2, c2, b)] B 2 w h (by simp) (fun e he p hp => by simp at he; rcases he with rfl | rfl; exact hba p hp; exact hbb p hp) (fun e he => by simp at he; rcases he with rfl | rfl; exact hma; exact hmb) _ (ents_two q1 q2 c1 c2 a b).symm
theorem dot_any (q1 q2 : Option Addr) (c1 c2 : Nat) (a b : List (Int × Int)) (w : World) (ha : SLp q1 a w) (hb : SLp q2 b w) (hba : ∀ p ∈ a, (-9223372036854775808 ≤ p.1 ∧ p.1 ≤ 9223372036854775807) ∧ (-9223372036854775808 ≤ p.2 ∧ p.2 ≤ 9223372036854775807)) (hbb : ∀ p ∈ b, (-9223372036854775808 ≤ p.1 ∧ p.1 ≤ 9223372036854775807) ∧ (-9223372036854775808 ≤ p.2 ∧ p.2 ≤ 9223372036854775807)) (hma : a.length ≤ 9223372036854775807) (hmb : b.length ≤ 9223372036854775807) :
    Calls Try.prog 71 #[.slice q1 a.length c1, .slice q2 b.length c2] w fun e w' => e = .returned (.tuple #[.agg #[.int .i64 ((dotS a b).1), .int .i64 ((dotS a b).2.1)], .int .i64 ((dotS a b).2.2)]) ∧ Below w.heap.size w w' := by
  have K1 := chk_two q1 q2 c1 c2 a b hba hbb hma hmb
  by_cases c : twoE a b = 0
  · rw [c] at K1
    have hg : (¬ (64 < a.length ∨ 64 < b.length)) ∧ goodL a a.length = true ∧ goodL b b.length = true := by
      unfold twoE at c
      by_cases x : 64 < a.length ∨ 64 < b.length
      · rw [if_pos x] at c; cases c
      · rw [if_neg x] at c
        by_cases y : goodL a a.length = true ∧ goodL b b.length = true
        · exact ⟨x, y⟩
        · rw [if_neg y] at c; cases c
    by_cases d : a.length = b.length
    · have e : dotE a b = 0 := by unfold dotE; rw [if_neg hg.1, if_pos ⟨hg.2.1, hg.2.2, d⟩]
      have hl : a.length ≤ 64 := by omega
      have := sdot_ok q1 q2 a.length c1 c2 a b w ha hb (hid rfl) (hid d.symm) _ _ _ _ (hid (show dotS a b = ((runL takeM (a.zip b)).1, (runL takeM (a.zip b)).2.1, (runL takeM (a.zip b)).2.2) by unfold dotS; rw [if_pos e])) K1
        (fun Ba Bb w h1 h2 h3 h4 => foldDot_any Ba Bb c1 c2 q1 q2 a b a.length rfl d.symm hl hba hbb w h1 h2 h3 h4)
      rw [← d]
      exact this
    · have e : dotE a b = 2 := by unfold dotE; rw [if_neg hg.1, if_neg (fun h => d h.2.2)]
      exact sdot_len q1 q2 c1 c2 a b w ha hb d _ (hid (by unfold dotS; rw [e, if_neg (by omega)])) K1
  · have e : dotE a b = twoE a b := by
      unfold twoE at c ⊢
      unfold dotE
      by_cases x : 64 < a.length ∨ 64 < b.length
      · rw [if_pos x, if_pos x]
      · rw [if_neg x] at c ⊢
        rw [if_neg x]
        by_cases y : goodL a a.length = true ∧ goodL b b.length = true
        · rw [if_pos y] at c; exact absurd rfl c
        · rw [if_neg y, if_neg (fun h => y ⟨h.1, h.2.1⟩)]
    exact sdot_bad q1 q2 c1 c2 a b w ha hb (twoE a b) c _ (hid (by unfold dotS; rw [e, if_neg c])) K1
end Go.Proofs.Ytjleflfncijnpaa
