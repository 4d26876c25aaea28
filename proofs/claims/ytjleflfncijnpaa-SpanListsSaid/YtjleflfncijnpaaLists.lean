/- Sum, Norm, of package span. -/
import Derived.Deep.DeepCutAuto
import Derived.Test.YtjleflfncijnpaaRows
import Derived.Test.YtjleflfncijnpaaBase
import Derived.Test.YtjleflfncijnpaaFacts
import Derived.Test.YtjleflfncijnpaaTwo
import Derived.Deep.RegionHeld3
import Derived.Deep.RegionWith
import Derived.Deep.QuietTactic
import Derived.BigQuiet
import Derived.Test.YtjleflfncijnpaaW
import Derived.Test.YtjleflfncijnpaaAsks
import Derived.Test.YtjleflfncijnpaaOut
import Derived.Test.YtjleflfncijnpaaSeq
import Derived.Test.YtjleflfncijnpaaTwo
import Derived.Test.YtjleflfncijnpaaOne
import Derived.Test.YtjleflfncijnpaaQuo
import Derived.Test.YtjleflfncijnpaaSums
import Derived.Test.YtjleflfncijnpaaScaleM
import Derived.Test.YtjleflfncijnpaaMul
import Derived.Test.YtjleflfncijnpaaRootM
import Derived.Test.YtjleflfncijnpaaRootT
import Derived.Test.YtjleflfncijnpaaListM
import Derived.Test.YtjleflfncijnpaaTake
import Derived.Test.YtjleflfncijnpaaFold
import Derived.Test.YtjleflfncijnpaaChkLists
set_option linter.unusedVariables false
set_option linter.unusedSimpArgs false
set_option maxHeartbeats 4000000
set_option maxRecDepth 100000
namespace Go.Proofs.Ytjleflfncijnpaa
open Go Go.RowKit
theorem SLp.sv {q : Option Addr} {l : List (Int × Int)} {w : World} {zs : List VS} (h : SLp q l w) (e : zs.map (·.1) = l) : SV w.heap.size q zs w := by
 rcases h with rfl | ⟨B, o, e1, hs⟩
 · exact .inl (List.map_eq_nil_iff.1 e)
 · by_cases c : zs = []
   · exact .inl c
   · refine .inr ⟨B, o, e1, ?_, by rw [e]; exact hs⟩
     have hl : 0 < l.length := by rw [← e, List.length_map]; exact List.length_pos_iff.2 c
     obtain ⟨p, hp⟩ := span_some hl
     exact hs.lt hp
theorem lift_vs : ∀ (l : List (Int × Int)), (∀ p ∈ l, (-9223372036854775808 ≤ p.1 ∧ p.1 ≤ 9223372036854775807) ∧ (-9223372036854775808 ≤ p.2 ∧ p.2 ≤ 9223372036854775807)) → ∃ zs : List VS, zs.map (·.1) = l
 | [], _ => ⟨[], rfl⟩
 | p :: l, h => by
  obtain ⟨zs, hz⟩ := lift_vs l fun x hx => h x (List.mem_cons_of_mem _ hx)
  exact ⟨⟨p, h p (List.mem_cons_self ..)⟩ :: zs, by rw [List.map_cons, hz]⟩
theorem run_map (f : Int × Int → Int × Int → Int × Int × Int) (zs : List VS) : runL (fun s (x : VS) => f s x.1) zs = runL f (zs.map (·.1)) := by
 unfold runL
 rw [List.foldl_map]
 rfl
theorem ents_one (q : Option Addr) (cap : Nat) (l : List (Int × Int)) : entsE [(q, cap, l)] = listE l := by
 unfold entsE listE
 simp
theorem sum_bad (q : Option Addr) (cap : Nat) (l : List (Int × Int)) (w : World) (hs : SLp q l w) (ee : Int) (he : ee ≠ 0) (R : Int × Int × Int) (hR : Hid (R = (0, 0, ee)))
 (K1 : Hid (∀ (B : Nat) (w : World), Ents B [(q, cap, l)] w → Calls Try.prog 108 #[.slice (some ⟨B, 0, none⟩) 1 1] w fun e w' => e = .returned (.int .i64 ee) ∧ Below w.heap.size w w')) :
 Calls Try.prog 69 #[.slice q l.length cap] w fun e w' => e = .returned (.tuple #[.agg #[.int .i64 R.1, .int .i64 R.2.1], .int .i64 R.2.2]) ∧ Below w.heap.size w w' := by
 have cb : (ee != 0) = true := by simpa using he
 go_enter Try.func69, Try.ntmps69
 go_wp2_with fail
 have hE : Ents (w.heap.size + 1) [(q, cap, l)] ((w.alloc (.cells #[.int .i64 0, .int .i64 0] 24)).alloc (.cells #[.slice q l.length cap] 68)) := fun i x hx => by
  cases i with
  | zero => simp at hx; subst hx; exact ⟨by simp [go_sem], (hs.alloc _).alloc _⟩
  | succ i => simp at hx
 refine useF w (K1.out _ _ hE) (by go_grown) ?_; rintro e w1 rfl hB1 hk1 hf1 hs1
 have z0 := hk1 w.heap.size 0 (.int .i64 0) (by simp [go_sem])
 have z1 := hk1 w.heap.size 1 (.int .i64 0) (by simp [go_sem])
 have zf0 := hf1 w.heap.size 0 (.int .i64 0) (by simp [go_sem]) (by simp [go_sem])
 have zf1 := hf1 w.heap.size 1 (.int .i64 0) (by simp [go_sem]) (by simp [go_sem])
 clear hk1 hf1 hE
 go_wp2_with fail
 all_goals (refine' bodyPost_ret (res_st_t rfl isA_S isS_S rfl ?_ ?_) rfl ?_; rotate_left 2; (· ((try simp only [World.cell?_drew]); first | (with_reducible exact two_0 (by assumption)) | (with_reducible exact two_1 (by assumption)) | (with_reducible exact two_other (two_0 (by assumption)) (by simp)) | (with_reducible exact two_other (two_1 (by assumption)) (by simp)) | (with_reducible exact two_0 (two_other (by assumption) (by simp))) | (with_reducible exact two_1 (two_other (by assumption) (by simp))) | (simp (maxDischargeDepth := 8) [go_sem, hHeld]; rfl) | (simp (maxDischargeDepth := 8) [go_sem, *]; rfl) | (simp (maxDischargeDepth := 8) [go_sem, *]; done))); (· ((try simp only [World.cell?_drew]); first | (with_reducible exact two_0 (by assumption)) | (with_reducible exact two_1 (by assumption)) | (with_reducible exact two_other (two_0 (by assumption)) (by simp)) | (with_reducible exact two_other (two_1 (by assumption)) (by simp)) | (with_reducible exact two_0 (two_other (by assumption) (by simp))) | (with_reducible exact two_1 (two_other (by assumption) (by simp))) | (simp (maxDischargeDepth := 8) [go_sem, hHeld]; rfl) | (simp (maxDischargeDepth := 8) [go_sem, *]; rfl) | (simp (maxDischargeDepth := 8) [go_sem, *]; done))); refine ⟨ret_r ?_, by go_grown⟩; (exact hR.out.symm))
theorem sum_ok (q : Option Addr) (cap : Nat) (l : List (Int × Int)) (w : World) (hs : SLp q l w) (r1 r2 r3 : Int) (R : Int × Int × Int) (hR : Hid (R = (r1, r2, r3)))
 (K1 : Hid (∀ (B : Nat) (w : World), Ents B [(q, cap, l)] w → Calls Try.prog 108 #[.slice (some ⟨B, 0, none⟩) 1 1] w fun e w' => e = .returned (.int .i64 0) ∧ Below w.heap.size w w'))
 (K2 : Hid (∀ (Bs : Nat) (w : World), w.cell? ⟨Bs, 0, none⟩ = some (.slice q l.length cap) → SLp q l w → Calls Try.prog 109 #[.func (.func 132) #[] #[.pointer (some ⟨Bs, 0, none⟩)], .func (.func 21) #[] #[]] w fun e w' => e = .returned (.tuple #[.agg #[.int .i64 r1, .int .i64 r2], .int .i64 r3 ]) ∧ Below w.heap.size w w')) :
 Calls Try.prog 69 #[.slice q l.length cap] w fun e w' => e = .returned (.tuple #[.agg #[.int .i64 R.1, .int .i64 R.2.1], .int .i64 R.2.2]) ∧ Below w.heap.size w w' := by
 go_enter Try.func69, Try.ntmps69
 go_wp2_with fail
 have hE : Ents (w.heap.size + 1) [(q, cap, l)] ((w.alloc (.cells #[.int .i64 0, .int .i64 0] 24)).alloc (.cells #[.slice q l.length cap] 68)) := fun i x hx => by
  cases i with
  | zero => simp at hx; subst hx; exact ⟨by simp [go_sem], (hs.alloc _).alloc _⟩
  | succ i => simp at hx
 have hs2 := (hs.alloc (.cells #[.int .i64 0, .int .i64 0] 24)).alloc (.cells #[.slice q l.length cap] 68)
 refine useF w (K1.out _ _ hE) (by go_grown) ?_; rintro e w1 rfl hB1 hk1 hf1 hs1
 have z0 := hk1 w.heap.size 0 (.int .i64 0) (by simp [go_sem])
 have z1 := hk1 w.heap.size 1 (.int .i64 0) (by simp [go_sem])
 have zf0 := hf1 w.heap.size 0 (.int .i64 0) (by simp [go_sem]) (by simp [go_sem])
 have zf1 := hf1 w.heap.size 1 (.int .i64 0) (by simp [go_sem]) (by simp [go_sem])
 replace hs2 := hs2.keep hk1
 have zb := World.block_lt_of_cell? _ _ z0
 dsimp only at zb
 clear hk1 hf1 hE hs
 go_wp2_with fail
 refine Calls.mono (values_any q l.length cap w1) ?_; rintro e w2 ⟨rfl, rfl⟩
 have hq : (w1.alloc (.cells #[.slice q l.length cap] 68)).cell? ⟨w1.heap.size, 0, none⟩ = some (.slice q l.length cap) := by simp [go_sem]
 have hs3 := hs2.alloc (.cells #[.slice q l.length cap] 68)
 replace zf0 := keepAF (.cells #[.slice q l.length cap] 68) z0 zf0; replace zf1 := keepAF (.cells #[.slice q l.length cap] 68) z1 zf1
 replace z0 := keepA (.cells #[.slice q l.length cap] 68) z0; replace z1 := keepA (.cells #[.slice q l.length cap] 68) z1
 clear hs2
 go_wp2_with fail
 refine useF w (K2.out _ _ hq hs3) (by go_grown) ?_; rintro e w4 rfl hB4 hk4 hf4 hs4
 replace zf0 := hf4 _ _ _ z0 zf0
 replace z0 := hk4 _ _ _ z0
 replace zf1 := hf4 _ _ _ z1 zf1
 replace z1 := hk4 _ _ _ z1
 (try clear zb); have zb := World.block_lt_of_cell? _ _ z0; (try dsimp only at zb)
 have hz4 := hB4.size
 clear hk4 hf4 hs4
 go_wp2_with fail
 all_goals (refine' bodyPost_ret (res_st_t rfl isA_S isS_S rfl ?_ ?_) rfl ?_; rotate_left 2; (· ((try simp only [World.cell?_drew]); first | (with_reducible exact two_0 (by assumption)) | (with_reducible exact two_1 (by assumption)) | (with_reducible exact two_other (two_0 (by assumption)) (by simp)) | (with_reducible exact two_other (two_1 (by assumption)) (by simp)) | (with_reducible exact two_0 (two_other (by assumption) (by simp))) | (with_reducible exact two_1 (two_other (by assumption) (by simp))) | (simp (maxDischargeDepth := 8) [go_sem, hHeld]; rfl) | (simp (maxDischargeDepth := 8) [go_sem, *]; rfl) | (simp (maxDischargeDepth := 8) [go_sem, *]; done))); (· ((try simp only [World.cell?_drew]); first | (with_reducible exact two_0 (by assumption)) | (with_reducible exact two_1 (by assumption)) | (with_reducible exact two_other (two_0 (by assumption)) (by simp)) | (with_reducible exact two_other (two_1 (by assumption)) (by simp)) | (with_reducible exact two_0 (two_other (by assumption) (by simp))) | (with_reducible exact two_1 (two_other (by assumption) (by simp))) | (simp (maxDischargeDepth := 8) [go_sem, hHeld]; rfl) | (simp (maxDischargeDepth := 8) [go_sem, *]; rfl) | (simp (maxDischargeDepth := 8) [go_sem, *]; done))); refine ⟨ret_r ?_, by go_grown⟩; (exact hR.out.symm))
theorem norm_bad (q : Option Addr) (cap : Nat) (l : List (Int × Int)) (w : World) (hs : SLp q l w) (ee : Int) (he : ee ≠ 0) (R : Int × Int × Int) (hR : Hid (R = (0, 0, ee)))
 (K1 : Hid (∀ (B : Nat) (w : World), Ents B [(q, cap, l)] w → Calls Try.prog 108 #[.slice (some ⟨B, 0, none⟩) 1 1] w fun e w' => e = .returned (.int .i64 ee) ∧ Below w.heap.size w w')) :
 Calls Try.prog 73 #[.slice q l.length cap] w fun e w' => e = .returned (.tuple #[.agg #[.int .i64 R.1, .int .i64 R.2.1], .int .i64 R.2.2]) ∧ Below w.heap.size w w' := by
 have cb : (ee != 0) = true := by simpa using he
 go_enter Try.func73, Try.ntmps73
 go_wp2_with fail
 have hE : Ents (w.heap.size + 1) [(q, cap, l)] ((w.alloc (.cells #[.int .i64 0, .int .i64 0] 24)).alloc (.cells #[.slice q l.length cap] 68)) := fun i x hx => by
  cases i with
  | zero => simp at hx; subst hx; exact ⟨by simp [go_sem], (hs.alloc _).alloc _⟩
  | succ i => simp at hx
 refine useF w (K1.out _ _ hE) (by go_grown) ?_; rintro e w1 rfl hB1 hk1 hf1 hs1
 have z0 := hk1 w.heap.size 0 (.int .i64 0) (by simp [go_sem])
 have z1 := hk1 w.heap.size 1 (.int .i64 0) (by simp [go_sem])
 have zf0 := hf1 w.heap.size 0 (.int .i64 0) (by simp [go_sem]) (by simp [go_sem])
 have zf1 := hf1 w.heap.size 1 (.int .i64 0) (by simp [go_sem]) (by simp [go_sem])
 clear hk1 hf1 hE
 go_wp2_with fail
 all_goals (refine' bodyPost_ret (res_st_t rfl isA_S isS_S rfl ?_ ?_) rfl ?_; rotate_left 2; (· ((try simp only [World.cell?_drew]); first | (with_reducible exact two_0 (by assumption)) | (with_reducible exact two_1 (by assumption)) | (with_reducible exact two_other (two_0 (by assumption)) (by simp)) | (with_reducible exact two_other (two_1 (by assumption)) (by simp)) | (with_reducible exact two_0 (two_other (by assumption) (by simp))) | (with_reducible exact two_1 (two_other (by assumption) (by simp))) | (simp (maxDischargeDepth := 8) [go_sem, hHeld]; rfl) | (simp (maxDischargeDepth := 8) [go_sem, *]; rfl) | (simp (maxDischargeDepth := 8) [go_sem, *]; done))); (· ((try simp only [World.cell?_drew]); first | (with_reducible exact two_0 (by assumption)) | (with_reducible exact two_1 (by assumption)) | (with_reducible exact two_other (two_0 (by assumption)) (by simp)) | (with_reducible exact two_other (two_1 (by assumption)) (by simp)) | (with_reducible exact two_0 (two_other (by assumption) (by simp))) | (with_reducible exact two_1 (two_other (by assumption) (by simp))) | (simp (maxDischargeDepth := 8) [go_sem, hHeld]; rfl) | (simp (maxDischargeDepth := 8) [go_sem, *]; rfl) | (simp (maxDischargeDepth := 8) [go_sem, *]; done))); refine ⟨ret_r ?_, by go_grown⟩; (exact hR.out.symm))
theorem norm_ok (q : Option Addr) (cap : Nat) (l : List (Int × Int)) (w : World) (hs : SLp q l w) (r1 r2 r3 t1 t2 t3 : Int) (R : Int × Int × Int) (hR : Hid (R = if r3 = 0 then (t1, t2, t3) else (0, 0, r3)))
 (K1 : Hid (∀ (B : Nat) (w : World), Ents B [(q, cap, l)] w → Calls Try.prog 108 #[.slice (some ⟨B, 0, none⟩) 1 1] w fun e w' => e = .returned (.int .i64 0) ∧ Below w.heap.size w w'))
 (K2 : Hid (∀ (Bs : Nat) (w : World), w.cell? ⟨Bs, 0, none⟩ = some (.slice q l.length cap) → SLp q l w → Calls Try.prog 109 #[.func (.func 132) #[] #[.pointer (some ⟨Bs, 0, none⟩)], .func (.func 115) #[] #[]] w fun e w' => e = .returned (.tuple #[.agg #[.int .i64 r1, .int .i64 r2], .int .i64 r3 ]) ∧ Below w.heap.size w w'))
 (K3 : Hid (r3 = 0 → ∀ w : World, Calls Try.prog 35 #[.agg #[.int .i64 r1, .int .i64 r2]] w fun e w' => e = .returned (.tuple #[.agg #[.int .i64 t1, .int .i64 t2], .int .i64 t3 ]) ∧ Below w.heap.size w w')) :
 Calls Try.prog 73 #[.slice q l.length cap] w fun e w' => e = .returned (.tuple #[.agg #[.int .i64 R.1, .int .i64 R.2.1], .int .i64 R.2.2]) ∧ Below w.heap.size w w' := by
 go_enter Try.func73, Try.ntmps73
 go_wp2_with fail
 have hE : Ents (w.heap.size + 1) [(q, cap, l)] ((w.alloc (.cells #[.int .i64 0, .int .i64 0] 24)).alloc (.cells #[.slice q l.length cap] 68)) := fun i x hx => by
  cases i with
  | zero => simp at hx; subst hx; exact ⟨by simp [go_sem], (hs.alloc _).alloc _⟩
  | succ i => simp at hx
 have hs2 := (hs.alloc (.cells #[.int .i64 0, .int .i64 0] 24)).alloc (.cells #[.slice q l.length cap] 68)
 refine useF w (K1.out _ _ hE) (by go_grown) ?_; rintro e w1 rfl hB1 hk1 hf1 hs1
 have z0 := hk1 w.heap.size 0 (.int .i64 0) (by simp [go_sem])
 have z1 := hk1 w.heap.size 1 (.int .i64 0) (by simp [go_sem])
 have zf0 := hf1 w.heap.size 0 (.int .i64 0) (by simp [go_sem]) (by simp [go_sem])
 have zf1 := hf1 w.heap.size 1 (.int .i64 0) (by simp [go_sem]) (by simp [go_sem])
 replace hs2 := hs2.keep hk1
 have zb := World.block_lt_of_cell? _ _ z0
 dsimp only at zb
 clear hk1 hf1 hE hs
 go_wp2_with fail
 refine Calls.mono (values_any q l.length cap w1) ?_; rintro e w2 ⟨rfl, rfl⟩
 have hq : (w1.alloc (.cells #[.slice q l.length cap] 68)).cell? ⟨w1.heap.size, 0, none⟩ = some (.slice q l.length cap) := by simp [go_sem]
 have hs3 := hs2.alloc (.cells #[.slice q l.length cap] 68)
 replace zf0 := keepAF (.cells #[.slice q l.length cap] 68) z0 zf0; replace zf1 := keepAF (.cells #[.slice q l.length cap] 68) z1 zf1
 replace z0 := keepA (.cells #[.slice q l.length cap] 68) z0; replace z1 := keepA (.cells #[.slice q l.length cap] 68) z1
 clear hs2
 go_wp2_with fail
 by_cases c : r3 = 0
 · subst c
   replace K3 := hid (K3.out rfl)
   replace hR := hid (hR.out.trans (if_pos rfl))
   refine useF w (K2.out _ _ hq hs3) (by go_grown) ?_; rintro e w4 rfl hB4 hk4 hf4 hs4
   replace zf0 := hf4 _ _ _ z0 zf0
   replace z0 := hk4 _ _ _ z0
   replace zf1 := hf4 _ _ _ z1 zf1
   replace z1 := hk4 _ _ _ z1
   (try clear zb); have zb := World.block_lt_of_cell? _ _ z0; (try dsimp only at zb)
   have hz4 := hB4.size
   clear hk4 hf4 hs4
   have hB4x : Below w.heap.size w (w4.alloc (.cells #[.int .i64 r1, .int .i64 r2] 24)) := by go_grown
   have zf0' := (keepAF (.cells #[.int .i64 r1, .int .i64 r2] 24) z0 zf0)
   have z0' := (keepA (.cells #[.int .i64 r1, .int .i64 r2] 24) z0)
   have zf1' := (keepAF (.cells #[.int .i64 r1, .int .i64 r2] 24) z1 zf1)
   have z1' := (keepA (.cells #[.int .i64 r1, .int .i64 r2] 24) z1)
   have m0 := (show (w4.alloc (.cells #[.int .i64 r1, .int .i64 r2] 24)).cell? ⟨w4.heap.size, 0, none⟩ = some (.int .i64 r1) by simp [go_sem])
   have mf0 := (show (w4.alloc (.cells #[.int .i64 r1, .int .i64 r2] 24)).frozen? ⟨w4.heap.size, 0, none⟩ = false by simp [go_sem])
   have m1 := (show (w4.alloc (.cells #[.int .i64 r1, .int .i64 r2] 24)).cell? ⟨w4.heap.size, 1, none⟩ = some (.int .i64 r2) by simp [go_sem])
   have mf1 := (show (w4.alloc (.cells #[.int .i64 r1, .int .i64 r2] 24)).frozen? ⟨w4.heap.size, 1, none⟩ = false by simp [go_sem])
   go_wp2_with fail
   replace zf0 := zf0'; clear zf0'
   replace z0 := z0'; clear z0'
   replace zf1 := zf1'; clear zf1'
   replace z1 := z1'; clear z1'
   have hz4x := hB4x.size
   generalize hv4 : (w4.alloc (.cells #[.int .i64 r1, .int .i64 r2] 24)) = v4 at *
   have mb := World.block_lt_of_cell? _ _ m0; (try dsimp only at mb)
   have zb4 := zb
   clear hv4 hB4
   generalize w4.heap.size = B4 at *
   refine useF w (K3.out _) (by go_grown) ?_; rintro e w5 rfl hB5 hk5 hf5 hs5
   replace zf0 := hf5 _ _ _ z0 zf0
   replace z0 := hk5 _ _ _ z0
   replace zf1 := hf5 _ _ _ z1 zf1
   replace z1 := hk5 _ _ _ z1
   (try clear zb); have zb := World.block_lt_of_cell? _ _ z0; (try dsimp only at zb)
   have hz5 := hB5.size
   clear hk5 hf5 hs5
   go_wp2_with fail
   all_goals (refine' bodyPost_ret (res_st_t rfl isA_S isS_S rfl ?_ ?_) rfl ?_; rotate_left 2; (· ((try simp only [World.cell?_drew]); first | (with_reducible exact two_0 (by assumption)) | (with_reducible exact two_1 (by assumption)) | (with_reducible exact two_other (two_0 (by assumption)) (by simp)) | (with_reducible exact two_other (two_1 (by assumption)) (by simp)) | (with_reducible exact two_0 (two_other (by assumption) (by simp))) | (with_reducible exact two_1 (two_other (by assumption) (by simp))) | (simp (maxDischargeDepth := 8) [go_sem, hHeld]; rfl) | (simp (maxDischargeDepth := 8) [go_sem, *]; rfl) | (simp (maxDischargeDepth := 8) [go_sem, *]; done))); (· ((try simp only [World.cell?_drew]); first | (with_reducible exact two_0 (by assumption)) | (with_reducible exact two_1 (by assumption)) | (with_reducible exact two_other (two_0 (by assumption)) (by simp)) | (with_reducible exact two_other (two_1 (by assumption)) (by simp)) | (with_reducible exact two_0 (two_other (by assumption) (by simp))) | (with_reducible exact two_1 (two_other (by assumption) (by simp))) | (simp (maxDischargeDepth := 8) [go_sem, hHeld]; rfl) | (simp (maxDischargeDepth := 8) [go_sem, *]; rfl) | (simp (maxDischargeDepth := 8) [go_sem, *]; done))); refine ⟨ret_r ?_, by go_grown⟩; (exact hR.out.symm))
 · replace hR := hid (hR.out.trans (if_neg c))
   have cb : (r3 != 0) = true := by simpa using c
   have ci : ¬ r3 = 0 := c
   clear K3
   refine useF w (K2.out _ _ hq hs3) (by go_grown) ?_; rintro e w4 rfl hB4 hk4 hf4 hs4
   replace zf0 := hf4 _ _ _ z0 zf0
   replace z0 := hk4 _ _ _ z0
   replace zf1 := hf4 _ _ _ z1 zf1
   replace z1 := hk4 _ _ _ z1
   (try clear zb); have zb := World.block_lt_of_cell? _ _ z0; (try dsimp only at zb)
   have hz4 := hB4.size
   clear hk4 hf4 hs4
   go_wp2_with fail
   all_goals (refine' bodyPost_ret (res_st_t rfl isA_S isS_S rfl ?_ ?_) rfl ?_; rotate_left 2; (· ((try simp only [World.cell?_drew]); first | (with_reducible exact two_0 (by assumption)) | (with_reducible exact two_1 (by assumption)) | (with_reducible exact two_other (two_0 (by assumption)) (by simp)) | (with_reducible exact two_other (two_1 (by assumption)) (by simp)) | (with_reducible exact two_0 (two_other (by assumption) (by simp))) | (with_reducible exact two_1 (two_other (by assumption) (by simp))) | (simp (maxDischargeDepth := 8) [go_sem, hHeld]; rfl) | (simp (maxDischargeDepth := 8) [go_sem, *]; rfl) | (simp (maxDischargeDepth := 8) [go_sem, *]; done))); (· ((try simp only [World.cell?_drew]); first | (with_reducible exact two_0 (by assumption)) | (with_reducible exact two_1 (by assumption)) | (with_reducible exact two_other (two_0 (by assumption)) (by simp)) | (with_reducible exact two_other (two_1 (by assumption)) (by simp)) | (with_reducible exact two_0 (two_other (by assumption) (by simp))) | (with_reducible exact two_1 (two_other (by assumption) (by simp))) | (simp (maxDischargeDepth := 8) [go_sem, hHeld]; rfl) | (simp (maxDischargeDepth := 8) [go_sem, *]; rfl) | (simp (maxDischargeDepth := 8) [go_sem, *]; done))); refine ⟨ret_r ?_, by go_grown⟩; (exact hR.out.symm))

theorem foldAdd_any (Bs cap : Nat) (q : Option Addr) (l : List (Int × Int)) (hl : l.length ≤ 64) (hb : ∀ p ∈ l, (-9223372036854775808 ≤ p.1 ∧ p.1 ≤ 9223372036854775807) ∧ (-9223372036854775808 ≤ p.2 ∧ p.2 ≤ 9223372036854775807)) (w : World) (hc : w.cell? ⟨Bs, 0, none⟩ = some (.slice q l.length cap)) (hI : SLp q l w) :
 Calls Try.prog 109 #[.func (.func 132) #[] #[.pointer (some ⟨Bs, 0, none⟩)], .func (.func 21) #[] #[]] w fun e w' => e = .returned (.tuple #[.agg #[.int .i64 ((runL takeA l).1), .int .i64 ((runL takeA l).2.1)], .int .i64 ((runL takeA l).2.2)]) ∧ Below w.heap.size w w' := by
 obtain ⟨zs, hz⟩ := lift_vs l hb
 have hn : zs.length = l.length := by rw [← hz, List.length_map]
 have h := callsIn_wide.1 (foldAdd_in 3 (by omega) Bs cap q zs (by omega) w (World.block_lt_of_cell? w ⟨Bs, 0, none⟩ hc) (by rw [hn]; exact hc) (hI.sv hz) (fun s x => takeA s x.1) (fun s x => takeA_box s x.1)
  (fun s x w h => add_any s.1 s.2 x.1.1 x.1.2 w ⟨h.1, h.2, x.2⟩))
 rw [run_map takeA zs, hz] at h
 exact h
theorem foldNorm_any (Bs cap : Nat) (q : Option Addr) (l : List (Int × Int)) (hl : l.length ≤ 64) (hb : ∀ p ∈ l, (-9223372036854775808 ≤ p.1 ∧ p.1 ≤ 9223372036854775807) ∧ (-9223372036854775808 ≤ p.2 ∧ p.2 ≤ 9223372036854775807)) (w : World) (hc : w.cell? ⟨Bs, 0, none⟩ = some (.slice q l.length cap)) (hI : SLp q l w) :
 Calls Try.prog 109 #[.func (.func 132) #[] #[.pointer (some ⟨Bs, 0, none⟩)], .func (.func 115) #[] #[]] w fun e w' => e = .returned (.tuple #[.agg #[.int .i64 ((runL takeQ l).1), .int .i64 ((runL takeQ l).2.1)], .int .i64 ((runL takeQ l).2.2)]) ∧ Below w.heap.size w w' := by
 obtain ⟨zs, hz⟩ := lift_vs l hb
 have hn : zs.length = l.length := by rw [← hz, List.length_map]
 have h := callsIn_wide.1 (foldNorm_in 3 (by omega) Bs cap q zs (by omega) w (World.block_lt_of_cell? w ⟨Bs, 0, none⟩ hc) (by rw [hn]; exact hc) (hI.sv hz) (fun s x => takeQ s x.1) (fun s x => takeQ_box s x.1)
  (fun s x w h => normTake_any s x.1 w ⟨h.1, h.2, x.2⟩))
 rw [run_map takeQ zs, hz] at h
 exact h
theorem chk_one (q : Option Addr) (cap : Nat) (l : List (Int × Int)) (hb : ∀ p ∈ l, (-9223372036854775808 ≤ p.1 ∧ p.1 ≤ 9223372036854775807) ∧ (-9223372036854775808 ≤ p.2 ∧ p.2 ≤ 9223372036854775807)) (hm : l.length ≤ 9223372036854775807) (B : Nat) (w : World) (h : Ents B [(q, cap, l)] w) :
 Calls Try.prog 108 #[.slice (some ⟨B, 0, none⟩) 1 1] w fun e w' => e = .returned (.int .i64 (listE l)) ∧ Below w.heap.size w w' :=
 checkLists_go [(q, cap, l)] B 1 w h (by simp) (fun e he p hp => by simp at he; subst he; exact hb p hp) (fun e he => by simp at he; subst he; exact hm) _ (ents_one q cap l).symm
theorem listE_len {l : List (Int × Int)} (h : listE l = 0) : l.length ≤ 64 := by
 by_cases c : 64 < l.length
 · rw [listE_long c] at h; cases h
 · omega
theorem sum_any (q : Option Addr) (cap : Nat) (l : List (Int × Int)) (w : World) (hs : SLp q l w) (hb : ∀ p ∈ l, (-9223372036854775808 ≤ p.1 ∧ p.1 ≤ 9223372036854775807) ∧ (-9223372036854775808 ≤ p.2 ∧ p.2 ≤ 9223372036854775807)) (hm : l.length ≤ 9223372036854775807) :
 Calls Try.prog 69 #[.slice q l.length cap] w fun e w' => e = .returned (.tuple #[.agg #[.int .i64 ((sumS l).1), .int .i64 ((sumS l).2.1)], .int .i64 ((sumS l).2.2)]) ∧ Below w.heap.size w w' := by
 by_cases c : listE l = 0
 · have hl := listE_len c
   refine sum_ok q cap l w hs (runL takeA l).1 (runL takeA l).2.1 (runL takeA l).2.2 _ (by unfold sumS; rw [if_pos c]; exact hid rfl) (fun B w h => ?_) (fun Bs w hc hI => foldAdd_any Bs cap q l hl hb w hc hI)
   have := chk_one q cap l hb hm B w h
   rw [c] at this
   exact this
 · exact sum_bad q cap l w hs (listE l) c _ (by unfold sumS; rw [if_neg c]; exact hid rfl) (fun B w h => chk_one q cap l hb hm B w h)
theorem norm_any (q : Option Addr) (cap : Nat) (l : List (Int × Int)) (w : World) (hs : SLp q l w) (hb : ∀ p ∈ l, (-9223372036854775808 ≤ p.1 ∧ p.1 ≤ 9223372036854775807) ∧ (-9223372036854775808 ≤ p.2 ∧ p.2 ≤ 9223372036854775807)) (hm : l.length ≤ 9223372036854775807) :
 Calls Try.prog 73 #[.slice q l.length cap] w fun e w' => e = .returned (.tuple #[.agg #[.int .i64 ((normS l).1), .int .i64 ((normS l).2.1)], .int .i64 ((normS l).2.2)]) ∧ Below w.heap.size w w' := by
 by_cases c : listE l = 0
 · have hl := listE_len c
   have hbx := run_box takeQ_box l
   unfold Bx at hbx
   refine norm_ok q cap l w hs (runL takeQ l).1 (runL takeQ l).2.1 (runL takeQ l).2.2 (rootS (runL takeQ l).1 (runL takeQ l).2.1).1 (rootS (runL takeQ l).1 (runL takeQ l).2.1).2.1 (rootS (runL takeQ l).1 (runL takeQ l).2.1).2.2 _ (by unfold normS rootE; rw [if_pos c]; exact hid rfl) (fun B w h => ?_) (fun Bs w hc hI => foldNorm_any Bs cap q l hl hb w hc hI)
    (fun _ w => root_any _ _ w (by omega))
   have := chk_one q cap l hb hm B w h
   rw [c] at this
   exact this
 · exact norm_bad q cap l w hs (listE l) c _ (by unfold normS; rw [if_neg c]; exact hid rfl) (fun B w h => chk_one q cap l hb hm B w h)
end Go.Proofs.Ytjleflfncijnpaa
