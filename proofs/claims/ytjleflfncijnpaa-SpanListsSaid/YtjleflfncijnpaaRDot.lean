/- Dot, of the document's answer. -/
import Derived.Deep.DeepCutAuto
import Derived.Deep.CutBlock
import Derived.Test.YtjleflfncijnpaaRows
import Derived.Test.YtjleflfncijnpaaBase
import Derived.Test.YtjleflfncijnpaaFacts
import Derived.Test.YtjleflfncijnpaaTwo
import Derived.Deep.RegionHeld3
import Derived.Deep.RegionWith
import Derived.Deep.QuietTactic
import Derived.BigQuiet
import Derived.Test.YtjleflfncijnpaaW
import Derived.Test.YtjleflfncijnpaaAsks
import Derived.Test.YtjleflfncijnpaaOut
import Derived.Test.YtjleflfncijnpaaSeq
import Derived.Test.YtjleflfncijnpaaTwo
import Derived.Test.YtjleflfncijnpaaOne
import Derived.Test.YtjleflfncijnpaaQuo
import Derived.Test.YtjleflfncijnpaaSums
import Derived.Test.YtjleflfncijnpaaSums2
import Derived.Test.YtjleflfncijnpaaScaleM
import Derived.Test.YtjleflfncijnpaaMul
import Derived.Test.YtjleflfncijnpaaMulR
import Derived.Test.YtjleflfncijnpaaRootM
import Derived.Test.YtjleflfncijnpaaRootT
import Derived.Test.YtjleflfncijnpaaRootR
import Derived.Test.YtjleflfncijnpaaListM
import Derived.Test.YtjleflfncijnpaaRList
import Derived.Test.YtjleflfncijnpaaRSum
set_option linter.unusedVariables false
set_option linter.unusedSimpArgs false
set_option maxHeartbeats 4000000
set_option maxRecDepth 100000
namespace Go.Proofs.Ytjleflfncijnpaa
open Go Go.RowKit
theorem rdot_long (q1 q2 : Option Addr) (n1 c1 n2 c2 : Nat) (w : World) (h : 64 < n1 ∨ 64 < n2) (R : Int × Int × Int) (hR : Hid (R = (0, 0, 3))) :
    Calls Try.prog 72 #[.slice q1 n1 c1, .slice q2 n2 c2] w fun e w' => e = .returned (.tuple #[.agg #[.int .i64 R.1, .int .i64 R.2.1], .int .i64 R.2.2]) ∧ Below w.heap.size w w' := by
  by_cases h1 : 64 < n1
  · have e1 : (64 : Int) < n1 := by omega
    have d1 : decide ((64 : Int) < n1) = true := decide_eq_true e1
    go_enter Try.func72, Try.ntmps72
    go_wp2_with fail
    all_goals (refine' bodyPost_ret (res_st_t rfl isA_S isS_S rfl ?_ ?_) rfl ?_; rotate_left 2; (· ((try simp only [World.cell?_drew]); first | (with_reducible exact two_0 (by assumption)) | (with_reducible exact two_1 (by assumption)) | (with_reducible exact two_other (two_0 (by assumption)) (by simp)) | (with_reducible exact two_other (two_1 (by assumption)) (by simp)) | (with_reducible exact two_0 (two_other (by assumption) (by simp))) | (with_reducible exact two_1 (two_other (by assumption) (by simp))) | (simp (maxDischargeDepth := 8) [go_sem, hHeld]; rfl) | (simp (maxDischargeDepth := 8) [go_sem, *]; rfl) | (simp (maxDischargeDepth := 8) [go_sem, *]; done))); (· ((try simp only [World.cell?_drew]); first | (with_reducible exact two_0 (by assumption)) | (with_reducible exact two_1 (by assumption)) | (with_reducible exact two_other (two_0 (by assumption)) (by simp)) | (with_reducible exact two_other (two_1 (by assumption)) (by simp)) | (with_reducible exact two_0 (two_other (by assumption) (by simp))) | (with_reducible exact two_1 (two_other (by assumption) (by simp))) | (simp (maxDischargeDepth := 8) [go_sem, hHeld]; rfl) | (simp (maxDischargeDepth := 8) [go_sem, *]; rfl) | (simp (maxDischargeDepth := 8) [go_sem, *]; done))); refine ⟨ret_r ?_, by go_grown⟩; (exact hR.out.symm))
  · have h2 : 64 < n2 := by omega
    have e1 : ¬ (64 : Int) < n1 := by omega
    have d1 : decide ((64 : Int) < n1) = false := decide_eq_false e1
    have e2 : (64 : Int) < n2 := by omega
    have d2 : decide ((64 : Int) < n2) = true := decide_eq_true e2
    go_enter Try.func72, Try.ntmps72
    go_wp2_with fail
    all_goals (refine' bodyPost_ret (res_st_t rfl isA_S isS_S rfl ?_ ?_) rfl ?_; rotate_left 2; (· ((try simp only [World.cell?_drew]); first | (with_reducible exact two_0 (by assumption)) | (with_reducible exact two_1 (by assumption)) | (with_reducible exact two_other (two_0 (by assumption)) (by simp)) | (with_reducible exact two_other (two_1 (by assumption)) (by simp)) | (with_reducible exact two_0 (two_other (by assumption) (by simp))) | (with_reducible exact two_1 (two_other (by assumption) (by simp))) | (simp (maxDischargeDepth := 8) [go_sem, hHeld]; rfl) | (simp (maxDischargeDepth := 8) [go_sem, *]; rfl) | (simp (maxDischargeDepth := 8) [go_sem, *]; done))); (· ((try simp only [World.cell?_drew]); first | (with_reducible exact two_0 (by assumption)) | (with_reducible exact two_1 (by assumption)) | (with_reducible exact two_other (two_0 (by assumption)) (by simp)) | (with_reducible exact two_other (two_1 (by assumption)) (by simp)) | (with_reducible exact two_0 (two_other (by assumption) (by simp))) | (with_reducible exact two_1 (two_other (by assumption) (by simp))) | (simp (maxDischargeDepth := 8) [go_sem, hHeld]; rfl) | (simp (maxDischargeDepth := 8) [go_sem, *]; rfl) | (simp (maxDischargeDepth := 8) [go_sem, *]; done))); refine ⟨ret_r ?_, by go_grown⟩; (exact hR.out.symm))
theorem rdot_bad (q1 q2 : Option Addr) (n1 c1 n2 c2 : Nat) (w : World) (h1 : n1 ≤ 64) (h2 : n2 ≤ 64) (R : Int × Int × Int) (hR : Hid (R = (0, 0, 2))) (T : World → Prop) (hT : T w) (hTa : Hid (∀ W x, T W → T (W.alloc x))) (hTb : Hid (∀ W W', T W → (∀ b o v, W.cell? ⟨b, o, none⟩ = some v → W'.cell? ⟨b, o, none⟩ = some v) → T W'))
    (ea eb : Int)
    (K1 : Hid (∀ w : World, T w → Calls Try.prog 111 #[.slice q1 n1 c1] w fun e w' => e = .returned (.int .i64 ea) ∧ Below w.heap.size w w'))
    (K2 : Hid (∀ w : World, T w → Calls Try.prog 111 #[.slice q2 n2 c2] w fun e w' => e = .returned (.int .i64 eb) ∧ Below w.heap.size w w')) (he : ea ≠ 0 ∨ eb ≠ 0 ∨ n1 ≠ n2) :
    Calls Try.prog 72 #[.slice q1 n1 c1, .slice q2 n2 c2] w fun e w' => e = .returned (.tuple #[.agg #[.int .i64 R.1, .int .i64 R.2.1], .int .i64 R.2.2]) ∧ Below w.heap.size w w' := by
  have hT2 := hid (hTa.out _ (.cells #[.int .i64 0, .int .i64 0] 24) hT)
  have e1 : ¬ (64 : Int) < n1 := by omega
  have d1 : decide ((64 : Int) < n1) = false := decide_eq_false e1
  have e2 : ¬ (64 : Int) < n2 := by omega
  have d2 : decide ((64 : Int) < n2) = false := decide_eq_false e2
  by_cases ca : ea = 0
  · subst ca
    by_cases cb : eb = 0
    · subst cb
      have hn : n1 ≠ n2 := by omega
      have f1 : ¬ (n1 : Int) = n2 := by omega
      have g1 : ((n1 : Int) != (n2 : Int)) = true := bne_iff_ne.2 f1
      have g2 : (n1 != n2) = true := by simpa using hn
      clear he
      go_enter Try.func72, Try.ntmps72
      go_wp2_with fail
      refine useF w (K1.out _ hT2.out) (by go_grown) ?_; rintro e w1 rfl hB1 hk1 hf1 hs1
      have z0 := hk1 w.heap.size 0 (.int .i64 0) (by simp [go_sem])
      have z1 := hk1 w.heap.size 1 (.int .i64 0) (by simp [go_sem])
      have zf0 := hf1 w.heap.size 0 (.int .i64 0) (by simp [go_sem]) (by simp [go_sem])
      have zf1 := hf1 w.heap.size 1 (.int .i64 0) (by simp [go_sem]) (by simp [go_sem])
      have hT3 := hid (hTb.out _ _ hT2.out hk1)
      clear hk1 hf1
      go_wp2_with fail
      refine useF w (K2.out _ hT3.out) (by go_grown) ?_; rintro e w2 rfl hB2 hk2 hf2 hs2
      replace zf0 := hf2 _ _ _ z0 zf0
      replace z0 := hk2 _ _ _ z0
      replace zf1 := hf2 _ _ _ z1 zf1
      replace z1 := hk2 _ _ _ z1
      (try clear zb); have zb := World.block_lt_of_cell? _ _ z0; (try dsimp only at zb)
      have hz2 := hB2.size
      clear hk2 hf2 hs2
      go_wp2_with fail
      all_goals (refine' bodyPost_ret (res_st_t rfl isA_S isS_S rfl ?_ ?_) rfl ?_; rotate_left 2; (· ((try simp only [World.cell?_drew]); first | (with_reducible exact two_0 (by assumption)) | (with_reducible exact two_1 (by assumption)) | (with_reducible exact two_other (two_0 (by assumption)) (by simp)) | (with_reducible exact two_other (two_1 (by assumption)) (by simp)) | (with_reducible exact two_0 (two_other (by assumption) (by simp))) | (with_reducible exact two_1 (two_other (by assumption) (by simp))) | (simp (maxDischargeDepth := 8) [go_sem, hHeld]; rfl) | (simp (maxDischargeDepth := 8) [go_sem, *]; rfl) | (simp (maxDischargeDepth := 8) [go_sem, *]; done))); (· ((try simp only [World.cell?_drew]); first | (with_reducible exact two_0 (by assumption)) | (with_reducible exact two_1 (by assumption)) | (with_reducible exact two_other (two_0 (by assumption)) (by simp)) | (with_reducible exact two_other (two_1 (by assumption)) (by simp)) | (with_reducible exact two_0 (two_other (by assumption) (by simp))) | (with_reducible exact two_1 (two_other (by assumption) (by simp))) | (simp (maxDischargeDepth := 8) [go_sem, hHeld]; rfl) | (simp (maxDischargeDepth := 8) [go_sem, *]; rfl) | (simp (maxDischargeDepth := 8) [go_sem, *]; done))); refine ⟨ret_r ?_, by go_grown⟩; (exact hR.out.symm))
    · have g1 : (eb != 0) = true := by simpa using cb
      clear he
      go_enter Try.func72, Try.ntmps72
      go_wp2_with fail
      refine useF w (K1.out _ hT2.out) (by go_grown) ?_; rintro e w1 rfl hB1 hk1 hf1 hs1
      have z0 := hk1 w.heap.size 0 (.int .i64 0) (by simp [go_sem])
      have z1 := hk1 w.heap.size 1 (.int .i64 0) (by simp [go_sem])
      have zf0 := hf1 w.heap.size 0 (.int .i64 0) (by simp [go_sem]) (by simp [go_sem])
      have zf1 := hf1 w.heap.size 1 (.int .i64 0) (by simp [go_sem]) (by simp [go_sem])
      have hT3 := hid (hTb.out _ _ hT2.out hk1)
      clear hk1 hf1
      go_wp2_with fail
      refine useF w (K2.out _ hT3.out) (by go_grown) ?_; rintro e w2 rfl hB2 hk2 hf2 hs2
      replace zf0 := hf2 _ _ _ z0 zf0
      replace z0 := hk2 _ _ _ z0
      replace zf1 := hf2 _ _ _ z1 zf1
      replace z1 := hk2 _ _ _ z1
      (try clear zb); have zb := World.block_lt_of_cell? _ _ z0; (try dsimp only at zb)
      have hz2 := hB2.size
      clear hk2 hf2 hs2
      go_wp2_with fail
      all_goals (refine' bodyPost_ret (res_st_t rfl isA_S isS_S rfl ?_ ?_) rfl ?_; rotate_left 2; (· ((try simp only [World.cell?_drew]); first | (with_reducible exact two_0 (by assumption)) | (with_reducible exact two_1 (by assumption)) | (with_reducible exact two_other (two_0 (by assumption)) (by simp)) | (with_reducible exact two_other (two_1 (by assumption)) (by simp)) | (with_reducible exact two_0 (two_other (by assumption) (by simp))) | (with_reducible exact two_1 (two_other (by assumption) (by simp))) | (simp (maxDischargeDepth := 8) [go_sem, hHeld]; rfl) | (simp (maxDischargeDepth := 8) [go_sem, *]; rfl) | (simp (maxDischargeDepth := 8) [go_sem, *]; done))); (· ((try simp only [World.cell?_drew]); first | (with_reducible exact two_0 (by assumption)) | (with_reducible exact two_1 (by assumption)) | (with_reducible exact two_other (two_0 (by assumption)) (by simp)) | (with_reducible exact two_other (two_1 (by assumption)) (by simp)) | (with_reducible exact two_0 (two_other (by assumption) (by simp))) | (with_reducible exact two_1 (two_other (by assumption) (by simp))) | (simp (maxDischargeDepth := 8) [go_sem, hHeld]; rfl) | (simp (maxDischargeDepth := 8) [go_sem, *]; rfl) | (simp (maxDischargeDepth := 8) [go_sem, *]; done))); refine ⟨ret_r ?_, by go_grown⟩; (exact hR.out.symm))
  · have g1 : (ea != 0) = true := by simpa using ca
    clear he
    go_enter Try.func72, Try.ntmps72
    go_wp2_with fail
    refine useF w (K1.out _ hT2.out) (by go_grown) ?_; rintro e w1 rfl hB1 hk1 hf1 hs1
    have z0 := hk1 w.heap.size 0 (.int .i64 0) (by simp [go_sem])
    have z1 := hk1 w.heap.size 1 (.int .i64 0) (by simp [go_sem])
    have zf0 := hf1 w.heap.size 0 (.int .i64 0) (by simp [go_sem]) (by simp [go_sem])
    have zf1 := hf1 w.heap.size 1 (.int .i64 0) (by simp [go_sem]) (by simp [go_sem])
    clear hk1 hf1
    go_wp2_with fail
    all_goals (refine' bodyPost_ret (res_st_t rfl isA_S isS_S rfl ?_ ?_) rfl ?_; rotate_left 2; (· ((try simp only [World.cell?_drew]); first | (with_reducible exact two_0 (by assumption)) | (with_reducible exact two_1 (by assumption)) | (with_reducible exact two_other (two_0 (by assumption)) (by simp)) | (with_reducible exact two_other (two_1 (by assumption)) (by simp)) | (with_reducible exact two_0 (two_other (by assumption) (by simp))) | (with_reducible exact two_1 (two_other (by assumption) (by simp))) | (simp (maxDischargeDepth := 8) [go_sem, hHeld]; rfl) | (simp (maxDischargeDepth := 8) [go_sem, *]; rfl) | (simp (maxDischargeDepth := 8) [go_sem, *]; done))); (· ((try simp only [World.cell?_drew]); first | (with_reducible exact two_0 (by assumption)) | (with_reducible exact two_1 (by assumption)) | (with_reducible exact two_other (two_0 (by assumption)) (by simp)) | (with_reducible exact two_other (two_1 (by assumption)) (by simp)) | (with_reducible exact two_0 (two_other (by assumption) (by simp))) | (with_reducible exact two_1 (two_other (by assumption) (by simp))) | (simp (maxDischargeDepth := 8) [go_sem, hHeld]; rfl) | (simp (maxDischargeDepth := 8) [go_sem, *]; rfl) | (simp (maxDischargeDepth := 8) [go_sem, *]; done))); refine ⟨ret_r ?_, by go_grown⟩; (exact hR.out.symm))
/-- The cells of the result and of the sum so far. -/
theorem rdot_go (a b : List (Int × Int)) (B1 o1 c1 B2 o2 c2 : Nat) (w : World) (ha : Spans B1 o1 a w) (hb : Spans B2 o2 b w) (hn : 1 ≤ a.length ∧ a.length ≤ 64) (hab : a.length = b.length) (hba : Hid (∀ p ∈ a, (-9223372036854775808 ≤ p.1 ∧ p.1 ≤ 9223372036854775807) ∧ (-9223372036854775808 ≤ p.2 ∧ p.2 ≤ 9223372036854775807))) (hbb : Hid (∀ p ∈ b, (-9223372036854775808 ≤ p.1 ∧ p.1 ≤ 9223372036854775807) ∧ (-9223372036854775808 ≤ p.2 ∧ p.2 ≤ 9223372036854775807))) (R : Int × Int × Int) (hR : Hid (R = runL takeM (a.zip b)))
    (K1 : Hid (∀ w : World, Spans B1 o1 a w → Calls Try.prog 111 #[.slice (some ⟨B1, o1, none⟩) a.length c1] w fun e w' => e = .returned (.int .i64 0) ∧ Below w.heap.size w w'))
    (K2 : Hid (∀ w : World, Spans B2 o2 b w → Calls Try.prog 111 #[.slice (some ⟨B2, o2, none⟩) b.length c2] w fun e w' => e = .returned (.int .i64 0) ∧ Below w.heap.size w w')) :
    Calls Try.prog 72 #[.slice (some ⟨B1, o1, none⟩) a.length c1, .slice (some ⟨B2, o2, none⟩) b.length c2] w fun e w' => e = .returned (.tuple #[.agg #[.int .i64 R.1, .int .i64 R.2.1], .int .i64 R.2.2]) ∧ Below w.heap.size w w' := by
  have hB1w : B1 < w.heap.size := by obtain ⟨p, hp⟩ := span_some (show 0 < a.length by omega); exact ha.lt hp
  have hB2w : B2 < w.heap.size := by obtain ⟨p, hp⟩ := span_some (show 0 < b.length by omega); exact hb.lt hp
  have ha2 := hid (ha.alloc (.cells #[.int .i64 0, .int .i64 0] 24))
  have hb2 := hid (hb.alloc (.cells #[.int .i64 0, .int .i64 0] 24))
  rw [← hab] at K2 ⊢
  replace hab := hid hab
  have e1 : ¬ (64 : Int) < a.length := by omega
  have d1 : decide ((64 : Int) < a.length) = false := decide_eq_false e1
  clear ha hb
  go_enter Try.func72, Try.ntmps72
  go_wp2_with fail
  refine useF w (K1.out _ ha2.out) (by go_grown) ?_; rintro e w1 rfl hBq hk1 hf1 hs1
  have z0 := hk1 w.heap.size 0 (.int .i64 0) (by simp [go_sem])
  have z1 := hk1 w.heap.size 1 (.int .i64 0) (by simp [go_sem])
  have zf0 := hf1 w.heap.size 0 (.int .i64 0) (by simp [go_sem]) (by simp [go_sem])
  have zf1 := hf1 w.heap.size 1 (.int .i64 0) (by simp [go_sem]) (by simp [go_sem])
  have ha := ha2.out.keep hk1
  have hb := hb2.out.keep hk1
  have zb := World.block_lt_of_cell? _ _ z0
  dsimp only at zb
  clear hk1 hf1 ha2 hb2
  go_wp2_with fail
  refine useF w (K2.out _ hb) (by go_grown) ?_; rintro e w2 rfl hB2 hk2 hf2 hs2
  replace zf0 := hf2 _ _ _ z0 zf0
  replace z0 := hk2 _ _ _ z0
  replace zf1 := hf2 _ _ _ z1 zf1
  replace z1 := hk2 _ _ _ z1
  (try clear zb); have zb := World.block_lt_of_cell? _ _ z0; (try dsimp only at zb)
  replace ha := (ha).keep hk2
  replace hb := (hb).keep hk2
  have hz2 := hB2.size
  clear hk2 hf2 hs2
  go_upto_region 6 with fail
  replace ha := ha.alloc (.cells #[.int .i64 0, .int .i64 0] 24)
  replace hb := hb.alloc (.cells #[.int .i64 0, .int .i64 0] 24)
  have hwb := zb
  have hRS : RS w.heap.size w2.heap.size 0 0 (w2.alloc (.cells #[.int .i64 0, .int .i64 0] 24)) := ⟨keepA _ z0, keepA _ z1, keepAF _ z0 zf0, keepAF _ z1 zf1, by simp [go_sem], by simp [go_sem], by simp [go_sem], by simp [go_sem]⟩
  have hBx2 : Below w.heap.size w (w2.alloc (.cells #[.int .i64 0, .int .i64 0] 24)) := by go_grown
  clear z0 z1 zf0 zf1
  have hBb1 : B1 < w2.heap.size := by omega
  have hBb2 : B2 < w2.heap.size := by omega
  generalize (w2.alloc (.cells #[.int .i64 0, .int .i64 0] 24)) = W2 at *
  generalize w2.heap.size = Bs at *
  clear hBq hB2
  go_wp2_with fail
  go_loopw [7] (fun s wx => ∃ k : Nat, s = .int .i64 k ∧ k ≤ a.length ∧ Hid ((runL takeM ((a.zip b).take k)).2.2 = 0) ∧ Spans B1 o1 a wx ∧ Spans B2 o2 b wx ∧ RS w.heap.size Bs (runL takeM ((a.zip b).take k)).1 (runL takeM ((a.zip b).take k)).2.1 wx ∧ Below w.heap.size w wx) (fun s _ => (a.length - intOf s).toNat)
  case atStart => exact ⟨0, rfl, by omega, hid rfl, ha, hb, hRS, hBx2⟩
  case round =>
    clear ha hb hRS hBx2
    obtain ⟨k, rfl, hk, hz, ha, hb, ⟨z0, z1, zf0, zf1, s0, s1, sf0, sf1⟩, hB⟩ := hrel
    have hbx := run_box takeM_box ((a.zip b).take k)
    have hzr := hB.size
    have hsb := World.block_lt_of_cell? _ _ s0
    dsimp only at hsb
    by_cases ke : k = a.length
    · have hall : runL takeM ((a.zip b).take k) = runL takeM (a.zip b) := by rw [List.take_of_length_le]; rw [List.length_zip, ← hab.out]; omega
      rw [hall] at s0 s1 hz hbx
      have kk : ¬ (k : Int) < a.length := by omega
      have kd : decide ((k : Int) < a.length) = false := decide_eq_false kk
      clear hall
      generalize runL takeM (a.zip b) = S at *
      obtain ⟨x, y, e⟩ := S
      unfold Bx at hbx
      dsimp only at s0 s1 hbx
      have he : e = 0 := hz.out
      subst he
      clear ha hb ke hbx
      go_wp2_with fail
      all_goals (refine' bodyPost_ret (res_st_t rfl isA_S isS_S rfl ?_ ?_) rfl ?_; rotate_left 2; (· ((try simp only [World.cell?_drew]); first | (with_reducible exact two_0 (by assumption)) | (with_reducible exact two_1 (by assumption)) | (with_reducible exact two_other (two_0 (by assumption)) (by simp)) | (with_reducible exact two_other (two_1 (by assumption)) (by simp)) | (with_reducible exact two_0 (two_other (by assumption) (by simp))) | (with_reducible exact two_1 (two_other (by assumption) (by simp))) | (simp (maxDischargeDepth := 8) [go_sem, hHeld]; rfl) | (simp (maxDischargeDepth := 8) [go_sem, *]; rfl) | (simp (maxDischargeDepth := 8) [go_sem, *]; done))); (· ((try simp only [World.cell?_drew]); first | (with_reducible exact two_0 (by assumption)) | (with_reducible exact two_1 (by assumption)) | (with_reducible exact two_other (two_0 (by assumption)) (by simp)) | (with_reducible exact two_other (two_1 (by assumption)) (by simp)) | (with_reducible exact two_0 (two_other (by assumption) (by simp))) | (with_reducible exact two_1 (two_other (by assumption) (by simp))) | (simp (maxDischargeDepth := 8) [go_sem, hHeld]; rfl) | (simp (maxDischargeDepth := 8) [go_sem, *]; rfl) | (simp (maxDischargeDepth := 8) [go_sem, *]; done))); refine ⟨ret_r ?_, by go_grown⟩; (exact hR.out.symm))
    · have hk1 : k < a.length := by omega
      obtain ⟨p, hp⟩ := span_some hk1
      obtain ⟨p', hp'⟩ := span_some (show k < b.length by rw [← hab.out]; exact hk1)
      have hpz : (a.zip b)[k]? = some (p, p') := by rw [List.getElem?_zip_eq_some]; exact ⟨hp, hp'⟩
      obtain ⟨c0, c1⟩ := ha k p hp
      obtain ⟨d0, d1'⟩ := hb k p' hp'
      have hpb := hba.out p (List.mem_of_getElem? hp)
      have hpb' := hbb.out p' (List.mem_of_getElem? hp')
      have hst := runL_succ takeM hpz
      have hk0 : (0 : Int) ≤ k := by omega
      have hk2 : (k : Int) < a.length := by omega
      have kd : decide ((k : Int) < a.length) = true := decide_eq_true hk2
      have herr := hid (fun h => run_take takeM (l := a.zip b) (k := k + 1) h)
      generalize hS9 : runL takeM ((a.zip b).take (k + 1)) = S9 at *
      generalize runL takeM ((a.zip b).take k) = S at *
      obtain ⟨x, y, e⟩ := S
      obtain ⟨u, v⟩ := p
      obtain ⟨u', v'⟩ := p'
      unfold Bx at hbx
      dsimp only at c0 c1 d0 d1' s0 s1 hpb hpb' hbx
      have he : e = 0 := hz.out
      subst he
      have s4 := fun W => rmul_any u v u' v' W ⟨hpb.1, hpb.2, hpb'⟩
      have hqb := mulS_box u v u' v'
      unfold Bx at hqb
      replace hst : S9 = if (takeM (x, y) ((u, v), u', v')).2.2 = 0 then takeM (x, y) ((u, v), u', v') else (0, 0, (takeM (x, y) ((u, v), u', v')).2.2) := hst.trans (if_pos rfl)
      have htq : takeM (x, y) ((u, v), u', v') = if (mulS u v u' v').2.2 = 0 then addS x y (mulS u v u' v').1 (mulS u v u' v').2.1 else (0, 0, (mulS u v u' v').2.2) := rfl
      rw [htq] at hst
      have q0 := d0; have q1 := d1'
      clear hp hp' hpz htq d0 d1'
      generalize mulS u v u' v' = Q at *
      obtain ⟨p1, p2, p3⟩ := Q
      dsimp only at s4 hqb hst
      replace s4 := hid s4
      replace hS9 := hid hS9
      have hcon : Hid (p3 = 0 → ∀ T : Int × Int × Int, addS x y p1 p2 = T → S9 = if T.2.2 = 0 then T else (0, 0, T.2.2)) := hid (fun h T hT => by rw [h, if_pos rfl, hT] at hst; exact hst)
      have hbad : Hid (p3 ≠ 0 → S9 = (0, 0, p3)) := hid (fun h => by rw [if_neg h, if_neg h] at hst; exact hst)
      have s5 := hid (fun W => radd_any x y p1 p2 W (by omega))
      clear hst hqb hbx hpb hpb' hz
      go_wp2_with fail
      go_cut [8, 9] (fun s t wx => ∃ Bm, s = .pointer (some ⟨Bm, 0, none⟩) ∧ t = .int .i64 p3 ∧ Bs < Bm ∧ Spans B1 o1 a wx ∧ Spans B2 o2 b wx ∧ RS w.heap.size Bs x y wx ∧ (wx.cell? ⟨Bm, 0, none⟩ = some (.int .i64 p1) ∧ wx.cell? ⟨Bm, 1, none⟩ = some (.int .i64 p2)) ∧ Below w.heap.size w wx)
      case first => as_aux_lemma =>
        refine wp_region_held_drew (S := (fun w' => w'.cell? ⟨w.heap.size, 0, none⟩ = some (.int .i64 0) ∧ w'.cell? ⟨w.heap.size, 1, none⟩ = some (.int .i64 0) ∧ w'.frozen? ⟨w.heap.size, 0, none⟩ = false ∧ w'.frozen? ⟨w.heap.size, 1, none⟩ = false ∧ w'.cell? ⟨Bs, 0, none⟩ = some (.int .i64 x) ∧ w'.cell? ⟨Bs, 1, none⟩ = some (.int .i64 y) ∧ w'.frozen? ⟨Bs, 0, none⟩ = false ∧ w'.frozen? ⟨Bs, 1, none⟩ = false ∧ w'.cell? ⟨B1, o1 + k * 2, none⟩ = some (.int .i64 u) ∧ w'.cell? ⟨B1, o1 + k * 2 + 1, none⟩ = some (.int .i64 v) ∧ w'.cell? ⟨B2, o2 + k * 2, none⟩ = some (.int .i64 u') ∧ w'.cell? ⟨B2, o2 + k * 2 + 1, none⟩ = some (.int .i64 v'))) (by kernel_rfl) (by (try dsimp only); simp only [World.cell?_drew, World.frozen?_drew]; exact ⟨z0, z1, zf0, zf1, s0, s1, sf0, sf1, c0, c1, q0, q1⟩) (fun hHeld => ?_)
        have hBq0 : Below w.heap.size w wr.drew := by go_grown
        (try dsimp only at hHeld)
        clear z0 z1 zf0 zf1 s0 s1 sf0 sf1 c0 c1 q0 q1
        replace ha := (ha).drew
        replace hb := (hb).drew
        generalize wr.drew = wq0 at *
        have hzq0 : w.heap.size ≤ wq0.heap.size := hBq0.size
        (refine wpAnyH_take (i := 0) (oi := ⟨some 43, _, _, _, _, none⟩) (v := ?_) rfl (by kernel_rfl) (by kernel_rfl) (by kernel_rfl) (fun _ _ _ h => h) (Or.inl ⟨by rfl, ?_⟩) hHeld ?_; rotate_left; (· (intro w9 hSw; (try dsimp only at hSw); go_simp; (try with_reducible rfl))))
        (try simp only [Act.put, List.setIfInBounds_toArray, List.set_cons_zero, List.set_cons_succ])
        (refine wpAnyH_take (i := 1) (oi := ⟨some 44, _, _, _, _, none⟩) (v := ?_) rfl (by kernel_rfl) (by kernel_rfl) (by kernel_rfl) (fun _ _ _ h => h) (Or.inl ⟨by rfl, ?_⟩) hHeld ?_; rotate_left; (· (intro w9 hSw; (try dsimp only at hSw); go_simp; (try with_reducible rfl))))
        (try simp only [Act.put, List.setIfInBounds_toArray, List.set_cons_zero, List.set_cons_succ])
        (refine wpAnyH_take (i := 2) (oi := ⟨some 45, _, _, _, _, none⟩) (v := ?_) rfl (by kernel_rfl) (by kernel_rfl) (by kernel_rfl) (fun _ _ _ h => h) (Or.inl ⟨by rfl, ?_⟩) hHeld ?_; rotate_left; (· (intro w9 hSw; (try dsimp only at hSw); go_simp; (try with_reducible rfl))))
        (try simp only [Act.put, List.setIfInBounds_toArray, List.set_cons_zero, List.set_cons_succ])
        (refine wpAnyH_take (i := 3) (oi := ⟨some 46, _, _, _, _, none⟩) (v := ?_) rfl (by kernel_rfl) (by kernel_rfl) (by kernel_rfl) (fun _ _ _ h => h) (Or.inl ⟨by rfl, ?_⟩) hHeld ?_; rotate_left; (· (intro w9 hSw; (try dsimp only at hSw); go_simp; (try with_reducible rfl))))
        (try simp only [Act.put, List.setIfInBounds_toArray, List.set_cons_zero, List.set_cons_succ])
        (refine wpAnyH_take (i := 4) (oi := ⟨some 47, _, _, _, _, none⟩) (v := ?_) rfl (by kernel_rfl) (by kernel_rfl) (by kernel_rfl) (fun _ _ _ h => h) (Or.inl ⟨by rfl, ?_⟩) hHeld ?_; rotate_left; (· (intro w9 hSw; (try dsimp only at hSw); go_simp; (try with_reducible rfl))))
        (try simp only [Act.put, List.setIfInBounds_toArray, List.set_cons_zero, List.set_cons_succ])
        (refine wpAnyH_take (i := 5) (oi := ⟨some 48, _, _, _, _, none⟩) (v := ?_) rfl (by kernel_rfl) (by kernel_rfl) (by kernel_rfl) (fun _ _ _ h => h) (Or.inl ⟨by rfl, ?_⟩) hHeld ?_; rotate_left; (· (intro w9 hSw; (try dsimp only at hSw); go_simp; (try with_reducible rfl))))
        (try simp only [Act.put, List.setIfInBounds_toArray, List.set_cons_zero, List.set_cons_succ])
        (refine wpAnyH_take (i := 6) (oi := ⟨some 49, _, _, _, _, none⟩) (v := ?_) rfl (by kernel_rfl) (by kernel_rfl) (by kernel_rfl) (fun _ _ _ h => h) (Or.inl ⟨by rfl, ?_⟩) hHeld ?_; rotate_left; (· (intro w9 hSw; (try dsimp only at hSw); go_simp; (try with_reducible rfl))))
        (try simp only [Act.put, List.setIfInBounds_toArray, List.set_cons_zero, List.set_cons_succ])
        (refine wpAnyH_take (i := 7) (oi := ⟨some 50, _, _, _, _, none⟩) (v := ?_) rfl (by kernel_rfl) (by kernel_rfl) (by kernel_rfl) (fun _ _ _ h => h) (Or.inl ⟨by rfl, ?_⟩) hHeld ?_; rotate_left; (· (intro w9 hSw; (try dsimp only at hSw); go_simp; (try with_reducible rfl))))
        (try simp only [Act.put, List.setIfInBounds_toArray, List.set_cons_zero, List.set_cons_succ])
        refine wpAnyH_ready (rs := [8, 12]) (by kernel_rfl) (by simp) ?_
        refine AllReadyH.cons (o := ⟨some 51, _, _, _, _, none⟩) rfl (fun K hK => ?_) (AllReadyH.cons (o := ⟨some 8, _, _, _, _, none⟩) rfl (fun K hK => ?_) (AllReadyH.nil))
        ·
         go_simp
         (go_at_call 30; refine useF w (s4.out _) (by go_grown) ?_; rintro e wq1 rfl hBq1 hkq1 hfq1 hsq1)
         have hOld := hHeld; clear hHeld; refine hK.out _ _ ?_ (fun hHeld => ?_)
         · exact ⟨hkq1 _ _ _ (hOld.1), hkq1 _ _ _ (hOld.2.1), hfq1 _ _ _ (hOld.1) (hOld.2.2.1), hfq1 _ _ _ (hOld.2.1) (hOld.2.2.2.1), hkq1 _ _ _ (hOld.2.2.2.2.1), hkq1 _ _ _ (hOld.2.2.2.2.2.1), hfq1 _ _ _ (hOld.2.2.2.2.1) (hOld.2.2.2.2.2.2.1), hfq1 _ _ _ (hOld.2.2.2.2.2.1) (hOld.2.2.2.2.2.2.2.1), hkq1 _ _ _ (hOld.2.2.2.2.2.2.2.2.1), hkq1 _ _ _ (hOld.2.2.2.2.2.2.2.2.2.1), hkq1 _ _ _ (hOld.2.2.2.2.2.2.2.2.2.2.1), hkq1 _ _ _ (hOld.2.2.2.2.2.2.2.2.2.2.2)⟩
         clear hK K hOld
         replace ha := (ha).keep hkq1
         replace hb := (hb).keep hkq1
         clear hkq1 hfq1 hsq1
         have hzq1 : w.heap.size ≤ wq1.heap.size := hBq1.size
         (try simp only [Act.put, List.setIfInBounds_toArray, List.set_cons_zero, List.set_cons_succ])
         (refine wpAnyH_take (i := 9) (oi := ⟨some 42, _, _, _, _, none⟩) (v := ?_) rfl (by kernel_rfl) (by kernel_rfl) (by kernel_rfl) (fun _ _ _ h => h) (Or.inl ⟨by rfl, ?_⟩) hHeld ?_; rotate_left; (· (intro w9 hSw; (try dsimp only at hSw); go_simp; (try with_reducible rfl))))
         (try simp only [Act.put, List.setIfInBounds_toArray, List.set_cons_zero, List.set_cons_succ])
         (refine wpAnyH_take (i := 10) (oi := ⟨some 52, _, _, _, _, none⟩) (v := ?_) rfl (by kernel_rfl) (by kernel_rfl) (by kernel_rfl) (fun _ _ _ h => h) (Or.inl ⟨by rfl, ?_⟩) hHeld ?_; rotate_left; (· (intro w9 hSw; (try dsimp only at hSw); go_simp; (try with_reducible rfl))))
         (try simp only [Act.put, List.setIfInBounds_toArray, List.set_cons_zero, List.set_cons_succ])
         (refine wpAnyH_take (i := 11) (oi := ⟨some 53, _, _, _, _, none⟩) (v := ?_) rfl (by kernel_rfl) (by kernel_rfl) (by kernel_rfl) (fun _ _ _ h => h) (Or.inl ⟨by rfl, ?_⟩) hHeld ?_; rotate_left; (· (intro w9 hSw; (try dsimp only at hSw); go_simp; (try with_reducible rfl))))
         (try simp only [Act.put, List.setIfInBounds_toArray, List.set_cons_zero, List.set_cons_succ])
         refine wpAnyH_ready (rs := [12]) (by kernel_rfl) (by simp) ?_
         refine AllReadyH.cons (o := ⟨some 8, _, _, _, _, none⟩) rfl (fun K hK => ?_) (AllReadyH.nil)
         (try dsimp only at hHeld)
         have hBq2 : Below w.heap.size w (wq1.alloc (Obj.cells #[.int .i64 0, .int .i64 0] 24)) := by go_grown
         have nn120 : (wq1.alloc (Obj.cells #[.int .i64 0, .int .i64 0] 24)).cell? ⟨wq1.heap.size, 0, none⟩ = some (.int .i64 0) := by simp [go_sem]
         have nn12f0 : (wq1.alloc (Obj.cells #[.int .i64 0, .int .i64 0] 24)).frozen? ⟨wq1.heap.size, 0, none⟩ = false := by simp [go_sem]
         have nn121 : (wq1.alloc (Obj.cells #[.int .i64 0, .int .i64 0] 24)).cell? ⟨wq1.heap.size, 1, none⟩ = some (.int .i64 0) := by simp [go_sem]
         have nn12f1 : (wq1.alloc (Obj.cells #[.int .i64 0, .int .i64 0] 24)).frozen? ⟨wq1.heap.size, 1, none⟩ = false := by simp [go_sem]
         have nn12l0 : w.heap.size < wq1.heap.size := World.block_lt_of_cell? _ ⟨w.heap.size, 0, none⟩ (hHeld.1)
         have nn12l1 : Bs < wq1.heap.size := World.block_lt_of_cell? _ ⟨Bs, 0, none⟩ (hHeld.2.2.2.2.1)
         have nn12l2 : B1 < wq1.heap.size := World.block_lt_of_cell? _ ⟨B1, o1 + k * 2, none⟩ (hHeld.2.2.2.2.2.2.2.2.1)
         have nn12l3 : B2 < wq1.heap.size := World.block_lt_of_cell? _ ⟨B2, o2 + k * 2, none⟩ (hHeld.2.2.2.2.2.2.2.2.2.2.1)
         have hOld := hHeld; clear hHeld; go_simp; refine hK.out _ _ ?_ (fun hHeld => ?_)
         · exact ⟨keepA _ (hOld.1), keepA _ (hOld.2.1), keepAF _ (hOld.1) (hOld.2.2.1), keepAF _ (hOld.2.1) (hOld.2.2.2.1), keepA _ (hOld.2.2.2.2.1), keepA _ (hOld.2.2.2.2.2.1), keepAF _ (hOld.2.2.2.2.1) (hOld.2.2.2.2.2.2.1), keepAF _ (hOld.2.2.2.2.2.1) (hOld.2.2.2.2.2.2.2.1), keepA _ (hOld.2.2.2.2.2.2.2.2.1), keepA _ (hOld.2.2.2.2.2.2.2.2.2.1), keepA _ (hOld.2.2.2.2.2.2.2.2.2.2.1), keepA _ (hOld.2.2.2.2.2.2.2.2.2.2.2)⟩
         clear hK K hOld
         (try dsimp only at hHeld)
         replace ha := (ha).alloc (Obj.cells #[.int .i64 0, .int .i64 0] 24)
         replace hb := (hb).alloc (Obj.cells #[.int .i64 0, .int .i64 0] 24)
         generalize (wq1.alloc (Obj.cells #[.int .i64 0, .int .i64 0] 24)) = wq2 at *
         have hzq2 : w.heap.size ≤ wq2.heap.size := hBq2.size
         (try simp only [Act.put, List.setIfInBounds_toArray, List.set_cons_zero, List.set_cons_succ])
         refine wpAnyH_ready (rs := [13]) (by kernel_rfl) (by simp) ?_
         refine AllReadyH.cons (o := ⟨none, _, _, _, _, none⟩) rfl (fun K hK => ?_) (AllReadyH.nil)
         (try dsimp only at hHeld)
         have hBq3 : Below w.heap.size w ((wq2.setCell ⟨wq1.heap.size, 0, none⟩ (.int .i64 p1)).setCell ⟨wq1.heap.size, 1, none⟩ (.int .i64 p2)) := by go_grown
         have hOld := hHeld; clear hHeld; go_simp; refine hK.out _ _ ?_ (fun hHeld => ?_)
         · exact ⟨two_other (hOld.1) (Nat.ne_of_gt nn12l0), two_other (hOld.2.1) (Nat.ne_of_gt nn12l0), two_fz (hOld.2.2.1), two_fz (hOld.2.2.2.1), two_other (hOld.2.2.2.2.1) (Nat.ne_of_gt nn12l1), two_other (hOld.2.2.2.2.2.1) (Nat.ne_of_gt nn12l1), two_fz (hOld.2.2.2.2.2.2.1), two_fz (hOld.2.2.2.2.2.2.2.1), two_other (hOld.2.2.2.2.2.2.2.2.1) (Nat.ne_of_gt nn12l2), two_other (hOld.2.2.2.2.2.2.2.2.2.1) (Nat.ne_of_gt nn12l2), two_other (hOld.2.2.2.2.2.2.2.2.2.2.1) (Nat.ne_of_gt nn12l3), two_other (hOld.2.2.2.2.2.2.2.2.2.2.2) (Nat.ne_of_gt nn12l3)⟩
         clear hK K hOld
         (try dsimp only at hHeld)
         replace nn12f0 := two_fz (b := wq1.heap.size) (x := .int .i64 p1) (y := .int .i64 p2) nn12f0
         replace nn120 := two_0 (x := .int .i64 p1) (y := .int .i64 p2) nn120
         replace nn12f1 := two_fz (b := wq1.heap.size) (x := .int .i64 p1) (y := .int .i64 p2) nn12f1
         replace nn121 := two_1 (x := .int .i64 p1) (y := .int .i64 p2) nn121
         replace ha := (ha).two (b := wq1.heap.size) (x := .int .i64 p1) (y := .int .i64 p2) (by omega)
         replace hb := (hb).two (b := wq1.heap.size) (x := .int .i64 p1) (y := .int .i64 p2) (by omega)
         generalize ((wq2.setCell ⟨wq1.heap.size, 0, none⟩ (.int .i64 p1)).setCell ⟨wq1.heap.size, 1, none⟩ (.int .i64 p2)) = wq3 at *
         have hzq3 : w.heap.size ≤ wq3.heap.size := hBq3.size
         (try simp only [Act.put, List.setIfInBounds_toArray, List.set_cons_zero, List.set_cons_succ])
         (refine wpAnyH_take (i := 14) (oi := ⟨some 9, _, _, _, _, none⟩) (v := ?_) rfl (by kernel_rfl) (by kernel_rfl) (by kernel_rfl) (fun _ _ _ h => h) (Or.inl ⟨by rfl, ?_⟩) hHeld ?_; rotate_left; (· (intro w9 hSw; (try dsimp only at hSw); go_simp; (try with_reducible rfl))))
         (try simp only [Act.put, List.setIfInBounds_toArray, List.set_cons_zero, List.set_cons_succ])
         refine wpAnyH_done (by kernel_rfl) ?_ _
         go_wp2_with fail
         go_meet
         obtain ⟨z0, z1, zf0, zf1, s0, s1, sf0, sf1, _⟩ := hHeld
         exact ⟨_, rfl, rfl, by omega, ha, hb, ⟨z0, z1, zf0, zf1, s0, s1, sf0, sf1⟩, ⟨nn120, nn121⟩, by assumption⟩
        ·
         (try dsimp only at hHeld)
         have hBq1 : Below w.heap.size w (wq0.alloc (Obj.cells #[.int .i64 0, .int .i64 0] 24)) := by go_grown
         have nn120 : (wq0.alloc (Obj.cells #[.int .i64 0, .int .i64 0] 24)).cell? ⟨wq0.heap.size, 0, none⟩ = some (.int .i64 0) := by simp [go_sem]
         have nn12f0 : (wq0.alloc (Obj.cells #[.int .i64 0, .int .i64 0] 24)).frozen? ⟨wq0.heap.size, 0, none⟩ = false := by simp [go_sem]
         have nn121 : (wq0.alloc (Obj.cells #[.int .i64 0, .int .i64 0] 24)).cell? ⟨wq0.heap.size, 1, none⟩ = some (.int .i64 0) := by simp [go_sem]
         have nn12f1 : (wq0.alloc (Obj.cells #[.int .i64 0, .int .i64 0] 24)).frozen? ⟨wq0.heap.size, 1, none⟩ = false := by simp [go_sem]
         have nn12l0 : w.heap.size < wq0.heap.size := World.block_lt_of_cell? _ ⟨w.heap.size, 0, none⟩ (hHeld.1)
         have nn12l1 : Bs < wq0.heap.size := World.block_lt_of_cell? _ ⟨Bs, 0, none⟩ (hHeld.2.2.2.2.1)
         have nn12l2 : B1 < wq0.heap.size := World.block_lt_of_cell? _ ⟨B1, o1 + k * 2, none⟩ (hHeld.2.2.2.2.2.2.2.2.1)
         have nn12l3 : B2 < wq0.heap.size := World.block_lt_of_cell? _ ⟨B2, o2 + k * 2, none⟩ (hHeld.2.2.2.2.2.2.2.2.2.2.1)
         have hOld := hHeld; clear hHeld; go_simp; refine hK.out _ _ ?_ (fun hHeld => ?_)
         · exact ⟨keepA _ (hOld.1), keepA _ (hOld.2.1), keepAF _ (hOld.1) (hOld.2.2.1), keepAF _ (hOld.2.1) (hOld.2.2.2.1), keepA _ (hOld.2.2.2.2.1), keepA _ (hOld.2.2.2.2.2.1), keepAF _ (hOld.2.2.2.2.1) (hOld.2.2.2.2.2.2.1), keepAF _ (hOld.2.2.2.2.2.1) (hOld.2.2.2.2.2.2.2.1), keepA _ (hOld.2.2.2.2.2.2.2.2.1), keepA _ (hOld.2.2.2.2.2.2.2.2.2.1), keepA _ (hOld.2.2.2.2.2.2.2.2.2.2.1), keepA _ (hOld.2.2.2.2.2.2.2.2.2.2.2)⟩
         clear hK K hOld
         (try dsimp only at hHeld)
         replace ha := (ha).alloc (Obj.cells #[.int .i64 0, .int .i64 0] 24)
         replace hb := (hb).alloc (Obj.cells #[.int .i64 0, .int .i64 0] 24)
         generalize (wq0.alloc (Obj.cells #[.int .i64 0, .int .i64 0] 24)) = wq1 at *
         have hzq1 : w.heap.size ≤ wq1.heap.size := hBq1.size
         (try simp only [Act.put, List.setIfInBounds_toArray, List.set_cons_zero, List.set_cons_succ])
         refine wpAnyH_ready (rs := [8]) (by kernel_rfl) (by simp) ?_
         refine AllReadyH.cons (o := ⟨some 51, _, _, _, _, none⟩) rfl (fun K hK => ?_) (AllReadyH.nil)
         go_simp
         (go_at_call 30; refine useF w (s4.out _) (by go_grown) ?_; rintro e wq2 rfl hBq2 hkq2 hfq2 hsq2)
         have hOld := hHeld; clear hHeld; refine hK.out _ _ ?_ (fun hHeld => ?_)
         · exact ⟨hkq2 _ _ _ (hOld.1), hkq2 _ _ _ (hOld.2.1), hfq2 _ _ _ (hOld.1) (hOld.2.2.1), hfq2 _ _ _ (hOld.2.1) (hOld.2.2.2.1), hkq2 _ _ _ (hOld.2.2.2.2.1), hkq2 _ _ _ (hOld.2.2.2.2.2.1), hfq2 _ _ _ (hOld.2.2.2.2.1) (hOld.2.2.2.2.2.2.1), hfq2 _ _ _ (hOld.2.2.2.2.2.1) (hOld.2.2.2.2.2.2.2.1), hkq2 _ _ _ (hOld.2.2.2.2.2.2.2.2.1), hkq2 _ _ _ (hOld.2.2.2.2.2.2.2.2.2.1), hkq2 _ _ _ (hOld.2.2.2.2.2.2.2.2.2.2.1), hkq2 _ _ _ (hOld.2.2.2.2.2.2.2.2.2.2.2)⟩
         clear hK K hOld
         replace nn12f0 := hfq2 _ _ _ nn120 nn12f0
         replace nn120 := hkq2 _ _ _ nn120
         replace nn12f1 := hfq2 _ _ _ nn121 nn12f1
         replace nn121 := hkq2 _ _ _ nn121
         replace ha := (ha).keep hkq2
         replace hb := (hb).keep hkq2
         clear hkq2 hfq2 hsq2
         have hzq2 : w.heap.size ≤ wq2.heap.size := hBq2.size
         (try simp only [Act.put, List.setIfInBounds_toArray, List.set_cons_zero, List.set_cons_succ])
         (refine wpAnyH_take (i := 9) (oi := ⟨some 42, _, _, _, _, none⟩) (v := ?_) rfl (by kernel_rfl) (by kernel_rfl) (by kernel_rfl) (fun _ _ _ h => h) (Or.inl ⟨by rfl, ?_⟩) hHeld ?_; rotate_left; (· (intro w9 hSw; (try dsimp only at hSw); go_simp; (try with_reducible rfl))))
         (try simp only [Act.put, List.setIfInBounds_toArray, List.set_cons_zero, List.set_cons_succ])
         (refine wpAnyH_take (i := 10) (oi := ⟨some 52, _, _, _, _, none⟩) (v := ?_) rfl (by kernel_rfl) (by kernel_rfl) (by kernel_rfl) (fun _ _ _ h => h) (Or.inl ⟨by rfl, ?_⟩) hHeld ?_; rotate_left; (· (intro w9 hSw; (try dsimp only at hSw); go_simp; (try with_reducible rfl))))
         (try simp only [Act.put, List.setIfInBounds_toArray, List.set_cons_zero, List.set_cons_succ])
         (refine wpAnyH_take (i := 11) (oi := ⟨some 53, _, _, _, _, none⟩) (v := ?_) rfl (by kernel_rfl) (by kernel_rfl) (by kernel_rfl) (fun _ _ _ h => h) (Or.inl ⟨by rfl, ?_⟩) hHeld ?_; rotate_left; (· (intro w9 hSw; (try dsimp only at hSw); go_simp; (try with_reducible rfl))))
         (try simp only [Act.put, List.setIfInBounds_toArray, List.set_cons_zero, List.set_cons_succ])
         refine wpAnyH_ready (rs := [13]) (by kernel_rfl) (by simp) ?_
         refine AllReadyH.cons (o := ⟨none, _, _, _, _, none⟩) rfl (fun K hK => ?_) (AllReadyH.nil)
         (try dsimp only at hHeld)
         have hBq3 : Below w.heap.size w ((wq2.setCell ⟨wq0.heap.size, 0, none⟩ (.int .i64 p1)).setCell ⟨wq0.heap.size, 1, none⟩ (.int .i64 p2)) := by go_grown
         have hOld := hHeld; clear hHeld; go_simp; refine hK.out _ _ ?_ (fun hHeld => ?_)
         · exact ⟨two_other (hOld.1) (Nat.ne_of_gt nn12l0), two_other (hOld.2.1) (Nat.ne_of_gt nn12l0), two_fz (hOld.2.2.1), two_fz (hOld.2.2.2.1), two_other (hOld.2.2.2.2.1) (Nat.ne_of_gt nn12l1), two_other (hOld.2.2.2.2.2.1) (Nat.ne_of_gt nn12l1), two_fz (hOld.2.2.2.2.2.2.1), two_fz (hOld.2.2.2.2.2.2.2.1), two_other (hOld.2.2.2.2.2.2.2.2.1) (Nat.ne_of_gt nn12l2), two_other (hOld.2.2.2.2.2.2.2.2.2.1) (Nat.ne_of_gt nn12l2), two_other (hOld.2.2.2.2.2.2.2.2.2.2.1) (Nat.ne_of_gt nn12l3), two_other (hOld.2.2.2.2.2.2.2.2.2.2.2) (Nat.ne_of_gt nn12l3)⟩
         clear hK K hOld
         (try dsimp only at hHeld)
         replace nn12f0 := two_fz (b := wq0.heap.size) (x := .int .i64 p1) (y := .int .i64 p2) nn12f0
         replace nn120 := two_0 (x := .int .i64 p1) (y := .int .i64 p2) nn120
         replace nn12f1 := two_fz (b := wq0.heap.size) (x := .int .i64 p1) (y := .int .i64 p2) nn12f1
         replace nn121 := two_1 (x := .int .i64 p1) (y := .int .i64 p2) nn121
         replace ha := (ha).two (b := wq0.heap.size) (x := .int .i64 p1) (y := .int .i64 p2) (by omega)
         replace hb := (hb).two (b := wq0.heap.size) (x := .int .i64 p1) (y := .int .i64 p2) (by omega)
         generalize ((wq2.setCell ⟨wq0.heap.size, 0, none⟩ (.int .i64 p1)).setCell ⟨wq0.heap.size, 1, none⟩ (.int .i64 p2)) = wq3 at *
         have hzq3 : w.heap.size ≤ wq3.heap.size := hBq3.size
         (try simp only [Act.put, List.setIfInBounds_toArray, List.set_cons_zero, List.set_cons_succ])
         (refine wpAnyH_take (i := 14) (oi := ⟨some 9, _, _, _, _, none⟩) (v := ?_) rfl (by kernel_rfl) (by kernel_rfl) (by kernel_rfl) (fun _ _ _ h => h) (Or.inl ⟨by rfl, ?_⟩) hHeld ?_; rotate_left; (· (intro w9 hSw; (try dsimp only at hSw); go_simp; (try with_reducible rfl))))
         (try simp only [Act.put, List.setIfInBounds_toArray, List.set_cons_zero, List.set_cons_succ])
         refine wpAnyH_done (by kernel_rfl) ?_ _
         go_wp2_with fail
         go_meet
         obtain ⟨z0, z1, zf0, zf1, s0, s1, sf0, sf1, _⟩ := hHeld
         exact ⟨_, rfl, rfl, by omega, ha, hb, ⟨z0, z1, zf0, zf1, s0, s1, sf0, sf1⟩, ⟨nn120, nn121⟩, by assumption⟩
      case rest =>
        clear c0 c1 q0 q1 z0 z1 zf0 zf1 s0 s1 sf0 sf1 ha hb
        obtain ⟨Bm, rfl, rfl, hBm, ha, hb, ⟨z0, z1, zf0, zf1, s0, s1, sf0, sf1⟩, ⟨m0, m1⟩, hB⟩ := hcut
        by_cases c : p3 = 0
        · have hcon2 := hid (hcon.out c)
          subst c
          generalize hAT : addS x y p1 p2 = T at *
          obtain ⟨t1, t2, t3⟩ := T
          have hst : S9 = if t3 = 0 then (t1, t2, t3) else (0, 0, t3) := hcon2.out _ rfl
          dsimp only at s5
          clear hcon hbad hcon2 hAT
          by_cases d : t3 = 0
          · subst d
            rw [if_pos rfl] at hst
            replace hst := hid hst
            clear herr
            go_wp2_with fail
            refine useF w (s5.out _) (by go_grown) ?_; rintro e w3 rfl hB3 hk3 hf3 hs3
            replace zf0 := hf3 _ _ _ z0 zf0
            replace z0 := hk3 _ _ _ z0
            replace zf1 := hf3 _ _ _ z1 zf1
            replace z1 := hk3 _ _ _ z1
            (try clear zb); have zb := World.block_lt_of_cell? _ _ z0; (try dsimp only at zb)
            replace sf0 := hf3 _ _ _ s0 sf0
            replace s0 := hk3 _ _ _ s0
            replace sf1 := hf3 _ _ _ s1 sf1
            replace s1 := hk3 _ _ _ s1
            (try clear sb); have sb := World.block_lt_of_cell? _ _ s0; (try dsimp only at sb)
            replace ha := (ha).keep hk3
            replace hb := (hb).keep hk3
            have hz3 := hB3.size
            clear hk3 hf3 hs3
            go_wp2_with fail
            have hB4 : Below w.heap.size w ((w3.setCell ⟨Bs, 0, none⟩ (.int .i64 t1)).setCell ⟨Bs, 1, none⟩ (.int .i64 t2)) := by go_grown
            replace zf0 := two_fz (b := Bs) (x := .int .i64 t1) (y := .int .i64 t2) zf0
            replace z0 := two_other (b := Bs) (x := .int .i64 t1) (y := .int .i64 t2) z0 (by omega)
            replace zf1 := two_fz (b := Bs) (x := .int .i64 t1) (y := .int .i64 t2) zf1
            replace z1 := two_other (b := Bs) (x := .int .i64 t1) (y := .int .i64 t2) z1 (by omega)
            replace sf0 := two_fz (b := Bs) (x := .int .i64 t1) (y := .int .i64 t2) sf0
            replace s0 := two_0 (x := .int .i64 t1) (y := .int .i64 t2) s0
            replace sf1 := two_fz (b := Bs) (x := .int .i64 t1) (y := .int .i64 t2) sf1
            replace s1 := two_1 (x := .int .i64 t1) (y := .int .i64 t2) s1
            replace ha := (ha).two (b := Bs) (x := .int .i64 t1) (y := .int .i64 t2) (by omega)
            replace hb := (hb).two (b := Bs) (x := .int .i64 t1) (y := .int .i64 t2) (by omega)
            have hz4 := hB4.size
            generalize ((w3.setCell ⟨Bs, 0, none⟩ (.int .i64 t1)).setCell ⟨Bs, 1, none⟩ (.int .i64 t2)) = v4 at *
            go_roundw
            case rel => exact ⟨k + 1, by go_num, by omega, by rw [hS9.out, hst.out]; exact hid rfl, ha, hb, by rw [hS9.out, hst.out]; exact ⟨z0, z1, zf0, zf1, s0, s1, sf0, sf1⟩, by assumption⟩
            case measure => first | (simp [intOf]; done) | (simp [intOf]; omega)
          · rw [if_neg d] at hst
            have cb : (t3 != 0) = true := by simpa using d
            have hx : Hid (R = (0, 0, t3)) := hid (by rw [hR.out, herr.out (by rw [hst]; exact d), hst])
            replace hst := hid hst
            clear herr hR
            go_wp2_with fail
            refine useF w (s5.out _) (by go_grown) ?_; rintro e w3 rfl hB3 hk3 hf3 hs3
            replace zf0 := hf3 _ _ _ z0 zf0
            replace z0 := hk3 _ _ _ z0
            replace zf1 := hf3 _ _ _ z1 zf1
            replace z1 := hk3 _ _ _ z1
            (try clear zb); have zb := World.block_lt_of_cell? _ _ z0; (try dsimp only at zb)
            replace sf0 := hf3 _ _ _ s0 sf0
            replace s0 := hk3 _ _ _ s0
            replace sf1 := hf3 _ _ _ s1 sf1
            replace s1 := hk3 _ _ _ s1
            (try clear sb); have sb := World.block_lt_of_cell? _ _ s0; (try dsimp only at sb)
            replace ha := (ha).keep hk3
            replace hb := (hb).keep hk3
            have hz3 := hB3.size
            clear hk3 hf3 hs3
            go_upto_region 13 with fail
            have hB4 : Below w.heap.size w ((w3.setCell ⟨Bs, 0, none⟩ (.int .i64 t1)).setCell ⟨Bs, 1, none⟩ (.int .i64 t2)) := by go_grown
            replace zf0 := two_fz (b := Bs) (x := .int .i64 t1) (y := .int .i64 t2) zf0
            replace z0 := two_other (b := Bs) (x := .int .i64 t1) (y := .int .i64 t2) z0 (by omega)
            replace zf1 := two_fz (b := Bs) (x := .int .i64 t1) (y := .int .i64 t2) zf1
            replace z1 := two_other (b := Bs) (x := .int .i64 t1) (y := .int .i64 t2) z1 (by omega)
            replace sf0 := two_fz (b := Bs) (x := .int .i64 t1) (y := .int .i64 t2) sf0
            replace s0 := two_0 (x := .int .i64 t1) (y := .int .i64 t2) s0
            replace sf1 := two_fz (b := Bs) (x := .int .i64 t1) (y := .int .i64 t2) sf1
            replace s1 := two_1 (x := .int .i64 t1) (y := .int .i64 t2) s1
            replace ha := (ha).two (b := Bs) (x := .int .i64 t1) (y := .int .i64 t2) (by omega)
            replace hb := (hb).two (b := Bs) (x := .int .i64 t1) (y := .int .i64 t2) (by omega)
            have hz4 := hB4.size
            generalize ((w3.setCell ⟨Bs, 0, none⟩ (.int .i64 t1)).setCell ⟨Bs, 1, none⟩ (.int .i64 t2)) = v4 at *
            go_wp2_with fail
            all_goals (refine' bodyPost_ret (res_st_t rfl isA_S isS_S rfl ?_ ?_) rfl ?_; rotate_left 2; (· ((try simp only [World.cell?_drew]); first | (with_reducible exact two_0 (by assumption)) | (with_reducible exact two_1 (by assumption)) | (with_reducible exact two_other (two_0 (by assumption)) (by simp)) | (with_reducible exact two_other (two_1 (by assumption)) (by simp)) | (with_reducible exact two_0 (two_other (by assumption) (by simp))) | (with_reducible exact two_1 (two_other (by assumption) (by simp))) | (simp (maxDischargeDepth := 8) [go_sem, hHeld]; rfl) | (simp (maxDischargeDepth := 8) [go_sem, *]; rfl) | (simp (maxDischargeDepth := 8) [go_sem, *]; done))); (· ((try simp only [World.cell?_drew]); first | (with_reducible exact two_0 (by assumption)) | (with_reducible exact two_1 (by assumption)) | (with_reducible exact two_other (two_0 (by assumption)) (by simp)) | (with_reducible exact two_other (two_1 (by assumption)) (by simp)) | (with_reducible exact two_0 (two_other (by assumption) (by simp))) | (with_reducible exact two_1 (two_other (by assumption) (by simp))) | (simp (maxDischargeDepth := 8) [go_sem, hHeld]; rfl) | (simp (maxDischargeDepth := 8) [go_sem, *]; rfl) | (simp (maxDischargeDepth := 8) [go_sem, *]; done))); refine ⟨ret_r ?_, by go_grown⟩; (exact hx.out.symm))
        · have hst := hbad.out c
          have cb : (p3 != 0) = true := by simpa using c
          have hx : Hid (R = (0, 0, p3)) := hid (by rw [hR.out, herr.out (by rw [hst]; exact c), hst])
          replace hst := hid hst
          clear herr hR hcon hbad s5
          go_wp2_with fail
          all_goals (refine' bodyPost_ret (res_st_t rfl isA_S isS_S rfl ?_ ?_) rfl ?_; rotate_left 2; (· ((try simp only [World.cell?_drew]); first | (with_reducible exact two_0 (by assumption)) | (with_reducible exact two_1 (by assumption)) | (with_reducible exact two_other (two_0 (by assumption)) (by simp)) | (with_reducible exact two_other (two_1 (by assumption)) (by simp)) | (with_reducible exact two_0 (two_other (by assumption) (by simp))) | (with_reducible exact two_1 (two_other (by assumption) (by simp))) | (simp (maxDischargeDepth := 8) [go_sem, hHeld]; rfl) | (simp (maxDischargeDepth := 8) [go_sem, *]; rfl) | (simp (maxDischargeDepth := 8) [go_sem, *]; done))); (· ((try simp only [World.cell?_drew]); first | (with_reducible exact two_0 (by assumption)) | (with_reducible exact two_1 (by assumption)) | (with_reducible exact two_other (two_0 (by assumption)) (by simp)) | (with_reducible exact two_other (two_1 (by assumption)) (by simp)) | (with_reducible exact two_0 (two_other (by assumption) (by simp))) | (with_reducible exact two_1 (two_other (by assumption) (by simp))) | (simp (maxDischargeDepth := 8) [go_sem, hHeld]; rfl) | (simp (maxDischargeDepth := 8) [go_sem, *]; rfl) | (simp (maxDischargeDepth := 8) [go_sem, *]; done))); refine ⟨ret_r ?_, by go_grown⟩; (exact hx.out.symm))
theorem rdot_nil (q1 q2 : Option Addr) (c1 c2 : Nat) (w : World) (R : Int × Int × Int) (hR : Hid (R = (0, 0, 0))) :
    Calls Try.prog 72 #[.slice q1 0 c1, .slice q2 0 c2] w fun e w' => e = .returned (.tuple #[.agg #[.int .i64 R.1, .int .i64 R.2.1], .int .i64 R.2.2]) ∧ Below w.heap.size w w' := by
  have K1 := hid (fun W => rlist_none q1 c1 W)
  have K2 := hid (fun W => rlist_none q2 c2 W)
  go_enter Try.func72, Try.ntmps72
  go_wp2_with fail
  refine useF w (K1.out _) (by go_grown) ?_; rintro e w1 rfl hB1 hk1 hf1 hs1
  have z0 := hk1 w.heap.size 0 (.int .i64 0) (by simp [go_sem])
  have z1 := hk1 w.heap.size 1 (.int .i64 0) (by simp [go_sem])
  have zf0 := hf1 w.heap.size 0 (.int .i64 0) (by simp [go_sem]) (by simp [go_sem])
  have zf1 := hf1 w.heap.size 1 (.int .i64 0) (by simp [go_sem]) (by simp [go_sem])
  clear hk1 hf1
  have zb := World.block_lt_of_cell? _ _ z0
  dsimp only at zb
  go_wp2_with fail
  refine useF w (K2.out _) (by go_grown) ?_; rintro e w2 rfl hB2 hk2 hf2 hs2
  replace zf0 := hf2 _ _ _ z0 zf0
  replace z0 := hk2 _ _ _ z0
  replace zf1 := hf2 _ _ _ z1 zf1
  replace z1 := hk2 _ _ _ z1
  (try clear zb); have zb := World.block_lt_of_cell? _ _ z0; (try dsimp only at zb)
  have hz2 := hB2.size
  clear hk2 hf2 hs2
  go_wp2_with fail
  go_loopw [7] (fun s wx => s = .int .i64 0 ∧ wx = w2.alloc (.cells #[.int .i64 0, .int .i64 0] 24)) (fun _ _ => 0)
  case atStart => exact ⟨rfl, rfl⟩
  case round =>
    obtain ⟨rfl, rfl⟩ := hrel
    go_wp2_with fail
    all_goals (refine' bodyPost_ret (res_st_t rfl isA_S isS_S rfl ?_ ?_) rfl ?_; rotate_left 2; (· ((try simp only [World.cell?_drew]); first | (with_reducible exact two_0 (by assumption)) | (with_reducible exact two_1 (by assumption)) | (with_reducible exact two_other (two_0 (by assumption)) (by simp)) | (with_reducible exact two_other (two_1 (by assumption)) (by simp)) | (with_reducible exact two_0 (two_other (by assumption) (by simp))) | (with_reducible exact two_1 (two_other (by assumption) (by simp))) | (simp (maxDischargeDepth := 8) [go_sem, hHeld]; rfl) | (simp (maxDischargeDepth := 8) [go_sem, *]; rfl) | (simp (maxDischargeDepth := 8) [go_sem, *]; done))); (· ((try simp only [World.cell?_drew]); first | (with_reducible exact two_0 (by assumption)) | (with_reducible exact two_1 (by assumption)) | (with_reducible exact two_other (two_0 (by assumption)) (by simp)) | (with_reducible exact two_other (two_1 (by assumption)) (by simp)) | (with_reducible exact two_0 (two_other (by assumption) (by simp))) | (with_reducible exact two_1 (two_other (by assumption) (by simp))) | (simp (maxDischargeDepth := 8) [go_sem, hHeld]; rfl) | (simp (maxDischargeDepth := 8) [go_sem, *]; rfl) | (simp (maxDischargeDepth := 8) [go_sem, *]; done))); refine ⟨ret_r ?_, by go_grown⟩; (exact hR.out.symm))
theorem listE_ok {l : List (Int × Int)} (h : l.length ≤ 64) : listE l = 0 ↔ goodL l l.length = true := by
  unfold listE
  rw [if_neg (by omega)]
  constructor
  · intro g; by_cases c : goodL l l.length = true
    · exact c
    · rw [if_neg c] at g; cases g
  · intro g; rw [if_pos g]
theorem rdot_any (q1 q2 : Option Addr) (c1 c2 : Nat) (a b : List (Int × Int)) (w : World) (ha : SLp q1 a w) (hb : SLp q2 b w) (hba : ∀ p ∈ a, (-9223372036854775808 ≤ p.1 ∧ p.1 ≤ 9223372036854775807) ∧ (-9223372036854775808 ≤ p.2 ∧ p.2 ≤ 9223372036854775807)) (hbb : ∀ p ∈ b, (-9223372036854775808 ≤ p.1 ∧ p.1 ≤ 9223372036854775807) ∧ (-9223372036854775808 ≤ p.2 ∧ p.2 ≤ 9223372036854775807)) :
    Calls Try.prog 72 #[.slice q1 a.length c1, .slice q2 b.length c2] w fun e w' => e = .returned (.tuple #[.agg #[.int .i64 ((dotS a b).1), .int .i64 ((dotS a b).2.1)], .int .i64 ((dotS a b).2.2)]) ∧ Below w.heap.size w w' := by
  by_cases h : 64 < a.length ∨ 64 < b.length
  · have e : dotE a b = 3 := if_pos h
    exact rdot_long q1 q2 _ c1 _ c2 w h _ (hid (by unfold dotS; rw [e, if_neg (by omega)]))
  · have hl1 : a.length ≤ 64 := by omega
    have hl2 : b.length ≤ 64 := by omega
    by_cases g : goodL a a.length = true ∧ goodL b b.length = true ∧ a.length = b.length
    · have e : dotE a b = 0 := by unfold dotE; rw [if_neg h, if_pos g]
      have ea := (listE_ok hl1).2 g.1
      have eb := (listE_ok hl2).2 g.2.1
      by_cases c0 : a.length = 0
      · have c0' : b.length = 0 := by omega
        obtain rfl := List.eq_nil_of_length_eq_zero c0
        obtain rfl := List.eq_nil_of_length_eq_zero c0'
        exact rdot_nil q1 q2 c1 c2 w _ (hid (by unfold dotS; rw [e, if_pos rfl]; rfl))
      · rcases ha with rfl | ⟨B1, o1, rfl, ha⟩
        · exact absurd rfl c0
        · rcases hb with rfl | ⟨B2, o2, rfl, hb⟩
          · exact absurd g.2.2 c0
          · refine rdot_go a b B1 o1 c1 B2 o2 c2 w ha hb ⟨by omega, hl1⟩ g.2.2 hba hbb _ (hid (by unfold dotS; rw [e, if_pos rfl])) (fun W h => ?_) (fun W h => ?_)
            · have := rlist_any a B1 o1 c1 W h (by omega) hba
              rw [ea] at this
              exact this
            · have := rlist_any b B2 o2 c2 W h (by omega) hbb
              rw [eb] at this
              exact this
    · have e : dotE a b = 2 := by unfold dotE; rw [if_neg h, if_neg g]
      refine rdot_bad q1 q2 _ c1 _ c2 w hl1 hl2 _ (hid (by unfold dotS; rw [e, if_neg (by omega)])) (fun w => SLp q1 a w ∧ SLp q2 b w) ⟨ha, hb⟩ (fun W x h => ⟨h.1.alloc x, h.2.alloc x⟩) (fun W W' h hk => ⟨h.1.keep hk, h.2.keep hk⟩) (listE a) (listE b)
        (fun W h => rlist_sl q1 c1 a hba W h.1) (fun W h => rlist_sl q2 c2 b hbb W h.2) ?_
      by_cases x1 : listE a = 0
      · by_cases x2 : listE b = 0
        · exact .inr (.inr fun hl => g ⟨(listE_ok hl1).1 x1, (listE_ok hl2).1 x2, hl⟩)
        · exact .inr (.inl x2)
      · exact .inl x1
end Go.Proofs.Ytjleflfncijnpaa
