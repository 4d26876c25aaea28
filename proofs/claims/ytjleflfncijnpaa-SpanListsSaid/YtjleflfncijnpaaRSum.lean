/- Sum, Norm, of the document's answer. -/
import Derived.Deep.DeepCutAuto
import Derived.Deep.CutBlock
import Derived.Test.YtjleflfncijnpaaRows
import Derived.Test.YtjleflfncijnpaaBase
import Derived.Test.YtjleflfncijnpaaFacts
import Derived.Test.YtjleflfncijnpaaTwo
import Derived.Deep.RegionHeld3
import Derived.Deep.RegionWith
import Derived.Deep.QuietTactic
import Derived.BigQuiet
import Derived.Test.YtjleflfncijnpaaW
import Derived.Test.YtjleflfncijnpaaAsks
import Derived.Test.YtjleflfncijnpaaOut
import Derived.Test.YtjleflfncijnpaaSeq
import Derived.Test.YtjleflfncijnpaaTwo
import Derived.Test.YtjleflfncijnpaaOne
import Derived.Test.YtjleflfncijnpaaQuo
import Derived.Test.YtjleflfncijnpaaSums
import Derived.Test.YtjleflfncijnpaaSums2
import Derived.Test.YtjleflfncijnpaaScaleM
import Derived.Test.YtjleflfncijnpaaMul
import Derived.Test.YtjleflfncijnpaaMulR
import Derived.Test.YtjleflfncijnpaaRootM
import Derived.Test.YtjleflfncijnpaaRootT
import Derived.Test.YtjleflfncijnpaaRootR
import Derived.Test.YtjleflfncijnpaaListM
import Derived.Test.YtjleflfncijnpaaRList
set_option linter.unusedVariables false
set_option linter.unusedSimpArgs false
set_option maxHeartbeats 4000000
set_option maxRecDepth 100000
namespace Go.Proofs.Ytjleflfncijnpaa
open Go Go.RowKit
/-- The cells of the result and of the sum so far. -/
def RS (b Bs : Nat) (x y : Int) : World → Prop := (fun w' => w'.cell? ⟨b, 0, none⟩ = some (.int .i64 0) ∧ w'.cell? ⟨b, 1, none⟩ = some (.int .i64 0) ∧ w'.frozen? ⟨b, 0, none⟩ = false ∧ w'.frozen? ⟨b, 1, none⟩ = false ∧ w'.cell? ⟨Bs, 0, none⟩ = some (.int .i64 x) ∧ w'.cell? ⟨Bs, 1, none⟩ = some (.int .i64 y) ∧ w'.frozen? ⟨Bs, 0, none⟩ = false ∧ w'.frozen? ⟨Bs, 1, none⟩ = false)
theorem rsum_bad (q : Option Addr) (n cap : Nat) (w : World) (ee : Int) (he : ee ≠ 0) (R : Int × Int × Int) (hR : Hid (R = (0, 0, ee))) (T : World → Prop) (hT : T w) (hTa : Hid (∀ W x, T W → T (W.alloc x)))
    (K1 : Hid (∀ w : World, T w → Calls Try.prog 111 #[.slice q n cap] w fun e w' => e = .returned (.int .i64 ee) ∧ Below w.heap.size w w')) :
    Calls Try.prog 70 #[.slice q n cap] w fun e w' => e = .returned (.tuple #[.agg #[.int .i64 R.1, .int .i64 R.2.1], .int .i64 R.2.2]) ∧ Below w.heap.size w w' := by
  have cb : (ee != 0) = true := by simpa using he
  have ce : (ee == 0) = false := by simpa using he
  have hT2 := hid (hTa.out _ (.cells #[.int .i64 0, .int .i64 0] 24) hT)
  go_enter Try.func70, Try.ntmps70
  go_wp2_with fail
  refine useF w (K1.out _ hT2.out) (by go_grown) ?_; rintro e w1 rfl hB1 hk1 hf1 hs1
  have z0 := hk1 w.heap.size 0 (.int .i64 0) (by simp [go_sem])
  have z1 := hk1 w.heap.size 1 (.int .i64 0) (by simp [go_sem])
  have zf0 := hf1 w.heap.size 0 (.int .i64 0) (by simp [go_sem]) (by simp [go_sem])
  have zf1 := hf1 w.heap.size 1 (.int .i64 0) (by simp [go_sem]) (by simp [go_sem])
  clear hk1 hf1
  have zb := World.block_lt_of_cell? _ _ z0
  dsimp only at zb
  go_wp2_with fail
  go_loopw [6, 4] (fun s t wx => s = .int .i64 0 ∧ t = .int .i64 ee ∧ wx = w1.alloc (.cells #[.int .i64 0, .int .i64 0] 24)) (fun _ _ _ => 0)
  case atStart => exact ⟨rfl, rfl, rfl⟩
  case round =>
    obtain ⟨rfl, rfl, rfl⟩ := hrel
    by_cases c : n = 0
    · subst c
      go_wp2_with fail
      all_goals (refine' bodyPost_ret (res_st_t rfl isA_S isS_S rfl ?_ ?_) rfl ?_; rotate_left 2; (· ((try simp only [World.cell?_drew]); first | (with_reducible exact two_0 (by assumption)) | (with_reducible exact two_1 (by assumption)) | (with_reducible exact two_other (two_0 (by assumption)) (by simp)) | (with_reducible exact two_other (two_1 (by assumption)) (by simp)) | (with_reducible exact two_0 (two_other (by assumption) (by simp))) | (with_reducible exact two_1 (two_other (by assumption) (by simp))) | (simp (maxDischargeDepth := 8) [go_sem, hHeld]; rfl) | (simp (maxDischargeDepth := 8) [go_sem, *]; rfl) | (simp (maxDischargeDepth := 8) [go_sem, *]; done))); (· ((try simp only [World.cell?_drew]); first | (with_reducible exact two_0 (by assumption)) | (with_reducible exact two_1 (by assumption)) | (with_reducible exact two_other (two_0 (by assumption)) (by simp)) | (with_reducible exact two_other (two_1 (by assumption)) (by simp)) | (with_reducible exact two_0 (two_other (by assumption) (by simp))) | (with_reducible exact two_1 (two_other (by assumption) (by simp))) | (simp (maxDischargeDepth := 8) [go_sem, hHeld]; rfl) | (simp (maxDischargeDepth := 8) [go_sem, *]; rfl) | (simp (maxDischargeDepth := 8) [go_sem, *]; done))); refine ⟨ret_r ?_, by go_grown⟩; (exact hR.out.symm))
    · have h1 : (0 : Int) < n := by omega
      have d1 : decide ((0 : Int) < n) = true := decide_eq_true h1
      go_wp2_with fail
      all_goals (refine' bodyPost_ret (res_st_t rfl isA_S isS_S rfl ?_ ?_) rfl ?_; rotate_left 2; (· ((try simp only [World.cell?_drew]); first | (with_reducible exact two_0 (by assumption)) | (with_reducible exact two_1 (by assumption)) | (with_reducible exact two_other (two_0 (by assumption)) (by simp)) | (with_reducible exact two_other (two_1 (by assumption)) (by simp)) | (with_reducible exact two_0 (two_other (by assumption) (by simp))) | (with_reducible exact two_1 (two_other (by assumption) (by simp))) | (simp (maxDischargeDepth := 8) [go_sem, hHeld]; rfl) | (simp (maxDischargeDepth := 8) [go_sem, *]; rfl) | (simp (maxDischargeDepth := 8) [go_sem, *]; done))); (· ((try simp only [World.cell?_drew]); first | (with_reducible exact two_0 (by assumption)) | (with_reducible exact two_1 (by assumption)) | (with_reducible exact two_other (two_0 (by assumption)) (by simp)) | (with_reducible exact two_other (two_1 (by assumption)) (by simp)) | (with_reducible exact two_0 (two_other (by assumption) (by simp))) | (with_reducible exact two_1 (two_other (by assumption) (by simp))) | (simp (maxDischargeDepth := 8) [go_sem, hHeld]; rfl) | (simp (maxDischargeDepth := 8) [go_sem, *]; rfl) | (simp (maxDischargeDepth := 8) [go_sem, *]; done))); refine ⟨ret_r ?_, by go_grown⟩; (exact hR.out.symm))
theorem rsum_go (l : List (Int × Int)) (B o cap : Nat) (w : World) (hs : Spans B o l w) (hn : 1 ≤ l.length ∧ l.length ≤ 64) (hb : Hid (∀ p ∈ l, (-9223372036854775808 ≤ p.1 ∧ p.1 ≤ 9223372036854775807) ∧ (-9223372036854775808 ≤ p.2 ∧ p.2 ≤ 9223372036854775807))) (R : Int × Int × Int) (hR : Hid (R = runL takeA l))
    (K1 : Hid (∀ w : World, Spans B o l w → Calls Try.prog 111 #[.slice (some ⟨B, o, none⟩) l.length cap] w fun e w' => e = .returned (.int .i64 0) ∧ Below w.heap.size w w')) :
    Calls Try.prog 70 #[.slice (some ⟨B, o, none⟩) l.length cap] w fun e w' => e = .returned (.tuple #[.agg #[.int .i64 R.1, .int .i64 R.2.1], .int .i64 R.2.2]) ∧ Below w.heap.size w w' := by
  have hBw : B < w.heap.size := by obtain ⟨p, hp⟩ := span_some (show 0 < l.length by omega); exact hs.lt hp
  have hs2 := hid (hs.alloc (.cells #[.int .i64 0, .int .i64 0] 24))
  clear hs
  go_enter Try.func70, Try.ntmps70
  go_wp2_with fail
  refine useF w (K1.out _ hs2.out) (by go_grown) ?_; rintro e w1 rfl hB1 hk1 hf1 hs1
  have z0 := hk1 w.heap.size 0 (.int .i64 0) (by simp [go_sem])
  have z1 := hk1 w.heap.size 1 (.int .i64 0) (by simp [go_sem])
  have zf0 := hf1 w.heap.size 0 (.int .i64 0) (by simp [go_sem]) (by simp [go_sem])
  have zf1 := hf1 w.heap.size 1 (.int .i64 0) (by simp [go_sem]) (by simp [go_sem])
  have hs := (hs2.out.keep hk1).alloc (.cells #[.int .i64 0, .int .i64 0] 24)
  clear hk1 hf1 hs2
  have zb := World.block_lt_of_cell? _ _ z0
  dsimp only at zb
  have hRS : RS w.heap.size w1.heap.size 0 0 (w1.alloc (.cells #[.int .i64 0, .int .i64 0] 24)) := ⟨keepA _ z0, keepA _ z1, keepAF _ z0 zf0, keepAF _ z1 zf1, by simp [go_sem], by simp [go_sem], by simp [go_sem], by simp [go_sem]⟩
  have hB2 : Below w.heap.size w (w1.alloc (.cells #[.int .i64 0, .int .i64 0] 24)) := by go_grown
  clear z0 z1 zf0 zf1
  have hBb : B < w1.heap.size := by omega
  go_wp2_with fail
  generalize (w1.alloc (.cells #[.int .i64 0, .int .i64 0] 24)) = W2 at *
  generalize w1.heap.size = Bs at *
  go_loopw [6, 4] (fun s t wx => ∃ k : Nat, s = .int .i64 k ∧ k ≤ l.length ∧ t = .int .i64 (runL takeA (l.take k)).2.2 ∧ Spans B o l wx ∧ RS w.heap.size Bs (runL takeA (l.take k)).1 (runL takeA (l.take k)).2.1 wx ∧ Below w.heap.size w wx) (fun s _ _ => (l.length - intOf s).toNat)
  case atStart => exact ⟨0, rfl, by omega, rfl, hs, hRS, hB2⟩
  case round =>
    clear hs hRS hB2
    obtain ⟨k, rfl, hk, rfl, hs, ⟨z0, z1, zf0, zf1, s0, s1, sf0, sf1⟩, hB⟩ := hrel
    have hbx := run_box takeA_box (l.take k)
    have hzr := hB.size
    have hsb := World.block_lt_of_cell? _ _ s0
    dsimp only at hsb
    by_cases ke : k = l.length
    · rw [ke, List.take_length] at s0 s1
      have hall : runL takeA (l.take k) = runL takeA l := by rw [ke, List.take_length]
      rw [hall] at *
      have kk : ¬ (k : Int) < l.length := by omega
      have kd : decide ((k : Int) < l.length) = false := decide_eq_false kk
      have kn : ¬ k < l.length := by omega
      replace hall := hid hall
      have hzz := run_zero takeA l
      generalize runL takeA l = S at *
      obtain ⟨x, y, e⟩ := S
      dsimp only at s0 s1 hzz
      clear hs ke
      by_cases ee : e = 0
      · subst ee
        go_wp2_with fail
        all_goals (refine' bodyPost_ret (res_st_t rfl isA_S isS_S rfl ?_ ?_) rfl ?_; rotate_left 2; (· ((try simp only [World.cell?_drew]); first | (with_reducible exact two_0 (by assumption)) | (with_reducible exact two_1 (by assumption)) | (with_reducible exact two_other (two_0 (by assumption)) (by simp)) | (with_reducible exact two_other (two_1 (by assumption)) (by simp)) | (with_reducible exact two_0 (two_other (by assumption) (by simp))) | (with_reducible exact two_1 (two_other (by assumption) (by simp))) | (simp (maxDischargeDepth := 8) [go_sem, hHeld]; rfl) | (simp (maxDischargeDepth := 8) [go_sem, *]; rfl) | (simp (maxDischargeDepth := 8) [go_sem, *]; done))); (· ((try simp only [World.cell?_drew]); first | (with_reducible exact two_0 (by assumption)) | (with_reducible exact two_1 (by assumption)) | (with_reducible exact two_other (two_0 (by assumption)) (by simp)) | (with_reducible exact two_other (two_1 (by assumption)) (by simp)) | (with_reducible exact two_0 (two_other (by assumption) (by simp))) | (with_reducible exact two_1 (two_other (by assumption) (by simp))) | (simp (maxDischargeDepth := 8) [go_sem, hHeld]; rfl) | (simp (maxDischargeDepth := 8) [go_sem, *]; rfl) | (simp (maxDischargeDepth := 8) [go_sem, *]; done))); refine ⟨ret_r ?_, by go_grown⟩; (exact hR.out.symm))
      · have cb : (e != 0) = true := by simpa using ee
        have ce : (e == 0) = false := by simpa using ee
        have hx : Hid (R = (0, 0, e)) := hid (by rw [hR.out, (hzz ee).1, (hzz ee).2])
        go_wp2_with fail
        all_goals (refine' bodyPost_ret (res_st_t rfl isA_S isS_S rfl ?_ ?_) rfl ?_; rotate_left 2; (· ((try simp only [World.cell?_drew]); first | (with_reducible exact two_0 (by assumption)) | (with_reducible exact two_1 (by assumption)) | (with_reducible exact two_other (two_0 (by assumption)) (by simp)) | (with_reducible exact two_other (two_1 (by assumption)) (by simp)) | (with_reducible exact two_0 (two_other (by assumption) (by simp))) | (with_reducible exact two_1 (two_other (by assumption) (by simp))) | (simp (maxDischargeDepth := 8) [go_sem, hHeld]; rfl) | (simp (maxDischargeDepth := 8) [go_sem, *]; rfl) | (simp (maxDischargeDepth := 8) [go_sem, *]; done))); (· ((try simp only [World.cell?_drew]); first | (with_reducible exact two_0 (by assumption)) | (with_reducible exact two_1 (by assumption)) | (with_reducible exact two_other (two_0 (by assumption)) (by simp)) | (with_reducible exact two_other (two_1 (by assumption)) (by simp)) | (with_reducible exact two_0 (two_other (by assumption) (by simp))) | (with_reducible exact two_1 (two_other (by assumption) (by simp))) | (simp (maxDischargeDepth := 8) [go_sem, hHeld]; rfl) | (simp (maxDischargeDepth := 8) [go_sem, *]; rfl) | (simp (maxDischargeDepth := 8) [go_sem, *]; done))); refine ⟨ret_r ?_, by go_grown⟩; (exact hx.out.symm))
    · have hk1 : k < l.length := by omega
      obtain ⟨p, hp⟩ := span_some hk1
      obtain ⟨c0, c1⟩ := hs k p hp
      have hpb := hb.out p (List.mem_of_getElem? hp)
      have hst := runL_succ takeA hp
      have hk0 : (0 : Int) ≤ k := by omega
      have hk2 : (k : Int) < l.length := by omega
      have kd : decide ((k : Int) < l.length) = true := decide_eq_true hk2
      have herr := hid (fun h => run_take takeA (l := l) (k := k) h)
      have hzz := run_zero takeA (l.take k)
      generalize runL takeA (l.take k) = S at *
      obtain ⟨x, y, e⟩ := S
      obtain ⟨a, b⟩ := p
      dsimp only at c0 c1 s0 s1 hpb herr hzz
      unfold Bx at hbx
      dsimp only at hbx
      clear hp
      by_cases ee : e = 0
      · subst ee
        have s4 := fun W => radd_any x y a b W (by omega)
        replace hst := hst.trans (stepA rfl)
        dsimp only at hst
        generalize addS x y a b = T at *
        obtain ⟨t1, t2, t3⟩ := T
        dsimp only at s4
        replace s4 := hid s4; replace hst := hid hst
        clear herr hbx hpb
        go_wp2_with fail
        go_region_with (first | (go_at_call 22; refine useF w (s4.out _) (by go_grown) ?_; rintro e w1 rfl hB1 hk1 hf1 hs1; replace hs := (hs.drew).keep hk1; replace sf0 := hf1 _ _ _ s0 sf0; replace sf1 := hf1 _ _ _ s1 sf1; replace s0 := hk1 _ _ _ s0; replace s1 := hk1 _ _ _ s1; replace zf0 := hf1 _ _ _ z0 zf0; replace zf1 := hf1 _ _ _ z1 zf1; replace z0 := hk1 _ _ _ z0; replace z1 := hk1 _ _ _ z1; clear hk1 hf1 c0 c1))
        all_goals
          go_wp2_with fail
          go_roundw
          case rel => exact ⟨k + 1, by go_num, by omega, by rw [hst.out], hs.two (by omega), by rw [hst.out]; exact ⟨two_other z0 (by omega), two_other z1 (by omega), two_fz zf0, two_fz zf1, two_0 s0, two_1 s1, two_fz sf0, two_fz sf1⟩, by go_grown⟩
          case measure => first | (simp [intOf]; done) | (simp [intOf]; omega)
      · have cb : (e != 0) = true := by simpa using ee
        have ce : (e == 0) = false := by simpa using ee
        have hx : Hid (R = (0, 0, e)) := hid (by rw [hR.out, herr.out ee, (hzz ee).1, (hzz ee).2])
        clear herr hst hzz
        go_wp2_with fail
        all_goals (refine' bodyPost_ret (res_st_t rfl isA_S isS_S rfl ?_ ?_) rfl ?_; rotate_left 2; (· ((try simp only [World.cell?_drew]); first | (with_reducible exact two_0 (by assumption)) | (with_reducible exact two_1 (by assumption)) | (with_reducible exact two_other (two_0 (by assumption)) (by simp)) | (with_reducible exact two_other (two_1 (by assumption)) (by simp)) | (with_reducible exact two_0 (two_other (by assumption) (by simp))) | (with_reducible exact two_1 (two_other (by assumption) (by simp))) | (simp (maxDischargeDepth := 8) [go_sem, hHeld]; rfl) | (simp (maxDischargeDepth := 8) [go_sem, *]; rfl) | (simp (maxDischargeDepth := 8) [go_sem, *]; done))); (· ((try simp only [World.cell?_drew]); first | (with_reducible exact two_0 (by assumption)) | (with_reducible exact two_1 (by assumption)) | (with_reducible exact two_other (two_0 (by assumption)) (by simp)) | (with_reducible exact two_other (two_1 (by assumption)) (by simp)) | (with_reducible exact two_0 (two_other (by assumption) (by simp))) | (with_reducible exact two_1 (two_other (by assumption) (by simp))) | (simp (maxDischargeDepth := 8) [go_sem, hHeld]; rfl) | (simp (maxDischargeDepth := 8) [go_sem, *]; rfl) | (simp (maxDischargeDepth := 8) [go_sem, *]; done))); refine ⟨ret_r ?_, by go_grown⟩; (exact hx.out.symm))
theorem rsum_nil (q : Option Addr) (cap : Nat) (w : World) (R : Int × Int × Int) (hR : Hid (R = (0, 0, 0))) :
    Calls Try.prog 70 #[.slice q 0 cap] w fun e w' => e = .returned (.tuple #[.agg #[.int .i64 R.1, .int .i64 R.2.1], .int .i64 R.2.2]) ∧ Below w.heap.size w w' := by
  have K1 := hid (fun W => rlist_none q cap W)
  go_enter Try.func70, Try.ntmps70
  go_wp2_with fail
  refine useF w (K1.out _) (by go_grown) ?_; rintro e w1 rfl hB1 hk1 hf1 hs1
  have z0 := hk1 w.heap.size 0 (.int .i64 0) (by simp [go_sem])
  have z1 := hk1 w.heap.size 1 (.int .i64 0) (by simp [go_sem])
  have zf0 := hf1 w.heap.size 0 (.int .i64 0) (by simp [go_sem]) (by simp [go_sem])
  have zf1 := hf1 w.heap.size 1 (.int .i64 0) (by simp [go_sem]) (by simp [go_sem])
  clear hk1 hf1
  have zb := World.block_lt_of_cell? _ _ z0
  dsimp only at zb
  go_wp2_with fail
  go_loopw [6, 4] (fun s t wx => s = .int .i64 0 ∧ t = .int .i64 0 ∧ wx = w1.alloc (.cells #[.int .i64 0, .int .i64 0] 24)) (fun _ _ _ => 0)
  case atStart => exact ⟨rfl, rfl, rfl⟩
  case round =>
    obtain ⟨rfl, rfl, rfl⟩ := hrel
    go_wp2_with fail
    all_goals (refine' bodyPost_ret (res_st_t rfl isA_S isS_S rfl ?_ ?_) rfl ?_; rotate_left 2; (· ((try simp only [World.cell?_drew]); first | (with_reducible exact two_0 (by assumption)) | (with_reducible exact two_1 (by assumption)) | (with_reducible exact two_other (two_0 (by assumption)) (by simp)) | (with_reducible exact two_other (two_1 (by assumption)) (by simp)) | (with_reducible exact two_0 (two_other (by assumption) (by simp))) | (with_reducible exact two_1 (two_other (by assumption) (by simp))) | (simp (maxDischargeDepth := 8) [go_sem, hHeld]; rfl) | (simp (maxDischargeDepth := 8) [go_sem, *]; rfl) | (simp (maxDischargeDepth := 8) [go_sem, *]; done))); (· ((try simp only [World.cell?_drew]); first | (with_reducible exact two_0 (by assumption)) | (with_reducible exact two_1 (by assumption)) | (with_reducible exact two_other (two_0 (by assumption)) (by simp)) | (with_reducible exact two_other (two_1 (by assumption)) (by simp)) | (with_reducible exact two_0 (two_other (by assumption) (by simp))) | (with_reducible exact two_1 (two_other (by assumption) (by simp))) | (simp (maxDischargeDepth := 8) [go_sem, hHeld]; rfl) | (simp (maxDischargeDepth := 8) [go_sem, *]; rfl) | (simp (maxDischargeDepth := 8) [go_sem, *]; done))); refine ⟨ret_r ?_, by go_grown⟩; (exact hR.out.symm))
theorem rlist_sl (q : Option Addr) (cap : Nat) (l : List (Int × Int)) (hb : ∀ p ∈ l, (-9223372036854775808 ≤ p.1 ∧ p.1 ≤ 9223372036854775807) ∧ (-9223372036854775808 ≤ p.2 ∧ p.2 ≤ 9223372036854775807)) (w : World) (h : SLp q l w) :
    Calls Try.prog 111 #[.slice q l.length cap] w fun e w' => e = .returned (.int .i64 (listE l)) ∧ Below w.heap.size w w' := by
  by_cases c : l.length = 0
  · obtain rfl := List.eq_nil_of_length_eq_zero c
    exact rlist_none q cap w
  · rcases h with rfl | ⟨B, o, rfl, hs⟩
    · exact absurd rfl c
    · exact rlist_any l B o cap w hs (by omega) hb
theorem rsum_any (q : Option Addr) (cap : Nat) (l : List (Int × Int)) (w : World) (hs : SLp q l w) (hb : ∀ p ∈ l, (-9223372036854775808 ≤ p.1 ∧ p.1 ≤ 9223372036854775807) ∧ (-9223372036854775808 ≤ p.2 ∧ p.2 ≤ 9223372036854775807)) :
    Calls Try.prog 70 #[.slice q l.length cap] w fun e w' => e = .returned (.tuple #[.agg #[.int .i64 ((sumS l).1), .int .i64 ((sumS l).2.1)], .int .i64 ((sumS l).2.2)]) ∧ Below w.heap.size w w' := by
  by_cases c : listE l = 0
  · by_cases c0 : l.length = 0
    · obtain rfl := List.eq_nil_of_length_eq_zero c0
      exact rsum_nil q cap w _ (hid rfl)
    · rcases hs with rfl | ⟨B, o, rfl, hs⟩
      · exact absurd rfl c0
      · have hl : l.length ≤ 64 := by
          by_cases d : 64 < l.length
          · rw [listE_long d] at c; cases c
          · omega
        refine rsum_go l B o cap w hs ⟨by omega, hl⟩ hb _ (by unfold sumS; rw [if_pos c]; exact hid rfl) (fun W h => ?_)
        have := rlist_any l B o cap W h (by omega) hb
        rw [c] at this
        exact this
  · exact rsum_bad q l.length cap w (listE l) c _ (by unfold sumS; rw [if_neg c]; exact hid rfl) (SLp q l) hs (fun W x h => h.alloc x) (fun W h => rlist_sl q cap l hb W h)
end Go.Proofs.Ytjleflfncijnpaa
