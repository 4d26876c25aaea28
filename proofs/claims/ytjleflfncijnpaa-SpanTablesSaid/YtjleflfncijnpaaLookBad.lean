/- CheckTable of none and of too many points, of the document's answer; Look of both packages, where the table or the span is not valid. -/
import Derived.Deep.DeepCutAuto
import Derived.Test.YtjleflfncijnpaaRows
import Derived.Test.YtjleflfncijnpaaBase
import Derived.Test.YtjleflfncijnpaaFacts
import Derived.Test.YtjleflfncijnpaaTwo
import Derived.Deep.RegionHeld3
import Derived.Deep.RegionWith
import Derived.Deep.QuietTactic
import Derived.BigQuiet
import Derived.Test.YtjleflfncijnpaaW
import Derived.Test.YtjleflfncijnpaaAsks
import Derived.Test.YtjleflfncijnpaaOut
import Derived.Test.YtjleflfncijnpaaSeq
import Derived.Test.YtjleflfncijnpaaTwo
import Derived.Test.YtjleflfncijnpaaThree
import Derived.Test.YtjleflfncijnpaaQuo
import Derived.Test.YtjleflfncijnpaaTabM
import Derived.Test.YtjleflfncijnpaaTable
import Derived.Test.YtjleflfncijnpaaRTable
set_option linter.unusedVariables false
set_option linter.unusedSimpArgs false
set_option maxHeartbeats 4000000
set_option maxRecDepth 100000
namespace Go.Proofs.Ytjleflfncijnpaa
open Go Go.RowKit
theorem rcheckTable_none (p : Option Addr) (cap : Nat) (w : World) :
    Calls Try.prog 66 #[.slice p 0 cap] w fun e w' => e = .returned (.int .i64 2) ∧ Below w.heap.size w w' := by
  go_enter Try.func66, Try.ntmps66
  go_wp2_with fail
  go_ret
  exact ⟨rfl, by go_grown⟩
theorem rcheckTable_long (p : Option Addr) (n cap : Nat) (w : World) (h : 64 < n) :
    Calls Try.prog 66 #[.slice p n cap] w fun e w' => e = .returned (.int .i64 2) ∧ Below w.heap.size w w' := by
  have h1 : ¬ (n : Int) = 0 := by omega
  have d1 : ((n : Int) == 0) = false := beq_eq_false_iff_ne.2 h1
  have d3 : (n == 0) = false := by simp; omega
  have h2 : (64 : Int) < n := by omega
  have d2 : decide ((64 : Int) < n) = true := decide_eq_true h2
  have h3 : 64 < n := h
  go_enter Try.func66, Try.ntmps66
  go_wp2_with fail
  go_ret
  exact ⟨rfl, by go_grown⟩
theorem rcheckTable_tab (l : List (Int × Int × Int)) (B o cap : Nat) (w : World) (ht : Tab B o l w) (hn : 1 ≤ l.length ∧ l.length ≤ 64) (hb : ∀ p ∈ l, (-9223372036854775808 ≤ p.1 ∧ p.1 ≤ 9223372036854775807) ∧ (-9223372036854775808 ≤ p.2.1 ∧ p.2.1 ≤ 9223372036854775807) ∧ (-9223372036854775808 ≤ p.2.2 ∧ p.2.2 ≤ 9223372036854775807)) :
    Calls Try.prog 66 #[.slice (some ⟨B, o, none⟩) l.length cap] w fun e w' => e = .returned (.int .i64 (checkT l)) ∧ Below w.heap.size w w' :=
  rcheckTable_go l B o cap w ht hn hb _ (hid (by unfold checkT; by_cases g : goodU l l.length = true <;> simp [g, hn.1, hn.2]))
theorem look_bad1 (q : Option Addr) (n cap : Nat) (xl xh : Int) (p : Int × Int × Int) (hp : Hid (p = (0, 0, 2))) (w : World) (T : World → Prop) (hT : T w) (hTa : Hid (∀ W x, T W → T (W.alloc x)))
    (k1 : Hid (∀ w : World, T w → Calls Try.prog 65 #[.slice q n cap] w fun e w' => e = .returned (.int .i64 2) ∧ Below w.heap.size w w')) :
    Calls Try.prog 63 #[.slice q n cap, .agg #[.int .i64 xl, .int .i64 xh]] w fun e w' => e = .returned (.tuple #[.agg #[.int .i64 p.1, .int .i64 p.2.1], .int .i64 p.2.2]) ∧ Below w.heap.size w w' := by
  have hT2 := hid (hTa.out _ (.cells #[.int .i64 0, .int .i64 0] 24) (hTa.out _ (.cells #[.int .i64 xl, .int .i64 xh] 24) hT))
  go_enter Try.func63, Try.ntmps63
  go_wp2_with fail
  refine useF w (k1.out _ hT2.out) (by go_grown) ?_; rintro e w1 rfl hB1 hk1 hf1 hs1
  have z0 := hk1 (w.heap.size + 1) 0 (.int .i64 0) (by simp [go_sem])
  have z1 := hk1 (w.heap.size + 1) 1 (.int .i64 0) (by simp [go_sem])
  have zf0 := hf1 (w.heap.size + 1) 0 (.int .i64 0) (by simp [go_sem]) (by simp [go_sem])
  have zf1 := hf1 (w.heap.size + 1) 1 (.int .i64 0) (by simp [go_sem]) (by simp [go_sem])
  clear hk1 hf1
  go_wp2_with fail
  all_goals (refine' bodyPost_ret (res_st_t rfl isA_S isS_S rfl ?_ ?_) rfl ?_; rotate_left 2; (· ((try simp only [World.cell?_drew]); first | (with_reducible exact two_0 (by assumption)) | (with_reducible exact two_1 (by assumption)) | (with_reducible exact two_other (two_0 (by assumption)) (by simp)) | (with_reducible exact two_other (two_1 (by assumption)) (by simp)) | (with_reducible exact two_0 (two_other (by assumption) (by simp))) | (with_reducible exact two_1 (two_other (by assumption) (by simp))) | (simp (maxDischargeDepth := 8) [go_sem, hHeld]; rfl) | (simp (maxDischargeDepth := 8) [go_sem, *]; rfl) | (simp (maxDischargeDepth := 8) [go_sem, *]; done))); (· ((try simp only [World.cell?_drew]); first | (with_reducible exact two_0 (by assumption)) | (with_reducible exact two_1 (by assumption)) | (with_reducible exact two_other (two_0 (by assumption)) (by simp)) | (with_reducible exact two_other (two_1 (by assumption)) (by simp)) | (with_reducible exact two_0 (two_other (by assumption) (by simp))) | (with_reducible exact two_1 (two_other (by assumption) (by simp))) | (simp (maxDischargeDepth := 8) [go_sem, hHeld]; rfl) | (simp (maxDischargeDepth := 8) [go_sem, *]; rfl) | (simp (maxDischargeDepth := 8) [go_sem, *]; done))); refine ⟨ret_r ?_, by go_grown⟩; (exact hp.out.symm))
theorem look_bad2 (q : Option Addr) (n cap : Nat) (xl xh : Int) (p : Int × Int × Int) (hp : Hid (p = (0, 0, 2))) (w : World) (T : World → Prop) (hT : T w) (hTa : Hid (∀ W x, T W → T (W.alloc x)))
    (k1 : Hid (∀ w : World, T w → Calls Try.prog 65 #[.slice q n cap] w fun e w' => e = .returned (.int .i64 0) ∧ Below w.heap.size w w'))
    (k2 : Hid (∀ w : World, Calls Try.prog 18 #[.agg #[.int .i64 xl, .int .i64 xh]] w fun e w' => e = .returned (.int .i64 2) ∧ Below w.heap.size w w')) :
    Calls Try.prog 63 #[.slice q n cap, .agg #[.int .i64 xl, .int .i64 xh]] w fun e w' => e = .returned (.tuple #[.agg #[.int .i64 p.1, .int .i64 p.2.1], .int .i64 p.2.2]) ∧ Below w.heap.size w w' := by
  have hT2 := hid (hTa.out _ (.cells #[.int .i64 0, .int .i64 0] 24) (hTa.out _ (.cells #[.int .i64 xl, .int .i64 xh] 24) hT))
  go_enter Try.func63, Try.ntmps63
  go_wp2_with fail
  refine useF w (k1.out _ hT2.out) (by go_grown) ?_; rintro e w1 rfl hB1 hk1 hf1 hs1
  have x0 := hk1 w.heap.size 0 (.int .i64 xl) (by simp [go_sem])
  have x1 := hk1 w.heap.size 1 (.int .i64 xh) (by simp [go_sem])
  have z0 := hk1 (w.heap.size + 1) 0 (.int .i64 0) (by simp [go_sem])
  have z1 := hk1 (w.heap.size + 1) 1 (.int .i64 0) (by simp [go_sem])
  have zf0 := hf1 (w.heap.size + 1) 0 (.int .i64 0) (by simp [go_sem]) (by simp [go_sem])
  have zf1 := hf1 (w.heap.size + 1) 1 (.int .i64 0) (by simp [go_sem]) (by simp [go_sem])
  clear hk1 hf1
  go_wp2_with fail
  refine useF w (k2.out _) (by go_grown) ?_; rintro e w2 rfl hB2 hk2 hf2 hs2
  replace x0 := hk2 _ _ _ x0
  replace x1 := hk2 _ _ _ x1
  (try clear xb); have xb := World.block_lt_of_cell? _ _ x0; (try dsimp only at xb)
  replace zf0 := hf2 _ _ _ z0 zf0
  replace z0 := hk2 _ _ _ z0
  replace zf1 := hf2 _ _ _ z1 zf1
  replace z1 := hk2 _ _ _ z1
  (try clear zb); have zb := World.block_lt_of_cell? _ _ z0; (try dsimp only at zb)
  have hz2 := hB2.size
  clear hk2 hf2 hs2
  go_wp2_with fail
  all_goals (refine' bodyPost_ret (res_st_t rfl isA_S isS_S rfl ?_ ?_) rfl ?_; rotate_left 2; (· ((try simp only [World.cell?_drew]); first | (with_reducible exact two_0 (by assumption)) | (with_reducible exact two_1 (by assumption)) | (with_reducible exact two_other (two_0 (by assumption)) (by simp)) | (with_reducible exact two_other (two_1 (by assumption)) (by simp)) | (with_reducible exact two_0 (two_other (by assumption) (by simp))) | (with_reducible exact two_1 (two_other (by assumption) (by simp))) | (simp (maxDischargeDepth := 8) [go_sem, hHeld]; rfl) | (simp (maxDischargeDepth := 8) [go_sem, *]; rfl) | (simp (maxDischargeDepth := 8) [go_sem, *]; done))); (· ((try simp only [World.cell?_drew]); first | (with_reducible exact two_0 (by assumption)) | (with_reducible exact two_1 (by assumption)) | (with_reducible exact two_other (two_0 (by assumption)) (by simp)) | (with_reducible exact two_other (two_1 (by assumption)) (by simp)) | (with_reducible exact two_0 (two_other (by assumption) (by simp))) | (with_reducible exact two_1 (two_other (by assumption) (by simp))) | (simp (maxDischargeDepth := 8) [go_sem, hHeld]; rfl) | (simp (maxDischargeDepth := 8) [go_sem, *]; rfl) | (simp (maxDischargeDepth := 8) [go_sem, *]; done))); refine ⟨ret_r ?_, by go_grown⟩; (exact hp.out.symm))
theorem rlook_bad1 (q : Option Addr) (n cap : Nat) (xl xh : Int) (p : Int × Int × Int) (hp : Hid (p = (0, 0, 2))) (w : World) (T : World → Prop) (hT : T w) (hTa : Hid (∀ W x, T W → T (W.alloc x)))
    (k1 : Hid (∀ w : World, T w → Calls Try.prog 66 #[.slice q n cap] w fun e w' => e = .returned (.int .i64 2) ∧ Below w.heap.size w w')) :
    Calls Try.prog 64 #[.slice q n cap, .agg #[.int .i64 xl, .int .i64 xh]] w fun e w' => e = .returned (.tuple #[.agg #[.int .i64 p.1, .int .i64 p.2.1], .int .i64 p.2.2]) ∧ Below w.heap.size w w' := by
  have hT2 := hid (hTa.out _ (.cells #[.int .i64 0, .int .i64 0] 24) (hTa.out _ (.cells #[.int .i64 xl, .int .i64 xh] 24) hT))
  go_enter Try.func64, Try.ntmps64
  go_wp2_with fail
  refine useF w (k1.out _ hT2.out) (by go_grown) ?_; rintro e w1 rfl hB1 hk1 hf1 hs1
  have z0 := hk1 (w.heap.size + 1) 0 (.int .i64 0) (by simp [go_sem])
  have z1 := hk1 (w.heap.size + 1) 1 (.int .i64 0) (by simp [go_sem])
  have zf0 := hf1 (w.heap.size + 1) 0 (.int .i64 0) (by simp [go_sem]) (by simp [go_sem])
  have zf1 := hf1 (w.heap.size + 1) 1 (.int .i64 0) (by simp [go_sem]) (by simp [go_sem])
  clear hk1 hf1
  go_wp2_with fail
  all_goals (refine' bodyPost_ret (res_st_t rfl isA_S isS_S rfl ?_ ?_) rfl ?_; rotate_left 2; (· ((try simp only [World.cell?_drew]); first | (with_reducible exact two_0 (by assumption)) | (with_reducible exact two_1 (by assumption)) | (with_reducible exact two_other (two_0 (by assumption)) (by simp)) | (with_reducible exact two_other (two_1 (by assumption)) (by simp)) | (with_reducible exact two_0 (two_other (by assumption) (by simp))) | (with_reducible exact two_1 (two_other (by assumption) (by simp))) | (simp (maxDischargeDepth := 8) [go_sem, hHeld]; rfl) | (simp (maxDischargeDepth := 8) [go_sem, *]; rfl) | (simp (maxDischargeDepth := 8) [go_sem, *]; done))); (· ((try simp only [World.cell?_drew]); first | (with_reducible exact two_0 (by assumption)) | (with_reducible exact two_1 (by assumption)) | (with_reducible exact two_other (two_0 (by assumption)) (by simp)) | (with_reducible exact two_other (two_1 (by assumption)) (by simp)) | (with_reducible exact two_0 (two_other (by assumption) (by simp))) | (with_reducible exact two_1 (two_other (by assumption) (by simp))) | (simp (maxDischargeDepth := 8) [go_sem, hHeld]; rfl) | (simp (maxDischargeDepth := 8) [go_sem, *]; rfl) | (simp (maxDischargeDepth := 8) [go_sem, *]; done))); refine ⟨ret_r ?_, by go_grown⟩; (exact hp.out.symm))
theorem rlook_bad2 (q : Option Addr) (n cap : Nat) (xl xh : Int) (p : Int × Int × Int) (hp : Hid (p = (0, 0, 2))) (w : World) (T : World → Prop) (hT : T w) (hTa : Hid (∀ W x, T W → T (W.alloc x)))
    (k1 : Hid (∀ w : World, T w → Calls Try.prog 66 #[.slice q n cap] w fun e w' => e = .returned (.int .i64 0) ∧ Below w.heap.size w w'))
    (k2 : Hid (∀ w : World, Calls Try.prog 19 #[.agg #[.int .i64 xl, .int .i64 xh]] w fun e w' => e = .returned (.int .i64 2) ∧ Below w.heap.size w w')) :
    Calls Try.prog 64 #[.slice q n cap, .agg #[.int .i64 xl, .int .i64 xh]] w fun e w' => e = .returned (.tuple #[.agg #[.int .i64 p.1, .int .i64 p.2.1], .int .i64 p.2.2]) ∧ Below w.heap.size w w' := by
  have hT2 := hid (hTa.out _ (.cells #[.int .i64 0, .int .i64 0] 24) (hTa.out _ (.cells #[.int .i64 xl, .int .i64 xh] 24) hT))
  go_enter Try.func64, Try.ntmps64
  go_wp2_with fail
  refine useF w (k1.out _ hT2.out) (by go_grown) ?_; rintro e w1 rfl hB1 hk1 hf1 hs1
  have x0 := hk1 w.heap.size 0 (.int .i64 xl) (by simp [go_sem])
  have x1 := hk1 w.heap.size 1 (.int .i64 xh) (by simp [go_sem])
  have z0 := hk1 (w.heap.size + 1) 0 (.int .i64 0) (by simp [go_sem])
  have z1 := hk1 (w.heap.size + 1) 1 (.int .i64 0) (by simp [go_sem])
  have zf0 := hf1 (w.heap.size + 1) 0 (.int .i64 0) (by simp [go_sem]) (by simp [go_sem])
  have zf1 := hf1 (w.heap.size + 1) 1 (.int .i64 0) (by simp [go_sem]) (by simp [go_sem])
  clear hk1 hf1
  go_wp2_with fail
  refine useF w (k2.out _) (by go_grown) ?_; rintro e w2 rfl hB2 hk2 hf2 hs2
  replace x0 := hk2 _ _ _ x0
  replace x1 := hk2 _ _ _ x1
  (try clear xb); have xb := World.block_lt_of_cell? _ _ x0; (try dsimp only at xb)
  replace zf0 := hf2 _ _ _ z0 zf0
  replace z0 := hk2 _ _ _ z0
  replace zf1 := hf2 _ _ _ z1 zf1
  replace z1 := hk2 _ _ _ z1
  (try clear zb); have zb := World.block_lt_of_cell? _ _ z0; (try dsimp only at zb)
  have hz2 := hB2.size
  clear hk2 hf2 hs2
  go_wp2_with fail
  all_goals (refine' bodyPost_ret (res_st_t rfl isA_S isS_S rfl ?_ ?_) rfl ?_; rotate_left 2; (· ((try simp only [World.cell?_drew]); first | (with_reducible exact two_0 (by assumption)) | (with_reducible exact two_1 (by assumption)) | (with_reducible exact two_other (two_0 (by assumption)) (by simp)) | (with_reducible exact two_other (two_1 (by assumption)) (by simp)) | (with_reducible exact two_0 (two_other (by assumption) (by simp))) | (with_reducible exact two_1 (two_other (by assumption) (by simp))) | (simp (maxDischargeDepth := 8) [go_sem, hHeld]; rfl) | (simp (maxDischargeDepth := 8) [go_sem, *]; rfl) | (simp (maxDischargeDepth := 8) [go_sem, *]; done))); (· ((try simp only [World.cell?_drew]); first | (with_reducible exact two_0 (by assumption)) | (with_reducible exact two_1 (by assumption)) | (with_reducible exact two_other (two_0 (by assumption)) (by simp)) | (with_reducible exact two_other (two_1 (by assumption)) (by simp)) | (with_reducible exact two_0 (two_other (by assumption) (by simp))) | (with_reducible exact two_1 (two_other (by assumption) (by simp))) | (simp (maxDischargeDepth := 8) [go_sem, hHeld]; rfl) | (simp (maxDischargeDepth := 8) [go_sem, *]; rfl) | (simp (maxDischargeDepth := 8) [go_sem, *]; done))); refine ⟨ret_r ?_, by go_grown⟩; (exact hp.out.symm))
end Go.Proofs.Ytjleflfncijnpaa
