/- Norm, of the document's answer. -/
import Derived.Deep.DeepCutAuto
import Derived.Deep.CutBlock
import Derived.Test.YtjleflfncijnpaaRows
import Derived.Test.YtjleflfncijnpaaBase
import Derived.Test.YtjleflfncijnpaaFacts
import Derived.Test.YtjleflfncijnpaaTwo
import Derived.Deep.RegionHeld3
import Derived.Deep.RegionWith
import Derived.Deep.QuietTactic
import Derived.BigQuiet
import Derived.Test.YtjleflfncijnpaaW
import Derived.Test.YtjleflfncijnpaaAsks
import Derived.Test.YtjleflfncijnpaaOut
import Derived.Test.YtjleflfncijnpaaSeq
import Derived.Test.YtjleflfncijnpaaTwo
import Derived.Test.YtjleflfncijnpaaOne
import Derived.Test.YtjleflfncijnpaaQuo
import Derived.Test.YtjleflfncijnpaaSums
import Derived.Test.YtjleflfncijnpaaSums2
import Derived.Test.YtjleflfncijnpaaScaleM
import Derived.Test.YtjleflfncijnpaaMul
import Derived.Test.YtjleflfncijnpaaMulR
import Derived.Test.YtjleflfncijnpaaRootM
import Derived.Test.YtjleflfncijnpaaRootT
import Derived.Test.YtjleflfncijnpaaRootR
import Derived.Test.YtjleflfncijnpaaListM
import Derived.Test.YtjleflfncijnpaaRList
import Derived.Test.YtjleflfncijnpaaRSum
set_option linter.unusedVariables false
set_option linter.unusedSimpArgs false
set_option maxHeartbeats 4000000
set_option maxRecDepth 100000
namespace Go.Proofs.Ytjleflfncijnpaa
open Go Go.RowKit
theorem rnorm_bad (q : Option Addr) (n cap : Nat) (w : World) (ee : Int) (he : ee ≠ 0) (R : Int × Int × Int) (hR : Hid (R = (0, 0, ee))) (T : World → Prop) (hT : T w) (hTa : Hid (∀ W x, T W → T (W.alloc x)))
    (K1 : Hid (∀ w : World, T w → Calls Try.prog 111 #[.slice q n cap] w fun e w' => e = .returned (.int .i64 ee) ∧ Below w.heap.size w w')) :
    Calls Try.prog 74 #[.slice q n cap] w fun e w' => e = .returned (.tuple #[.agg #[.int .i64 R.1, .int .i64 R.2.1], .int .i64 R.2.2]) ∧ Below w.heap.size w w' := by
  have cb : (ee != 0) = true := by simpa using he
  have hT2 := hid (hTa.out _ (.cells #[.int .i64 0, .int .i64 0] 24) hT)
  go_enter Try.func74, Try.ntmps74
  go_wp2_with fail
  refine useF w (K1.out _ hT2.out) (by go_grown) ?_; rintro e w1 rfl hB1 hk1 hf1 hs1
  have z0 := hk1 w.heap.size 0 (.int .i64 0) (by simp [go_sem])
  have z1 := hk1 w.heap.size 1 (.int .i64 0) (by simp [go_sem])
  have zf0 := hf1 w.heap.size 0 (.int .i64 0) (by simp [go_sem]) (by simp [go_sem])
  have zf1 := hf1 w.heap.size 1 (.int .i64 0) (by simp [go_sem]) (by simp [go_sem])
  clear hk1 hf1
  go_wp2_with fail
  all_goals (refine' bodyPost_ret (res_st_t rfl isA_S isS_S rfl ?_ ?_) rfl ?_; rotate_left 2; (· ((try simp only [World.cell?_drew]); first | (with_reducible exact two_0 (by assumption)) | (with_reducible exact two_1 (by assumption)) | (with_reducible exact two_other (two_0 (by assumption)) (by simp)) | (with_reducible exact two_other (two_1 (by assumption)) (by simp)) | (with_reducible exact two_0 (two_other (by assumption) (by simp))) | (with_reducible exact two_1 (two_other (by assumption) (by simp))) | (simp (maxDischargeDepth := 8) [go_sem, hHeld]; rfl) | (simp (maxDischargeDepth := 8) [go_sem, *]; rfl) | (simp (maxDischargeDepth := 8) [go_sem, *]; done))); (· ((try simp only [World.cell?_drew]); first | (with_reducible exact two_0 (by assumption)) | (with_reducible exact two_1 (by assumption)) | (with_reducible exact two_other (two_0 (by assumption)) (by simp)) | (with_reducible exact two_other (two_1 (by assumption)) (by simp)) | (with_reducible exact two_0 (two_other (by assumption) (by simp))) | (with_reducible exact two_1 (two_other (by assumption) (by simp))) | (simp (maxDischargeDepth := 8) [go_sem, hHeld]; rfl) | (simp (maxDischargeDepth := 8) [go_sem, *]; rfl) | (simp (maxDischargeDepth := 8) [go_sem, *]; done))); refine ⟨ret_r ?_, by go_grown⟩; (exact hR.out.symm))
theorem rnorm_nil (q : Option Addr) (cap : Nat) (w : World) (R : Int × Int × Int) (r1 r2 r3 : Int) (hR : Hid (R = (r1, r2, r3))) 
    (K3 : Hid (∀ w : World, Calls Try.prog 36 #[.agg #[.int .i64 0, .int .i64 0]] w fun e w' => e = .returned (.tuple #[.agg #[.int .i64 r1, .int .i64 r2], .int .i64 r3 ]) ∧ Below w.heap.size w w')) :
    Calls Try.prog 74 #[.slice q 0 cap] w fun e w' => e = .returned (.tuple #[.agg #[.int .i64 R.1, .int .i64 R.2.1], .int .i64 R.2.2]) ∧ Below w.heap.size w w' := by
  have K1 := hid (fun W => rlist_none q cap W)
  go_enter Try.func74, Try.ntmps74
  go_wp2_with fail
  refine useF w (K1.out _) (by go_grown) ?_; rintro e w1 rfl hB1 hk1 hf1 hs1
  have z0 := hk1 w.heap.size 0 (.int .i64 0) (by simp [go_sem])
  have z1 := hk1 w.heap.size 1 (.int .i64 0) (by simp [go_sem])
  have zf0 := hf1 w.heap.size 0 (.int .i64 0) (by simp [go_sem]) (by simp [go_sem])
  have zf1 := hf1 w.heap.size 1 (.int .i64 0) (by simp [go_sem]) (by simp [go_sem])
  clear hk1 hf1
  have zb := World.block_lt_of_cell? _ _ z0
  dsimp only at zb
  go_wp2_with fail
  go_loopw [6] (fun s wx => s = .int .i64 0 ∧ wx = w1.alloc (.cells #[.int .i64 0, .int .i64 0] 24)) (fun _ _ => 0)
  case atStart => exact ⟨rfl, rfl⟩
  case round =>
    obtain ⟨rfl, rfl⟩ := hrel
    replace zf0 := keepAF (.cells #[.int .i64 0, .int .i64 0] 24) z0 zf0; replace zf1 := keepAF (.cells #[.int .i64 0, .int .i64 0] 24) z1 zf1
    replace z0 := keepA (.cells #[.int .i64 0, .int .i64 0] 24) z0; replace z1 := keepA (.cells #[.int .i64 0, .int .i64 0] 24) z1
    go_wp2_with fail
    refine useF w (K3.out _) (by go_grown) ?_; rintro e w2 rfl hB2 hk2 hf2 hs2
    replace zf0 := hf2 _ _ _ z0 zf0
    replace z0 := hk2 _ _ _ z0
    replace zf1 := hf2 _ _ _ z1 zf1
    replace z1 := hk2 _ _ _ z1
    (try clear zb); have zb := World.block_lt_of_cell? _ _ z0; (try dsimp only at zb)
    have hz2 := hB2.size
    clear hk2 hf2 hs2
    go_wp2_with fail
    all_goals (refine' bodyPost_ret (res_st_t rfl isA_S isS_S rfl ?_ ?_) rfl ?_; rotate_left 2; (· ((try simp only [World.cell?_drew]); first | (with_reducible exact two_0 (by assumption)) | (with_reducible exact two_1 (by assumption)) | (with_reducible exact two_other (two_0 (by assumption)) (by simp)) | (with_reducible exact two_other (two_1 (by assumption)) (by simp)) | (with_reducible exact two_0 (two_other (by assumption) (by simp))) | (with_reducible exact two_1 (two_other (by assumption) (by simp))) | (simp (maxDischargeDepth := 8) [go_sem, hHeld]; rfl) | (simp (maxDischargeDepth := 8) [go_sem, *]; rfl) | (simp (maxDischargeDepth := 8) [go_sem, *]; done))); (· ((try simp only [World.cell?_drew]); first | (with_reducible exact two_0 (by assumption)) | (with_reducible exact two_1 (by assumption)) | (with_reducible exact two_other (two_0 (by assumption)) (by simp)) | (with_reducible exact two_other (two_1 (by assumption)) (by simp)) | (with_reducible exact two_0 (two_other (by assumption) (by simp))) | (with_reducible exact two_1 (two_other (by assumption) (by simp))) | (simp (maxDischargeDepth := 8) [go_sem, hHeld]; rfl) | (simp (maxDischargeDepth := 8) [go_sem, *]; rfl) | (simp (maxDischargeDepth := 8) [go_sem, *]; done))); refine ⟨ret_r ?_, by go_grown⟩; (exact hR.out.symm))
theorem rnorm_go (l : List (Int × Int)) (B o cap : Nat) (w : World) (hs : Spans B o l w) (hn : 1 ≤ l.length ∧ l.length ≤ 64) (hb : Hid (∀ p ∈ l, (-9223372036854775808 ≤ p.1 ∧ p.1 ≤ 9223372036854775807) ∧ (-9223372036854775808 ≤ p.2 ∧ p.2 ≤ 9223372036854775807))) (R : Int × Int × Int) (hR : Hid (R = rootE (runL takeQ l)))
    (K1 : Hid (∀ w : World, Spans B o l w → Calls Try.prog 111 #[.slice (some ⟨B, o, none⟩) l.length cap] w fun e w' => e = .returned (.int .i64 0) ∧ Below w.heap.size w w')) :
    Calls Try.prog 74 #[.slice (some ⟨B, o, none⟩) l.length cap] w fun e w' => e = .returned (.tuple #[.agg #[.int .i64 R.1, .int .i64 R.2.1], .int .i64 R.2.2]) ∧ Below w.heap.size w w' := by
  have hBw : B < w.heap.size := by obtain ⟨p, hp⟩ := span_some (show 0 < l.length by omega); exact hs.lt hp
  have hs2 := hid (hs.alloc (.cells #[.int .i64 0, .int .i64 0] 24))
  clear hs
  go_enter Try.func74, Try.ntmps74
  go_wp2_with fail
  refine useF w (K1.out _ hs2.out) (by go_grown) ?_; rintro e w1 rfl hB1 hk1 hf1 hs1
  have z0 := hk1 w.heap.size 0 (.int .i64 0) (by simp [go_sem])
  have z1 := hk1 w.heap.size 1 (.int .i64 0) (by simp [go_sem])
  have zf0 := hf1 w.heap.size 0 (.int .i64 0) (by simp [go_sem]) (by simp [go_sem])
  have zf1 := hf1 w.heap.size 1 (.int .i64 0) (by simp [go_sem]) (by simp [go_sem])
  have hs := (hs2.out.keep hk1).alloc (.cells #[.int .i64 0, .int .i64 0] 24)
  clear hk1 hf1 hs2
  have zb := World.block_lt_of_cell? _ _ z0
  dsimp only at zb
  have hwb := zb
  have hRS : RS w.heap.size w1.heap.size 0 0 (w1.alloc (.cells #[.int .i64 0, .int .i64 0] 24)) := ⟨keepA _ z0, keepA _ z1, keepAF _ z0 zf0, keepAF _ z1 zf1, by simp [go_sem], by simp [go_sem], by simp [go_sem], by simp [go_sem]⟩
  have hB2 : Below w.heap.size w (w1.alloc (.cells #[.int .i64 0, .int .i64 0] 24)) := by go_grown
  clear z0 z1 zf0 zf1
  have hBb : B < w1.heap.size := by omega
  go_wp2_with fail
  generalize (w1.alloc (.cells #[.int .i64 0, .int .i64 0] 24)) = W2 at *
  generalize w1.heap.size = Bs at *
  go_loopw [6] (fun s wx => ∃ k : Nat, s = .int .i64 k ∧ k ≤ l.length ∧ Hid ((runL takeQ (l.take k)).2.2 = 0) ∧ Spans B o l wx ∧ RS w.heap.size Bs (runL takeQ (l.take k)).1 (runL takeQ (l.take k)).2.1 wx ∧ Below w.heap.size w wx) (fun s _ => (l.length - intOf s).toNat)
  case atStart => exact ⟨0, rfl, by omega, hid rfl, hs, hRS, hB2⟩
  case round =>
    clear hs hRS hB2
    obtain ⟨k, rfl, hk, hz, hs, ⟨z0, z1, zf0, zf1, s0, s1, sf0, sf1⟩, hB⟩ := hrel
    have hbx := run_box takeQ_box (l.take k)
    have hzr := hB.size
    have hsb := World.block_lt_of_cell? _ _ s0
    dsimp only at hsb
    by_cases ke : k = l.length
    · have hall : runL takeQ (l.take k) = runL takeQ l := by rw [ke, List.take_length]
      rw [hall] at s0 s1 hz hbx
      have kk : ¬ (k : Int) < l.length := by omega
      have kd : decide ((k : Int) < l.length) = false := decide_eq_false kk
      clear hall
      generalize runL takeQ l = S at *
      obtain ⟨x, y, e⟩ := S
      unfold Bx at hbx
      dsimp only at s0 s1 hbx
      have he : e = 0 := hz.out
      subst he
      have hr2 := hR.out.trans (show rootE (x, y, 0) = rootS x y from if_pos rfl)
      have s4 := fun W => rroot_any x y W (by omega)
      generalize rootS x y = T at *
      obtain ⟨t1, t2, t3⟩ := T
      dsimp only at s4
      replace s4 := hid s4; replace hr2 := hid hr2
      clear hs ke hbx hR
      go_wp2_with fail
      refine useF w (s4.out _) (by go_grown) ?_; rintro e w2 rfl hB2 hk2 hf2 hs2
      replace zf0 := hf2 _ _ _ z0 zf0
      replace z0 := hk2 _ _ _ z0
      replace zf1 := hf2 _ _ _ z1 zf1
      replace z1 := hk2 _ _ _ z1
      (try clear zb); have zb := World.block_lt_of_cell? _ _ z0; (try dsimp only at zb)
      have hz2 := hB2.size
      clear hk2 hf2 hs2
      go_wp2_with fail
      all_goals (refine' bodyPost_ret (res_st_t rfl isA_S isS_S rfl ?_ ?_) rfl ?_; rotate_left 2; (· ((try simp only [World.cell?_drew]); first | (with_reducible exact two_0 (by assumption)) | (with_reducible exact two_1 (by assumption)) | (with_reducible exact two_other (two_0 (by assumption)) (by simp)) | (with_reducible exact two_other (two_1 (by assumption)) (by simp)) | (with_reducible exact two_0 (two_other (by assumption) (by simp))) | (with_reducible exact two_1 (two_other (by assumption) (by simp))) | (simp (maxDischargeDepth := 8) [go_sem, hHeld]; rfl) | (simp (maxDischargeDepth := 8) [go_sem, *]; rfl) | (simp (maxDischargeDepth := 8) [go_sem, *]; done))); (· ((try simp only [World.cell?_drew]); first | (with_reducible exact two_0 (by assumption)) | (with_reducible exact two_1 (by assumption)) | (with_reducible exact two_other (two_0 (by assumption)) (by simp)) | (with_reducible exact two_other (two_1 (by assumption)) (by simp)) | (with_reducible exact two_0 (two_other (by assumption) (by simp))) | (with_reducible exact two_1 (two_other (by assumption) (by simp))) | (simp (maxDischargeDepth := 8) [go_sem, hHeld]; rfl) | (simp (maxDischargeDepth := 8) [go_sem, *]; rfl) | (simp (maxDischargeDepth := 8) [go_sem, *]; done))); refine ⟨ret_r ?_, by go_grown⟩; (exact hr2.out.symm))
    · have hk1 : k < l.length := by omega
      obtain ⟨p, hp⟩ := span_some hk1
      obtain ⟨c0, c1⟩ := hs k p hp
      have hpb := hb.out p (List.mem_of_getElem? hp)
      have hst := runL_succ takeQ hp
      have hk0 : (0 : Int) ≤ k := by omega
      have hk2 : (k : Int) < l.length := by omega
      have kd : decide ((k : Int) < l.length) = true := decide_eq_true hk2
      have herr := hid (fun h => run_take takeQ (l := l) (k := k + 1) h)
      generalize hS9 : runL takeQ (l.take (k + 1)) = S9 at *
      generalize runL takeQ (l.take k) = S at *
      obtain ⟨x, y, e⟩ := S
      obtain ⟨a, b⟩ := p
      unfold Bx at hbx
      dsimp only at c0 c1 s0 s1 hpb hbx
      have he : e = 0 := hz.out
      subst he
      have s4 := fun W => rsquare_any a b W hpb
      have hqb := squareS_box a b
      unfold Bx at hqb
      replace hst : S9 = if (takeQ (x, y) (a, b)).2.2 = 0 then takeQ (x, y) (a, b) else (0, 0, (takeQ (x, y) (a, b)).2.2) := hst.trans (if_pos rfl)
      have htq : takeQ (x, y) (a, b) = if (squareS a b).2.2 = 0 then addS x y (squareS a b).1 (squareS a b).2.1 else (0, 0, (squareS a b).2.2) := rfl
      rw [htq] at hst
      clear hp htq
      generalize squareS a b = Q at *
      obtain ⟨p1, p2, p3⟩ := Q
      dsimp only at s4 hqb hst
      replace s4 := hid s4
      replace hS9 := hid hS9
      by_cases c : p3 = 0
      · subst c
        rw [if_pos rfl] at hst
        have s5 := fun W => radd_any x y p1 p2 W (by omega)
        generalize addS x y p1 p2 = T at *
        obtain ⟨t1, t2, t3⟩ := T
        dsimp only at s5 hst
        by_cases d : t3 = 0
        · subst d
          rw [if_pos rfl] at hst
          replace s5 := hid s5; replace hst := hid hst
          clear herr hbx hqb hpb
          go_wp2_with fail
          refine useF w (s4.out _) (by go_grown) ?_; rintro e w2 rfl hB2 hk2 hf2 hs2
          replace zf0 := hf2 _ _ _ z0 zf0
          replace z0 := hk2 _ _ _ z0
          replace zf1 := hf2 _ _ _ z1 zf1
          replace z1 := hk2 _ _ _ z1
          (try clear zb); have zb := World.block_lt_of_cell? _ _ z0; (try dsimp only at zb)
          replace sf0 := hf2 _ _ _ s0 sf0
          replace s0 := hk2 _ _ _ s0
          replace sf1 := hf2 _ _ _ s1 sf1
          replace s1 := hk2 _ _ _ s1
          (try clear sb); have sb := World.block_lt_of_cell? _ _ s0; (try dsimp only at sb)
          replace hs := (hs).keep hk2
          have hz2 := hB2.size
          clear hk2 hf2 hs2
          have hB2x : Below w.heap.size w (w2.alloc (.cells #[.int .i64 p1, .int .i64 p2] 24)) := by go_grown
          have zf0' := (keepAF (.cells #[.int .i64 p1, .int .i64 p2] 24) z0 zf0)
          have z0' := (keepA (.cells #[.int .i64 p1, .int .i64 p2] 24) z0)
          have zf1' := (keepAF (.cells #[.int .i64 p1, .int .i64 p2] 24) z1 zf1)
          have z1' := (keepA (.cells #[.int .i64 p1, .int .i64 p2] 24) z1)
          have sf0' := (keepAF (.cells #[.int .i64 p1, .int .i64 p2] 24) s0 sf0)
          have s0' := (keepA (.cells #[.int .i64 p1, .int .i64 p2] 24) s0)
          have sf1' := (keepAF (.cells #[.int .i64 p1, .int .i64 p2] 24) s1 sf1)
          have s1' := (keepA (.cells #[.int .i64 p1, .int .i64 p2] 24) s1)
          have hs' := (hs).alloc (.cells #[.int .i64 p1, .int .i64 p2] 24)
          have m0 := (show (w2.alloc (.cells #[.int .i64 p1, .int .i64 p2] 24)).cell? ⟨w2.heap.size, 0, none⟩ = some (.int .i64 p1) by simp [go_sem])
          have mf0 := (show (w2.alloc (.cells #[.int .i64 p1, .int .i64 p2] 24)).frozen? ⟨w2.heap.size, 0, none⟩ = false by simp [go_sem])
          have m1 := (show (w2.alloc (.cells #[.int .i64 p1, .int .i64 p2] 24)).cell? ⟨w2.heap.size, 1, none⟩ = some (.int .i64 p2) by simp [go_sem])
          have mf1 := (show (w2.alloc (.cells #[.int .i64 p1, .int .i64 p2] 24)).frozen? ⟨w2.heap.size, 1, none⟩ = false by simp [go_sem])
          go_wp2_with fail
          replace zf0 := zf0'; clear zf0'
          replace z0 := z0'; clear z0'
          replace zf1 := zf1'; clear zf1'
          replace z1 := z1'; clear z1'
          replace sf0 := sf0'; clear sf0'
          replace s0 := s0'; clear s0'
          replace sf1 := sf1'; clear sf1'
          replace s1 := s1'; clear s1'
          replace hs := hs'; clear hs'
          have hz2x := hB2x.size
          generalize hv2 : (w2.alloc (.cells #[.int .i64 p1, .int .i64 p2] 24)) = v2 at *
          have mb := World.block_lt_of_cell? _ _ m0; (try dsimp only at mb)
          have zb2 := zb
          have sb2 := sb
          clear hv2 hB2
          generalize w2.heap.size = B2 at *
          refine useF w (s5.out _) (by go_grown) ?_; rintro e w3 rfl hB3 hk3 hf3 hs3
          replace zf0 := hf3 _ _ _ z0 zf0
          replace z0 := hk3 _ _ _ z0
          replace zf1 := hf3 _ _ _ z1 zf1
          replace z1 := hk3 _ _ _ z1
          (try clear zb); have zb := World.block_lt_of_cell? _ _ z0; (try dsimp only at zb)
          replace sf0 := hf3 _ _ _ s0 sf0
          replace s0 := hk3 _ _ _ s0
          replace sf1 := hf3 _ _ _ s1 sf1
          replace s1 := hk3 _ _ _ s1
          (try clear sb); have sb := World.block_lt_of_cell? _ _ s0; (try dsimp only at sb)
          replace hs := (hs).keep hk3
          have hz3 := hB3.size
          clear hk3 hf3 hs3
          go_wp2_with fail
          have hB4 : Below w.heap.size w ((w3.setCell ⟨Bs, 0, none⟩ (.int .i64 t1)).setCell ⟨Bs, 1, none⟩ (.int .i64 t2)) := by go_grown
          replace zf0 := two_fz (b := Bs) (x := .int .i64 t1) (y := .int .i64 t2) zf0
          replace z0 := two_other (b := Bs) (x := .int .i64 t1) (y := .int .i64 t2) z0 (by omega)
          replace zf1 := two_fz (b := Bs) (x := .int .i64 t1) (y := .int .i64 t2) zf1
          replace z1 := two_other (b := Bs) (x := .int .i64 t1) (y := .int .i64 t2) z1 (by omega)
          replace sf0 := two_fz (b := Bs) (x := .int .i64 t1) (y := .int .i64 t2) sf0
          replace s0 := two_0 (x := .int .i64 t1) (y := .int .i64 t2) s0
          replace sf1 := two_fz (b := Bs) (x := .int .i64 t1) (y := .int .i64 t2) sf1
          replace s1 := two_1 (x := .int .i64 t1) (y := .int .i64 t2) s1
          replace hs := (hs).two (b := Bs) (x := .int .i64 t1) (y := .int .i64 t2) (by omega)
          have hz4 := hB4.size
          generalize ((w3.setCell ⟨Bs, 0, none⟩ (.int .i64 t1)).setCell ⟨Bs, 1, none⟩ (.int .i64 t2)) = v4 at *
          go_roundw
          case rel => exact ⟨k + 1, by go_num, by omega, by rw [hS9.out, hst.out]; exact hid rfl, hs, by rw [hS9.out, hst.out]; exact ⟨z0, z1, zf0, zf1, s0, s1, sf0, sf1⟩, by assumption⟩
          case measure => first | (simp [intOf]; done) | (simp [intOf]; omega)
        · rw [if_neg d] at hst
          have cb : (t3 != 0) = true := by simpa using d
          have hx : Hid (R = (0, 0, t3)) := hid (by rw [hR.out, herr.out (by rw [hst]; exact d), hst]; exact if_neg d)
          replace s5 := hid s5; replace hst := hid hst
          clear herr hbx hqb hpb hR
          go_wp2_with fail
          refine useF w (s4.out _) (by go_grown) ?_; rintro e w2 rfl hB2 hk2 hf2 hs2
          replace zf0 := hf2 _ _ _ z0 zf0
          replace z0 := hk2 _ _ _ z0
          replace zf1 := hf2 _ _ _ z1 zf1
          replace z1 := hk2 _ _ _ z1
          (try clear zb); have zb := World.block_lt_of_cell? _ _ z0; (try dsimp only at zb)
          replace sf0 := hf2 _ _ _ s0 sf0
          replace s0 := hk2 _ _ _ s0
          replace sf1 := hf2 _ _ _ s1 sf1
          replace s1 := hk2 _ _ _ s1
          (try clear sb); have sb := World.block_lt_of_cell? _ _ s0; (try dsimp only at sb)
          replace hs := (hs).keep hk2
          have hz2 := hB2.size
          clear hk2 hf2 hs2
          have hB2x : Below w.heap.size w (w2.alloc (.cells #[.int .i64 p1, .int .i64 p2] 24)) := by go_grown
          have zf0' := (keepAF (.cells #[.int .i64 p1, .int .i64 p2] 24) z0 zf0)
          have z0' := (keepA (.cells #[.int .i64 p1, .int .i64 p2] 24) z0)
          have zf1' := (keepAF (.cells #[.int .i64 p1, .int .i64 p2] 24) z1 zf1)
          have z1' := (keepA (.cells #[.int .i64 p1, .int .i64 p2] 24) z1)
          have sf0' := (keepAF (.cells #[.int .i64 p1, .int .i64 p2] 24) s0 sf0)
          have s0' := (keepA (.cells #[.int .i64 p1, .int .i64 p2] 24) s0)
          have sf1' := (keepAF (.cells #[.int .i64 p1, .int .i64 p2] 24) s1 sf1)
          have s1' := (keepA (.cells #[.int .i64 p1, .int .i64 p2] 24) s1)
          have hs' := (hs).alloc (.cells #[.int .i64 p1, .int .i64 p2] 24)
          have m0 := (show (w2.alloc (.cells #[.int .i64 p1, .int .i64 p2] 24)).cell? ⟨w2.heap.size, 0, none⟩ = some (.int .i64 p1) by simp [go_sem])
          have mf0 := (show (w2.alloc (.cells #[.int .i64 p1, .int .i64 p2] 24)).frozen? ⟨w2.heap.size, 0, none⟩ = false by simp [go_sem])
          have m1 := (show (w2.alloc (.cells #[.int .i64 p1, .int .i64 p2] 24)).cell? ⟨w2.heap.size, 1, none⟩ = some (.int .i64 p2) by simp [go_sem])
          have mf1 := (show (w2.alloc (.cells #[.int .i64 p1, .int .i64 p2] 24)).frozen? ⟨w2.heap.size, 1, none⟩ = false by simp [go_sem])
          go_wp2_with fail
          replace zf0 := zf0'; clear zf0'
          replace z0 := z0'; clear z0'
          replace zf1 := zf1'; clear zf1'
          replace z1 := z1'; clear z1'
          replace sf0 := sf0'; clear sf0'
          replace s0 := s0'; clear s0'
          replace sf1 := sf1'; clear sf1'
          replace s1 := s1'; clear s1'
          replace hs := hs'; clear hs'
          have hz2x := hB2x.size
          generalize hv2 : (w2.alloc (.cells #[.int .i64 p1, .int .i64 p2] 24)) = v2 at *
          have mb := World.block_lt_of_cell? _ _ m0; (try dsimp only at mb)
          have zb2 := zb
          have sb2 := sb
          clear hv2 hB2
          generalize w2.heap.size = B2 at *
          refine useF w (s5.out _) (by go_grown) ?_; rintro e w3 rfl hB3 hk3 hf3 hs3
          replace zf0 := hf3 _ _ _ z0 zf0
          replace z0 := hk3 _ _ _ z0
          replace zf1 := hf3 _ _ _ z1 zf1
          replace z1 := hk3 _ _ _ z1
          (try clear zb); have zb := World.block_lt_of_cell? _ _ z0; (try dsimp only at zb)
          replace sf0 := hf3 _ _ _ s0 sf0
          replace s0 := hk3 _ _ _ s0
          replace sf1 := hf3 _ _ _ s1 sf1
          replace s1 := hk3 _ _ _ s1
          (try clear sb); have sb := World.block_lt_of_cell? _ _ s0; (try dsimp only at sb)
          replace hs := (hs).keep hk3
          have hz3 := hB3.size
          clear hk3 hf3 hs3
          go_upto_region 13 with fail
          have hB4 : Below w.heap.size w ((w3.setCell ⟨Bs, 0, none⟩ (.int .i64 t1)).setCell ⟨Bs, 1, none⟩ (.int .i64 t2)) := by go_grown
          replace zf0 := two_fz (b := Bs) (x := .int .i64 t1) (y := .int .i64 t2) zf0
          replace z0 := two_other (b := Bs) (x := .int .i64 t1) (y := .int .i64 t2) z0 (by omega)
          replace zf1 := two_fz (b := Bs) (x := .int .i64 t1) (y := .int .i64 t2) zf1
          replace z1 := two_other (b := Bs) (x := .int .i64 t1) (y := .int .i64 t2) z1 (by omega)
          replace sf0 := two_fz (b := Bs) (x := .int .i64 t1) (y := .int .i64 t2) sf0
          replace s0 := two_0 (x := .int .i64 t1) (y := .int .i64 t2) s0
          replace sf1 := two_fz (b := Bs) (x := .int .i64 t1) (y := .int .i64 t2) sf1
          replace s1 := two_1 (x := .int .i64 t1) (y := .int .i64 t2) s1
          replace hs := (hs).two (b := Bs) (x := .int .i64 t1) (y := .int .i64 t2) (by omega)
          have hz4 := hB4.size
          generalize ((w3.setCell ⟨Bs, 0, none⟩ (.int .i64 t1)).setCell ⟨Bs, 1, none⟩ (.int .i64 t2)) = v4 at *
          go_wp2_with fail
          all_goals (refine' bodyPost_ret (res_st_t rfl isA_S isS_S rfl ?_ ?_) rfl ?_; rotate_left 2; (· ((try simp only [World.cell?_drew]); first | (with_reducible exact two_0 (by assumption)) | (with_reducible exact two_1 (by assumption)) | (with_reducible exact two_other (two_0 (by assumption)) (by simp)) | (with_reducible exact two_other (two_1 (by assumption)) (by simp)) | (with_reducible exact two_0 (two_other (by assumption) (by simp))) | (with_reducible exact two_1 (two_other (by assumption) (by simp))) | (simp (maxDischargeDepth := 8) [go_sem, hHeld]; rfl) | (simp (maxDischargeDepth := 8) [go_sem, *]; rfl) | (simp (maxDischargeDepth := 8) [go_sem, *]; done))); (· ((try simp only [World.cell?_drew]); first | (with_reducible exact two_0 (by assumption)) | (with_reducible exact two_1 (by assumption)) | (with_reducible exact two_other (two_0 (by assumption)) (by simp)) | (with_reducible exact two_other (two_1 (by assumption)) (by simp)) | (with_reducible exact two_0 (two_other (by assumption) (by simp))) | (with_reducible exact two_1 (two_other (by assumption) (by simp))) | (simp (maxDischargeDepth := 8) [go_sem, hHeld]; rfl) | (simp (maxDischargeDepth := 8) [go_sem, *]; rfl) | (simp (maxDischargeDepth := 8) [go_sem, *]; done))); refine ⟨ret_r ?_, by go_grown⟩; (exact hx.out.symm))
      · rw [if_neg c, if_neg c] at hst
        have cb : (p3 != 0) = true := by simpa using c
        have hx : Hid (R = (0, 0, p3)) := hid (by rw [hR.out, herr.out (by rw [hst]; exact c), hst]; exact if_neg c)
        replace hst := hid hst
        clear herr hbx hqb hpb hR
        go_wp2_with fail
        refine useF w (s4.out _) (by go_grown) ?_; rintro e w2 rfl hB2 hk2 hf2 hs2
        replace zf0 := hf2 _ _ _ z0 zf0
        replace z0 := hk2 _ _ _ z0
        replace zf1 := hf2 _ _ _ z1 zf1
        replace z1 := hk2 _ _ _ z1
        (try clear zb); have zb := World.block_lt_of_cell? _ _ z0; (try dsimp only at zb)
        replace sf0 := hf2 _ _ _ s0 sf0
        replace s0 := hk2 _ _ _ s0
        replace sf1 := hf2 _ _ _ s1 sf1
        replace s1 := hk2 _ _ _ s1
        (try clear sb); have sb := World.block_lt_of_cell? _ _ s0; (try dsimp only at sb)
        replace hs := (hs).keep hk2
        have hz2 := hB2.size
        clear hk2 hf2 hs2
        have hB2x : Below w.heap.size w (w2.alloc (.cells #[.int .i64 p1, .int .i64 p2] 24)) := by go_grown
        have zf0' := (keepAF (.cells #[.int .i64 p1, .int .i64 p2] 24) z0 zf0)
        have z0' := (keepA (.cells #[.int .i64 p1, .int .i64 p2] 24) z0)
        have zf1' := (keepAF (.cells #[.int .i64 p1, .int .i64 p2] 24) z1 zf1)
        have z1' := (keepA (.cells #[.int .i64 p1, .int .i64 p2] 24) z1)
        have sf0' := (keepAF (.cells #[.int .i64 p1, .int .i64 p2] 24) s0 sf0)
        have s0' := (keepA (.cells #[.int .i64 p1, .int .i64 p2] 24) s0)
        have sf1' := (keepAF (.cells #[.int .i64 p1, .int .i64 p2] 24) s1 sf1)
        have s1' := (keepA (.cells #[.int .i64 p1, .int .i64 p2] 24) s1)
        have hs' := (hs).alloc (.cells #[.int .i64 p1, .int .i64 p2] 24)
        have m0 := (show (w2.alloc (.cells #[.int .i64 p1, .int .i64 p2] 24)).cell? ⟨w2.heap.size, 0, none⟩ = some (.int .i64 p1) by simp [go_sem])
        have mf0 := (show (w2.alloc (.cells #[.int .i64 p1, .int .i64 p2] 24)).frozen? ⟨w2.heap.size, 0, none⟩ = false by simp [go_sem])
        have m1 := (show (w2.alloc (.cells #[.int .i64 p1, .int .i64 p2] 24)).cell? ⟨w2.heap.size, 1, none⟩ = some (.int .i64 p2) by simp [go_sem])
        have mf1 := (show (w2.alloc (.cells #[.int .i64 p1, .int .i64 p2] 24)).frozen? ⟨w2.heap.size, 1, none⟩ = false by simp [go_sem])
        go_upto_region 9 with fail
        replace zf0 := zf0'; clear zf0'
        replace z0 := z0'; clear z0'
        replace zf1 := zf1'; clear zf1'
        replace z1 := z1'; clear z1'
        replace sf0 := sf0'; clear sf0'
        replace s0 := s0'; clear s0'
        replace sf1 := sf1'; clear sf1'
        replace s1 := s1'; clear s1'
        replace hs := hs'; clear hs'
        have hz2x := hB2x.size
        generalize hv2 : (w2.alloc (.cells #[.int .i64 p1, .int .i64 p2] 24)) = v2 at *
        have mb := World.block_lt_of_cell? _ _ m0; (try dsimp only at mb)
        have zb2 := zb
        have sb2 := sb
        clear hv2 hB2
        generalize w2.heap.size = B2 at *
        go_wp2_with fail
        all_goals (refine' bodyPost_ret (res_st_t rfl isA_S isS_S rfl ?_ ?_) rfl ?_; rotate_left 2; (· ((try simp only [World.cell?_drew]); first | (with_reducible exact two_0 (by assumption)) | (with_reducible exact two_1 (by assumption)) | (with_reducible exact two_other (two_0 (by assumption)) (by simp)) | (with_reducible exact two_other (two_1 (by assumption)) (by simp)) | (with_reducible exact two_0 (two_other (by assumption) (by simp))) | (with_reducible exact two_1 (two_other (by assumption) (by simp))) | (simp (maxDischargeDepth := 8) [go_sem, hHeld]; rfl) | (simp (maxDischargeDepth := 8) [go_sem, *]; rfl) | (simp (maxDischargeDepth := 8) [go_sem, *]; done))); (· ((try simp only [World.cell?_drew]); first | (with_reducible exact two_0 (by assumption)) | (with_reducible exact two_1 (by assumption)) | (with_reducible exact two_other (two_0 (by assumption)) (by simp)) | (with_reducible exact two_other (two_1 (by assumption)) (by simp)) | (with_reducible exact two_0 (two_other (by assumption) (by simp))) | (with_reducible exact two_1 (two_other (by assumption) (by simp))) | (simp (maxDischargeDepth := 8) [go_sem, hHeld]; rfl) | (simp (maxDischargeDepth := 8) [go_sem, *]; rfl) | (simp (maxDischargeDepth := 8) [go_sem, *]; done))); refine ⟨ret_r ?_, by go_grown⟩; (exact hx.out.symm))
theorem rnorm_any (q : Option Addr) (cap : Nat) (l : List (Int × Int)) (w : World) (hs : SLp q l w) (hb : ∀ p ∈ l, (-9223372036854775808 ≤ p.1 ∧ p.1 ≤ 9223372036854775807) ∧ (-9223372036854775808 ≤ p.2 ∧ p.2 ≤ 9223372036854775807)) :
    Calls Try.prog 74 #[.slice q l.length cap] w fun e w' => e = .returned (.tuple #[.agg #[.int .i64 ((normS l).1), .int .i64 ((normS l).2.1)], .int .i64 ((normS l).2.2)]) ∧ Below w.heap.size w w' := by
  by_cases c : listE l = 0
  · by_cases c0 : l.length = 0
    · obtain rfl := List.eq_nil_of_length_eq_zero c0
      exact rnorm_nil q cap w _ _ _ _ (hid rfl) (fun W => rroot_any 0 0 W (by omega))
    · rcases hs with rfl | ⟨B, o, rfl, hs⟩
      · exact absurd rfl c0
      · have hl : l.length ≤ 64 := by
          by_cases d : 64 < l.length
          · rw [listE_long d] at c; cases c
          · omega
        refine rnorm_go l B o cap w hs ⟨by omega, hl⟩ hb _ (by unfold normS; rw [if_pos c]; exact hid rfl) (fun W h => ?_)
        have := rlist_any l B o cap W h (by omega) hb
        rw [c] at this
        exact this
  · exact rnorm_bad q l.length cap w (listE l) c _ (by unfold normS; rw [if_neg c]; exact hid rfl) (SLp q l) hs (fun W x h => h.alloc x) (fun W h => rlist_sl q cap l hb W h)
end Go.Proofs.Ytjleflfncijnpaa
