/- pairs of two lists of spans; fold over them. -/
import Derived.RangeFuncNested
import Derived.RangeFuncBound
import Derived.RangeFuncCalls
import Derived.RangeFuncLeaves
import Derived.RangeFuncBox
import Derived.Shelf.Abstract
import Derived.Shelf.RegionOpen
import Derived.OwnWalkIn
import Derived.TacticsInMore
import Derived.LoopNIn
import Derived.LoopIn
import Derived.Test.YtjleflfncijnpaaRows
import Derived.Test.YtjleflfncijnpaaBase
import Derived.Test.YtjleflfncijnpaaFacts
import Derived.Test.YtjleflfncijnpaaTwo
import Derived.Deep.RegionHeld3
import Derived.Deep.RegionWith
import Derived.Deep.QuietTactic
import Derived.BigQuiet
import Derived.Test.YtjleflfncijnpaaW
import Derived.Test.YtjleflfncijnpaaAsks
import Derived.Test.YtjleflfncijnpaaOut
import Derived.Test.YtjleflfncijnpaaSeq
import Derived.Test.YtjleflfncijnpaaTwo
import Derived.Test.YtjleflfncijnpaaOne
import Derived.Test.YtjleflfncijnpaaQuo
import Derived.Test.YtjleflfncijnpaaSums
import Derived.Test.YtjleflfncijnpaaScaleM
import Derived.Test.YtjleflfncijnpaaMul
import Derived.Test.YtjleflfncijnpaaRootM
import Derived.Test.YtjleflfncijnpaaRootT
import Derived.Test.YtjleflfncijnpaaListM
import Derived.Test.YtjleflfncijnpaaTake
import Derived.Test.YtjleflfncijnpaaFold
set_option linter.unusedVariables false
set_option linter.unusedSimpArgs false
set_option maxHeartbeats 4000000
set_option maxRecDepth 100000
namespace Go.Proofs.Ytjleflfncijnpaa
open Go Go.RowKit
open Go.Shelf
attribute [local go_sem] Oper.semAt_some
/-- Two spans within what an int64 holds. -/
abbrev VP := { x : (Int × Int) × Int × Int // (-9223372036854775808 ≤ x.1.1 ∧ x.1.1 ≤ 9223372036854775807) ∧ (-9223372036854775808 ≤ x.1.2 ∧ x.1.2 ≤ 9223372036854775807) ∧ (-9223372036854775808 ≤ x.2.1 ∧ x.2.1 ≤ 9223372036854775807) ∧ (-9223372036854775808 ≤ x.2.2 ∧ x.2.2 ≤ 9223372036854775807) }
abbrev encP (x : VP) : Array Value := #[.agg #[.int .i64 x.1.1.1, .int .i64 x.1.1.2, .int .i64 x.1.2.1, .int .i64 x.1.2.2]]
theorem grownBy_drew' (W : World) : W.grownBy W.drew none := ⟨rfl, rfl, rfl, Nat.le_refl _, fun _ _ _ => rfl⟩
theorem map_get1 {zs : List VP} {k : Nat} {x : VP} (h : zs[k]? = some x) : (zs.map (·.1.1))[k]? = some x.1.1 ∧ (zs.map (·.1.2))[k]? = some x.1.2 := by rw [List.getElem?_map, List.getElem?_map, h]; exact ⟨rfl, rfl⟩
theorem ycase {e : Ending} {A B : Prop} (h : (e = .returned (.bool true) ∧ A) ∨ (e = .returned (.bool false) ∧ B)) : ∃ ok : Bool, e = .returned (.bool ok) ∧ Hid ((ok = true ∧ A) ∨ (ok = false ∧ B)) := by
  rcases h with ⟨rfl, h⟩ | ⟨rfl, h⟩
  · exact ⟨true, rfl, .inl ⟨rfl, h⟩⟩
  · exact ⟨false, rfl, .inr ⟨rfl, h⟩⟩
theorem pairs1_in (F : Fence) (n : Nat) (h7 : F.fn 133) (hro : F.round = none) (hn : 1 ≤ n) (l Ba Bb n₀ b1 o1 c1 b2 o2 c2 : Nat) (zs : List VP) (hl : zs.length ≤ 64) (hb1 : b1 < n₀) (hb2 : b2 < n₀) (J Jx : List VP → World → Prop)
    (W : World) (hn0 : n₀ ≤ W.heap.size) (hJ : AbidesFrom W.heap.size J)
    (hY : ∀ pre x W, J pre W → pre.length < zs.length → YieldAt F (n - 1) Try.prog l (encP x) W fun e W' =>
      (e = .returned (.bool true) ∧ J (pre ++ [x]) W' ∧ Below n₀ W W') ∨ (e = .returned (.bool false) ∧ Jx (pre ++ [x]) W'))
    (hBa : W.cell? ⟨Ba, 0, none⟩ = some (.slice (some ⟨b1, o1, none⟩) zs.length c1)) (hBb : W.cell? ⟨Bb, 0, none⟩ = some (.slice (some ⟨b2, o2, none⟩) zs.length c2)) (hBa0 : Ba < n₀) (hBb0 : Bb < n₀)
    (hca : Spans b1 o1 (zs.map (·.1.1)) W) (hcb : Spans b2 o2 (zs.map (·.1.2)) W) (h0 : J [] W) :
    CallsIn F n Try.prog 133 #[.func (.yield l) #[] #[], .pointer (some ⟨Ba, 0, none⟩), .pointer (some ⟨Bb, 0, none⟩)] W fun e W' => (∃ v, e = .returned v) ∧
      ((∃ ys, ys = zs ∧ J ys W') ∨ (∃ pre, pre <+: zs ∧ Jx pre W')) := by
  refine callsIn_of_wp Try.func133 rfl h7 ?_ hro
  simp only [Try.ntmps133, List.size_toArray, List.length_cons, List.length_nil, Nat.reduceAdd, Nat.reduceSub, Array.replicate_succ, Array.replicate_zero, List.push_toArray, List.append_toArray, List.nil_append, List.cons_append]
  gi_wp2
  gi_loopw [7] (fun i wr => ∃ k : Nat, k ≤ zs.length ∧ i = .int .i64 k ∧ J (zs.take k) wr ∧ Below n₀ W wr ∧ W.heap.size ≤ wr.heap.size)
    (fun i _ => zs.length - (intOf i).toNat)
  case atStart => exact ⟨0, Nat.zero_le _, rfl, h0, Below.refl _ _, Nat.le_refl _⟩
  case round =>
    obtain ⟨k, hk, rfl, hJs, hnx, hsz⟩ := hrel
    by_cases hlt : k < zs.length
    · obtain ⟨x, hx⟩ : ∃ x, zs[k]? = some x := ⟨zs[k], List.getElem?_eq_getElem hlt⟩
      obtain ⟨c0, c1'⟩ := (hca.below hnx hb1) k _ (map_get1 hx).1
      obtain ⟨d0, d1'⟩ := (hcb.below hnx hb2) k _ (map_get1 hx).2
      have a0 := (hnx.cell (p := ⟨Ba, 0, none⟩) hBa0).trans hBa
      have a1 := (hnx.cell (p := ⟨Bb, 0, none⟩) hBb0).trans hBb
      have hJ2 := hJ _ _ _ none hJs (grownBy_drew' wr) (fun r e => by cases e)
      obtain ⟨fn, tmps, assign, body, hy, hR⟩ := hY _ x _ hJ2 (by rw [List.length_take]; omega)
      have hts := hid (take_snoc' hx)
      have hk0 : (0 : Int) ≤ k := by omega
      have hk2 : (k : Int) < zs.length := by omega
      have hbn : Below n₀ W wr.drew := hnx.drew
      dsimp only [encP] at hy
      clear hx
      gi_wp2
      refine wpIn_region_any (by kernel_rfl) ?_
      (try (change wpAnyIn _ _ _ _ _ _ _ _ _ (World.drew _)))
      (refine wpAnyIn_take (i := 0) (v := ?_) hro rfl (by kernel_rfl) (by kernel_rfl) (by kernel_rfl) (fun _ _ _ h => h) ⟨Or.inl ⟨by rfl, ?_⟩, fun _ => rfl⟩ ?_; rotate_left; (· (intro w9; go_simp; (try with_reducible rfl))))
      (refine wpAnyIn_take (i := 2) (v := ?_) hro rfl (by kernel_rfl) (by kernel_rfl) (by kernel_rfl) (fun _ _ _ h => h) ⟨Or.inl ⟨by rfl, ?_⟩, fun _ => rfl⟩ ?_; rotate_left; (· (intro w9; go_simp; (try with_reducible rfl))))
      (refine wpAnyIn_take (i := 6) (v := ?_) hro rfl (by kernel_rfl) (by kernel_rfl) (by kernel_rfl) (fun _ _ _ h => h) ⟨Or.inl ⟨by rfl, ?_⟩, fun _ => rfl⟩ ?_; rotate_left; (· (intro w9; go_simp; (try with_reducible rfl))))
      refine wpAnyIn_ready (rs := [1, 5]) (by kernel_rfl) (by simp) ?_
      refine AllReadyIn.cons rfl (fun K hK => ?_) (AllReadyIn.cons rfl (fun K hK => ?_) (AllReadyIn.nil))
      ·
       go_simp
       refine hK _ _ ?_; clear hK K
       (refine wpAnyIn_take (i := 3) (v := ?_) hro rfl (by kernel_rfl) (by kernel_rfl) (by kernel_rfl) (fun _ _ _ h => h) ⟨Or.inl ⟨by rfl, ?_⟩, fun _ => rfl⟩ ?_; rotate_left; (· (intro w9; go_simp; (try with_reducible rfl))))
       refine wpAnyIn_ready (rs := [4, 5]) (by kernel_rfl) (by simp) ?_
       refine AllReadyIn.cons rfl (fun K hK => ?_) (AllReadyIn.cons rfl (fun K hK => ?_) (AllReadyIn.nil))
       ·
        go_simp
        refine hK _ _ ?_; clear hK K
        refine wpAnyIn_ready (rs := [5]) (by kernel_rfl) (by simp) ?_
        refine AllReadyIn.cons rfl (fun K hK => ?_) (AllReadyIn.nil)
        go_simp
        refine hK _ _ ?_; clear hK K
        (refine wpAnyIn_take (i := 7) (v := ?_) hro rfl (by kernel_rfl) (by kernel_rfl) (by kernel_rfl) (fun _ _ _ h => h) ⟨Or.inl ⟨by rfl, ?_⟩, fun _ => rfl⟩ ?_; rotate_left; (· (intro w9; go_simp; (try with_reducible rfl))))
        refine wpAnyIn_ready (rs := [8]) (by kernel_rfl) (by simp) ?_
        refine AllReadyIn.cons rfl (fun K hK => ?_) (AllReadyIn.nil)
        go_simp
        refine hK _ _ ?_; clear hK K
        (refine wpAnyIn_take (i := 9) (v := ?_) hro rfl (by kernel_rfl) (by kernel_rfl) (by kernel_rfl) (fun _ _ _ h => h) ⟨Or.inl ⟨by rfl, ?_⟩, fun _ => rfl⟩ ?_; rotate_left; (· (intro w9; go_simp; (try with_reducible rfl))))
        refine wpAnyIn_ready (rs := [10]) (by kernel_rfl) (by simp) ?_
        refine AllReadyIn.cons rfl (fun K hK => ?_) (AllReadyIn.nil)
        go_simp
        (refine hR.mono ?_; rintro e W3 hc; obtain ⟨ok, rfl, hc2⟩ := ycase hc; clear hc; go_simp)
        refine hK _ _ ?_; clear hK K
        (refine wpAnyIn_take (i := 11) (v := ?_) hro rfl (by kernel_rfl) (by kernel_rfl) (by kernel_rfl) (fun _ _ _ h => h) ⟨Or.inl ⟨by rfl, ?_⟩, fun _ => rfl⟩ ?_; rotate_left; (· (intro w9; go_simp; (try with_reducible rfl))))
        refine wpAnyIn_done (by kernel_rfl) ?_ _
        rcases hc2.out with ⟨rfl, hJ3, hk3⟩ | ⟨rfl, hJx3⟩
        · clear hc2
          gi_wp2
          go_roundw
          case rel => exact ⟨k + 1, by omega, by simp, by rw [hts.out]; exact hJ3, hbn.trans hk3, by have := hk3.size; simp at this; omega⟩
          case measure => simp [intOf]; omega
        · clear hc2
          gi_wp2
          refine bodyPost_ret (results_none rfl _ _ _) rfl ?_
          exact ⟨⟨_, rfl⟩, .inr ⟨_, by rw [← hts.out]; exact take_pre _ _, hJx3⟩⟩
       ·
        go_simp
        refine hK _ _ ?_; clear hK K
        (refine wpAnyIn_take (i := 7) (v := ?_) hro rfl (by kernel_rfl) (by kernel_rfl) (by kernel_rfl) (fun _ _ _ h => h) ⟨Or.inl ⟨by rfl, ?_⟩, fun _ => rfl⟩ ?_; rotate_left; (· (intro w9; go_simp; (try with_reducible rfl))))
        refine wpAnyIn_ready (rs := [4, 8]) (by kernel_rfl) (by simp) ?_
        refine AllReadyIn.cons rfl (fun K hK => ?_) (AllReadyIn.cons rfl (fun K hK => ?_) (AllReadyIn.nil))
        ·
         go_simp
         refine hK _ _ ?_; clear hK K
         refine wpAnyIn_ready (rs := [8]) (by kernel_rfl) (by simp) ?_
         refine AllReadyIn.cons rfl (fun K hK => ?_) (AllReadyIn.nil)
         go_simp
         refine hK _ _ ?_; clear hK K
         (refine wpAnyIn_take (i := 9) (v := ?_) hro rfl (by kernel_rfl) (by kernel_rfl) (by kernel_rfl) (fun _ _ _ h => h) ⟨Or.inl ⟨by rfl, ?_⟩, fun _ => rfl⟩ ?_; rotate_left; (· (intro w9; go_simp; (try with_reducible rfl))))
         refine wpAnyIn_ready (rs := [10]) (by kernel_rfl) (by simp) ?_
         refine AllReadyIn.cons rfl (fun K hK => ?_) (AllReadyIn.nil)
         go_simp
         (refine hR.mono ?_; rintro e W3 hc; obtain ⟨ok, rfl, hc2⟩ := ycase hc; clear hc; go_simp)
         refine hK _ _ ?_; clear hK K
         (refine wpAnyIn_take (i := 11) (v := ?_) hro rfl (by kernel_rfl) (by kernel_rfl) (by kernel_rfl) (fun _ _ _ h => h) ⟨Or.inl ⟨by rfl, ?_⟩, fun _ => rfl⟩ ?_; rotate_left; (· (intro w9; go_simp; (try with_reducible rfl))))
         refine wpAnyIn_done (by kernel_rfl) ?_ _
         rcases hc2.out with ⟨rfl, hJ3, hk3⟩ | ⟨rfl, hJx3⟩
         · clear hc2
           gi_wp2
           go_roundw
           case rel => exact ⟨k + 1, by omega, by simp, by rw [hts.out]; exact hJ3, hbn.trans hk3, by have := hk3.size; simp at this; omega⟩
           case measure => simp [intOf]; omega
         · clear hc2
           gi_wp2
           refine bodyPost_ret (results_none rfl _ _ _) rfl ?_
           exact ⟨⟨_, rfl⟩, .inr ⟨_, by rw [← hts.out]; exact take_pre _ _, hJx3⟩⟩
        ·
         go_simp
         refine hK _ _ ?_; clear hK K
         refine wpAnyIn_ready (rs := [4]) (by kernel_rfl) (by simp) ?_
         refine AllReadyIn.cons rfl (fun K hK => ?_) (AllReadyIn.nil)
         go_simp
         refine hK _ _ ?_; clear hK K
         (refine wpAnyIn_take (i := 9) (v := ?_) hro rfl (by kernel_rfl) (by kernel_rfl) (by kernel_rfl) (fun _ _ _ h => h) ⟨Or.inl ⟨by rfl, ?_⟩, fun _ => rfl⟩ ?_; rotate_left; (· (intro w9; go_simp; (try with_reducible rfl))))
         refine wpAnyIn_ready (rs := [10]) (by kernel_rfl) (by simp) ?_
         refine AllReadyIn.cons rfl (fun K hK => ?_) (AllReadyIn.nil)
         go_simp
         (refine hR.mono ?_; rintro e W3 hc; obtain ⟨ok, rfl, hc2⟩ := ycase hc; clear hc; go_simp)
         refine hK _ _ ?_; clear hK K
         (refine wpAnyIn_take (i := 11) (v := ?_) hro rfl (by kernel_rfl) (by kernel_rfl) (by kernel_rfl) (fun _ _ _ h => h) ⟨Or.inl ⟨by rfl, ?_⟩, fun _ => rfl⟩ ?_; rotate_left; (· (intro w9; go_simp; (try with_reducible rfl))))
         refine wpAnyIn_done (by kernel_rfl) ?_ _
         rcases hc2.out with ⟨rfl, hJ3, hk3⟩ | ⟨rfl, hJx3⟩
         · clear hc2
           gi_wp2
           go_roundw
           case rel => exact ⟨k + 1, by omega, by simp, by rw [hts.out]; exact hJ3, hbn.trans hk3, by have := hk3.size; simp at this; omega⟩
           case measure => simp [intOf]; omega
         · clear hc2
           gi_wp2
           refine bodyPost_ret (results_none rfl _ _ _) rfl ?_
           exact ⟨⟨_, rfl⟩, .inr ⟨_, by rw [← hts.out]; exact take_pre _ _, hJx3⟩⟩
      ·
       go_simp
       refine hK _ _ ?_; clear hK K
       (refine wpAnyIn_take (i := 7) (v := ?_) hro rfl (by kernel_rfl) (by kernel_rfl) (by kernel_rfl) (fun _ _ _ h => h) ⟨Or.inl ⟨by rfl, ?_⟩, fun _ => rfl⟩ ?_; rotate_left; (· (intro w9; go_simp; (try with_reducible rfl))))
       refine wpAnyIn_ready (rs := [1, 8]) (by kernel_rfl) (by simp) ?_
       refine AllReadyIn.cons rfl (fun K hK => ?_) (AllReadyIn.cons rfl (fun K hK => ?_) (AllReadyIn.nil))
       ·
        go_simp
        refine hK _ _ ?_; clear hK K
        (refine wpAnyIn_take (i := 3) (v := ?_) hro rfl (by kernel_rfl) (by kernel_rfl) (by kernel_rfl) (fun _ _ _ h => h) ⟨Or.inl ⟨by rfl, ?_⟩, fun _ => rfl⟩ ?_; rotate_left; (· (intro w9; go_simp; (try with_reducible rfl))))
        refine wpAnyIn_ready (rs := [4, 8]) (by kernel_rfl) (by simp) ?_
        refine AllReadyIn.cons rfl (fun K hK => ?_) (AllReadyIn.cons rfl (fun K hK => ?_) (AllReadyIn.nil))
        ·
         go_simp
         refine hK _ _ ?_; clear hK K
         refine wpAnyIn_ready (rs := [8]) (by kernel_rfl) (by simp) ?_
         refine AllReadyIn.cons rfl (fun K hK => ?_) (AllReadyIn.nil)
         go_simp
         refine hK _ _ ?_; clear hK K
         (refine wpAnyIn_take (i := 9) (v := ?_) hro rfl (by kernel_rfl) (by kernel_rfl) (by kernel_rfl) (fun _ _ _ h => h) ⟨Or.inl ⟨by rfl, ?_⟩, fun _ => rfl⟩ ?_; rotate_left; (· (intro w9; go_simp; (try with_reducible rfl))))
         refine wpAnyIn_ready (rs := [10]) (by kernel_rfl) (by simp) ?_
         refine AllReadyIn.cons rfl (fun K hK => ?_) (AllReadyIn.nil)
         go_simp
         (refine hR.mono ?_; rintro e W3 hc; obtain ⟨ok, rfl, hc2⟩ := ycase hc; clear hc; go_simp)
         refine hK _ _ ?_; clear hK K
         (refine wpAnyIn_take (i := 11) (v := ?_) hro rfl (by kernel_rfl) (by kernel_rfl) (by kernel_rfl) (fun _ _ _ h => h) ⟨Or.inl ⟨by rfl, ?_⟩, fun _ => rfl⟩ ?_; rotate_left; (· (intro w9; go_simp; (try with_reducible rfl))))
         refine wpAnyIn_done (by kernel_rfl) ?_ _
         rcases hc2.out with ⟨rfl, hJ3, hk3⟩ | ⟨rfl, hJx3⟩
         · clear hc2
           gi_wp2
           go_roundw
           case rel => exact ⟨k + 1, by omega, by simp, by rw [hts.out]; exact hJ3, hbn.trans hk3, by have := hk3.size; simp at this; omega⟩
           case measure => simp [intOf]; omega
         · clear hc2
           gi_wp2
           refine bodyPost_ret (results_none rfl _ _ _) rfl ?_
           exact ⟨⟨_, rfl⟩, .inr ⟨_, by rw [← hts.out]; exact take_pre _ _, hJx3⟩⟩
        ·
         go_simp
         refine hK _ _ ?_; clear hK K
         refine wpAnyIn_ready (rs := [4]) (by kernel_rfl) (by simp) ?_
         refine AllReadyIn.cons rfl (fun K hK => ?_) (AllReadyIn.nil)
         go_simp
         refine hK _ _ ?_; clear hK K
         (refine wpAnyIn_take (i := 9) (v := ?_) hro rfl (by kernel_rfl) (by kernel_rfl) (by kernel_rfl) (fun _ _ _ h => h) ⟨Or.inl ⟨by rfl, ?_⟩, fun _ => rfl⟩ ?_; rotate_left; (· (intro w9; go_simp; (try with_reducible rfl))))
         refine wpAnyIn_ready (rs := [10]) (by kernel_rfl) (by simp) ?_
         refine AllReadyIn.cons rfl (fun K hK => ?_) (AllReadyIn.nil)
         go_simp
         (refine hR.mono ?_; rintro e W3 hc; obtain ⟨ok, rfl, hc2⟩ := ycase hc; clear hc; go_simp)
         refine hK _ _ ?_; clear hK K
         (refine wpAnyIn_take (i := 11) (v := ?_) hro rfl (by kernel_rfl) (by kernel_rfl) (by kernel_rfl) (fun _ _ _ h => h) ⟨Or.inl ⟨by rfl, ?_⟩, fun _ => rfl⟩ ?_; rotate_left; (· (intro w9; go_simp; (try with_reducible rfl))))
         refine wpAnyIn_done (by kernel_rfl) ?_ _
         rcases hc2.out with ⟨rfl, hJ3, hk3⟩ | ⟨rfl, hJx3⟩
         · clear hc2
           gi_wp2
           go_roundw
           case rel => exact ⟨k + 1, by omega, by simp, by rw [hts.out]; exact hJ3, hbn.trans hk3, by have := hk3.size; simp at this; omega⟩
           case measure => simp [intOf]; omega
         · clear hc2
           gi_wp2
           refine bodyPost_ret (results_none rfl _ _ _) rfl ?_
           exact ⟨⟨_, rfl⟩, .inr ⟨_, by rw [← hts.out]; exact take_pre _ _, hJx3⟩⟩
       ·
        go_simp
        refine hK _ _ ?_; clear hK K
        refine wpAnyIn_ready (rs := [1]) (by kernel_rfl) (by simp) ?_
        refine AllReadyIn.cons rfl (fun K hK => ?_) (AllReadyIn.nil)
        go_simp
        refine hK _ _ ?_; clear hK K
        (refine wpAnyIn_take (i := 3) (v := ?_) hro rfl (by kernel_rfl) (by kernel_rfl) (by kernel_rfl) (fun _ _ _ h => h) ⟨Or.inl ⟨by rfl, ?_⟩, fun _ => rfl⟩ ?_; rotate_left; (· (intro w9; go_simp; (try with_reducible rfl))))
        refine wpAnyIn_ready (rs := [4]) (by kernel_rfl) (by simp) ?_
        refine AllReadyIn.cons rfl (fun K hK => ?_) (AllReadyIn.nil)
        go_simp
        refine hK _ _ ?_; clear hK K
        (refine wpAnyIn_take (i := 9) (v := ?_) hro rfl (by kernel_rfl) (by kernel_rfl) (by kernel_rfl) (fun _ _ _ h => h) ⟨Or.inl ⟨by rfl, ?_⟩, fun _ => rfl⟩ ?_; rotate_left; (· (intro w9; go_simp; (try with_reducible rfl))))
        refine wpAnyIn_ready (rs := [10]) (by kernel_rfl) (by simp) ?_
        refine AllReadyIn.cons rfl (fun K hK => ?_) (AllReadyIn.nil)
        go_simp
        (refine hR.mono ?_; rintro e W3 hc; obtain ⟨ok, rfl, hc2⟩ := ycase hc; clear hc; go_simp)
        refine hK _ _ ?_; clear hK K
        (refine wpAnyIn_take (i := 11) (v := ?_) hro rfl (by kernel_rfl) (by kernel_rfl) (by kernel_rfl) (fun _ _ _ h => h) ⟨Or.inl ⟨by rfl, ?_⟩, fun _ => rfl⟩ ?_; rotate_left; (· (intro w9; go_simp; (try with_reducible rfl))))
        refine wpAnyIn_done (by kernel_rfl) ?_ _
        rcases hc2.out with ⟨rfl, hJ3, hk3⟩ | ⟨rfl, hJx3⟩
        · clear hc2
          gi_wp2
          go_roundw
          case rel => exact ⟨k + 1, by omega, by simp, by rw [hts.out]; exact hJ3, hbn.trans hk3, by have := hk3.size; simp at this; omega⟩
          case measure => simp [intOf]; omega
        · clear hc2
          gi_wp2
          refine bodyPost_ret (results_none rfl _ _ _) rfl ?_
          exact ⟨⟨_, rfl⟩, .inr ⟨_, by rw [← hts.out]; exact take_pre _ _, hJx3⟩⟩
    · obtain rfl : k = zs.length := by omega
      gi_wp2
      go_end0
      exact ⟨⟨_, rfl⟩, .inl ⟨zs, rfl, by rw [List.take_length] at hJs; exact hJs⟩⟩
theorem pairs1_nil (F : Fence) (n : Nat) (h7 : F.fn 133) (hro : F.round = none) (l Ba Bb c1 : Nat) (q1 : Option Addr) (J : List VP → World → Prop)
    (W : World) (hBa : W.cell? ⟨Ba, 0, none⟩ = some (.slice q1 0 c1)) (h0 : J [] W) :
    CallsIn F n Try.prog 133 #[.func (.yield l) #[] #[], .pointer (some ⟨Ba, 0, none⟩), .pointer (some ⟨Bb, 0, none⟩)] W fun e W' => (∃ v, e = .returned v) ∧ J [] W' := by
  refine callsIn_of_wp Try.func133 rfl h7 ?_ hro
  simp only [Try.ntmps133, List.size_toArray, List.length_cons, List.length_nil, Nat.reduceAdd, Nat.reduceSub, Array.replicate_succ, Array.replicate_zero, List.push_toArray, List.append_toArray, List.nil_append, List.cons_append]
  gi_wp2
  gi_loopw [7] (fun i wr => i = .int .i64 0 ∧ J [] wr) (fun _ _ => 0)
  case atStart => exact ⟨rfl, h0⟩
  case round =>
    obtain ⟨rfl, hJs⟩ := hrel
    gi_wp2
    go_end0
    exact ⟨⟨_, rfl⟩, hJs⟩
/-- Two slices' values: their spans lie below n₀. -/
def PV (n₀ : Nat) (q1 q2 : Option Addr) (zs : List VP) (W : World) : Prop := zs = [] ∨ ∃ b1 o1 b2 o2, q1 = some ⟨b1, o1, none⟩ ∧ q2 = some ⟨b2, o2, none⟩ ∧ b1 < n₀ ∧ b2 < n₀ ∧ Spans b1 o1 (zs.map (·.1.1)) W ∧ Spans b2 o2 (zs.map (·.1.2)) W
theorem PV.below {n₀ : Nat} {q1 q2 : Option Addr} {zs : List VP} {A B : World} (h : PV n₀ q1 q2 zs A) (hb : Below n₀ A B) : PV n₀ q1 q2 zs B := by
  rcases h with h | ⟨b1, o1, b2, o2, e1, e2, l1, l2, h1, h2⟩
  · exact .inl h
  · exact .inr ⟨b1, o1, b2, o2, e1, e2, l1, l2, h1.below hb l1, h2.below hb l2⟩
theorem pairs_stops (F : Fence) (n : Nat) (h7 : F.fn 133) (hro : F.round = none) (hn : 1 ≤ n) (Ba Bb n₀ c1 c2 : Nat) (q1 q2 : Option Addr) (zs : List VP) (hl : zs.length ≤ 64) (w : World) (hBa : Ba < n₀) (hBb : Bb < n₀) (hn₀ : n₀ ≤ w.heap.size)
    (hca : w.cell? ⟨Ba, 0, none⟩ = some (.slice q1 zs.length c1)) (hcb : w.cell? ⟨Bb, 0, none⟩ = some (.slice q2 zs.length c2)) (hI : PV n₀ q1 q2 zs w) :
    SeqStopsK F n Try.prog 133 #[.pointer (some ⟨Ba, 0, none⟩), .pointer (some ⟨Bb, 0, none⟩)] encP (Below n₀) (fun ys => ys = zs) (fun pre => pre <+: zs) zs.length w := fun l J Jx W hW hJ hJx hY h0 => by
  have hca' := (hW.cell (p := ⟨Ba, 0, none⟩) (by show Ba < w.heap.size; omega)).trans hca
  have hcb' := (hW.cell (p := ⟨Bb, 0, none⟩) (by show Bb < w.heap.size; omega)).trans hcb
  rcases hI.below (hW.mono hn₀) with rfl | ⟨b1, o1, b2, o2, rfl, rfl, l1, l2, h1, h2⟩
  · exact (pairs1_nil F n h7 hro l Ba Bb c1 q1 J W hca' h0).mono fun e W' ⟨he, hj⟩ => ⟨he, .inl ⟨_, rfl, hj⟩⟩
  · exact pairs1_in F n h7 hro hn l Ba Bb n₀ b1 o1 c1 b2 o2 c2 zs hl l1 l2 J Jx W (by have := hW.size; omega) hJ hY hca' hcb' hBa hBb h1 h2 h0
theorem pairs_any (q1 q2 : Option Addr) (n1 c1 n2 c2 : Nat) (w : World) :
    Calls Try.prog 113 #[.slice q1 n1 c1, .slice q2 n2 c2] w fun e w' => e = .returned (.func (.func 133) #[] #[.pointer (some ⟨w.heap.size, 0, none⟩), .pointer (some ⟨w.heap.size + 1, 0, none⟩)]) ∧ w' = (w.alloc (.cells #[.slice q1 n1 c1] 68)).alloc (.cells #[.slice q2 n2 c2] 68) := by
  go_enter Try.func113, Try.ntmps113
  go_wp2_with fail
  go_ret
  exact ⟨rfl, rfl⟩

theorem foldDot_in (n : Nat) (hn : 3 ≤ n) (Ba Bb c1 c2 : Nat) (q1 q2 : Option Addr) (zs : List VP) (hl : zs.length ≤ 64) (w : World) (hBa : Ba < w.heap.size) (hBb : Bb < w.heap.size) (hca : w.cell? ⟨Ba, 0, none⟩ = some (.slice q1 zs.length c1)) (hcb : w.cell? ⟨Bb, 0, none⟩ = some (.slice q2 zs.length c2)) (hI : PV w.heap.size q1 q2 zs w)
    (tk : Int × Int → VP → Int × Int × Int) (htk : Hid (∀ s x, Bx (tk s x)))
    (hT : Hid (∀ (s : Int × Int) (x : VP) (w : World), (-9223372036854775808 ≤ s.1 ∧ s.1 ≤ 9223372036854775807) ∧ (-9223372036854775808 ≤ s.2 ∧ s.2 ≤ 9223372036854775807) → Calls Try.prog 114 #[.agg #[.int .i64 s.1, .int .i64 s.2], .agg #[.int .i64 x.1.1.1, .int .i64 x.1.1.2, .int .i64 x.1.2.1, .int .i64 x.1.2.2]] w fun e w' => e = .returned (.tuple #[.agg #[.int .i64 ((tk s x).1), .int .i64 ((tk s x).2.1)], .int .i64 ((tk s x).2.2)]) ∧ Below w.heap.size w w')) :
    CallsIn Fence.wide n Try.prog 112 #[.func (.func 133) #[] #[.pointer (some ⟨Ba, 0, none⟩), .pointer (some ⟨Bb, 0, none⟩)], .func (.func 114) #[] #[]] w fun e W' => e = .returned (.tuple #[.agg #[.int .i64 ((runL tk zs).1), .int .i64 ((runL tk zs).2.1)], .int .i64 ((runL tk zs).2.2)]) ∧ Below w.heap.size w W' := by
  refine callsIn_of_wp_marks Try.func112 rfl trivial ?_ rfl
  simp only [Try.ntmps112, List.size_toArray, List.length_cons, List.length_nil, Nat.reduceAdd, Nat.reduceSub, Array.replicate_succ, Array.replicate_zero, List.push_toArray, List.append_toArray, List.nil_append, List.cons_append]
  gi_wp2
  have hFI : FI w.heap.size 114 (0, 0, 0) ((((w.alloc (.cells #[.func (.func 114) #[] #[]] 120)).alloc (.cells #[.int .i64 0, .int .i64 0] 24)).alloc (.cells #[.int .i64 0] 25)).alloc (.cells #[.int .i64 0, .int .i64 0] 24)) :=
    ⟨by simp [go_sem], by simp [go_sem], by simp [go_sem], by simp [go_sem], by simp [go_sem], by simp [go_sem], by simp [go_sem], by simp [go_sem], by simp [go_sem], by simp [go_sem], by simp [go_sem]⟩
  have hB0 : Below w.heap.size w ((((w.alloc (.cells #[.func (.func 114) #[] #[]] 120)).alloc (.cells #[.int .i64 0, .int .i64 0] 24)).alloc (.cells #[.int .i64 0] 25)).alloc (.cells #[.int .i64 0, .int .i64 0] 24)) := by go_grown
  have hsz : ((((w.alloc (.cells #[.func (.func 114) #[] #[]] 120)).alloc (.cells #[.int .i64 0, .int .i64 0] 24)).alloc (.cells #[.int .i64 0] 25)).alloc (.cells #[.int .i64 0, .int .i64 0] 24)).heap.size = w.heap.size + 4 := by simp
  generalize ((((w.alloc (.cells #[.func (.func 114) #[] #[]] 120)).alloc (.cells #[.int .i64 0, .int .i64 0] 24)).alloc (.cells #[.int .i64 0] 25)).alloc (.cells #[.int .i64 0, .int .i64 0] 24)) = W0 at *
  refine wpIn_rangeFunc_ownH rfl (by omega) (gf := 133) (lb := #[.pointer (some ⟨Ba, 0, none⟩), .pointer (some ⟨Bb, 0, none⟩)]) rfl trivial (enters_of Try.func133 (by kernel_rfl) rfl)
    (pairs_stops Fence.wide (n - 1) trivial rfl (by omega) Ba Bb w.heap.size c1 c2 q1 q2 zs hl W0 hBa hBb (by omega) ((hB0.cell (p := ⟨Ba, 0, none⟩) hBa).trans hca) ((hB0.cell (p := ⟨Bb, 0, none⟩) hBb).trans hcb) (hI.below hB0)) belowK_t (belowK_b (by omega)) (Below.refl _ _) (fun _ => rfl)
    (fun pre W => ((runL tk pre).2.2 = 0 ∧ FI w.heap.size 114 (runL tk pre) W) ∧ Below w.heap.size w W)
    (fun c pre W => ((c = .ret ∧ (runL tk pre).2.2 ≠ 0) ∧ FE w.heap.size (runL tk pre) W) ∧ Below w.heap.size w W)
    (OwnFrom.and (OwnFrom.and (ownFrom_pure _ _) (Own.from (FI_own _ _ _) _)) (ownFrom_below (Nat.le_refl _) (by omega)))
    (fun c => OwnFrom.and (OwnFrom.and (ownFrom_pure _ _) (Own.from (FE_own _ _) _)) (ownFrom_below (Nat.le_refl _) (by omega)))
    ⟨⟨rfl, hFI⟩, hB0⟩
    (fun x a' W => ∃ Bi, w.heap.size + 1 + 1 + 1 < Bi ∧ (W.cell? ⟨Bi, 0, none⟩ = some (.int .i64 x.1.1.1) ∧ W.cell? ⟨Bi, 1, none⟩ = some (.int .i64 x.1.1.2) ∧ W.cell? ⟨Bi, 2, none⟩ = some (.int .i64 x.1.2.1) ∧ W.cell? ⟨Bi, 3, none⟩ = some (.int .i64 x.1.2.2)) ∧ a' = { tmps := #[.func (.func 133) #[] #[.pointer (some ⟨Ba, 0, none⟩), .pointer (some ⟨Bb, 0, none⟩)], .func (.func 114) #[] #[], undef, .pointer (some ⟨w.heap.size, 0, none⟩), .pointer (some ⟨w.heap.size + 1, 0, none⟩), .pointer (some ⟨w.heap.size + 1 + 1, 0, none⟩), .pointer (some ⟨w.heap.size + 1 + 1 + 1, 0, none⟩), .pointer (some ⟨Bi, 0, none⟩), undef, undef, .func (.func 133) #[] #[.pointer (some ⟨Ba, 0, none⟩), .pointer (some ⟨Bb, 0, none⟩)], .agg #[.int .i64 x.1.1.1, .int .i64 x.1.1.2, .int .i64 x.1.2.1, .int .i64 x.1.2.2], undef, undef, undef, undef, undef, undef, undef, undef, undef, undef, undef, undef, undef], defers := [] })
    (fun x a' _ X Y row hs hg hr => by obtain ⟨Bi, h1, ⟨h2, h3, h5, h6⟩, h4⟩ := hs; exact ⟨Bi, h1, ⟨cell_kept h2 hg (fun r e => (hr r e).2), cell_kept h3 hg (fun r e => (hr r e).2), cell_kept h5 hg (fun r e => (hr r e).2), cell_kept h6 hg (fun r e => (hr r e).2)⟩, h4⟩)
    ?assign ?body ?done ?stop
  case assign =>
    rintro l pre x W K ⟨⟨he, hF⟩, hB1⟩ hK
    have hF2 := hF
    obtain ⟨h1, h2, h3, h4, h5, h6, h7, h8, h9, h10, h11⟩ := hF
    dsimp only [encP]
    gi_wp2
    exact hK _ _ ((KeepsOthers.alloc _ _).from _) ((Below.refl _ W).alloc hB1.size _) ⟨⟨he, FI_own w.heap.size _ (fun _ : Unit => runL tk pre) () _ _ none hF2 (World.grownBy_alloc _ _ _) (fun r e => by cases e)⟩, hB1.alloc hB1.size _⟩ ⟨W.heap.size, World.block_lt_of_cell? W ⟨_, 0, none⟩ h8, ⟨show (W.alloc (.cells #[.int .i64 x.1.1.1, .int .i64 x.1.1.2, .int .i64 x.1.2.1, .int .i64 x.1.2.2] 116)).cell? ⟨W.heap.size, 0, none⟩ = _ by simp [go_sem], show (W.alloc (.cells #[.int .i64 x.1.1.1, .int .i64 x.1.1.2, .int .i64 x.1.2.1, .int .i64 x.1.2.2] 116)).cell? ⟨W.heap.size, 1, none⟩ = _ by simp [go_sem], show (W.alloc (.cells #[.int .i64 x.1.1.1, .int .i64 x.1.1.2, .int .i64 x.1.2.1, .int .i64 x.1.2.2] 116)).cell? ⟨W.heap.size, 2, none⟩ = _ by simp [go_sem], show (W.alloc (.cells #[.int .i64 x.1.1.1, .int .i64 x.1.1.2, .int .i64 x.1.2.1, .int .i64 x.1.2.2] 116)).cell? ⟨W.heap.size, 3, none⟩ = _ by simp [go_sem]⟩, rfl⟩
  case body =>
    rintro l pre x a' W hl2 - ⟨⟨he, h1, h2, h3, h4, h5, h6, h7, h8, h9, h10, h11⟩, hB1⟩ ⟨Bi, hBi, ⟨i0, i1, i2, i3⟩, rfl⟩ hlt
    have hbx := run_box (tk := tk) htk.out pre
    have hstep := runL_snoc tk pre x
    generalize hS : runL tk pre = S at *
    generalize hS2 : runL tk (pre ++ [x]) = S2 at *
    obtain ⟨s1, s2, s3⟩ := S
    dsimp only at he h8 h9 hstep
    subst he
    have hct := fun W => hT.out (s1, s2) x W (by unfold Bx at hbx; dsimp only at hbx ⊢; omega)
    have hsw := hB1.size
    have hib := World.block_lt_of_cell? _ _ i0
    dsimp only at hib
    have h1' : 1 ≤ n - 1 - 1 := by omega
    replace hS2 := hid hS2
    replace hS := hid hS
    by_cases c : (tk (s1, s2) x).2.2 = 0
    · have hs2 := hid (hstep.trans (step_ok rfl c))
      generalize tk (s1, s2) x = T at *
      obtain ⟨r1, r2, r3⟩ := T
      dsimp only at c hct
      subst c
      replace hct := hid hct
      clear hstep hbx htk hT
      gi_wp2_with (first | (refine ⟨trivial, ?_⟩; gi_at_call 114; refine (CallsIn.inRound l (callsIn_wide.2 (hct.out _))).mono ?_; rintro e w1 ⟨rfl, hb1⟩; replace h1 := keepB hb1 h1; replace h4 := keepBF hb1 h2 h4; replace h5 := keepBF hb1 h3 h5; replace h2 := keepB hb1 h2; replace h3 := keepB hb1 h3; replace h7 := keepBF hb1 h6 h7; replace h6 := keepB hb1 h6; replace h10 := keepBF hb1 h8 h10; replace h11 := keepBF hb1 h9 h11; replace h8 := keepB hb1 h8; replace h9 := keepB hb1 h9; clear i0 i1 i2 i3; have g8 := World.block_lt_of_cell? w1 ⟨w.heap.size + 1 + 1 + 1, 0, none⟩ h8; dsimp only at g8; have g2 : w.heap.size + 1 < w1.heap.size := (by omega); have g6 : w.heap.size + 1 + 1 < w1.heap.size := (by omega); have g0 : w.heap.size < w1.heap.size := (by omega)) | (gi_at_call 114; refine (CallsIn.inRound l (callsIn_wide.2 (hct.out _))).mono ?_; rintro e w1 ⟨rfl, hb1⟩; replace h1 := keepB hb1 h1; replace h4 := keepBF hb1 h2 h4; replace h5 := keepBF hb1 h3 h5; replace h2 := keepB hb1 h2; replace h3 := keepB hb1 h3; replace h7 := keepBF hb1 h6 h7; replace h6 := keepB hb1 h6; replace h10 := keepBF hb1 h8 h10; replace h11 := keepBF hb1 h9 h11; replace h8 := keepB hb1 h8; replace h9 := keepB hb1 h9; clear i0 i1 i2 i3; have g8 := World.block_lt_of_cell? w1 ⟨w.heap.size + 1 + 1 + 1, 0, none⟩ h8; dsimp only at g8; have g2 : w.heap.size + 1 < w1.heap.size := (by omega); have g6 : w.heap.size + 1 + 1 < w1.heap.size := (by omega); have g0 : w.heap.size < w1.heap.size := (by omega)))
      have hbm : Below w.heap.size W w1 := hb1.mono hsw
      have hB2 : Below w.heap.size W (((w1.setCell ⟨w.heap.size + 1 + 1 + 1, 0, none⟩ (.int .i64 r1)).setCell ⟨w.heap.size + 1 + 1 + 1, 1, none⟩ (.int .i64 r2)).alloc (.cells #[.int .i64 r1, .int .i64 r2] 24)) := by go_grown
      have hfin := hS2.out.trans hs2.out
      exact ⟨(keepsBelow hb1).trans (((KeepsOthers.setCell _ _ _).from _).trans (((KeepsOthers.setCell _ _ _).from _).trans ((KeepsOthers.alloc _ _).from _))), hB2, ⟨⟨by rw [hfin], by
        rw [hfin]
        exact ⟨keepA _ (two_other h1 (by omega)), keepA _ (two_other h2 (by omega)), keepA _ (two_other h3 (by omega)), keepAF _ (two_other h2 (by omega)) (two_fz h4), keepAF _ (two_other h3 (by omega)) (two_fz h5),
          keepA _ (two_other h6 (by omega)), keepAF _ (two_other h6 (by omega)) (two_fz h7), keepA _ (two_0 h8), keepA _ (two_1 h9), keepAF _ (two_0 h8) (two_fz h10), keepAF _ (two_1 h9) (two_fz h11)⟩⟩, hB1.trans hB2⟩⟩
    · have hs2 := hid (hstep.trans (step_bad rfl c))
      generalize tk (s1, s2) x = T at *
      obtain ⟨r1, r2, r3⟩ := T
      dsimp only at c hct hs2
      have cb : (r3 != 0) = true := by simpa using c
      have ci : ¬ r3 = 0 := c
      replace hct := hid hct
      clear hstep hbx htk hT
      gi_wp2_with (first | (refine ⟨trivial, ?_⟩; gi_at_call 114; refine (CallsIn.inRound l (callsIn_wide.2 (hct.out _))).mono ?_; rintro e w1 ⟨rfl, hb1⟩; replace h1 := keepB hb1 h1; replace h4 := keepBF hb1 h2 h4; replace h5 := keepBF hb1 h3 h5; replace h2 := keepB hb1 h2; replace h3 := keepB hb1 h3; replace h7 := keepBF hb1 h6 h7; replace h6 := keepB hb1 h6; replace h10 := keepBF hb1 h8 h10; replace h11 := keepBF hb1 h9 h11; replace h8 := keepB hb1 h8; replace h9 := keepB hb1 h9; clear i0 i1 i2 i3; have g8 := World.block_lt_of_cell? w1 ⟨w.heap.size + 1 + 1 + 1, 0, none⟩ h8; dsimp only at g8; have g2 : w.heap.size + 1 < w1.heap.size := (by omega); have g6 : w.heap.size + 1 + 1 < w1.heap.size := (by omega); have g0 : w.heap.size < w1.heap.size := (by omega)) | (gi_at_call 114; refine (CallsIn.inRound l (callsIn_wide.2 (hct.out _))).mono ?_; rintro e w1 ⟨rfl, hb1⟩; replace h1 := keepB hb1 h1; replace h4 := keepBF hb1 h2 h4; replace h5 := keepBF hb1 h3 h5; replace h2 := keepB hb1 h2; replace h3 := keepB hb1 h3; replace h7 := keepBF hb1 h6 h7; replace h6 := keepB hb1 h6; replace h10 := keepBF hb1 h8 h10; replace h11 := keepBF hb1 h9 h11; replace h8 := keepB hb1 h8; replace h9 := keepB hb1 h9; clear i0 i1 i2 i3; have g8 := World.block_lt_of_cell? w1 ⟨w.heap.size + 1 + 1 + 1, 0, none⟩ h8; dsimp only at g8; have g2 : w.heap.size + 1 < w1.heap.size := (by omega); have g6 : w.heap.size + 1 + 1 < w1.heap.size := (by omega); have g0 : w.heap.size < w1.heap.size := (by omega)))
      have hbm : Below w.heap.size W w1 := hb1.mono hsw
      have hfin := hS2.out.trans hs2.out
      have hB2 : Below w.heap.size W ((((w1.setCell ⟨w.heap.size + 1, 0, none⟩ (.int .i64 0)).setCell ⟨w.heap.size + 1, 1, none⟩ (.int .i64 0)).setCell ⟨w.heap.size + 1 + 1, 0, none⟩ (.int .i64 r3)).alloc (.cells #[.int .i64 r1, .int .i64 r2] 24)) := by go_grown
      exact ⟨(keepsBelow hb1).trans (((KeepsOthers.setCell _ _ _).from _).trans (((KeepsOthers.setCell _ _ _).from _).trans (((KeepsOthers.setCell _ _ _).from _).trans ((KeepsOthers.alloc _ _).from _)))), ⟨⟨rfl, by rw [hfin]; exact ci⟩, by
        rw [hfin]
        exact ⟨keepA _ (one_other (two_0 h2) (by omega)), keepA _ (one_other (two_1 h3) (by omega)), keepA _ (one_same (two_other h6 (by omega)))⟩⟩, hB1.trans hB2⟩
  case done =>
    rintro D ys W hD rfl ⟨⟨he, h1, h2, h3, h4, h5, h6, h7, h8, h9, h10, h11⟩, hB1⟩ hK
    generalize hS : runL tk ys = S at *
    obtain ⟨s1, s2, s3⟩ := S
    dsimp only at he h8 h9
    subst he
    have g8 := World.block_lt_of_cell? W ⟨w.heap.size + 1 + 1 + 1, 0, none⟩ h8
    dsimp only at g8
    replace hS := hid hS
    gi_wp2
    have hK' := ((KeepsOthers.setCell W ⟨w.heap.size + 1, 0, none⟩ (.int .i64 s1)).trans ((KeepsOthers.setCell _ ⟨w.heap.size + 1, 1, none⟩ (.int .i64 s2)).trans (KeepsOthers.setCell _ ⟨w.heap.size + 1 + 1, 0, none⟩ (.int .i64 0)))).same D _ hK rfl
    refine ⟨by simp, .inl ⟨_, _, rfl, run_takeDeferred hK', ?_⟩⟩
    have hkp : ∀ b o v, (((W.setCell ⟨w.heap.size + 1, 0, none⟩ (.int .i64 s1)).setCell ⟨w.heap.size + 1, 1, none⟩ (.int .i64 s2)).setCell ⟨w.heap.size + 1 + 1, 0, none⟩ (.int .i64 0)).cell? ⟨b, o, none⟩ = some v → _ := fun b o v h => cell_kept h (grownBy_putObj' _ D (.deferred none)) (fun r e => by cases e; exact ⟨_, hK', rfl⟩)
    refine ⟨_, res_cc rfl isA_S isS_S isA_E rfl rfl (hkp _ _ _ (one_other (two_0 h2) (by omega))) (hkp _ _ _ (one_other (two_1 h3) (by omega))) (hkp _ _ _ (one_same (two_other h6 (by omega)))), by rw [hS.out], ?_⟩
    have hB2 : Below w.heap.size w (((W.setCell ⟨w.heap.size + 1, 0, none⟩ (.int .i64 s1)).setCell ⟨w.heap.size + 1, 1, none⟩ (.int .i64 s2)).setCell ⟨w.heap.size + 1 + 1, 0, none⟩ (.int .i64 0)) := by go_grown
    exact hB2.trans (belowK_b (w := w) (Nat.le_refl _) _ D _ _ (by omega) hK' rfl rfl)
  case stop =>
    rintro D c pre W hD hpre ⟨⟨⟨rfl, hne⟩, h1, h2, h3⟩, hB1⟩ hK
    gi_wp2
    refine ⟨by simp, .inl ⟨_, _, rfl, run_takeDeferred hK, ?_⟩⟩
    have hkp : ∀ b o v, W.cell? ⟨b, o, none⟩ = some v → _ := fun b o v h => cell_kept h (grownBy_putObj' _ D (.deferred none)) (fun r e => by cases e; exact ⟨_, hK, rfl⟩)
    exact ⟨_, res_cc rfl isA_S isS_S isA_E rfl rfl (hkp _ _ _ h1) (hkp _ _ _ h2) (hkp _ _ _ h3), by rw [run_pre tk hpre hne], hB1.trans (belowK_b (w := w) (Nat.le_refl _) W D _ _ (by omega) hK rfl rfl)⟩
end Go.Proofs.Ytjleflfncijnpaa
