/- What two sets have in common, both together, one without the other one; how many times one has. -/
import Derived.OwnWalk
import Derived.Deep.DeepCutAuto
import Derived.Conc.MuLone
import Derived.Test.YtlpbkifiidlllaaRows
import Derived.Test.YtlpbkifiidlllaaBase
import Derived.Test.YtlpbkifiidlllaaFacts
import Derived.Test.YtlpbkifiidlllaaTwo
import Derived.Deep.RegionHeld3
import Derived.Deep.RegionWith
import Derived.Deep.QuietTactic
import Derived.BigQuiet
import Derived.Test.YtlpbkifiidlllaaSeq
import Derived.Test.YtlpbkifiidlllaaWinM
import Derived.Test.YtlpbkifiidlllaaWinF
import Derived.Test.YtlpbkifiidlllaaSlotS
import Derived.Test.YtlpbkifiidlllaaSlotU
import Derived.Test.YtlpbkifiidlllaaSetM
import Derived.Test.YtlpbkifiidlllaaSetF
import Derived.Test.YtlpbkifiidlllaaSetG
import Derived.Test.YtlpbkifiidlllaaSetH
import Derived.Test.YtlpbkifiidlllaaSetN
import Derived.Test.YtlpbkifiidlllaaSetO
set_option linter.unusedVariables false
set_option linter.unusedSimpArgs false
set_option maxHeartbeats 4000000
set_option maxRecDepth 100000
namespace Go.Proofs.Ytlpbkifiidlllaa
open Go Go.RowKit
def mixE (a b : List (Int × Int)) : Int := if setB a && setB b then 0 else 2
def mixL (k : Bool → Bool → Bool) (a b : List (Int × Int)) : List (Int × Int) := if setB a && setB b then mixR k a b else []
theorem mix_ok {k : Bool → Bool → Bool} {a b : List (Int × Int)} (ca : setB a = true) (cb : setB b = true) : mixE a b = 0 ∧ mixL k a b = mixR k a b := by
  unfold mixE mixL; rw [ca, cb]; exact ⟨rfl, rfl⟩
theorem mix_no {k : Bool → Bool → Bool} {a b : List (Int × Int)} (h : (setB a && setB b) = false) : mixE a b = 2 ∧ mixL k a b = [] := by
  unfold mixE mixL; rw [h]; exact ⟨rfl, rfl⟩
def MixP (k : Bool → Bool → Bool) (a b : List (Int × Int)) (B : Nat) (w : World) (e : Ending) (w' : World) : Prop :=
  (∃ v', e = .returned (.tuple #[v', .int .i64 (mixE a b)]) ∧ SlotsIn v' (mixL k a b) w') ∧ Below B w w'
theorem merged_bad (n : Nat) (k : Bool → Bool → Bool)
    (v u : Value) (a b : List (Int × Int)) (w : World) (hv : SlotsIn v a w) (hu : SlotsIn u b w) (hla : a.length ≤ 60) (hlb : b.length ≤ 60) (ha : SlB a) (hb : SlB b) (h : (setB a && setB b) = false) :
    Calls Try.prog 17 #[v, u, .func (.func n) #[] #[]] w fun e w' => MixP k a b w.heap.size w e w' := by
  have k1 := hid (fun W hW => isset_any v a W (hv.below hW) (by omega) ha)
  have k2 := hid (fun W hW => isset_any u b W (hu.below hW) (by omega) hb)
  have hE := hid (mix_no (k := k) h)
  cases ca : setB a
  · rw [ca] at k1
    clear h ha hb k2 hv hu
    go_enter Try.func17, Try.ntmps17
    go_wp2_with fail
    refine useK w (k1.out _ (by go_grown)) (by go_grown) ?_; rintro e w1 rfl hB1 hk1 hs1
    have hz1 := hB1.size
    clear hk1
    go_wp2_with fail
    go_ret2
    exact ⟨⟨.slice none 0 0, by rw [hE.out.1]; rfl, by rw [hE.out.2]; exact SlotsIn.nil _⟩, by go_grown⟩
  · have cb : setB b = false := by rw [ca] at h; simpa using h
    rw [ca] at k1
    rw [cb] at k2
    clear h ha hb hv hu
    go_enter Try.func17, Try.ntmps17
    go_wp2_with fail
    refine useK w (k1.out _ (by go_grown)) (by go_grown) ?_; rintro e w1 rfl hB1 hk1 hs1
    have hz1 := hB1.size
    clear hk1
    go_wp2_with fail
    refine useK w (k2.out _ (by go_grown)) (by go_grown) ?_; rintro e w2 rfl hB2 hk2 hs2
    have hz2 := hB2.size
    clear hk2
    go_wp2_with fail
    go_ret2
    exact ⟨⟨.slice none 0 0, by rw [hE.out.1]; rfl, by rw [hE.out.2]; exact SlotsIn.nil _⟩, by go_grown⟩
theorem merged_all (n : Nat) (k : Bool → Bool → Bool) (hk0 : k false false = false) (hr : ∀ (args : Array Value) (W : World), (callFunc n args).run Try.prog W = .ok (.enter n args) W) (hk : Hid (∀ x y (W : World), Calls Try.prog n #[.bool x, .bool y] W fun e w' => e = .returned (.bool (k x y)) ∧ Below W.heap.size W w'))
    (v u : Value) (a b : List (Int × Int)) (w : World) (hv : SlotsIn v a w) (hu : SlotsIn u b w) (hla : a.length ≤ 60) (hlb : b.length ≤ 60) (ha : SlB a) (hb : SlB b) :
    Calls Try.prog 17 #[v, u, .func (.func n) #[] #[]] w fun e w' => MixP k a b w.heap.size w e w' := by
  cases c : (setB a && setB b)
  · exact merged_bad n k v u a b w hv hu hla hlb ha hb c
  · simp only [Bool.and_eq_true] at c
    refine Calls.mono (merged_any n k hk0 hr hk v u a b w hv hu hla hlb ha hb c.1 c.2) ?_
    rintro e w' ⟨⟨v', rfl, hs⟩, hB⟩
    exact ⟨⟨v', by rw [(mix_ok (k := k) c.1 c.2).1], by rw [(mix_ok c.1 c.2).2]; exact hs⟩, hB⟩
theorem keep_both (x y : Bool) (w : World) : Calls Try.prog 18 #[.bool x, .bool y] w fun e w' => e = .returned (.bool (x && y)) ∧ Below w.heap.size w w' := by
  cases x <;> cases y <;>
  · go_enter Try.func18, Try.ntmps18
    go_wp2
    go_ret
    exact ⟨rfl, by go_grown⟩
theorem keep_either (x y : Bool) (w : World) : Calls Try.prog 19 #[.bool x, .bool y] w fun e w' => e = .returned (.bool (x || y)) ∧ Below w.heap.size w w' := by
  cases x <;> cases y <;>
  · go_enter Try.func19, Try.ntmps19
    go_wp2
    go_ret
    exact ⟨rfl, by go_grown⟩
theorem keep_without (x y : Bool) (w : World) : Calls Try.prog 20 #[.bool x, .bool y] w fun e w' => e = .returned (.bool (x && !y)) ∧ Below w.heap.size w w' := by
  cases x <;> cases y <;>
  · go_enter Try.func20, Try.ntmps20
    go_wp2
    go_ret
    exact ⟨rfl, by go_grown⟩
theorem both_any (v u : Value) (a b : List (Int × Int)) (w : World) (hv : SlotsIn v a w) (hu : SlotsIn u b w) (hla : a.length ≤ 60) (hlb : b.length ≤ 60) (ha : SlB a) (hb : SlB b) :
    Calls Try.prog 5 #[v, u] w fun e w' => MixP (fun x y => x && y) a b w.heap.size w e w' := by
  have k1 := hid (fun W hW => merged_all 18 (fun x y => x && y) rfl (Go.MuLone.run_callFunc_enter Try.func18 (by kernel_rfl) rfl) (hid keep_both) v u a b W (hv.below hW) (hu.below hW) hla hlb ha hb)
  clear hv hu
  go_enter Try.func5, Try.ntmps5
  go_wp2_with fail
  refine useP w (R := fun e w' => ∃ v', e = .returned (.tuple #[v', .int .i64 (mixE a b)]) ∧ SlotsIn v' (mixL (fun x y => x && y) a b) w') (k1.out _ (by go_grown)) (by go_grown) ?_; rintro e w1 ⟨v1, rfl, i1⟩ hB1 hO1
  clear hO1
  go_wp2_with fail
  go_ret2
  exact ⟨⟨_, rfl, i1⟩, by go_grown⟩
theorem either_any (v u : Value) (a b : List (Int × Int)) (w : World) (hv : SlotsIn v a w) (hu : SlotsIn u b w) (hla : a.length ≤ 60) (hlb : b.length ≤ 60) (ha : SlB a) (hb : SlB b) :
    Calls Try.prog 6 #[v, u] w fun e w' => MixP (fun x y => x || y) a b w.heap.size w e w' := by
  have k1 := hid (fun W hW => merged_all 19 (fun x y => x || y) rfl (Go.MuLone.run_callFunc_enter Try.func19 (by kernel_rfl) rfl) (hid keep_either) v u a b W (hv.below hW) (hu.below hW) hla hlb ha hb)
  clear hv hu
  go_enter Try.func6, Try.ntmps6
  go_wp2_with fail
  refine useP w (R := fun e w' => ∃ v', e = .returned (.tuple #[v', .int .i64 (mixE a b)]) ∧ SlotsIn v' (mixL (fun x y => x || y) a b) w') (k1.out _ (by go_grown)) (by go_grown) ?_; rintro e w1 ⟨v1, rfl, i1⟩ hB1 hO1
  clear hO1
  go_wp2_with fail
  go_ret2
  exact ⟨⟨_, rfl, i1⟩, by go_grown⟩
theorem without_any (v u : Value) (a b : List (Int × Int)) (w : World) (hv : SlotsIn v a w) (hu : SlotsIn u b w) (hla : a.length ≤ 60) (hlb : b.length ≤ 60) (ha : SlB a) (hb : SlB b) :
    Calls Try.prog 7 #[v, u] w fun e w' => MixP (fun x y => x && !y) a b w.heap.size w e w' := by
  have k1 := hid (fun W hW => merged_all 20 (fun x y => x && !y) rfl (Go.MuLone.run_callFunc_enter Try.func20 (by kernel_rfl) rfl) (hid keep_without) v u a b W (hv.below hW) (hu.below hW) hla hlb ha hb)
  clear hv hu
  go_enter Try.func7, Try.ntmps7
  go_wp2_with fail
  refine useP w (R := fun e w' => ∃ v', e = .returned (.tuple #[v', .int .i64 (mixE a b)]) ∧ SlotsIn v' (mixL (fun x y => x && !y) a b) w') (k1.out _ (by go_grown)) (by go_grown) ?_; rintro e w1 ⟨v1, rfl, i1⟩ hB1 hO1
  clear hO1
  go_wp2_with fail
  go_ret2
  exact ⟨⟨_, rfl, i1⟩, by go_grown⟩
end Go.Proofs.Ytlpbkifiidlllaa
