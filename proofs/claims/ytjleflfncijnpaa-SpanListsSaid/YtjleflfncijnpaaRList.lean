/- list, Sum, Dot, Norm, of the document's answer. -/
import Derived.Deep.DeepCutAuto
import Derived.Deep.CutBlock
import Derived.Test.YtjleflfncijnpaaRows
import Derived.Test.YtjleflfncijnpaaBase
import Derived.Test.YtjleflfncijnpaaFacts
import Derived.Test.YtjleflfncijnpaaTwo
import Derived.Deep.RegionHeld3
import Derived.Deep.RegionWith
import Derived.Deep.QuietTactic
import Derived.BigQuiet
import Derived.Test.YtjleflfncijnpaaW
import Derived.Test.YtjleflfncijnpaaAsks
import Derived.Test.YtjleflfncijnpaaOut
import Derived.Test.YtjleflfncijnpaaSeq
import Derived.Test.YtjleflfncijnpaaTwo
import Derived.Test.YtjleflfncijnpaaQuo
import Derived.Test.YtjleflfncijnpaaSums
import Derived.Test.YtjleflfncijnpaaSums2
import Derived.Test.YtjleflfncijnpaaScaleM
import Derived.Test.YtjleflfncijnpaaMul
import Derived.Test.YtjleflfncijnpaaMulR
import Derived.Test.YtjleflfncijnpaaRootM
import Derived.Test.YtjleflfncijnpaaRootT
import Derived.Test.YtjleflfncijnpaaRootR
import Derived.Test.YtjleflfncijnpaaListM
set_option linter.unusedVariables false
set_option linter.unusedSimpArgs false
set_option maxHeartbeats 4000000
set_option maxRecDepth 100000
namespace Go.Proofs.Ytjleflfncijnpaa
open Go Go.RowKit
theorem rlist_none (q : Option Addr) (cap : Nat) (w : World) :
    Calls Try.prog 111 #[.slice q 0 cap] w fun e w' => e = .returned (.int .i64 0) ∧ Below w.heap.size w w' := by
  go_enter Try.func111, Try.ntmps111
  go_wp2_with fail
  go_loopw [3] (fun s wx => s = .int .i64 0 ∧ Below w.heap.size w wx) (fun _ _ => 0)
  case atStart => exact ⟨rfl, by go_grown⟩
  case round =>
    obtain ⟨rfl, hB⟩ := hrel
    go_wp2_with fail
    go_ret
    exact ⟨rfl, by go_grown⟩
theorem rlist_long (q : Option Addr) (n cap : Nat) (w : World) (h : 64 < n) :
    Calls Try.prog 111 #[.slice q n cap] w fun e w' => e = .returned (.int .i64 3) ∧ Below w.heap.size w w' := by
  have h2 : (64 : Int) < n := by omega
  have d2 : decide ((64 : Int) < n) = true := decide_eq_true h2
  go_enter Try.func111, Try.ntmps111
  go_wp2_with fail
  go_ret
  exact ⟨rfl, by go_grown⟩
theorem rlist_go (l : List (Int × Int)) (B o cap : Nat) (w : World) (hs : Spans B o l w) (hn : 1 ≤ l.length ∧ l.length ≤ 64) (hb : Hid (∀ p ∈ l, (-9223372036854775808 ≤ p.1 ∧ p.1 ≤ 9223372036854775807) ∧ (-9223372036854775808 ≤ p.2 ∧ p.2 ≤ 9223372036854775807))) (R : Int) (hR : Hid (R = if goodL l l.length = true then 0 else 2)) :
    Calls Try.prog 111 #[.slice (some ⟨B, o, none⟩) l.length cap] w fun e w' => e = .returned (.int .i64 R) ∧ Below w.heap.size w w' := by
  have h2 : ¬ (64 : Int) < l.length := by omega
  have d2 : decide ((64 : Int) < l.length) = false := decide_eq_false h2
  go_enter Try.func111, Try.ntmps111
  go_wp2_with fail
  go_loopw [3] (fun s wx => ∃ k : Nat, s = .int .i64 k ∧ k ≤ l.length ∧ goodL l k = true ∧ Spans B o l wx ∧ Below w.heap.size w wx) (fun s _ => (l.length - intOf s).toNat)
  case atStart => exact ⟨0, rfl, by omega, rfl, hs, by go_grown⟩
  case round =>
    clear hs
    obtain ⟨k, rfl, hk, hg, hs, hB⟩ := hrel
    by_cases ke : k = l.length
    · subst ke
      have hr : R = 0 := by rw [hR.out, if_pos hg]
      have kk : ¬ (l.length : Int) < l.length := by omega
      clear hg hR
      subst hr
      go_wp2_with fail
      go_ret
      exact ⟨rfl, by go_grown⟩
    · have hk1 : k < l.length := by omega
      obtain ⟨p, hp⟩ := span_some hk1
      obtain ⟨c0, c1⟩ := hs k p hp
      have hpb := hb.out p (List.mem_of_getElem? hp)
      have hst := goodL_step hp
      have hbd := goodL_bad (n := l.length) hp hk1
      obtain ⟨a, b⟩ := p
      dsimp only at c0 c1 hpb hst hbd
      have hk0 : (0 : Int) ≤ k := by omega
      have hk2 : (k : Int) < l.length := by omega
      have s4 := fun W => rcheck_any a b W hpb
      by_cases c : chk a b = 0
      · have hg2 := hid (show goodL l (k + 1) = true by rw [hst, hg, decide_eq_true c]; rfl)
        rw [c] at s4
        replace s4 := hid s4
        clear hst hbd hg c hp hR
        go_wp2_with fail
        refine useF w (s4.out _) (by go_grown) ?_; rintro e w1 rfl hB1 hk1 hf1 hs1
        replace c0 := hk1 _ _ _ c0
        replace c1 := hk1 _ _ _ c1
        (try clear cb); have cb := World.block_lt_of_cell? _ _ c0; (try dsimp only at cb)
        replace hs := (hs).keep hk1
        have hz1 := hB1.size
        clear hk1 hf1 hs1
        go_wp2_with fail
        go_roundw
        case rel => exact ⟨k + 1, by go_num, by omega, hg2.out, hs, hB1⟩
        case measure => first | (simp [intOf]; done) | (simp [intOf]; omega)
      · have hr : R = 2 := by rw [hR.out, if_neg (by rw [hbd c]; simp)]
        have e2 : chk a b = 2 := by have := chk_cases a b; omega
        rw [e2] at s4
        replace s4 := hid s4
        clear hst hbd hg c hp hR e2
        subst hr
        go_wp2_with fail
        refine useF w (s4.out _) (by go_grown) ?_; rintro e w1 rfl hB1 hk1 hf1 hs1
        replace c0 := hk1 _ _ _ c0
        replace c1 := hk1 _ _ _ c1
        (try clear cb); have cb := World.block_lt_of_cell? _ _ c0; (try dsimp only at cb)
        replace hs := (hs).keep hk1
        have hz1 := hB1.size
        clear hk1 hf1 hs1
        go_wp2_with fail
        go_ret
        exact ⟨rfl, by go_grown⟩
theorem rlist_any (l : List (Int × Int)) (B o cap : Nat) (w : World) (hs : Spans B o l w) (h1 : 1 ≤ l.length) (hb : ∀ p ∈ l, (-9223372036854775808 ≤ p.1 ∧ p.1 ≤ 9223372036854775807) ∧ (-9223372036854775808 ≤ p.2 ∧ p.2 ≤ 9223372036854775807)) :
    Calls Try.prog 111 #[.slice (some ⟨B, o, none⟩) l.length cap] w fun e w' => e = .returned (.int .i64 (listE l)) ∧ Below w.heap.size w w' := by
  by_cases h : 64 < l.length
  · rw [listE_long h]; exact rlist_long _ _ _ w h
  · exact rlist_go l B o cap w hs ⟨h1, by omega⟩ hb _ (hid (by unfold listE; rw [if_neg h]))
end Go.Proofs.Ytjleflfncijnpaa
