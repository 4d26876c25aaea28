/- The digits of a text, by package span. -/
import Derived.WalkMore
import Derived.Test.YtjleflfncijnpaaDoorRows
import Derived.Test.YtjleflfncijnpaaDoorBase
import Derived.Test.YtjleflfncijnpaaDoorFacts
import Derived.Test.YtjleflfncijnpaaDoorTwo
import Derived.Deep.RegionHeld3
import Derived.Deep.RegionWith
import Derived.Deep.QuietTactic
import Derived.BigQuiet
import Derived.Test.YtjleflfncijnpaaDoorSeq
import Derived.Test.YtjleflfncijnpaaDoorTextM
import Derived.Test.YtjleflfncijnpaaDoorReadM
set_option linter.unusedVariables false
set_option linter.unusedSimpArgs false
set_option maxHeartbeats 4000000
set_option maxRecDepth 100000
namespace Go.Proofs.YtjleflfncijnpaaDoor
open Go Go.RowKit
theorem isdigits_any (l : List UInt8) (w : World) (hl : l.length ≤ 1000) :
    Calls Tryd.prog 87 #[.string ⟨l.toArray⟩] w fun e w' => e = .returned (.bool (l.all isD && !l.isEmpty)) ∧ Below w.heap.size w w' := by
  go_enter Tryd.func87, Tryd.ntmps87
  go_wp2_with fail
  go_loopw [6] (fun s wx => ∃ k : Nat, s = .int .i64 k ∧ k ≤ l.length ∧ (l.take k).all isD = true ∧ Below w.heap.size w wx) (fun s _ => (l.length - intOf s).toNat)
  case atStart => exact ⟨0, rfl, Nat.zero_le _, rfl, Below.refl _ _⟩
  case round =>
    obtain ⟨k, rfl, hk, hT, hB⟩ := hrel
    by_cases c : k = l.length
    · rw [c, List.take_length] at hT
      go_wp2_with fail
      go_ret
      exact ⟨ret_bool (by rw [hT]; rfl), hB⟩
    · obtain ⟨b, hb⟩ := byte_some (show k < l.length by omega)
      have hx := idx_at hb
      by_cases d : isD b = true
      · have d1 := of_decide_eq_true d
        have d2 : (48 : Int) ≤ b.toNat := by omega
        have d3 : (b.toNat : Int) ≤ 57 := by omega
        have hn := all_snoc hb d hT
        clear hT d d1
        go_wp2_with fail
        go_roundw
        case rel => exact ⟨k + 1, by go_num, by omega, hn, hB⟩
        case measure => first | (simp [intOf]; done) | (simp [intOf]; omega)
      · have d1 : isD b = false := by simpa using d
        have d2 := all_bad hb d1
        have d3 : (b.toNat : Int) < 48 ∨ 57 < (b.toNat : Int) := by unfold isD at d; simp at d; omega
        clear hT d d1
        rcases d3 with d3 | d3
        · go_wp2_with fail
          go_ret
          exact ⟨ret_bool (by rw [d2]; rfl), hB⟩
        · have d4 : ¬ (b.toNat : Int) < 48 := by omega
          go_wp2_with fail
          go_ret
          exact ⟨ret_bool (by first | rfl | (rw [d2]; rfl)), hB⟩
/-- The integer before the point, if it is not too great. -/
def WholeP (m : List UInt8) (B : Nat) (w : World) (e : Ending) (w' : World) : Prop :=
  ∃ v : Nat, (valD m ≤ 2147483647 → v = valD m) ∧ (v ≤ 2147483647 → valD m ≤ 2147483647) ∧ e = .returned (.tuple #[.int .i64 (v : Int), .bool (decide ((v : Int) ≤ 2147483647))]) ∧ Below B w w'
theorem whole_any (l m t : List UInt8) (w : World) (hl : l.length ≤ 1000) (ht : Hid (l = m ++ t)) (ht2 : Hid (t = [] ∨ ∃ u, t = 46 :: u)) (hd : Hid (m.all isD = true)) :
    Calls Tryd.prog 55 #[.string ⟨l.toArray⟩] w fun e w' => WholeP m w.heap.size w e w' := by
  have hsm := hid (val_take m)
  have hlm : m.length ≤ l.length := by rw [ht.out, List.length_append]; omega
  go_enter Tryd.func55, Tryd.ntmps55
  go_wp2_with fail
  go_step3
  go_wp2_with fail
  go_step3
  go_wp2_with fail
  go_loopw [7, 2] (fun s a wx => ∃ k : Nat, s = .int .i64 k ∧ k ≤ m.length ∧ a = .int .i64 (valD (m.take k)) ∧ valD (m.take k) ≤ 21474836480 ∧ Below w.heap.size w wx) (fun s _ _ => (l.length - intOf s).toNat)
  case atStart => exact ⟨0, rfl, Nat.zero_le _, rfl, Nat.zero_le _, Below.refl _ _⟩
  case round =>
    obtain ⟨k, rfl, hk, rfl, hv, hB⟩ := hrel
    have hsk := hid (hsm.out k)
    by_cases big : valD (m.take k) ≤ 2147483647
    · by_cases c : k = m.length
      · rw [c, List.take_length] at *
        clear big hsk hsm c
        by_cases d : l.length = m.length
        · go_wp2_with fail
          all_goals (go_ret2; exact ⟨valD m, fun _ => rfl, fun h => h, rfl, hB⟩)
        · have hb : l[m.length]? = some 46 := by
            rcases ht2.out with rfl | ⟨u, rfl⟩
            · exact absurd (by rw [ht.out]; simp) d
            · rw [ht.out]; simp
          have hx := idx_at hb
          have hll : (m.length : Int) < l.length := by omega
          clear hb d
          go_wp2_with fail
          all_goals (go_ret2; exact ⟨valD m, fun _ => rfl, fun h => h, rfl, hB⟩)
      · obtain ⟨b, hb⟩ := byte_some (show k < m.length by omega)
        have hbl : l[k]? = some b := by rw [ht.out, List.getElem?_append_left (by omega)]; exact hb
        have hx := idx_at hbl
        have d1 : isD b = true := List.all_eq_true.1 hd.out b (List.mem_of_getElem? hb)
        have d1 := of_decide_eq_true d1
        have hn := val_snoc hb
        have hbn : ((b.toNat : Int) == 46) = false := by rw [beq_eq_false_iff_ne]; omega
        have hkl : (k : Int) < l.length := by omega
        have bb : ¬ (2147483647 : Int) < valD (m.take k) := by omega
        clear hb hbl hd hsm hsk
        generalize valD (m.take k) = v at *
        go_wp2_with fail
        exact ⟨⟨k + 1, by go_num, by omega, by rw [hn]; exact congrArg _ (by omega), by omega, hB⟩, by simp [intOf]; omega⟩
    · have hvm : ¬ valD m ≤ 2147483647 := by have := hsk.out; omega
      have bb : (2147483647 : Int) < valD (m.take k) := by omega
      clear hsk hsm
      generalize valD (m.take k) = v at *
      by_cases d : k = l.length
      · go_wp2_with fail
        all_goals (go_ret2; exact ⟨_, fun h => absurd h hvm, fun h => absurd h big, rfl, hB⟩)
      · obtain ⟨b, hb⟩ := byte_some (show k < l.length by omega)
        have hx := idx_at hb
        have hkl : (k : Int) < l.length := by omega
        clear hb
        by_cases d2 : ((b.toNat : Int) == 46) = true
        · go_wp2_with fail
          all_goals (go_ret2; exact ⟨_, fun h => absurd h hvm, fun h => absurd h big, rfl, hB⟩)
        · replace d2 : ((b.toNat : Int) == 46) = false := by simpa using d2
          go_wp2_with fail
          all_goals (go_ret2; exact ⟨_, fun h => absurd h hvm, fun h => absurd h big, rfl, hB⟩)
end Go.Proofs.YtjleflfncijnpaaDoor
