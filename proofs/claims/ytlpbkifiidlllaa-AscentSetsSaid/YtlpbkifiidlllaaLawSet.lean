/- AscentSets: the walk. -/
import Derived.OwnWalk
import Derived.Deep.DeepCutAuto
import Derived.Test.YtlpbkifiidlllaaRows
import Derived.Test.YtlpbkifiidlllaaBase
import Derived.Test.YtlpbkifiidlllaaFacts
import Derived.Test.YtlpbkifiidlllaaTwo
import Derived.Deep.RegionHeld3
import Derived.Deep.RegionWith
import Derived.Deep.QuietTactic
import Derived.BigQuiet
import Derived.Test.YtlpbkifiidlllaaSeq
import Derived.Test.YtlpbkifiidlllaaWinM
import Derived.Test.YtlpbkifiidlllaaWinF
import Derived.Test.YtlpbkifiidlllaaSlotS
import Derived.Test.YtlpbkifiidlllaaSlotU
import Derived.Test.YtlpbkifiidlllaaSetM
import Derived.Test.YtlpbkifiidlllaaSetF
import Derived.Test.YtlpbkifiidlllaaSetG
import Derived.Test.YtlpbkifiidlllaaSetH
import Derived.Test.YtlpbkifiidlllaaSetN
import Derived.Test.YtlpbkifiidlllaaSetO
import Derived.Test.YtlpbkifiidlllaaSetP
import Derived.Test.YtlpbkifiidlllaaSetQ
import Derived.Test.YtlpbkifiidlllaaSetR
import Derived.Test.YtlpbkifiidlllaaSetT
import Derived.Test.YtlpbkifiidlllaaSetC
set_option linter.unusedVariables false
set_option linter.unusedSimpArgs false
set_option maxHeartbeats 4000000
set_option maxRecDepth 100000
namespace Go.Proofs.Ytlpbkifiidlllaa
open Go Go.RowKit
def MixQ (E : Int) (L : List (Int × Int)) (e : Ending) (w' : World) : Prop := ∃ v', e = .returned (.tuple #[v', .int .i64 E]) ∧ SlotsIn v' L w'
set_option maxRecDepth 100000 in
theorem lawSets_any (q1 q2 : Option Addr) (cap1 cap2 : Nat) (a b : List (Int × Int)) (w : World) (hv : SlotsIn (.slice q1 a.length cap1) a w) (hu : SlotsIn (.slice q2 b.length cap2) b w) (hq1 : q1 = none → cap1 = 0) (hq2 : q2 = none → cap2 = 0) (ha : SlB a) (hb : SlB b) :
    Calls Try.prog 3 #[.slice q1 a.length cap1, .slice q2 b.length cap2] w fun e w' => e = .returned (.bool true) ∧ Below w.heap.size w w' := by
  by_cases c1 : 60 < a.length
  · have c1' : (60 : Int) < a.length := by omega
    clear hv hu hq1 hq2 ha hb
    go_enter Try.func3, Try.ntmps3
    go_wp2_with fail
    go_ret
    exact ⟨rfl, by go_grown⟩
  by_cases c2 : 60 < b.length
  · have c1' : ¬ (60 : Int) < a.length := by omega
    have c2' : (60 : Int) < b.length := by omega
    clear hv hu hq1 hq2 ha hb
    go_enter Try.func3, Try.ntmps3
    go_wp2_with fail
    go_ret
    exact ⟨rfl, by go_grown⟩
  have hla : a.length ≤ 60 := by omega
  have hlb : b.length ≤ 60 := by omega
  have c1' : ¬ (60 : Int) < a.length := by omega
  have c2' : ¬ (60 : Int) < b.length := by omega
  have k0 : Hid (∀ W v u, SlotsIn v a W → SlotsIn u b W → Calls Try.prog 5 #[v, u] W fun e w' => MixQ (mixE a b) (mixL (fun x y => x && y) a b) e w' ∧ Below W.heap.size W w') := hid fun W v u h1 h2 => both_any v u a b W h1 h2 hla hlb ha hb
  have k1 : Hid (∀ W v u, SlotsIn v a W → SlotsIn u b W → Calls Try.prog 6 #[v, u] W fun e w' => MixQ (mixE a b) (mixL (fun x y => x || y) a b) e w' ∧ Below W.heap.size W w') := hid fun W v u h1 h2 => either_any v u a b W h1 h2 hla hlb ha hb
  have k2 : Hid (∀ W v u, SlotsIn v a W → SlotsIn u b W → Calls Try.prog 7 #[v, u] W fun e w' => MixQ (mixE a b) (mixL (fun x y => x && !y) a b) e w' ∧ Below W.heap.size W w') := hid fun W v u h1 h2 => without_any v u a b W h1 h2 hla hlb ha hb
  have k3 : Hid (∀ W v u, SlotsIn v a W → SlotsIn u b W → Calls Try.prog 9 #[v, u, .int .i64 0] W fun e w' => MixQ (mixE a b) (mixL (fun x y => x && y) a b) e w' ∧ Below W.heap.size W w') := hid fun W v u h1 h2 => rmixed0_any v u a b W h1 h2 hla hlb ha hb
  have k4 : Hid (∀ W v u, SlotsIn v a W → SlotsIn u b W → Calls Try.prog 9 #[v, u, .int .i64 1] W fun e w' => MixQ (mixE a b) (mixL (fun x y => x || y) a b) e w' ∧ Below W.heap.size W w') := hid fun W v u h1 h2 => rmixed1_any v u a b W h1 h2 hla hlb ha hb
  have k5 : Hid (∀ W v u, SlotsIn v a W → SlotsIn u b W → Calls Try.prog 9 #[v, u, .int .i64 2] W fun e w' => MixQ (mixE a b) (mixL (fun x y => x && !y) a b) e w' ∧ Below W.heap.size W w') := hid fun W v u h1 h2 => rmixed2_any v u a b W h1 h2 hla hlb ha hb
  have k6 := hid (fun W v h1 => total_any v a W h1 (by omega) ha)
  have k7 := hid (fun W v h1 => rtotal_any v a W h1 (by omega) ha)
  have l0 := hid (mixL_len (fun x y => x && y) a b rfl hla hlb)
  have l1 := hid (mixL_len (fun x y => x || y) a b rfl hla hlb)
  have l2 := hid (mixL_len (fun x y => x && !y) a b rfl hla hlb)
  have la := hid (show a.length < 1000000 by omega)
  have lb := hid (show b.length < 1000000 by omega)
  generalize mixL (fun x y => x && y) a b = L0 at *
  generalize mixL (fun x y => x || y) a b = L1 at *
  generalize mixL (fun x y => x && !y) a b = L2 at *
  generalize mixE a b = E at *
  generalize totR a = TR at *
  generalize totE a = TE at *
  replace hq1 := hid hq1
  replace hq2 := hid hq2
  clear ha hb hla hlb
  go_enter Try.func3, Try.ntmps3
  go_upto_region 3 with fail
  go_wp2_with (at_builtin; go_loud (refine copy_set rfl _ _ rfl w.heap.size _ rfl (by exact lit_slots w) q1 cap1 _ a rfl rfl (hv.alloc _) hq1.out la.out (by simp [go_sem]) ?_))
  intro x1 w1 sx hb1
  have hB1 : Below w.heap.size w w1 := (show Below w.heap.size w (w.alloc (.cells #[] 45)) by go_grown).trans hb1
  have sa := hv.below hB1
  have sb := hu.below hB1
  have hz1 := hB1.size
  clear hb1 hv hu
  go_upto_region 4 with fail
  go_wp2_with (at_builtin; go_loud (refine copy_set rfl _ _ rfl w1.heap.size _ rfl (by exact lit_slots w1) q2 cap2 _ b rfl rfl (sb.alloc _) hq2.out lb.out (by simp [go_sem]) ?_))
  intro y1 w2 sy hb1
  have hO2 : Below w1.heap.size w1 w2 := (show Below w1.heap.size w1 (w1.alloc (.cells #[] 45)) by go_grown).trans hb1
  have hB2 : Below w.heap.size w w2 := hB1.trans (hO2.mono hz1)
  replace sa := sa.below hO2; replace sb := sb.below hO2; replace sx := sx.below hO2
  have hz2 := hB2.size
  clear hb1 hO2 hB1 hz1
  go_wp2_with fail
  refine useP w (k0.out _ _ _ sx sy) (by go_grown) ?_; rintro e w3 ⟨v3, rfl, s3⟩ hB3 hO
  replace sa := sa.below hO; replace sb := sb.below hO; replace sx := sx.below hO; replace sy := sy.below hO
  have hz3 := hB3.size
  clear hO k0 hB2 hz2
  go_wp2_with fail
  refine useP w (k1.out _ _ _ sx sy) (by go_grown) ?_; rintro e w4 ⟨v4, rfl, s4⟩ hB4 hO
  replace sa := sa.below hO; replace sb := sb.below hO; replace sx := sx.below hO; replace sy := sy.below hO; replace s3 := s3.below hO
  have hz4 := hB4.size
  clear hO k1 hB3 hz3
  go_wp2_with fail
  refine useP w (k2.out _ _ _ sx sy) (by go_grown) ?_; rintro e w5 ⟨v5, rfl, s5⟩ hB5 hO
  replace sa := sa.below hO; replace sb := sb.below hO; replace sx := sx.below hO; replace sy := sy.below hO; replace s3 := s3.below hO; replace s4 := s4.below hO
  have hz5 := hB5.size
  clear hO k2 hB4 hz4
  go_wp2_with fail
  refine useO w (k6.out _ _ sx) (by go_grown) ?_; rintro e w6 rfl hB6 hO
  replace sa := sa.below hO; replace sb := sb.below hO; replace sx := sx.below hO; replace sy := sy.below hO; replace s3 := s3.below hO; replace s4 := s4.below hO; replace s5 := s5.below hO
  have hz6 := hB6.size
  clear hO k6 hB5 hz5
  go_wp2_with fail
  refine useP w (k3.out _ _ _ sa sb) (by go_grown) ?_; rintro e w7 ⟨v7, rfl, s7⟩ hB7 hO
  replace sa := sa.below hO; replace sb := sb.below hO; replace sx := sx.below hO; replace sy := sy.below hO; replace s3 := s3.below hO; replace s4 := s4.below hO; replace s5 := s5.below hO
  have hz7 := hB7.size
  clear hO k3 hB6 hz6
  go_wp2_with fail
  refine useP w (k4.out _ _ _ sa sb) (by go_grown) ?_; rintro e w8 ⟨v8, rfl, s8⟩ hB8 hO
  replace sa := sa.below hO; replace sb := sb.below hO; replace sx := sx.below hO; replace sy := sy.below hO; replace s3 := s3.below hO; replace s4 := s4.below hO; replace s5 := s5.below hO; replace s7 := s7.below hO
  have hz8 := hB8.size
  clear hO k4 hB7 hz7
  go_wp2_with fail
  refine useP w (k5.out _ _ _ sa sb) (by go_grown) ?_; rintro e w9 ⟨v9, rfl, s9⟩ hB9 hO
  replace sa := sa.below hO; replace sb := sb.below hO; replace sx := sx.below hO; replace sy := sy.below hO; replace s3 := s3.below hO; replace s4 := s4.below hO; replace s5 := s5.below hO; replace s7 := s7.below hO; replace s8 := s8.below hO
  have hz9 := hB9.size
  clear hO k5 hB8 hz8
  go_wp2_with fail
  refine useO w (k7.out _ _ sa) (by go_grown) ?_; rintro e w10 rfl hB10 hO
  replace sa := sa.below hO; replace sb := sb.below hO; replace sx := sx.below hO; replace sy := sy.below hO; replace s3 := s3.below hO; replace s4 := s4.below hO; replace s5 := s5.below hO; replace s7 := s7.below hO; replace s8 := s8.below hO; replace s9 := s9.below hO
  have hz10 := hB10.size
  clear hO k7 hB9 hz9
  go_wp2_with fail
  refine useO w (same_any _ _ L0 _ s3 s7 l0.out) (by go_grown) ?_; rintro e w11 rfl hB11 hO
  replace sa := sa.below hO; replace sb := sb.below hO; replace sx := sx.below hO; replace sy := sy.below hO; replace s4 := s4.below hO; replace s5 := s5.below hO; replace s8 := s8.below hO; replace s9 := s9.below hO
  have hz11 := hB11.size
  clear hO s3 s7 hB10 hz10 l0
  go_wp2_with fail
  refine useO w (same_any _ _ L1 _ s4 s8 l1.out) (by go_grown) ?_; rintro e w12 rfl hB12 hO
  replace sa := sa.below hO; replace sb := sb.below hO; replace sx := sx.below hO; replace sy := sy.below hO; replace s5 := s5.below hO; replace s9 := s9.below hO
  have hz12 := hB12.size
  clear hO s4 s8 hB11 hz11 l1
  go_wp2_with fail
  refine useO w (same_any _ _ L2 _ s5 s9 l2.out) (by go_grown) ?_; rintro e w13 rfl hB13 hO
  replace sa := sa.below hO; replace sb := sb.below hO; replace sx := sx.below hO; replace sy := sy.below hO
  have hz13 := hB13.size
  clear hO s5 s9 hB12 hz12 l2
  go_wp2_with fail
  refine useO w (same_any _ _ a _ sx sa la.out) (by go_grown) ?_; rintro e w14 rfl hB14 hO
  replace sb := sb.below hO; replace sy := sy.below hO
  have hz14 := hB14.size
  clear hO sx sa hB13 hz13
  go_wp2_with fail
  refine useO w (same_any _ _ b _ sy sb lb.out) (by go_grown) ?_; rintro e w15 rfl hB15 hO
  have hz15 := hB15.size
  clear hO sy sb hB14 hz14
  go_wp2_with fail
  go_ret
  exact ⟨rfl, by go_grown⟩
end Go.Proofs.Ytlpbkifiidlllaa
