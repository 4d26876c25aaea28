/- FlightChecks: the walk. -/
import Derived.Deep.DeepCutAuto
import Derived.Deep.CutBlock
import Derived.Test.YtepcifijhnelcaaRows
import Derived.Test.YtepcifijhnelcaaBase
import Derived.Test.YtepcifijhnelcaaFacts
import Derived.Test.YtepcifijhnelcaaTwo
import Derived.Deep.RegionHeld3
import Derived.Deep.RegionWith
import Derived.Deep.QuietTactic
import Derived.BigQuiet
import Derived.Test.YtepcifijhnelcaaSeq
import Derived.Test.YtepcifijhnelcaaW
import Derived.Test.YtepcifijhnelcaaAsks
import Derived.Test.YtepcifijhnelcaaTabM
import Derived.Test.YtepcifijhnelcaaTable
import Derived.Test.YtepcifijhnelcaaRTable
import Derived.Test.YtepcifijhnelcaaFlyF
import Derived.Test.YtepcifijhnelcaaFlyG
import Derived.Test.YtepcifijhnelcaaFlyH
import Derived.Test.YtepcifijhnelcaaFlyA
import Derived.Test.YtepcifijhnelcaaFlyB
import Derived.Test.YtepcifijhnelcaaFlyS
set_option linter.unusedVariables false
set_option linter.unusedSimpArgs false
set_option maxHeartbeats 4000000
set_option maxRecDepth 100000
namespace Go.Proofs.Ytepcifijhnelcaa
open Go Go.RowKit
/-- The cells of a planet, an arc and a state. -/
def Cells3 (B : Nat) (q : Option Addr) (cap : Nat) (l : List (Int × Int × Int)) (m1 m2 r1 r2 o1 o2 s1 s2 a b c d p q0 T S t1 t2 f1 f2 d1 d2 d3 d4 d5 d6 p1 p2 U P1 P2 P3 P4 P5 P6 V1 V2 V3 V4 V5 V6 M1 M2 : Int) (w : World) : Prop := w.cell? ⟨B, 0, none⟩ = some (.int .i64 m1) ∧ w.cell? ⟨B, 1, none⟩ = some (.int .i64 m2) ∧ w.cell? ⟨B, 2, none⟩ = some (.int .i64 r1) ∧ w.cell? ⟨B, 3, none⟩ = some (.int .i64 r2) ∧ w.cell? ⟨B, 4, none⟩ = some (.int .i64 o1) ∧ w.cell? ⟨B, 5, none⟩ = some (.int .i64 o2) ∧ w.cell? ⟨B, 6, none⟩ = some (.int .i64 s1) ∧ w.cell? ⟨B, 7, none⟩ = some (.int .i64 s2) ∧ w.cell? ⟨B, 8, none⟩ = some (.int .i64 a) ∧ w.cell? ⟨B, 9, none⟩ = some (.int .i64 b) ∧ w.cell? ⟨B, 10, none⟩ = some (.int .i64 c) ∧ w.cell? ⟨B, 11, none⟩ = some (.int .i64 d) ∧ w.cell? ⟨B, 12, none⟩ = some (.int .i64 p) ∧ w.cell? ⟨B, 13, none⟩ = some (.int .i64 q0) ∧ w.cell? ⟨B + 1, 0, none⟩ = some (.int .i64 T) ∧ w.cell? ⟨B + 1, 1, none⟩ = some (.int .i64 S) ∧ w.cell? ⟨B + 1, 2, none⟩ = some (.int .i64 t1) ∧ w.cell? ⟨B + 1, 3, none⟩ = some (.int .i64 t2) ∧ w.cell? ⟨B + 1, 4, none⟩ = some (.int .i64 f1) ∧ w.cell? ⟨B + 1, 5, none⟩ = some (.int .i64 f2) ∧ w.cell? ⟨B + 1, 6, none⟩ = some (.int .i64 d1) ∧ w.cell? ⟨B + 1, 7, none⟩ = some (.int .i64 d2) ∧ w.cell? ⟨B + 1, 8, none⟩ = some (.int .i64 d3) ∧ w.cell? ⟨B + 1, 9, none⟩ = some (.int .i64 d4) ∧ w.cell? ⟨B + 1, 10, none⟩ = some (.int .i64 d5) ∧ w.cell? ⟨B + 1, 11, none⟩ = some (.int .i64 d6) ∧ w.cell? ⟨B + 1, 12, none⟩ = some (.slice q l.length cap) ∧ w.cell? ⟨B + 1, 13, none⟩ = some (.int .i64 p1) ∧ w.cell? ⟨B + 1, 14, none⟩ = some (.int .i64 p2) ∧ w.cell? ⟨B + 1 + 1, 0, none⟩ = some (.int .i64 U) ∧ w.cell? ⟨B + 1 + 1, 1, none⟩ = some (.int .i64 P1) ∧ w.cell? ⟨B + 1 + 1, 2, none⟩ = some (.int .i64 P2) ∧ w.cell? ⟨B + 1 + 1, 3, none⟩ = some (.int .i64 P3) ∧ w.cell? ⟨B + 1 + 1, 4, none⟩ = some (.int .i64 P4) ∧ w.cell? ⟨B + 1 + 1, 5, none⟩ = some (.int .i64 P5) ∧ w.cell? ⟨B + 1 + 1, 6, none⟩ = some (.int .i64 P6) ∧ w.cell? ⟨B + 1 + 1, 7, none⟩ = some (.int .i64 V1) ∧ w.cell? ⟨B + 1 + 1, 8, none⟩ = some (.int .i64 V2) ∧ w.cell? ⟨B + 1 + 1, 9, none⟩ = some (.int .i64 V3) ∧ w.cell? ⟨B + 1 + 1, 10, none⟩ = some (.int .i64 V4) ∧ w.cell? ⟨B + 1 + 1, 11, none⟩ = some (.int .i64 V5) ∧ w.cell? ⟨B + 1 + 1, 12, none⟩ = some (.int .i64 V6) ∧ w.cell? ⟨B + 1 + 1, 13, none⟩ = some (.int .i64 M1) ∧ w.cell? ⟨B + 1 + 1, 14, none⟩ = some (.int .i64 M2)
set_option maxRecDepth 100000 in
theorem lawFly_any (q : Option Addr) (cap : Nat) (l : List (Int × Int × Int)) (m1 m2 r1 r2 o1 o2 s1 s2 a b c d p q0 T S t1 t2 f1 f2 d1 d2 d3 d4 d5 d6 p1 p2 U P1 P2 P3 P4 P5 P6 V1 V2 V3 V4 V5 V6 M1 M2 : Int) (w : World) (hp : (-9223372036854775808 ≤ m1 ∧ m1 ≤ 9223372036854775807) ∧ (-9223372036854775808 ≤ m2 ∧ m2 ≤ 9223372036854775807) ∧ (-9223372036854775808 ≤ r1 ∧ r1 ≤ 9223372036854775807) ∧ (-9223372036854775808 ≤ r2 ∧ r2 ≤ 9223372036854775807) ∧ (-9223372036854775808 ≤ o1 ∧ o1 ≤ 9223372036854775807) ∧ (-9223372036854775808 ≤ o2 ∧ o2 ≤ 9223372036854775807) ∧ (-9223372036854775808 ≤ s1 ∧ s1 ≤ 9223372036854775807) ∧ (-9223372036854775808 ≤ s2 ∧ s2 ≤ 9223372036854775807) ∧ (-9223372036854775808 ≤ a ∧ a ≤ 9223372036854775807) ∧ (-9223372036854775808 ≤ b ∧ b ≤ 9223372036854775807) ∧ (-9223372036854775808 ≤ c ∧ c ≤ 9223372036854775807) ∧ (-9223372036854775808 ≤ d ∧ d ≤ 9223372036854775807) ∧ (-9223372036854775808 ≤ p ∧ p ≤ 9223372036854775807) ∧ (-9223372036854775808 ≤ q0 ∧ q0 ≤ 9223372036854775807)) (h : (-9223372036854775808 ≤ T ∧ T ≤ 9223372036854775807) ∧ (-9223372036854775808 ≤ S ∧ S ≤ 9223372036854775807) ∧ (-9223372036854775808 ≤ t1 ∧ t1 ≤ 9223372036854775807) ∧ (-9223372036854775808 ≤ t2 ∧ t2 ≤ 9223372036854775807) ∧ (-9223372036854775808 ≤ f1 ∧ f1 ≤ 9223372036854775807) ∧ (-9223372036854775808 ≤ f2 ∧ f2 ≤ 9223372036854775807) ∧ (-9223372036854775808 ≤ d1 ∧ d1 ≤ 9223372036854775807) ∧ (-9223372036854775808 ≤ d2 ∧ d2 ≤ 9223372036854775807) ∧ (-9223372036854775808 ≤ d3 ∧ d3 ≤ 9223372036854775807) ∧ (-9223372036854775808 ≤ d4 ∧ d4 ≤ 9223372036854775807) ∧ (-9223372036854775808 ≤ d5 ∧ d5 ≤ 9223372036854775807) ∧ (-9223372036854775808 ≤ d6 ∧ d6 ≤ 9223372036854775807) ∧ (-9223372036854775808 ≤ p1 ∧ p1 ≤ 9223372036854775807) ∧ (-9223372036854775808 ≤ p2 ∧ p2 ≤ 9223372036854775807)) (hs : (-9223372036854775808 ≤ U ∧ U ≤ 9223372036854775807) ∧ (-9223372036854775808 ≤ P1 ∧ P1 ≤ 9223372036854775807) ∧ (-9223372036854775808 ≤ P2 ∧ P2 ≤ 9223372036854775807) ∧ (-9223372036854775808 ≤ P3 ∧ P3 ≤ 9223372036854775807) ∧ (-9223372036854775808 ≤ P4 ∧ P4 ≤ 9223372036854775807) ∧ (-9223372036854775808 ≤ P5 ∧ P5 ≤ 9223372036854775807) ∧ (-9223372036854775808 ≤ P6 ∧ P6 ≤ 9223372036854775807) ∧ (-9223372036854775808 ≤ V1 ∧ V1 ≤ 9223372036854775807) ∧ (-9223372036854775808 ≤ V2 ∧ V2 ≤ 9223372036854775807) ∧ (-9223372036854775808 ≤ V3 ∧ V3 ≤ 9223372036854775807) ∧ (-9223372036854775808 ≤ V4 ∧ V4 ≤ 9223372036854775807) ∧ (-9223372036854775808 ≤ V5 ∧ V5 ≤ 9223372036854775807) ∧ (-9223372036854775808 ≤ V6 ∧ V6 ≤ 9223372036854775807) ∧ (-9223372036854775808 ≤ M1 ∧ M1 ≤ 9223372036854775807) ∧ (-9223372036854775808 ≤ M2 ∧ M2 ≤ 9223372036854775807)) (hn : l.length ≤ 9223372036854775807) (ht : TabIn q l w) (hb : Hid (∀ p ∈ l, (-9223372036854775808 ≤ p.1 ∧ p.1 ≤ 9223372036854775807) ∧ (-9223372036854775808 ≤ p.2.1 ∧ p.2.1 ≤ 9223372036854775807) ∧ (-9223372036854775808 ≤ p.2.2 ∧ p.2.2 ≤ 9223372036854775807))) :
    Calls Try.prog 3 #[.agg #[.int .i64 m1, .int .i64 m2, .int .i64 r1, .int .i64 r2, .int .i64 o1, .int .i64 o2, .int .i64 s1, .int .i64 s2, .int .i64 a, .int .i64 b, .int .i64 c, .int .i64 d, .int .i64 p, .int .i64 q0], .agg #[.int .i64 T, .int .i64 S, .int .i64 t1, .int .i64 t2, .int .i64 f1, .int .i64 f2, .int .i64 d1, .int .i64 d2, .int .i64 d3, .int .i64 d4, .int .i64 d5, .int .i64 d6, Value.slice q l.length cap, .int .i64 p1, .int .i64 p2], .agg #[.int .i64 U, .int .i64 P1, .int .i64 P2, .int .i64 P3, .int .i64 P4, .int .i64 P5, .int .i64 P6, .int .i64 V1, .int .i64 V2, .int .i64 V3, .int .i64 V4, .int .i64 V5, .int .i64 V6, .int .i64 M1, .int .i64 M2]] w fun e w' => e = .returned (.bool true) ∧ Below w.heap.size w w' := by
  by_cases cl : 70 < l.length
  · have kl := hid (fun B W hc => long_any B q l.length cap W hc hn)
    rw [decide_eq_true cl] at kl
    clear cl hp h hs ht hb
    go_enter Try.func3, Try.ntmps3
    go_wp2_with fail
    refine useK w ((kl.out _ _ (by simp [go_sem]))) (by go_grown) ?_; rintro e w1 rfl hB1 hk1 hs1
    replace p00 : w1.cell? ⟨w.heap.size, 0, none⟩ = some (.int .i64 m1) := hk1 _ _ _ (by simp [go_sem])
    replace p01 : w1.cell? ⟨w.heap.size, 1, none⟩ = some (.int .i64 m2) := hk1 _ _ _ (by simp [go_sem])
    replace p02 : w1.cell? ⟨w.heap.size, 2, none⟩ = some (.int .i64 r1) := hk1 _ _ _ (by simp [go_sem])
    replace p03 : w1.cell? ⟨w.heap.size, 3, none⟩ = some (.int .i64 r2) := hk1 _ _ _ (by simp [go_sem])
    replace p04 : w1.cell? ⟨w.heap.size, 4, none⟩ = some (.int .i64 o1) := hk1 _ _ _ (by simp [go_sem])
    replace p05 : w1.cell? ⟨w.heap.size, 5, none⟩ = some (.int .i64 o2) := hk1 _ _ _ (by simp [go_sem])
    replace p06 : w1.cell? ⟨w.heap.size, 6, none⟩ = some (.int .i64 s1) := hk1 _ _ _ (by simp [go_sem])
    replace p07 : w1.cell? ⟨w.heap.size, 7, none⟩ = some (.int .i64 s2) := hk1 _ _ _ (by simp [go_sem])
    replace p08 : w1.cell? ⟨w.heap.size, 8, none⟩ = some (.int .i64 a) := hk1 _ _ _ (by simp [go_sem])
    replace p09 : w1.cell? ⟨w.heap.size, 9, none⟩ = some (.int .i64 b) := hk1 _ _ _ (by simp [go_sem])
    replace p010 : w1.cell? ⟨w.heap.size, 10, none⟩ = some (.int .i64 c) := hk1 _ _ _ (by simp [go_sem])
    replace p011 : w1.cell? ⟨w.heap.size, 11, none⟩ = some (.int .i64 d) := hk1 _ _ _ (by simp [go_sem])
    replace p012 : w1.cell? ⟨w.heap.size, 12, none⟩ = some (.int .i64 p) := hk1 _ _ _ (by simp [go_sem])
    replace p013 : w1.cell? ⟨w.heap.size, 13, none⟩ = some (.int .i64 q0) := hk1 _ _ _ (by simp [go_sem])
    replace p10 : w1.cell? ⟨w.heap.size + 1, 0, none⟩ = some (.int .i64 T) := hk1 _ _ _ (by simp [go_sem])
    replace p11 : w1.cell? ⟨w.heap.size + 1, 1, none⟩ = some (.int .i64 S) := hk1 _ _ _ (by simp [go_sem])
    replace p12 : w1.cell? ⟨w.heap.size + 1, 2, none⟩ = some (.int .i64 t1) := hk1 _ _ _ (by simp [go_sem])
    replace p13 : w1.cell? ⟨w.heap.size + 1, 3, none⟩ = some (.int .i64 t2) := hk1 _ _ _ (by simp [go_sem])
    replace p14 : w1.cell? ⟨w.heap.size + 1, 4, none⟩ = some (.int .i64 f1) := hk1 _ _ _ (by simp [go_sem])
    replace p15 : w1.cell? ⟨w.heap.size + 1, 5, none⟩ = some (.int .i64 f2) := hk1 _ _ _ (by simp [go_sem])
    replace p16 : w1.cell? ⟨w.heap.size + 1, 6, none⟩ = some (.int .i64 d1) := hk1 _ _ _ (by simp [go_sem])
    replace p17 : w1.cell? ⟨w.heap.size + 1, 7, none⟩ = some (.int .i64 d2) := hk1 _ _ _ (by simp [go_sem])
    replace p18 : w1.cell? ⟨w.heap.size + 1, 8, none⟩ = some (.int .i64 d3) := hk1 _ _ _ (by simp [go_sem])
    replace p19 : w1.cell? ⟨w.heap.size + 1, 9, none⟩ = some (.int .i64 d4) := hk1 _ _ _ (by simp [go_sem])
    replace p110 : w1.cell? ⟨w.heap.size + 1, 10, none⟩ = some (.int .i64 d5) := hk1 _ _ _ (by simp [go_sem])
    replace p111 : w1.cell? ⟨w.heap.size + 1, 11, none⟩ = some (.int .i64 d6) := hk1 _ _ _ (by simp [go_sem])
    replace p112 : w1.cell? ⟨w.heap.size + 1, 12, none⟩ = some (Value.slice q l.length cap) := hk1 _ _ _ (by simp [go_sem])
    replace p113 : w1.cell? ⟨w.heap.size + 1, 13, none⟩ = some (.int .i64 p1) := hk1 _ _ _ (by simp [go_sem])
    replace p114 : w1.cell? ⟨w.heap.size + 1, 14, none⟩ = some (.int .i64 p2) := hk1 _ _ _ (by simp [go_sem])
    replace p20 : w1.cell? ⟨w.heap.size + 1 + 1, 0, none⟩ = some (.int .i64 U) := hk1 _ _ _ (by simp [go_sem])
    replace p21 : w1.cell? ⟨w.heap.size + 1 + 1, 1, none⟩ = some (.int .i64 P1) := hk1 _ _ _ (by simp [go_sem])
    replace p22 : w1.cell? ⟨w.heap.size + 1 + 1, 2, none⟩ = some (.int .i64 P2) := hk1 _ _ _ (by simp [go_sem])
    replace p23 : w1.cell? ⟨w.heap.size + 1 + 1, 3, none⟩ = some (.int .i64 P3) := hk1 _ _ _ (by simp [go_sem])
    replace p24 : w1.cell? ⟨w.heap.size + 1 + 1, 4, none⟩ = some (.int .i64 P4) := hk1 _ _ _ (by simp [go_sem])
    replace p25 : w1.cell? ⟨w.heap.size + 1 + 1, 5, none⟩ = some (.int .i64 P5) := hk1 _ _ _ (by simp [go_sem])
    replace p26 : w1.cell? ⟨w.heap.size + 1 + 1, 6, none⟩ = some (.int .i64 P6) := hk1 _ _ _ (by simp [go_sem])
    replace p27 : w1.cell? ⟨w.heap.size + 1 + 1, 7, none⟩ = some (.int .i64 V1) := hk1 _ _ _ (by simp [go_sem])
    replace p28 : w1.cell? ⟨w.heap.size + 1 + 1, 8, none⟩ = some (.int .i64 V2) := hk1 _ _ _ (by simp [go_sem])
    replace p29 : w1.cell? ⟨w.heap.size + 1 + 1, 9, none⟩ = some (.int .i64 V3) := hk1 _ _ _ (by simp [go_sem])
    replace p210 : w1.cell? ⟨w.heap.size + 1 + 1, 10, none⟩ = some (.int .i64 V4) := hk1 _ _ _ (by simp [go_sem])
    replace p211 : w1.cell? ⟨w.heap.size + 1 + 1, 11, none⟩ = some (.int .i64 V5) := hk1 _ _ _ (by simp [go_sem])
    replace p212 : w1.cell? ⟨w.heap.size + 1 + 1, 12, none⟩ = some (.int .i64 V6) := hk1 _ _ _ (by simp [go_sem])
    replace p213 : w1.cell? ⟨w.heap.size + 1 + 1, 13, none⟩ = some (.int .i64 M1) := hk1 _ _ _ (by simp [go_sem])
    replace p214 : w1.cell? ⟨w.heap.size + 1 + 1, 14, none⟩ = some (.int .i64 M2) := hk1 _ _ _ (by simp [go_sem])
    have bp00 : w.heap.size < w1.heap.size := World.block_lt_of_cell? w1 ⟨w.heap.size, 0, none⟩ p00
    have bp10 : w.heap.size + 1 < w1.heap.size := World.block_lt_of_cell? w1 ⟨w.heap.size + 1, 0, none⟩ p10
    have bp20 : w.heap.size + 1 + 1 < w1.heap.size := World.block_lt_of_cell? w1 ⟨w.heap.size + 1 + 1, 0, none⟩ p20
    clear hk1
    go_wp2_with fail
    go_ret
    exact ⟨rfl, by go_grown⟩
  have kl := hid (fun B W hc => long_any B q l.length cap W hc hn)
  rw [decide_eq_false cl] at kl
  have hl : l.length ≤ 70 := by omega
  have k1 := hid (fun W (hW : Below w.heap.size w W) => steps_any q cap T S t1 t2 f1 f2 d1 d2 d3 d4 d5 d6 p1 p2 l W h hl (ht.on hW) hb)
  have k2 := hid (fun W (hW : Below w.heap.size w W) => rsteps_any q cap T S t1 t2 f1 f2 d1 d2 d3 d4 d5 d6 p1 p2 l W h hl (ht.on hW) hb)
  have k3 := hid (fun W => checkplanet_any m1 m2 r1 r2 o1 o2 s1 s2 a b c d p q0 W hp)
  have k4 := hid (fun W => rcheckplanet_any m1 m2 r1 r2 o1 o2 s1 s2 a b c d p q0 W hp)
  have k5 := hid (fun W => checkstate_any U P1 P2 P3 P4 P5 P6 V1 V2 V3 V4 V5 V6 M1 M2 W hs)
  have k6 := hid (fun W => rcheckstate_any U P1 P2 P3 P4 P5 P6 V1 V2 V3 V4 V5 V6 M1 M2 W hs)
  have k7 := hid (fun W (hW : Below w.heap.size w W) => checkarc_any q cap T S t1 t2 f1 f2 d1 d2 d3 d4 d5 d6 p1 p2 l W h hl (ht.on hW) hb)
  have k8 := hid (fun W (hW : Below w.heap.size w W) => rcheckarc_any q cap T S t1 t2 f1 f2 d1 d2 d3 d4 d5 d6 p1 p2 l W h hl (ht.on hW) hb)
  generalize stepsS (arcB T S t1 t2 f1 f2 d1 d2 d3 d4 d5 d6 p1 p2 l) T S = X at *
  generalize errB (planetB m1 m2 r1 r2 o1 o2 s1 s2 a b c d p q0) = Y at *
  generalize errB (stateB U P1 P2 P3 P4 P5 P6 V1 V2 V3 V4 V5 V6 M1 M2) = Z at *
  generalize errB (arcB T S t1 t2 f1 f2 d1 d2 d3 d4 d5 d6 p1 p2 l) = A at *
  obtain ⟨n1, n2⟩ := X
  dsimp only at k1 k2
  clear cl hp h hs ht hb hl hn
  go_enter Try.func3, Try.ntmps3
  go_wp2_with fail
  refine useK w ((kl.out _ _ (by simp [go_sem]))) (by go_grown) ?_; rintro e w1 rfl hB1 hk1 hs1
  replace p00 : w1.cell? ⟨w.heap.size, 0, none⟩ = some (.int .i64 m1) := hk1 _ _ _ (by simp [go_sem])
  replace p01 : w1.cell? ⟨w.heap.size, 1, none⟩ = some (.int .i64 m2) := hk1 _ _ _ (by simp [go_sem])
  replace p02 : w1.cell? ⟨w.heap.size, 2, none⟩ = some (.int .i64 r1) := hk1 _ _ _ (by simp [go_sem])
  replace p03 : w1.cell? ⟨w.heap.size, 3, none⟩ = some (.int .i64 r2) := hk1 _ _ _ (by simp [go_sem])
  replace p04 : w1.cell? ⟨w.heap.size, 4, none⟩ = some (.int .i64 o1) := hk1 _ _ _ (by simp [go_sem])
  replace p05 : w1.cell? ⟨w.heap.size, 5, none⟩ = some (.int .i64 o2) := hk1 _ _ _ (by simp [go_sem])
  replace p06 : w1.cell? ⟨w.heap.size, 6, none⟩ = some (.int .i64 s1) := hk1 _ _ _ (by simp [go_sem])
  replace p07 : w1.cell? ⟨w.heap.size, 7, none⟩ = some (.int .i64 s2) := hk1 _ _ _ (by simp [go_sem])
  replace p08 : w1.cell? ⟨w.heap.size, 8, none⟩ = some (.int .i64 a) := hk1 _ _ _ (by simp [go_sem])
  replace p09 : w1.cell? ⟨w.heap.size, 9, none⟩ = some (.int .i64 b) := hk1 _ _ _ (by simp [go_sem])
  replace p010 : w1.cell? ⟨w.heap.size, 10, none⟩ = some (.int .i64 c) := hk1 _ _ _ (by simp [go_sem])
  replace p011 : w1.cell? ⟨w.heap.size, 11, none⟩ = some (.int .i64 d) := hk1 _ _ _ (by simp [go_sem])
  replace p012 : w1.cell? ⟨w.heap.size, 12, none⟩ = some (.int .i64 p) := hk1 _ _ _ (by simp [go_sem])
  replace p013 : w1.cell? ⟨w.heap.size, 13, none⟩ = some (.int .i64 q0) := hk1 _ _ _ (by simp [go_sem])
  replace p10 : w1.cell? ⟨w.heap.size + 1, 0, none⟩ = some (.int .i64 T) := hk1 _ _ _ (by simp [go_sem])
  replace p11 : w1.cell? ⟨w.heap.size + 1, 1, none⟩ = some (.int .i64 S) := hk1 _ _ _ (by simp [go_sem])
  replace p12 : w1.cell? ⟨w.heap.size + 1, 2, none⟩ = some (.int .i64 t1) := hk1 _ _ _ (by simp [go_sem])
  replace p13 : w1.cell? ⟨w.heap.size + 1, 3, none⟩ = some (.int .i64 t2) := hk1 _ _ _ (by simp [go_sem])
  replace p14 : w1.cell? ⟨w.heap.size + 1, 4, none⟩ = some (.int .i64 f1) := hk1 _ _ _ (by simp [go_sem])
  replace p15 : w1.cell? ⟨w.heap.size + 1, 5, none⟩ = some (.int .i64 f2) := hk1 _ _ _ (by simp [go_sem])
  replace p16 : w1.cell? ⟨w.heap.size + 1, 6, none⟩ = some (.int .i64 d1) := hk1 _ _ _ (by simp [go_sem])
  replace p17 : w1.cell? ⟨w.heap.size + 1, 7, none⟩ = some (.int .i64 d2) := hk1 _ _ _ (by simp [go_sem])
  replace p18 : w1.cell? ⟨w.heap.size + 1, 8, none⟩ = some (.int .i64 d3) := hk1 _ _ _ (by simp [go_sem])
  replace p19 : w1.cell? ⟨w.heap.size + 1, 9, none⟩ = some (.int .i64 d4) := hk1 _ _ _ (by simp [go_sem])
  replace p110 : w1.cell? ⟨w.heap.size + 1, 10, none⟩ = some (.int .i64 d5) := hk1 _ _ _ (by simp [go_sem])
  replace p111 : w1.cell? ⟨w.heap.size + 1, 11, none⟩ = some (.int .i64 d6) := hk1 _ _ _ (by simp [go_sem])
  replace p112 : w1.cell? ⟨w.heap.size + 1, 12, none⟩ = some (Value.slice q l.length cap) := hk1 _ _ _ (by simp [go_sem])
  replace p113 : w1.cell? ⟨w.heap.size + 1, 13, none⟩ = some (.int .i64 p1) := hk1 _ _ _ (by simp [go_sem])
  replace p114 : w1.cell? ⟨w.heap.size + 1, 14, none⟩ = some (.int .i64 p2) := hk1 _ _ _ (by simp [go_sem])
  replace p20 : w1.cell? ⟨w.heap.size + 1 + 1, 0, none⟩ = some (.int .i64 U) := hk1 _ _ _ (by simp [go_sem])
  replace p21 : w1.cell? ⟨w.heap.size + 1 + 1, 1, none⟩ = some (.int .i64 P1) := hk1 _ _ _ (by simp [go_sem])
  replace p22 : w1.cell? ⟨w.heap.size + 1 + 1, 2, none⟩ = some (.int .i64 P2) := hk1 _ _ _ (by simp [go_sem])
  replace p23 : w1.cell? ⟨w.heap.size + 1 + 1, 3, none⟩ = some (.int .i64 P3) := hk1 _ _ _ (by simp [go_sem])
  replace p24 : w1.cell? ⟨w.heap.size + 1 + 1, 4, none⟩ = some (.int .i64 P4) := hk1 _ _ _ (by simp [go_sem])
  replace p25 : w1.cell? ⟨w.heap.size + 1 + 1, 5, none⟩ = some (.int .i64 P5) := hk1 _ _ _ (by simp [go_sem])
  replace p26 : w1.cell? ⟨w.heap.size + 1 + 1, 6, none⟩ = some (.int .i64 P6) := hk1 _ _ _ (by simp [go_sem])
  replace p27 : w1.cell? ⟨w.heap.size + 1 + 1, 7, none⟩ = some (.int .i64 V1) := hk1 _ _ _ (by simp [go_sem])
  replace p28 : w1.cell? ⟨w.heap.size + 1 + 1, 8, none⟩ = some (.int .i64 V2) := hk1 _ _ _ (by simp [go_sem])
  replace p29 : w1.cell? ⟨w.heap.size + 1 + 1, 9, none⟩ = some (.int .i64 V3) := hk1 _ _ _ (by simp [go_sem])
  replace p210 : w1.cell? ⟨w.heap.size + 1 + 1, 10, none⟩ = some (.int .i64 V4) := hk1 _ _ _ (by simp [go_sem])
  replace p211 : w1.cell? ⟨w.heap.size + 1 + 1, 11, none⟩ = some (.int .i64 V5) := hk1 _ _ _ (by simp [go_sem])
  replace p212 : w1.cell? ⟨w.heap.size + 1 + 1, 12, none⟩ = some (.int .i64 V6) := hk1 _ _ _ (by simp [go_sem])
  replace p213 : w1.cell? ⟨w.heap.size + 1 + 1, 13, none⟩ = some (.int .i64 M1) := hk1 _ _ _ (by simp [go_sem])
  replace p214 : w1.cell? ⟨w.heap.size + 1 + 1, 14, none⟩ = some (.int .i64 M2) := hk1 _ _ _ (by simp [go_sem])
  have bp00 : w.heap.size < w1.heap.size := World.block_lt_of_cell? w1 ⟨w.heap.size, 0, none⟩ p00
  have bp10 : w.heap.size + 1 < w1.heap.size := World.block_lt_of_cell? w1 ⟨w.heap.size + 1, 0, none⟩ p10
  have bp20 : w.heap.size + 1 + 1 < w1.heap.size := World.block_lt_of_cell? w1 ⟨w.heap.size + 1 + 1, 0, none⟩ p20
  clear hk1
  go_wp2_with fail
  refine useK w (k1.out _ (by go_grown)) (by go_grown) ?_; rintro e w2 rfl hB2 hk2 hs2
  replace p00 : w2.cell? ⟨w.heap.size, 0, none⟩ = some (.int .i64 m1) := hk2 _ _ _ (p00)
  replace p01 : w2.cell? ⟨w.heap.size, 1, none⟩ = some (.int .i64 m2) := hk2 _ _ _ (p01)
  replace p02 : w2.cell? ⟨w.heap.size, 2, none⟩ = some (.int .i64 r1) := hk2 _ _ _ (p02)
  replace p03 : w2.cell? ⟨w.heap.size, 3, none⟩ = some (.int .i64 r2) := hk2 _ _ _ (p03)
  replace p04 : w2.cell? ⟨w.heap.size, 4, none⟩ = some (.int .i64 o1) := hk2 _ _ _ (p04)
  replace p05 : w2.cell? ⟨w.heap.size, 5, none⟩ = some (.int .i64 o2) := hk2 _ _ _ (p05)
  replace p06 : w2.cell? ⟨w.heap.size, 6, none⟩ = some (.int .i64 s1) := hk2 _ _ _ (p06)
  replace p07 : w2.cell? ⟨w.heap.size, 7, none⟩ = some (.int .i64 s2) := hk2 _ _ _ (p07)
  replace p08 : w2.cell? ⟨w.heap.size, 8, none⟩ = some (.int .i64 a) := hk2 _ _ _ (p08)
  replace p09 : w2.cell? ⟨w.heap.size, 9, none⟩ = some (.int .i64 b) := hk2 _ _ _ (p09)
  replace p010 : w2.cell? ⟨w.heap.size, 10, none⟩ = some (.int .i64 c) := hk2 _ _ _ (p010)
  replace p011 : w2.cell? ⟨w.heap.size, 11, none⟩ = some (.int .i64 d) := hk2 _ _ _ (p011)
  replace p012 : w2.cell? ⟨w.heap.size, 12, none⟩ = some (.int .i64 p) := hk2 _ _ _ (p012)
  replace p013 : w2.cell? ⟨w.heap.size, 13, none⟩ = some (.int .i64 q0) := hk2 _ _ _ (p013)
  replace p10 : w2.cell? ⟨w.heap.size + 1, 0, none⟩ = some (.int .i64 T) := hk2 _ _ _ (p10)
  replace p11 : w2.cell? ⟨w.heap.size + 1, 1, none⟩ = some (.int .i64 S) := hk2 _ _ _ (p11)
  replace p12 : w2.cell? ⟨w.heap.size + 1, 2, none⟩ = some (.int .i64 t1) := hk2 _ _ _ (p12)
  replace p13 : w2.cell? ⟨w.heap.size + 1, 3, none⟩ = some (.int .i64 t2) := hk2 _ _ _ (p13)
  replace p14 : w2.cell? ⟨w.heap.size + 1, 4, none⟩ = some (.int .i64 f1) := hk2 _ _ _ (p14)
  replace p15 : w2.cell? ⟨w.heap.size + 1, 5, none⟩ = some (.int .i64 f2) := hk2 _ _ _ (p15)
  replace p16 : w2.cell? ⟨w.heap.size + 1, 6, none⟩ = some (.int .i64 d1) := hk2 _ _ _ (p16)
  replace p17 : w2.cell? ⟨w.heap.size + 1, 7, none⟩ = some (.int .i64 d2) := hk2 _ _ _ (p17)
  replace p18 : w2.cell? ⟨w.heap.size + 1, 8, none⟩ = some (.int .i64 d3) := hk2 _ _ _ (p18)
  replace p19 : w2.cell? ⟨w.heap.size + 1, 9, none⟩ = some (.int .i64 d4) := hk2 _ _ _ (p19)
  replace p110 : w2.cell? ⟨w.heap.size + 1, 10, none⟩ = some (.int .i64 d5) := hk2 _ _ _ (p110)
  replace p111 : w2.cell? ⟨w.heap.size + 1, 11, none⟩ = some (.int .i64 d6) := hk2 _ _ _ (p111)
  replace p112 : w2.cell? ⟨w.heap.size + 1, 12, none⟩ = some (Value.slice q l.length cap) := hk2 _ _ _ (p112)
  replace p113 : w2.cell? ⟨w.heap.size + 1, 13, none⟩ = some (.int .i64 p1) := hk2 _ _ _ (p113)
  replace p114 : w2.cell? ⟨w.heap.size + 1, 14, none⟩ = some (.int .i64 p2) := hk2 _ _ _ (p114)
  replace p20 : w2.cell? ⟨w.heap.size + 1 + 1, 0, none⟩ = some (.int .i64 U) := hk2 _ _ _ (p20)
  replace p21 : w2.cell? ⟨w.heap.size + 1 + 1, 1, none⟩ = some (.int .i64 P1) := hk2 _ _ _ (p21)
  replace p22 : w2.cell? ⟨w.heap.size + 1 + 1, 2, none⟩ = some (.int .i64 P2) := hk2 _ _ _ (p22)
  replace p23 : w2.cell? ⟨w.heap.size + 1 + 1, 3, none⟩ = some (.int .i64 P3) := hk2 _ _ _ (p23)
  replace p24 : w2.cell? ⟨w.heap.size + 1 + 1, 4, none⟩ = some (.int .i64 P4) := hk2 _ _ _ (p24)
  replace p25 : w2.cell? ⟨w.heap.size + 1 + 1, 5, none⟩ = some (.int .i64 P5) := hk2 _ _ _ (p25)
  replace p26 : w2.cell? ⟨w.heap.size + 1 + 1, 6, none⟩ = some (.int .i64 P6) := hk2 _ _ _ (p26)
  replace p27 : w2.cell? ⟨w.heap.size + 1 + 1, 7, none⟩ = some (.int .i64 V1) := hk2 _ _ _ (p27)
  replace p28 : w2.cell? ⟨w.heap.size + 1 + 1, 8, none⟩ = some (.int .i64 V2) := hk2 _ _ _ (p28)
  replace p29 : w2.cell? ⟨w.heap.size + 1 + 1, 9, none⟩ = some (.int .i64 V3) := hk2 _ _ _ (p29)
  replace p210 : w2.cell? ⟨w.heap.size + 1 + 1, 10, none⟩ = some (.int .i64 V4) := hk2 _ _ _ (p210)
  replace p211 : w2.cell? ⟨w.heap.size + 1 + 1, 11, none⟩ = some (.int .i64 V5) := hk2 _ _ _ (p211)
  replace p212 : w2.cell? ⟨w.heap.size + 1 + 1, 12, none⟩ = some (.int .i64 V6) := hk2 _ _ _ (p212)
  replace p213 : w2.cell? ⟨w.heap.size + 1 + 1, 13, none⟩ = some (.int .i64 M1) := hk2 _ _ _ (p213)
  replace p214 : w2.cell? ⟨w.heap.size + 1 + 1, 14, none⟩ = some (.int .i64 M2) := hk2 _ _ _ (p214)
  have bp00 : w.heap.size < w2.heap.size := World.block_lt_of_cell? w2 ⟨w.heap.size, 0, none⟩ p00
  have bp10 : w.heap.size + 1 < w2.heap.size := World.block_lt_of_cell? w2 ⟨w.heap.size + 1, 0, none⟩ p10
  have bp20 : w.heap.size + 1 + 1 < w2.heap.size := World.block_lt_of_cell? w2 ⟨w.heap.size + 1 + 1, 0, none⟩ p20
  clear hk2
  go_wp2_with fail
  refine useK w (k2.out _ (by go_grown)) (by go_grown) ?_; rintro e w3 rfl hB3 hk3 hs3
  replace p00 : w3.cell? ⟨w.heap.size, 0, none⟩ = some (.int .i64 m1) := hk3 _ _ _ (p00)
  replace p01 : w3.cell? ⟨w.heap.size, 1, none⟩ = some (.int .i64 m2) := hk3 _ _ _ (p01)
  replace p02 : w3.cell? ⟨w.heap.size, 2, none⟩ = some (.int .i64 r1) := hk3 _ _ _ (p02)
  replace p03 : w3.cell? ⟨w.heap.size, 3, none⟩ = some (.int .i64 r2) := hk3 _ _ _ (p03)
  replace p04 : w3.cell? ⟨w.heap.size, 4, none⟩ = some (.int .i64 o1) := hk3 _ _ _ (p04)
  replace p05 : w3.cell? ⟨w.heap.size, 5, none⟩ = some (.int .i64 o2) := hk3 _ _ _ (p05)
  replace p06 : w3.cell? ⟨w.heap.size, 6, none⟩ = some (.int .i64 s1) := hk3 _ _ _ (p06)
  replace p07 : w3.cell? ⟨w.heap.size, 7, none⟩ = some (.int .i64 s2) := hk3 _ _ _ (p07)
  replace p08 : w3.cell? ⟨w.heap.size, 8, none⟩ = some (.int .i64 a) := hk3 _ _ _ (p08)
  replace p09 : w3.cell? ⟨w.heap.size, 9, none⟩ = some (.int .i64 b) := hk3 _ _ _ (p09)
  replace p010 : w3.cell? ⟨w.heap.size, 10, none⟩ = some (.int .i64 c) := hk3 _ _ _ (p010)
  replace p011 : w3.cell? ⟨w.heap.size, 11, none⟩ = some (.int .i64 d) := hk3 _ _ _ (p011)
  replace p012 : w3.cell? ⟨w.heap.size, 12, none⟩ = some (.int .i64 p) := hk3 _ _ _ (p012)
  replace p013 : w3.cell? ⟨w.heap.size, 13, none⟩ = some (.int .i64 q0) := hk3 _ _ _ (p013)
  replace p10 : w3.cell? ⟨w.heap.size + 1, 0, none⟩ = some (.int .i64 T) := hk3 _ _ _ (p10)
  replace p11 : w3.cell? ⟨w.heap.size + 1, 1, none⟩ = some (.int .i64 S) := hk3 _ _ _ (p11)
  replace p12 : w3.cell? ⟨w.heap.size + 1, 2, none⟩ = some (.int .i64 t1) := hk3 _ _ _ (p12)
  replace p13 : w3.cell? ⟨w.heap.size + 1, 3, none⟩ = some (.int .i64 t2) := hk3 _ _ _ (p13)
  replace p14 : w3.cell? ⟨w.heap.size + 1, 4, none⟩ = some (.int .i64 f1) := hk3 _ _ _ (p14)
  replace p15 : w3.cell? ⟨w.heap.size + 1, 5, none⟩ = some (.int .i64 f2) := hk3 _ _ _ (p15)
  replace p16 : w3.cell? ⟨w.heap.size + 1, 6, none⟩ = some (.int .i64 d1) := hk3 _ _ _ (p16)
  replace p17 : w3.cell? ⟨w.heap.size + 1, 7, none⟩ = some (.int .i64 d2) := hk3 _ _ _ (p17)
  replace p18 : w3.cell? ⟨w.heap.size + 1, 8, none⟩ = some (.int .i64 d3) := hk3 _ _ _ (p18)
  replace p19 : w3.cell? ⟨w.heap.size + 1, 9, none⟩ = some (.int .i64 d4) := hk3 _ _ _ (p19)
  replace p110 : w3.cell? ⟨w.heap.size + 1, 10, none⟩ = some (.int .i64 d5) := hk3 _ _ _ (p110)
  replace p111 : w3.cell? ⟨w.heap.size + 1, 11, none⟩ = some (.int .i64 d6) := hk3 _ _ _ (p111)
  replace p112 : w3.cell? ⟨w.heap.size + 1, 12, none⟩ = some (Value.slice q l.length cap) := hk3 _ _ _ (p112)
  replace p113 : w3.cell? ⟨w.heap.size + 1, 13, none⟩ = some (.int .i64 p1) := hk3 _ _ _ (p113)
  replace p114 : w3.cell? ⟨w.heap.size + 1, 14, none⟩ = some (.int .i64 p2) := hk3 _ _ _ (p114)
  replace p20 : w3.cell? ⟨w.heap.size + 1 + 1, 0, none⟩ = some (.int .i64 U) := hk3 _ _ _ (p20)
  replace p21 : w3.cell? ⟨w.heap.size + 1 + 1, 1, none⟩ = some (.int .i64 P1) := hk3 _ _ _ (p21)
  replace p22 : w3.cell? ⟨w.heap.size + 1 + 1, 2, none⟩ = some (.int .i64 P2) := hk3 _ _ _ (p22)
  replace p23 : w3.cell? ⟨w.heap.size + 1 + 1, 3, none⟩ = some (.int .i64 P3) := hk3 _ _ _ (p23)
  replace p24 : w3.cell? ⟨w.heap.size + 1 + 1, 4, none⟩ = some (.int .i64 P4) := hk3 _ _ _ (p24)
  replace p25 : w3.cell? ⟨w.heap.size + 1 + 1, 5, none⟩ = some (.int .i64 P5) := hk3 _ _ _ (p25)
  replace p26 : w3.cell? ⟨w.heap.size + 1 + 1, 6, none⟩ = some (.int .i64 P6) := hk3 _ _ _ (p26)
  replace p27 : w3.cell? ⟨w.heap.size + 1 + 1, 7, none⟩ = some (.int .i64 V1) := hk3 _ _ _ (p27)
  replace p28 : w3.cell? ⟨w.heap.size + 1 + 1, 8, none⟩ = some (.int .i64 V2) := hk3 _ _ _ (p28)
  replace p29 : w3.cell? ⟨w.heap.size + 1 + 1, 9, none⟩ = some (.int .i64 V3) := hk3 _ _ _ (p29)
  replace p210 : w3.cell? ⟨w.heap.size + 1 + 1, 10, none⟩ = some (.int .i64 V4) := hk3 _ _ _ (p210)
  replace p211 : w3.cell? ⟨w.heap.size + 1 + 1, 11, none⟩ = some (.int .i64 V5) := hk3 _ _ _ (p211)
  replace p212 : w3.cell? ⟨w.heap.size + 1 + 1, 12, none⟩ = some (.int .i64 V6) := hk3 _ _ _ (p212)
  replace p213 : w3.cell? ⟨w.heap.size + 1 + 1, 13, none⟩ = some (.int .i64 M1) := hk3 _ _ _ (p213)
  replace p214 : w3.cell? ⟨w.heap.size + 1 + 1, 14, none⟩ = some (.int .i64 M2) := hk3 _ _ _ (p214)
  have bp00 : w.heap.size < w3.heap.size := World.block_lt_of_cell? w3 ⟨w.heap.size, 0, none⟩ p00
  have bp10 : w.heap.size + 1 < w3.heap.size := World.block_lt_of_cell? w3 ⟨w.heap.size + 1, 0, none⟩ p10
  have bp20 : w.heap.size + 1 + 1 < w3.heap.size := World.block_lt_of_cell? w3 ⟨w.heap.size + 1 + 1, 0, none⟩ p20
  clear hk3
  go_wp2_with fail
  go_cut [11] (fun s wx => s = .bool true ∧ Cells3 w.heap.size q cap l m1 m2 r1 r2 o1 o2 s1 s2 a b c d p q0 T S t1 t2 f1 f2 d1 d2 d3 d4 d5 d6 p1 p2 U P1 P2 P3 P4 P5 P6 V1 V2 V3 V4 V5 V6 M1 M2 wx ∧ Below w.heap.size w wx)
  case first =>
    refine wp_region_held_drew (S := (fun w' => w'.cell? ⟨w.heap.size, 0, none⟩ = some (.int .i64 m1) ∧ w'.cell? ⟨w.heap.size, 1, none⟩ = some (.int .i64 m2) ∧ w'.cell? ⟨w.heap.size, 2, none⟩ = some (.int .i64 r1) ∧ w'.cell? ⟨w.heap.size, 3, none⟩ = some (.int .i64 r2) ∧ w'.cell? ⟨w.heap.size, 4, none⟩ = some (.int .i64 o1) ∧ w'.cell? ⟨w.heap.size, 5, none⟩ = some (.int .i64 o2) ∧ w'.cell? ⟨w.heap.size, 6, none⟩ = some (.int .i64 s1) ∧ w'.cell? ⟨w.heap.size, 7, none⟩ = some (.int .i64 s2) ∧ w'.cell? ⟨w.heap.size, 8, none⟩ = some (.int .i64 a) ∧ w'.cell? ⟨w.heap.size, 9, none⟩ = some (.int .i64 b) ∧ w'.cell? ⟨w.heap.size, 10, none⟩ = some (.int .i64 c) ∧ w'.cell? ⟨w.heap.size, 11, none⟩ = some (.int .i64 d) ∧ w'.cell? ⟨w.heap.size, 12, none⟩ = some (.int .i64 p) ∧ w'.cell? ⟨w.heap.size, 13, none⟩ = some (.int .i64 q0) ∧ w'.cell? ⟨w.heap.size + 1, 0, none⟩ = some (.int .i64 T) ∧ w'.cell? ⟨w.heap.size + 1, 1, none⟩ = some (.int .i64 S) ∧ w'.cell? ⟨w.heap.size + 1, 2, none⟩ = some (.int .i64 t1) ∧ w'.cell? ⟨w.heap.size + 1, 3, none⟩ = some (.int .i64 t2) ∧ w'.cell? ⟨w.heap.size + 1, 4, none⟩ = some (.int .i64 f1) ∧ w'.cell? ⟨w.heap.size + 1, 5, none⟩ = some (.int .i64 f2) ∧ w'.cell? ⟨w.heap.size + 1, 6, none⟩ = some (.int .i64 d1) ∧ w'.cell? ⟨w.heap.size + 1, 7, none⟩ = some (.int .i64 d2) ∧ w'.cell? ⟨w.heap.size + 1, 8, none⟩ = some (.int .i64 d3) ∧ w'.cell? ⟨w.heap.size + 1, 9, none⟩ = some (.int .i64 d4) ∧ w'.cell? ⟨w.heap.size + 1, 10, none⟩ = some (.int .i64 d5) ∧ w'.cell? ⟨w.heap.size + 1, 11, none⟩ = some (.int .i64 d6) ∧ w'.cell? ⟨w.heap.size + 1, 12, none⟩ = some (Value.slice q l.length cap) ∧ w'.cell? ⟨w.heap.size + 1, 13, none⟩ = some (.int .i64 p1) ∧ w'.cell? ⟨w.heap.size + 1, 14, none⟩ = some (.int .i64 p2) ∧ w'.cell? ⟨w.heap.size + 1 + 1, 0, none⟩ = some (.int .i64 U) ∧ w'.cell? ⟨w.heap.size + 1 + 1, 1, none⟩ = some (.int .i64 P1) ∧ w'.cell? ⟨w.heap.size + 1 + 1, 2, none⟩ = some (.int .i64 P2) ∧ w'.cell? ⟨w.heap.size + 1 + 1, 3, none⟩ = some (.int .i64 P3) ∧ w'.cell? ⟨w.heap.size + 1 + 1, 4, none⟩ = some (.int .i64 P4) ∧ w'.cell? ⟨w.heap.size + 1 + 1, 5, none⟩ = some (.int .i64 P5) ∧ w'.cell? ⟨w.heap.size + 1 + 1, 6, none⟩ = some (.int .i64 P6) ∧ w'.cell? ⟨w.heap.size + 1 + 1, 7, none⟩ = some (.int .i64 V1) ∧ w'.cell? ⟨w.heap.size + 1 + 1, 8, none⟩ = some (.int .i64 V2) ∧ w'.cell? ⟨w.heap.size + 1 + 1, 9, none⟩ = some (.int .i64 V3) ∧ w'.cell? ⟨w.heap.size + 1 + 1, 10, none⟩ = some (.int .i64 V4) ∧ w'.cell? ⟨w.heap.size + 1 + 1, 11, none⟩ = some (.int .i64 V5) ∧ w'.cell? ⟨w.heap.size + 1 + 1, 12, none⟩ = some (.int .i64 V6) ∧ w'.cell? ⟨w.heap.size + 1 + 1, 13, none⟩ = some (.int .i64 M1) ∧ w'.cell? ⟨w.heap.size + 1 + 1, 14, none⟩ = some (.int .i64 M2))) (by kernel_rfl) (by (try dsimp only); simp only [World.cell?_drew, World.frozen?_drew]; exact ⟨p00, p01, p02, p03, p04, p05, p06, p07, p08, p09, p010, p011, p012, p013, p10, p11, p12, p13, p14, p15, p16, p17, p18, p19, p110, p111, p112, p113, p114, p20, p21, p22, p23, p24, p25, p26, p27, p28, p29, p210, p211, p212, p213, p214⟩) (fun hHeld => ?_)
    have hBq0 : Below w.heap.size w w3.drew := by go_grown
    (try dsimp only at hHeld)
    clear p00 p01 p02 p03 p04 p05 p06 p07 p08 p09 p010 p011 p012 p013 p10 p11 p12 p13 p14 p15 p16 p17 p18 p19 p110 p111 p112 p113 p114 p20 p21 p22 p23 p24 p25 p26 p27 p28 p29 p210 p211 p212 p213 p214
    generalize w3.drew = wq0 at *
    have hzq0 : w.heap.size ≤ wq0.heap.size := hBq0.size
    (refine wpAnyH_take (i := 0) (oi := ⟨some 25, _, _, _, _, none⟩) (v := ?_) rfl (by kernel_rfl) (by kernel_rfl) (by kernel_rfl) (fun _ _ _ h => h) (Or.inl ⟨by rfl, ?_⟩) hHeld ?_; rotate_left; (· (intro w9 hSw; (try dsimp only at hSw); go_simp; (try with_reducible rfl))))
    (try simp only [Act.put, List.setIfInBounds_toArray, List.set_cons_zero, List.set_cons_succ])
    (refine wpAnyH_take (i := 2) (oi := ⟨some 27, _, _, _, _, none⟩) (v := ?_) rfl (by kernel_rfl) (by kernel_rfl) (by kernel_rfl) (fun _ _ _ h => h) (Or.inl ⟨by rfl, ?_⟩) hHeld ?_; rotate_left; (· (intro w9 hSw; (try dsimp only at hSw); go_simp; (try with_reducible rfl))))
    (try simp only [Act.put, List.setIfInBounds_toArray, List.set_cons_zero, List.set_cons_succ])
    refine wpAnyH_ready (rs := [1]) (by kernel_rfl) (by simp) ?_
    refine AllReadyH.cons (o := ⟨some 26, _, _, _, _, none⟩) rfl (fun K hK => ?_) (AllReadyH.nil)
    go_simp
    (go_at_call 9; refine useF w (k3.out _) (by go_grown) ?_; rintro e wq1 rfl hBq1 hkq1 hfq1 hsq1)
    have hOld := hHeld; clear hHeld; refine hK.out _ _ ?_ (fun hHeld => ?_)
    · exact ⟨hkq1 _ _ _ (hOld.1), hkq1 _ _ _ (hOld.2.1), hkq1 _ _ _ (hOld.2.2.1), hkq1 _ _ _ (hOld.2.2.2.1), hkq1 _ _ _ (hOld.2.2.2.2.1), hkq1 _ _ _ (hOld.2.2.2.2.2.1), hkq1 _ _ _ (hOld.2.2.2.2.2.2.1), hkq1 _ _ _ (hOld.2.2.2.2.2.2.2.1), hkq1 _ _ _ (hOld.2.2.2.2.2.2.2.2.1), hkq1 _ _ _ (hOld.2.2.2.2.2.2.2.2.2.1), hkq1 _ _ _ (hOld.2.2.2.2.2.2.2.2.2.2.1), hkq1 _ _ _ (hOld.2.2.2.2.2.2.2.2.2.2.2.1), hkq1 _ _ _ (hOld.2.2.2.2.2.2.2.2.2.2.2.2.1), hkq1 _ _ _ (hOld.2.2.2.2.2.2.2.2.2.2.2.2.2.1), hkq1 _ _ _ (hOld.2.2.2.2.2.2.2.2.2.2.2.2.2.2.1), hkq1 _ _ _ (hOld.2.2.2.2.2.2.2.2.2.2.2.2.2.2.2.1), hkq1 _ _ _ (hOld.2.2.2.2.2.2.2.2.2.2.2.2.2.2.2.2.1), hkq1 _ _ _ (hOld.2.2.2.2.2.2.2.2.2.2.2.2.2.2.2.2.2.1), hkq1 _ _ _ (hOld.2.2.2.2.2.2.2.2.2.2.2.2.2.2.2.2.2.2.1), hkq1 _ _ _ (hOld.2.2.2.2.2.2.2.2.2.2.2.2.2.2.2.2.2.2.2.1), hkq1 _ _ _ (hOld.2.2.2.2.2.2.2.2.2.2.2.2.2.2.2.2.2.2.2.2.1), hkq1 _ _ _ (hOld.2.2.2.2.2.2.2.2.2.2.2.2.2.2.2.2.2.2.2.2.2.1), hkq1 _ _ _ (hOld.2.2.2.2.2.2.2.2.2.2.2.2.2.2.2.2.2.2.2.2.2.2.1), hkq1 _ _ _ (hOld.2.2.2.2.2.2.2.2.2.2.2.2.2.2.2.2.2.2.2.2.2.2.2.1), hkq1 _ _ _ (hOld.2.2.2.2.2.2.2.2.2.2.2.2.2.2.2.2.2.2.2.2.2.2.2.2.1), hkq1 _ _ _ (hOld.2.2.2.2.2.2.2.2.2.2.2.2.2.2.2.2.2.2.2.2.2.2.2.2.2.1), hkq1 _ _ _ (hOld.2.2.2.2.2.2.2.2.2.2.2.2.2.2.2.2.2.2.2.2.2.2.2.2.2.2.1), hkq1 _ _ _ (hOld.2.2.2.2.2.2.2.2.2.2.2.2.2.2.2.2.2.2.2.2.2.2.2.2.2.2.2.1), hkq1 _ _ _ (hOld.2.2.2.2.2.2.2.2.2.2.2.2.2.2.2.2.2.2.2.2.2.2.2.2.2.2.2.2.1), hkq1 _ _ _ (hOld.2.2.2.2.2.2.2.2.2.2.2.2.2.2.2.2.2.2.2.2.2.2.2.2.2.2.2.2.2.1), hkq1 _ _ _ (hOld.2.2.2.2.2.2.2.2.2.2.2.2.2.2.2.2.2.2.2.2.2.2.2.2.2.2.2.2.2.2.1), hkq1 _ _ _ (hOld.2.2.2.2.2.2.2.2.2.2.2.2.2.2.2.2.2.2.2.2.2.2.2.2.2.2.2.2.2.2.2.1), hkq1 _ _ _ (hOld.2.2.2.2.2.2.2.2.2.2.2.2.2.2.2.2.2.2.2.2.2.2.2.2.2.2.2.2.2.2.2.2.1), hkq1 _ _ _ (hOld.2.2.2.2.2.2.2.2.2.2.2.2.2.2.2.2.2.2.2.2.2.2.2.2.2.2.2.2.2.2.2.2.2.1), hkq1 _ _ _ (hOld.2.2.2.2.2.2.2.2.2.2.2.2.2.2.2.2.2.2.2.2.2.2.2.2.2.2.2.2.2.2.2.2.2.2.1), hkq1 _ _ _ (hOld.2.2.2.2.2.2.2.2.2.2.2.2.2.2.2.2.2.2.2.2.2.2.2.2.2.2.2.2.2.2.2.2.2.2.2.1), hkq1 _ _ _ (hOld.2.2.2.2.2.2.2.2.2.2.2.2.2.2.2.2.2.2.2.2.2.2.2.2.2.2.2.2.2.2.2.2.2.2.2.2.1), hkq1 _ _ _ (hOld.2.2.2.2.2.2.2.2.2.2.2.2.2.2.2.2.2.2.2.2.2.2.2.2.2.2.2.2.2.2.2.2.2.2.2.2.2.1), hkq1 _ _ _ (hOld.2.2.2.2.2.2.2.2.2.2.2.2.2.2.2.2.2.2.2.2.2.2.2.2.2.2.2.2.2.2.2.2.2.2.2.2.2.2.1), hkq1 _ _ _ (hOld.2.2.2.2.2.2.2.2.2.2.2.2.2.2.2.2.2.2.2.2.2.2.2.2.2.2.2.2.2.2.2.2.2.2.2.2.2.2.2.1), hkq1 _ _ _ (hOld.2.2.2.2.2.2.2.2.2.2.2.2.2.2.2.2.2.2.2.2.2.2.2.2.2.2.2.2.2.2.2.2.2.2.2.2.2.2.2.2.1), hkq1 _ _ _ (hOld.2.2.2.2.2.2.2.2.2.2.2.2.2.2.2.2.2.2.2.2.2.2.2.2.2.2.2.2.2.2.2.2.2.2.2.2.2.2.2.2.2.1), hkq1 _ _ _ (hOld.2.2.2.2.2.2.2.2.2.2.2.2.2.2.2.2.2.2.2.2.2.2.2.2.2.2.2.2.2.2.2.2.2.2.2.2.2.2.2.2.2.2.1), hkq1 _ _ _ (hOld.2.2.2.2.2.2.2.2.2.2.2.2.2.2.2.2.2.2.2.2.2.2.2.2.2.2.2.2.2.2.2.2.2.2.2.2.2.2.2.2.2.2.2)⟩
    clear hK K hOld
    clear hkq1 hfq1 hsq1
    have hzq1 : w.heap.size ≤ wq1.heap.size := hBq1.size
    (try simp only [Act.put, List.setIfInBounds_toArray, List.set_cons_zero, List.set_cons_succ])
    refine wpAnyH_ready (rs := [3]) (by kernel_rfl) (by simp) ?_
    refine AllReadyH.cons (o := ⟨some 28, _, _, _, _, none⟩) rfl (fun K hK => ?_) (AllReadyH.nil)
    go_simp
    (go_at_call 10; refine useF w (k4.out _) (by go_grown) ?_; rintro e wq2 rfl hBq2 hkq2 hfq2 hsq2)
    have hOld := hHeld; clear hHeld; refine hK.out _ _ ?_ (fun hHeld => ?_)
    · exact ⟨hkq2 _ _ _ (hOld.1), hkq2 _ _ _ (hOld.2.1), hkq2 _ _ _ (hOld.2.2.1), hkq2 _ _ _ (hOld.2.2.2.1), hkq2 _ _ _ (hOld.2.2.2.2.1), hkq2 _ _ _ (hOld.2.2.2.2.2.1), hkq2 _ _ _ (hOld.2.2.2.2.2.2.1), hkq2 _ _ _ (hOld.2.2.2.2.2.2.2.1), hkq2 _ _ _ (hOld.2.2.2.2.2.2.2.2.1), hkq2 _ _ _ (hOld.2.2.2.2.2.2.2.2.2.1), hkq2 _ _ _ (hOld.2.2.2.2.2.2.2.2.2.2.1), hkq2 _ _ _ (hOld.2.2.2.2.2.2.2.2.2.2.2.1), hkq2 _ _ _ (hOld.2.2.2.2.2.2.2.2.2.2.2.2.1), hkq2 _ _ _ (hOld.2.2.2.2.2.2.2.2.2.2.2.2.2.1), hkq2 _ _ _ (hOld.2.2.2.2.2.2.2.2.2.2.2.2.2.2.1), hkq2 _ _ _ (hOld.2.2.2.2.2.2.2.2.2.2.2.2.2.2.2.1), hkq2 _ _ _ (hOld.2.2.2.2.2.2.2.2.2.2.2.2.2.2.2.2.1), hkq2 _ _ _ (hOld.2.2.2.2.2.2.2.2.2.2.2.2.2.2.2.2.2.1), hkq2 _ _ _ (hOld.2.2.2.2.2.2.2.2.2.2.2.2.2.2.2.2.2.2.1), hkq2 _ _ _ (hOld.2.2.2.2.2.2.2.2.2.2.2.2.2.2.2.2.2.2.2.1), hkq2 _ _ _ (hOld.2.2.2.2.2.2.2.2.2.2.2.2.2.2.2.2.2.2.2.2.1), hkq2 _ _ _ (hOld.2.2.2.2.2.2.2.2.2.2.2.2.2.2.2.2.2.2.2.2.2.1), hkq2 _ _ _ (hOld.2.2.2.2.2.2.2.2.2.2.2.2.2.2.2.2.2.2.2.2.2.2.1), hkq2 _ _ _ (hOld.2.2.2.2.2.2.2.2.2.2.2.2.2.2.2.2.2.2.2.2.2.2.2.1), hkq2 _ _ _ (hOld.2.2.2.2.2.2.2.2.2.2.2.2.2.2.2.2.2.2.2.2.2.2.2.2.1), hkq2 _ _ _ (hOld.2.2.2.2.2.2.2.2.2.2.2.2.2.2.2.2.2.2.2.2.2.2.2.2.2.1), hkq2 _ _ _ (hOld.2.2.2.2.2.2.2.2.2.2.2.2.2.2.2.2.2.2.2.2.2.2.2.2.2.2.1), hkq2 _ _ _ (hOld.2.2.2.2.2.2.2.2.2.2.2.2.2.2.2.2.2.2.2.2.2.2.2.2.2.2.2.1), hkq2 _ _ _ (hOld.2.2.2.2.2.2.2.2.2.2.2.2.2.2.2.2.2.2.2.2.2.2.2.2.2.2.2.2.1), hkq2 _ _ _ (hOld.2.2.2.2.2.2.2.2.2.2.2.2.2.2.2.2.2.2.2.2.2.2.2.2.2.2.2.2.2.1), hkq2 _ _ _ (hOld.2.2.2.2.2.2.2.2.2.2.2.2.2.2.2.2.2.2.2.2.2.2.2.2.2.2.2.2.2.2.1), hkq2 _ _ _ (hOld.2.2.2.2.2.2.2.2.2.2.2.2.2.2.2.2.2.2.2.2.2.2.2.2.2.2.2.2.2.2.2.1), hkq2 _ _ _ (hOld.2.2.2.2.2.2.2.2.2.2.2.2.2.2.2.2.2.2.2.2.2.2.2.2.2.2.2.2.2.2.2.2.1), hkq2 _ _ _ (hOld.2.2.2.2.2.2.2.2.2.2.2.2.2.2.2.2.2.2.2.2.2.2.2.2.2.2.2.2.2.2.2.2.2.1), hkq2 _ _ _ (hOld.2.2.2.2.2.2.2.2.2.2.2.2.2.2.2.2.2.2.2.2.2.2.2.2.2.2.2.2.2.2.2.2.2.2.1), hkq2 _ _ _ (hOld.2.2.2.2.2.2.2.2.2.2.2.2.2.2.2.2.2.2.2.2.2.2.2.2.2.2.2.2.2.2.2.2.2.2.2.1), hkq2 _ _ _ (hOld.2.2.2.2.2.2.2.2.2.2.2.2.2.2.2.2.2.2.2.2.2.2.2.2.2.2.2.2.2.2.2.2.2.2.2.2.1), hkq2 _ _ _ (hOld.2.2.2.2.2.2.2.2.2.2.2.2.2.2.2.2.2.2.2.2.2.2.2.2.2.2.2.2.2.2.2.2.2.2.2.2.2.1), hkq2 _ _ _ (hOld.2.2.2.2.2.2.2.2.2.2.2.2.2.2.2.2.2.2.2.2.2.2.2.2.2.2.2.2.2.2.2.2.2.2.2.2.2.2.1), hkq2 _ _ _ (hOld.2.2.2.2.2.2.2.2.2.2.2.2.2.2.2.2.2.2.2.2.2.2.2.2.2.2.2.2.2.2.2.2.2.2.2.2.2.2.2.1), hkq2 _ _ _ (hOld.2.2.2.2.2.2.2.2.2.2.2.2.2.2.2.2.2.2.2.2.2.2.2.2.2.2.2.2.2.2.2.2.2.2.2.2.2.2.2.2.1), hkq2 _ _ _ (hOld.2.2.2.2.2.2.2.2.2.2.2.2.2.2.2.2.2.2.2.2.2.2.2.2.2.2.2.2.2.2.2.2.2.2.2.2.2.2.2.2.2.1), hkq2 _ _ _ (hOld.2.2.2.2.2.2.2.2.2.2.2.2.2.2.2.2.2.2.2.2.2.2.2.2.2.2.2.2.2.2.2.2.2.2.2.2.2.2.2.2.2.2.1), hkq2 _ _ _ (hOld.2.2.2.2.2.2.2.2.2.2.2.2.2.2.2.2.2.2.2.2.2.2.2.2.2.2.2.2.2.2.2.2.2.2.2.2.2.2.2.2.2.2.2)⟩
    clear hK K hOld
    clear hkq2 hfq2 hsq2
    have hzq2 : w.heap.size ≤ wq2.heap.size := hBq2.size
    (try simp only [Act.put, List.setIfInBounds_toArray, List.set_cons_zero, List.set_cons_succ])
    (refine wpAnyH_take (i := 4) (oi := ⟨some 29, _, _, _, _, none⟩) (v := ?_) rfl (by kernel_rfl) (by kernel_rfl) (by kernel_rfl) (fun _ _ _ h => h) (Or.inl ⟨by rfl, ?_⟩) hHeld ?_; rotate_left; (· (intro w9 hSw; (try dsimp only at hSw); go_simp; (try with_reducible rfl))))
    (try simp only [Act.put, List.setIfInBounds_toArray, List.set_cons_zero, List.set_cons_succ])
    (refine wpAnyH_take (i := 5) (oi := ⟨some 30, _, _, _, _, none⟩) (v := ?_) rfl (by kernel_rfl) (by kernel_rfl) (by kernel_rfl) (fun _ _ _ h => h) (Or.inl ⟨by rfl, ?_⟩) hHeld ?_; rotate_left; (· (intro w9 hSw; (try dsimp only at hSw); go_simp; (try with_reducible rfl))))
    (try simp only [Act.put, List.setIfInBounds_toArray, List.set_cons_zero, List.set_cons_succ])
    (refine wpAnyH_take (i := 6) (oi := ⟨some 31, _, _, _, _, some (5, true)⟩) (v := ?_) rfl (by kernel_rfl) (by kernel_rfl) (by kernel_rfl) (fun _ _ _ h => h) (Or.inl ⟨by rfl, ?_⟩) hHeld ?_; rotate_left; (· (intro w9 hSw; (try dsimp only at hSw); go_simp; (try with_reducible rfl))))
    (try simp only [Act.put, List.setIfInBounds_toArray, List.set_cons_zero, List.set_cons_succ])
    (refine wpAnyH_take (i := 8) (oi := ⟨some 33, _, _, _, _, some (5, true)⟩) (v := ?_) rfl (by kernel_rfl) (by kernel_rfl) (by kernel_rfl) (fun _ _ _ h => h) (Or.inl ⟨by rfl, ?_⟩) hHeld ?_; rotate_left; (· (intro w9 hSw; (try dsimp only at hSw); go_simp; (try with_reducible rfl))))
    (try simp only [Act.put, List.setIfInBounds_toArray, List.set_cons_zero, List.set_cons_succ])
    refine wpAnyH_ready (rs := [7]) (by kernel_rfl) (by simp) ?_
    refine AllReadyH.cons (o := ⟨some 32, _, _, _, _, some (5, true)⟩) rfl (fun K hK => ?_) (AllReadyH.nil)
    go_simp
    (go_at_call 11; refine useF w (k5.out _) (by go_grown) ?_; rintro e wq3 rfl hBq3 hkq3 hfq3 hsq3)
    have hOld := hHeld; clear hHeld; refine hK.out _ _ ?_ (fun hHeld => ?_)
    · exact ⟨hkq3 _ _ _ (hOld.1), hkq3 _ _ _ (hOld.2.1), hkq3 _ _ _ (hOld.2.2.1), hkq3 _ _ _ (hOld.2.2.2.1), hkq3 _ _ _ (hOld.2.2.2.2.1), hkq3 _ _ _ (hOld.2.2.2.2.2.1), hkq3 _ _ _ (hOld.2.2.2.2.2.2.1), hkq3 _ _ _ (hOld.2.2.2.2.2.2.2.1), hkq3 _ _ _ (hOld.2.2.2.2.2.2.2.2.1), hkq3 _ _ _ (hOld.2.2.2.2.2.2.2.2.2.1), hkq3 _ _ _ (hOld.2.2.2.2.2.2.2.2.2.2.1), hkq3 _ _ _ (hOld.2.2.2.2.2.2.2.2.2.2.2.1), hkq3 _ _ _ (hOld.2.2.2.2.2.2.2.2.2.2.2.2.1), hkq3 _ _ _ (hOld.2.2.2.2.2.2.2.2.2.2.2.2.2.1), hkq3 _ _ _ (hOld.2.2.2.2.2.2.2.2.2.2.2.2.2.2.1), hkq3 _ _ _ (hOld.2.2.2.2.2.2.2.2.2.2.2.2.2.2.2.1), hkq3 _ _ _ (hOld.2.2.2.2.2.2.2.2.2.2.2.2.2.2.2.2.1), hkq3 _ _ _ (hOld.2.2.2.2.2.2.2.2.2.2.2.2.2.2.2.2.2.1), hkq3 _ _ _ (hOld.2.2.2.2.2.2.2.2.2.2.2.2.2.2.2.2.2.2.1), hkq3 _ _ _ (hOld.2.2.2.2.2.2.2.2.2.2.2.2.2.2.2.2.2.2.2.1), hkq3 _ _ _ (hOld.2.2.2.2.2.2.2.2.2.2.2.2.2.2.2.2.2.2.2.2.1), hkq3 _ _ _ (hOld.2.2.2.2.2.2.2.2.2.2.2.2.2.2.2.2.2.2.2.2.2.1), hkq3 _ _ _ (hOld.2.2.2.2.2.2.2.2.2.2.2.2.2.2.2.2.2.2.2.2.2.2.1), hkq3 _ _ _ (hOld.2.2.2.2.2.2.2.2.2.2.2.2.2.2.2.2.2.2.2.2.2.2.2.1), hkq3 _ _ _ (hOld.2.2.2.2.2.2.2.2.2.2.2.2.2.2.2.2.2.2.2.2.2.2.2.2.1), hkq3 _ _ _ (hOld.2.2.2.2.2.2.2.2.2.2.2.2.2.2.2.2.2.2.2.2.2.2.2.2.2.1), hkq3 _ _ _ (hOld.2.2.2.2.2.2.2.2.2.2.2.2.2.2.2.2.2.2.2.2.2.2.2.2.2.2.1), hkq3 _ _ _ (hOld.2.2.2.2.2.2.2.2.2.2.2.2.2.2.2.2.2.2.2.2.2.2.2.2.2.2.2.1), hkq3 _ _ _ (hOld.2.2.2.2.2.2.2.2.2.2.2.2.2.2.2.2.2.2.2.2.2.2.2.2.2.2.2.2.1), hkq3 _ _ _ (hOld.2.2.2.2.2.2.2.2.2.2.2.2.2.2.2.2.2.2.2.2.2.2.2.2.2.2.2.2.2.1), hkq3 _ _ _ (hOld.2.2.2.2.2.2.2.2.2.2.2.2.2.2.2.2.2.2.2.2.2.2.2.2.2.2.2.2.2.2.1), hkq3 _ _ _ (hOld.2.2.2.2.2.2.2.2.2.2.2.2.2.2.2.2.2.2.2.2.2.2.2.2.2.2.2.2.2.2.2.1), hkq3 _ _ _ (hOld.2.2.2.2.2.2.2.2.2.2.2.2.2.2.2.2.2.2.2.2.2.2.2.2.2.2.2.2.2.2.2.2.1), hkq3 _ _ _ (hOld.2.2.2.2.2.2.2.2.2.2.2.2.2.2.2.2.2.2.2.2.2.2.2.2.2.2.2.2.2.2.2.2.2.1), hkq3 _ _ _ (hOld.2.2.2.2.2.2.2.2.2.2.2.2.2.2.2.2.2.2.2.2.2.2.2.2.2.2.2.2.2.2.2.2.2.2.1), hkq3 _ _ _ (hOld.2.2.2.2.2.2.2.2.2.2.2.2.2.2.2.2.2.2.2.2.2.2.2.2.2.2.2.2.2.2.2.2.2.2.2.1), hkq3 _ _ _ (hOld.2.2.2.2.2.2.2.2.2.2.2.2.2.2.2.2.2.2.2.2.2.2.2.2.2.2.2.2.2.2.2.2.2.2.2.2.1), hkq3 _ _ _ (hOld.2.2.2.2.2.2.2.2.2.2.2.2.2.2.2.2.2.2.2.2.2.2.2.2.2.2.2.2.2.2.2.2.2.2.2.2.2.1), hkq3 _ _ _ (hOld.2.2.2.2.2.2.2.2.2.2.2.2.2.2.2.2.2.2.2.2.2.2.2.2.2.2.2.2.2.2.2.2.2.2.2.2.2.2.1), hkq3 _ _ _ (hOld.2.2.2.2.2.2.2.2.2.2.2.2.2.2.2.2.2.2.2.2.2.2.2.2.2.2.2.2.2.2.2.2.2.2.2.2.2.2.2.1), hkq3 _ _ _ (hOld.2.2.2.2.2.2.2.2.2.2.2.2.2.2.2.2.2.2.2.2.2.2.2.2.2.2.2.2.2.2.2.2.2.2.2.2.2.2.2.2.1), hkq3 _ _ _ (hOld.2.2.2.2.2.2.2.2.2.2.2.2.2.2.2.2.2.2.2.2.2.2.2.2.2.2.2.2.2.2.2.2.2.2.2.2.2.2.2.2.2.1), hkq3 _ _ _ (hOld.2.2.2.2.2.2.2.2.2.2.2.2.2.2.2.2.2.2.2.2.2.2.2.2.2.2.2.2.2.2.2.2.2.2.2.2.2.2.2.2.2.2.1), hkq3 _ _ _ (hOld.2.2.2.2.2.2.2.2.2.2.2.2.2.2.2.2.2.2.2.2.2.2.2.2.2.2.2.2.2.2.2.2.2.2.2.2.2.2.2.2.2.2.2)⟩
    clear hK K hOld
    clear hkq3 hfq3 hsq3
    have hzq3 : w.heap.size ≤ wq3.heap.size := hBq3.size
    (try simp only [Act.put, List.setIfInBounds_toArray, List.set_cons_zero, List.set_cons_succ])
    refine wpAnyH_ready (rs := [9]) (by kernel_rfl) (by simp) ?_
    refine AllReadyH.cons (o := ⟨some 34, _, _, _, _, some (5, true)⟩) rfl (fun K hK => ?_) (AllReadyH.nil)
    go_simp
    (go_at_call 12; refine useF w (k6.out _) (by go_grown) ?_; rintro e wq4 rfl hBq4 hkq4 hfq4 hsq4)
    have hOld := hHeld; clear hHeld; refine hK.out _ _ ?_ (fun hHeld => ?_)
    · exact ⟨hkq4 _ _ _ (hOld.1), hkq4 _ _ _ (hOld.2.1), hkq4 _ _ _ (hOld.2.2.1), hkq4 _ _ _ (hOld.2.2.2.1), hkq4 _ _ _ (hOld.2.2.2.2.1), hkq4 _ _ _ (hOld.2.2.2.2.2.1), hkq4 _ _ _ (hOld.2.2.2.2.2.2.1), hkq4 _ _ _ (hOld.2.2.2.2.2.2.2.1), hkq4 _ _ _ (hOld.2.2.2.2.2.2.2.2.1), hkq4 _ _ _ (hOld.2.2.2.2.2.2.2.2.2.1), hkq4 _ _ _ (hOld.2.2.2.2.2.2.2.2.2.2.1), hkq4 _ _ _ (hOld.2.2.2.2.2.2.2.2.2.2.2.1), hkq4 _ _ _ (hOld.2.2.2.2.2.2.2.2.2.2.2.2.1), hkq4 _ _ _ (hOld.2.2.2.2.2.2.2.2.2.2.2.2.2.1), hkq4 _ _ _ (hOld.2.2.2.2.2.2.2.2.2.2.2.2.2.2.1), hkq4 _ _ _ (hOld.2.2.2.2.2.2.2.2.2.2.2.2.2.2.2.1), hkq4 _ _ _ (hOld.2.2.2.2.2.2.2.2.2.2.2.2.2.2.2.2.1), hkq4 _ _ _ (hOld.2.2.2.2.2.2.2.2.2.2.2.2.2.2.2.2.2.1), hkq4 _ _ _ (hOld.2.2.2.2.2.2.2.2.2.2.2.2.2.2.2.2.2.2.1), hkq4 _ _ _ (hOld.2.2.2.2.2.2.2.2.2.2.2.2.2.2.2.2.2.2.2.1), hkq4 _ _ _ (hOld.2.2.2.2.2.2.2.2.2.2.2.2.2.2.2.2.2.2.2.2.1), hkq4 _ _ _ (hOld.2.2.2.2.2.2.2.2.2.2.2.2.2.2.2.2.2.2.2.2.2.1), hkq4 _ _ _ (hOld.2.2.2.2.2.2.2.2.2.2.2.2.2.2.2.2.2.2.2.2.2.2.1), hkq4 _ _ _ (hOld.2.2.2.2.2.2.2.2.2.2.2.2.2.2.2.2.2.2.2.2.2.2.2.1), hkq4 _ _ _ (hOld.2.2.2.2.2.2.2.2.2.2.2.2.2.2.2.2.2.2.2.2.2.2.2.2.1), hkq4 _ _ _ (hOld.2.2.2.2.2.2.2.2.2.2.2.2.2.2.2.2.2.2.2.2.2.2.2.2.2.1), hkq4 _ _ _ (hOld.2.2.2.2.2.2.2.2.2.2.2.2.2.2.2.2.2.2.2.2.2.2.2.2.2.2.1), hkq4 _ _ _ (hOld.2.2.2.2.2.2.2.2.2.2.2.2.2.2.2.2.2.2.2.2.2.2.2.2.2.2.2.1), hkq4 _ _ _ (hOld.2.2.2.2.2.2.2.2.2.2.2.2.2.2.2.2.2.2.2.2.2.2.2.2.2.2.2.2.1), hkq4 _ _ _ (hOld.2.2.2.2.2.2.2.2.2.2.2.2.2.2.2.2.2.2.2.2.2.2.2.2.2.2.2.2.2.1), hkq4 _ _ _ (hOld.2.2.2.2.2.2.2.2.2.2.2.2.2.2.2.2.2.2.2.2.2.2.2.2.2.2.2.2.2.2.1), hkq4 _ _ _ (hOld.2.2.2.2.2.2.2.2.2.2.2.2.2.2.2.2.2.2.2.2.2.2.2.2.2.2.2.2.2.2.2.1), hkq4 _ _ _ (hOld.2.2.2.2.2.2.2.2.2.2.2.2.2.2.2.2.2.2.2.2.2.2.2.2.2.2.2.2.2.2.2.2.1), hkq4 _ _ _ (hOld.2.2.2.2.2.2.2.2.2.2.2.2.2.2.2.2.2.2.2.2.2.2.2.2.2.2.2.2.2.2.2.2.2.1), hkq4 _ _ _ (hOld.2.2.2.2.2.2.2.2.2.2.2.2.2.2.2.2.2.2.2.2.2.2.2.2.2.2.2.2.2.2.2.2.2.2.1), hkq4 _ _ _ (hOld.2.2.2.2.2.2.2.2.2.2.2.2.2.2.2.2.2.2.2.2.2.2.2.2.2.2.2.2.2.2.2.2.2.2.2.1), hkq4 _ _ _ (hOld.2.2.2.2.2.2.2.2.2.2.2.2.2.2.2.2.2.2.2.2.2.2.2.2.2.2.2.2.2.2.2.2.2.2.2.2.1), hkq4 _ _ _ (hOld.2.2.2.2.2.2.2.2.2.2.2.2.2.2.2.2.2.2.2.2.2.2.2.2.2.2.2.2.2.2.2.2.2.2.2.2.2.1), hkq4 _ _ _ (hOld.2.2.2.2.2.2.2.2.2.2.2.2.2.2.2.2.2.2.2.2.2.2.2.2.2.2.2.2.2.2.2.2.2.2.2.2.2.2.1), hkq4 _ _ _ (hOld.2.2.2.2.2.2.2.2.2.2.2.2.2.2.2.2.2.2.2.2.2.2.2.2.2.2.2.2.2.2.2.2.2.2.2.2.2.2.2.1), hkq4 _ _ _ (hOld.2.2.2.2.2.2.2.2.2.2.2.2.2.2.2.2.2.2.2.2.2.2.2.2.2.2.2.2.2.2.2.2.2.2.2.2.2.2.2.2.1), hkq4 _ _ _ (hOld.2.2.2.2.2.2.2.2.2.2.2.2.2.2.2.2.2.2.2.2.2.2.2.2.2.2.2.2.2.2.2.2.2.2.2.2.2.2.2.2.2.1), hkq4 _ _ _ (hOld.2.2.2.2.2.2.2.2.2.2.2.2.2.2.2.2.2.2.2.2.2.2.2.2.2.2.2.2.2.2.2.2.2.2.2.2.2.2.2.2.2.2.1), hkq4 _ _ _ (hOld.2.2.2.2.2.2.2.2.2.2.2.2.2.2.2.2.2.2.2.2.2.2.2.2.2.2.2.2.2.2.2.2.2.2.2.2.2.2.2.2.2.2.2)⟩
    clear hK K hOld
    clear hkq4 hfq4 hsq4
    have hzq4 : w.heap.size ≤ wq4.heap.size := hBq4.size
    (try simp only [Act.put, List.setIfInBounds_toArray, List.set_cons_zero, List.set_cons_succ])
    (refine wpAnyH_take (i := 10) (oi := ⟨some 35, _, _, _, _, some (5, true)⟩) (v := ?_) rfl (by kernel_rfl) (by kernel_rfl) (by kernel_rfl) (fun _ _ _ h => h) (Or.inl ⟨by rfl, ?_⟩) hHeld ?_; rotate_left; (· (intro w9 hSw; (try dsimp only at hSw); go_simp; (try with_reducible rfl))))
    (try simp only [Act.put, List.setIfInBounds_toArray, List.set_cons_zero, List.set_cons_succ])
    (refine wpAnyH_take (i := 11) (oi := ⟨some 36, _, _, _, _, none⟩) (v := ?_) rfl (by kernel_rfl) (by kernel_rfl) (by kernel_rfl) (fun _ _ _ h => h) (Or.inl ⟨by rfl, ?_⟩) hHeld ?_; rotate_left; (· (intro w9 hSw; (try dsimp only at hSw); go_simp; (try with_reducible rfl))))
    (try simp only [Act.put, List.setIfInBounds_toArray, List.set_cons_zero, List.set_cons_succ])
    (refine wpAnyH_take (i := 12) (oi := ⟨some 11, _, _, _, _, none⟩) (v := ?_) rfl (by kernel_rfl) (by kernel_rfl) (by kernel_rfl) (fun _ _ _ h => h) (Or.inl ⟨by rfl, ?_⟩) hHeld ?_; rotate_left; (· (intro w9 hSw; (try dsimp only at hSw); go_simp; (try with_reducible rfl))))
    (try simp only [Act.put, List.setIfInBounds_toArray, List.set_cons_zero, List.set_cons_succ])
    refine wpAnyH_done (by kernel_rfl) ?_ _
    go_wp2_with fail
    go_meet
    exact ⟨rfl, hHeld, by go_grown⟩
  case rest =>
    obtain ⟨rfl, hc, hB⟩ := hcut
    obtain ⟨p00, p01, p02, p03, p04, p05, p06, p07, p08, p09, p010, p011, p012, p013, p10, p11, p12, p13, p14, p15, p16, p17, p18, p19, p110, p111, p112, p113, p114, p20, p21, p22, p23, p24, p25, p26, p27, p28, p29, p210, p211, p212, p213, p214⟩ := hc
    go_wp2_with fail
    refine wp_region_held_drew (S := (fun w' => w'.cell? ⟨w.heap.size, 0, none⟩ = some (.int .i64 m1) ∧ w'.cell? ⟨w.heap.size, 1, none⟩ = some (.int .i64 m2) ∧ w'.cell? ⟨w.heap.size, 2, none⟩ = some (.int .i64 r1) ∧ w'.cell? ⟨w.heap.size, 3, none⟩ = some (.int .i64 r2) ∧ w'.cell? ⟨w.heap.size, 4, none⟩ = some (.int .i64 o1) ∧ w'.cell? ⟨w.heap.size, 5, none⟩ = some (.int .i64 o2) ∧ w'.cell? ⟨w.heap.size, 6, none⟩ = some (.int .i64 s1) ∧ w'.cell? ⟨w.heap.size, 7, none⟩ = some (.int .i64 s2) ∧ w'.cell? ⟨w.heap.size, 8, none⟩ = some (.int .i64 a) ∧ w'.cell? ⟨w.heap.size, 9, none⟩ = some (.int .i64 b) ∧ w'.cell? ⟨w.heap.size, 10, none⟩ = some (.int .i64 c) ∧ w'.cell? ⟨w.heap.size, 11, none⟩ = some (.int .i64 d) ∧ w'.cell? ⟨w.heap.size, 12, none⟩ = some (.int .i64 p) ∧ w'.cell? ⟨w.heap.size, 13, none⟩ = some (.int .i64 q0) ∧ w'.cell? ⟨w.heap.size + 1, 0, none⟩ = some (.int .i64 T) ∧ w'.cell? ⟨w.heap.size + 1, 1, none⟩ = some (.int .i64 S) ∧ w'.cell? ⟨w.heap.size + 1, 2, none⟩ = some (.int .i64 t1) ∧ w'.cell? ⟨w.heap.size + 1, 3, none⟩ = some (.int .i64 t2) ∧ w'.cell? ⟨w.heap.size + 1, 4, none⟩ = some (.int .i64 f1) ∧ w'.cell? ⟨w.heap.size + 1, 5, none⟩ = some (.int .i64 f2) ∧ w'.cell? ⟨w.heap.size + 1, 6, none⟩ = some (.int .i64 d1) ∧ w'.cell? ⟨w.heap.size + 1, 7, none⟩ = some (.int .i64 d2) ∧ w'.cell? ⟨w.heap.size + 1, 8, none⟩ = some (.int .i64 d3) ∧ w'.cell? ⟨w.heap.size + 1, 9, none⟩ = some (.int .i64 d4) ∧ w'.cell? ⟨w.heap.size + 1, 10, none⟩ = some (.int .i64 d5) ∧ w'.cell? ⟨w.heap.size + 1, 11, none⟩ = some (.int .i64 d6) ∧ w'.cell? ⟨w.heap.size + 1, 12, none⟩ = some (Value.slice q l.length cap) ∧ w'.cell? ⟨w.heap.size + 1, 13, none⟩ = some (.int .i64 p1) ∧ w'.cell? ⟨w.heap.size + 1, 14, none⟩ = some (.int .i64 p2) ∧ w'.cell? ⟨w.heap.size + 1 + 1, 0, none⟩ = some (.int .i64 U) ∧ w'.cell? ⟨w.heap.size + 1 + 1, 1, none⟩ = some (.int .i64 P1) ∧ w'.cell? ⟨w.heap.size + 1 + 1, 2, none⟩ = some (.int .i64 P2) ∧ w'.cell? ⟨w.heap.size + 1 + 1, 3, none⟩ = some (.int .i64 P3) ∧ w'.cell? ⟨w.heap.size + 1 + 1, 4, none⟩ = some (.int .i64 P4) ∧ w'.cell? ⟨w.heap.size + 1 + 1, 5, none⟩ = some (.int .i64 P5) ∧ w'.cell? ⟨w.heap.size + 1 + 1, 6, none⟩ = some (.int .i64 P6) ∧ w'.cell? ⟨w.heap.size + 1 + 1, 7, none⟩ = some (.int .i64 V1) ∧ w'.cell? ⟨w.heap.size + 1 + 1, 8, none⟩ = some (.int .i64 V2) ∧ w'.cell? ⟨w.heap.size + 1 + 1, 9, none⟩ = some (.int .i64 V3) ∧ w'.cell? ⟨w.heap.size + 1 + 1, 10, none⟩ = some (.int .i64 V4) ∧ w'.cell? ⟨w.heap.size + 1 + 1, 11, none⟩ = some (.int .i64 V5) ∧ w'.cell? ⟨w.heap.size + 1 + 1, 12, none⟩ = some (.int .i64 V6) ∧ w'.cell? ⟨w.heap.size + 1 + 1, 13, none⟩ = some (.int .i64 M1) ∧ w'.cell? ⟨w.heap.size + 1 + 1, 14, none⟩ = some (.int .i64 M2))) (by kernel_rfl) (by (try dsimp only); simp only [World.cell?_drew, World.frozen?_drew]; exact ⟨p00, p01, p02, p03, p04, p05, p06, p07, p08, p09, p010, p011, p012, p013, p10, p11, p12, p13, p14, p15, p16, p17, p18, p19, p110, p111, p112, p113, p114, p20, p21, p22, p23, p24, p25, p26, p27, p28, p29, p210, p211, p212, p213, p214⟩) (fun hHeld => ?_)
    have hBq0 : Below w.heap.size w wc.drew := by go_grown
    (try dsimp only at hHeld)
    clear p00 p01 p02 p03 p04 p05 p06 p07 p08 p09 p010 p011 p012 p013 p10 p11 p12 p13 p14 p15 p16 p17 p18 p19 p110 p111 p112 p113 p114 p20 p21 p22 p23 p24 p25 p26 p27 p28 p29 p210 p211 p212 p213 p214
    generalize wc.drew = wq0 at *
    have hzq0 : w.heap.size ≤ wq0.heap.size := hBq0.size
    (refine wpAnyH_take (i := 0) (oi := ⟨some 37, _, _, _, _, none⟩) (v := ?_) rfl (by kernel_rfl) (by kernel_rfl) (by kernel_rfl) (fun _ _ _ h => h) (Or.inl ⟨by rfl, ?_⟩) hHeld ?_; rotate_left; (· (intro w9 hSw; (try dsimp only at hSw); go_simp; (try with_reducible rfl))))
    (try simp only [Act.put, List.setIfInBounds_toArray, List.set_cons_zero, List.set_cons_succ])
    (refine wpAnyH_take (i := 1) (oi := ⟨some 38, _, _, _, _, none⟩) (v := ?_) rfl (by kernel_rfl) (by kernel_rfl) (by kernel_rfl) (fun _ _ _ h => h) (Or.inl ⟨by rfl, ?_⟩) hHeld ?_; rotate_left; (· (intro w9 hSw; (try dsimp only at hSw); go_simp; (try with_reducible rfl))))
    (try simp only [Act.put, List.setIfInBounds_toArray, List.set_cons_zero, List.set_cons_succ])
    (refine wpAnyH_take (i := 2) (oi := ⟨some 39, _, _, _, _, some (1, true)⟩) (v := ?_) rfl (by kernel_rfl) (by kernel_rfl) (by kernel_rfl) (fun _ _ _ h => h) (Or.inl ⟨by rfl, ?_⟩) hHeld ?_; rotate_left; (· (intro w9 hSw; (try dsimp only at hSw); go_simp; (try with_reducible rfl))))
    (try simp only [Act.put, List.setIfInBounds_toArray, List.set_cons_zero, List.set_cons_succ])
    (refine wpAnyH_take (i := 4) (oi := ⟨some 41, _, _, _, _, some (1, true)⟩) (v := ?_) rfl (by kernel_rfl) (by kernel_rfl) (by kernel_rfl) (fun _ _ _ h => h) (Or.inl ⟨by rfl, ?_⟩) hHeld ?_; rotate_left; (· (intro w9 hSw; (try dsimp only at hSw); go_simp; (try with_reducible rfl))))
    (try simp only [Act.put, List.setIfInBounds_toArray, List.set_cons_zero, List.set_cons_succ])
    refine wpAnyH_ready (rs := [3]) (by kernel_rfl) (by simp) ?_
    refine AllReadyH.cons (o := ⟨some 40, _, _, _, _, some (1, true)⟩) rfl (fun K hK => ?_) (AllReadyH.nil)
    go_simp
    (go_at_call 13; refine useF w (k7.out _ (by go_grown)) (by go_grown) ?_; rintro e wq1 rfl hBq1 hkq1 hfq1 hsq1)
    have hOld := hHeld; clear hHeld; refine hK.out _ _ ?_ (fun hHeld => ?_)
    · exact ⟨hkq1 _ _ _ (hOld.1), hkq1 _ _ _ (hOld.2.1), hkq1 _ _ _ (hOld.2.2.1), hkq1 _ _ _ (hOld.2.2.2.1), hkq1 _ _ _ (hOld.2.2.2.2.1), hkq1 _ _ _ (hOld.2.2.2.2.2.1), hkq1 _ _ _ (hOld.2.2.2.2.2.2.1), hkq1 _ _ _ (hOld.2.2.2.2.2.2.2.1), hkq1 _ _ _ (hOld.2.2.2.2.2.2.2.2.1), hkq1 _ _ _ (hOld.2.2.2.2.2.2.2.2.2.1), hkq1 _ _ _ (hOld.2.2.2.2.2.2.2.2.2.2.1), hkq1 _ _ _ (hOld.2.2.2.2.2.2.2.2.2.2.2.1), hkq1 _ _ _ (hOld.2.2.2.2.2.2.2.2.2.2.2.2.1), hkq1 _ _ _ (hOld.2.2.2.2.2.2.2.2.2.2.2.2.2.1), hkq1 _ _ _ (hOld.2.2.2.2.2.2.2.2.2.2.2.2.2.2.1), hkq1 _ _ _ (hOld.2.2.2.2.2.2.2.2.2.2.2.2.2.2.2.1), hkq1 _ _ _ (hOld.2.2.2.2.2.2.2.2.2.2.2.2.2.2.2.2.1), hkq1 _ _ _ (hOld.2.2.2.2.2.2.2.2.2.2.2.2.2.2.2.2.2.1), hkq1 _ _ _ (hOld.2.2.2.2.2.2.2.2.2.2.2.2.2.2.2.2.2.2.1), hkq1 _ _ _ (hOld.2.2.2.2.2.2.2.2.2.2.2.2.2.2.2.2.2.2.2.1), hkq1 _ _ _ (hOld.2.2.2.2.2.2.2.2.2.2.2.2.2.2.2.2.2.2.2.2.1), hkq1 _ _ _ (hOld.2.2.2.2.2.2.2.2.2.2.2.2.2.2.2.2.2.2.2.2.2.1), hkq1 _ _ _ (hOld.2.2.2.2.2.2.2.2.2.2.2.2.2.2.2.2.2.2.2.2.2.2.1), hkq1 _ _ _ (hOld.2.2.2.2.2.2.2.2.2.2.2.2.2.2.2.2.2.2.2.2.2.2.2.1), hkq1 _ _ _ (hOld.2.2.2.2.2.2.2.2.2.2.2.2.2.2.2.2.2.2.2.2.2.2.2.2.1), hkq1 _ _ _ (hOld.2.2.2.2.2.2.2.2.2.2.2.2.2.2.2.2.2.2.2.2.2.2.2.2.2.1), hkq1 _ _ _ (hOld.2.2.2.2.2.2.2.2.2.2.2.2.2.2.2.2.2.2.2.2.2.2.2.2.2.2.1), hkq1 _ _ _ (hOld.2.2.2.2.2.2.2.2.2.2.2.2.2.2.2.2.2.2.2.2.2.2.2.2.2.2.2.1), hkq1 _ _ _ (hOld.2.2.2.2.2.2.2.2.2.2.2.2.2.2.2.2.2.2.2.2.2.2.2.2.2.2.2.2.1), hkq1 _ _ _ (hOld.2.2.2.2.2.2.2.2.2.2.2.2.2.2.2.2.2.2.2.2.2.2.2.2.2.2.2.2.2.1), hkq1 _ _ _ (hOld.2.2.2.2.2.2.2.2.2.2.2.2.2.2.2.2.2.2.2.2.2.2.2.2.2.2.2.2.2.2.1), hkq1 _ _ _ (hOld.2.2.2.2.2.2.2.2.2.2.2.2.2.2.2.2.2.2.2.2.2.2.2.2.2.2.2.2.2.2.2.1), hkq1 _ _ _ (hOld.2.2.2.2.2.2.2.2.2.2.2.2.2.2.2.2.2.2.2.2.2.2.2.2.2.2.2.2.2.2.2.2.1), hkq1 _ _ _ (hOld.2.2.2.2.2.2.2.2.2.2.2.2.2.2.2.2.2.2.2.2.2.2.2.2.2.2.2.2.2.2.2.2.2.1), hkq1 _ _ _ (hOld.2.2.2.2.2.2.2.2.2.2.2.2.2.2.2.2.2.2.2.2.2.2.2.2.2.2.2.2.2.2.2.2.2.2.1), hkq1 _ _ _ (hOld.2.2.2.2.2.2.2.2.2.2.2.2.2.2.2.2.2.2.2.2.2.2.2.2.2.2.2.2.2.2.2.2.2.2.2.1), hkq1 _ _ _ (hOld.2.2.2.2.2.2.2.2.2.2.2.2.2.2.2.2.2.2.2.2.2.2.2.2.2.2.2.2.2.2.2.2.2.2.2.2.1), hkq1 _ _ _ (hOld.2.2.2.2.2.2.2.2.2.2.2.2.2.2.2.2.2.2.2.2.2.2.2.2.2.2.2.2.2.2.2.2.2.2.2.2.2.1), hkq1 _ _ _ (hOld.2.2.2.2.2.2.2.2.2.2.2.2.2.2.2.2.2.2.2.2.2.2.2.2.2.2.2.2.2.2.2.2.2.2.2.2.2.2.1), hkq1 _ _ _ (hOld.2.2.2.2.2.2.2.2.2.2.2.2.2.2.2.2.2.2.2.2.2.2.2.2.2.2.2.2.2.2.2.2.2.2.2.2.2.2.2.1), hkq1 _ _ _ (hOld.2.2.2.2.2.2.2.2.2.2.2.2.2.2.2.2.2.2.2.2.2.2.2.2.2.2.2.2.2.2.2.2.2.2.2.2.2.2.2.2.1), hkq1 _ _ _ (hOld.2.2.2.2.2.2.2.2.2.2.2.2.2.2.2.2.2.2.2.2.2.2.2.2.2.2.2.2.2.2.2.2.2.2.2.2.2.2.2.2.2.1), hkq1 _ _ _ (hOld.2.2.2.2.2.2.2.2.2.2.2.2.2.2.2.2.2.2.2.2.2.2.2.2.2.2.2.2.2.2.2.2.2.2.2.2.2.2.2.2.2.2.1), hkq1 _ _ _ (hOld.2.2.2.2.2.2.2.2.2.2.2.2.2.2.2.2.2.2.2.2.2.2.2.2.2.2.2.2.2.2.2.2.2.2.2.2.2.2.2.2.2.2.2)⟩
    clear hK K hOld
    clear hkq1 hfq1 hsq1
    have hzq1 : w.heap.size ≤ wq1.heap.size := hBq1.size
    (try simp only [Act.put, List.setIfInBounds_toArray, List.set_cons_zero, List.set_cons_succ])
    refine wpAnyH_ready (rs := [5]) (by kernel_rfl) (by simp) ?_
    refine AllReadyH.cons (o := ⟨some 42, _, _, _, _, some (1, true)⟩) rfl (fun K hK => ?_) (AllReadyH.nil)
    go_simp
    (go_at_call 14; refine useF w (k8.out _ (by go_grown)) (by go_grown) ?_; rintro e wq2 rfl hBq2 hkq2 hfq2 hsq2)
    have hOld := hHeld; clear hHeld; refine hK.out _ _ ?_ (fun hHeld => ?_)
    · exact ⟨hkq2 _ _ _ (hOld.1), hkq2 _ _ _ (hOld.2.1), hkq2 _ _ _ (hOld.2.2.1), hkq2 _ _ _ (hOld.2.2.2.1), hkq2 _ _ _ (hOld.2.2.2.2.1), hkq2 _ _ _ (hOld.2.2.2.2.2.1), hkq2 _ _ _ (hOld.2.2.2.2.2.2.1), hkq2 _ _ _ (hOld.2.2.2.2.2.2.2.1), hkq2 _ _ _ (hOld.2.2.2.2.2.2.2.2.1), hkq2 _ _ _ (hOld.2.2.2.2.2.2.2.2.2.1), hkq2 _ _ _ (hOld.2.2.2.2.2.2.2.2.2.2.1), hkq2 _ _ _ (hOld.2.2.2.2.2.2.2.2.2.2.2.1), hkq2 _ _ _ (hOld.2.2.2.2.2.2.2.2.2.2.2.2.1), hkq2 _ _ _ (hOld.2.2.2.2.2.2.2.2.2.2.2.2.2.1), hkq2 _ _ _ (hOld.2.2.2.2.2.2.2.2.2.2.2.2.2.2.1), hkq2 _ _ _ (hOld.2.2.2.2.2.2.2.2.2.2.2.2.2.2.2.1), hkq2 _ _ _ (hOld.2.2.2.2.2.2.2.2.2.2.2.2.2.2.2.2.1), hkq2 _ _ _ (hOld.2.2.2.2.2.2.2.2.2.2.2.2.2.2.2.2.2.1), hkq2 _ _ _ (hOld.2.2.2.2.2.2.2.2.2.2.2.2.2.2.2.2.2.2.1), hkq2 _ _ _ (hOld.2.2.2.2.2.2.2.2.2.2.2.2.2.2.2.2.2.2.2.1), hkq2 _ _ _ (hOld.2.2.2.2.2.2.2.2.2.2.2.2.2.2.2.2.2.2.2.2.1), hkq2 _ _ _ (hOld.2.2.2.2.2.2.2.2.2.2.2.2.2.2.2.2.2.2.2.2.2.1), hkq2 _ _ _ (hOld.2.2.2.2.2.2.2.2.2.2.2.2.2.2.2.2.2.2.2.2.2.2.1), hkq2 _ _ _ (hOld.2.2.2.2.2.2.2.2.2.2.2.2.2.2.2.2.2.2.2.2.2.2.2.1), hkq2 _ _ _ (hOld.2.2.2.2.2.2.2.2.2.2.2.2.2.2.2.2.2.2.2.2.2.2.2.2.1), hkq2 _ _ _ (hOld.2.2.2.2.2.2.2.2.2.2.2.2.2.2.2.2.2.2.2.2.2.2.2.2.2.1), hkq2 _ _ _ (hOld.2.2.2.2.2.2.2.2.2.2.2.2.2.2.2.2.2.2.2.2.2.2.2.2.2.2.1), hkq2 _ _ _ (hOld.2.2.2.2.2.2.2.2.2.2.2.2.2.2.2.2.2.2.2.2.2.2.2.2.2.2.2.1), hkq2 _ _ _ (hOld.2.2.2.2.2.2.2.2.2.2.2.2.2.2.2.2.2.2.2.2.2.2.2.2.2.2.2.2.1), hkq2 _ _ _ (hOld.2.2.2.2.2.2.2.2.2.2.2.2.2.2.2.2.2.2.2.2.2.2.2.2.2.2.2.2.2.1), hkq2 _ _ _ (hOld.2.2.2.2.2.2.2.2.2.2.2.2.2.2.2.2.2.2.2.2.2.2.2.2.2.2.2.2.2.2.1), hkq2 _ _ _ (hOld.2.2.2.2.2.2.2.2.2.2.2.2.2.2.2.2.2.2.2.2.2.2.2.2.2.2.2.2.2.2.2.1), hkq2 _ _ _ (hOld.2.2.2.2.2.2.2.2.2.2.2.2.2.2.2.2.2.2.2.2.2.2.2.2.2.2.2.2.2.2.2.2.1), hkq2 _ _ _ (hOld.2.2.2.2.2.2.2.2.2.2.2.2.2.2.2.2.2.2.2.2.2.2.2.2.2.2.2.2.2.2.2.2.2.1), hkq2 _ _ _ (hOld.2.2.2.2.2.2.2.2.2.2.2.2.2.2.2.2.2.2.2.2.2.2.2.2.2.2.2.2.2.2.2.2.2.2.1), hkq2 _ _ _ (hOld.2.2.2.2.2.2.2.2.2.2.2.2.2.2.2.2.2.2.2.2.2.2.2.2.2.2.2.2.2.2.2.2.2.2.2.1), hkq2 _ _ _ (hOld.2.2.2.2.2.2.2.2.2.2.2.2.2.2.2.2.2.2.2.2.2.2.2.2.2.2.2.2.2.2.2.2.2.2.2.2.1), hkq2 _ _ _ (hOld.2.2.2.2.2.2.2.2.2.2.2.2.2.2.2.2.2.2.2.2.2.2.2.2.2.2.2.2.2.2.2.2.2.2.2.2.2.1), hkq2 _ _ _ (hOld.2.2.2.2.2.2.2.2.2.2.2.2.2.2.2.2.2.2.2.2.2.2.2.2.2.2.2.2.2.2.2.2.2.2.2.2.2.2.1), hkq2 _ _ _ (hOld.2.2.2.2.2.2.2.2.2.2.2.2.2.2.2.2.2.2.2.2.2.2.2.2.2.2.2.2.2.2.2.2.2.2.2.2.2.2.2.1), hkq2 _ _ _ (hOld.2.2.2.2.2.2.2.2.2.2.2.2.2.2.2.2.2.2.2.2.2.2.2.2.2.2.2.2.2.2.2.2.2.2.2.2.2.2.2.2.1), hkq2 _ _ _ (hOld.2.2.2.2.2.2.2.2.2.2.2.2.2.2.2.2.2.2.2.2.2.2.2.2.2.2.2.2.2.2.2.2.2.2.2.2.2.2.2.2.2.1), hkq2 _ _ _ (hOld.2.2.2.2.2.2.2.2.2.2.2.2.2.2.2.2.2.2.2.2.2.2.2.2.2.2.2.2.2.2.2.2.2.2.2.2.2.2.2.2.2.2.1), hkq2 _ _ _ (hOld.2.2.2.2.2.2.2.2.2.2.2.2.2.2.2.2.2.2.2.2.2.2.2.2.2.2.2.2.2.2.2.2.2.2.2.2.2.2.2.2.2.2.2)⟩
    clear hK K hOld
    clear hkq2 hfq2 hsq2
    have hzq2 : w.heap.size ≤ wq2.heap.size := hBq2.size
    (try simp only [Act.put, List.setIfInBounds_toArray, List.set_cons_zero, List.set_cons_succ])
    (refine wpAnyH_take (i := 6) (oi := ⟨some 43, _, _, _, _, some (1, true)⟩) (v := ?_) rfl (by kernel_rfl) (by kernel_rfl) (by kernel_rfl) (fun _ _ _ h => h) (Or.inl ⟨by rfl, ?_⟩) hHeld ?_; rotate_left; (· (intro w9 hSw; (try dsimp only at hSw); go_simp; (try with_reducible rfl))))
    (try simp only [Act.put, List.setIfInBounds_toArray, List.set_cons_zero, List.set_cons_succ])
    (refine wpAnyH_take (i := 7) (oi := ⟨some 44, _, _, _, _, none⟩) (v := ?_) rfl (by kernel_rfl) (by kernel_rfl) (by kernel_rfl) (fun _ _ _ h => h) (Or.inl ⟨by rfl, ?_⟩) hHeld ?_; rotate_left; (· (intro w9 hSw; (try dsimp only at hSw); go_simp; (try with_reducible rfl))))
    (try simp only [Act.put, List.setIfInBounds_toArray, List.set_cons_zero, List.set_cons_succ])
    (refine wpAnyH_take (i := 8) (oi := ⟨some 45, _, _, _, _, none⟩) (v := ?_) rfl (by kernel_rfl) (by kernel_rfl) (by kernel_rfl) (fun _ _ _ h => h) (Or.inl ⟨by rfl, ?_⟩) hHeld ?_; rotate_left; (· (intro w9 hSw; (try dsimp only at hSw); go_simp; (try with_reducible rfl))))
    (try simp only [Act.put, List.setIfInBounds_toArray, List.set_cons_zero, List.set_cons_succ])
    (refine wpAnyH_take (i := 9) (oi := ⟨some 46, _, _, _, _, some (8, true)⟩) (v := ?_) rfl (by kernel_rfl) (by kernel_rfl) (by kernel_rfl) (fun _ _ _ h => h) (Or.inl ⟨by rfl, ?_⟩) hHeld ?_; rotate_left; (· (intro w9 hSw; (try dsimp only at hSw); go_simp; (try with_reducible rfl))))
    (try simp only [Act.put, List.setIfInBounds_toArray, List.set_cons_zero, List.set_cons_succ])
    (refine wpAnyH_take (i := 10) (oi := ⟨some 47, _, _, _, _, some (8, true)⟩) (v := ?_) rfl (by kernel_rfl) (by kernel_rfl) (by kernel_rfl) (fun _ _ _ h => h) (Or.inl ⟨by rfl, ?_⟩) hHeld ?_; rotate_left; (· (intro w9 hSw; (try dsimp only at hSw); go_simp; (try with_reducible rfl))))
    (try simp only [Act.put, List.setIfInBounds_toArray, List.set_cons_zero, List.set_cons_succ])
    (refine wpAnyH_take (i := 11) (oi := ⟨some 48, _, _, _, _, some (8, true)⟩) (v := ?_) rfl (by kernel_rfl) (by kernel_rfl) (by kernel_rfl) (fun _ _ _ h => h) (Or.inl ⟨by rfl, ?_⟩) hHeld ?_; rotate_left; (· (intro w9 hSw; (try dsimp only at hSw); go_simp; (try with_reducible rfl))))
    (try simp only [Act.put, List.setIfInBounds_toArray, List.set_cons_zero, List.set_cons_succ])
    (refine wpAnyH_take (i := 12) (oi := ⟨some 49, _, _, _, _, none⟩) (v := ?_) rfl (by kernel_rfl) (by kernel_rfl) (by kernel_rfl) (fun _ _ _ h => h) (Or.inl ⟨by rfl, ?_⟩) hHeld ?_; rotate_left; (· (intro w9 hSw; (try dsimp only at hSw); go_simp; (try with_reducible rfl))))
    (try simp only [Act.put, List.setIfInBounds_toArray, List.set_cons_zero, List.set_cons_succ])
    (refine wpAnyH_take (i := 13) (oi := ⟨some 50, _, _, _, _, none⟩) (v := ?_) rfl (by kernel_rfl) (by kernel_rfl) (by kernel_rfl) (fun _ _ _ h => h) (Or.inl ⟨by rfl, ?_⟩) hHeld ?_; rotate_left; (· (intro w9 hSw; (try dsimp only at hSw); go_simp; (try with_reducible rfl))))
    (try simp only [Act.put, List.setIfInBounds_toArray, List.set_cons_zero, List.set_cons_succ])
    (refine wpAnyH_take (i := 14) (oi := ⟨some 51, _, _, _, _, some (13, true)⟩) (v := ?_) rfl (by kernel_rfl) (by kernel_rfl) (by kernel_rfl) (fun _ _ _ h => h) (Or.inl ⟨by rfl, ?_⟩) hHeld ?_; rotate_left; (· (intro w9 hSw; (try dsimp only at hSw); go_simp; (try with_reducible rfl))))
    (try simp only [Act.put, List.setIfInBounds_toArray, List.set_cons_zero, List.set_cons_succ])
    (refine wpAnyH_take (i := 15) (oi := ⟨some 52, _, _, _, _, some (13, true)⟩) (v := ?_) rfl (by kernel_rfl) (by kernel_rfl) (by kernel_rfl) (fun _ _ _ h => h) (Or.inl ⟨by rfl, ?_⟩) hHeld ?_; rotate_left; (· (intro w9 hSw; (try dsimp only at hSw); go_simp; (try with_reducible rfl))))
    (try simp only [Act.put, List.setIfInBounds_toArray, List.set_cons_zero, List.set_cons_succ])
    (refine wpAnyH_take (i := 16) (oi := ⟨some 53, _, _, _, _, some (13, true)⟩) (v := ?_) rfl (by kernel_rfl) (by kernel_rfl) (by kernel_rfl) (fun _ _ _ h => h) (Or.inl ⟨by rfl, ?_⟩) hHeld ?_; rotate_left; (· (intro w9 hSw; (try dsimp only at hSw); go_simp; (try with_reducible rfl))))
    (try simp only [Act.put, List.setIfInBounds_toArray, List.set_cons_zero, List.set_cons_succ])
    (refine wpAnyH_take (i := 17) (oi := ⟨some 54, _, _, _, _, none⟩) (v := ?_) rfl (by kernel_rfl) (by kernel_rfl) (by kernel_rfl) (fun _ _ _ h => h) (Or.inl ⟨by rfl, ?_⟩) hHeld ?_; rotate_left; (· (intro w9 hSw; (try dsimp only at hSw); go_simp; (try with_reducible rfl))))
    (try simp only [Act.put, List.setIfInBounds_toArray, List.set_cons_zero, List.set_cons_succ])
    (refine wpAnyH_take (i := 18) (oi := ⟨some 6, _, _, _, _, none⟩) (v := ?_) rfl (by kernel_rfl) (by kernel_rfl) (by kernel_rfl) (fun _ _ _ h => h) (Or.inl ⟨by rfl, ?_⟩) hHeld ?_; rotate_left; (· (intro w9 hSw; (try dsimp only at hSw); go_simp; (try with_reducible rfl))))
    (try simp only [Act.put, List.setIfInBounds_toArray, List.set_cons_zero, List.set_cons_succ])
    refine wpAnyH_done (by kernel_rfl) ?_ _
    go_wp2_with fail
    go_ret
    exact ⟨rfl, by go_grown⟩
end Go.Proofs.Ytepcifijhnelcaa
