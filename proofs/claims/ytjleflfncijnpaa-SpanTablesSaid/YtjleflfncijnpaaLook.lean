/- The lines of a table, of package span. -/
import Derived.Deep.DeepCutAuto
import Derived.Deep.CutBlock
import Derived.Test.YtjleflfncijnpaaRows
import Derived.Test.YtjleflfncijnpaaBase
import Derived.Test.YtjleflfncijnpaaFacts
import Derived.Test.YtjleflfncijnpaaTwo
import Derived.Deep.RegionHeld3
import Derived.Deep.RegionWith
import Derived.Deep.QuietTactic
import Derived.BigQuiet
import Derived.Test.YtjleflfncijnpaaW
import Derived.Test.YtjleflfncijnpaaAsks
import Derived.Test.YtjleflfncijnpaaOut
import Derived.Test.YtjleflfncijnpaaSeq
import Derived.Test.YtjleflfncijnpaaTwo
import Derived.Test.YtjleflfncijnpaaQuo
import Derived.Test.YtjleflfncijnpaaRound
import Derived.Test.YtjleflfncijnpaaScaleM
import Derived.Test.YtjleflfncijnpaaTurnM
import Derived.Test.YtjleflfncijnpaaTabM
import Derived.Test.YtjleflfncijnpaaRatioR
import Derived.Test.YtjleflfncijnpaaLookM
set_option linter.unusedVariables false
set_option linter.unusedSimpArgs false
set_option maxHeartbeats 4000000
set_option maxRecDepth 100000
namespace Go.Proofs.Ytjleflfncijnpaa
open Go Go.RowKit
theorem along_go (f t n a d R1 R2 : Int) (Ba Bb Bc : Nat) (w : World) (hc : w.cell? ⟨Ba, 0, none⟩ = some (.int .i64 n) ∧ w.cell? ⟨Bb, 0, none⟩ = some (.int .i64 a) ∧ w.cell? ⟨Bc, 0, none⟩ = some (.int .i64 d))
    (h1 : wrap64 (t - f) = t - f) (h2 : wrap64 (n - a) = n - a) (h3 : wrap64 (d - a) = d - a)
    (hr : Hid (∀ w : World, Calls Try.prog 90 #[.int .i64 (t - f), .int .i64 (n - a), .int .i64 (d - a)] w fun e w' => e = .returned (.tuple #[.int .i64 R1, .int .i64 R2, .bool true]) ∧ Below w.heap.size w w')) :
    Calls Try.prog 125 #[.int .i64 f, .int .i64 t, .pointer (some ⟨Ba, 0, none⟩), .pointer (some ⟨Bb, 0, none⟩), .pointer (some ⟨Bc, 0, none⟩)] w fun e w' => e = .returned (.tuple #[.int .i64 (wrap64 (f + R1)), .int .i64 (wrap64 (f + R2))]) ∧ Below w.heap.size w w' := by
  obtain ⟨c0, c1, c2⟩ := hc
  go_enter Try.func125, Try.ntmps125
  go_wp2_with fail
  refine useF w (hr.out _) (by go_grown) ?_; rintro e w1 rfl hB1 hk1 hf1 hs1
  go_wp2_with fail
  go_ret2
  exact ⟨rfl, by go_grown⟩
theorem along_any (f t n a d : Int) (Ba Bb Bc : Nat) (w : World) (hc : w.cell? ⟨Ba, 0, none⟩ = some (.int .i64 n) ∧ w.cell? ⟨Bb, 0, none⟩ = some (.int .i64 a) ∧ w.cell? ⟨Bc, 0, none⟩ = some (.int .i64 d))
    (hf : -2305843009213693952 ≤ f ∧ f ≤ 2305843009213693952) (ht : -2305843009213693952 ≤ t ∧ t ≤ 2305843009213693952) (ha : -2305843009213693952 ≤ a ∧ a ≤ n ∧ n < d ∧ d ≤ 2305843009213693952) :
    Calls Try.prog 125 #[.int .i64 f, .int .i64 t, .pointer (some ⟨Ba, 0, none⟩), .pointer (some ⟨Bb, 0, none⟩), .pointer (some ⟨Bc, 0, none⟩)] w fun e w' => e = .returned (.tuple #[.int .i64 (lowL f t n a d), .int .i64 (highL f t n a d)]) ∧ Below w.heap.size w w' := by
  obtain ⟨p1, p2, p3, p4, p5, p6⟩ := part_bd hf ht ⟨ha.2.1, ha.2.2.1⟩
  have hd : 0 < d - a := by omega
  have e1 : dnQ ((t - f) * (n - a)) (d - a) = (t - f) * (n - a) / (d - a) := by unfold dnQ; rw [if_neg (by omega)]
  have e2 : upQ ((t - f) * (n - a)) (d - a) = cdQ ((t - f) * (n - a)) (d - a) := by unfold upQ dnQ cdQ; rw [if_neg (by omega)]
  have e3 : ftQ ((t - f) * (n - a)) (d - a) = true := by unfold ftQ; rw [e1, e2]; exact decide_eq_true (by omega)
  have hr := fun W => round_any (t - f) (n - a) (d - a) W (by omega) (by omega)
  rw [e3, (rd_of e3).1, (rd_of e3).2, e1, e2] at hr
  have k := along_go f t n a d _ _ Ba Bb Bc w hc (by simp only [wrap64]; omega) (by simp only [wrap64]; omega) (by simp only [wrap64]; omega) hr
  rw [show wrap64 (f + (t - f) * (n - a) / (d - a)) = lowL f t n a d by unfold lowL at *; simp only [wrap64]; omega, show wrap64 (f + cdQ ((t - f) * (n - a)) (d - a)) = highL f t n a d by unfold highL at *; simp only [wrap64]; omega] at k
  exact k
end Go.Proofs.Ytjleflfncijnpaa
