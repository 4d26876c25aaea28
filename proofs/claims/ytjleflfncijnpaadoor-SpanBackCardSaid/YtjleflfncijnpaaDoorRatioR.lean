/- Ratio, of the document's answer. -/
import Derived.Test.YtjleflfncijnpaaDoorRows
import Derived.Test.YtjleflfncijnpaaDoorBase
import Derived.Test.YtjleflfncijnpaaDoorFacts
import Derived.Test.YtjleflfncijnpaaDoorTwo
import Derived.Deep.RegionHeld3
import Derived.Deep.RegionWith
import Derived.Deep.QuietTactic
import Derived.BigQuiet
import Derived.Test.YtjleflfncijnpaaDoorW
import Derived.Test.YtjleflfncijnpaaDoorAsks
import Derived.Test.YtjleflfncijnpaaDoorOut
import Derived.Test.YtjleflfncijnpaaDoorSeq
import Derived.Test.YtjleflfncijnpaaDoorTwo
import Derived.Test.YtjleflfncijnpaaDoorQuo
import Derived.Test.YtjleflfncijnpaaDoorMakes
set_option linter.unusedVariables false
set_option linter.unusedSimpArgs false
set_option maxHeartbeats 4000000
set_option maxRecDepth 100000
namespace Go.Proofs.YtjleflfncijnpaaDoor
open Go Go.RowKit
theorem ediv_ab (p k : Int) (hk : 0 < k) : -ab p ≤ p / k ∧ p / k ≤ ab p := by
  have h0 : 0 ≤ ab p := by unfold ab; split <;> omega
  have h1 : ab p ≤ ab p * k := by
    have := Int.mul_le_mul_of_nonneg_left (show (1 : Int) ≤ k by omega) h0
    rw [Int.mul_one] at this; exact this
  have h2 : p ≤ ab p ∧ -ab p ≤ p := by unfold ab; split <;> omega
  refine ⟨Int.le_ediv_of_mul_le hk (by rw [Int.neg_mul]; omega), Int.ediv_le_of_le_mul hk (by omega)⟩
theorem dn_ab (p d : Int) (hd : d ≠ 0) : (-ab p ≤ dnQ p d ∧ dnQ p d ≤ ab p) ∧ -ab p ≤ upQ p d ∧ upQ p d ≤ ab p := by
  have e : ab (-p) = ab p := by unfold ab; split <;> split <;> omega
  unfold upQ dnQ
  by_cases c : d < 0
  · simp only [if_pos c]
    have h1 := ediv_ab (-p) (-d) (by omega)
    have h2 := ediv_ab (- -p) (-d) (by omega)
    rw [Int.neg_neg] at *
    rw [e] at h1
    omega
  · simp only [if_neg c]
    have h1 := ediv_ab p d (by omega)
    have h2 := ediv_ab (-p) d (by omega)
    rw [e] at h2
    omega
end Go.Proofs.YtjleflfncijnpaaDoor
