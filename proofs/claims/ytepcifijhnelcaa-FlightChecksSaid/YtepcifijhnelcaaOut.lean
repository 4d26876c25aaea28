/- A span of two integers, if it fits; sums, differences, negatives of spans. -/
import Derived.Test.YtepcifijhnelcaaRows
import Derived.Test.YtepcifijhnelcaaBase
import Derived.Test.YtepcifijhnelcaaFacts
import Derived.Test.YtepcifijhnelcaaTwo
import Derived.Deep.RegionHeld3
import Derived.Deep.RegionWith
import Derived.Deep.QuietTactic
import Derived.BigQuiet
import Derived.Test.YtepcifijhnelcaaW
import Derived.Test.YtepcifijhnelcaaAsks
set_option linter.unusedVariables false
set_option linter.unusedSimpArgs false
set_option maxHeartbeats 4000000
set_option maxRecDepth 100000
namespace Go.Proofs.Ytepcifijhnelcaa
open Go Go.RowKit
theorem fitS_bad {lo hi : Int} (h : lo < -9223372036854775807 ∨ 9223372036854775807 < lo ∨ hi < -9223372036854775807 ∨ 9223372036854775807 < hi) : fitS lo hi = (0, 0, 4) := by
  unfold fitS; rw [if_neg (by omega)]
theorem fitS_good {lo hi : Int} (h : (-9223372036854775807 ≤ lo ∧ lo ≤ 9223372036854775807) ∧ (-9223372036854775807 ≤ hi ∧ hi ≤ 9223372036854775807)) : fitS lo hi = (lo, hi, 0) := by
  unfold fitS; rw [if_pos (by omega)]
end Go.Proofs.Ytepcifijhnelcaa
