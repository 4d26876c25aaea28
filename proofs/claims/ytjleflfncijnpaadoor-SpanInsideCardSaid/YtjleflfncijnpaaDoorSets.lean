/- Grow, Wide, of both packages; Mid and Split of package span. -/
import Derived.Test.YtjleflfncijnpaaDoorRows
import Derived.Test.YtjleflfncijnpaaDoorBase
import Derived.Test.YtjleflfncijnpaaDoorFacts
import Derived.Test.YtjleflfncijnpaaDoorTwo
import Derived.Deep.RegionHeld3
import Derived.Deep.RegionWith
import Derived.Deep.QuietTactic
import Derived.BigQuiet
import Derived.Test.YtjleflfncijnpaaDoorW
import Derived.Test.YtjleflfncijnpaaDoorAsks
import Derived.Test.YtjleflfncijnpaaDoorOut
import Derived.Test.YtjleflfncijnpaaDoorSums
import Derived.Test.YtjleflfncijnpaaDoorSeq
import Derived.Test.YtjleflfncijnpaaDoorTwo
set_option linter.unusedVariables false
set_option linter.unusedSimpArgs false
set_option maxHeartbeats 4000000
set_option maxRecDepth 100000
namespace Go.Proofs.YtjleflfncijnpaaDoor
open Go Go.RowKit
def growS (lo hi n : Int) : Int × Int × Int := if chk lo hi = 0 ∧ 0 ≤ n then fitS (lo - n) (hi + n) else (0, 0, 2)
def wideN (lo hi : Int) : Int × Int := if chk lo hi = 0 then (if hi - lo ≤ 9223372036854775807 then (hi - lo, 0) else (0, 4)) else (0, 2)
def midN (lo hi : Int) : Int × Int := if chk lo hi = 0 then ((lo + hi) / 2, 0) else (0, 2)
def splitS (lo hi : Int) : Int × Int × Int × Int × Int := if chk lo hi = 0 then (lo, (lo + hi) / 2, (lo + hi) / 2, hi, 0) else (0, 0, 0, 0, 2)
theorem ret_rr {a b c d e : Int} {p : Int × Int × Int × Int × Int} (h : (a, b, c, d, e) = p) : Ending.returned (.tuple #[.agg #[.int .i64 a, .int .i64 b], .agg #[.int .i64 c, .int .i64 d], .int .i64 e]) = .returned (.tuple #[.agg #[.int .i64 p.1, .int .i64 p.2.1], .agg #[.int .i64 p.2.2.1, .int .i64 p.2.2.2.1], .int .i64 p.2.2.2.2]) := by subst h; rfl
end Go.Proofs.YtjleflfncijnpaaDoor
