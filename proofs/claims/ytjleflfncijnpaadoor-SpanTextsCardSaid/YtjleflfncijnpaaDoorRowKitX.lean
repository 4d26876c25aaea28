/- The table of powers of ten, out of the row's condition. -/
import Derived.Lib.LaidTab
import Derived.LaidSub
import Derived.Test.YtjleflfncijnpaaDoorRowKitD
import Derived.Test.YtjleflfncijnpaaDoorText
set_option linter.unusedVariables false
namespace Go.Proofs.YtjleflfncijnpaaDoor
open Go Go.ChangeShapes Go.WideShapes Go.ChangeAt Go.RowKit Go.Joins
theorem tab10_of {W : World} (h : laidMetH Tryd.prog laid3 W) : Tab10 W := by
  have h1 := (laidMetH_iff.1 h).1
  have h2 := h1.filter fun x => x.1 == "internal/strconv.uint64pow10"
  have e : ((laid3.filter fun x => x.2.handleName?.isNone).filter fun x => x.1 == "internal/strconv.uint64pow10") = [("internal/strconv.uint64pow10", Lib.tabData .u64 Lib.pow10Tab)] := by kernel_rfl
  rw [e] at h2
  obtain ⟨g, hg⟩ := Option.isSome_iff_exists.1 (show (Tryd.prog.globalNamed "internal/strconv.uint64pow10").isSome = true by kernel_rfl)
  have hb : (Tryd.prog.globalNamed "internal/strconv.uint64pow10").bind (fun g => (Tryd.prog.globals[g]?).map (·.type)) = some 157 := by kernel_rfl
  rw [hg] at hb
  exact Lib.tabIs_of_head (t := 157) (e := 50) (n := 20) hg hb Tryd.underlying157 Tryd.underlying50 (by kernel_rfl) (by kernel_rfl) h2
end Go.Proofs.YtjleflfncijnpaaDoor
