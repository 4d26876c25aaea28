/- What every tied row of this seat wants: what the listed variables read as, met where the door's own run leaves. -/
import Derived.Test.YtjleflfncijnpaaDoorRowKit
import Derived.Test.YtjleflfncijnpaaDoorCards
import Derived.Test.YtjleflfncijnpaaDoorTie
import Derived.SevenTiedAt
import Derived.LaidMore
import Derived.OpenShut
import Derived.Stop.Joined
set_option linter.unusedVariables false
namespace Go.Proofs.YtjleflfncijnpaaDoor
open Go.ChangeShapes Go.WideShapes Go.ChangeAt Go.RowKit Go.Joins
def laid3 : List (String × DataW Unit) := [("math/bits.deBruijn32tab", Rows.laid_math_bits_deBruijn32tab), ("math/bits.deBruijn64tab", Rows.laid_math_bits_deBruijn64tab), ("internal/strconv.uint64pow10", Rows.laid_internal_strconv_uint64pow10)]
theorem door_met (os : Os) (args : Array Value) : laidMetH Tryd.prog laid3 ((World.doorLaid Tryd.prog 2000 os).forCall (fun _ _ => 0) ⟨#[], args, []⟩).memory :=
  laidMetH_of_parts3 (fuel := 8) (laidMet_of_run' 8 (by kernel_rfl) (by kernel_rfl)) (by kernel_rfl) (by kernel_rfl)
set_option maxRecDepth 100000 in
theorem open_u2 {H : Type} {enc : TypeId × Value → H} {w : World} {base b0 : Nat} {spare : Nat → Bool} {held : Bool} {r : Reach} {v : Value} {d : DataW H} {p : List MemPlace}
    (hv : Value.okWide Tryd.prog w r b0 51 v) (h : DataW.Trod enc Tryd.prog w base spare held 51 v d p) :
    ∃ m n : Int, v = .agg #[.int .u64 m, .int .u64 n] ∧ (0 ≤ m ∧ m ≤ 18446744073709551615) ∧ (0 ≤ n ∧ n ≤ 18446744073709551615) := by
  simp only [Value.okWide, Tryd.underlying51] at hv
  obtain ⟨cs, rfl, h2, _⟩ := hv
  have c1 : Tryd.prog.cellsOf 51 = 2 := by kernel_rfl
  have c2 : Tryd.prog.cellsOf 50 = 1 := by kernel_rfl
  obtain ⟨x0, x1, rfl⟩ := array2 (h2.trans c1)
  obtain ⟨fuel, hf⟩ := h
  obtain ⟨xs, m, _, hx, _, hl, hel⟩ := DataW.trod_array Tryd.underlying51 hf
  have h0 := hel 0 (by decide)
  have h1 := hel 1 (by decide)
  rw [c2] at h0 h1
  match xs, hl, h0, h1 with
  | [y0, y1], _, h0, h1 =>
    obtain ⟨a, e0, _, wa⟩ := DataW.trod_int Tryd.underlying50 (show DataW.trod enc Tryd.prog w base spare held m 50 [x0] = some y0 from h0)
    obtain ⟨b, e1, _, wb⟩ := DataW.trod_int Tryd.underlying50 (show DataW.trod enc Tryd.prog w base spare held m 50 [x1] = some y1 from h1)
    simp at e0 e1
    subst e0 e1
    exact ⟨a, b, rfl, bounds_u64 wa, bounds_u64 wb⟩
end Go.Proofs.YtjleflfncijnpaaDoor
