/- An array of four numbers of 64 bits, opened. -/
import Derived.Test.YtjleflfncijnpaaDoorRowKitD
set_option linter.unusedVariables false
namespace Go.Proofs.YtjleflfncijnpaaDoor
open Go.ChangeShapes Go.WideShapes Go.ChangeAt Go.RowKit Go.Joins
theorem array4 {a : Array Value} (h : a.size = 4) : ∃ x0 x1 x2 x3, a = #[x0, x1, x2, x3] := by
  obtain ⟨l⟩ := a
  match l, h with
  | [x0, x1, x2, x3], _ => exact ⟨x0, x1, x2, x3, rfl⟩
set_option maxRecDepth 100000 in
theorem open_u4 {H : Type} {enc : TypeId × Value → H} {w : World} {base b0 : Nat} {spare : Nat → Bool} {held : Bool} {r : Reach} {v : Value} {d : DataW H} {p : List MemPlace}
    (hv : Value.okWide Tryd.prog w r b0 65 v) (h : DataW.Trod enc Tryd.prog w base spare held 65 v d p) :
    ∃ m n o q : Int, v = .agg #[.int .u64 m, .int .u64 n, .int .u64 o, .int .u64 q] ∧ (0 ≤ m ∧ m ≤ 18446744073709551615) ∧ (0 ≤ n ∧ n ≤ 18446744073709551615) ∧ (0 ≤ o ∧ o ≤ 18446744073709551615) ∧ (0 ≤ q ∧ q ≤ 18446744073709551615) := by
  simp only [Value.okWide, Tryd.underlying65] at hv
  obtain ⟨cs, rfl, h2, _⟩ := hv
  have c1 : Tryd.prog.cellsOf 65 = 4 := by kernel_rfl
  have c2 : Tryd.prog.cellsOf 50 = 1 := by kernel_rfl
  obtain ⟨x0, x1, x2, x3, rfl⟩ := array4 (h2.trans c1)
  obtain ⟨fuel, hf⟩ := h
  obtain ⟨xs, m, _, hx, _, hl, hel⟩ := DataW.trod_array Tryd.underlying65 hf
  have h0 := hel 0 (by decide)
  have h1 := hel 1 (by decide)
  have h2 := hel 2 (by decide)
  have h3 := hel 3 (by decide)
  rw [c2] at h0 h1 h2 h3
  match xs, hl, h0, h1, h2, h3 with
  | [y0, y1, y2, y3], _, h0, h1, h2, h3 =>
    obtain ⟨a, e0, _, wa⟩ := DataW.trod_int Tryd.underlying50 (show DataW.trod enc Tryd.prog w base spare held m 50 [x0] = some y0 from h0)
    obtain ⟨b, e1, _, wb⟩ := DataW.trod_int Tryd.underlying50 (show DataW.trod enc Tryd.prog w base spare held m 50 [x1] = some y1 from h1)
    obtain ⟨c, e2, _, wc⟩ := DataW.trod_int Tryd.underlying50 (show DataW.trod enc Tryd.prog w base spare held m 50 [x2] = some y2 from h2)
    obtain ⟨d, e3, _, wd⟩ := DataW.trod_int Tryd.underlying50 (show DataW.trod enc Tryd.prog w base spare held m 50 [x3] = some y3 from h3)
    simp at e0 e1 e2 e3
    subst e0 e1 e2 e3
    exact ⟨a, b, c, d, rfl, bounds_u64 wa, bounds_u64 wb, bounds_u64 wc, bounds_u64 wd⟩
end Go.Proofs.YtjleflfncijnpaaDoor
