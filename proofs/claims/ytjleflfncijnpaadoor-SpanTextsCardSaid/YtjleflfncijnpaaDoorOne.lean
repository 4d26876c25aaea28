/- One store into a block: what its cells hold. -/
import Derived.Test.YtjleflfncijnpaaDoorBase
import Derived.Deep.RegionHeld3
set_option linter.unusedVariables false
set_option linter.unusedSimpArgs false
namespace Go.Proofs.YtjleflfncijnpaaDoor
open Go Go.RowKit
theorem one_other {w : World} {b c p o : Nat} {x v : Value} (h : w.cell? ⟨c, o, none⟩ = some v) (hne : b ≠ c) : (w.setCell ⟨b, p, none⟩ x).cell? ⟨c, o, none⟩ = some v := by
  rw [World.cell?_setCell_far _ _ _ _ hne]; exact h
theorem one_off {w : World} {b p o : Nat} {x v : Value} (h : w.cell? ⟨b, o, none⟩ = some v) (hne : p ≠ o) : (w.setCell ⟨b, p, none⟩ x).cell? ⟨b, o, none⟩ = some v := by
  rw [World.cell?_setCell_other _ _ _ _ (by simp [hne])]; exact h
theorem one_same {w : World} {b o : Nat} {x v : Value} (h : w.cell? ⟨b, o, none⟩ = some v) : (w.setCell ⟨b, o, none⟩ x).cell? ⟨b, o, none⟩ = some x :=
  World.cell?_setCell_same _ _ _ h
theorem one_fz {w : World} {b o : Nat} {x : Value} {a : Addr} (h : w.frozen? a = false) : (w.setCell ⟨b, o, none⟩ x).frozen? a = false := by
  rw [World.frozen?_setCell]; exact h
end Go.Proofs.YtjleflfncijnpaaDoor
