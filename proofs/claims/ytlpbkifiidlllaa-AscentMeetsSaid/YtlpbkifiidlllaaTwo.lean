/- Two stores into one block: what its cells hold. -/
import Derived.Test.YtlpbkifiidlllaaBase
import Derived.Deep.RegionHeld3
set_option linter.unusedVariables false
namespace Go.Proofs.Ytlpbkifiidlllaa
open Go Go.RowKit
theorem ex_elim {T : Type} {p : T → Prop} {G : Prop} (h : ∃ u, p u) (k : ∀ u, p u → G) : G := h.elim k
theorem two_other {w : World} {b c o : Nat} {x y v : Value} (h : w.cell? ⟨c, o, none⟩ = some v) (hne : b ≠ c) : ((w.setCell ⟨b, 0, none⟩ x).setCell ⟨b, 1, none⟩ y).cell? ⟨c, o, none⟩ = some v := by
  rw [World.cell?_setCell_far _ _ _ _ hne, World.cell?_setCell_far _ _ _ _ hne]; exact h
theorem two_0 {w : World} {b : Nat} {x y v : Value} (h : w.cell? ⟨b, 0, none⟩ = some v) : ((w.setCell ⟨b, 0, none⟩ x).setCell ⟨b, 1, none⟩ y).cell? ⟨b, 0, none⟩ = some x := by
  rw [World.cell?_setCell_other _ _ _ _ (by simp)]; exact World.cell?_setCell_same _ _ _ h
theorem two_1 {w : World} {b : Nat} {x y v : Value} (h : w.cell? ⟨b, 1, none⟩ = some v) : ((w.setCell ⟨b, 0, none⟩ x).setCell ⟨b, 1, none⟩ y).cell? ⟨b, 1, none⟩ = some y :=
  World.cell?_setCell_same _ _ _ (u := v) (by rw [World.cell?_setCell_other _ _ _ _ (by simp)]; exact h)
theorem two_fz {w : World} {b : Nat} {x y : Value} {a : Addr} (h : w.frozen? a = false) : ((w.setCell ⟨b, 0, none⟩ x).setCell ⟨b, 1, none⟩ y).frozen? a = false := by
  rw [World.frozen?_setCell, World.frozen?_setCell]; exact h
end Go.Proofs.Ytlpbkifiidlllaa
