/- Three stores into one block: what its cells hold. -/
import Derived.Test.YtjleflfncijnpaaBase
import Derived.Test.YtjleflfncijnpaaTwo
import Derived.Test.YtjleflfncijnpaaTabM
import Derived.Deep.RegionHeld3
set_option linter.unusedVariables false
set_option linter.unusedSimpArgs false
namespace Go.Proofs.Ytjleflfncijnpaa
open Go Go.RowKit
theorem three_other {w : World} {b c o : Nat} {x y z v : Value} (h : w.cell? ⟨c, o, none⟩ = some v) (hne : b ≠ c) : (((w.setCell ⟨b, 0, none⟩ x).setCell ⟨b, 1, none⟩ y).setCell ⟨b, 2, none⟩ z).cell? ⟨c, o, none⟩ = some v := by
  rw [World.cell?_setCell_far _ _ _ _ hne, World.cell?_setCell_far _ _ _ _ hne, World.cell?_setCell_far _ _ _ _ hne]; exact h
theorem three_0 {w : World} {b : Nat} {x y z v : Value} (h : w.cell? ⟨b, 0, none⟩ = some v) : (((w.setCell ⟨b, 0, none⟩ x).setCell ⟨b, 1, none⟩ y).setCell ⟨b, 2, none⟩ z).cell? ⟨b, 0, none⟩ = some x := by
  rw [World.cell?_setCell_other _ _ _ _ (by simp), World.cell?_setCell_other _ _ _ _ (by simp)]; exact World.cell?_setCell_same _ _ _ h
theorem three_1 {w : World} {b : Nat} {x y z v : Value} (h : w.cell? ⟨b, 1, none⟩ = some v) : (((w.setCell ⟨b, 0, none⟩ x).setCell ⟨b, 1, none⟩ y).setCell ⟨b, 2, none⟩ z).cell? ⟨b, 1, none⟩ = some y := by
  rw [World.cell?_setCell_other _ _ _ _ (by simp)]
  exact World.cell?_setCell_same _ _ _ (u := v) (by rw [World.cell?_setCell_other _ _ _ _ (by simp)]; exact h)
theorem three_2 {w : World} {b : Nat} {x y z v : Value} (h : w.cell? ⟨b, 2, none⟩ = some v) : (((w.setCell ⟨b, 0, none⟩ x).setCell ⟨b, 1, none⟩ y).setCell ⟨b, 2, none⟩ z).cell? ⟨b, 2, none⟩ = some z :=
  World.cell?_setCell_same _ _ _ (u := v) (by rw [World.cell?_setCell_other _ _ _ _ (by simp), World.cell?_setCell_other _ _ _ _ (by simp)]; exact h)
theorem three_fz {w : World} {b : Nat} {x y z : Value} {a : Addr} (h : w.frozen? a = false) : (((w.setCell ⟨b, 0, none⟩ x).setCell ⟨b, 1, none⟩ y).setCell ⟨b, 2, none⟩ z).frozen? a = false := by
  rw [World.frozen?_setCell, World.frozen?_setCell, World.frozen?_setCell]; exact h
theorem Tab.two {B o b : Nat} {l : List (Int × Int × Int)} {w : World} {x y : Value} (h : Tab B o l w) (hne : b ≠ B) : Tab B o l ((w.setCell ⟨b, 0, none⟩ x).setCell ⟨b, 1, none⟩ y) :=
  fun i p hp => let ⟨h0, h1, h2⟩ := h i p hp; ⟨two_other h0 hne, two_other h1 hne, two_other h2 hne⟩
theorem Tab.three {B o b : Nat} {l : List (Int × Int × Int)} {w : World} {x y z : Value} (h : Tab B o l w) (hne : b ≠ B) : Tab B o l (((w.setCell ⟨b, 0, none⟩ x).setCell ⟨b, 1, none⟩ y).setCell ⟨b, 2, none⟩ z) :=
  fun i p hp => let ⟨h0, h1, h2⟩ := h i p hp; ⟨three_other h0 hne, three_other h1 hne, three_other h2 hne⟩
end Go.Proofs.Ytjleflfncijnpaa
