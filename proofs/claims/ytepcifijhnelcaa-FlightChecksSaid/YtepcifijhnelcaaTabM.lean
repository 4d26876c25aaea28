/- Tables of points, as lists of triples in a row of cells. -/
import Derived.Test.YtepcifijhnelcaaBase
import Derived.Test.YtepcifijhnelcaaSeq
import Derived.Test.YtepcifijhnelcaaTwo
set_option linter.unusedVariables false
set_option linter.unusedSimpArgs false
namespace Go.Proofs.Ytepcifijhnelcaa
open Go Go.RowKit
/-- The cells of a table: of each point its place and both bounds of its value. -/
def Tab (B o : Nat) (l : List (Int × Int × Int)) (w : World) : Prop := ∀ (i : Nat) (p : Int × Int × Int), l[i]? = some p →
  w.cell? ⟨B, o + i * 3, none⟩ = some (.int .i64 p.1) ∧ w.cell? ⟨B, o + i * 3 + 1, none⟩ = some (.int .i64 p.2.1) ∧ w.cell? ⟨B, o + i * 3 + 2, none⟩ = some (.int .i64 p.2.2)
theorem Tab.keep {B o : Nat} {l : List (Int × Int × Int)} {w w1 : World} (h : Tab B o l w) (hk : ∀ b o v, w.cell? ⟨b, o, none⟩ = some v → w1.cell? ⟨b, o, none⟩ = some v) : Tab B o l w1 :=
  fun i p hp => let ⟨h0, h1, h2⟩ := h i p hp; ⟨hk _ _ _ h0, hk _ _ _ h1, hk _ _ _ h2⟩
theorem Tab.alloc {B o : Nat} {l : List (Int × Int × Int)} {w : World} (x : Obj) (h : Tab B o l w) : Tab B o l (w.alloc x) :=
  fun i p hp => let ⟨h0, h1, h2⟩ := h i p hp; ⟨keepA _ h0, keepA _ h1, keepA _ h2⟩
theorem Tab.drew {B o : Nat} {l : List (Int × Int × Int)} {w : World} (h : Tab B o l w) : Tab B o l w.drew :=
  fun i p hp => let ⟨h0, h1, h2⟩ := h i p hp; ⟨by rw [World.cell?_drew]; exact h0, by rw [World.cell?_drew]; exact h1, by rw [World.cell?_drew]; exact h2⟩
theorem Tab.lt {B o : Nat} {l : List (Int × Int × Int)} {w : World} (h : Tab B o l w) {p : Int × Int × Int} {i : Nat} (hp : l[i]? = some p) : B < w.heap.size :=
  World.block_lt_of_cell? w ⟨B, _, none⟩ (h i p hp).1
/-- May a number be in a table? -/
def partB (n : Int) : Bool := decide (-2305843009213693952 ≤ n) && decide (n ≤ 2305843009213693952)
def okP (p : Int × Int × Int) : Bool := partB p.1 && partB p.2.1 && partB p.2.2 && decide (chk p.2.1 p.2.2 = 0)
/-- Does a point lie behind the one ahead of it? -/
def behind (l : List (Int × Int × Int)) (k : Nat) : Bool := decide (k = 0) || match l[k - 1]?, l[k]? with
  | some p, some q => decide (p.1 < q.1)
  | _, _ => false
def okAt (l : List (Int × Int × Int)) (k : Nat) : Bool := (match l[k]? with
  | some p => okP p
  | none => false) && behind l k
def goodU (l : List (Int × Int × Int)) : Nat → Bool
  | 0 => true
  | k + 1 => goodU l k && okAt l k
def checkT (l : List (Int × Int × Int)) : Int := if 1 ≤ l.length ∧ l.length ≤ 64 ∧ goodU l l.length = true then 0 else 2
theorem goodU_le {l : List (Int × Int × Int)} {k : Nat} : ∀ {n : Nat}, goodU l n = true → k ≤ n → goodU l k = true
  | 0, h, hk => by rw [Nat.le_zero.1 hk]; exact h
  | n + 1, h, hk => by
    by_cases e : k = n + 1
    · rw [e]; exact h
    · simp only [goodU, Bool.and_eq_true] at h
      exact goodU_le h.1 (by omega)
theorem goodU_at {l : List (Int × Int × Int)} {k n : Nat} (h : goodU l n = true) (hk : k < n) : okAt l k = true := by
  have := goodU_le h (show k + 1 ≤ n by omega)
  simp only [goodU, Bool.and_eq_true] at this
  exact this.2
end Go.Proofs.Ytepcifijhnelcaa
