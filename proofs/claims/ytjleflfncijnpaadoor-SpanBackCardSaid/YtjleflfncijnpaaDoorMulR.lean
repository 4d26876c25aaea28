/- Products of spans, of the document's answer. -/
import Derived.Deep.DeepCutAuto
import Derived.Deep.CutBlock
import Derived.Test.YtjleflfncijnpaaDoorRows
import Derived.Test.YtjleflfncijnpaaDoorBase
import Derived.Test.YtjleflfncijnpaaDoorFacts
import Derived.Test.YtjleflfncijnpaaDoorTwo
import Derived.Deep.RegionHeld3
import Derived.Deep.RegionWith
import Derived.Deep.QuietTactic
import Derived.BigQuiet
import Derived.Test.YtjleflfncijnpaaDoorW
import Derived.Test.YtjleflfncijnpaaDoorAsks
import Derived.Test.YtjleflfncijnpaaDoorOut
import Derived.Test.YtjleflfncijnpaaDoorSeq
import Derived.Test.YtjleflfncijnpaaDoorTwo
import Derived.Test.YtjleflfncijnpaaDoorQuo
import Derived.Test.YtjleflfncijnpaaDoorTimes
import Derived.Test.YtjleflfncijnpaaDoorDown
import Derived.Test.YtjleflfncijnpaaDoorScaleM
import Derived.Test.YtjleflfncijnpaaDoorMul
set_option linter.unusedVariables false
set_option linter.unusedSimpArgs false
set_option maxHeartbeats 4000000
set_option maxRecDepth 100000
namespace Go.Proofs.YtjleflfncijnpaaDoor
open Go Go.RowKit
theorem mnmx_bd (p : Nat → Int) (b : Int) (hb : 0 ≤ b) (h : ∀ k, -b ≤ p k ∧ p k ≤ b) (k : Nat) : (-b ≤ mnK p k ∧ mnK p k ≤ b) ∧ -b ≤ mxK p k ∧ mxK p k ≤ b := by
  match k with
  | 0 => unfold mnK mxK; omega
  | 1 => have := h 0; unfold mnK mxK; omega
  | k + 2 =>
    have h1 := mnmx_bd p b hb h (k + 1)
    have h2 := h (k + 1)
    unfold mnK mxK
    constructor <;> split <;> omega
theorem mnmx_step (p : Nat → Int) {k : Nat} (hk : 0 < k) : mnK p (k + 1) = (if p k < mnK p k then p k else mnK p k) ∧ mxK p (k + 1) = if mxK p k < p k then p k else mxK p k := by
  obtain ⟨j, rfl⟩ : ∃ j, k = j + 1 := ⟨k - 1, by omega⟩
  exact ⟨rfl, rfl⟩
theorem mn4_val (p : Nat → Int) : mnK p 4 = min (min (min (p 0) (p 1)) (p 2)) (p 3) := by
  obtain ⟨h3, _⟩ := mnmx_step p (k := 3) (by omega)
  obtain ⟨h2, _⟩ := mnmx_step p (k := 2) (by omega)
  obtain ⟨h1, _⟩ := mnmx_step p (k := 1) (by omega)
  have h0 : mnK p 1 = p 0 := rfl
  rw [h3, h2, h1, h0]
  (repeat' split) <;> omega
theorem mx4_val (p : Nat → Int) : mxK p 4 = max (max (max (p 0) (p 1)) (p 2)) (p 3) := by
  obtain ⟨_, h3⟩ := mnmx_step p (k := 3) (by omega)
  obtain ⟨_, h2⟩ := mnmx_step p (k := 2) (by omega)
  obtain ⟨_, h1⟩ := mnmx_step p (k := 1) (by omega)
  have h0 : mxK p 1 = p 0 := rfl
  rw [h3, h2, h1, h0]
  (repeat' split) <;> omega
theorem up_32 (p : Int) : dnQ p 4294967296 = p / 4294967296 ∧ upQ p 4294967296 = -(-p / 4294967296) := by
  unfold upQ dnQ; simp
theorem mul_fit (al ah bl bh : Int) : cornS (fun x y => rdQ (x * y) 4294967296) (fun x y => ruQ (x * y) 4294967296) (fun x y => ftQ (x * y) 4294967296) al ah bl bh = fitS (mnK (pK al ah bl bh) 4 / 4294967296) (-(-mxK (pK al ah bl bh) 4 / 4294967296)) := by
  rw [corn_fit (fun x y => x * y) (fun _ _ => 4294967296) al ah bl bh (dn_le _ _ _ (by omega)) (dn_le _ _ _ (by omega)) (dn_le _ _ _ (by omega)) (dn_le _ _ _ (by omega)), mn4_val, mx4_val]
  simp only [(up_32 _).1, (up_32 _).2]
  show fitS _ _ = fitS (min (min (min (al * bl) (al * bh)) (ah * bl)) (ah * bh) / 4294967296) (-(-max (max (max (al * bl) (al * bh)) (ah * bl)) (ah * bh) / 4294967296))
  generalize al * bl = A
  generalize al * bh = B
  generalize ah * bl = C
  generalize ah * bh = D
  congr 1 <;> omega
theorem pK_bd (al ah bl bh : Int) (h : (-9223372036854775808 ≤ al ∧ al ≤ 9223372036854775807) ∧ (-9223372036854775808 ≤ ah ∧ ah ≤ 9223372036854775807) ∧ (-9223372036854775808 ≤ bl ∧ bl ≤ 9223372036854775807) ∧ (-9223372036854775808 ≤ bh ∧ bh ≤ 9223372036854775807)) (k : Nat) : -85070591730234615865843651857942052864 ≤ pK al ah bl bh k ∧ pK al ah bl bh k ≤ 85070591730234615865843651857942052864 := by
  obtain ⟨h1, h2, h3, h4⟩ := h
  have key : ∀ x y : Int, (-9223372036854775808 ≤ x ∧ x ≤ 9223372036854775807) ∧ (-9223372036854775808 ≤ y ∧ y ≤ 9223372036854775807) → -85070591730234615865843651857942052864 ≤ x * y ∧ x * y ≤ 85070591730234615865843651857942052864 := fun x y ⟨hx, hy⟩ => by
    have m := mul_bd (ab_bd hx) (ab_bd hy)
    have v := ab_mul x y
    simp only [Int.reduceMul] at m
    rw [v]; split <;> omega
  unfold pK
  split
  · exact key _ _ ⟨h1, h3⟩
  · exact key _ _ ⟨h1, h4⟩
  · exact key _ _ ⟨h2, h3⟩
  · exact key _ _ ⟨h2, h4⟩
/-- What Mul's loop holds: the pairs, the result's cells, the least and the greatest product so far. -/
def M8 (Z Bl B : Nat) (al ah bl bh lo hi : Int) : World → Prop := (fun w' => w'.cell? ⟨B, 0, none⟩ = some (.int .i64 al) ∧ w'.cell? ⟨B, 1, none⟩ = some (.int .i64 bl) ∧ w'.cell? ⟨B, 2, none⟩ = some (.int .i64 al) ∧ w'.cell? ⟨B, 3, none⟩ = some (.int .i64 bh) ∧ w'.cell? ⟨B, 4, none⟩ = some (.int .i64 ah) ∧ w'.cell? ⟨B, 5, none⟩ = some (.int .i64 bl) ∧ w'.cell? ⟨B, 6, none⟩ = some (.int .i64 ah) ∧ w'.cell? ⟨B, 7, none⟩ = some (.int .i64 bh) ∧ w'.cell? ⟨Z, 0, none⟩ = some (.int .i64 0) ∧ w'.cell? ⟨Z, 1, none⟩ = some (.int .i64 0) ∧ w'.frozen? ⟨Z, 0, none⟩ = false ∧ w'.frozen? ⟨Z, 1, none⟩ = false ∧ w'.cell? ⟨Bl, 0, none⟩ = some (.int .i64 (hiW lo)) ∧ w'.cell? ⟨Bl, 1, none⟩ = some (.int .u64 (loW lo)) ∧ w'.frozen? ⟨Bl, 0, none⟩ = false ∧ w'.frozen? ⟨Bl, 1, none⟩ = false ∧ w'.cell? ⟨Bl + 1, 0, none⟩ = some (.int .i64 (hiW hi)) ∧ w'.cell? ⟨Bl + 1, 1, none⟩ = some (.int .u64 (loW hi)) ∧ w'.frozen? ⟨Bl + 1, 0, none⟩ = false ∧ w'.frozen? ⟨Bl + 1, 1, none⟩ = false)
end Go.Proofs.YtjleflfncijnpaaDoor
