/- A list of slots, opened. -/
import Derived.Test.YtlpbkifiidlllaaRowKit
import Derived.Test.YtlpbkifiidlllaaSetF
import Derived.Deep.Slices
set_option linter.unusedVariables false
namespace Go.Proofs.Ytlpbkifiidlllaa
open Go.ChangeShapes Go.WideShapes Go.ChangeAt Go.RowKit Go.Joins
set_option maxRecDepth 100000 in
theorem open_slot2 {H : Type} {enc : TypeId × Value → H} {w : World} {base : Nat} {spare : Nat → Bool} {held : Bool} {n : Nat} {cs : List Value} {x : DataW H × List MemPlace} (hlen : cs.length = 2)
    (h : DataW.trod enc Try.prog w base spare held n 45 cs = some x) : ∃ lo hi : Int, cs = [.int .i64 lo, .int .i64 hi] ∧ (-9223372036854775808 ≤ lo ∧ lo ≤ 9223372036854775807) ∧ (-9223372036854775808 ≤ hi ∧ hi ≤ 9223372036854775807) := by
  match cs, hlen with
  | [c1, c2], _ =>
    obtain ⟨z0, z1, m2, hx2, _, g0, g1⟩ := trod_struct2 Try.underlying45 h
    obtain ⟨b, eb, _, wb⟩ := DataW.trod_int Try.underlying3 (show DataW.trod enc Try.prog w base spare held m2 3 [c1] = some z0 from g0)
    obtain ⟨c, ec, _, wc⟩ := DataW.trod_int Try.underlying3 (show DataW.trod enc Try.prog w base spare held m2 3 [c2] = some z1 from g1)
    simp at eb ec
    subst eb ec
    exact ⟨b, c, rfl, bounds_i64 wb, bounds_i64 wc⟩
theorem add_spotQ (B o n : Nat) : (Addr.mk B o none).add n = ⟨B, o + n, none⟩ := by
  unfold Addr.add; split
  · rename_i h; subst h; rfl
  · rfl
set_option maxRecDepth 100000 in
theorem open_slots {H : Type} {enc : TypeId × Value → H} {w : World} {base b0 : Nat} {spare : Nat → Bool} {held : Bool} {r : Reach} {v : Value} {d : DataW H} {p : List MemPlace}
    (hv : Value.okWide Try.prog w r b0 22 v) (h : DataW.Trod enc Try.prog w base spare held 22 v d p) :
    ∃ (q : Option Addr) (cap : Nat) (l : List (Int × Int)), v = .slice q l.length cap ∧ (q = none → cap = 0) ∧ (l = [] ∨ ∃ B o, q = some ⟨B, o, none⟩ ∧ RowS B o l w) ∧ ∀ p ∈ l, (-9223372036854775808 ≤ p.1 ∧ p.1 ≤ 9223372036854775807) ∧ (-9223372036854775808 ≤ p.2 ∧ p.2 ≤ 9223372036854775807) := by
  obtain ⟨a, len, cap, rfl⟩ := okWide_slice Try.underlying22 hv
  obtain ⟨fuel, hf⟩ := h
  rcases Go.Deep.open_slice Try.underlying22 hf with ⟨h0, _⟩ | ⟨a', len', cap', m, n, D, Pl, hcs, _, hl, _, hm, _, hx⟩
  · simp [Value.cells] at h0
    obtain ⟨rfl, rfl, rfl⟩ := h0
    exact ⟨none, 0, [], rfl, fun _ => rfl, Or.inl rfl, fun p hp => by cases hp⟩
  · simp [Value.cells] at hcs
    obtain ⟨rfl, rfl, rfl⟩ := hcs
    have hlm : len ≤ m := by rw [hm]; split <;> omega
    rcases Nat.eq_zero_or_pos len with rfl | hpos
    · exact ⟨some a', cap, [], rfl, (fun h => by cases h), Or.inl rfl, fun p hp => by cases hp⟩
    have each : ∀ i, i < len → ∃ t : Int × Int, (w.cell? (a'.add (i * 2)) = some (.int .i64 t.1) ∧ w.cell? ((a'.add (i * 2)).add 1) = some (.int .i64 t.2)) ∧ (-9223372036854775808 ≤ t.1 ∧ t.1 ≤ 9223372036854775807) ∧ (-9223372036854775808 ≤ t.2 ∧ t.2 ≤ 9223372036854775807) := fun i hi => by
      obtain ⟨cs', h1, h2⟩ := hx i (by omega)
      rw [(by kernel_rfl : Try.prog.cellsOf 45 = 2)] at h1
      obtain ⟨_, hlen, hcell⟩ := World.cells?_some h1
      obtain ⟨lo, hi', rfl, hb⟩ := open_slot2 hlen h2
      exact ⟨(lo, hi'), ⟨hcell 0 (by omega), hcell 1 (by omega)⟩, hb⟩
    have hs : a'.spot = none := by
      obtain ⟨t, h1, _⟩ := each 0 hpos
      simpa [Addr.add] using World.cell?_spot h1.1
    obtain ⟨B, o, spot⟩ := a'
    cases hs
    simp only [add_spotQ] at each
    have hf' : ∀ i : Nat, ∃ t : Int × Int, i < len → (w.cell? ⟨B, o + i * 2, none⟩ = some (.int .i64 t.1) ∧ w.cell? ⟨B, o + i * 2 + 1, none⟩ = some (.int .i64 t.2)) ∧ (-9223372036854775808 ≤ t.1 ∧ t.1 ≤ 9223372036854775807) ∧ (-9223372036854775808 ≤ t.2 ∧ t.2 ≤ 9223372036854775807) := fun i => by
      by_cases hi : i < len
      · obtain ⟨t, ht⟩ := each i hi; exact ⟨t, fun _ => ht⟩
      · exact ⟨(0, 0), fun h => absurd h hi⟩
    obtain ⟨f, hf⟩ := Classical.axiomOfChoice hf'
    refine ⟨some ⟨B, o, none⟩, cap, (List.range len).map f, by simp, (fun h => by cases h), Or.inr ⟨B, o, rfl, fun i p hp => ?_⟩, fun p hp => ?_⟩
    · rw [List.getElem?_map] at hp
      obtain ⟨j, hj, rfl⟩ := Option.map_eq_some_iff.1 hp
      have := List.getElem?_eq_some_iff.1 hj
      obtain ⟨hj1, hj2⟩ := this
      simp at hj1 hj2
      subst hj2
      exact (hf i hj1).1
    · obtain ⟨j, hj, rfl⟩ := List.mem_map.1 hp
      exact (hf j (List.mem_range.1 hj)).2
end Go.Proofs.Ytlpbkifiidlllaa
