/- Planets, arcs and states, opened. -/
import Derived.Test.YtepcifijhnelcaaRowKit
import Derived.Test.YtepcifijhnelcaaFlyA
import Derived.Deep.Slices
set_option linter.unusedVariables false
set_option maxRecDepth 100000
namespace Go.Proofs.Ytepcifijhnelcaa
open Go.ChangeShapes Go.WideShapes Go.ChangeAt Go.RowKit Go.Joins
theorem Try.cellsP : Try.prog.cellsOf 90 = 3 := by kernel_rfl
theorem Try.cellsN : Try.prog.cellsOf 22 = 1 := by kernel_rfl
theorem Try.cellsB : Try.prog.cellsOf 26 = 6 := by kernel_rfl
theorem Try.cellsL : Try.prog.cellsOf 29 = 1 := by kernel_rfl
theorem Try.cellsPl : Try.prog.cellsOf 28 = 14 := by kernel_rfl
theorem Try.cellsArc : Try.prog.cellsOf 31 = 15 := by kernel_rfl
theorem Try.cellsSt : Try.prog.cellsOf 33 = 15 := by kernel_rfl
section
variable {H : Type} {enc : TypeId × Value → H} {w : World} {base : Nat} {spare : Nat → Bool} {held : Bool} {n : Nat}
theorem num_cell {c0 : Value} {x : DataW H × List MemPlace} (h : DataW.trod enc Try.prog w base spare held n 22 [c0] = some x) : ∃ a : Int, c0 = .int .i64 a ∧ (-9223372036854775808 ≤ a ∧ a ≤ 9223372036854775807) := by
  obtain ⟨a, ea, _, wa⟩ := DataW.trod_int Try.underlying22 h
  simp at ea
  exact ⟨a, ea, bounds_i64 wa⟩
theorem span_cells {c0 c1 : Value} {x : DataW H × List MemPlace} (h : DataW.trod enc Try.prog w base spare held n 24 [c0, c1] = some x) : ∃ a b : Int, c0 = .int .i64 a ∧ c1 = .int .i64 b ∧ (-9223372036854775808 ≤ a ∧ a ≤ 9223372036854775807) ∧ (-9223372036854775808 ≤ b ∧ b ≤ 9223372036854775807) := by
  obtain ⟨z0, z1, m2, hx2, _, g0, g1⟩ := trod_struct2 Try.underlying24 h
  obtain ⟨a, ea, wa⟩ := num_cell (show DataW.trod enc Try.prog w base spare held m2 22 [c0] = some z0 from g0)
  obtain ⟨b, eb, wb⟩ := num_cell (show DataW.trod enc Try.prog w base spare held m2 22 [c1] = some z1 from g1)
  exact ⟨a, b, ea, eb, wa, wb⟩
theorem box_cells {c0 c1 c2 c3 c4 c5 : Value} {x : DataW H × List MemPlace} (h : DataW.trod enc Try.prog w base spare held n 26 [c0, c1, c2, c3, c4, c5] = some x) :
    ∃ a b c d p q : Int, c0 = .int .i64 a ∧ c1 = .int .i64 b ∧ c2 = .int .i64 c ∧ c3 = .int .i64 d ∧ c4 = .int .i64 p ∧ c5 = .int .i64 q ∧ (-9223372036854775808 ≤ a ∧ a ≤ 9223372036854775807) ∧ (-9223372036854775808 ≤ b ∧ b ≤ 9223372036854775807) ∧ (-9223372036854775808 ≤ c ∧ c ≤ 9223372036854775807) ∧ (-9223372036854775808 ≤ d ∧ d ≤ 9223372036854775807) ∧ (-9223372036854775808 ≤ p ∧ p ≤ 9223372036854775807) ∧ (-9223372036854775808 ≤ q ∧ q ≤ 9223372036854775807) := by
  obtain ⟨xs, m, _, hx, _, hl, hel⟩ := DataW.trod_array Try.underlying26 h
  have h0 := hel 0 (by decide)
  have h1 := hel 1 (by decide)
  have h2 := hel 2 (by decide)
  rw [Try.cells24] at h0 h1 h2
  match xs, hl, h0, h1, h2 with
  | [y0, y1, y2], _, h0, h1, h2 =>
    obtain ⟨a, b, ea, eb, k1⟩ := span_cells (show DataW.trod enc Try.prog w base spare held m 24 [c0, c1] = some y0 from h0)
    obtain ⟨c, d, ec, ed, k2⟩ := span_cells (show DataW.trod enc Try.prog w base spare held m 24 [c2, c3] = some y1 from h1)
    obtain ⟨p, q, ep, eq, k3⟩ := span_cells (show DataW.trod enc Try.prog w base spare held m 24 [c4, c5] = some y2 from h2)
    exact ⟨a, b, c, d, p, q, ea, eb, ec, ed, ep, eq, by omega⟩
theorem open_point {cs : List Value} {x : DataW H × List MemPlace} (hlen : cs.length = 3)
    (h : DataW.trod enc Try.prog w base spare held n 90 cs = some x) : ∃ a lo hi : Int, cs = [.int .i64 a, .int .i64 lo, .int .i64 hi] ∧ (-9223372036854775808 ≤ a ∧ a ≤ 9223372036854775807) ∧ (-9223372036854775808 ≤ lo ∧ lo ≤ 9223372036854775807) ∧ (-9223372036854775808 ≤ hi ∧ hi ≤ 9223372036854775807) := by
  obtain ⟨y0, y1, m, hx, _, h0, h1⟩ := trod_struct2 Try.underlying90 h
  match cs, hlen with
  | [c0, c1, c2], _ =>
    obtain ⟨a, rfl, wa⟩ := num_cell (show DataW.trod enc Try.prog w base spare held m 22 [c0] = some y0 from h0)
    obtain ⟨b, c, rfl, rfl, wb⟩ := span_cells (show DataW.trod enc Try.prog w base spare held m 24 [c1, c2] = some y1 from h1)
    exact ⟨a, b, c, rfl, wa, wb⟩
theorem add_spot (B o n : Nat) : (Addr.mk B o none).add n = ⟨B, o + n, none⟩ := by
  unfold Addr.add; split
  · rename_i h; subst h; rfl
  · rfl
theorem points_cell {v : Value} {x : DataW H × List MemPlace} (h : DataW.trod enc Try.prog w base spare held n 29 [v] = some x) :
    ∃ (q : Option Addr) (cap : Nat) (l : List (Int × Int × Int)), v = .slice q l.length cap ∧ l.length ≤ 9223372036854775807 ∧ TabIn q l w ∧ ∀ p ∈ l, (-9223372036854775808 ≤ p.1 ∧ p.1 ≤ 9223372036854775807) ∧ (-9223372036854775808 ≤ p.2.1 ∧ p.2.1 ≤ 9223372036854775807) ∧ (-9223372036854775808 ≤ p.2.2 ∧ p.2.2 ≤ 9223372036854775807) := by
  rcases Go.Deep.open_slice Try.underlying29 h with ⟨h0, _⟩ | ⟨a', len, cap, m, n, D, Pl, hcs, _, hl, hm', hm, _, hx⟩
  · simp at h0
    subst h0
    exact ⟨none, 0, [], rfl, by simp, Or.inl rfl, fun p hp => by cases hp⟩
  · simp at hcs
    subst hcs
    have hmx : len ≤ 9223372036854775807 := by unfold maxLen at hm'; omega
    have hlm : len ≤ m := by rw [hm]; split <;> omega
    rcases Nat.eq_zero_or_pos len with rfl | hpos
    · exact ⟨some a', cap, [], rfl, by simp, Or.inl rfl, fun p hp => by cases hp⟩
    have each : ∀ i, i < len → ∃ t : Int × Int × Int, (w.cell? (a'.add (i * 3)) = some (.int .i64 t.1) ∧ w.cell? ((a'.add (i * 3)).add 1) = some (.int .i64 t.2.1) ∧ w.cell? ((a'.add (i * 3)).add 2) = some (.int .i64 t.2.2)) ∧ (-9223372036854775808 ≤ t.1 ∧ t.1 ≤ 9223372036854775807) ∧ (-9223372036854775808 ≤ t.2.1 ∧ t.2.1 ≤ 9223372036854775807) ∧ (-9223372036854775808 ≤ t.2.2 ∧ t.2.2 ≤ 9223372036854775807) := fun i hi => by
      obtain ⟨cs', h1, h2⟩ := hx i (by omega)
      rw [Try.cellsP] at h1
      obtain ⟨_, hlen, hcell⟩ := World.cells?_some h1
      obtain ⟨x, lo, hi', rfl, hb⟩ := open_point hlen h2
      exact ⟨(x, lo, hi'), ⟨hcell 0 (by omega), hcell 1 (by omega), hcell 2 (by omega)⟩, hb⟩
    have hs : a'.spot = none := by
      obtain ⟨t, h1, _⟩ := each 0 hpos
      simpa [Addr.add] using World.cell?_spot h1.1
    obtain ⟨B, o, spot⟩ := a'
    cases hs
    simp only [add_spot] at each
    have hf' : ∀ i : Nat, ∃ t : Int × Int × Int, i < len → (w.cell? ⟨B, o + i * 3, none⟩ = some (.int .i64 t.1) ∧ w.cell? ⟨B, o + i * 3 + 1, none⟩ = some (.int .i64 t.2.1) ∧ w.cell? ⟨B, o + i * 3 + 2, none⟩ = some (.int .i64 t.2.2)) ∧ (-9223372036854775808 ≤ t.1 ∧ t.1 ≤ 9223372036854775807) ∧ (-9223372036854775808 ≤ t.2.1 ∧ t.2.1 ≤ 9223372036854775807) ∧ (-9223372036854775808 ≤ t.2.2 ∧ t.2.2 ≤ 9223372036854775807) := fun i => by
      by_cases hi : i < len
      · obtain ⟨t, ht⟩ := each i hi; exact ⟨t, fun _ => ht⟩
      · exact ⟨(0, 0, 0), fun h => absurd h hi⟩
    obtain ⟨f, hf⟩ := Classical.axiomOfChoice hf'
    refine ⟨some ⟨B, o, none⟩, cap, (List.range len).map f, by simp, by simpa using hmx, Or.inr ⟨B, o, rfl, fun i p hp => ?_⟩, fun p hp => ?_⟩
    · rw [List.getElem?_map] at hp
      obtain ⟨j, hj, rfl⟩ := Option.map_eq_some_iff.1 hp
      have := List.getElem?_eq_some_iff.1 hj
      obtain ⟨hj1, hj2⟩ := this
      simp at hj1 hj2
      subst hj2
      exact (hf i hj1).1
    · obtain ⟨j, hj, rfl⟩ := List.mem_map.1 hp
      exact (hf j (List.mem_range.1 hj)).2
end
theorem open_planet {H : Type} {enc : TypeId × Value → H} {w : World} {base b0 : Nat} {spare : Nat → Bool} {held : Bool} {r : Reach} {v : Value} {d : DataW H} {p : List MemPlace}
    (hv : Value.okWide Try.prog w r b0 28 v) (h : DataW.Trod enc Try.prog w base spare held 28 v d p) :
    ∃ a0 a1 a2 a3 a4 a5 a6 a7 a8 a9 a10 a11 a12 a13 : Int, v = .agg #[.int .i64 a0, .int .i64 a1, .int .i64 a2, .int .i64 a3, .int .i64 a4, .int .i64 a5, .int .i64 a6, .int .i64 a7, .int .i64 a8, .int .i64 a9, .int .i64 a10, .int .i64 a11, .int .i64 a12, .int .i64 a13] ∧ (-9223372036854775808 ≤ a0 ∧ a0 ≤ 9223372036854775807) ∧ (-9223372036854775808 ≤ a1 ∧ a1 ≤ 9223372036854775807) ∧ (-9223372036854775808 ≤ a2 ∧ a2 ≤ 9223372036854775807) ∧ (-9223372036854775808 ≤ a3 ∧ a3 ≤ 9223372036854775807) ∧ (-9223372036854775808 ≤ a4 ∧ a4 ≤ 9223372036854775807) ∧ (-9223372036854775808 ≤ a5 ∧ a5 ≤ 9223372036854775807) ∧ (-9223372036854775808 ≤ a6 ∧ a6 ≤ 9223372036854775807) ∧ (-9223372036854775808 ≤ a7 ∧ a7 ≤ 9223372036854775807) ∧ (-9223372036854775808 ≤ a8 ∧ a8 ≤ 9223372036854775807) ∧ (-9223372036854775808 ≤ a9 ∧ a9 ≤ 9223372036854775807) ∧ (-9223372036854775808 ≤ a10 ∧ a10 ≤ 9223372036854775807) ∧ (-9223372036854775808 ≤ a11 ∧ a11 ≤ 9223372036854775807) ∧ (-9223372036854775808 ≤ a12 ∧ a12 ≤ 9223372036854775807) ∧ (-9223372036854775808 ≤ a13 ∧ a13 ≤ 9223372036854775807) := by
  obtain ⟨cs, rfl, hsz⟩ := okWide_struct Try.underlying28 hv
  rw [Try.cellsPl] at hsz
  obtain ⟨cl⟩ := cs
  obtain ⟨fuel, hf⟩ := h
  obtain ⟨xs, m, _, _, _, hlen, hfs⟩ := DataW.trod_struct Try.underlying28 hf
  match cl, hsz, xs, hlen with
  | [x0, x1, x2, x3, x4, x5, x6, x7, x8, x9, x10, x11, x12, x13], _, [y0, y1, y2, y3, y4], _ =>
    have g0 := hfs 0 _ rfl
    obtain ⟨a0, a1, rfl, rfl, k0⟩ := span_cells (show DataW.trod enc Try.prog w base spare held m 24 [x0, x1] = some y0 from g0)
    have g1 := hfs 1 _ rfl
    obtain ⟨a2, a3, rfl, rfl, k1⟩ := span_cells (show DataW.trod enc Try.prog w base spare held m 24 [x2, x3] = some y1 from g1)
    have g2 := hfs 2 _ rfl
    obtain ⟨a4, a5, rfl, rfl, k2⟩ := span_cells (show DataW.trod enc Try.prog w base spare held m 24 [x4, x5] = some y2 from g2)
    have g3 := hfs 3 _ rfl
    obtain ⟨a6, a7, rfl, rfl, k3⟩ := span_cells (show DataW.trod enc Try.prog w base spare held m 24 [x6, x7] = some y3 from g3)
    have g4 := hfs 4 _ rfl
    obtain ⟨a8, a9, a10, a11, a12, a13, rfl, rfl, rfl, rfl, rfl, rfl, k4⟩ := box_cells (show DataW.trod enc Try.prog w base spare held m 26 [x8, x9, x10, x11, x12, x13] = some y4 from g4)
    exact ⟨a0, a1, a2, a3, a4, a5, a6, a7, a8, a9, a10, a11, a12, a13, rfl, by omega⟩
theorem open_state {H : Type} {enc : TypeId × Value → H} {w : World} {base b0 : Nat} {spare : Nat → Bool} {held : Bool} {r : Reach} {v : Value} {d : DataW H} {p : List MemPlace}
    (hv : Value.okWide Try.prog w r b0 33 v) (h : DataW.Trod enc Try.prog w base spare held 33 v d p) :
    ∃ a0 a1 a2 a3 a4 a5 a6 a7 a8 a9 a10 a11 a12 a13 a14 : Int, v = .agg #[.int .i64 a0, .int .i64 a1, .int .i64 a2, .int .i64 a3, .int .i64 a4, .int .i64 a5, .int .i64 a6, .int .i64 a7, .int .i64 a8, .int .i64 a9, .int .i64 a10, .int .i64 a11, .int .i64 a12, .int .i64 a13, .int .i64 a14] ∧ (-9223372036854775808 ≤ a0 ∧ a0 ≤ 9223372036854775807) ∧ (-9223372036854775808 ≤ a1 ∧ a1 ≤ 9223372036854775807) ∧ (-9223372036854775808 ≤ a2 ∧ a2 ≤ 9223372036854775807) ∧ (-9223372036854775808 ≤ a3 ∧ a3 ≤ 9223372036854775807) ∧ (-9223372036854775808 ≤ a4 ∧ a4 ≤ 9223372036854775807) ∧ (-9223372036854775808 ≤ a5 ∧ a5 ≤ 9223372036854775807) ∧ (-9223372036854775808 ≤ a6 ∧ a6 ≤ 9223372036854775807) ∧ (-9223372036854775808 ≤ a7 ∧ a7 ≤ 9223372036854775807) ∧ (-9223372036854775808 ≤ a8 ∧ a8 ≤ 9223372036854775807) ∧ (-9223372036854775808 ≤ a9 ∧ a9 ≤ 9223372036854775807) ∧ (-9223372036854775808 ≤ a10 ∧ a10 ≤ 9223372036854775807) ∧ (-9223372036854775808 ≤ a11 ∧ a11 ≤ 9223372036854775807) ∧ (-9223372036854775808 ≤ a12 ∧ a12 ≤ 9223372036854775807) ∧ (-9223372036854775808 ≤ a13 ∧ a13 ≤ 9223372036854775807) ∧ (-9223372036854775808 ≤ a14 ∧ a14 ≤ 9223372036854775807) := by
  obtain ⟨cs, rfl, hsz⟩ := okWide_struct Try.underlying33 hv
  rw [Try.cellsSt] at hsz
  obtain ⟨cl⟩ := cs
  obtain ⟨fuel, hf⟩ := h
  obtain ⟨xs, m, _, _, _, hlen, hfs⟩ := DataW.trod_struct Try.underlying33 hf
  match cl, hsz, xs, hlen with
  | [x0, x1, x2, x3, x4, x5, x6, x7, x8, x9, x10, x11, x12, x13, x14], _, [y0, y1, y2, y3], _ =>
    have g0 := hfs 0 _ rfl
    obtain ⟨a0, rfl, k0⟩ := num_cell (show DataW.trod enc Try.prog w base spare held m 22 [x0] = some y0 from g0)
    have g1 := hfs 1 _ rfl
    obtain ⟨a1, a2, a3, a4, a5, a6, rfl, rfl, rfl, rfl, rfl, rfl, k1⟩ := box_cells (show DataW.trod enc Try.prog w base spare held m 26 [x1, x2, x3, x4, x5, x6] = some y1 from g1)
    have g2 := hfs 2 _ rfl
    obtain ⟨a7, a8, a9, a10, a11, a12, rfl, rfl, rfl, rfl, rfl, rfl, k2⟩ := box_cells (show DataW.trod enc Try.prog w base spare held m 26 [x7, x8, x9, x10, x11, x12] = some y2 from g2)
    have g3 := hfs 3 _ rfl
    obtain ⟨a13, a14, rfl, rfl, k3⟩ := span_cells (show DataW.trod enc Try.prog w base spare held m 24 [x13, x14] = some y3 from g3)
    exact ⟨a0, a1, a2, a3, a4, a5, a6, a7, a8, a9, a10, a11, a12, a13, a14, rfl, by omega⟩
theorem open_arc {H : Type} {enc : TypeId × Value → H} {w : World} {base b0 : Nat} {spare : Nat → Bool} {held : Bool} {r : Reach} {v : Value} {d : DataW H} {p : List MemPlace}
    (hv : Value.okWide Try.prog w r b0 31 v) (h : DataW.Trod enc Try.prog w base spare held 31 v d p) :
    ∃ (q : Option Addr) (cap : Nat) (l : List (Int × Int × Int)) (a0 a1 a2 a3 a4 a5 a6 a7 a8 a9 a10 a11 a12 a13 : Int), v = .agg #[.int .i64 a0, .int .i64 a1, .int .i64 a2, .int .i64 a3, .int .i64 a4, .int .i64 a5, .int .i64 a6, .int .i64 a7, .int .i64 a8, .int .i64 a9, .int .i64 a10, .int .i64 a11, .slice q l.length cap, .int .i64 a12, .int .i64 a13] ∧ l.length ≤ 9223372036854775807 ∧ TabIn q l w ∧ (∀ p ∈ l, (-9223372036854775808 ≤ p.1 ∧ p.1 ≤ 9223372036854775807) ∧ (-9223372036854775808 ≤ p.2.1 ∧ p.2.1 ≤ 9223372036854775807) ∧ (-9223372036854775808 ≤ p.2.2 ∧ p.2.2 ≤ 9223372036854775807)) ∧ (-9223372036854775808 ≤ a0 ∧ a0 ≤ 9223372036854775807) ∧ (-9223372036854775808 ≤ a1 ∧ a1 ≤ 9223372036854775807) ∧ (-9223372036854775808 ≤ a2 ∧ a2 ≤ 9223372036854775807) ∧ (-9223372036854775808 ≤ a3 ∧ a3 ≤ 9223372036854775807) ∧ (-9223372036854775808 ≤ a4 ∧ a4 ≤ 9223372036854775807) ∧ (-9223372036854775808 ≤ a5 ∧ a5 ≤ 9223372036854775807) ∧ (-9223372036854775808 ≤ a6 ∧ a6 ≤ 9223372036854775807) ∧ (-9223372036854775808 ≤ a7 ∧ a7 ≤ 9223372036854775807) ∧ (-9223372036854775808 ≤ a8 ∧ a8 ≤ 9223372036854775807) ∧ (-9223372036854775808 ≤ a9 ∧ a9 ≤ 9223372036854775807) ∧ (-9223372036854775808 ≤ a10 ∧ a10 ≤ 9223372036854775807) ∧ (-9223372036854775808 ≤ a11 ∧ a11 ≤ 9223372036854775807) ∧ (-9223372036854775808 ≤ a12 ∧ a12 ≤ 9223372036854775807) ∧ (-9223372036854775808 ≤ a13 ∧ a13 ≤ 9223372036854775807) := by
  obtain ⟨cs, rfl, hsz⟩ := okWide_struct Try.underlying31 hv
  rw [Try.cellsArc] at hsz
  obtain ⟨cl⟩ := cs
  obtain ⟨fuel, hf⟩ := h
  obtain ⟨xs, m, _, _, _, hlen, hfs⟩ := DataW.trod_struct Try.underlying31 hf
  match cl, hsz, xs, hlen with
  | [x0, x1, x2, x3, x4, x5, x6, x7, x8, x9, x10, x11, x12, x13, x14], _, [y0, y1, y2, y3, y4, y5, y6], _ =>
    have g0 := hfs 0 _ rfl
    obtain ⟨a0, rfl, k0⟩ := num_cell (show DataW.trod enc Try.prog w base spare held m 22 [x0] = some y0 from g0)
    have g1 := hfs 1 _ rfl
    obtain ⟨a1, rfl, k1⟩ := num_cell (show DataW.trod enc Try.prog w base spare held m 22 [x1] = some y1 from g1)
    have g2 := hfs 2 _ rfl
    obtain ⟨a2, a3, rfl, rfl, k2⟩ := span_cells (show DataW.trod enc Try.prog w base spare held m 24 [x2, x3] = some y2 from g2)
    have g3 := hfs 3 _ rfl
    obtain ⟨a4, a5, rfl, rfl, k3⟩ := span_cells (show DataW.trod enc Try.prog w base spare held m 24 [x4, x5] = some y3 from g3)
    have g4 := hfs 4 _ rfl
    obtain ⟨a6, a7, a8, a9, a10, a11, rfl, rfl, rfl, rfl, rfl, rfl, k4⟩ := box_cells (show DataW.trod enc Try.prog w base spare held m 26 [x6, x7, x8, x9, x10, x11] = some y4 from g4)
    have g5 := hfs 5 _ rfl
    obtain ⟨q, cap, l, rfl, hll, htl, hbl⟩ := points_cell (show DataW.trod enc Try.prog w base spare held m 29 [x12] = some y5 from g5)
    have g6 := hfs 6 _ rfl
    obtain ⟨a12, a13, rfl, rfl, k6⟩ := span_cells (show DataW.trod enc Try.prog w base spare held m 24 [x13, x14] = some y6 from g6)
    exact ⟨q, cap, l, a0, a1, a2, a3, a4, a5, a6, a7, a8, a9, a10, a11, a12, a13, rfl, hll, htl, hbl, by omega⟩
end Go.Proofs.Ytepcifijhnelcaa
