/- SpanTables: the walk. -/
import Derived.Deep.DeepCutAuto
import Derived.Deep.CutBlock
import Derived.Deep.AppendLies
import Derived.Maps.AppendAt
import Derived.Laws.AppendOwnNone
import Derived.Test.YtjleflfncijnpaaRows
import Derived.Test.YtjleflfncijnpaaBase
import Derived.Test.YtjleflfncijnpaaFacts
import Derived.Test.YtjleflfncijnpaaTwo
import Derived.Deep.RegionHeld3
import Derived.Deep.RegionWith
import Derived.Deep.QuietTactic
import Derived.BigQuiet
import Derived.Test.YtjleflfncijnpaaW
import Derived.Test.YtjleflfncijnpaaAsks
import Derived.Test.YtjleflfncijnpaaOut
import Derived.Test.YtjleflfncijnpaaSeq
import Derived.Test.YtjleflfncijnpaaTwo
import Derived.Test.YtjleflfncijnpaaThree
import Derived.Test.YtjleflfncijnpaaQuo
import Derived.Test.YtjleflfncijnpaaTabM
import Derived.Test.YtjleflfncijnpaaTable
import Derived.Test.YtjleflfncijnpaaRTable
import Derived.Test.YtjleflfncijnpaaLookM
import Derived.Test.YtjleflfncijnpaaLookA
import Derived.Test.YtjleflfncijnpaaLookB
import Derived.Test.YtjleflfncijnpaaLookC
import Derived.Test.YtjleflfncijnpaaRLookM
import Derived.Test.YtjleflfncijnpaaRLine
import Derived.Test.YtjleflfncijnpaaRLook
import Derived.Test.YtjleflfncijnpaaLookBad
import Derived.Test.YtjleflfncijnpaaLookAny
import Derived.Test.YtjleflfncijnpaaSame
set_option linter.unusedVariables false
set_option linter.unusedSimpArgs false
set_option maxHeartbeats 4000000
set_option maxRecDepth 100000
namespace Go.Proofs.Ytjleflfncijnpaa
open Go Go.RowKit
theorem Try.infoP : (Try.prog.info? 63).map (fun i => (i.zero, i.size, i.bytes)) = some (some (.agg #[.int .i64 0, .int .i64 0, .int .i64 0]), 3, 24) := by kernel_rfl
/-- A table's cells, one behind the other. -/
def flatP : List (Int × Int × Int) → List Value
  | [] => []
  | p :: l => .int .i64 p.1 :: .int .i64 p.2.1 :: .int .i64 p.2.2 :: flatP l
theorem flat_len : ∀ l : List (Int × Int × Int), (flatP l).length = l.length * 3
  | [] => rfl
  | p :: l => by simp only [flatP, List.length_cons, flat_len l]; omega
theorem flat_one : ∀ (l : List (Int × Int × Int)), ∀ u ∈ flatP l, u.oneCell' = true
  | [], u, h => by cases h
  | p :: l, u, h => by
    simp only [flatP, List.mem_cons] at h
    rcases h with rfl | rfl | rfl | h
    · rfl
    · rfl
    · rfl
    · exact flat_one l u h
theorem flat_get : ∀ (l : List (Int × Int × Int)) (i : Nat) (p : Int × Int × Int), l[i]? = some p → (flatP l)[i * 3]? = some (.int .i64 p.1) ∧ (flatP l)[i * 3 + 1]? = some (.int .i64 p.2.1) ∧ (flatP l)[i * 3 + 2]? = some (.int .i64 p.2.2)
  | [], i, p, h => by simp at h
  | q :: l, 0, p, h => by simp at h; subst h; exact ⟨rfl, rfl, rfl⟩
  | q :: l, i + 1, p, h => by
    have := flat_get l i p (by simpa using h)
    simp only [flatP]
    rw [show (i + 1) * 3 = i * 3 + 1 + 1 + 1 by omega]
    simpa using this
theorem flat_inv : ∀ (l : List (Int × Int × Int)) (j : Nat) (u : Value), (flatP l)[j]? = some u → ∃ i p, l[i]? = some p ∧ ((j = i * 3 ∧ u = .int .i64 p.1) ∨ (j = i * 3 + 1 ∧ u = .int .i64 p.2.1) ∨ (j = i * 3 + 2 ∧ u = .int .i64 p.2.2))
  | [], j, u, h => by simp [flatP] at h
  | q :: l, 0, u, h => ⟨0, q, rfl, Or.inl ⟨rfl, by simp [flatP] at h; exact h.symm⟩⟩
  | q :: l, 1, u, h => ⟨0, q, rfl, Or.inr (Or.inl ⟨rfl, by simp [flatP] at h; exact h.symm⟩)⟩
  | q :: l, 2, u, h => ⟨0, q, rfl, Or.inr (Or.inr ⟨rfl, by simp [flatP] at h; exact h.symm⟩)⟩
  | q :: l, j + 3, u, h => by
    obtain ⟨i, p, hp, hh⟩ := flat_inv l j u (by simpa [flatP] using h)
    exact ⟨i + 1, p, by simpa using hp, by rcases hh with ⟨a, b⟩ | ⟨a, b⟩ | ⟨a, b⟩; exact Or.inl ⟨by omega, b⟩; exact Or.inr (Or.inl ⟨by omega, b⟩); exact Or.inr (Or.inr ⟨by omega, b⟩)⟩
theorem add_off (B o j : Nat) : (Addr.mk B o none).add j = ⟨B, o + j, none⟩ := by
  unfold Addr.add; split
  · rename_i h; subst h; rfl
  · rfl
theorem tab_flat {B o : Nat} {l : List (Int × Int × Int)} {w : World} (h : Tab B o l w) : ∀ j u, (flatP l)[j]? = some u → w.cell? ((Addr.mk B o none).add j) = some u := fun j u hu => by
  obtain ⟨i, p, hp, hh⟩ := flat_inv l j u hu
  obtain ⟨h0, h1, h2⟩ := h i p hp
  rw [add_off]
  rcases hh with ⟨rfl, rfl⟩ | ⟨rfl, rfl⟩ | ⟨rfl, rfl⟩
  · exact h0
  · rw [← Nat.add_assoc]; exact h1
  · rw [← Nat.add_assoc]; exact h2
theorem tab_own {w : World} {base : Nat} {v : Value} {l : List (Int × Int × Int)} (h : w.ownsRow base 63 3 v (0 + l.length) ([] ++ flatP l)) (hp : 0 < l.length) :
    ∃ g cap, v = .slice (some ⟨g, 0, none⟩) l.length cap ∧ base ≤ g ∧ g < w.heap.size ∧ Tab g 0 l w := by
  rw [Nat.zero_add, List.nil_append] at h
  obtain ⟨g, cap, hv, hb, hlt⟩ := h.form hp
  have hc := h.cells (g := g) (by rw [hv]; rfl)
  refine ⟨g, cap, hv, hb, hlt, fun i p hi => ?_⟩
  obtain ⟨f0, f1, f2⟩ := flat_get l i p hi
  have g0 := hc _ _ f0
  have g1 := hc _ _ f1
  have g2 := hc _ _ f2
  rw [add_off] at g0 g1 g2
  rw [Nat.zero_add] at g0 g1 g2 ⊢
  exact ⟨g0, g1, g2⟩
/-- The cells of both answers. -/
def LAB (Ba Bb : Nat) (x y : Int) : World → Prop := (fun w' => w'.cell? ⟨Ba, 0, none⟩ = some (.int .i64 x) ∧ w'.cell? ⟨Ba, 1, none⟩ = some (.int .i64 y) ∧ w'.cell? ⟨Bb, 0, none⟩ = some (.int .i64 x) ∧ w'.cell? ⟨Bb, 1, none⟩ = some (.int .i64 y))
theorem tables_go (l : List (Int × Int × Int)) (B o cap : Nat) (xl xh : Int) (w : World) (ht : Tab B o l w) (hn : 1 ≤ l.length ∧ l.length ≤ 70) (p1 p2 p3 c : Int)
    (L1 : Hid (∀ (g cap : Nat) (w : World), Tab g 0 l w → Calls Try.prog 63 #[.slice (some ⟨g, 0, none⟩) l.length cap, .agg #[.int .i64 xl, .int .i64 xh]] w fun e w' => e = .returned (.tuple #[.agg #[.int .i64 p1, .int .i64 p2], .int .i64 p3 ]) ∧ Below w.heap.size w w'))
    (L2 : Hid (∀ w : World, Tab B o l w → Calls Try.prog 64 #[.slice (some ⟨B, o, none⟩) l.length cap, .agg #[.int .i64 xl, .int .i64 xh]] w fun e w' => e = .returned (.tuple #[.agg #[.int .i64 p1, .int .i64 p2], .int .i64 p3 ]) ∧ Below w.heap.size w w'))
    (L3 : Hid (∀ w : World, Tab B o l w → Calls Try.prog 65 #[.slice (some ⟨B, o, none⟩) l.length cap] w fun e w' => e = .returned (.int .i64 c) ∧ Below w.heap.size w w'))
    (L4 : Hid (∀ w : World, Tab B o l w → Calls Try.prog 66 #[.slice (some ⟨B, o, none⟩) l.length cap] w fun e w' => e = .returned (.int .i64 c) ∧ Below w.heap.size w w')) :
    Calls Try.prog 9 #[.slice (some ⟨B, o, none⟩) l.length cap, .agg #[.int .i64 xl, .int .i64 xh]] w fun e w' => e = .returned (.bool true) ∧ Below w.heap.size w w' := by
  have hBw : B < w.heap.size := Tab.lt ht (List.getElem?_eq_getElem (show 0 < l.length by omega))
  obtain ⟨i0, hi0, hz0, hz1, hz2⟩ := info_parts Try.infoP
  have hii := hid (And.intro hi0 (And.intro hz0 (And.intro hz1 hz2)))
  clear hi0 hz0 hz1 hz2
  have h70 : ¬ (70 : Int) < l.length := by omega
  have d70 : decide ((70 : Int) < l.length) = false := decide_eq_false h70
  have e70 : ¬ 70 < l.length := by omega
  go_enter Try.func9, Try.ntmps9
  go_upto_region 3 with fail
  obtain ⟨W1, hW1⟩ : ∃ W, W = w.alloc (.cells #[.int .i64 xl, .int .i64 xh] 24) := ⟨_, rfl⟩
  rw [← hW1]
  have hs1 : W1.heap.size = w.heap.size + 1 := by rw [hW1]; simp
  have x0 : W1.cell? ⟨w.heap.size, 0, none⟩ = some (.int .i64 xl) := by rw [hW1]; simp [go_sem]
  have x1 : W1.cell? ⟨w.heap.size, 1, none⟩ = some (.int .i64 xh) := by rw [hW1]; simp [go_sem]
  have hB1 : Below w.heap.size w W1 := by rw [hW1]; go_grown
  replace ht : Tab B o l W1 := by rw [hW1]; exact Tab.alloc _ ht
  clear hW1
  have hmx : 0 + l.length ≤ maxLen := by unfold maxLen; omega
  have hby : (0 + l.length) * 24 ≤ 140737488355328 := by omega
  have hbs : w.heap.size + 1 ≤ (W1.alloc (.cells #[] 63)).heap.size := by simp; omega
  have hown : (W1.alloc (.cells #[] 63)).ownsRow (w.heap.size + 1) 63 3 (.slice (some ⟨W1.heap.size, 0, none⟩) 0 0) 0 [] := World.ownsRow_made W1 #[] 0 (by omega) (by unfold maxLen; omega) rfl
  have ht2 := hid (Tab.alloc (.cells #[] 63) ht)
  have hs2 : w.heap.size + 1 ≤ W1.heap.size := by omega
  have hs3 : W1.heap.size ≤ w.heap.size + 1 := by omega
  clear ht hs1
  go_upto_region 4 with ((at_builtin; refine wpList_append_own _ rfl _ _ 59 rfl (w.heap.size + 1) 63 i0 (.agg #[.int .i64 0, .int .i64 0, .int .i64 0]) 3 24 Try.underlying59 hii.out.1 hii.out.2.1 hii.out.2.2.1 hii.out.2.2.2 rfl (by decide) _ _ _ rfl hown ⟨B, o, none⟩ l.length cap (flatP l) rfl (flat_len l) (tab_flat ht2.out) (flat_one l) hmx hby hbs ?_; intro v1 w1 hown1 hgrow _))
  obtain ⟨g, cap1, rfl, hg, hgl, hto⟩ := tab_own hown1 (by omega)
  replace hgrow : (W1.alloc (.cells #[] 63)).grownBy w1 (some W1.heap.size) := hgrow
  have hkc : ∀ b o v, b < w.heap.size + 1 → W1.cell? ⟨b, o, none⟩ = some v → w1.cell? ⟨b, o, none⟩ = some v := fun b o v hb h => hgrow.cell (keepA _ h) (fun e' => absurd (show b = W1.heap.size from Option.some.inj e') (by omega))
  have ht : Tab B o l w1 := fun i p hp => by
    obtain ⟨h0, h1, h2⟩ := ht2.out i p hp
    exact ⟨hgrow.cell h0 (fun e' => absurd (show B = W1.heap.size from Option.some.inj e') (by omega)), hgrow.cell h1 (fun e' => absurd (show B = W1.heap.size from Option.some.inj e') (by omega)), hgrow.cell h2 (fun e' => absurd (show B = W1.heap.size from Option.some.inj e') (by omega))⟩
  have hB1w : Below w.heap.size w w1 := (show Below w.heap.size w (W1.alloc (.cells #[] 63)) by go_grown).grown hgrow (by simp; omega) (fun j e => by have := Option.some.inj e; omega)
  replace x0 := hkc _ _ _ (by omega) x0
  replace x1 := hkc _ _ _ (by omega) x1
  clear hkc hown1 hgrow hown ht2 hii hmx hby hbs hB1 hs2 hs3
  have hl1 : 1 ≤ l.length := hn.1
  have hL70 := hid hn
  clear hn
  go_wp2_with fail
  refine useF w (L1.out _ _ _ hto) (by go_grown) ?_; rintro e w2 rfl hB2 hk2 hf2 hs2
  replace x0 := hk2 _ _ _ x0
  replace x1 := hk2 _ _ _ x1
  (try clear xb); have xb := World.block_lt_of_cell? _ _ x0; (try dsimp only at xb)
  replace ht := (ht).keep hk2
  replace hto := (hto).keep hk2
  have hz2 := hB2.size
  clear hk2 hf2 hs2
  have hB2x : Below w.heap.size w (w2.alloc (.cells #[.int .i64 p1, .int .i64 p2] 24)) := by go_grown
  have x0' := (keepA (.cells #[.int .i64 p1, .int .i64 p2] 24) x0)
  have x1' := (keepA (.cells #[.int .i64 p1, .int .i64 p2] 24) x1)
  have ht' := (ht).alloc (.cells #[.int .i64 p1, .int .i64 p2] 24)
  have hto' := (hto).alloc (.cells #[.int .i64 p1, .int .i64 p2] 24)
  have a0 := (show (w2.alloc (.cells #[.int .i64 p1, .int .i64 p2] 24)).cell? ⟨w2.heap.size, 0, none⟩ = some (.int .i64 p1) by simp [go_sem])
  have af0 := (show (w2.alloc (.cells #[.int .i64 p1, .int .i64 p2] 24)).frozen? ⟨w2.heap.size, 0, none⟩ = false by simp [go_sem])
  have a1 := (show (w2.alloc (.cells #[.int .i64 p1, .int .i64 p2] 24)).cell? ⟨w2.heap.size, 1, none⟩ = some (.int .i64 p2) by simp [go_sem])
  have af1 := (show (w2.alloc (.cells #[.int .i64 p1, .int .i64 p2] 24)).frozen? ⟨w2.heap.size, 1, none⟩ = false by simp [go_sem])
  go_wp2_with fail
  replace x0 := x0'; clear x0'
  replace x1 := x1'; clear x1'
  replace ht := ht'; clear ht'
  replace hto := hto'; clear hto'
  have hz2x := hB2x.size
  generalize hv2 : (w2.alloc (.cells #[.int .i64 p1, .int .i64 p2] 24)) = v2 at *
  have ab := World.block_lt_of_cell? _ _ a0; (try dsimp only at ab)
  have xb2 := xb
  clear hv2 hB2
  generalize w2.heap.size = B2 at *
  refine useF w (L2.out _ ht) (by go_grown) ?_; rintro e w3 rfl hB3 hk3 hf3 hs3
  replace x0 := hk3 _ _ _ x0
  replace x1 := hk3 _ _ _ x1
  (try clear xb); have xb := World.block_lt_of_cell? _ _ x0; (try dsimp only at xb)
  replace a0 := hk3 _ _ _ a0
  replace a1 := hk3 _ _ _ a1
  (try clear ab); have ab := World.block_lt_of_cell? _ _ a0; (try dsimp only at ab)
  replace ht := (ht).keep hk3
  replace hto := (hto).keep hk3
  have hz3 := hB3.size
  clear hk3 hf3 hs3
  have hB3x : Below w.heap.size w (w3.alloc (.cells #[.int .i64 p1, .int .i64 p2] 24)) := by go_grown
  have x0' := (keepA (.cells #[.int .i64 p1, .int .i64 p2] 24) x0)
  have x1' := (keepA (.cells #[.int .i64 p1, .int .i64 p2] 24) x1)
  have a0' := (keepA (.cells #[.int .i64 p1, .int .i64 p2] 24) a0)
  have a1' := (keepA (.cells #[.int .i64 p1, .int .i64 p2] 24) a1)
  have ht' := (ht).alloc (.cells #[.int .i64 p1, .int .i64 p2] 24)
  have hto' := (hto).alloc (.cells #[.int .i64 p1, .int .i64 p2] 24)
  have b0 := (show (w3.alloc (.cells #[.int .i64 p1, .int .i64 p2] 24)).cell? ⟨w3.heap.size, 0, none⟩ = some (.int .i64 p1) by simp [go_sem])
  have bf0 := (show (w3.alloc (.cells #[.int .i64 p1, .int .i64 p2] 24)).frozen? ⟨w3.heap.size, 0, none⟩ = false by simp [go_sem])
  have b1 := (show (w3.alloc (.cells #[.int .i64 p1, .int .i64 p2] 24)).cell? ⟨w3.heap.size, 1, none⟩ = some (.int .i64 p2) by simp [go_sem])
  have bf1 := (show (w3.alloc (.cells #[.int .i64 p1, .int .i64 p2] 24)).frozen? ⟨w3.heap.size, 1, none⟩ = false by simp [go_sem])
  go_wp2_with fail
  replace x0 := x0'; clear x0'
  replace x1 := x1'; clear x1'
  replace a0 := a0'; clear a0'
  replace a1 := a1'; clear a1'
  replace ht := ht'; clear ht'
  replace hto := hto'; clear hto'
  have hz3x := hB3x.size
  generalize hv3 : (w3.alloc (.cells #[.int .i64 p1, .int .i64 p2] 24)) = v3 at *
  have bb := World.block_lt_of_cell? _ _ b0; (try dsimp only at bb)
  have xb3 := xb
  have ab3 := ab
  clear hv3 hB3
  generalize w3.heap.size = B3 at *
  clear L1 L2 x0 x1 xb
  have hab : w.heap.size < B2 ∧ B2 < B3 := ⟨by omega, by omega⟩
  have hAB : LAB B2 B3 p1 p2 v3 := ⟨a0, a1, b0, b1⟩
  clear a0 a1 b0 b1 af0 af1 bf0 bf1
  go_loopw [31] (fun s wx => ∃ k : Nat, s = .int .i64 k ∧ k ≤ l.length ∧ Tab B o l wx ∧ Tab g 0 l wx ∧ LAB B2 B3 p1 p2 wx ∧ Below w.heap.size w wx) (fun s _ => (l.length - intOf s).toNat)
  case atStart => exact ⟨0, rfl, by omega, ht, hto, hAB, by assumption⟩
  case round =>
    clear ht hto hAB
    obtain ⟨k, rfl, hk, ht, hto, ⟨a0, a1, b0, b1⟩, hB⟩ := hrel
    have hzr := hB.size
    by_cases ke : k = l.length
    · subst ke
      have kk : ¬ (l.length : Int) < l.length := by omega
      have ss := hid (fun W => same_eq p1 p2 p3 W)
      go_wp2_with fail
      refine useF w (L3.out _ ht) (by go_grown) ?_; rintro e w11 rfl hB11 hk11 hf11 hs11
      replace a0 := hk11 _ _ _ a0
      replace a1 := hk11 _ _ _ a1
      (try clear ab); have ab := World.block_lt_of_cell? _ _ a0; (try dsimp only at ab)
      replace b0 := hk11 _ _ _ b0
      replace b1 := hk11 _ _ _ b1
      (try clear bb); have bb := World.block_lt_of_cell? _ _ b0; (try dsimp only at bb)
      replace ht := (ht).keep hk11
      have hz11 := hB11.size
      clear hk11 hf11 hs11
      go_wp2_with fail
      refine useF w (L4.out _ ht) (by go_grown) ?_; rintro e w12 rfl hB12 hk12 hf12 hs12
      replace a0 := hk12 _ _ _ a0
      replace a1 := hk12 _ _ _ a1
      (try clear ab); have ab := World.block_lt_of_cell? _ _ a0; (try dsimp only at ab)
      replace b0 := hk12 _ _ _ b0
      replace b1 := hk12 _ _ _ b1
      (try clear bb); have bb := World.block_lt_of_cell? _ _ b0; (try dsimp only at bb)
      have hz12 := hB12.size
      clear hk12 hf12 hs12
      go_wp2_with fail
      refine useF w (ss.out _) (by go_grown) ?_; rintro e w13 rfl hB13 hk13 hf13 hs13
      replace a0 := hk13 _ _ _ a0
      replace a1 := hk13 _ _ _ a1
      (try clear ab); have ab := World.block_lt_of_cell? _ _ a0; (try dsimp only at ab)
      replace b0 := hk13 _ _ _ b0
      replace b1 := hk13 _ _ _ b1
      (try clear bb); have bb := World.block_lt_of_cell? _ _ b0; (try dsimp only at bb)
      have hz13 := hB13.size
      clear hk13 hf13 hs13
      go_wp2_with fail
      go_ret
      exact ⟨rfl, by go_grown⟩
    · have hk1 : k < l.length := by omega
      obtain ⟨p, hp⟩ := get_some hk1
      obtain ⟨c0, c1, c2⟩ := ht k p hp
      obtain ⟨d0, d1, d2⟩ := hto k p hp
      obtain ⟨x, lo, hi⟩ := p
      rw [Nat.zero_add] at d0 d1 d2
      dsimp only at c0 c1 c2 d0 d1 d2
      have hk0 : (0 : Int) ≤ k := by omega
      have hk2 : (k : Int) < l.length := by omega
      clear L3 L4 hp
      go_wp2_with fail
      refine wp_region_held_drew (S := (fun w' => w'.cell? ⟨B2, 0, none⟩ = some (.int .i64 p1) ∧ w'.cell? ⟨B2, 1, none⟩ = some (.int .i64 p2) ∧ w'.cell? ⟨B3, 0, none⟩ = some (.int .i64 p1) ∧ w'.cell? ⟨B3, 1, none⟩ = some (.int .i64 p2) ∧ w'.cell? ⟨B, o + k * 3, none⟩ = some (.int .i64 x) ∧ w'.cell? ⟨B, o + k * 3 + 1, none⟩ = some (.int .i64 lo) ∧ w'.cell? ⟨B, o + k * 3 + 2, none⟩ = some (.int .i64 hi) ∧ w'.cell? ⟨g, k * 3, none⟩ = some (.int .i64 x) ∧ w'.cell? ⟨g, k * 3 + 1, none⟩ = some (.int .i64 lo) ∧ w'.cell? ⟨g, k * 3 + 2, none⟩ = some (.int .i64 hi))) (by kernel_rfl) (by (try dsimp only); (first | (exact ⟨hk1 _ _ _ (hOld.1), hk1 _ _ _ (hOld.2.1), hk1 _ _ _ (hOld.2.2.1), hk1 _ _ _ (hOld.2.2.2.1), hk1 _ _ _ (hOld.2.2.2.2.1), hk1 _ _ _ (hOld.2.2.2.2.2.1), hk1 _ _ _ (hOld.2.2.2.2.2.2.1), hk1 _ _ _ (hOld.2.2.2.2.2.2.2.1), hk1 _ _ _ (hOld.2.2.2.2.2.2.2.2.1), hk1 _ _ _ (hOld.2.2.2.2.2.2.2.2.2)⟩) | ((try simp only [World.cell?_drew, World.frozen?_drew]); (repeat' apply And.intro) <;> (first | (with_reducible assumption) | (with_reducible exact ⟨_, by assumption⟩) | (with_reducible exact ⟨_, two_other (by assumption) (by omega)⟩) | (with_reducible exact two_0 (by assumption)) | (with_reducible exact two_1 (by assumption)) | (with_reducible exact two_other (by assumption) (by omega)) | (with_reducible exact two_fz (by assumption)) | (with_reducible exact keepA _ (by assumption)) | (with_reducible exact keepA _ (keepA _ (keepA _ (by assumption)))) | (simp (maxDischargeDepth := 8) [*, go_sem, World.cell?_alloc_some, World.cell?_setCell_far]; done))) | (go_keep; done) | (simp (maxDischargeDepth := 8) [*, go_sem, World.cell?_alloc_some, World.cell?_setCell_far]; done))) (fun hHeld => ?_)
      (refine wpAnyH_take (i := 0) (oi := ⟨some 34, _, _, _, _, none⟩) (v := ?_) rfl (by kernel_rfl) (by kernel_rfl) (by kernel_rfl) (fun _ _ _ h => h) (Or.inl ⟨by rfl, ?_⟩) hHeld ?_; rotate_left; (· (intro w9 hSw; (try dsimp only at hSw); go_simp; (try with_reducible rfl))))
      (try simp only [Act.put, List.setIfInBounds_toArray, List.set_cons_zero, List.set_cons_succ])
      (refine wpAnyH_take (i := 1) (oi := ⟨some 35, _, _, _, _, none⟩) (v := ?_) rfl (by kernel_rfl) (by kernel_rfl) (by kernel_rfl) (fun _ _ _ h => h) (Or.inl ⟨by rfl, ?_⟩) hHeld ?_; rotate_left; (· (intro w9 hSw; (try dsimp only at hSw); go_simp; (try with_reducible rfl))))
      (try simp only [Act.put, List.setIfInBounds_toArray, List.set_cons_zero, List.set_cons_succ])
      (refine wpAnyH_take (i := 2) (oi := ⟨some 36, _, _, _, _, none⟩) (v := ?_) rfl (by kernel_rfl) (by kernel_rfl) (by kernel_rfl) (fun _ _ _ h => h) (Or.inl ⟨by rfl, ?_⟩) hHeld ?_; rotate_left; (· (intro w9 hSw; (try dsimp only at hSw); go_simp; (try with_reducible rfl))))
      (try simp only [Act.put, List.setIfInBounds_toArray, List.set_cons_zero, List.set_cons_succ])
      (refine wpAnyH_take (i := 3) (oi := ⟨some 37, _, _, _, _, none⟩) (v := ?_) rfl (by kernel_rfl) (by kernel_rfl) (by kernel_rfl) (fun _ _ _ h => h) (Or.inl ⟨by rfl, ?_⟩) hHeld ?_; rotate_left; (· (intro w9 hSw; (try dsimp only at hSw); go_simp; (try with_reducible rfl))))
      (try simp only [Act.put, List.setIfInBounds_toArray, List.set_cons_zero, List.set_cons_succ])
      (refine wpAnyH_take (i := 4) (oi := ⟨some 38, _, _, _, _, none⟩) (v := ?_) rfl (by kernel_rfl) (by kernel_rfl) (by kernel_rfl) (fun _ _ _ h => h) (Or.inl ⟨by rfl, ?_⟩) hHeld ?_; rotate_left; (· (intro w9 hSw; (try dsimp only at hSw); go_simp; (try with_reducible rfl))))
      (try simp only [Act.put, List.setIfInBounds_toArray, List.set_cons_zero, List.set_cons_succ])
      (refine wpAnyH_take (i := 5) (oi := ⟨some 39, _, _, _, _, none⟩) (v := ?_) rfl (by kernel_rfl) (by kernel_rfl) (by kernel_rfl) (fun _ _ _ h => h) (Or.inl ⟨by rfl, ?_⟩) hHeld ?_; rotate_left; (· (intro w9 hSw; (try dsimp only at hSw); go_simp; (try with_reducible rfl))))
      (try simp only [Act.put, List.setIfInBounds_toArray, List.set_cons_zero, List.set_cons_succ])
      (refine wpAnyH_take (i := 6) (oi := ⟨some 40, _, _, _, _, none⟩) (v := ?_) rfl (by kernel_rfl) (by kernel_rfl) (by kernel_rfl) (fun _ _ _ h => h) (Or.inl ⟨by rfl, ?_⟩) hHeld ?_; rotate_left; (· (intro w9 hSw; (try dsimp only at hSw); go_simp; (try with_reducible rfl))))
      (try simp only [Act.put, List.setIfInBounds_toArray, List.set_cons_zero, List.set_cons_succ])
      (refine wpAnyH_take (i := 7) (oi := ⟨some 41, _, _, _, _, none⟩) (v := ?_) rfl (by kernel_rfl) (by kernel_rfl) (by kernel_rfl) (fun _ _ _ h => h) (Or.inl ⟨by rfl, ?_⟩) hHeld ?_; rotate_left; (· (intro w9 hSw; (try dsimp only at hSw); go_simp; (try with_reducible rfl))))
      (try simp only [Act.put, List.setIfInBounds_toArray, List.set_cons_zero, List.set_cons_succ])
      (refine wpAnyH_take (i := 8) (oi := ⟨some 42, _, _, _, _, none⟩) (v := ?_) rfl (by kernel_rfl) (by kernel_rfl) (by kernel_rfl) (fun _ _ _ h => h) (Or.inl ⟨by rfl, ?_⟩) hHeld ?_; rotate_left; (· (intro w9 hSw; (try dsimp only at hSw); go_simp; (try with_reducible rfl))))
      (try simp only [Act.put, List.setIfInBounds_toArray, List.set_cons_zero, List.set_cons_succ])
      refine wpAnyH_done (by kernel_rfl) ?_ _
      obtain ⟨a0, a1, b0, b1, _⟩ := hHeld
      go_wp2_with fail
      go_roundw
      case rel => exact ⟨k + 1, by go_num, by omega, Tab.drew ht, Tab.drew hto, ⟨a0, a1, b0, b1⟩, by go_grown⟩
      case measure => first | (simp [intOf]; done) | (simp [intOf]; omega)
theorem tables_none (q : Option Addr) (cap : Nat) (hq : q = none → cap = 0) (xl xh : Int) (w : World) (p1 p2 p3 c : Int)
    (L1 : Hid (∀ (q : Option Addr) (cap : Nat) (w : World), Calls Try.prog 63 #[.slice q 0 cap, .agg #[.int .i64 xl, .int .i64 xh]] w fun e w' => e = .returned (.tuple #[.agg #[.int .i64 p1, .int .i64 p2], .int .i64 p3 ]) ∧ Below w.heap.size w w'))
    (L2 : Hid (∀ w : World, Calls Try.prog 64 #[.slice q 0 cap, .agg #[.int .i64 xl, .int .i64 xh]] w fun e w' => e = .returned (.tuple #[.agg #[.int .i64 p1, .int .i64 p2], .int .i64 p3 ]) ∧ Below w.heap.size w w'))
    (L3 : Hid (∀ w : World, Calls Try.prog 65 #[.slice q 0 cap] w fun e w' => e = .returned (.int .i64 c) ∧ Below w.heap.size w w'))
    (L4 : Hid (∀ w : World, Calls Try.prog 66 #[.slice q 0 cap] w fun e w' => e = .returned (.int .i64 c) ∧ Below w.heap.size w w')) :
    Calls Try.prog 9 #[.slice q 0 cap, .agg #[.int .i64 xl, .int .i64 xh]] w fun e w' => e = .returned (.bool true) ∧ Below w.heap.size w w' := by
  obtain ⟨i0, hi0, hz0, hz1, hz2⟩ := info_parts Try.infoP
  have hii := hid (And.intro hi0 (And.intro hz0 (And.intro hz1 hz2)))
  clear hi0 hz0 hz1 hz2
  go_enter Try.func9, Try.ntmps9
  go_upto_region 3 with fail
  obtain ⟨W1, hW1⟩ : ∃ W, W = w.alloc (.cells #[.int .i64 xl, .int .i64 xh] 24) := ⟨_, rfl⟩
  rw [← hW1]
  have hs1 : W1.heap.size = w.heap.size + 1 := by rw [hW1]; simp
  have x0 : W1.cell? ⟨w.heap.size, 0, none⟩ = some (.int .i64 xl) := by rw [hW1]; simp [go_sem]
  have x1 : W1.cell? ⟨w.heap.size, 1, none⟩ = some (.int .i64 xh) := by rw [hW1]; simp [go_sem]
  have hB1 : Below w.heap.size w W1 := by rw [hW1]; go_grown
  clear hW1
  have hown : (W1.alloc (.cells #[] 63)).ownsRow (w.heap.size + 1) 63 3 (.slice (some ⟨W1.heap.size, 0, none⟩) 0 0) 0 [] := World.ownsRow_made W1 #[] 0 (by omega) (by unfold maxLen; omega) rfl
  have hs2 : w.heap.size + 1 ≤ W1.heap.size := by omega
  have hs3 : W1.heap.size ≤ w.heap.size + 1 := by omega
  clear hs1
  rcases q with _ | ⟨bq, oq, sq⟩
  · obtain rfl := hq rfl
    go_upto_region 4 with ((at_builtin; refine wpList_append_own_none rfl _ _ 59 rfl (w.heap.size + 1) 63 i0 3 Try.underlying59 hii.out.1 _ _ _ rfl hown rfl ?_))
    replace x0 := keepA (.cells #[] 63) x0
    replace x1 := keepA (.cells #[] 63) x1
    have hB1w : Below w.heap.size w (W1.alloc (.cells #[] 63)) := by go_grown
    clear hown hii
    generalize W1.alloc (.cells #[] 63) = w1 at *
    clear hB1
    go_wp2_with fail
    refine useF w (L1.out _ _ _) (by go_grown) ?_; rintro e w2 rfl hB2 hk2 hf2 hs2
    replace x0 := hk2 _ _ _ x0
    replace x1 := hk2 _ _ _ x1
    (try clear xb); have xb := World.block_lt_of_cell? _ _ x0; (try dsimp only at xb)
    have hz2 := hB2.size
    clear hk2 hf2 hs2
    have hB2x : Below w.heap.size w (w2.alloc (.cells #[.int .i64 p1, .int .i64 p2] 24)) := by go_grown
    have x0' := (keepA (.cells #[.int .i64 p1, .int .i64 p2] 24) x0)
    have x1' := (keepA (.cells #[.int .i64 p1, .int .i64 p2] 24) x1)
    have a0 := (show (w2.alloc (.cells #[.int .i64 p1, .int .i64 p2] 24)).cell? ⟨w2.heap.size, 0, none⟩ = some (.int .i64 p1) by simp [go_sem])
    have af0 := (show (w2.alloc (.cells #[.int .i64 p1, .int .i64 p2] 24)).frozen? ⟨w2.heap.size, 0, none⟩ = false by simp [go_sem])
    have a1 := (show (w2.alloc (.cells #[.int .i64 p1, .int .i64 p2] 24)).cell? ⟨w2.heap.size, 1, none⟩ = some (.int .i64 p2) by simp [go_sem])
    have af1 := (show (w2.alloc (.cells #[.int .i64 p1, .int .i64 p2] 24)).frozen? ⟨w2.heap.size, 1, none⟩ = false by simp [go_sem])
    go_wp2_with fail
    replace x0 := x0'; clear x0'
    replace x1 := x1'; clear x1'
    have hz2x := hB2x.size
    generalize hv2 : (w2.alloc (.cells #[.int .i64 p1, .int .i64 p2] 24)) = v2 at *
    have ab := World.block_lt_of_cell? _ _ a0; (try dsimp only at ab)
    have xb2 := xb
    clear hv2 hB2
    generalize w2.heap.size = B2 at *
    refine useF w (L2.out _) (by go_grown) ?_; rintro e w3 rfl hB3 hk3 hf3 hs3
    replace x0 := hk3 _ _ _ x0
    replace x1 := hk3 _ _ _ x1
    (try clear xb); have xb := World.block_lt_of_cell? _ _ x0; (try dsimp only at xb)
    replace a0 := hk3 _ _ _ a0
    replace a1 := hk3 _ _ _ a1
    (try clear ab); have ab := World.block_lt_of_cell? _ _ a0; (try dsimp only at ab)
    have hz3 := hB3.size
    clear hk3 hf3 hs3
    have hB3x : Below w.heap.size w (w3.alloc (.cells #[.int .i64 p1, .int .i64 p2] 24)) := by go_grown
    have x0' := (keepA (.cells #[.int .i64 p1, .int .i64 p2] 24) x0)
    have x1' := (keepA (.cells #[.int .i64 p1, .int .i64 p2] 24) x1)
    have a0' := (keepA (.cells #[.int .i64 p1, .int .i64 p2] 24) a0)
    have a1' := (keepA (.cells #[.int .i64 p1, .int .i64 p2] 24) a1)
    have b0 := (show (w3.alloc (.cells #[.int .i64 p1, .int .i64 p2] 24)).cell? ⟨w3.heap.size, 0, none⟩ = some (.int .i64 p1) by simp [go_sem])
    have bf0 := (show (w3.alloc (.cells #[.int .i64 p1, .int .i64 p2] 24)).frozen? ⟨w3.heap.size, 0, none⟩ = false by simp [go_sem])
    have b1 := (show (w3.alloc (.cells #[.int .i64 p1, .int .i64 p2] 24)).cell? ⟨w3.heap.size, 1, none⟩ = some (.int .i64 p2) by simp [go_sem])
    have bf1 := (show (w3.alloc (.cells #[.int .i64 p1, .int .i64 p2] 24)).frozen? ⟨w3.heap.size, 1, none⟩ = false by simp [go_sem])
    go_wp2_with fail
    replace x0 := x0'; clear x0'
    replace x1 := x1'; clear x1'
    replace a0 := a0'; clear a0'
    replace a1 := a1'; clear a1'
    have hz3x := hB3x.size
    generalize hv3 : (w3.alloc (.cells #[.int .i64 p1, .int .i64 p2] 24)) = v3 at *
    have bb := World.block_lt_of_cell? _ _ b0; (try dsimp only at bb)
    have xb3 := xb
    have ab3 := ab
    clear hv3 hB3
    generalize w3.heap.size = B3 at *
    have ss := hid (fun W => same_eq p1 p2 p3 W)
    clear L1 L2 x0 x1 xb af0 af1 bf0 bf1
    go_loopw [31] (fun s wx => s = .int .i64 0 ∧ LAB B2 B3 p1 p2 wx ∧ Below w.heap.size w wx) (fun _ _ => 0)
    case atStart => exact ⟨rfl, ⟨a0, a1, b0, b1⟩, by assumption⟩
    case round =>
      clear a0 a1 b0 b1
      obtain ⟨rfl, ⟨a0, a1, b0, b1⟩, hB⟩ := hrel
      have hzr := hB.size
      go_wp2_with fail
      refine useF w (L3.out _) (by go_grown) ?_; rintro e w11 rfl hB11 hk11 hf11 hs11
      replace a0 := hk11 _ _ _ a0
      replace a1 := hk11 _ _ _ a1
      (try clear ab); have ab := World.block_lt_of_cell? _ _ a0; (try dsimp only at ab)
      replace b0 := hk11 _ _ _ b0
      replace b1 := hk11 _ _ _ b1
      (try clear bb); have bb := World.block_lt_of_cell? _ _ b0; (try dsimp only at bb)
      have hz11 := hB11.size
      clear hk11 hf11 hs11
      go_wp2_with fail
      refine useF w (L4.out _) (by go_grown) ?_; rintro e w12 rfl hB12 hk12 hf12 hs12
      replace a0 := hk12 _ _ _ a0
      replace a1 := hk12 _ _ _ a1
      (try clear ab); have ab := World.block_lt_of_cell? _ _ a0; (try dsimp only at ab)
      replace b0 := hk12 _ _ _ b0
      replace b1 := hk12 _ _ _ b1
      (try clear bb); have bb := World.block_lt_of_cell? _ _ b0; (try dsimp only at bb)
      have hz12 := hB12.size
      clear hk12 hf12 hs12
      go_wp2_with fail
      refine useF w (ss.out _) (by go_grown) ?_; rintro e w13 rfl hB13 hk13 hf13 hs13
      replace a0 := hk13 _ _ _ a0
      replace a1 := hk13 _ _ _ a1
      (try clear ab); have ab := World.block_lt_of_cell? _ _ a0; (try dsimp only at ab)
      replace b0 := hk13 _ _ _ b0
      replace b1 := hk13 _ _ _ b1
      (try clear bb); have bb := World.block_lt_of_cell? _ _ b0; (try dsimp only at bb)
      have hz13 := hB13.size
      clear hk13 hf13 hs13
      go_wp2_with fail
      go_ret
      exact ⟨rfl, by go_grown⟩
  · have hmx : 0 + 0 ≤ maxLen := by unfold maxLen; omega
    have hby : (0 + 0) * 24 ≤ 140737488355328 := by omega
    have hbs : w.heap.size + 1 ≤ (W1.alloc (.cells #[] 63)).heap.size := by simp; omega
    go_upto_region 4 with ((at_builtin; refine wpList_append_own _ rfl _ _ 59 rfl (w.heap.size + 1) 63 i0 (.agg #[.int .i64 0, .int .i64 0, .int .i64 0]) 3 24 Try.underlying59 hii.out.1 hii.out.2.1 hii.out.2.2.1 hii.out.2.2.2 rfl (by decide) _ _ _ rfl hown ⟨bq, oq, sq⟩ 0 cap [] rfl rfl (fun _ _ h => by simp at h) (fun _ h => by cases h) hmx hby hbs ?_; intro v1 w1 hown1 hgrow _))
    obtain ⟨q1, cap1, rfl⟩ : ∃ q1 cap1, v1 = .slice q1 0 cap1 := by
      rcases hown1.2 with ⟨rfl, _⟩ | ⟨g, cp, cur, rfl, _⟩
      · exact ⟨_, _, rfl⟩
      · exact ⟨_, _, rfl⟩
    replace hgrow : (W1.alloc (.cells #[] 63)).grownBy w1 (some W1.heap.size) := hgrow
    have hkc : ∀ b o v, b < w.heap.size + 1 → W1.cell? ⟨b, o, none⟩ = some v → w1.cell? ⟨b, o, none⟩ = some v := fun b o v hb h => hgrow.cell (keepA _ h) (fun e' => absurd (show b = W1.heap.size from Option.some.inj e') (by omega))
    have hB1w : Below w.heap.size w w1 := (show Below w.heap.size w (W1.alloc (.cells #[] 63)) by go_grown).grown hgrow (by simp; omega) (fun j e => by have := Option.some.inj e; omega)
    replace x0 := hkc _ _ _ (by omega) x0
    replace x1 := hkc _ _ _ (by omega) x1
    clear hkc hown1 hgrow hown hii hmx hby hbs
    clear hB1
    go_wp2_with fail
    refine useF w (L1.out _ _ _) (by go_grown) ?_; rintro e w2 rfl hB2 hk2 hf2 hs2
    replace x0 := hk2 _ _ _ x0
    replace x1 := hk2 _ _ _ x1
    (try clear xb); have xb := World.block_lt_of_cell? _ _ x0; (try dsimp only at xb)
    have hz2 := hB2.size
    clear hk2 hf2 hs2
    have hB2x : Below w.heap.size w (w2.alloc (.cells #[.int .i64 p1, .int .i64 p2] 24)) := by go_grown
    have x0' := (keepA (.cells #[.int .i64 p1, .int .i64 p2] 24) x0)
    have x1' := (keepA (.cells #[.int .i64 p1, .int .i64 p2] 24) x1)
    have a0 := (show (w2.alloc (.cells #[.int .i64 p1, .int .i64 p2] 24)).cell? ⟨w2.heap.size, 0, none⟩ = some (.int .i64 p1) by simp [go_sem])
    have af0 := (show (w2.alloc (.cells #[.int .i64 p1, .int .i64 p2] 24)).frozen? ⟨w2.heap.size, 0, none⟩ = false by simp [go_sem])
    have a1 := (show (w2.alloc (.cells #[.int .i64 p1, .int .i64 p2] 24)).cell? ⟨w2.heap.size, 1, none⟩ = some (.int .i64 p2) by simp [go_sem])
    have af1 := (show (w2.alloc (.cells #[.int .i64 p1, .int .i64 p2] 24)).frozen? ⟨w2.heap.size, 1, none⟩ = false by simp [go_sem])
    go_wp2_with fail
    replace x0 := x0'; clear x0'
    replace x1 := x1'; clear x1'
    have hz2x := hB2x.size
    generalize hv2 : (w2.alloc (.cells #[.int .i64 p1, .int .i64 p2] 24)) = v2 at *
    have ab := World.block_lt_of_cell? _ _ a0; (try dsimp only at ab)
    have xb2 := xb
    clear hv2 hB2
    generalize w2.heap.size = B2 at *
    refine useF w (L2.out _) (by go_grown) ?_; rintro e w3 rfl hB3 hk3 hf3 hs3
    replace x0 := hk3 _ _ _ x0
    replace x1 := hk3 _ _ _ x1
    (try clear xb); have xb := World.block_lt_of_cell? _ _ x0; (try dsimp only at xb)
    replace a0 := hk3 _ _ _ a0
    replace a1 := hk3 _ _ _ a1
    (try clear ab); have ab := World.block_lt_of_cell? _ _ a0; (try dsimp only at ab)
    have hz3 := hB3.size
    clear hk3 hf3 hs3
    have hB3x : Below w.heap.size w (w3.alloc (.cells #[.int .i64 p1, .int .i64 p2] 24)) := by go_grown
    have x0' := (keepA (.cells #[.int .i64 p1, .int .i64 p2] 24) x0)
    have x1' := (keepA (.cells #[.int .i64 p1, .int .i64 p2] 24) x1)
    have a0' := (keepA (.cells #[.int .i64 p1, .int .i64 p2] 24) a0)
    have a1' := (keepA (.cells #[.int .i64 p1, .int .i64 p2] 24) a1)
    have b0 := (show (w3.alloc (.cells #[.int .i64 p1, .int .i64 p2] 24)).cell? ⟨w3.heap.size, 0, none⟩ = some (.int .i64 p1) by simp [go_sem])
    have bf0 := (show (w3.alloc (.cells #[.int .i64 p1, .int .i64 p2] 24)).frozen? ⟨w3.heap.size, 0, none⟩ = false by simp [go_sem])
    have b1 := (show (w3.alloc (.cells #[.int .i64 p1, .int .i64 p2] 24)).cell? ⟨w3.heap.size, 1, none⟩ = some (.int .i64 p2) by simp [go_sem])
    have bf1 := (show (w3.alloc (.cells #[.int .i64 p1, .int .i64 p2] 24)).frozen? ⟨w3.heap.size, 1, none⟩ = false by simp [go_sem])
    go_wp2_with fail
    replace x0 := x0'; clear x0'
    replace x1 := x1'; clear x1'
    replace a0 := a0'; clear a0'
    replace a1 := a1'; clear a1'
    have hz3x := hB3x.size
    generalize hv3 : (w3.alloc (.cells #[.int .i64 p1, .int .i64 p2] 24)) = v3 at *
    have bb := World.block_lt_of_cell? _ _ b0; (try dsimp only at bb)
    have xb3 := xb
    have ab3 := ab
    clear hv3 hB3
    generalize w3.heap.size = B3 at *
    have ss := hid (fun W => same_eq p1 p2 p3 W)
    clear L1 L2 x0 x1 xb af0 af1 bf0 bf1
    go_loopw [31] (fun s wx => s = .int .i64 0 ∧ LAB B2 B3 p1 p2 wx ∧ Below w.heap.size w wx) (fun _ _ => 0)
    case atStart => exact ⟨rfl, ⟨a0, a1, b0, b1⟩, by assumption⟩
    case round =>
      clear a0 a1 b0 b1
      obtain ⟨rfl, ⟨a0, a1, b0, b1⟩, hB⟩ := hrel
      have hzr := hB.size
      go_wp2_with fail
      refine useF w (L3.out _) (by go_grown) ?_; rintro e w11 rfl hB11 hk11 hf11 hs11
      replace a0 := hk11 _ _ _ a0
      replace a1 := hk11 _ _ _ a1
      (try clear ab); have ab := World.block_lt_of_cell? _ _ a0; (try dsimp only at ab)
      replace b0 := hk11 _ _ _ b0
      replace b1 := hk11 _ _ _ b1
      (try clear bb); have bb := World.block_lt_of_cell? _ _ b0; (try dsimp only at bb)
      have hz11 := hB11.size
      clear hk11 hf11 hs11
      go_wp2_with fail
      refine useF w (L4.out _) (by go_grown) ?_; rintro e w12 rfl hB12 hk12 hf12 hs12
      replace a0 := hk12 _ _ _ a0
      replace a1 := hk12 _ _ _ a1
      (try clear ab); have ab := World.block_lt_of_cell? _ _ a0; (try dsimp only at ab)
      replace b0 := hk12 _ _ _ b0
      replace b1 := hk12 _ _ _ b1
      (try clear bb); have bb := World.block_lt_of_cell? _ _ b0; (try dsimp only at bb)
      have hz12 := hB12.size
      clear hk12 hf12 hs12
      go_wp2_with fail
      refine useF w (ss.out _) (by go_grown) ?_; rintro e w13 rfl hB13 hk13 hf13 hs13
      replace a0 := hk13 _ _ _ a0
      replace a1 := hk13 _ _ _ a1
      (try clear ab); have ab := World.block_lt_of_cell? _ _ a0; (try dsimp only at ab)
      replace b0 := hk13 _ _ _ b0
      replace b1 := hk13 _ _ _ b1
      (try clear bb); have bb := World.block_lt_of_cell? _ _ b0; (try dsimp only at bb)
      have hz13 := hB13.size
      clear hk13 hf13 hs13
      go_wp2_with fail
      go_ret
      exact ⟨rfl, by go_grown⟩
theorem tables_long (q : Option Addr) (n cap : Nat) (h : 70 < n) (xl xh : Int) (w : World) :
    Calls Try.prog 9 #[.slice q n cap, .agg #[.int .i64 xl, .int .i64 xh]] w fun e w' => e = .returned (.bool true) ∧ Below w.heap.size w w' := by
  have h70 : (70 : Int) < n := by omega
  have d70 : decide ((70 : Int) < n) = true := decide_eq_true h70
  go_enter Try.func9, Try.ntmps9
  go_wp2_with fail
  go_ret
  exact ⟨rfl, by go_grown⟩
theorem lawTables_any (q : Option Addr) (cap : Nat) (l : List (Int × Int × Int)) (xl xh : Int) (w : World) (hq : q = none → cap = 0) (hl : l = [] ∨ ∃ B o, q = some ⟨B, o, none⟩ ∧ Tab B o l w) (hb : ∀ p ∈ l, (-9223372036854775808 ≤ p.1 ∧ p.1 ≤ 9223372036854775807) ∧ (-9223372036854775808 ≤ p.2.1 ∧ p.2.1 ≤ 9223372036854775807) ∧ (-9223372036854775808 ≤ p.2.2 ∧ p.2.2 ≤ 9223372036854775807)) (hx : (-9223372036854775808 ≤ xl ∧ xl ≤ 9223372036854775807) ∧ (-9223372036854775808 ≤ xh ∧ xh ≤ 9223372036854775807)) :
    Calls Try.prog 9 #[.slice q l.length cap, .agg #[.int .i64 xl, .int .i64 xh]] w fun e w' => e = .returned (.bool true) ∧ Below w.heap.size w w' := by
  by_cases h7 : 70 < l.length
  · exact tables_long q _ cap h7 xl xh w
  · by_cases h0 : l.length = 0
    · obtain rfl := List.eq_nil_of_length_eq_zero h0
      exact tables_none q cap hq xl xh w _ _ _ 2 (fun q cap W => look_none q cap xl xh W) (fun W => rlook_none q cap xl xh W) (fun W => checkTable_none q cap W) (fun W => rcheckTable_none q cap W)
    · rcases hl with rfl | ⟨B, o, rfl, ht⟩
      · exact absurd rfl h0
      · by_cases h6 : 64 < l.length
        · exact tables_go l B o cap xl xh w ht ⟨by omega, by omega⟩ _ _ _ 2 (fun g cap W t => look_tab l xl xh g 0 cap W t (by omega) hb hx) (fun W t => rlook_tab l xl xh B o cap W t (by omega) hb hx) (fun W t => checkTable_long _ _ _ W h6) (fun W t => rcheckTable_long _ _ _ W h6)
        · exact tables_go l B o cap xl xh w ht ⟨by omega, by omega⟩ _ _ _ _ (fun g cap W t => look_tab l xl xh g 0 cap W t (by omega) hb hx) (fun W t => rlook_tab l xl xh B o cap W t (by omega) hb hx) (fun W t => checkTable_tab l B o cap W t ⟨by omega, by omega⟩ hb) (fun W t => rcheckTable_tab l B o cap W t ⟨by omega, by omega⟩ hb)
end Go.Proofs.Ytjleflfncijnpaa
