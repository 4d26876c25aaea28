/- SpanLists: the walk. -/
import Derived.Deep.DeepCutAuto
import Derived.Deep.CutBlock
import Derived.Deep.AppendLies
import Derived.Maps.AppendAt
import Derived.Laws.AppendOwnNone
import Derived.Test.YtjleflfncijnpaaRows
import Derived.Test.YtjleflfncijnpaaBase
import Derived.Test.YtjleflfncijnpaaFacts
import Derived.Test.YtjleflfncijnpaaTwo
import Derived.Deep.RegionHeld3
import Derived.Deep.RegionWith
import Derived.Deep.QuietTactic
import Derived.BigQuiet
import Derived.Test.YtjleflfncijnpaaW
import Derived.Test.YtjleflfncijnpaaAsks
import Derived.Test.YtjleflfncijnpaaOut
import Derived.Test.YtjleflfncijnpaaSeq
import Derived.Test.YtjleflfncijnpaaTwo
import Derived.Test.YtjleflfncijnpaaListM
import Derived.Test.YtjleflfncijnpaaLists
import Derived.Test.YtjleflfncijnpaaSDot
import Derived.Test.YtjleflfncijnpaaRList
import Derived.Test.YtjleflfncijnpaaRSum
import Derived.Test.YtjleflfncijnpaaRNorm
import Derived.Test.YtjleflfncijnpaaRDot
import Derived.Test.YtjleflfncijnpaaSame
set_option linter.unusedVariables false
set_option linter.unusedSimpArgs false
set_option maxHeartbeats 4000000
set_option maxRecDepth 100000
namespace Go.Proofs.Ytjleflfncijnpaa
open Go Go.RowKit
theorem Try.infoS : (Try.prog.info? 24).map (fun i => (i.zero, i.size, i.bytes)) = some (some (.agg #[.int .i64 0, .int .i64 0]), 2, 16) := by kernel_rfl
/-- A list's cells, one behind the other. -/
def flatS : List (Int × Int) → List Value
  | [] => []
  | p :: l => .int .i64 p.1 :: .int .i64 p.2 :: flatS l
theorem flatS_len : ∀ l : List (Int × Int), (flatS l).length = l.length * 2
  | [] => rfl
  | p :: l => by simp only [flatS, List.length_cons, flatS_len l]; omega
theorem flatS_one : ∀ (l : List (Int × Int)), ∀ u ∈ flatS l, u.oneCell' = true
  | [], u, h => by cases h
  | p :: l, u, h => by
    simp only [flatS, List.mem_cons] at h
    rcases h with rfl | rfl | h
    · rfl
    · rfl
    · exact flatS_one l u h
theorem flatS_get : ∀ (l : List (Int × Int)) (i : Nat) (p : Int × Int), l[i]? = some p → (flatS l)[i * 2]? = some (.int .i64 p.1) ∧ (flatS l)[i * 2 + 1]? = some (.int .i64 p.2)
  | [], i, p, h => by simp at h
  | q :: l, 0, p, h => by simp at h; subst h; exact ⟨rfl, rfl⟩
  | q :: l, i + 1, p, h => by
    have := flatS_get l i p (by simpa using h)
    simp only [flatS]
    rw [show (i + 1) * 2 = i * 2 + 1 + 1 by omega]
    simpa using this
theorem flatS_inv : ∀ (l : List (Int × Int)) (j : Nat) (u : Value), (flatS l)[j]? = some u → ∃ i p, l[i]? = some p ∧ ((j = i * 2 ∧ u = .int .i64 p.1) ∨ (j = i * 2 + 1 ∧ u = .int .i64 p.2))
  | [], j, u, h => by simp [flatS] at h
  | q :: l, 0, u, h => ⟨0, q, rfl, Or.inl ⟨rfl, by simp [flatS] at h; exact h.symm⟩⟩
  | q :: l, 1, u, h => ⟨0, q, rfl, Or.inr ⟨rfl, by simp [flatS] at h; exact h.symm⟩⟩
  | q :: l, j + 2, u, h => by
    obtain ⟨i, p, hp, hh⟩ := flatS_inv l j u (by simpa [flatS] using h)
    exact ⟨i + 1, p, by simpa using hp, by rcases hh with ⟨a, b⟩ | ⟨a, b⟩; exact Or.inl ⟨by omega, b⟩; exact Or.inr ⟨by omega, b⟩⟩
theorem add_offS (B o j : Nat) : (Addr.mk B o none).add j = ⟨B, o + j, none⟩ := by
  unfold Addr.add; split
  · rename_i h; subst h; rfl
  · rfl
theorem spans_flat {B o : Nat} {l : List (Int × Int)} {w : World} (h : Spans B o l w) : ∀ j u, (flatS l)[j]? = some u → w.cell? ((Addr.mk B o none).add j) = some u := fun j u hu => by
  obtain ⟨i, p, hp, hh⟩ := flatS_inv l j u hu
  obtain ⟨h0, h1⟩ := h i p hp
  rw [add_offS]
  rcases hh with ⟨rfl, rfl⟩ | ⟨rfl, rfl⟩
  · exact h0
  · rw [← Nat.add_assoc]; exact h1
theorem spans_own {w : World} {base : Nat} {v : Value} {l : List (Int × Int)} (h : w.ownsRow base 24 2 v (0 + l.length) ([] ++ flatS l)) (hp : 0 < l.length) :
    ∃ g cap, v = .slice (some ⟨g, 0, none⟩) l.length cap ∧ base ≤ g ∧ g < w.heap.size ∧ Spans g 0 l w := by
  rw [Nat.zero_add, List.nil_append] at h
  obtain ⟨g, cap, hv, hb, hlt⟩ := h.form hp
  have hc := h.cells (g := g) (by rw [hv]; rfl)
  refine ⟨g, cap, hv, hb, hlt, fun i p hi => ?_⟩
  obtain ⟨f0, f1⟩ := flatS_get l i p hi
  have g0 := hc _ _ f0
  have g1 := hc _ _ f1
  rw [add_offS] at g0 g1
  rw [Nat.zero_add] at g0 g1 ⊢
  exact ⟨g0, g1⟩
theorem slp_grown {q : Option Addr} {l : List (Int × Int)} {w W1 : World} {base : Nat} (h : SLp q l w) (hlt : ∀ b o v, w.cell? ⟨b, o, none⟩ = some v → W1.cell? ⟨b, o, none⟩ = some v) : SLp q l W1 := h.keep hlt
/-- The cells of the six answers. -/
def L6 (Ba Bb Bc Bd Bp Bq : Nat) (a1 a2 c1 c2 p1 p2 : Int) : World → Prop := (fun w' => w'.cell? ⟨Ba, 0, none⟩ = some (.int .i64 a1) ∧ w'.cell? ⟨Ba, 1, none⟩ = some (.int .i64 a2) ∧ w'.cell? ⟨Bb, 0, none⟩ = some (.int .i64 a1) ∧ w'.cell? ⟨Bb, 1, none⟩ = some (.int .i64 a2) ∧ w'.cell? ⟨Bc, 0, none⟩ = some (.int .i64 c1) ∧ w'.cell? ⟨Bc, 1, none⟩ = some (.int .i64 c2) ∧ w'.cell? ⟨Bd, 0, none⟩ = some (.int .i64 c1) ∧ w'.cell? ⟨Bd, 1, none⟩ = some (.int .i64 c2) ∧ w'.cell? ⟨Bp, 0, none⟩ = some (.int .i64 p1) ∧ w'.cell? ⟨Bp, 1, none⟩ = some (.int .i64 p2) ∧ w'.cell? ⟨Bq, 0, none⟩ = some (.int .i64 p1) ∧ w'.cell? ⟨Bq, 1, none⟩ = some (.int .i64 p2))
theorem lists_go (l m : List (Int × Int)) (B o cl cm : Nat) (qm : Option Addr) (w : World) (hs : Spans B o l w) (hm : SLp qm m w) (hn : 1 ≤ l.length ∧ l.length ≤ 70) (hnm : m.length ≤ 70) (hmb : Hid (∀ b o : Nat, qm = some ⟨b, o, none⟩ → m ≠ [] → b < w.heap.size)) (a1 a2 a3 c1 c2 c3 p1 p2 p3 : Int)
    (L1 : Hid (∀ (q : Option Addr) (cap : Nat) (w : World), SLp q l w → Calls Try.prog 69 #[.slice q l.length cap] w fun e w' => e = .returned (.tuple #[.agg #[.int .i64 a1, .int .i64 a2], .int .i64 a3 ]) ∧ Below w.heap.size w w'))
    (L2 : Hid (∀ (w : World), SLp (some ⟨B, o, none⟩) l w → Calls Try.prog 70 #[.slice (some ⟨B, o, none⟩) l.length cl] w fun e w' => e = .returned (.tuple #[.agg #[.int .i64 a1, .int .i64 a2], .int .i64 a3 ]) ∧ Below w.heap.size w w'))
    (L3 : Hid (∀ (q : Option Addr) (cap : Nat) (w : World), SLp q l w → SLp qm m w → Calls Try.prog 71 #[.slice q l.length cap, .slice qm m.length cm] w fun e w' => e = .returned (.tuple #[.agg #[.int .i64 c1, .int .i64 c2], .int .i64 c3 ]) ∧ Below w.heap.size w w'))
    (L4 : Hid (∀ (w : World), SLp (some ⟨B, o, none⟩) l w → SLp qm m w → Calls Try.prog 72 #[.slice (some ⟨B, o, none⟩) l.length cl, .slice qm m.length cm] w fun e w' => e = .returned (.tuple #[.agg #[.int .i64 c1, .int .i64 c2], .int .i64 c3 ]) ∧ Below w.heap.size w w'))
    (L5 : Hid (∀ (q : Option Addr) (cap : Nat) (w : World), SLp q l w → Calls Try.prog 73 #[.slice q l.length cap] w fun e w' => e = .returned (.tuple #[.agg #[.int .i64 p1, .int .i64 p2], .int .i64 p3 ]) ∧ Below w.heap.size w w'))
    (L6' : Hid (∀ (w : World), SLp (some ⟨B, o, none⟩) l w → Calls Try.prog 74 #[.slice (some ⟨B, o, none⟩) l.length cl] w fun e w' => e = .returned (.tuple #[.agg #[.int .i64 p1, .int .i64 p2], .int .i64 p3 ]) ∧ Below w.heap.size w w')) :
    Calls Try.prog 11 #[.slice (some ⟨B, o, none⟩) l.length cl, .slice qm m.length cm] w fun e w' => e = .returned (.bool true) ∧ Below w.heap.size w w' := by
  obtain ⟨i0, hi0, hz0, hz1, hz2⟩ := info_parts Try.infoS
  have hii := hid (And.intro hi0 (And.intro hz0 (And.intro hz1 hz2)))
  clear hi0 hz0 hz1 hz2
  have m70 : ¬ (70 : Int) < m.length := by omega
  have md70 : decide ((70 : Int) < m.length) = false := decide_eq_false m70
  have h70 : ¬ (70 : Int) < l.length := by omega
  have d70 : decide ((70 : Int) < l.length) = false := decide_eq_false h70
  have hBw : B < w.heap.size := by obtain ⟨p, hp⟩ := span_some (show 0 < l.length by omega); exact hs.lt hp
  have hmx : 0 + l.length ≤ maxLen := by unfold maxLen; omega
  have hby : (0 + l.length) * 16 ≤ 140737488355328 := by omega
  have hbs : w.heap.size ≤ (w.alloc (.cells #[] 24)).heap.size := by simp
  have hown : (w.alloc (.cells #[] 24)).ownsRow w.heap.size 24 2 (.slice (some ⟨w.heap.size, 0, none⟩) 0 0) 0 [] := World.ownsRow_made w #[] 0 (Nat.le_refl _) (by unfold maxLen; omega) rfl
  have hs2 := hid (hs.alloc (.cells #[] 24))
  have hm2 := hid (hm.alloc (.cells #[] 24))
  have hl1 : 1 ≤ l.length := hn.1
  clear hs hm hn
  go_enter Try.func11, Try.ntmps11
  go_upto_region 4 with ((at_builtin; refine wpList_append_own _ rfl _ _ 68 rfl w.heap.size 24 i0 (.agg #[.int .i64 0, .int .i64 0]) 2 16 Try.underlying68 hii.out.1 hii.out.2.1 hii.out.2.2.1 hii.out.2.2.2 rfl (by decide) _ _ _ rfl hown ⟨B, o, none⟩ l.length cl (flatS l) rfl (flatS_len l) (spans_flat hs2.out) (flatS_one l) hmx hby hbs ?_; intro v1 w1 hownr hgrow _))
  obtain ⟨g, cap1, rfl, hg, hgl, hto⟩ := spans_own hownr (by omega)
  replace hgrow : (w.alloc (.cells #[] 24)).grownBy w1 (some w.heap.size) := hgrow
  have hkc : ∀ b o v, b < w.heap.size → (w.alloc (.cells #[] 24)).cell? ⟨b, o, none⟩ = some v → w1.cell? ⟨b, o, none⟩ = some v := fun b o v hb h => hgrow.cell h (fun e' => absurd (show b = w.heap.size from Option.some.inj e') (by omega))
  have hlS : Spans B o l w1 := fun i p hp => by
    obtain ⟨h0, h1⟩ := hs2.out i p hp
    exact ⟨hkc _ _ _ hBw h0, hkc _ _ _ hBw h1⟩
  have hl : SLp (some ⟨B, o, none⟩) l w1 := .inr ⟨B, o, rfl, hlS⟩
  have hown1 : SLp (some ⟨g, 0, none⟩) l w1 := .inr ⟨g, 0, rfl, hto⟩
  have hm : SLp qm m w1 := by
    rcases hm2.out with e | ⟨b, o', e, hsm⟩
    · exact .inl e
    · by_cases c : m = []
      · exact .inl c
      · exact .inr ⟨b, o', e, fun i p hp => by
          obtain ⟨h0, h1⟩ := hsm i p hp
          exact ⟨hkc _ _ _ (hmb.out b o' e c) h0, hkc _ _ _ (hmb.out b o' e c) h1⟩⟩
  have hB1w : Below w.heap.size w w1 := (show Below w.heap.size w (w.alloc (.cells #[] 24)) by go_grown).grown hgrow (by simp) (fun j e => by have := Option.some.inj e; omega)
  clear hkc hownr hgrow hown hs2 hm2 hii hmx hby hbs hmb
  go_wp2_with fail
  refine useF w (L1.out _ _ _ hown1) (by go_grown) ?_; rintro e w2 rfl hB2 hk2 hf2 hs2
  replace hl := (hl).keep hk2
  replace hm := (hm).keep hk2
  replace hown1 := (hown1).keep hk2
  replace hlS := (hlS).keep hk2
  replace hto := (hto).keep hk2
  have hz2 := hB2.size
  clear hk2 hf2 hs2
  have hB2x : Below w.heap.size w (w2.alloc (.cells #[.int .i64 a1, .int .i64 a2] 24)) := by go_grown
  have hl' := (hl).alloc (.cells #[.int .i64 a1, .int .i64 a2] 24)
  have hm' := (hm).alloc (.cells #[.int .i64 a1, .int .i64 a2] 24)
  have hown1' := (hown1).alloc (.cells #[.int .i64 a1, .int .i64 a2] 24)
  have hlS' := (hlS).alloc (.cells #[.int .i64 a1, .int .i64 a2] 24)
  have hto' := (hto).alloc (.cells #[.int .i64 a1, .int .i64 a2] 24)
  have fa0 := (show (w2.alloc (.cells #[.int .i64 a1, .int .i64 a2] 24)).cell? ⟨w2.heap.size, 0, none⟩ = some (.int .i64 a1) by simp [go_sem])
  have faf0 := (show (w2.alloc (.cells #[.int .i64 a1, .int .i64 a2] 24)).frozen? ⟨w2.heap.size, 0, none⟩ = false by simp [go_sem])
  have fa1 := (show (w2.alloc (.cells #[.int .i64 a1, .int .i64 a2] 24)).cell? ⟨w2.heap.size, 1, none⟩ = some (.int .i64 a2) by simp [go_sem])
  have faf1 := (show (w2.alloc (.cells #[.int .i64 a1, .int .i64 a2] 24)).frozen? ⟨w2.heap.size, 1, none⟩ = false by simp [go_sem])
  go_wp2_with fail
  replace hl := hl'; clear hl'
  replace hm := hm'; clear hm'
  replace hown1 := hown1'; clear hown1'
  replace hlS := hlS'; clear hlS'
  replace hto := hto'; clear hto'
  have hz2x := hB2x.size
  generalize hv2 : (w2.alloc (.cells #[.int .i64 a1, .int .i64 a2] 24)) = v2 at *
  have fab := World.block_lt_of_cell? _ _ fa0; (try dsimp only at fab)
  clear hv2 hB2
  generalize w2.heap.size = B2 at *
  refine useF w (L2.out _ hl) (by go_grown) ?_; rintro e w3 rfl hB3 hk3 hf3 hs3
  replace fa0 := hk3 _ _ _ fa0
  replace fa1 := hk3 _ _ _ fa1
  (try clear fab); have fab := World.block_lt_of_cell? _ _ fa0; (try dsimp only at fab)
  replace hl := (hl).keep hk3
  replace hm := (hm).keep hk3
  replace hown1 := (hown1).keep hk3
  replace hlS := (hlS).keep hk3
  replace hto := (hto).keep hk3
  have hz3 := hB3.size
  clear hk3 hf3 hs3
  have hB3x : Below w.heap.size w (w3.alloc (.cells #[.int .i64 a1, .int .i64 a2] 24)) := by go_grown
  have fa0' := (keepA (.cells #[.int .i64 a1, .int .i64 a2] 24) fa0)
  have fa1' := (keepA (.cells #[.int .i64 a1, .int .i64 a2] 24) fa1)
  have hl' := (hl).alloc (.cells #[.int .i64 a1, .int .i64 a2] 24)
  have hm' := (hm).alloc (.cells #[.int .i64 a1, .int .i64 a2] 24)
  have hown1' := (hown1).alloc (.cells #[.int .i64 a1, .int .i64 a2] 24)
  have hlS' := (hlS).alloc (.cells #[.int .i64 a1, .int .i64 a2] 24)
  have hto' := (hto).alloc (.cells #[.int .i64 a1, .int .i64 a2] 24)
  have fb0 := (show (w3.alloc (.cells #[.int .i64 a1, .int .i64 a2] 24)).cell? ⟨w3.heap.size, 0, none⟩ = some (.int .i64 a1) by simp [go_sem])
  have fbf0 := (show (w3.alloc (.cells #[.int .i64 a1, .int .i64 a2] 24)).frozen? ⟨w3.heap.size, 0, none⟩ = false by simp [go_sem])
  have fb1 := (show (w3.alloc (.cells #[.int .i64 a1, .int .i64 a2] 24)).cell? ⟨w3.heap.size, 1, none⟩ = some (.int .i64 a2) by simp [go_sem])
  have fbf1 := (show (w3.alloc (.cells #[.int .i64 a1, .int .i64 a2] 24)).frozen? ⟨w3.heap.size, 1, none⟩ = false by simp [go_sem])
  go_wp2_with fail
  replace fa0 := fa0'; clear fa0'
  replace fa1 := fa1'; clear fa1'
  replace hl := hl'; clear hl'
  replace hm := hm'; clear hm'
  replace hown1 := hown1'; clear hown1'
  replace hlS := hlS'; clear hlS'
  replace hto := hto'; clear hto'
  have hz3x := hB3x.size
  generalize hv3 : (w3.alloc (.cells #[.int .i64 a1, .int .i64 a2] 24)) = v3 at *
  have fbb := World.block_lt_of_cell? _ _ fb0; (try dsimp only at fbb)
  have fab3 := fab
  clear hv3 hB3
  generalize w3.heap.size = B3 at *
  refine useF w (L3.out _ _ _ hown1 hm) (by go_grown) ?_; rintro e w4 rfl hB4 hk4 hf4 hs4
  replace fa0 := hk4 _ _ _ fa0
  replace fa1 := hk4 _ _ _ fa1
  (try clear fab); have fab := World.block_lt_of_cell? _ _ fa0; (try dsimp only at fab)
  replace fb0 := hk4 _ _ _ fb0
  replace fb1 := hk4 _ _ _ fb1
  (try clear fbb); have fbb := World.block_lt_of_cell? _ _ fb0; (try dsimp only at fbb)
  replace hl := (hl).keep hk4
  replace hm := (hm).keep hk4
  replace hown1 := (hown1).keep hk4
  replace hlS := (hlS).keep hk4
  replace hto := (hto).keep hk4
  have hz4 := hB4.size
  clear hk4 hf4 hs4
  have hB4x : Below w.heap.size w (w4.alloc (.cells #[.int .i64 c1, .int .i64 c2] 24)) := by go_grown
  have fa0' := (keepA (.cells #[.int .i64 c1, .int .i64 c2] 24) fa0)
  have fa1' := (keepA (.cells #[.int .i64 c1, .int .i64 c2] 24) fa1)
  have fb0' := (keepA (.cells #[.int .i64 c1, .int .i64 c2] 24) fb0)
  have fb1' := (keepA (.cells #[.int .i64 c1, .int .i64 c2] 24) fb1)
  have hl' := (hl).alloc (.cells #[.int .i64 c1, .int .i64 c2] 24)
  have hm' := (hm).alloc (.cells #[.int .i64 c1, .int .i64 c2] 24)
  have hown1' := (hown1).alloc (.cells #[.int .i64 c1, .int .i64 c2] 24)
  have hlS' := (hlS).alloc (.cells #[.int .i64 c1, .int .i64 c2] 24)
  have hto' := (hto).alloc (.cells #[.int .i64 c1, .int .i64 c2] 24)
  have fc0 := (show (w4.alloc (.cells #[.int .i64 c1, .int .i64 c2] 24)).cell? ⟨w4.heap.size, 0, none⟩ = some (.int .i64 c1) by simp [go_sem])
  have fcf0 := (show (w4.alloc (.cells #[.int .i64 c1, .int .i64 c2] 24)).frozen? ⟨w4.heap.size, 0, none⟩ = false by simp [go_sem])
  have fc1 := (show (w4.alloc (.cells #[.int .i64 c1, .int .i64 c2] 24)).cell? ⟨w4.heap.size, 1, none⟩ = some (.int .i64 c2) by simp [go_sem])
  have fcf1 := (show (w4.alloc (.cells #[.int .i64 c1, .int .i64 c2] 24)).frozen? ⟨w4.heap.size, 1, none⟩ = false by simp [go_sem])
  go_wp2_with fail
  replace fa0 := fa0'; clear fa0'
  replace fa1 := fa1'; clear fa1'
  replace fb0 := fb0'; clear fb0'
  replace fb1 := fb1'; clear fb1'
  replace hl := hl'; clear hl'
  replace hm := hm'; clear hm'
  replace hown1 := hown1'; clear hown1'
  replace hlS := hlS'; clear hlS'
  replace hto := hto'; clear hto'
  have hz4x := hB4x.size
  generalize hv4 : (w4.alloc (.cells #[.int .i64 c1, .int .i64 c2] 24)) = v4 at *
  have fcb := World.block_lt_of_cell? _ _ fc0; (try dsimp only at fcb)
  have fab4 := fab
  have fbb4 := fbb
  clear hv4 hB4
  generalize w4.heap.size = B4 at *
  refine useF w (L4.out _ hl hm) (by go_grown) ?_; rintro e w5 rfl hB5 hk5 hf5 hs5
  replace fa0 := hk5 _ _ _ fa0
  replace fa1 := hk5 _ _ _ fa1
  (try clear fab); have fab := World.block_lt_of_cell? _ _ fa0; (try dsimp only at fab)
  replace fb0 := hk5 _ _ _ fb0
  replace fb1 := hk5 _ _ _ fb1
  (try clear fbb); have fbb := World.block_lt_of_cell? _ _ fb0; (try dsimp only at fbb)
  replace fc0 := hk5 _ _ _ fc0
  replace fc1 := hk5 _ _ _ fc1
  (try clear fcb); have fcb := World.block_lt_of_cell? _ _ fc0; (try dsimp only at fcb)
  replace hl := (hl).keep hk5
  replace hm := (hm).keep hk5
  replace hown1 := (hown1).keep hk5
  replace hlS := (hlS).keep hk5
  replace hto := (hto).keep hk5
  have hz5 := hB5.size
  clear hk5 hf5 hs5
  have hB5x : Below w.heap.size w (w5.alloc (.cells #[.int .i64 c1, .int .i64 c2] 24)) := by go_grown
  have fa0' := (keepA (.cells #[.int .i64 c1, .int .i64 c2] 24) fa0)
  have fa1' := (keepA (.cells #[.int .i64 c1, .int .i64 c2] 24) fa1)
  have fb0' := (keepA (.cells #[.int .i64 c1, .int .i64 c2] 24) fb0)
  have fb1' := (keepA (.cells #[.int .i64 c1, .int .i64 c2] 24) fb1)
  have fc0' := (keepA (.cells #[.int .i64 c1, .int .i64 c2] 24) fc0)
  have fc1' := (keepA (.cells #[.int .i64 c1, .int .i64 c2] 24) fc1)
  have hl' := (hl).alloc (.cells #[.int .i64 c1, .int .i64 c2] 24)
  have hm' := (hm).alloc (.cells #[.int .i64 c1, .int .i64 c2] 24)
  have hown1' := (hown1).alloc (.cells #[.int .i64 c1, .int .i64 c2] 24)
  have hlS' := (hlS).alloc (.cells #[.int .i64 c1, .int .i64 c2] 24)
  have hto' := (hto).alloc (.cells #[.int .i64 c1, .int .i64 c2] 24)
  have fd0 := (show (w5.alloc (.cells #[.int .i64 c1, .int .i64 c2] 24)).cell? ⟨w5.heap.size, 0, none⟩ = some (.int .i64 c1) by simp [go_sem])
  have fdf0 := (show (w5.alloc (.cells #[.int .i64 c1, .int .i64 c2] 24)).frozen? ⟨w5.heap.size, 0, none⟩ = false by simp [go_sem])
  have fd1 := (show (w5.alloc (.cells #[.int .i64 c1, .int .i64 c2] 24)).cell? ⟨w5.heap.size, 1, none⟩ = some (.int .i64 c2) by simp [go_sem])
  have fdf1 := (show (w5.alloc (.cells #[.int .i64 c1, .int .i64 c2] 24)).frozen? ⟨w5.heap.size, 1, none⟩ = false by simp [go_sem])
  go_wp2_with fail
  replace fa0 := fa0'; clear fa0'
  replace fa1 := fa1'; clear fa1'
  replace fb0 := fb0'; clear fb0'
  replace fb1 := fb1'; clear fb1'
  replace fc0 := fc0'; clear fc0'
  replace fc1 := fc1'; clear fc1'
  replace hl := hl'; clear hl'
  replace hm := hm'; clear hm'
  replace hown1 := hown1'; clear hown1'
  replace hlS := hlS'; clear hlS'
  replace hto := hto'; clear hto'
  have hz5x := hB5x.size
  generalize hv5 : (w5.alloc (.cells #[.int .i64 c1, .int .i64 c2] 24)) = v5 at *
  have fdb := World.block_lt_of_cell? _ _ fd0; (try dsimp only at fdb)
  have fab5 := fab
  have fbb5 := fbb
  have fcb5 := fcb
  clear hv5 hB5
  generalize w5.heap.size = B5 at *
  refine useF w (L5.out _ _ _ hown1) (by go_grown) ?_; rintro e w6 rfl hB6 hk6 hf6 hs6
  replace fa0 := hk6 _ _ _ fa0
  replace fa1 := hk6 _ _ _ fa1
  (try clear fab); have fab := World.block_lt_of_cell? _ _ fa0; (try dsimp only at fab)
  replace fb0 := hk6 _ _ _ fb0
  replace fb1 := hk6 _ _ _ fb1
  (try clear fbb); have fbb := World.block_lt_of_cell? _ _ fb0; (try dsimp only at fbb)
  replace fc0 := hk6 _ _ _ fc0
  replace fc1 := hk6 _ _ _ fc1
  (try clear fcb); have fcb := World.block_lt_of_cell? _ _ fc0; (try dsimp only at fcb)
  replace fd0 := hk6 _ _ _ fd0
  replace fd1 := hk6 _ _ _ fd1
  (try clear fdb); have fdb := World.block_lt_of_cell? _ _ fd0; (try dsimp only at fdb)
  replace hl := (hl).keep hk6
  replace hm := (hm).keep hk6
  replace hown1 := (hown1).keep hk6
  replace hlS := (hlS).keep hk6
  replace hto := (hto).keep hk6
  have hz6 := hB6.size
  clear hk6 hf6 hs6
  have hB6x : Below w.heap.size w (w6.alloc (.cells #[.int .i64 p1, .int .i64 p2] 24)) := by go_grown
  have fa0' := (keepA (.cells #[.int .i64 p1, .int .i64 p2] 24) fa0)
  have fa1' := (keepA (.cells #[.int .i64 p1, .int .i64 p2] 24) fa1)
  have fb0' := (keepA (.cells #[.int .i64 p1, .int .i64 p2] 24) fb0)
  have fb1' := (keepA (.cells #[.int .i64 p1, .int .i64 p2] 24) fb1)
  have fc0' := (keepA (.cells #[.int .i64 p1, .int .i64 p2] 24) fc0)
  have fc1' := (keepA (.cells #[.int .i64 p1, .int .i64 p2] 24) fc1)
  have fd0' := (keepA (.cells #[.int .i64 p1, .int .i64 p2] 24) fd0)
  have fd1' := (keepA (.cells #[.int .i64 p1, .int .i64 p2] 24) fd1)
  have hl' := (hl).alloc (.cells #[.int .i64 p1, .int .i64 p2] 24)
  have hm' := (hm).alloc (.cells #[.int .i64 p1, .int .i64 p2] 24)
  have hown1' := (hown1).alloc (.cells #[.int .i64 p1, .int .i64 p2] 24)
  have hlS' := (hlS).alloc (.cells #[.int .i64 p1, .int .i64 p2] 24)
  have hto' := (hto).alloc (.cells #[.int .i64 p1, .int .i64 p2] 24)
  have fp0 := (show (w6.alloc (.cells #[.int .i64 p1, .int .i64 p2] 24)).cell? ⟨w6.heap.size, 0, none⟩ = some (.int .i64 p1) by simp [go_sem])
  have fpf0 := (show (w6.alloc (.cells #[.int .i64 p1, .int .i64 p2] 24)).frozen? ⟨w6.heap.size, 0, none⟩ = false by simp [go_sem])
  have fp1 := (show (w6.alloc (.cells #[.int .i64 p1, .int .i64 p2] 24)).cell? ⟨w6.heap.size, 1, none⟩ = some (.int .i64 p2) by simp [go_sem])
  have fpf1 := (show (w6.alloc (.cells #[.int .i64 p1, .int .i64 p2] 24)).frozen? ⟨w6.heap.size, 1, none⟩ = false by simp [go_sem])
  go_wp2_with fail
  replace fa0 := fa0'; clear fa0'
  replace fa1 := fa1'; clear fa1'
  replace fb0 := fb0'; clear fb0'
  replace fb1 := fb1'; clear fb1'
  replace fc0 := fc0'; clear fc0'
  replace fc1 := fc1'; clear fc1'
  replace fd0 := fd0'; clear fd0'
  replace fd1 := fd1'; clear fd1'
  replace hl := hl'; clear hl'
  replace hm := hm'; clear hm'
  replace hown1 := hown1'; clear hown1'
  replace hlS := hlS'; clear hlS'
  replace hto := hto'; clear hto'
  have hz6x := hB6x.size
  generalize hv6 : (w6.alloc (.cells #[.int .i64 p1, .int .i64 p2] 24)) = v6 at *
  have fpb := World.block_lt_of_cell? _ _ fp0; (try dsimp only at fpb)
  have fab6 := fab
  have fbb6 := fbb
  have fcb6 := fcb
  have fdb6 := fdb
  clear hv6 hB6
  generalize w6.heap.size = B6 at *
  refine useF w (L6'.out _ hl) (by go_grown) ?_; rintro e w7 rfl hB7 hk7 hf7 hs7
  replace fa0 := hk7 _ _ _ fa0
  replace fa1 := hk7 _ _ _ fa1
  (try clear fab); have fab := World.block_lt_of_cell? _ _ fa0; (try dsimp only at fab)
  replace fb0 := hk7 _ _ _ fb0
  replace fb1 := hk7 _ _ _ fb1
  (try clear fbb); have fbb := World.block_lt_of_cell? _ _ fb0; (try dsimp only at fbb)
  replace fc0 := hk7 _ _ _ fc0
  replace fc1 := hk7 _ _ _ fc1
  (try clear fcb); have fcb := World.block_lt_of_cell? _ _ fc0; (try dsimp only at fcb)
  replace fd0 := hk7 _ _ _ fd0
  replace fd1 := hk7 _ _ _ fd1
  (try clear fdb); have fdb := World.block_lt_of_cell? _ _ fd0; (try dsimp only at fdb)
  replace fp0 := hk7 _ _ _ fp0
  replace fp1 := hk7 _ _ _ fp1
  (try clear fpb); have fpb := World.block_lt_of_cell? _ _ fp0; (try dsimp only at fpb)
  replace hl := (hl).keep hk7
  replace hm := (hm).keep hk7
  replace hown1 := (hown1).keep hk7
  replace hlS := (hlS).keep hk7
  replace hto := (hto).keep hk7
  have hz7 := hB7.size
  clear hk7 hf7 hs7
  have hB7x : Below w.heap.size w (w7.alloc (.cells #[.int .i64 p1, .int .i64 p2] 24)) := by go_grown
  have fa0' := (keepA (.cells #[.int .i64 p1, .int .i64 p2] 24) fa0)
  have fa1' := (keepA (.cells #[.int .i64 p1, .int .i64 p2] 24) fa1)
  have fb0' := (keepA (.cells #[.int .i64 p1, .int .i64 p2] 24) fb0)
  have fb1' := (keepA (.cells #[.int .i64 p1, .int .i64 p2] 24) fb1)
  have fc0' := (keepA (.cells #[.int .i64 p1, .int .i64 p2] 24) fc0)
  have fc1' := (keepA (.cells #[.int .i64 p1, .int .i64 p2] 24) fc1)
  have fd0' := (keepA (.cells #[.int .i64 p1, .int .i64 p2] 24) fd0)
  have fd1' := (keepA (.cells #[.int .i64 p1, .int .i64 p2] 24) fd1)
  have fp0' := (keepA (.cells #[.int .i64 p1, .int .i64 p2] 24) fp0)
  have fp1' := (keepA (.cells #[.int .i64 p1, .int .i64 p2] 24) fp1)
  have hl' := (hl).alloc (.cells #[.int .i64 p1, .int .i64 p2] 24)
  have hm' := (hm).alloc (.cells #[.int .i64 p1, .int .i64 p2] 24)
  have hown1' := (hown1).alloc (.cells #[.int .i64 p1, .int .i64 p2] 24)
  have hlS' := (hlS).alloc (.cells #[.int .i64 p1, .int .i64 p2] 24)
  have hto' := (hto).alloc (.cells #[.int .i64 p1, .int .i64 p2] 24)
  have fq0 := (show (w7.alloc (.cells #[.int .i64 p1, .int .i64 p2] 24)).cell? ⟨w7.heap.size, 0, none⟩ = some (.int .i64 p1) by simp [go_sem])
  have fqf0 := (show (w7.alloc (.cells #[.int .i64 p1, .int .i64 p2] 24)).frozen? ⟨w7.heap.size, 0, none⟩ = false by simp [go_sem])
  have fq1 := (show (w7.alloc (.cells #[.int .i64 p1, .int .i64 p2] 24)).cell? ⟨w7.heap.size, 1, none⟩ = some (.int .i64 p2) by simp [go_sem])
  have fqf1 := (show (w7.alloc (.cells #[.int .i64 p1, .int .i64 p2] 24)).frozen? ⟨w7.heap.size, 1, none⟩ = false by simp [go_sem])
  go_wp2_with fail
  replace fa0 := fa0'; clear fa0'
  replace fa1 := fa1'; clear fa1'
  replace fb0 := fb0'; clear fb0'
  replace fb1 := fb1'; clear fb1'
  replace fc0 := fc0'; clear fc0'
  replace fc1 := fc1'; clear fc1'
  replace fd0 := fd0'; clear fd0'
  replace fd1 := fd1'; clear fd1'
  replace fp0 := fp0'; clear fp0'
  replace fp1 := fp1'; clear fp1'
  replace hl := hl'; clear hl'
  replace hm := hm'; clear hm'
  replace hown1 := hown1'; clear hown1'
  replace hlS := hlS'; clear hlS'
  replace hto := hto'; clear hto'
  have hz7x := hB7x.size
  generalize hv7 : (w7.alloc (.cells #[.int .i64 p1, .int .i64 p2] 24)) = v7 at *
  have fqb := World.block_lt_of_cell? _ _ fq0; (try dsimp only at fqb)
  have fab7 := fab
  have fbb7 := fbb
  have fcb7 := fcb
  have fdb7 := fdb
  have fpb7 := fpb
  clear hv7 hB7
  generalize w7.heap.size = B7 at *
  clear L1 L2 L3 L4 L5 L6' hm hl hown1
  have ss1 := hid (fun W => same_eq a1 a2 a3 W)
  have ss2 := hid (fun W => same_eq c1 c2 c3 W)
  have ss3 := hid (fun W => same_eq p1 p2 p3 W)
  have hL6 : L6 B2 B3 B4 B5 B6 B7 a1 a2 c1 c2 p1 p2 v7 := ⟨fa0, fa1, fb0, fb1, fc0, fc1, fd0, fd1, fp0, fp1, fq0, fq1⟩
  clear fa0 fa1 fb0 fb1 fc0 fc1 fd0 fd1 fp0 fp1 fq0 fq1
  go_loopw [64] (fun s wx => ∃ k : Nat, s = .int .i64 k ∧ k ≤ l.length ∧ Spans B o l wx ∧ Spans g 0 l wx ∧ L6 B2 B3 B4 B5 B6 B7 a1 a2 c1 c2 p1 p2 wx ∧ Below w.heap.size w wx) (fun s _ => (l.length - intOf s).toNat)
  case atStart => exact ⟨0, rfl, by omega, hlS, hto, hL6, by assumption⟩
  case round =>
    clear hlS hto hL6
    obtain ⟨k, rfl, hk, hlS, hto, ⟨fa0, fa1, fb0, fb1, fc0, fc1, fd0, fd1, fp0, fp1, fq0, fq1⟩, hB⟩ := hrel
    have hzr := hB.size
    by_cases ke : k = l.length
    · subst ke
      have kk : ¬ (l.length : Int) < l.length := by omega
      clear hlS hto
      go_wp2_with fail
      refine useF w (ss1.out _) (by go_grown) ?_; rintro e w11 rfl hB11 hk11 hf11 hs11
      replace fa0 := hk11 _ _ _ fa0
      replace fa1 := hk11 _ _ _ fa1
      (try clear fab); have fab := World.block_lt_of_cell? _ _ fa0; (try dsimp only at fab)
      replace fb0 := hk11 _ _ _ fb0
      replace fb1 := hk11 _ _ _ fb1
      (try clear fbb); have fbb := World.block_lt_of_cell? _ _ fb0; (try dsimp only at fbb)
      replace fc0 := hk11 _ _ _ fc0
      replace fc1 := hk11 _ _ _ fc1
      (try clear fcb); have fcb := World.block_lt_of_cell? _ _ fc0; (try dsimp only at fcb)
      replace fd0 := hk11 _ _ _ fd0
      replace fd1 := hk11 _ _ _ fd1
      (try clear fdb); have fdb := World.block_lt_of_cell? _ _ fd0; (try dsimp only at fdb)
      replace fp0 := hk11 _ _ _ fp0
      replace fp1 := hk11 _ _ _ fp1
      (try clear fpb); have fpb := World.block_lt_of_cell? _ _ fp0; (try dsimp only at fpb)
      replace fq0 := hk11 _ _ _ fq0
      replace fq1 := hk11 _ _ _ fq1
      (try clear fqb); have fqb := World.block_lt_of_cell? _ _ fq0; (try dsimp only at fqb)
      have hz11 := hB11.size
      clear hk11 hf11 hs11
      go_wp2_with fail
      refine useF w (ss2.out _) (by go_grown) ?_; rintro e w12 rfl hB12 hk12 hf12 hs12
      replace fa0 := hk12 _ _ _ fa0
      replace fa1 := hk12 _ _ _ fa1
      (try clear fab); have fab := World.block_lt_of_cell? _ _ fa0; (try dsimp only at fab)
      replace fb0 := hk12 _ _ _ fb0
      replace fb1 := hk12 _ _ _ fb1
      (try clear fbb); have fbb := World.block_lt_of_cell? _ _ fb0; (try dsimp only at fbb)
      replace fc0 := hk12 _ _ _ fc0
      replace fc1 := hk12 _ _ _ fc1
      (try clear fcb); have fcb := World.block_lt_of_cell? _ _ fc0; (try dsimp only at fcb)
      replace fd0 := hk12 _ _ _ fd0
      replace fd1 := hk12 _ _ _ fd1
      (try clear fdb); have fdb := World.block_lt_of_cell? _ _ fd0; (try dsimp only at fdb)
      replace fp0 := hk12 _ _ _ fp0
      replace fp1 := hk12 _ _ _ fp1
      (try clear fpb); have fpb := World.block_lt_of_cell? _ _ fp0; (try dsimp only at fpb)
      replace fq0 := hk12 _ _ _ fq0
      replace fq1 := hk12 _ _ _ fq1
      (try clear fqb); have fqb := World.block_lt_of_cell? _ _ fq0; (try dsimp only at fqb)
      have hz12 := hB12.size
      clear hk12 hf12 hs12
      go_wp2_with fail
      refine useF w (ss3.out _) (by go_grown) ?_; rintro e w13 rfl hB13 hk13 hf13 hs13
      replace fa0 := hk13 _ _ _ fa0
      replace fa1 := hk13 _ _ _ fa1
      (try clear fab); have fab := World.block_lt_of_cell? _ _ fa0; (try dsimp only at fab)
      replace fb0 := hk13 _ _ _ fb0
      replace fb1 := hk13 _ _ _ fb1
      (try clear fbb); have fbb := World.block_lt_of_cell? _ _ fb0; (try dsimp only at fbb)
      replace fc0 := hk13 _ _ _ fc0
      replace fc1 := hk13 _ _ _ fc1
      (try clear fcb); have fcb := World.block_lt_of_cell? _ _ fc0; (try dsimp only at fcb)
      replace fd0 := hk13 _ _ _ fd0
      replace fd1 := hk13 _ _ _ fd1
      (try clear fdb); have fdb := World.block_lt_of_cell? _ _ fd0; (try dsimp only at fdb)
      replace fp0 := hk13 _ _ _ fp0
      replace fp1 := hk13 _ _ _ fp1
      (try clear fpb); have fpb := World.block_lt_of_cell? _ _ fp0; (try dsimp only at fpb)
      replace fq0 := hk13 _ _ _ fq0
      replace fq1 := hk13 _ _ _ fq1
      (try clear fqb); have fqb := World.block_lt_of_cell? _ _ fq0; (try dsimp only at fqb)
      have hz13 := hB13.size
      clear hk13 hf13 hs13
      go_wp2_with fail
      go_ret
      exact ⟨rfl, by go_grown⟩
    · have hk1 : k < l.length := by omega
      obtain ⟨p, hp⟩ := span_some hk1
      obtain ⟨x0, x1⟩ := hlS k p hp
      obtain ⟨y0, y1⟩ := hto k p hp
      obtain ⟨u, v⟩ := p
      rw [Nat.zero_add] at y0 y1
      dsimp only at x0 x1 y0 y1
      have hk0 : (0 : Int) ≤ k := by omega
      have hk2 : (k : Int) < l.length := by omega
      clear hp ss1 ss2 ss3
      have hL6 := hid (show L6 B2 B3 B4 B5 B6 B7 a1 a2 c1 c2 p1 p2 wr.drew from ⟨fa0, fa1, fb0, fb1, fc0, fc1, fd0, fd1, fp0, fp1, fq0, fq1⟩)
      clear fa0 fa1 fb0 fb1 fc0 fc1 fd0 fd1 fp0 fp1 fq0 fq1
      go_wp2_with fail
      refine wp_region_held_drew (S := (fun w' => w'.cell? ⟨B, o + k * 2, none⟩ = some (.int .i64 u) ∧ w'.cell? ⟨B, o + k * 2 + 1, none⟩ = some (.int .i64 v) ∧ w'.cell? ⟨g, k * 2, none⟩ = some (.int .i64 u) ∧ w'.cell? ⟨g, k * 2 + 1, none⟩ = some (.int .i64 v))) (by kernel_rfl) (by (try dsimp only); (first | (exact ⟨hk1 _ _ _ (hOld.1), hk1 _ _ _ (hOld.2.1), hk1 _ _ _ (hOld.2.2.1), hk1 _ _ _ (hOld.2.2.2)⟩) | ((try simp only [World.cell?_drew, World.frozen?_drew]); (repeat' apply And.intro) <;> (first | (with_reducible assumption) | (with_reducible exact ⟨_, by assumption⟩) | (with_reducible exact ⟨_, two_other (by assumption) (by omega)⟩) | (with_reducible exact two_0 (by assumption)) | (with_reducible exact two_1 (by assumption)) | (with_reducible exact two_other (by assumption) (by omega)) | (with_reducible exact two_fz (by assumption)) | (with_reducible exact keepA _ (by assumption)) | (with_reducible exact keepA _ (keepA _ (keepA _ (by assumption)))) | (simp (maxDischargeDepth := 8) [*, go_sem, World.cell?_alloc_some, World.cell?_setCell_far]; done))) | (go_keep; done) | (simp (maxDischargeDepth := 8) [*, go_sem, World.cell?_alloc_some, World.cell?_setCell_far]; done))) (fun hHeld => ?_)
      (refine wpAnyH_take (i := 0) (oi := ⟨some 67, _, _, _, _, none⟩) (v := ?_) rfl (by kernel_rfl) (by kernel_rfl) (by kernel_rfl) (fun _ _ _ h => h) (Or.inl ⟨by rfl, ?_⟩) hHeld ?_; rotate_left; (· (intro w9 hSw; (try dsimp only at hSw); go_simp; (try with_reducible rfl))))
      (try simp only [Act.put, List.setIfInBounds_toArray, List.set_cons_zero, List.set_cons_succ])
      (refine wpAnyH_take (i := 1) (oi := ⟨some 68, _, _, _, _, none⟩) (v := ?_) rfl (by kernel_rfl) (by kernel_rfl) (by kernel_rfl) (fun _ _ _ h => h) (Or.inl ⟨by rfl, ?_⟩) hHeld ?_; rotate_left; (· (intro w9 hSw; (try dsimp only at hSw); go_simp; (try with_reducible rfl))))
      (try simp only [Act.put, List.setIfInBounds_toArray, List.set_cons_zero, List.set_cons_succ])
      (refine wpAnyH_take (i := 2) (oi := ⟨some 69, _, _, _, _, none⟩) (v := ?_) rfl (by kernel_rfl) (by kernel_rfl) (by kernel_rfl) (fun _ _ _ h => h) (Or.inl ⟨by rfl, ?_⟩) hHeld ?_; rotate_left; (· (intro w9 hSw; (try dsimp only at hSw); go_simp; (try with_reducible rfl))))
      (try simp only [Act.put, List.setIfInBounds_toArray, List.set_cons_zero, List.set_cons_succ])
      (refine wpAnyH_take (i := 3) (oi := ⟨some 70, _, _, _, _, none⟩) (v := ?_) rfl (by kernel_rfl) (by kernel_rfl) (by kernel_rfl) (fun _ _ _ h => h) (Or.inl ⟨by rfl, ?_⟩) hHeld ?_; rotate_left; (· (intro w9 hSw; (try dsimp only at hSw); go_simp; (try with_reducible rfl))))
      (try simp only [Act.put, List.setIfInBounds_toArray, List.set_cons_zero, List.set_cons_succ])
      (refine wpAnyH_take (i := 4) (oi := ⟨some 71, _, _, _, _, none⟩) (v := ?_) rfl (by kernel_rfl) (by kernel_rfl) (by kernel_rfl) (fun _ _ _ h => h) (Or.inl ⟨by rfl, ?_⟩) hHeld ?_; rotate_left; (· (intro w9 hSw; (try dsimp only at hSw); go_simp; (try with_reducible rfl))))
      (try simp only [Act.put, List.setIfInBounds_toArray, List.set_cons_zero, List.set_cons_succ])
      (refine wpAnyH_take (i := 5) (oi := ⟨some 72, _, _, _, _, none⟩) (v := ?_) rfl (by kernel_rfl) (by kernel_rfl) (by kernel_rfl) (fun _ _ _ h => h) (Or.inl ⟨by rfl, ?_⟩) hHeld ?_; rotate_left; (· (intro w9 hSw; (try dsimp only at hSw); go_simp; (try with_reducible rfl))))
      (try simp only [Act.put, List.setIfInBounds_toArray, List.set_cons_zero, List.set_cons_succ])
      (refine wpAnyH_take (i := 6) (oi := ⟨some 73, _, _, _, _, none⟩) (v := ?_) rfl (by kernel_rfl) (by kernel_rfl) (by kernel_rfl) (fun _ _ _ h => h) (Or.inl ⟨by rfl, ?_⟩) hHeld ?_; rotate_left; (· (intro w9 hSw; (try dsimp only at hSw); go_simp; (try with_reducible rfl))))
      (try simp only [Act.put, List.setIfInBounds_toArray, List.set_cons_zero, List.set_cons_succ])
      (refine wpAnyH_take (i := 7) (oi := ⟨some 74, _, _, _, _, none⟩) (v := ?_) rfl (by kernel_rfl) (by kernel_rfl) (by kernel_rfl) (fun _ _ _ h => h) (Or.inl ⟨by rfl, ?_⟩) hHeld ?_; rotate_left; (· (intro w9 hSw; (try dsimp only at hSw); go_simp; (try with_reducible rfl))))
      (try simp only [Act.put, List.setIfInBounds_toArray, List.set_cons_zero, List.set_cons_succ])
      (refine wpAnyH_take (i := 8) (oi := ⟨some 75, _, _, _, _, none⟩) (v := ?_) rfl (by kernel_rfl) (by kernel_rfl) (by kernel_rfl) (fun _ _ _ h => h) (Or.inl ⟨by rfl, ?_⟩) hHeld ?_; rotate_left; (· (intro w9 hSw; (try dsimp only at hSw); go_simp; (try with_reducible rfl))))
      (try simp only [Act.put, List.setIfInBounds_toArray, List.set_cons_zero, List.set_cons_succ])
      refine wpAnyH_done (by kernel_rfl) ?_ _
      go_wp2_with fail
      go_roundw
      case rel => exact ⟨k + 1, by go_num, by omega, hlS.drew, hto.drew, hL6.out, by go_grown⟩
      case measure => first | (simp [intOf]; done) | (simp [intOf]; omega)
theorem lists_none (m : List (Int × Int)) (cl cm : Nat) (ql qm : Option Addr) (hq : ql = none → cl = 0) (w : World) (hm : SLp qm m w) (hnm : m.length ≤ 70) (hmb : Hid (∀ b o : Nat, qm = some ⟨b, o, none⟩ → m ≠ [] → b < w.heap.size)) (a1 a2 a3 c1 c2 c3 p1 p2 p3 : Int)
    (L1 : Hid (∀ (q : Option Addr) (cap : Nat) (w : World), SLp q [] w → Calls Try.prog 69 #[.slice q 0 cap] w fun e w' => e = .returned (.tuple #[.agg #[.int .i64 a1, .int .i64 a2], .int .i64 a3 ]) ∧ Below w.heap.size w w'))
    (L2 : Hid (∀ (w : World), SLp ql [] w → Calls Try.prog 70 #[.slice ql 0 cl] w fun e w' => e = .returned (.tuple #[.agg #[.int .i64 a1, .int .i64 a2], .int .i64 a3 ]) ∧ Below w.heap.size w w'))
    (L3 : Hid (∀ (q : Option Addr) (cap : Nat) (w : World), SLp q [] w → SLp qm m w → Calls Try.prog 71 #[.slice q 0 cap, .slice qm m.length cm] w fun e w' => e = .returned (.tuple #[.agg #[.int .i64 c1, .int .i64 c2], .int .i64 c3 ]) ∧ Below w.heap.size w w'))
    (L4 : Hid (∀ (w : World), SLp ql [] w → SLp qm m w → Calls Try.prog 72 #[.slice ql 0 cl, .slice qm m.length cm] w fun e w' => e = .returned (.tuple #[.agg #[.int .i64 c1, .int .i64 c2], .int .i64 c3 ]) ∧ Below w.heap.size w w'))
    (L5 : Hid (∀ (q : Option Addr) (cap : Nat) (w : World), SLp q [] w → Calls Try.prog 73 #[.slice q 0 cap] w fun e w' => e = .returned (.tuple #[.agg #[.int .i64 p1, .int .i64 p2], .int .i64 p3 ]) ∧ Below w.heap.size w w'))
    (L6' : Hid (∀ (w : World), SLp ql [] w → Calls Try.prog 74 #[.slice ql 0 cl] w fun e w' => e = .returned (.tuple #[.agg #[.int .i64 p1, .int .i64 p2], .int .i64 p3 ]) ∧ Below w.heap.size w w')) :
    Calls Try.prog 11 #[.slice ql 0 cl, .slice qm m.length cm] w fun e w' => e = .returned (.bool true) ∧ Below w.heap.size w w' := by
  obtain ⟨i0, hi0, hz0, hz1, hz2⟩ := info_parts Try.infoS
  have hii := hid (And.intro hi0 (And.intro hz0 (And.intro hz1 hz2)))
  clear hi0 hz0 hz1 hz2
  have m70 : ¬ (70 : Int) < m.length := by omega
  have md70 : decide ((70 : Int) < m.length) = false := decide_eq_false m70
  have hbs : w.heap.size ≤ (w.alloc (.cells #[] 24)).heap.size := by simp
  have hown : (w.alloc (.cells #[] 24)).ownsRow w.heap.size 24 2 (.slice (some ⟨w.heap.size, 0, none⟩) 0 0) 0 [] := World.ownsRow_made w #[] 0 (Nat.le_refl _) (by unfold maxLen; omega) rfl
  have hm2 := hid (hm.alloc (.cells #[] 24))
  have hB1w0 : Below w.heap.size w (w.alloc (.cells #[] 24)) := by go_grown
  rcases ql with _ | ⟨bq, oq, sq⟩
  · obtain rfl := hq rfl
    clear hm
    go_enter Try.func11, Try.ntmps11
    go_upto_region 4 with ((at_builtin; refine wpList_append_own_none rfl _ _ 68 rfl w.heap.size 24 i0 2 Try.underlying68 hii.out.1 _ _ _ rfl hown rfl ?_))
    have hm := hm2.out
    have hB1w := hB1w0
    clear hown hii hm2 hbs hmb
    generalize w.alloc (.cells #[] 24) = w1 at *
    clear hB1w0
    go_wp2_with fail
    refine useF w (L1.out _ _ _ (.inl rfl)) (by go_grown) ?_; rintro e w2 rfl hB2 hk2 hf2 hs2
    replace hm := (hm).keep hk2
    have hz2 := hB2.size
    clear hk2 hf2 hs2
    have hB2x : Below w.heap.size w (w2.alloc (.cells #[.int .i64 a1, .int .i64 a2] 24)) := by go_grown
    have hm' := (hm).alloc (.cells #[.int .i64 a1, .int .i64 a2] 24)
    have fa0 := (show (w2.alloc (.cells #[.int .i64 a1, .int .i64 a2] 24)).cell? ⟨w2.heap.size, 0, none⟩ = some (.int .i64 a1) by simp [go_sem])
    have faf0 := (show (w2.alloc (.cells #[.int .i64 a1, .int .i64 a2] 24)).frozen? ⟨w2.heap.size, 0, none⟩ = false by simp [go_sem])
    have fa1 := (show (w2.alloc (.cells #[.int .i64 a1, .int .i64 a2] 24)).cell? ⟨w2.heap.size, 1, none⟩ = some (.int .i64 a2) by simp [go_sem])
    have faf1 := (show (w2.alloc (.cells #[.int .i64 a1, .int .i64 a2] 24)).frozen? ⟨w2.heap.size, 1, none⟩ = false by simp [go_sem])
    go_wp2_with fail
    replace hm := hm'; clear hm'
    have hz2x := hB2x.size
    generalize hv2 : (w2.alloc (.cells #[.int .i64 a1, .int .i64 a2] 24)) = v2 at *
    have fab := World.block_lt_of_cell? _ _ fa0; (try dsimp only at fab)
    clear hv2 hB2
    generalize w2.heap.size = B2 at *
    refine useF w (L2.out _ (.inl rfl)) (by go_grown) ?_; rintro e w3 rfl hB3 hk3 hf3 hs3
    replace fa0 := hk3 _ _ _ fa0
    replace fa1 := hk3 _ _ _ fa1
    (try clear fab); have fab := World.block_lt_of_cell? _ _ fa0; (try dsimp only at fab)
    replace hm := (hm).keep hk3
    have hz3 := hB3.size
    clear hk3 hf3 hs3
    have hB3x : Below w.heap.size w (w3.alloc (.cells #[.int .i64 a1, .int .i64 a2] 24)) := by go_grown
    have fa0' := (keepA (.cells #[.int .i64 a1, .int .i64 a2] 24) fa0)
    have fa1' := (keepA (.cells #[.int .i64 a1, .int .i64 a2] 24) fa1)
    have hm' := (hm).alloc (.cells #[.int .i64 a1, .int .i64 a2] 24)
    have fb0 := (show (w3.alloc (.cells #[.int .i64 a1, .int .i64 a2] 24)).cell? ⟨w3.heap.size, 0, none⟩ = some (.int .i64 a1) by simp [go_sem])
    have fbf0 := (show (w3.alloc (.cells #[.int .i64 a1, .int .i64 a2] 24)).frozen? ⟨w3.heap.size, 0, none⟩ = false by simp [go_sem])
    have fb1 := (show (w3.alloc (.cells #[.int .i64 a1, .int .i64 a2] 24)).cell? ⟨w3.heap.size, 1, none⟩ = some (.int .i64 a2) by simp [go_sem])
    have fbf1 := (show (w3.alloc (.cells #[.int .i64 a1, .int .i64 a2] 24)).frozen? ⟨w3.heap.size, 1, none⟩ = false by simp [go_sem])
    go_wp2_with fail
    replace fa0 := fa0'; clear fa0'
    replace fa1 := fa1'; clear fa1'
    replace hm := hm'; clear hm'
    have hz3x := hB3x.size
    generalize hv3 : (w3.alloc (.cells #[.int .i64 a1, .int .i64 a2] 24)) = v3 at *
    have fbb := World.block_lt_of_cell? _ _ fb0; (try dsimp only at fbb)
    have fab3 := fab
    clear hv3 hB3
    generalize w3.heap.size = B3 at *
    refine useF w (L3.out _ _ _ (.inl rfl) hm) (by go_grown) ?_; rintro e w4 rfl hB4 hk4 hf4 hs4
    replace fa0 := hk4 _ _ _ fa0
    replace fa1 := hk4 _ _ _ fa1
    (try clear fab); have fab := World.block_lt_of_cell? _ _ fa0; (try dsimp only at fab)
    replace fb0 := hk4 _ _ _ fb0
    replace fb1 := hk4 _ _ _ fb1
    (try clear fbb); have fbb := World.block_lt_of_cell? _ _ fb0; (try dsimp only at fbb)
    replace hm := (hm).keep hk4
    have hz4 := hB4.size
    clear hk4 hf4 hs4
    have hB4x : Below w.heap.size w (w4.alloc (.cells #[.int .i64 c1, .int .i64 c2] 24)) := by go_grown
    have fa0' := (keepA (.cells #[.int .i64 c1, .int .i64 c2] 24) fa0)
    have fa1' := (keepA (.cells #[.int .i64 c1, .int .i64 c2] 24) fa1)
    have fb0' := (keepA (.cells #[.int .i64 c1, .int .i64 c2] 24) fb0)
    have fb1' := (keepA (.cells #[.int .i64 c1, .int .i64 c2] 24) fb1)
    have hm' := (hm).alloc (.cells #[.int .i64 c1, .int .i64 c2] 24)
    have fc0 := (show (w4.alloc (.cells #[.int .i64 c1, .int .i64 c2] 24)).cell? ⟨w4.heap.size, 0, none⟩ = some (.int .i64 c1) by simp [go_sem])
    have fcf0 := (show (w4.alloc (.cells #[.int .i64 c1, .int .i64 c2] 24)).frozen? ⟨w4.heap.size, 0, none⟩ = false by simp [go_sem])
    have fc1 := (show (w4.alloc (.cells #[.int .i64 c1, .int .i64 c2] 24)).cell? ⟨w4.heap.size, 1, none⟩ = some (.int .i64 c2) by simp [go_sem])
    have fcf1 := (show (w4.alloc (.cells #[.int .i64 c1, .int .i64 c2] 24)).frozen? ⟨w4.heap.size, 1, none⟩ = false by simp [go_sem])
    go_wp2_with fail
    replace fa0 := fa0'; clear fa0'
    replace fa1 := fa1'; clear fa1'
    replace fb0 := fb0'; clear fb0'
    replace fb1 := fb1'; clear fb1'
    replace hm := hm'; clear hm'
    have hz4x := hB4x.size
    generalize hv4 : (w4.alloc (.cells #[.int .i64 c1, .int .i64 c2] 24)) = v4 at *
    have fcb := World.block_lt_of_cell? _ _ fc0; (try dsimp only at fcb)
    have fab4 := fab
    have fbb4 := fbb
    clear hv4 hB4
    generalize w4.heap.size = B4 at *
    refine useF w (L4.out _ (.inl rfl) hm) (by go_grown) ?_; rintro e w5 rfl hB5 hk5 hf5 hs5
    replace fa0 := hk5 _ _ _ fa0
    replace fa1 := hk5 _ _ _ fa1
    (try clear fab); have fab := World.block_lt_of_cell? _ _ fa0; (try dsimp only at fab)
    replace fb0 := hk5 _ _ _ fb0
    replace fb1 := hk5 _ _ _ fb1
    (try clear fbb); have fbb := World.block_lt_of_cell? _ _ fb0; (try dsimp only at fbb)
    replace fc0 := hk5 _ _ _ fc0
    replace fc1 := hk5 _ _ _ fc1
    (try clear fcb); have fcb := World.block_lt_of_cell? _ _ fc0; (try dsimp only at fcb)
    replace hm := (hm).keep hk5
    have hz5 := hB5.size
    clear hk5 hf5 hs5
    have hB5x : Below w.heap.size w (w5.alloc (.cells #[.int .i64 c1, .int .i64 c2] 24)) := by go_grown
    have fa0' := (keepA (.cells #[.int .i64 c1, .int .i64 c2] 24) fa0)
    have fa1' := (keepA (.cells #[.int .i64 c1, .int .i64 c2] 24) fa1)
    have fb0' := (keepA (.cells #[.int .i64 c1, .int .i64 c2] 24) fb0)
    have fb1' := (keepA (.cells #[.int .i64 c1, .int .i64 c2] 24) fb1)
    have fc0' := (keepA (.cells #[.int .i64 c1, .int .i64 c2] 24) fc0)
    have fc1' := (keepA (.cells #[.int .i64 c1, .int .i64 c2] 24) fc1)
    have hm' := (hm).alloc (.cells #[.int .i64 c1, .int .i64 c2] 24)
    have fd0 := (show (w5.alloc (.cells #[.int .i64 c1, .int .i64 c2] 24)).cell? ⟨w5.heap.size, 0, none⟩ = some (.int .i64 c1) by simp [go_sem])
    have fdf0 := (show (w5.alloc (.cells #[.int .i64 c1, .int .i64 c2] 24)).frozen? ⟨w5.heap.size, 0, none⟩ = false by simp [go_sem])
    have fd1 := (show (w5.alloc (.cells #[.int .i64 c1, .int .i64 c2] 24)).cell? ⟨w5.heap.size, 1, none⟩ = some (.int .i64 c2) by simp [go_sem])
    have fdf1 := (show (w5.alloc (.cells #[.int .i64 c1, .int .i64 c2] 24)).frozen? ⟨w5.heap.size, 1, none⟩ = false by simp [go_sem])
    go_wp2_with fail
    replace fa0 := fa0'; clear fa0'
    replace fa1 := fa1'; clear fa1'
    replace fb0 := fb0'; clear fb0'
    replace fb1 := fb1'; clear fb1'
    replace fc0 := fc0'; clear fc0'
    replace fc1 := fc1'; clear fc1'
    replace hm := hm'; clear hm'
    have hz5x := hB5x.size
    generalize hv5 : (w5.alloc (.cells #[.int .i64 c1, .int .i64 c2] 24)) = v5 at *
    have fdb := World.block_lt_of_cell? _ _ fd0; (try dsimp only at fdb)
    have fab5 := fab
    have fbb5 := fbb
    have fcb5 := fcb
    clear hv5 hB5
    generalize w5.heap.size = B5 at *
    refine useF w (L5.out _ _ _ (.inl rfl)) (by go_grown) ?_; rintro e w6 rfl hB6 hk6 hf6 hs6
    replace fa0 := hk6 _ _ _ fa0
    replace fa1 := hk6 _ _ _ fa1
    (try clear fab); have fab := World.block_lt_of_cell? _ _ fa0; (try dsimp only at fab)
    replace fb0 := hk6 _ _ _ fb0
    replace fb1 := hk6 _ _ _ fb1
    (try clear fbb); have fbb := World.block_lt_of_cell? _ _ fb0; (try dsimp only at fbb)
    replace fc0 := hk6 _ _ _ fc0
    replace fc1 := hk6 _ _ _ fc1
    (try clear fcb); have fcb := World.block_lt_of_cell? _ _ fc0; (try dsimp only at fcb)
    replace fd0 := hk6 _ _ _ fd0
    replace fd1 := hk6 _ _ _ fd1
    (try clear fdb); have fdb := World.block_lt_of_cell? _ _ fd0; (try dsimp only at fdb)
    replace hm := (hm).keep hk6
    have hz6 := hB6.size
    clear hk6 hf6 hs6
    have hB6x : Below w.heap.size w (w6.alloc (.cells #[.int .i64 p1, .int .i64 p2] 24)) := by go_grown
    have fa0' := (keepA (.cells #[.int .i64 p1, .int .i64 p2] 24) fa0)
    have fa1' := (keepA (.cells #[.int .i64 p1, .int .i64 p2] 24) fa1)
    have fb0' := (keepA (.cells #[.int .i64 p1, .int .i64 p2] 24) fb0)
    have fb1' := (keepA (.cells #[.int .i64 p1, .int .i64 p2] 24) fb1)
    have fc0' := (keepA (.cells #[.int .i64 p1, .int .i64 p2] 24) fc0)
    have fc1' := (keepA (.cells #[.int .i64 p1, .int .i64 p2] 24) fc1)
    have fd0' := (keepA (.cells #[.int .i64 p1, .int .i64 p2] 24) fd0)
    have fd1' := (keepA (.cells #[.int .i64 p1, .int .i64 p2] 24) fd1)
    have hm' := (hm).alloc (.cells #[.int .i64 p1, .int .i64 p2] 24)
    have fp0 := (show (w6.alloc (.cells #[.int .i64 p1, .int .i64 p2] 24)).cell? ⟨w6.heap.size, 0, none⟩ = some (.int .i64 p1) by simp [go_sem])
    have fpf0 := (show (w6.alloc (.cells #[.int .i64 p1, .int .i64 p2] 24)).frozen? ⟨w6.heap.size, 0, none⟩ = false by simp [go_sem])
    have fp1 := (show (w6.alloc (.cells #[.int .i64 p1, .int .i64 p2] 24)).cell? ⟨w6.heap.size, 1, none⟩ = some (.int .i64 p2) by simp [go_sem])
    have fpf1 := (show (w6.alloc (.cells #[.int .i64 p1, .int .i64 p2] 24)).frozen? ⟨w6.heap.size, 1, none⟩ = false by simp [go_sem])
    go_wp2_with fail
    replace fa0 := fa0'; clear fa0'
    replace fa1 := fa1'; clear fa1'
    replace fb0 := fb0'; clear fb0'
    replace fb1 := fb1'; clear fb1'
    replace fc0 := fc0'; clear fc0'
    replace fc1 := fc1'; clear fc1'
    replace fd0 := fd0'; clear fd0'
    replace fd1 := fd1'; clear fd1'
    replace hm := hm'; clear hm'
    have hz6x := hB6x.size
    generalize hv6 : (w6.alloc (.cells #[.int .i64 p1, .int .i64 p2] 24)) = v6 at *
    have fpb := World.block_lt_of_cell? _ _ fp0; (try dsimp only at fpb)
    have fab6 := fab
    have fbb6 := fbb
    have fcb6 := fcb
    have fdb6 := fdb
    clear hv6 hB6
    generalize w6.heap.size = B6 at *
    refine useF w (L6'.out _ (.inl rfl)) (by go_grown) ?_; rintro e w7 rfl hB7 hk7 hf7 hs7
    replace fa0 := hk7 _ _ _ fa0
    replace fa1 := hk7 _ _ _ fa1
    (try clear fab); have fab := World.block_lt_of_cell? _ _ fa0; (try dsimp only at fab)
    replace fb0 := hk7 _ _ _ fb0
    replace fb1 := hk7 _ _ _ fb1
    (try clear fbb); have fbb := World.block_lt_of_cell? _ _ fb0; (try dsimp only at fbb)
    replace fc0 := hk7 _ _ _ fc0
    replace fc1 := hk7 _ _ _ fc1
    (try clear fcb); have fcb := World.block_lt_of_cell? _ _ fc0; (try dsimp only at fcb)
    replace fd0 := hk7 _ _ _ fd0
    replace fd1 := hk7 _ _ _ fd1
    (try clear fdb); have fdb := World.block_lt_of_cell? _ _ fd0; (try dsimp only at fdb)
    replace fp0 := hk7 _ _ _ fp0
    replace fp1 := hk7 _ _ _ fp1
    (try clear fpb); have fpb := World.block_lt_of_cell? _ _ fp0; (try dsimp only at fpb)
    replace hm := (hm).keep hk7
    have hz7 := hB7.size
    clear hk7 hf7 hs7
    have hB7x : Below w.heap.size w (w7.alloc (.cells #[.int .i64 p1, .int .i64 p2] 24)) := by go_grown
    have fa0' := (keepA (.cells #[.int .i64 p1, .int .i64 p2] 24) fa0)
    have fa1' := (keepA (.cells #[.int .i64 p1, .int .i64 p2] 24) fa1)
    have fb0' := (keepA (.cells #[.int .i64 p1, .int .i64 p2] 24) fb0)
    have fb1' := (keepA (.cells #[.int .i64 p1, .int .i64 p2] 24) fb1)
    have fc0' := (keepA (.cells #[.int .i64 p1, .int .i64 p2] 24) fc0)
    have fc1' := (keepA (.cells #[.int .i64 p1, .int .i64 p2] 24) fc1)
    have fd0' := (keepA (.cells #[.int .i64 p1, .int .i64 p2] 24) fd0)
    have fd1' := (keepA (.cells #[.int .i64 p1, .int .i64 p2] 24) fd1)
    have fp0' := (keepA (.cells #[.int .i64 p1, .int .i64 p2] 24) fp0)
    have fp1' := (keepA (.cells #[.int .i64 p1, .int .i64 p2] 24) fp1)
    have hm' := (hm).alloc (.cells #[.int .i64 p1, .int .i64 p2] 24)
    have fq0 := (show (w7.alloc (.cells #[.int .i64 p1, .int .i64 p2] 24)).cell? ⟨w7.heap.size, 0, none⟩ = some (.int .i64 p1) by simp [go_sem])
    have fqf0 := (show (w7.alloc (.cells #[.int .i64 p1, .int .i64 p2] 24)).frozen? ⟨w7.heap.size, 0, none⟩ = false by simp [go_sem])
    have fq1 := (show (w7.alloc (.cells #[.int .i64 p1, .int .i64 p2] 24)).cell? ⟨w7.heap.size, 1, none⟩ = some (.int .i64 p2) by simp [go_sem])
    have fqf1 := (show (w7.alloc (.cells #[.int .i64 p1, .int .i64 p2] 24)).frozen? ⟨w7.heap.size, 1, none⟩ = false by simp [go_sem])
    go_wp2_with fail
    replace fa0 := fa0'; clear fa0'
    replace fa1 := fa1'; clear fa1'
    replace fb0 := fb0'; clear fb0'
    replace fb1 := fb1'; clear fb1'
    replace fc0 := fc0'; clear fc0'
    replace fc1 := fc1'; clear fc1'
    replace fd0 := fd0'; clear fd0'
    replace fd1 := fd1'; clear fd1'
    replace fp0 := fp0'; clear fp0'
    replace fp1 := fp1'; clear fp1'
    replace hm := hm'; clear hm'
    have hz7x := hB7x.size
    generalize hv7 : (w7.alloc (.cells #[.int .i64 p1, .int .i64 p2] 24)) = v7 at *
    have fqb := World.block_lt_of_cell? _ _ fq0; (try dsimp only at fqb)
    have fab7 := fab
    have fbb7 := fbb
    have fcb7 := fcb
    have fdb7 := fdb
    have fpb7 := fpb
    clear hv7 hB7
    generalize w7.heap.size = B7 at *
    clear L1 L2 L3 L4 L5 L6' hm
    have ss1 := hid (fun W => same_eq a1 a2 a3 W)
    have ss2 := hid (fun W => same_eq c1 c2 c3 W)
    have ss3 := hid (fun W => same_eq p1 p2 p3 W)
    have hL6 : L6 B2 B3 B4 B5 B6 B7 a1 a2 c1 c2 p1 p2 v7 := ⟨fa0, fa1, fb0, fb1, fc0, fc1, fd0, fd1, fp0, fp1, fq0, fq1⟩
    clear fa0 fa1 fb0 fb1 fc0 fc1 fd0 fd1 fp0 fp1 fq0 fq1
    go_loopw [64] (fun s wx => s = .int .i64 0 ∧ L6 B2 B3 B4 B5 B6 B7 a1 a2 c1 c2 p1 p2 wx ∧ Below w.heap.size w wx) (fun _ _ => 0)
    case atStart => exact ⟨rfl, hL6, by assumption⟩
    case round =>
      clear hL6
      obtain ⟨rfl, ⟨fa0, fa1, fb0, fb1, fc0, fc1, fd0, fd1, fp0, fp1, fq0, fq1⟩, hB⟩ := hrel
      have hzr := hB.size
      go_wp2_with fail
      refine useF w (ss1.out _) (by go_grown) ?_; rintro e w11 rfl hB11 hk11 hf11 hs11
      replace fa0 := hk11 _ _ _ fa0
      replace fa1 := hk11 _ _ _ fa1
      (try clear fab); have fab := World.block_lt_of_cell? _ _ fa0; (try dsimp only at fab)
      replace fb0 := hk11 _ _ _ fb0
      replace fb1 := hk11 _ _ _ fb1
      (try clear fbb); have fbb := World.block_lt_of_cell? _ _ fb0; (try dsimp only at fbb)
      replace fc0 := hk11 _ _ _ fc0
      replace fc1 := hk11 _ _ _ fc1
      (try clear fcb); have fcb := World.block_lt_of_cell? _ _ fc0; (try dsimp only at fcb)
      replace fd0 := hk11 _ _ _ fd0
      replace fd1 := hk11 _ _ _ fd1
      (try clear fdb); have fdb := World.block_lt_of_cell? _ _ fd0; (try dsimp only at fdb)
      replace fp0 := hk11 _ _ _ fp0
      replace fp1 := hk11 _ _ _ fp1
      (try clear fpb); have fpb := World.block_lt_of_cell? _ _ fp0; (try dsimp only at fpb)
      replace fq0 := hk11 _ _ _ fq0
      replace fq1 := hk11 _ _ _ fq1
      (try clear fqb); have fqb := World.block_lt_of_cell? _ _ fq0; (try dsimp only at fqb)
      have hz11 := hB11.size
      clear hk11 hf11 hs11
      go_wp2_with fail
      refine useF w (ss2.out _) (by go_grown) ?_; rintro e w12 rfl hB12 hk12 hf12 hs12
      replace fa0 := hk12 _ _ _ fa0
      replace fa1 := hk12 _ _ _ fa1
      (try clear fab); have fab := World.block_lt_of_cell? _ _ fa0; (try dsimp only at fab)
      replace fb0 := hk12 _ _ _ fb0
      replace fb1 := hk12 _ _ _ fb1
      (try clear fbb); have fbb := World.block_lt_of_cell? _ _ fb0; (try dsimp only at fbb)
      replace fc0 := hk12 _ _ _ fc0
      replace fc1 := hk12 _ _ _ fc1
      (try clear fcb); have fcb := World.block_lt_of_cell? _ _ fc0; (try dsimp only at fcb)
      replace fd0 := hk12 _ _ _ fd0
      replace fd1 := hk12 _ _ _ fd1
      (try clear fdb); have fdb := World.block_lt_of_cell? _ _ fd0; (try dsimp only at fdb)
      replace fp0 := hk12 _ _ _ fp0
      replace fp1 := hk12 _ _ _ fp1
      (try clear fpb); have fpb := World.block_lt_of_cell? _ _ fp0; (try dsimp only at fpb)
      replace fq0 := hk12 _ _ _ fq0
      replace fq1 := hk12 _ _ _ fq1
      (try clear fqb); have fqb := World.block_lt_of_cell? _ _ fq0; (try dsimp only at fqb)
      have hz12 := hB12.size
      clear hk12 hf12 hs12
      go_wp2_with fail
      refine useF w (ss3.out _) (by go_grown) ?_; rintro e w13 rfl hB13 hk13 hf13 hs13
      replace fa0 := hk13 _ _ _ fa0
      replace fa1 := hk13 _ _ _ fa1
      (try clear fab); have fab := World.block_lt_of_cell? _ _ fa0; (try dsimp only at fab)
      replace fb0 := hk13 _ _ _ fb0
      replace fb1 := hk13 _ _ _ fb1
      (try clear fbb); have fbb := World.block_lt_of_cell? _ _ fb0; (try dsimp only at fbb)
      replace fc0 := hk13 _ _ _ fc0
      replace fc1 := hk13 _ _ _ fc1
      (try clear fcb); have fcb := World.block_lt_of_cell? _ _ fc0; (try dsimp only at fcb)
      replace fd0 := hk13 _ _ _ fd0
      replace fd1 := hk13 _ _ _ fd1
      (try clear fdb); have fdb := World.block_lt_of_cell? _ _ fd0; (try dsimp only at fdb)
      replace fp0 := hk13 _ _ _ fp0
      replace fp1 := hk13 _ _ _ fp1
      (try clear fpb); have fpb := World.block_lt_of_cell? _ _ fp0; (try dsimp only at fpb)
      replace fq0 := hk13 _ _ _ fq0
      replace fq1 := hk13 _ _ _ fq1
      (try clear fqb); have fqb := World.block_lt_of_cell? _ _ fq0; (try dsimp only at fqb)
      have hz13 := hB13.size
      clear hk13 hf13 hs13
      go_wp2_with fail
      go_ret
      exact ⟨rfl, by go_grown⟩
  · have hmx : 0 + 0 ≤ maxLen := by unfold maxLen; omega
    have hby : (0 + 0) * 16 ≤ 140737488355328 := by omega
    clear hm
    go_enter Try.func11, Try.ntmps11
    go_upto_region 4 with ((at_builtin; refine wpList_append_own _ rfl _ _ 68 rfl w.heap.size 24 i0 (.agg #[.int .i64 0, .int .i64 0]) 2 16 Try.underlying68 hii.out.1 hii.out.2.1 hii.out.2.2.1 hii.out.2.2.2 rfl (by decide) _ _ _ rfl hown ⟨bq, oq, sq⟩ 0 cl [] rfl rfl (fun _ _ h => by simp at h) (fun _ h => by cases h) hmx hby hbs ?_; intro v1 w1 hownr hgrow _))
    obtain ⟨q1, cap1, rfl⟩ : ∃ q1 cap1, v1 = .slice q1 0 cap1 := by
      rcases hownr.2 with ⟨rfl, _⟩ | ⟨g, cp, cur, rfl, _⟩
      · exact ⟨_, _, rfl⟩
      · exact ⟨_, _, rfl⟩
    replace hgrow : (w.alloc (.cells #[] 24)).grownBy w1 (some w.heap.size) := hgrow
    have hkc : ∀ b o v, b < w.heap.size → (w.alloc (.cells #[] 24)).cell? ⟨b, o, none⟩ = some v → w1.cell? ⟨b, o, none⟩ = some v := fun b o v hb h => hgrow.cell h (fun e' => absurd (show b = w.heap.size from Option.some.inj e') (by omega))
    have hm : SLp qm m w1 := by
      rcases hm2.out with e | ⟨b, o', e, hsm⟩
      · exact .inl e
      · by_cases c : m = []
        · exact .inl c
        · exact .inr ⟨b, o', e, fun i p hp => by
            obtain ⟨h0, h1⟩ := hsm i p hp
            exact ⟨hkc _ _ _ (hmb.out b o' e c) h0, hkc _ _ _ (hmb.out b o' e c) h1⟩⟩
    have hB1w : Below w.heap.size w w1 := hB1w0.grown hgrow (by simp) (fun j e => by have := Option.some.inj e; omega)
    clear hkc hownr hgrow hown hii hmx hby hbs hm2 hmb
    clear hB1w0
    go_wp2_with fail
    refine useF w (L1.out _ _ _ (.inl rfl)) (by go_grown) ?_; rintro e w2 rfl hB2 hk2 hf2 hs2
    replace hm := (hm).keep hk2
    have hz2 := hB2.size
    clear hk2 hf2 hs2
    have hB2x : Below w.heap.size w (w2.alloc (.cells #[.int .i64 a1, .int .i64 a2] 24)) := by go_grown
    have hm' := (hm).alloc (.cells #[.int .i64 a1, .int .i64 a2] 24)
    have fa0 := (show (w2.alloc (.cells #[.int .i64 a1, .int .i64 a2] 24)).cell? ⟨w2.heap.size, 0, none⟩ = some (.int .i64 a1) by simp [go_sem])
    have faf0 := (show (w2.alloc (.cells #[.int .i64 a1, .int .i64 a2] 24)).frozen? ⟨w2.heap.size, 0, none⟩ = false by simp [go_sem])
    have fa1 := (show (w2.alloc (.cells #[.int .i64 a1, .int .i64 a2] 24)).cell? ⟨w2.heap.size, 1, none⟩ = some (.int .i64 a2) by simp [go_sem])
    have faf1 := (show (w2.alloc (.cells #[.int .i64 a1, .int .i64 a2] 24)).frozen? ⟨w2.heap.size, 1, none⟩ = false by simp [go_sem])
    go_wp2_with fail
    replace hm := hm'; clear hm'
    have hz2x := hB2x.size
    generalize hv2 : (w2.alloc (.cells #[.int .i64 a1, .int .i64 a2] 24)) = v2 at *
    have fab := World.block_lt_of_cell? _ _ fa0; (try dsimp only at fab)
    clear hv2 hB2
    generalize w2.heap.size = B2 at *
    refine useF w (L2.out _ (.inl rfl)) (by go_grown) ?_; rintro e w3 rfl hB3 hk3 hf3 hs3
    replace fa0 := hk3 _ _ _ fa0
    replace fa1 := hk3 _ _ _ fa1
    (try clear fab); have fab := World.block_lt_of_cell? _ _ fa0; (try dsimp only at fab)
    replace hm := (hm).keep hk3
    have hz3 := hB3.size
    clear hk3 hf3 hs3
    have hB3x : Below w.heap.size w (w3.alloc (.cells #[.int .i64 a1, .int .i64 a2] 24)) := by go_grown
    have fa0' := (keepA (.cells #[.int .i64 a1, .int .i64 a2] 24) fa0)
    have fa1' := (keepA (.cells #[.int .i64 a1, .int .i64 a2] 24) fa1)
    have hm' := (hm).alloc (.cells #[.int .i64 a1, .int .i64 a2] 24)
    have fb0 := (show (w3.alloc (.cells #[.int .i64 a1, .int .i64 a2] 24)).cell? ⟨w3.heap.size, 0, none⟩ = some (.int .i64 a1) by simp [go_sem])
    have fbf0 := (show (w3.alloc (.cells #[.int .i64 a1, .int .i64 a2] 24)).frozen? ⟨w3.heap.size, 0, none⟩ = false by simp [go_sem])
    have fb1 := (show (w3.alloc (.cells #[.int .i64 a1, .int .i64 a2] 24)).cell? ⟨w3.heap.size, 1, none⟩ = some (.int .i64 a2) by simp [go_sem])
    have fbf1 := (show (w3.alloc (.cells #[.int .i64 a1, .int .i64 a2] 24)).frozen? ⟨w3.heap.size, 1, none⟩ = false by simp [go_sem])
    go_wp2_with fail
    replace fa0 := fa0'; clear fa0'
    replace fa1 := fa1'; clear fa1'
    replace hm := hm'; clear hm'
    have hz3x := hB3x.size
    generalize hv3 : (w3.alloc (.cells #[.int .i64 a1, .int .i64 a2] 24)) = v3 at *
    have fbb := World.block_lt_of_cell? _ _ fb0; (try dsimp only at fbb)
    have fab3 := fab
    clear hv3 hB3
    generalize w3.heap.size = B3 at *
    refine useF w (L3.out _ _ _ (.inl rfl) hm) (by go_grown) ?_; rintro e w4 rfl hB4 hk4 hf4 hs4
    replace fa0 := hk4 _ _ _ fa0
    replace fa1 := hk4 _ _ _ fa1
    (try clear fab); have fab := World.block_lt_of_cell? _ _ fa0; (try dsimp only at fab)
    replace fb0 := hk4 _ _ _ fb0
    replace fb1 := hk4 _ _ _ fb1
    (try clear fbb); have fbb := World.block_lt_of_cell? _ _ fb0; (try dsimp only at fbb)
    replace hm := (hm).keep hk4
    have hz4 := hB4.size
    clear hk4 hf4 hs4
    have hB4x : Below w.heap.size w (w4.alloc (.cells #[.int .i64 c1, .int .i64 c2] 24)) := by go_grown
    have fa0' := (keepA (.cells #[.int .i64 c1, .int .i64 c2] 24) fa0)
    have fa1' := (keepA (.cells #[.int .i64 c1, .int .i64 c2] 24) fa1)
    have fb0' := (keepA (.cells #[.int .i64 c1, .int .i64 c2] 24) fb0)
    have fb1' := (keepA (.cells #[.int .i64 c1, .int .i64 c2] 24) fb1)
    have hm' := (hm).alloc (.cells #[.int .i64 c1, .int .i64 c2] 24)
    have fc0 := (show (w4.alloc (.cells #[.int .i64 c1, .int .i64 c2] 24)).cell? ⟨w4.heap.size, 0, none⟩ = some (.int .i64 c1) by simp [go_sem])
    have fcf0 := (show (w4.alloc (.cells #[.int .i64 c1, .int .i64 c2] 24)).frozen? ⟨w4.heap.size, 0, none⟩ = false by simp [go_sem])
    have fc1 := (show (w4.alloc (.cells #[.int .i64 c1, .int .i64 c2] 24)).cell? ⟨w4.heap.size, 1, none⟩ = some (.int .i64 c2) by simp [go_sem])
    have fcf1 := (show (w4.alloc (.cells #[.int .i64 c1, .int .i64 c2] 24)).frozen? ⟨w4.heap.size, 1, none⟩ = false by simp [go_sem])
    go_wp2_with fail
    replace fa0 := fa0'; clear fa0'
    replace fa1 := fa1'; clear fa1'
    replace fb0 := fb0'; clear fb0'
    replace fb1 := fb1'; clear fb1'
    replace hm := hm'; clear hm'
    have hz4x := hB4x.size
    generalize hv4 : (w4.alloc (.cells #[.int .i64 c1, .int .i64 c2] 24)) = v4 at *
    have fcb := World.block_lt_of_cell? _ _ fc0; (try dsimp only at fcb)
    have fab4 := fab
    have fbb4 := fbb
    clear hv4 hB4
    generalize w4.heap.size = B4 at *
    refine useF w (L4.out _ (.inl rfl) hm) (by go_grown) ?_; rintro e w5 rfl hB5 hk5 hf5 hs5
    replace fa0 := hk5 _ _ _ fa0
    replace fa1 := hk5 _ _ _ fa1
    (try clear fab); have fab := World.block_lt_of_cell? _ _ fa0; (try dsimp only at fab)
    replace fb0 := hk5 _ _ _ fb0
    replace fb1 := hk5 _ _ _ fb1
    (try clear fbb); have fbb := World.block_lt_of_cell? _ _ fb0; (try dsimp only at fbb)
    replace fc0 := hk5 _ _ _ fc0
    replace fc1 := hk5 _ _ _ fc1
    (try clear fcb); have fcb := World.block_lt_of_cell? _ _ fc0; (try dsimp only at fcb)
    replace hm := (hm).keep hk5
    have hz5 := hB5.size
    clear hk5 hf5 hs5
    have hB5x : Below w.heap.size w (w5.alloc (.cells #[.int .i64 c1, .int .i64 c2] 24)) := by go_grown
    have fa0' := (keepA (.cells #[.int .i64 c1, .int .i64 c2] 24) fa0)
    have fa1' := (keepA (.cells #[.int .i64 c1, .int .i64 c2] 24) fa1)
    have fb0' := (keepA (.cells #[.int .i64 c1, .int .i64 c2] 24) fb0)
    have fb1' := (keepA (.cells #[.int .i64 c1, .int .i64 c2] 24) fb1)
    have fc0' := (keepA (.cells #[.int .i64 c1, .int .i64 c2] 24) fc0)
    have fc1' := (keepA (.cells #[.int .i64 c1, .int .i64 c2] 24) fc1)
    have hm' := (hm).alloc (.cells #[.int .i64 c1, .int .i64 c2] 24)
    have fd0 := (show (w5.alloc (.cells #[.int .i64 c1, .int .i64 c2] 24)).cell? ⟨w5.heap.size, 0, none⟩ = some (.int .i64 c1) by simp [go_sem])
    have fdf0 := (show (w5.alloc (.cells #[.int .i64 c1, .int .i64 c2] 24)).frozen? ⟨w5.heap.size, 0, none⟩ = false by simp [go_sem])
    have fd1 := (show (w5.alloc (.cells #[.int .i64 c1, .int .i64 c2] 24)).cell? ⟨w5.heap.size, 1, none⟩ = some (.int .i64 c2) by simp [go_sem])
    have fdf1 := (show (w5.alloc (.cells #[.int .i64 c1, .int .i64 c2] 24)).frozen? ⟨w5.heap.size, 1, none⟩ = false by simp [go_sem])
    go_wp2_with fail
    replace fa0 := fa0'; clear fa0'
    replace fa1 := fa1'; clear fa1'
    replace fb0 := fb0'; clear fb0'
    replace fb1 := fb1'; clear fb1'
    replace fc0 := fc0'; clear fc0'
    replace fc1 := fc1'; clear fc1'
    replace hm := hm'; clear hm'
    have hz5x := hB5x.size
    generalize hv5 : (w5.alloc (.cells #[.int .i64 c1, .int .i64 c2] 24)) = v5 at *
    have fdb := World.block_lt_of_cell? _ _ fd0; (try dsimp only at fdb)
    have fab5 := fab
    have fbb5 := fbb
    have fcb5 := fcb
    clear hv5 hB5
    generalize w5.heap.size = B5 at *
    refine useF w (L5.out _ _ _ (.inl rfl)) (by go_grown) ?_; rintro e w6 rfl hB6 hk6 hf6 hs6
    replace fa0 := hk6 _ _ _ fa0
    replace fa1 := hk6 _ _ _ fa1
    (try clear fab); have fab := World.block_lt_of_cell? _ _ fa0; (try dsimp only at fab)
    replace fb0 := hk6 _ _ _ fb0
    replace fb1 := hk6 _ _ _ fb1
    (try clear fbb); have fbb := World.block_lt_of_cell? _ _ fb0; (try dsimp only at fbb)
    replace fc0 := hk6 _ _ _ fc0
    replace fc1 := hk6 _ _ _ fc1
    (try clear fcb); have fcb := World.block_lt_of_cell? _ _ fc0; (try dsimp only at fcb)
    replace fd0 := hk6 _ _ _ fd0
    replace fd1 := hk6 _ _ _ fd1
    (try clear fdb); have fdb := World.block_lt_of_cell? _ _ fd0; (try dsimp only at fdb)
    replace hm := (hm).keep hk6
    have hz6 := hB6.size
    clear hk6 hf6 hs6
    have hB6x : Below w.heap.size w (w6.alloc (.cells #[.int .i64 p1, .int .i64 p2] 24)) := by go_grown
    have fa0' := (keepA (.cells #[.int .i64 p1, .int .i64 p2] 24) fa0)
    have fa1' := (keepA (.cells #[.int .i64 p1, .int .i64 p2] 24) fa1)
    have fb0' := (keepA (.cells #[.int .i64 p1, .int .i64 p2] 24) fb0)
    have fb1' := (keepA (.cells #[.int .i64 p1, .int .i64 p2] 24) fb1)
    have fc0' := (keepA (.cells #[.int .i64 p1, .int .i64 p2] 24) fc0)
    have fc1' := (keepA (.cells #[.int .i64 p1, .int .i64 p2] 24) fc1)
    have fd0' := (keepA (.cells #[.int .i64 p1, .int .i64 p2] 24) fd0)
    have fd1' := (keepA (.cells #[.int .i64 p1, .int .i64 p2] 24) fd1)
    have hm' := (hm).alloc (.cells #[.int .i64 p1, .int .i64 p2] 24)
    have fp0 := (show (w6.alloc (.cells #[.int .i64 p1, .int .i64 p2] 24)).cell? ⟨w6.heap.size, 0, none⟩ = some (.int .i64 p1) by simp [go_sem])
    have fpf0 := (show (w6.alloc (.cells #[.int .i64 p1, .int .i64 p2] 24)).frozen? ⟨w6.heap.size, 0, none⟩ = false by simp [go_sem])
    have fp1 := (show (w6.alloc (.cells #[.int .i64 p1, .int .i64 p2] 24)).cell? ⟨w6.heap.size, 1, none⟩ = some (.int .i64 p2) by simp [go_sem])
    have fpf1 := (show (w6.alloc (.cells #[.int .i64 p1, .int .i64 p2] 24)).frozen? ⟨w6.heap.size, 1, none⟩ = false by simp [go_sem])
    go_wp2_with fail
    replace fa0 := fa0'; clear fa0'
    replace fa1 := fa1'; clear fa1'
    replace fb0 := fb0'; clear fb0'
    replace fb1 := fb1'; clear fb1'
    replace fc0 := fc0'; clear fc0'
    replace fc1 := fc1'; clear fc1'
    replace fd0 := fd0'; clear fd0'
    replace fd1 := fd1'; clear fd1'
    replace hm := hm'; clear hm'
    have hz6x := hB6x.size
    generalize hv6 : (w6.alloc (.cells #[.int .i64 p1, .int .i64 p2] 24)) = v6 at *
    have fpb := World.block_lt_of_cell? _ _ fp0; (try dsimp only at fpb)
    have fab6 := fab
    have fbb6 := fbb
    have fcb6 := fcb
    have fdb6 := fdb
    clear hv6 hB6
    generalize w6.heap.size = B6 at *
    refine useF w (L6'.out _ (.inl rfl)) (by go_grown) ?_; rintro e w7 rfl hB7 hk7 hf7 hs7
    replace fa0 := hk7 _ _ _ fa0
    replace fa1 := hk7 _ _ _ fa1
    (try clear fab); have fab := World.block_lt_of_cell? _ _ fa0; (try dsimp only at fab)
    replace fb0 := hk7 _ _ _ fb0
    replace fb1 := hk7 _ _ _ fb1
    (try clear fbb); have fbb := World.block_lt_of_cell? _ _ fb0; (try dsimp only at fbb)
    replace fc0 := hk7 _ _ _ fc0
    replace fc1 := hk7 _ _ _ fc1
    (try clear fcb); have fcb := World.block_lt_of_cell? _ _ fc0; (try dsimp only at fcb)
    replace fd0 := hk7 _ _ _ fd0
    replace fd1 := hk7 _ _ _ fd1
    (try clear fdb); have fdb := World.block_lt_of_cell? _ _ fd0; (try dsimp only at fdb)
    replace fp0 := hk7 _ _ _ fp0
    replace fp1 := hk7 _ _ _ fp1
    (try clear fpb); have fpb := World.block_lt_of_cell? _ _ fp0; (try dsimp only at fpb)
    replace hm := (hm).keep hk7
    have hz7 := hB7.size
    clear hk7 hf7 hs7
    have hB7x : Below w.heap.size w (w7.alloc (.cells #[.int .i64 p1, .int .i64 p2] 24)) := by go_grown
    have fa0' := (keepA (.cells #[.int .i64 p1, .int .i64 p2] 24) fa0)
    have fa1' := (keepA (.cells #[.int .i64 p1, .int .i64 p2] 24) fa1)
    have fb0' := (keepA (.cells #[.int .i64 p1, .int .i64 p2] 24) fb0)
    have fb1' := (keepA (.cells #[.int .i64 p1, .int .i64 p2] 24) fb1)
    have fc0' := (keepA (.cells #[.int .i64 p1, .int .i64 p2] 24) fc0)
    have fc1' := (keepA (.cells #[.int .i64 p1, .int .i64 p2] 24) fc1)
    have fd0' := (keepA (.cells #[.int .i64 p1, .int .i64 p2] 24) fd0)
    have fd1' := (keepA (.cells #[.int .i64 p1, .int .i64 p2] 24) fd1)
    have fp0' := (keepA (.cells #[.int .i64 p1, .int .i64 p2] 24) fp0)
    have fp1' := (keepA (.cells #[.int .i64 p1, .int .i64 p2] 24) fp1)
    have hm' := (hm).alloc (.cells #[.int .i64 p1, .int .i64 p2] 24)
    have fq0 := (show (w7.alloc (.cells #[.int .i64 p1, .int .i64 p2] 24)).cell? ⟨w7.heap.size, 0, none⟩ = some (.int .i64 p1) by simp [go_sem])
    have fqf0 := (show (w7.alloc (.cells #[.int .i64 p1, .int .i64 p2] 24)).frozen? ⟨w7.heap.size, 0, none⟩ = false by simp [go_sem])
    have fq1 := (show (w7.alloc (.cells #[.int .i64 p1, .int .i64 p2] 24)).cell? ⟨w7.heap.size, 1, none⟩ = some (.int .i64 p2) by simp [go_sem])
    have fqf1 := (show (w7.alloc (.cells #[.int .i64 p1, .int .i64 p2] 24)).frozen? ⟨w7.heap.size, 1, none⟩ = false by simp [go_sem])
    go_wp2_with fail
    replace fa0 := fa0'; clear fa0'
    replace fa1 := fa1'; clear fa1'
    replace fb0 := fb0'; clear fb0'
    replace fb1 := fb1'; clear fb1'
    replace fc0 := fc0'; clear fc0'
    replace fc1 := fc1'; clear fc1'
    replace fd0 := fd0'; clear fd0'
    replace fd1 := fd1'; clear fd1'
    replace fp0 := fp0'; clear fp0'
    replace fp1 := fp1'; clear fp1'
    replace hm := hm'; clear hm'
    have hz7x := hB7x.size
    generalize hv7 : (w7.alloc (.cells #[.int .i64 p1, .int .i64 p2] 24)) = v7 at *
    have fqb := World.block_lt_of_cell? _ _ fq0; (try dsimp only at fqb)
    have fab7 := fab
    have fbb7 := fbb
    have fcb7 := fcb
    have fdb7 := fdb
    have fpb7 := fpb
    clear hv7 hB7
    generalize w7.heap.size = B7 at *
    clear L1 L2 L3 L4 L5 L6' hm
    have ss1 := hid (fun W => same_eq a1 a2 a3 W)
    have ss2 := hid (fun W => same_eq c1 c2 c3 W)
    have ss3 := hid (fun W => same_eq p1 p2 p3 W)
    have hL6 : L6 B2 B3 B4 B5 B6 B7 a1 a2 c1 c2 p1 p2 v7 := ⟨fa0, fa1, fb0, fb1, fc0, fc1, fd0, fd1, fp0, fp1, fq0, fq1⟩
    clear fa0 fa1 fb0 fb1 fc0 fc1 fd0 fd1 fp0 fp1 fq0 fq1
    go_loopw [64] (fun s wx => s = .int .i64 0 ∧ L6 B2 B3 B4 B5 B6 B7 a1 a2 c1 c2 p1 p2 wx ∧ Below w.heap.size w wx) (fun _ _ => 0)
    case atStart => exact ⟨rfl, hL6, by assumption⟩
    case round =>
      clear hL6
      obtain ⟨rfl, ⟨fa0, fa1, fb0, fb1, fc0, fc1, fd0, fd1, fp0, fp1, fq0, fq1⟩, hB⟩ := hrel
      have hzr := hB.size
      go_wp2_with fail
      refine useF w (ss1.out _) (by go_grown) ?_; rintro e w11 rfl hB11 hk11 hf11 hs11
      replace fa0 := hk11 _ _ _ fa0
      replace fa1 := hk11 _ _ _ fa1
      (try clear fab); have fab := World.block_lt_of_cell? _ _ fa0; (try dsimp only at fab)
      replace fb0 := hk11 _ _ _ fb0
      replace fb1 := hk11 _ _ _ fb1
      (try clear fbb); have fbb := World.block_lt_of_cell? _ _ fb0; (try dsimp only at fbb)
      replace fc0 := hk11 _ _ _ fc0
      replace fc1 := hk11 _ _ _ fc1
      (try clear fcb); have fcb := World.block_lt_of_cell? _ _ fc0; (try dsimp only at fcb)
      replace fd0 := hk11 _ _ _ fd0
      replace fd1 := hk11 _ _ _ fd1
      (try clear fdb); have fdb := World.block_lt_of_cell? _ _ fd0; (try dsimp only at fdb)
      replace fp0 := hk11 _ _ _ fp0
      replace fp1 := hk11 _ _ _ fp1
      (try clear fpb); have fpb := World.block_lt_of_cell? _ _ fp0; (try dsimp only at fpb)
      replace fq0 := hk11 _ _ _ fq0
      replace fq1 := hk11 _ _ _ fq1
      (try clear fqb); have fqb := World.block_lt_of_cell? _ _ fq0; (try dsimp only at fqb)
      have hz11 := hB11.size
      clear hk11 hf11 hs11
      go_wp2_with fail
      refine useF w (ss2.out _) (by go_grown) ?_; rintro e w12 rfl hB12 hk12 hf12 hs12
      replace fa0 := hk12 _ _ _ fa0
      replace fa1 := hk12 _ _ _ fa1
      (try clear fab); have fab := World.block_lt_of_cell? _ _ fa0; (try dsimp only at fab)
      replace fb0 := hk12 _ _ _ fb0
      replace fb1 := hk12 _ _ _ fb1
      (try clear fbb); have fbb := World.block_lt_of_cell? _ _ fb0; (try dsimp only at fbb)
      replace fc0 := hk12 _ _ _ fc0
      replace fc1 := hk12 _ _ _ fc1
      (try clear fcb); have fcb := World.block_lt_of_cell? _ _ fc0; (try dsimp only at fcb)
      replace fd0 := hk12 _ _ _ fd0
      replace fd1 := hk12 _ _ _ fd1
      (try clear fdb); have fdb := World.block_lt_of_cell? _ _ fd0; (try dsimp only at fdb)
      replace fp0 := hk12 _ _ _ fp0
      replace fp1 := hk12 _ _ _ fp1
      (try clear fpb); have fpb := World.block_lt_of_cell? _ _ fp0; (try dsimp only at fpb)
      replace fq0 := hk12 _ _ _ fq0
      replace fq1 := hk12 _ _ _ fq1
      (try clear fqb); have fqb := World.block_lt_of_cell? _ _ fq0; (try dsimp only at fqb)
      have hz12 := hB12.size
      clear hk12 hf12 hs12
      go_wp2_with fail
      refine useF w (ss3.out _) (by go_grown) ?_; rintro e w13 rfl hB13 hk13 hf13 hs13
      replace fa0 := hk13 _ _ _ fa0
      replace fa1 := hk13 _ _ _ fa1
      (try clear fab); have fab := World.block_lt_of_cell? _ _ fa0; (try dsimp only at fab)
      replace fb0 := hk13 _ _ _ fb0
      replace fb1 := hk13 _ _ _ fb1
      (try clear fbb); have fbb := World.block_lt_of_cell? _ _ fb0; (try dsimp only at fbb)
      replace fc0 := hk13 _ _ _ fc0
      replace fc1 := hk13 _ _ _ fc1
      (try clear fcb); have fcb := World.block_lt_of_cell? _ _ fc0; (try dsimp only at fcb)
      replace fd0 := hk13 _ _ _ fd0
      replace fd1 := hk13 _ _ _ fd1
      (try clear fdb); have fdb := World.block_lt_of_cell? _ _ fd0; (try dsimp only at fdb)
      replace fp0 := hk13 _ _ _ fp0
      replace fp1 := hk13 _ _ _ fp1
      (try clear fpb); have fpb := World.block_lt_of_cell? _ _ fp0; (try dsimp only at fpb)
      replace fq0 := hk13 _ _ _ fq0
      replace fq1 := hk13 _ _ _ fq1
      (try clear fqb); have fqb := World.block_lt_of_cell? _ _ fq0; (try dsimp only at fqb)
      have hz13 := hB13.size
      clear hk13 hf13 hs13
      go_wp2_with fail
      go_ret
      exact ⟨rfl, by go_grown⟩
theorem lists_long (q1 q2 : Option Addr) (n1 c1 n2 c2 : Nat) (h : 70 < n1 ∨ 70 < n2) (w : World) :
    Calls Try.prog 11 #[.slice q1 n1 c1, .slice q2 n2 c2] w fun e w' => e = .returned (.bool true) ∧ Below w.heap.size w w' := by
  by_cases h1 : 70 < n1
  · have e1 : (70 : Int) < n1 := by omega
    have d1 : decide ((70 : Int) < n1) = true := decide_eq_true e1
    go_enter Try.func11, Try.ntmps11
    go_wp2_with fail
    go_ret
    exact ⟨rfl, by go_grown⟩
  · have e1 : ¬ (70 : Int) < n1 := by omega
    have d1 : decide ((70 : Int) < n1) = false := decide_eq_false e1
    have e2 : (70 : Int) < n2 := by omega
    have d2 : decide ((70 : Int) < n2) = true := decide_eq_true e2
    go_enter Try.func11, Try.ntmps11
    go_wp2_with fail
    go_ret
    exact ⟨rfl, by go_grown⟩
theorem lawLists_any (ql qm : Option Addr) (cl cm : Nat) (l m : List (Int × Int)) (w : World) (hq : ql = none → cl = 0) (hl : SLp ql l w) (hm : SLp qm m w) (hbl : ∀ p ∈ l, (-9223372036854775808 ≤ p.1 ∧ p.1 ≤ 9223372036854775807) ∧ (-9223372036854775808 ≤ p.2 ∧ p.2 ≤ 9223372036854775807)) (hbm : ∀ p ∈ m, (-9223372036854775808 ≤ p.1 ∧ p.1 ≤ 9223372036854775807) ∧ (-9223372036854775808 ≤ p.2 ∧ p.2 ≤ 9223372036854775807)) :
    Calls Try.prog 11 #[.slice ql l.length cl, .slice qm m.length cm] w fun e w' => e = .returned (.bool true) ∧ Below w.heap.size w w' := by
  by_cases h7 : 70 < l.length ∨ 70 < m.length
  · exact lists_long ql qm _ cl _ cm h7 w
  · have hmb : Hid (∀ b o : Nat, qm = some ⟨b, o, none⟩ → m ≠ [] → b < w.heap.size) := hid (fun b o e hne => by
      rcases hm with h | ⟨B, O, e', hs⟩
      · exact absurd h hne
      · rw [e] at e'; cases e'
        obtain ⟨p, hp⟩ := span_some (List.length_pos_iff.2 hne)
        exact hs.lt hp)
    by_cases h0 : l.length = 0
    · obtain rfl := List.eq_nil_of_length_eq_zero h0
      exact lists_none m cl cm ql qm hq w hm (by omega) hmb _ _ _ _ _ _ _ _ _ (fun q cap W h => sum_any q cap [] W h hbl (by simp)) (fun W h => rsum_any ql cl [] W h hbl) (fun q cap W h h' => dot_any q qm cap cm [] m W h h' hbl hbm (by simp) (by omega)) (fun W h h' => rdot_any ql qm cl cm [] m W h h' hbl hbm)
        (fun q cap W h => norm_any q cap [] W h hbl (by simp)) (fun W h => rnorm_any ql cl [] W h hbl)
    · rcases hl with rfl | ⟨B, o, rfl, hs⟩
      · exact absurd rfl h0
      · exact lists_go l m B o cl cm qm w hs hm ⟨by omega, by omega⟩ (by omega) hmb _ _ _ _ _ _ _ _ _ (fun q cap W h => sum_any q cap l W h hbl (by omega)) (fun W h => rsum_any _ cl l W h hbl) (fun q cap W h h' => dot_any q qm cap cm l m W h h' hbl hbm (by omega) (by omega)) (fun W h h' => rdot_any _ qm cl cm l m W h h' hbl hbm)
          (fun q cap W h => norm_any q cap l W h hbl (by omega)) (fun W h => rnorm_any _ cl l W h hbl)
end Go.Proofs.Ytjleflfncijnpaa
