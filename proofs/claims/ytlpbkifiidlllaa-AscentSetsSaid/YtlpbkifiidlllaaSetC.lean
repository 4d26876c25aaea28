/- AscentSets: copies of sets, and the walk. -/
import Derived.OwnWalk
import Derived.Laws.AppendOwnNone
import Derived.Deep.DeepCutAuto
import Derived.Test.YtlpbkifiidlllaaRows
import Derived.Test.YtlpbkifiidlllaaBase
import Derived.Test.YtlpbkifiidlllaaFacts
import Derived.Test.YtlpbkifiidlllaaTwo
import Derived.Deep.RegionHeld3
import Derived.Deep.RegionWith
import Derived.Deep.QuietTactic
import Derived.BigQuiet
import Derived.Test.YtlpbkifiidlllaaSeq
import Derived.Test.YtlpbkifiidlllaaWinM
import Derived.Test.YtlpbkifiidlllaaWinF
import Derived.Test.YtlpbkifiidlllaaSlotS
import Derived.Test.YtlpbkifiidlllaaSlotU
import Derived.Test.YtlpbkifiidlllaaSetM
import Derived.Test.YtlpbkifiidlllaaSetF
import Derived.Test.YtlpbkifiidlllaaSetG
import Derived.Test.YtlpbkifiidlllaaSetH
import Derived.Test.YtlpbkifiidlllaaSetN
import Derived.Test.YtlpbkifiidlllaaSetO
import Derived.Test.YtlpbkifiidlllaaSetP
import Derived.Test.YtlpbkifiidlllaaSetQ
import Derived.Test.YtlpbkifiidlllaaSetR
import Derived.Test.YtlpbkifiidlllaaSetT
set_option linter.unusedVariables false
set_option linter.unusedSimpArgs false
set_option maxHeartbeats 4000000
set_option maxRecDepth 100000
namespace Go.Proofs.Ytlpbkifiidlllaa
open Go Go.RowKit
theorem row_flat {B o : Nat} {w : World} : ∀ {l : List (Int × Int)}, RowS B o l w → ∀ (j : Nat) (u : Value), (flatS l)[j]? = some u → w.cell? ⟨B, o + j, none⟩ = some u := by
  intro l h j u hu
  have hj : j < l.length * 2 := by rw [← flat_len]; exact (List.getElem?_eq_some_iff.mp hu).1
  obtain ⟨i, hi⟩ : ∃ i, j = i * 2 ∨ j = i * 2 + 1 := ⟨j / 2, by omega⟩
  obtain ⟨p, hp⟩ := slot_some (show i < l.length by omega)
  obtain ⟨f0, f1⟩ := flat_at l _ p hp
  obtain ⟨d0, d1⟩ := h _ _ hp
  rcases hi with rfl | rfl
  · rw [f0] at hu; rw [← Option.some.inj hu]; exact d0
  · rw [f1] at hu; rw [← Option.some.inj hu, ← Nat.add_assoc]; exact d1
/-- A copy of a set. -/
theorem copy_set {ops : Array Oper} {rest : List Oper} {W : World} {o : Oper} {a : Act} {Q : Exit → Act → World → Prop} (hgd : o.guard = none) (s x : Operand)
    (ho : o.op = .call { callee := .builtin .append, args := #[s, x], argTypes := #[22, 22] }) (B g : Nat) (hs : a.eval s = .slice (some ⟨g, 0, none⟩) 0 0) (hown : OwnS B [] (.slice (some ⟨g, 0, none⟩) 0 0) W)
    (q : Option Addr) (cap n : Nat) (l : List (Int × Int)) (hx : a.eval x = .slice q n cap) (hn : n = l.length) (hin : SlotsIn (.slice q n cap) l W) (hq : q = none → cap = 0) (hl : l.length < 1000000) (hB : B ≤ W.heap.size)
    (h : ∀ v' w', SlotsIn v' l w' → Below B W w' → wpList Try.prog ops Q rest (a.put o.dst v') w') : wpList Try.prog ops Q (o :: rest) a W := by
  subst hn
  obtain ⟨i0, hi, hz0, hz1, hz2⟩ := info_parts Try.info45
  cases q with
  | none =>
    have hc := hq rfl
    subst hc
    obtain ⟨x1, y1, e0, z1 | ⟨B1, o1, z1, r1⟩⟩ := hin
    · subst z1
      exact wpList_append_own_none hgd s x 22 ho B 45 i0 2 Try.underlying22 hi _ 0 _ hs hown hx (h _ _ ⟨_, _, rfl, Or.inl rfl⟩ (Below.refl _ _))
    · simp only [Value.slice.injEq] at e0
      rw [z1] at e0
      exact absurd e0.1 (by simp)
  | some ad =>
    refine wpList_append_own (P := Try.prog) (w := W) hgd s x 22 ho B 45 i0 (.agg #[.int .i64 0, .int .i64 0]) 2 16 Try.underlying22 hi hz0 hz1 hz2 rfl (by decide) _ 0 (flatS []) hs hown ad l.length cap (flatS l) hx (flat_len l) ?_ ?_ ?_ ?_ hB ?_
    · intro j u hu
      obtain ⟨x1, y1, e0, z1 | ⟨B1, o1, z1, r1⟩⟩ := hin
      · subst z1; simp [flatS] at hu
      · simp only [Value.slice.injEq] at e0
        rw [z1] at e0
        obtain ⟨e0, _, _⟩ := e0
        have e1 := Option.some.inj e0
        subst e1
        have ea : (⟨B1, o1, none⟩ : Addr).add j = ⟨B1, o1 + j, none⟩ := by unfold Addr.add; split <;> simp_all
        rw [ea]
        exact row_flat r1 j u hu
    · intro u hu
      obtain ⟨p, _, hp⟩ := List.mem_flatMap.mp hu
      simp at hp
      rcases hp with rfl | rfl <;> rfl
    · unfold maxLen; omega
    · omega
    · intro v' w' h2 h3 _
      have h4 : OwnS B l v' w' := by
        unfold OwnS
        have e : flatS [] ++ flatS l = flatS l := rfl
        rw [e, Nat.zero_add] at h2
        exact h2
      exact h v' w' (own_slots h4) ((Below.refl B _).grown h3 hB (fun k hk => (World.ownsRow.lt hown k hk).1))
theorem lit_slots (W : World) : OwnS W.heap.size [] (.slice (some ⟨W.heap.size, 0, none⟩) 0 0) (W.alloc (.cells #[] 45)) := World.ownsRow_lit W #[] 0 (Nat.le_refl _) (Nat.zero_le _) rfl
/-- The document's set, whatever the sets are. -/
theorem rmixed_bad (v u : Value) (kd : Int) (k : Bool → Bool → Bool) (a b : List (Int × Int)) (w : World) (hv : SlotsIn v a w) (hu : SlotsIn u b w) (hla : a.length ≤ 60) (hlb : b.length ≤ 60) (ha : SlB a) (hb : SlB b) (h : (setB a && setB b) = false) :
    Calls Try.prog 9 #[v, u, .int .i64 kd] w fun e w' => MixP k a b w.heap.size w e w' := by
  have k1 := hid (fun W hW => rset_any v a W (hv.below hW) (by omega) ha)
  have k2 := hid (fun W hW => rset_any u b W (hu.below hW) (by omega) hb)
  have hE := hid (mix_no (k := k) h)
  have h3 : setB a = false ∨ (setB a = true ∧ setB b = false) := by
    cases ca : setB a
    · exact Or.inl rfl
    · rw [ca] at h; exact Or.inr ⟨rfl, by simpa using h⟩
  clear hv hu ha hb h
  rcases h3 with ca | ⟨ca, cb⟩
  · rw [ca] at k1
    cases cb : setB b
    all_goals
      rw [cb] at k2
      go_enter Try.func9, Try.ntmps9
      go_wp2_with fail
      refine useK w (k1.out _ (by go_grown)) (by go_grown) ?_; rintro e w1 rfl hB1 hk1 hs1
      have hz1 := hB1.size
      clear hk1
      go_wp2_with fail
      refine useK w (k2.out _ (by go_grown)) (by go_grown) ?_; rintro e w2 rfl hB2 hk2 hs2
      have hz2 := hB2.size
      clear hk2
      go_wp2_with fail
      go_ret2
      exact ⟨⟨.slice none 0 0, by rw [hE.out.1]; rfl, by rw [hE.out.2]; exact SlotsIn.nil _⟩, by go_grown⟩
  · rw [ca] at k1
    rw [cb] at k2
    go_enter Try.func9, Try.ntmps9
    go_wp2_with fail
    refine useK w (k1.out _ (by go_grown)) (by go_grown) ?_; rintro e w1 rfl hB1 hk1 hs1
    have hz1 := hB1.size
    clear hk1
    go_wp2_with fail
    refine useK w (k2.out _ (by go_grown)) (by go_grown) ?_; rintro e w2 rfl hB2 hk2 hs2
    have hz2 := hB2.size
    clear hk2
    go_wp2_with fail
    go_ret2
    exact ⟨⟨.slice none 0 0, by rw [hE.out.1]; rfl, by rw [hE.out.2]; exact SlotsIn.nil _⟩, by go_grown⟩
theorem mixL_len (k : Bool → Bool → Bool) (a b : List (Int × Int)) (h : k false false = false) (ha : a.length ≤ 60) (hb : b.length ≤ 60) : (mixL k a b).length < 1000000 := by
  unfold mixL
  split
  · have := mix_len k a b h; omega
  · simp
theorem same_any (v u : Value) (l : List (Int × Int)) (w : World) (hv : SlotsIn v l w) (hu : SlotsIn u l w) (hl : l.length < 1000000) : Calls Try.prog 11 #[v, u] w fun e w' => e = .returned (.bool true) ∧ Below w.heap.size w w' := by
  have g := hv
  obtain ⟨q1, c1, rfl, _⟩ := g
  have g := hu
  obtain ⟨q2, c2, rfl, _⟩ := g
  exact same_slots q1 q2 c1 c2 l w hl hv hu
theorem rmixed0_any (v u : Value) (a b : List (Int × Int)) (w : World) (hv : SlotsIn v a w) (hu : SlotsIn u b w) (hla : a.length ≤ 60) (hlb : b.length ≤ 60) (ha : SlB a) (hb : SlB b) :
    Calls Try.prog 9 #[v, u, .int .i64 0] w fun e w' => MixP (fun x y => x && y) a b w.heap.size w e w' := by
  cases c : (setB a && setB b)
  · exact rmixed_bad v u 0 _ a b w hv hu hla hlb ha hb c
  · simp only [Bool.and_eq_true] at c
    exact rmixed0_ok v u a b w hv hu hla hlb ha hb c.1 c.2
theorem rmixed1_any (v u : Value) (a b : List (Int × Int)) (w : World) (hv : SlotsIn v a w) (hu : SlotsIn u b w) (hla : a.length ≤ 60) (hlb : b.length ≤ 60) (ha : SlB a) (hb : SlB b) :
    Calls Try.prog 9 #[v, u, .int .i64 1] w fun e w' => MixP (fun x y => x || y) a b w.heap.size w e w' := by
  cases c : (setB a && setB b)
  · exact rmixed_bad v u 1 _ a b w hv hu hla hlb ha hb c
  · simp only [Bool.and_eq_true] at c
    exact rmixed1_ok v u a b w hv hu hla hlb ha hb c.1 c.2
theorem rmixed2_any (v u : Value) (a b : List (Int × Int)) (w : World) (hv : SlotsIn v a w) (hu : SlotsIn u b w) (hla : a.length ≤ 60) (hlb : b.length ≤ 60) (ha : SlB a) (hb : SlB b) :
    Calls Try.prog 9 #[v, u, .int .i64 2] w fun e w' => MixP (fun x y => x && !y) a b w.heap.size w e w' := by
  cases c : (setB a && setB b)
  · exact rmixed_bad v u 2 _ a b w hv hu hla hlb ha hb c
  · simp only [Bool.and_eq_true] at c
    exact rmixed2_ok v u a b w hv hu hla hlb ha hb c.1 c.2
end Go.Proofs.Ytlpbkifiidlllaa
