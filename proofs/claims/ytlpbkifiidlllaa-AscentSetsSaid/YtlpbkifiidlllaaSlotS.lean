/- Lists of slots: what a call's own row holds, and what a slice reads. -/
import Derived.OwnWalk
import Derived.Test.YtlpbkifiidlllaaRows
import Derived.Test.YtlpbkifiidlllaaBase
import Derived.Test.YtlpbkifiidlllaaFacts
import Derived.Test.YtlpbkifiidlllaaTwo
import Derived.Deep.RegionHeld3
import Derived.Deep.RegionWith
import Derived.Deep.QuietTactic
import Derived.BigQuiet
import Derived.Test.YtlpbkifiidlllaaSeq
import Derived.Test.YtlpbkifiidlllaaWinM
set_option linter.unusedVariables false
set_option linter.unusedSimpArgs false
set_option maxHeartbeats 4000000
set_option maxRecDepth 100000
namespace Go.Proofs.Ytlpbkifiidlllaa
open Go Go.RowKit
theorem Try.info45 : (Try.prog.info? 45).map (fun i => (i.zero, i.size, i.bytes)) = some (some (.agg #[.int .i64 0, .int .i64 0]), 2, 16) := by kernel_rfl
def flatS (l : List (Int × Int)) : List Value := l.flatMap fun p => [.int .i64 p.1, .int .i64 p.2]
theorem flat_len (l : List (Int × Int)) : (flatS l).length = l.length * 2 := by
  induction l with
  | nil => rfl
  | cons p l ih => show (_ :: _ :: flatS l).length = _; rw [List.length_cons, List.length_cons, ih, List.length_cons]; omega
theorem flat_snoc (l : List (Int × Int)) (a b : Int) : flatS (l ++ [(a, b)]) = flatS l ++ [.int .i64 a, .int .i64 b] := by unfold flatS; rw [List.flatMap_append]; rfl
theorem flat_at : ∀ (l : List (Int × Int)) (i : Nat) (p : Int × Int), l[i]? = some p → (flatS l)[i * 2]? = some (.int .i64 p.1) ∧ (flatS l)[i * 2 + 1]? = some (.int .i64 p.2)
  | [], i, p, h => by simp at h
  | q :: l, 0, p, h => by
    have : q = p := by simpa using h
    subst this
    exact ⟨rfl, rfl⟩
  | q :: l, i + 1, p, h => by
    have := flat_at l i p (by simpa using h)
    have e : flatS (q :: l) = .int .i64 q.1 :: .int .i64 q.2 :: flatS l := rfl
    rw [e, show (i + 1) * 2 = i * 2 + 1 + 1 by omega, show i * 2 + 1 + 1 + 1 = i * 2 + 1 + 1 + 1 from rfl]
    rw [List.getElem?_cons_succ, List.getElem?_cons_succ, List.getElem?_cons_succ, List.getElem?_cons_succ]
    exact this
/-- A row of slots of the call's own. -/
def OwnS (B : Nat) (l : List (Int × Int)) (v : Value) (w : World) : Prop := w.ownsRow B 45 2 v l.length (flatS l)
theorem OwnS.nil (B : Nat) (w : World) : OwnS B [] (.slice none 0 0) w := World.ownsRow_nil _ _ _ _
theorem OwnS.alloc {B : Nat} {l : List (Int × Int)} {v : Value} {w : World} (h : OwnS B l v w) (o : Obj) : OwnS B l v (w.alloc o) := World.ownsRow.alloc h o
theorem OwnS.below {B : Nat} {l : List (Int × Int)} {v : Value} {w w1 : World} (h : OwnS B l v w) (hb : Below w.heap.size w w1) : OwnS B l v w1 :=
  World.ownsRow.kept (row := none) h ⟨hb.os, hb.tape, hb.output, hb.size, fun k hk _ => hb.block k hk⟩ (by cases hv : v.ownBlock <;> simp)
theorem useO {P : Program} {f : FuncId} {args : Array Value} (w : World) {W : World} {R : Ending → Prop} {Q : Ending → World → Prop} (hc : Calls P f args W (fun e w' => R e ∧ Below W.heap.size W w')) (hW : Below w.heap.size w W)
    (k : ∀ e w1, R e → Below w.heap.size w w1 → Below W.heap.size W w1 → Q e w1) : Calls P f args W Q :=
  Calls.mono hc fun e w1 ⟨hr, hb⟩ => k e w1 hr (hW.trans (hb.mono hW.size)) hb
theorem cell_below {w w1 : World} {B o : Nat} {v : Value} (h : w.cell? ⟨B, o, none⟩ = some v) (hb : Below w.heap.size w w1) : w1.cell? ⟨B, o, none⟩ = some v :=
  (hb.cell (p := ⟨B, o, none⟩) (World.block_lt_of_cell? w ⟨B, o, none⟩ h)).trans h
theorem OwnS.len {B : Nat} {l : List (Int × Int)} {v : Value} {w : World} (h : OwnS B l v w) : ∃ q cap, v = .slice q l.length cap := by
  obtain ⟨_, ⟨rfl, h2⟩ | ⟨g, cap, cur, rfl, _⟩⟩ := h
  · exact ⟨none, 0, by rw [h2]⟩
  · exact ⟨_, cap, rfl⟩
/-- The cells of slots. -/
def RowS (B o : Nat) (l : List (Int × Int)) (w : World) : Prop := ∀ (i : Nat) (p : Int × Int), l[i]? = some p → w.cell? ⟨B, o + i * 2, none⟩ = some (.int .i64 p.1) ∧ w.cell? ⟨B, o + i * 2 + 1, none⟩ = some (.int .i64 p.2)
theorem RowS.keep {B o : Nat} {l : List (Int × Int)} {w w1 : World} (h : RowS B o l w) (hk : ∀ b o v, w.cell? ⟨b, o, none⟩ = some v → w1.cell? ⟨b, o, none⟩ = some v) : RowS B o l w1 :=
  fun i p hp => let ⟨h0, h1⟩ := h i p hp; ⟨hk _ _ _ h0, hk _ _ _ h1⟩
/-- A slice that reads as a list of slots. -/
def SlotsIn (v : Value) (l : List (Int × Int)) (w : World) : Prop := ∃ q cap, v = .slice q l.length cap ∧ (l = [] ∨ ∃ B o, q = some ⟨B, o, none⟩ ∧ RowS B o l w)
theorem SlotsIn.keep {v : Value} {l : List (Int × Int)} {w w1 : World} (h : SlotsIn v l w) (hk : ∀ b o v, w.cell? ⟨b, o, none⟩ = some v → w1.cell? ⟨b, o, none⟩ = some v) : SlotsIn v l w1 := by
  obtain ⟨q, cap, e, h | ⟨B, o, e2, hr⟩⟩ := h
  · exact ⟨q, cap, e, Or.inl h⟩
  · exact ⟨q, cap, e, Or.inr ⟨B, o, e2, hr.keep hk⟩⟩
theorem SlotsIn.alloc {v : Value} {l : List (Int × Int)} {w : World} (h : SlotsIn v l w) (x : Obj) : SlotsIn v l (w.alloc x) := h.keep fun _ _ _ h => keepA _ h
theorem SlotsIn.nil (w : World) : SlotsIn (.slice none 0 0) [] w := ⟨none, 0, rfl, Or.inl rfl⟩
theorem own_slots {B : Nat} {l : List (Int × Int)} {v : Value} {w : World} (h : OwnS B l v w) : SlotsIn v l w := by
  have hc := fun g => World.ownsRow.cells h (g := g)
  obtain ⟨h1, ⟨rfl, hn⟩ | ⟨g, cap, cur, rfl, _⟩⟩ := h
  · have : l = [] := List.eq_nil_of_length_eq_zero hn
    subst this
    exact SlotsIn.nil w
  · refine ⟨_, cap, rfl, Or.inr ⟨g, 0, rfl, fun i p hp => ?_⟩⟩
    obtain ⟨f0, f1⟩ := flat_at l i p hp
    have a0 := hc g rfl _ _ f0
    have a1 := hc g rfl _ _ f1
    have ea : ∀ j, (⟨g, 0, none⟩ : Addr).add j = ⟨g, j, none⟩ := fun j => by unfold Addr.add; split <;> simp_all
    rw [ea] at a0 a1
    rw [Nat.zero_add]
    exact ⟨a0, a1⟩
theorem app_slot {ops : Array Oper} {rest : List Oper} {o : Oper} {a : Act} {Q : Exit → Act → World → Prop} {w0 : World} (hgd : o.guard = none) (s x : Operand)
    (ho : o.op = .call { callee := .builtin .append, args := #[s, x], argTypes := #[22, 22] }) (B : Nat) (v : Value) (l : List (Int × Int)) (hs : a.eval s = v) (hown : OwnS B l v w0) (b c : Int) (n0 : Nat)
    (hx : a.eval x = .slice (some ⟨n0, 0, none⟩) 1 1) (hn0 : n0 = w0.heap.size) (hn : l.length < 1000000) (hB : B ≤ w0.heap.size)
    (h : ∀ v' w', OwnS B (l ++ [(b, c)]) v' w' → Below B w0 w' → wpList Try.prog ops Q rest (a.put o.dst v') w') : wpList Try.prog ops Q (o :: rest) a (w0.alloc (.cells #[.int .i64 b, .int .i64 c] 45)) := by
  subst hn0
  obtain ⟨i0, hi, hz0, hz1, hz2⟩ := info_parts Try.info45
  refine wpList_append_own _ hgd s x 22 ho B 45 i0 (.agg #[.int .i64 0, .int .i64 0]) 2 16 Try.underlying22 hi hz0 hz1 hz2 rfl (by decide) v l.length (flatS l) hs (World.ownsRow.alloc hown _) ⟨w0.heap.size, 0, none⟩ 1 1 [.int .i64 b, .int .i64 c] hx rfl ?_ ?_ ?_ ?_ ?_ ?_
  · intro j u hj
    cases j with
    | zero => simp at hj; subst hj; simp [Addr.add, go_sem]
    | succ j =>
      cases j with
      | zero => simp at hj; subst hj; simp [Addr.add, go_sem]
      | succ j => simp at hj
  · intro u hu; simp at hu; rcases hu with rfl | rfl <;> rfl
  · unfold maxLen; omega
  · omega
  · simp [go_sem]; omega
  · intro v' w' h1 h2 _
    refine h v' w' ?_ ?_
    · unfold OwnS; rw [flat_snoc, List.length_append]; exact h1
    · exact ((Below.refl B _).alloc hB _).trans ((Below.refl B _).grown h2 (by simp [go_sem]; omega) (fun k hk => (World.ownsRow.lt hown k hk).1))
end Go.Proofs.Ytlpbkifiidlllaa
