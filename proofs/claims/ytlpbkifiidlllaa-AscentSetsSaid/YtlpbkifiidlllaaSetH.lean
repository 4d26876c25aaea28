/- Sets of times: whether one has a time, how many times it has, its ends. -/
import Derived.OwnWalk
import Derived.Deep.DeepCutAuto
import Derived.Test.YtlpbkifiidlllaaRows
import Derived.Test.YtlpbkifiidlllaaBase
import Derived.Test.YtlpbkifiidlllaaFacts
import Derived.Test.YtlpbkifiidlllaaTwo
import Derived.Deep.RegionHeld3
import Derived.Deep.RegionWith
import Derived.Deep.QuietTactic
import Derived.BigQuiet
import Derived.Test.YtlpbkifiidlllaaSeq
import Derived.Test.YtlpbkifiidlllaaWinM
import Derived.Test.YtlpbkifiidlllaaWinF
import Derived.Test.YtlpbkifiidlllaaSlotS
import Derived.Test.YtlpbkifiidlllaaSlotU
import Derived.Test.YtlpbkifiidlllaaSetM
import Derived.Test.YtlpbkifiidlllaaSetF
import Derived.Test.YtlpbkifiidlllaaSetG
set_option linter.unusedVariables false
set_option linter.unusedSimpArgs false
set_option maxHeartbeats 4000000
set_option maxRecDepth 100000
namespace Go.Proofs.Ytlpbkifiidlllaa
open Go Go.RowKit
theorem Try.info3 : (Try.prog.info? 3).map (fun i => (i.zero, i.size, i.bytes)) = some (some (.int .i64 0), 1, 8) := by kernel_rfl
def intsV (l : List Int) : List Value := l.map fun n => .int .i64 n
theorem intsV_len (l : List Int) : (intsV l).length = l.length := by unfold intsV; rw [List.length_map]
/-- A row of numbers of the call's own. -/
def OwnI (B : Nat) (l : List Int) (v : Value) (w : World) : Prop := w.ownsRow B 3 1 v l.length (intsV l)
theorem OwnI.nil (B : Nat) (w : World) : OwnI B [] (.slice none 0 0) w := World.ownsRow_nil _ _ _ _
theorem OwnI.alloc {B : Nat} {l : List Int} {v : Value} {w : World} (h : OwnI B l v w) (o : Obj) : OwnI B l v (w.alloc o) := World.ownsRow.alloc h o
theorem OwnI.below {B : Nat} {l : List Int} {v : Value} {w w1 : World} (h : OwnI B l v w) (hb : Below w.heap.size w w1) : OwnI B l v w1 :=
  World.ownsRow.kept (row := none) h ⟨hb.os, hb.tape, hb.output, hb.size, fun k hk _ => hb.block k hk⟩ (by cases hv : v.ownBlock <;> simp)
theorem OwnI.len {B : Nat} {l : List Int} {v : Value} {w : World} (h : OwnI B l v w) : ∃ q cap, v = .slice q l.length cap := by
  obtain ⟨_, ⟨rfl, h2⟩ | ⟨g, cap, cur, rfl, _⟩⟩ := h
  · exact ⟨none, 0, by rw [h2]⟩
  · exact ⟨_, cap, rfl⟩
/-- The cells of numbers. -/
def RowI (B o : Nat) (l : List Int) (w : World) : Prop := ∀ (i : Nat) (n : Int), l[i]? = some n → w.cell? ⟨B, o + i, none⟩ = some (.int .i64 n)
/-- A slice that reads as a list of numbers. -/
def IntsIn (v : Value) (l : List Int) (w : World) : Prop := ∃ q cap, v = .slice q l.length cap ∧ (l = [] ∨ ∃ B o, q = some ⟨B, o, none⟩ ∧ RowI B o l w)
theorem IntsIn.keep {v : Value} {l : List Int} {w w1 : World} (h : IntsIn v l w) (hk : ∀ b o v, w.cell? ⟨b, o, none⟩ = some v → w1.cell? ⟨b, o, none⟩ = some v) : IntsIn v l w1 := by
  obtain ⟨q, cap, e, h | ⟨B, o, e2, hr⟩⟩ := h
  · exact ⟨q, cap, e, Or.inl h⟩
  · exact ⟨q, cap, e, Or.inr ⟨B, o, e2, fun i n hn => hk _ _ _ (hr i n hn)⟩⟩
theorem IntsIn.below {v : Value} {l : List Int} {w w1 : World} (h : IntsIn v l w) (hb : Below w.heap.size w w1) : IntsIn v l w1 := h.keep fun _ _ _ h => cell_below h hb
theorem IntsIn.alloc {v : Value} {l : List Int} {w : World} (h : IntsIn v l w) (x : Obj) : IntsIn v l (w.alloc x) := h.keep fun _ _ _ h => keepA _ h
theorem IntsIn.drew {v : Value} {l : List Int} {w : World} (h : IntsIn v l w) : IntsIn v l w.drew := h.keep fun _ _ _ h => by rw [World.cell?_drew]; exact h
theorem IntsIn.nil (w : World) : IntsIn (.slice none 0 0) [] w := ⟨none, 0, rfl, Or.inl rfl⟩
theorem own_ints2 {B : Nat} {l : List Int} {v : Value} {w : World} (h : OwnI B l v w) : IntsIn v l w := by
  have hc := fun g => World.ownsRow.cells h (g := g)
  obtain ⟨h1, ⟨rfl, hn⟩ | ⟨g, cap, cur, rfl, _⟩⟩ := h
  · have : l = [] := List.eq_nil_of_length_eq_zero hn
    subst this
    exact IntsIn.nil w
  · refine ⟨_, cap, rfl, Or.inr ⟨g, 0, rfl, fun i n hn => ?_⟩⟩
    have a0 := hc g rfl i (.int .i64 n) (by unfold intsV; rw [List.getElem?_map, hn]; rfl)
    have ea : (⟨g, 0, none⟩ : Addr).add i = ⟨g, i, none⟩ := by unfold Addr.add; split <;> simp_all
    rw [ea] at a0
    rw [Nat.zero_add]
    exact a0
theorem app_ints {ops : Array Oper} {rest : List Oper} {o : Oper} {a : Act} {Q : Exit → Act → World → Prop} {w0 : World} (hgd : o.guard = none) (s x : Operand)
    (ho : o.op = .call { callee := .builtin .append, args := #[s, x], argTypes := #[46, 46] }) (B : Nat) (v : Value) (l : List Int) (hs : a.eval s = v) (hown : OwnI B l v w0) (new : List Int) (n0 m : Nat)
    (hx : a.eval x = .slice (some ⟨n0, 0, none⟩) m m) (hm : m = new.length) (hn0 : n0 = w0.heap.size) (hn : l.length < 1000000) (hm2 : m < 1000) (hB : B ≤ w0.heap.size) (cs : Array Value) (hcs : cs = (intsV new).toArray)
    (h : ∀ v' w', OwnI B (l ++ new) v' w' → Below B w0 w' → wpList Try.prog ops Q rest (a.put o.dst v') w') : wpList Try.prog ops Q (o :: rest) a (w0.alloc (.cells cs 3)) := by
  subst hn0 hm hcs
  obtain ⟨i0, hi, hz0, hz1, hz2⟩ := info_parts Try.info3
  refine wpList_append_own _ hgd s x 46 ho B 3 i0 (.int .i64 0) 1 8 Try.underlying46 hi hz0 hz1 hz2 rfl (by decide) v l.length (intsV l) hs (World.ownsRow.alloc hown _) ⟨w0.heap.size, 0, none⟩ new.length new.length (intsV new) hx (by rw [intsV_len, Nat.mul_one]) ?_ ?_ ?_ ?_ ?_ ?_
  · intro j u hj
    have ea : (⟨w0.heap.size, 0, none⟩ : Addr).add j = ⟨w0.heap.size, j, none⟩ := by unfold Addr.add; split <;> simp_all
    rw [ea]
    simp [go_sem, hj]
  · intro u hu
    obtain ⟨n, _, rfl⟩ := List.mem_map.mp hu
    rfl
  · unfold maxLen; omega
  · omega
  · simp [go_sem]; omega
  · intro v' w' h1 h2 _
    refine h v' w' ?_ ?_
    · unfold OwnI
      have e : intsV (l ++ new) = intsV l ++ intsV new := by unfold intsV; rw [List.map_append]
      rw [e, List.length_append]; exact h1
    · exact ((Below.refl B _).alloc hB _).trans ((Below.refl B _).grown h2 (by simp [go_sem]; omega) (fun k hk => (World.ownsRow.lt hown k hk).1))
theorem ends_take {l : List (Int × Int)} {k : Nat} {F T : Int} (h : l[k]? = some (F, T)) : endsL (l.take (k + 1)) = endsL (l.take k) ++ [F, T] := by
  rw [List.take_add_one, h, show (some (F, T)).toList = [(F, T)] from rfl, ends_snoc]
theorem endsOf_any (v : Value) (l : List (Int × Int)) (w : World) (hv : SlotsIn v l w) (hl : l.length < 100000) :
    Calls Try.prog 35 #[v] w fun e w' => (∃ v', e = .returned v' ∧ IntsIn v' (endsL l) w') ∧ Below w.heap.size w w' := by
  have g := hv
  obtain ⟨q, cap, rfl, _⟩ := g
  go_enter Try.func35, Try.ntmps35
  go_wp2_with fail
  go_loopw [8, 3] (fun s v wx => ∃ k : Nat, s = .int .i64 k ∧ k ≤ l.length ∧ OwnI w.heap.size (endsL (l.take k)) v wx ∧ Below w.heap.size w wx) (fun s _ _ => (l.length - intOf s).toNat)
  case atStart => exact ⟨0, rfl, Nat.zero_le _, OwnI.nil _ _, Below.refl _ _⟩
  case round =>
    obtain ⟨k, rfl, hk, hown, hB⟩ := hrel
    have h1 := hv.below hB
    clear hv
    have hz := hB.size
    by_cases c : k = l.length
    · have c1 : ¬ (k : Int) < l.length := by omega
      subst c
      rw [List.take_length] at hown
      have hr := own_ints2 hown
      clear h1 hown
      go_wp2_with fail
      go_ret
      exact ⟨⟨_, rfl, hr⟩, by go_grown⟩
    · obtain ⟨⟨F, T⟩, hp⟩ := slot_some (show k < l.length by omega)
      have g1 := h1
      obtain ⟨x1, y1, e0, z1 | ⟨B1, o1, z1, r1⟩⟩ := g1
      · rw [z1] at hk c; simp at hk; simp at c; omega
      simp only [Value.slice.injEq] at e0
      obtain ⟨rfl, _, rfl⟩ := e0
      subst z1
      obtain ⟨d0, d1⟩ := r1 k _ hp
      dsimp only at d0 d1
      have hkc : (k : Int) < l.length := by omega
      have hlen : (endsL (l.take k)).length < 1000000 := by rw [ends_len, List.length_take]; omega
      have e2 := hid (ends_take hp)
      replace hown := hown.alloc (.cells #[.int .i64 F, .int .i64 T] 45)
      clear h1 r1 hp c
      go_wp2_with (at_builtin; go_loud (refine app_ints rfl _ _ rfl w.heap.size _ _ rfl (by exact hown) [F, T] _ _ rfl rfl (by first | rfl | simp [go_sem]) hlen (by simp) (by simp [go_sem]; omega) _ rfl ?_))
      intro v5 w5 h5 hb5
      rw [← e2.out] at h5
      have hB5 : Below w.heap.size w w5 := by
        refine Below.trans ?_ hb5
        go_grown
      clear hb5 hown e2
      go_wp2_with fail
      exact ⟨⟨k + 1, by simp, by omega, h5, hB5⟩, by first | (simp [intOf]; done) | (simp [intOf]; omega)⟩
theorem has_skip {l : List (Int × Int)} {c : Int} (h : ∀ (i : Nat) (p : Int × Int), l[i]? = some p → ¬ (p.1 ≤ c ∧ c < p.2)) : hasB l c = false := by
  unfold hasB
  rw [List.any_eq_false]
  intro p hp
  obtain ⟨i, hi⟩ := List.getElem?_of_mem hp
  simpa using h i p hi
theorem has_hit {l : List (Int × Int)} {c : Int} {i : Nat} {F T : Int} (h : l[i]? = some (F, T)) (h1 : F ≤ c) (h2 : c < T) : hasB l c = true := by
  unfold hasB
  rw [List.any_eq_true]
  exact ⟨_, List.mem_of_getElem? h, decide_eq_true ⟨h1, h2⟩⟩
theorem rholds_any (v : Value) (l : List (Int × Int)) (t : Int) (w : World) (hv : SlotsIn v l w) (hl : l.length < 1000000) :
    Calls Try.prog 24 #[v, .int .i64 t] w fun e w' => e = .returned (.bool (hasB l t)) ∧ Below w.heap.size w w' := by
  have g := hv
  obtain ⟨q, cap, rfl, _⟩ := g
  go_enter Try.func24, Try.ntmps24
  go_wp2_with fail
  go_loopw [5] (fun s wx => ∃ k : Nat, s = .int .i64 k ∧ k ≤ l.length ∧ Hid (∀ i p, i < k → l[i]? = some p → ¬ (p.1 ≤ t ∧ t < p.2)) ∧ Below w.heap.size w wx) (fun s _ => (l.length - intOf s).toNat)
  case atStart => exact ⟨0, rfl, Nat.zero_le _, hid (fun i p hi => absurd hi (by omega)), Below.refl _ _⟩
  case round =>
    obtain ⟨k, rfl, hk, hg, hB⟩ := hrel
    have h1 := hv.below hB
    clear hv
    have hz := hB.size
    by_cases c : k = l.length
    · have c1 : ¬ (k : Int) < l.length := by omega
      have hE := hid (has_skip (c := t) (l := l) (fun i p hp => hg.out i p (by have := (List.getElem?_eq_some_iff.mp hp).1; omega) hp))
      clear h1 hg
      go_wp2_with fail
      (go_ret; exact ⟨ret_bool (by (try simp only [Array.getD_eq_getD_getElem?, List.getElem?_toArray, List.getElem?_cons_succ, List.getElem?_cons_zero, Option.getD_some]) <;> (exact hE.out.symm)), by go_grown⟩)
    · obtain ⟨⟨F, T⟩, hp⟩ := slot_some (show k < l.length by omega)
      have g1 := h1
      obtain ⟨x1, y1, e0, z1 | ⟨B1, o1, z1, r1⟩⟩ := g1
      · rw [z1] at hk c; simp at hk; simp at c; omega
      simp only [Value.slice.injEq] at e0
      obtain ⟨rfl, _, rfl⟩ := e0
      subst z1
      obtain ⟨d0, d1⟩ := r1 k _ hp
      dsimp only at d0 d1
      have hkc : (k : Int) < l.length := by omega
      have hN : ¬ (F ≤ t ∧ t < T) → Hid (∀ i p, i < k + 1 → l[i]? = some p → ¬ (p.1 ≤ t ∧ t < p.2)) := fun hn => hid fun i p hi hpp => by
        rcases Nat.lt_or_eq_of_le (Nat.lt_succ_iff.mp hi) with h | rfl
        · exact hg.out i p h hpp
        · rw [hp] at hpp; cases hpp; exact hn
      have hY := fun a b => has_hit (c := t) hp a b
      clear h1 r1 hp c hg
      by_cases a : F ≤ t
      · by_cases b : t < T
        · have hE := hid (hY a b)
          clear hN hY
          go_wp2_with fail
          (go_ret; exact ⟨ret_bool (by (try simp only [Array.getD_eq_getD_getElem?, List.getElem?_toArray, List.getElem?_cons_succ, List.getElem?_cons_zero, Option.getD_some]) <;> (exact hE.out.symm)), by go_grown⟩)
        · have hE := hN (fun h => b h.2)
          clear hN hY
          go_wp2_with fail
          exact ⟨⟨k + 1, by simp, by omega, hE, by go_grown⟩, by first | (simp [intOf]; done) | (simp [intOf]; omega)⟩
      · have hE := hN (fun h => a h.1)
        clear hN hY
        go_wp2_with fail
        exact ⟨⟨k + 1, by simp, by omega, hE, by go_grown⟩, by first | (simp [intOf]; done) | (simp [intOf]; omega)⟩
end Go.Proofs.Ytlpbkifiidlllaa
