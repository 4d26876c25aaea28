/- The places of two sets, as the document says: the ends of both in one list. -/
import Derived.OwnWalk
import Derived.Deep.DeepCutAuto
import Derived.Test.YtlpbkifiidlllaaRows
import Derived.Test.YtlpbkifiidlllaaBase
import Derived.Test.YtlpbkifiidlllaaFacts
import Derived.Test.YtlpbkifiidlllaaTwo
import Derived.Deep.RegionHeld3
import Derived.Deep.RegionWith
import Derived.Deep.QuietTactic
import Derived.BigQuiet
import Derived.Test.YtlpbkifiidlllaaSeq
import Derived.Test.YtlpbkifiidlllaaWinM
import Derived.Test.YtlpbkifiidlllaaWinF
import Derived.Test.YtlpbkifiidlllaaSlotS
import Derived.Test.YtlpbkifiidlllaaSlotU
import Derived.Test.YtlpbkifiidlllaaSetM
import Derived.Test.YtlpbkifiidlllaaSetF
import Derived.Test.YtlpbkifiidlllaaSetG
import Derived.Test.YtlpbkifiidlllaaSetH
import Derived.Test.YtlpbkifiidlllaaSetN
import Derived.Test.YtlpbkifiidlllaaSetO
set_option linter.unusedVariables false
set_option linter.unusedSimpArgs false
set_option maxHeartbeats 4000000
set_option maxRecDepth 100000
namespace Go.Proofs.Ytlpbkifiidlllaa
open Go Go.RowKit
theorem OwnI.drew {B : Nat} {l : List Int} {v : Value} {w : World} (h : OwnI B l v w) : OwnI B l v w.drew := World.ownsRow.drew h
/-- An append of numbers, at the operation. -/
theorem wp_ints {W : World} {o : Oper} {a : Act} {K : Act → World → Prop} {Q : Exit → Act → World → Prop} (s x : Operand)
    (ho : o.op = .call { callee := .builtin .append, args := #[s, x], argTypes := #[46, 46] }) (B : Nat) (v : Value) (l : List Int) (hs : a.eval s = v) (hown : OwnI B l v W) (new : List Int) (B2 o2 m c : Nat)
    (hx : a.eval x = .slice (some ⟨B2, o2, none⟩) m c) (hm : m = new.length) (hc : ∀ (i : Nat) (n : Int), new[i]? = some n → W.cell? ⟨B2, o2 + i, none⟩ = some (.int .i64 n)) (hn : l.length < 1000000) (hm2 : m < 1000000) (hB : B ≤ W.heap.size)
    (h : ∀ v' w', OwnI B (l ++ new) v' w' → W.grownBy w' v.ownBlock → Below B W w' → K (a.put o.dst v') w') : o.wp Try.prog a W K Q := by
  subst hm
  obtain ⟨i0, hi, hz0, hz1, hz2⟩ := info_parts Try.info3
  refine wp_append_own (P := Try.prog) (w := W) s x 46 ho B 3 i0 (.int .i64 0) 1 8 Try.underlying46 hi hz0 hz1 hz2 rfl (by decide) v l.length (intsV l) hs hown ⟨B2, o2, none⟩ new.length c (intsV new) hx (by rw [intsV_len, Nat.mul_one]) ?_ ?_ ?_ ?_ hB ?_
  · intro j u hj
    have ea : (⟨B2, o2, none⟩ : Addr).add j = ⟨B2, o2 + j, none⟩ := by unfold Addr.add; split <;> simp_all
    rw [ea]
    unfold intsV at hj
    rw [List.getElem?_map] at hj
    obtain ⟨n, hn, rfl⟩ := Option.map_eq_some_iff.mp hj
    exact hc j n hn
  · intro u hu
    obtain ⟨n, _, rfl⟩ := List.mem_map.mp hu
    rfl
  · unfold maxLen; omega
  · omega
  · intro v' w' h2 h3 _
    refine h v' w' ?_ h3 ((Below.refl B _).grown h3 hB (fun k hk => (World.ownsRow.lt hown k hk).1))
    unfold OwnI
    have e : intsV (l ++ new) = intsV l ++ intsV new := by unfold intsV; rw [List.map_append]
    rw [e, List.length_append]; exact h2
theorem app_intsW {ops : Array Oper} {rest : List Oper} {W : World} {o : Oper} {a : Act} {Q : Exit → Act → World → Prop} (hgd : o.guard = none) (s x : Operand)
    (ho : o.op = .call { callee := .builtin .append, args := #[s, x], argTypes := #[46, 46] }) (B : Nat) (v : Value) (l : List Int) (hs : a.eval s = v) (hown : OwnI B l v W) (new : List Int) (B2 o2 m c : Nat)
    (hx : a.eval x = .slice (some ⟨B2, o2, none⟩) m c) (hm : m = new.length) (hc : ∀ (i : Nat) (n : Int), new[i]? = some n → W.cell? ⟨B2, o2 + i, none⟩ = some (.int .i64 n)) (hn : l.length < 1000000) (hm2 : m < 1000000) (hB : B ≤ W.heap.size)
    (h : ∀ v' w', OwnI B (l ++ new) v' w' → W.grownBy w' v.ownBlock → Below B W w' → wpList Try.prog ops Q rest (a.put o.dst v') w') : wpList Try.prog ops Q (o :: rest) a W :=
  wpList_plain hgd fun _ hK => wp_ints s x ho B v l hs hown new B2 o2 m c hx hm hc hn hm2 hB fun v' w' h1 h2 h3 => hK _ _ (h v' w' h1 h2 h3)
theorem one_cell {W : World} {n : Nat} {F : Int} (h0 : W.cell? ⟨n, 0, none⟩ = some (.int .i64 F)) : ∀ (i : Nat) (z : Int), [F][i]? = some z → W.cell? ⟨n, 0 + i, none⟩ = some (.int .i64 z) := by
  intro i z hz
  cases i with
  | zero => simp at hz; subst hz; exact h0
  | succ i => simp at hz
theorem two_cells {W : World} {n : Nat} {F T : Int} (h0 : W.cell? ⟨n, 0, none⟩ = some (.int .i64 F)) (h1 : W.cell? ⟨n, 1, none⟩ = some (.int .i64 T)) : ∀ (i : Nat) (z : Int), [F, T][i]? = some z → W.cell? ⟨n, 0 + i, none⟩ = some (.int .i64 z) := by
  intro i z hz
  cases i with
  | zero => simp at hz; subst hz; exact h0
  | succ i =>
    cases i with
    | zero => simp at hz; subst hz; exact h1
    | succ i => simp at hz
theorem slots_block {B o n cap : Nat} {l : List (Int × Int)} {w : World} (h : SlotsIn (.slice (some ⟨B, o, none⟩) n cap) l w) (hl : 0 < l.length) : B < w.heap.size := by
  obtain ⟨x2, y2, e4, z2 | ⟨B3, o3, z3, r3⟩⟩ := h
  · rw [z2] at hl; simp at hl
  · simp only [Value.slice.injEq] at e4
    obtain ⟨e5, _, _⟩ := e4
    rw [z3] at e5
    simp only [Option.some.injEq, Addr.mk.injEq] at e5
    obtain ⟨p, hp⟩ := slot_some hl
    rw [e5.1]
    exact World.block_lt_of_cell? w _ (r3 0 p hp).1
theorem own_row {B B1 o1 n cap : Nat} {l : List Int} {w : World} (h : OwnI B l (.slice (some ⟨B1, o1, none⟩) n cap) w) : RowI B1 o1 l w := by
  obtain ⟨x1, y1, e0, z1 | ⟨B3, o3, z1, r1⟩⟩ := own_ints2 h
  · subst z1; intro i n hn; simp at hn
  · simp only [Value.slice.injEq] at e0
    rw [z1] at e0
    simp only [Option.some.injEq, Addr.mk.injEq] at e0
    obtain ⟨⟨rfl, rfl, _⟩, _, _⟩ := e0
    exact r1
theorem own_cap {B B1 o1 n cap : Nat} {l : List Int} {w : World} (h : OwnI B l (.slice (some ⟨B1, o1, none⟩) n cap) w) : l.length ≤ cap := by
  obtain ⟨_, ⟨h1, _⟩ | ⟨g, cap2, cur, h1, _, _, h2, _⟩⟩ := h
  · simp at h1
  · simp only [Value.slice.injEq] at h1
    rw [h1.2.2]; exact h2
theorem lit_own (W : World) : OwnI W.heap.size [] (.slice (some ⟨W.heap.size, 0, none⟩) 0 0) (W.alloc (.cells #[] 3)) := World.ownsRow_lit W #[] 0 (Nat.le_refl _) (Nat.zero_le _) rfl
def lenV : Value → Nat
  | .slice _ n _ => n
  | _ => 0
/-- The least one up to a place. -/
def LeastAt (l : List Int) (a i : Nat) : Prop := ∀ m, l[a]? = some m → ∀ (j : Nat) (n : Int), j < i → l[j]? = some n → m ≤ n
theorem least_one (l : List Int) : LeastAt l 0 1 := by
  intro m hm j n hj hn
  have : j = 0 := by omega
  subst this
  rw [hm] at hn
  have := Option.some.inj hn
  omega
theorem least_new {l : List Int} {a i : Nat} {m x : Int} (h : LeastAt l a i) (hm : l[a]? = some m) (hx : l[i]? = some x) (hl : x < m) : LeastAt l i (i + 1) := by
  intro m2 hm2 j n hj hn
  rw [hx] at hm2
  have e := Option.some.inj hm2
  rcases Nat.lt_or_eq_of_le (Nat.lt_succ_iff.mp hj) with g | rfl
  · have := h m hm j n g hn; omega
  · rw [hx] at hn; have := Option.some.inj hn; omega
theorem least_old {l : List Int} {a i : Nat} {m x : Int} (h : LeastAt l a i) (hm : l[a]? = some m) (hx : l[i]? = some x) (hl : ¬ x < m) : LeastAt l a (i + 1) := by
  intro m2 hm2 j n hj hn
  rw [hm] at hm2
  have e := Option.some.inj hm2
  rcases Nat.lt_or_eq_of_le (Nat.lt_succ_iff.mp hj) with g | rfl
  · have := h m hm j n g hn; omega
  · rw [hx] at hn; have := Option.some.inj hn; omega
set_option maxRecDepth 100000 in
theorem redges_any (v u : Value) (la lb : List (Int × Int)) (w : World) (hv : SlotsIn v la w) (hu : SlotsIn u lb w) (hla : la.length ≤ 60) (hlb : lb.length ≤ 60) (ha : Rise (endsL la)) (hb : Rise (endsL lb)) :
    Calls Try.prog 23 #[v, u] w fun e w' => (∃ v', e = .returned v' ∧ IntsIn v' ((mg (endsL la) (endsL lb) false false).map (·.1)) w') ∧ Below w.heap.size w w' := by
  have g := hv
  obtain ⟨q1, cap1, rfl, _⟩ := g
  have g := hu
  obtain ⟨q2, cap2, rfl, _⟩ := g
  go_enter Try.func23, Try.ntmps23
  go_wp2_with fail
  go_loopw [6, 5] (fun s l wx => ∃ k : Nat, s = .int .i64 k ∧ k ≤ la.length ∧ OwnI w.heap.size (endsL (la.take k)) l wx ∧ Below w.heap.size w wx) (fun s _ _ => (la.length - intOf s).toNat)
  case atStart => exact ⟨0, rfl, Nat.zero_le _, OwnI.nil _ _, Below.refl _ _⟩
  case round =>
    obtain ⟨k, rfl, hk, hown, hB⟩ := hrel
    have h1 := hv.below hB
    have hz := hB.size
    by_cases c : k = la.length
    · have c1 : ¬ (k : Int) < la.length := by omega
      subst c
      rw [List.take_length] at hown
      clear h1
      have hBx := hB
      go_wp2_with fail
      clear hB hz
      go_loopw [7, 5] (fun s l wx => ∃ k : Nat, s = .int .i64 k ∧ k ≤ lb.length ∧ OwnI w.heap.size (endsL la ++ endsL (lb.take k)) l wx ∧ Below w.heap.size w wx) (fun s _ _ => (lb.length - intOf s).toNat)
      case atStart => exact ⟨0, rfl, Nat.zero_le _, by rw [List.take_zero]; show OwnI _ (endsL la ++ []) _ _; rw [List.append_nil]; exact hown, hBx⟩
      case round =>
        clear hown hBx
        obtain ⟨k, rfl, hk, hown, hB⟩ := hrel
        have h2x := hu.below hB
        have hz := hB.size
        by_cases c : k = lb.length
        · have c1 : ¬ (k : Int) < lb.length := by omega
          subst c
          rw [List.take_length] at hown
          clear h2x
          go_wp2_with fail
          clear hz
          have hBy := hB
          clear hB
          go_loopw [5, 8] (fun vl vo wx => ∃ (l out : List Int) (bl : Nat), OwnI bl l vl wx ∧ OwnI w.heap.size out vo wx ∧ w.heap.size ≤ bl ∧ (∀ k, vo.ownBlock = some k → k < bl) ∧ Hid (EdgeI (fun c => c ∈ endsL la ∨ c ∈ endsL lb) out l) ∧ l.length + out.length ≤ 240 ∧ Below w.heap.size w wx) (fun vl _ _ => lenV vl)
          case atStart => exact ⟨_, [], w.heap.size, hown, OwnI.nil _ _, Nat.le_refl _, by intro k hk; simp [Value.ownBlock] at hk, hid ⟨List.Pairwise.nil, by simp, by simp⟩, by rw [List.length_append, ends_len, ends_len]; simp; omega, hBy⟩
          case round =>
            clear hown hBy
            obtain ⟨l, out, bl, hown, hout, hbl, hap, hE, hlen, hB⟩ := hrel
            have hz := hB.size
            have g := hown.len
            obtain ⟨ql, capl, rfl⟩ := g
            by_cases c0 : l = []
            · subst c0
              have hR := edge_end ha hb hE.out
              have hr := own_ints2 hout
              rw [hR] at hr
              clear hE hout hown hap hR hv hu
              go_wp2_with fail
              go_ret
              exact ⟨⟨_, rfl, hr⟩, by go_grown⟩
            · have hpos : 0 < l.length := List.length_pos_iff.mpr c0
              have hpos2 : (0 : Int) < l.length := by omega
              replace hv := hid hv
              replace hu := hid hu
              replace ha := hid ha
              replace hb := hid hb
              have hll : l.length ≤ 240 := by omega
              have hol : out.length ≤ 240 := by omega
              have hBz := hB
              clear hB
              go_wp2_with fail
              go_loopw [9, 10] (fun sa si wx => ∃ a i : Nat, sa = .int .i64 a ∧ si = .int .i64 i ∧ a < i ∧ i ≤ l.length ∧ Hid (LeastAt l a i) ∧ OwnI bl l (.slice ql l.length capl) wx ∧ OwnI w.heap.size out _ wx ∧ Below w.heap.size w wx) (fun _ si _ => l.length - (intOf si).toNat)
              case atStart => exact ⟨0, 1, rfl, rfl, by omega, by omega, hid (least_one l), hown, hout, hBz⟩
              case round =>
                clear hown hout hBz hz
                obtain ⟨a, i, rfl, rfl, hai, hil, hL, hown, hout, hB⟩ := hrel
                have hz := hB.size
                by_cases ci : i = l.length
                · have c1 : ¬ (i : Int) < l.length := by omega
                  have hac : (a : Int) < l.length := by omega
                  have hac2 : a < l.length := by omega
                  obtain ⟨m, hm⟩ := int_some hac2
                  have hmin : ∀ c ∈ l, m ≤ c := by
                    intro c hc
                    obtain ⟨j, hj⟩ := List.getElem?_of_mem hc
                    exact hL.out m hm j c (by have := (List.getElem?_eq_some_iff.mp hj).1; omega) hj
                  have hst := hid (edge_step hE.out (List.mem_of_getElem? hm) hmin (take_drop_mem hm))
                  obtain ⟨x1, y1, e0, z1 | ⟨B1, o1, z1, r1⟩⟩ := own_ints2 hown
                  · exact absurd z1 c0
                  simp only [Value.slice.injEq] at e0
                  obtain ⟨rfl, _, rfl⟩ := e0
                  subst z1
                  have d1 := r1 a _ hm
                  have g := hout.len
                  obtain ⟨qo, capo, ho⟩ := g
                  subst ho
                  have hB1l : bl ≤ B1 := (World.ownsRow.lt hown B1 rfl).1
                  by_cases co : out = []
                  · subst co
                    have hnew := hid (hst.out.2 (by simp))
                    clear hst hL hE r1 hmin hai hil
                    go_wp2_with fail
                    refine wp_region_held_drew (S := (fun w' => w'.cell? ⟨B1, o1 + a, none⟩ = some (.int .i64 m))) (by kernel_rfl) (by (try dsimp only); (first | (exact hk1 _ _ _ (hOld)) | ((try simp only [World.cell?_drew, World.frozen?_drew]); (repeat' apply And.intro) <;> (first | (with_reducible assumption) | (with_reducible exact ⟨_, by assumption⟩) | (with_reducible exact ⟨_, two_other (by assumption) (by omega)⟩) | (with_reducible exact two_0 (by assumption)) | (with_reducible exact two_1 (by assumption)) | (with_reducible exact two_other (by assumption) (by omega)) | (with_reducible exact two_fz (by assumption)) | (with_reducible exact keepA _ (by assumption)) | (with_reducible exact keepA _ (keepA _ (keepA _ (by assumption)))) | (simp (maxDischargeDepth := 8) [*, go_sem, World.cell?_alloc_some, World.cell?_setCell_far]; done))) | (go_keep; done) | (simp (maxDischargeDepth := 8) [*, go_sem, World.cell?_alloc_some, World.cell?_setCell_far]; done))) (fun hHeld => ?_)
                    (refine wpAnyH_take (i := 0) (oi := ⟨some 68, _, _, _, _, none⟩) (v := ?_) rfl (by kernel_rfl) (by kernel_rfl) (by kernel_rfl) (fun _ _ _ h => h) (Or.inl ⟨by rfl, ?_⟩) hHeld ?_; rotate_left; (· (intro w9 hSw; (try dsimp only at hSw); go_simp; (try with_reducible rfl))))
                    (try simp only [Act.put, List.setIfInBounds_toArray, List.set_cons_zero, List.set_cons_succ])
                    (refine wpAnyH_take (i := 1) (oi := ⟨some 69, _, _, _, _, none⟩) (v := ?_) rfl (by kernel_rfl) (by kernel_rfl) (by kernel_rfl) (fun _ _ _ h => h) (Or.inl ⟨by rfl, ?_⟩) hHeld ?_; rotate_left; (· (intro w9 hSw; (try dsimp only at hSw); go_simp; (try with_reducible rfl))))
                    (try simp only [Act.put, List.setIfInBounds_toArray, List.set_cons_zero, List.set_cons_succ])
                    (refine wpAnyH_take (i := 2) (oi := ⟨some 70, _, _, _, _, none⟩) (v := ?_) rfl (by kernel_rfl) (by kernel_rfl) (by kernel_rfl) (fun _ _ _ h => h) (Or.inl ⟨by rfl, ?_⟩) hHeld ?_; rotate_left; (· (intro w9 hSw; (try dsimp only at hSw); go_simp; (try with_reducible rfl))))
                    (try simp only [Act.put, List.setIfInBounds_toArray, List.set_cons_zero, List.set_cons_succ])
                    (refine wpAnyH_take (i := 3) (oi := ⟨some 71, _, _, _, _, none⟩) (v := ?_) rfl (by kernel_rfl) (by kernel_rfl) (by kernel_rfl) (fun _ _ _ h => h) (Or.inl ⟨by rfl, ?_⟩) hHeld ?_; rotate_left; (· (intro w9 hSw; (try dsimp only at hSw); go_simp; (try with_reducible rfl))))
                    (try simp only [Act.put, List.setIfInBounds_toArray, List.set_cons_zero, List.set_cons_succ])
                    (first | (refine wpAnyH_take (i := 4) (oi := ⟨some 72, _, _, _, _, some (3, false)⟩) (v := ?_) rfl (by kernel_rfl) (by kernel_rfl) (by kernel_rfl) (fun _ _ _ h => h) (Or.inl ⟨by rfl, ?_⟩) hHeld ?_; rotate_left; (· (intro w9 hSw; (try dsimp only at hSw); go_simp; (try with_reducible rfl)))) | (refine wpAnyH_take (i := 4) (oi := ⟨some 72, _, _, _, _, some (3, false)⟩) (v := undef) rfl (by kernel_rfl) (by kernel_rfl) (by kernel_rfl) (fun _ _ _ h => h) (Or.inr ⟨by rfl, rfl⟩) hHeld ?_))
                    (try simp only [Act.put, List.setIfInBounds_toArray, List.set_cons_zero, List.set_cons_succ])
                    (first | (refine wpAnyH_take (i := 5) (oi := ⟨some 73, _, _, _, _, some (3, false)⟩) (v := ?_) rfl (by kernel_rfl) (by kernel_rfl) (by kernel_rfl) (fun _ _ _ h => h) (Or.inl ⟨by rfl, ?_⟩) hHeld ?_; rotate_left; (· (intro w9 hSw; (try dsimp only at hSw); go_simp; (try with_reducible rfl)))) | (refine wpAnyH_take (i := 5) (oi := ⟨some 73, _, _, _, _, some (3, false)⟩) (v := undef) rfl (by kernel_rfl) (by kernel_rfl) (by kernel_rfl) (fun _ _ _ h => h) (Or.inr ⟨by rfl, rfl⟩) hHeld ?_))
                    (try simp only [Act.put, List.setIfInBounds_toArray, List.set_cons_zero, List.set_cons_succ])
                    (first | (refine wpAnyH_take (i := 6) (oi := ⟨some 74, _, _, _, _, some (3, false)⟩) (v := ?_) rfl (by kernel_rfl) (by kernel_rfl) (by kernel_rfl) (fun _ _ _ h => h) (Or.inl ⟨by rfl, ?_⟩) hHeld ?_; rotate_left; (· (intro w9 hSw; (try dsimp only at hSw); go_simp; (try with_reducible rfl)))) | (refine wpAnyH_take (i := 6) (oi := ⟨some 74, _, _, _, _, some (3, false)⟩) (v := undef) rfl (by kernel_rfl) (by kernel_rfl) (by kernel_rfl) (fun _ _ _ h => h) (Or.inr ⟨by rfl, rfl⟩) hHeld ?_))
                    (try simp only [Act.put, List.setIfInBounds_toArray, List.set_cons_zero, List.set_cons_succ])
                    (first | (refine wpAnyH_take (i := 7) (oi := ⟨some 75, _, _, _, _, some (3, false)⟩) (v := ?_) rfl (by kernel_rfl) (by kernel_rfl) (by kernel_rfl) (fun _ _ _ h => h) (Or.inl ⟨by rfl, ?_⟩) hHeld ?_; rotate_left; (· (intro w9 hSw; (try dsimp only at hSw); go_simp; (try with_reducible rfl)))) | (refine wpAnyH_take (i := 7) (oi := ⟨some 75, _, _, _, _, some (3, false)⟩) (v := undef) rfl (by kernel_rfl) (by kernel_rfl) (by kernel_rfl) (fun _ _ _ h => h) (Or.inr ⟨by rfl, rfl⟩) hHeld ?_))
                    (try simp only [Act.put, List.setIfInBounds_toArray, List.set_cons_zero, List.set_cons_succ])
                    (first | (refine wpAnyH_take (i := 8) (oi := ⟨some 76, _, _, _, _, some (3, false)⟩) (v := ?_) rfl (by kernel_rfl) (by kernel_rfl) (by kernel_rfl) (fun _ _ _ h => h) (Or.inl ⟨by rfl, ?_⟩) hHeld ?_; rotate_left; (· (intro w9 hSw; (try dsimp only at hSw); go_simp; (try with_reducible rfl)))) | (refine wpAnyH_take (i := 8) (oi := ⟨some 76, _, _, _, _, some (3, false)⟩) (v := undef) rfl (by kernel_rfl) (by kernel_rfl) (by kernel_rfl) (fun _ _ _ h => h) (Or.inr ⟨by rfl, rfl⟩) hHeld ?_))
                    (try simp only [Act.put, List.setIfInBounds_toArray, List.set_cons_zero, List.set_cons_succ])
                    (first | (refine wpAnyH_take (i := 9) (oi := ⟨some 77, _, _, _, _, some (3, false)⟩) (v := ?_) rfl (by kernel_rfl) (by kernel_rfl) (by kernel_rfl) (fun _ _ _ h => h) (Or.inl ⟨by rfl, ?_⟩) hHeld ?_; rotate_left; (· (intro w9 hSw; (try dsimp only at hSw); go_simp; (try with_reducible rfl)))) | (refine wpAnyH_take (i := 9) (oi := ⟨some 77, _, _, _, _, some (3, false)⟩) (v := undef) rfl (by kernel_rfl) (by kernel_rfl) (by kernel_rfl) (fun _ _ _ h => h) (Or.inr ⟨by rfl, rfl⟩) hHeld ?_))
                    (try simp only [Act.put, List.setIfInBounds_toArray, List.set_cons_zero, List.set_cons_succ])
                    (first | (refine wpAnyH_take (i := 10) (oi := ⟨some 78, _, _, _, _, some (3, false)⟩) (v := ?_) rfl (by kernel_rfl) (by kernel_rfl) (by kernel_rfl) (fun _ _ _ h => h) (Or.inl ⟨by rfl, ?_⟩) hHeld ?_; rotate_left; (· (intro w9 hSw; (try dsimp only at hSw); go_simp; (try with_reducible rfl)))) | (refine wpAnyH_take (i := 10) (oi := ⟨some 78, _, _, _, _, some (3, false)⟩) (v := undef) rfl (by kernel_rfl) (by kernel_rfl) (by kernel_rfl) (fun _ _ _ h => h) (Or.inr ⟨by rfl, rfl⟩) hHeld ?_))
                    (try simp only [Act.put, List.setIfInBounds_toArray, List.set_cons_zero, List.set_cons_succ])
                    (first | (refine wpAnyH_take (i := 11) (oi := ⟨some 79, _, _, _, _, some (3, false)⟩) (v := ?_) rfl (by kernel_rfl) (by kernel_rfl) (by kernel_rfl) (fun _ _ _ h => h) (Or.inl ⟨by rfl, ?_⟩) hHeld ?_; rotate_left; (· (intro w9 hSw; (try dsimp only at hSw); go_simp; (try with_reducible rfl)))) | (refine wpAnyH_take (i := 11) (oi := ⟨some 79, _, _, _, _, some (3, false)⟩) (v := undef) rfl (by kernel_rfl) (by kernel_rfl) (by kernel_rfl) (fun _ _ _ h => h) (Or.inr ⟨by rfl, rfl⟩) hHeld ?_))
                    (try simp only [Act.put, List.setIfInBounds_toArray, List.set_cons_zero, List.set_cons_succ])
                    (first | (refine wpAnyH_take (i := 12) (oi := ⟨some 80, _, _, _, _, some (3, false)⟩) (v := ?_) rfl (by kernel_rfl) (by kernel_rfl) (by kernel_rfl) (fun _ _ _ h => h) (Or.inl ⟨by rfl, ?_⟩) hHeld ?_; rotate_left; (· (intro w9 hSw; (try dsimp only at hSw); go_simp; (try with_reducible rfl)))) | (refine wpAnyH_take (i := 12) (oi := ⟨some 80, _, _, _, _, some (3, false)⟩) (v := undef) rfl (by kernel_rfl) (by kernel_rfl) (by kernel_rfl) (fun _ _ _ h => h) (Or.inr ⟨by rfl, rfl⟩) hHeld ?_))
                    (try simp only [Act.put, List.setIfInBounds_toArray, List.set_cons_zero, List.set_cons_succ])
                    (first | (refine wpAnyH_take (i := 13) (oi := ⟨some 81, _, _, _, _, some (3, false)⟩) (v := ?_) rfl (by kernel_rfl) (by kernel_rfl) (by kernel_rfl) (fun _ _ _ h => h) (Or.inl ⟨by rfl, ?_⟩) hHeld ?_; rotate_left; (· (intro w9 hSw; (try dsimp only at hSw); go_simp; (try with_reducible rfl)))) | (refine wpAnyH_take (i := 13) (oi := ⟨some 81, _, _, _, _, some (3, false)⟩) (v := undef) rfl (by kernel_rfl) (by kernel_rfl) (by kernel_rfl) (fun _ _ _ h => h) (Or.inr ⟨by rfl, rfl⟩) hHeld ?_))
                    (try simp only [Act.put, List.setIfInBounds_toArray, List.set_cons_zero, List.set_cons_succ])
                    (first | (refine wpAnyH_take (i := 14) (oi := ⟨some 82, _, _, _, _, some (3, false)⟩) (v := ?_) rfl (by kernel_rfl) (by kernel_rfl) (by kernel_rfl) (fun _ _ _ h => h) (Or.inl ⟨by rfl, ?_⟩) hHeld ?_; rotate_left; (· (intro w9 hSw; (try dsimp only at hSw); go_simp; (try with_reducible rfl)))) | (refine wpAnyH_take (i := 14) (oi := ⟨some 82, _, _, _, _, some (3, false)⟩) (v := undef) rfl (by kernel_rfl) (by kernel_rfl) (by kernel_rfl) (fun _ _ _ h => h) (Or.inr ⟨by rfl, rfl⟩) hHeld ?_))
                    (try simp only [Act.put, List.setIfInBounds_toArray, List.set_cons_zero, List.set_cons_succ])
                    (refine wpAnyH_take (i := 15) (oi := ⟨some 83, _, _, _, _, none⟩) (v := ?_) rfl (by kernel_rfl) (by kernel_rfl) (by kernel_rfl) (fun _ _ _ h => h) (Or.inl ⟨by rfl, ?_⟩) hHeld ?_; rotate_left; (· (intro w9 hSw; (try dsimp only at hSw); go_simp; (try with_reducible rfl))))
                    (try simp only [Act.put, List.setIfInBounds_toArray, List.set_cons_zero, List.set_cons_succ])
                    refine wpAnyH_done (by kernel_rfl) ?_ _
                    go_upto_region 19 with fail
                    generalize hvo : Value.slice qo ([] : List Int).length capo = vo at *
                    simp only [List.length_nil] at hvo
                    subst hvo
                    go_wp2_with (at_builtin; go_loud (refine app_intsW rfl _ _ rfl w.heap.size _ _ rfl (by exact (hout.alloc _).drew) [m] wr.heap.size 0 1 1 rfl rfl (one_cell (by simp [go_sem])) (by simp) (by decide) (by simp [go_sem]; omega) ?_))
                    intro v5 w5 hout5 hg5 hb5
                    have hown5 : OwnI bl l (.slice (some ⟨B1, o1, none⟩) l.length capl) w5 := World.ownsRow.kept ((hown.alloc _).drew) hg5 (Or.inr (by intro e; have := hap B1 (by rw [← e]; rfl); omega))
                    have hB5 : Below w.heap.size w w5 := hB.trans ((show Below w.heap.size wr (wr.alloc (.cells #[.int .i64 m] 3)).drew by go_grown).trans hb5)
                    clear hb5 hg5 hown hout hHeld hB hap
                    have r5 : RowI B1 o1 l w5 := own_row hown5
                    have hB1W : B1 < w5.heap.size := (World.ownsRow.lt hown5 B1 rfl).2
                    have hoW := (World.ownsRow.lt hout5)
                    have hzW := hB5.size
                    have wa : IntKind.i64.wrap ((a : Int) + 1) = ((a + 1 : Nat) : Int) := by rw [IntKind.wrap_i64]; omega
                    have hcap := own_cap hown5
                    have ha0 : a ≤ capl := by omega
                    have ha1 : (0 : Int) ≤ (a : Int) + 1 := by omega
                    have ha2 : (a : Int) + 1 ≤ l.length := by omega
                    have ha3 : a + 1 ≤ l.length := by omega
                    have ha4 : a + 1 ≤ capl := by omega
                    clear hown5
                    by_cases hc : capl = a + 1
                    · have hc2 : l.length = a + 1 := by omega
                      have ha5 : (a : Int) ≤ (a : Int) + 1 := by omega
                      have ha6 : a ≤ a + 1 := by omega
                      go_wp2_with fail
                      refine wp_region_held_drew (S := (fun X => RowI B1 o1 l X)) (by kernel_rfl) (by (try dsimp only); exact fun i n hn => by rw [World.cell?_drew]; exact r5 i n hn) (fun hHeld => ?_)
                      (refine wpAnyH_take (i := 1) (oi := ⟨some 92, _, _, _, _, none⟩) (v := ?_) rfl (by kernel_rfl) (by kernel_rfl) (by kernel_rfl) (fun _ _ _ h => h) (Or.inl ⟨by rfl, ?_⟩) hHeld ?_; rotate_left; (· (intro w9 hSw; (try dsimp only at hSw); go_simp; (try with_reducible rfl))))
                      (try simp only [Act.put, List.setIfInBounds_toArray, List.set_cons_zero, List.set_cons_succ])
                      (refine wpAnyH_take (i := 2) (oi := ⟨some 93, _, _, _, _, none⟩) (v := ?_) rfl (by kernel_rfl) (by kernel_rfl) (by kernel_rfl) (fun _ _ _ h => h) (Or.inl ⟨by rfl, ?_⟩) hHeld ?_; rotate_left; (· (intro w9 hSw; (try dsimp only at hSw); go_simp; (try with_reducible rfl))))
                      (try simp only [Act.put, List.setIfInBounds_toArray, List.set_cons_zero, List.set_cons_succ])
                      (refine wpAnyH_take (i := 3) (oi := ⟨some 94, _, _, _, _, none⟩) (v := ?_) rfl (by kernel_rfl) (by kernel_rfl) (by kernel_rfl) (fun _ _ _ h => h) (Or.inl ⟨by rfl, ?_⟩) hHeld ?_; rotate_left; (· (intro w9 hSw; (try dsimp only at hSw); go_simp; (try with_reducible rfl))))
                      (try simp only [Act.put, List.setIfInBounds_toArray, List.set_cons_zero, List.set_cons_succ])
                      (refine wpAnyH_take (i := 5) (oi := ⟨some 96, _, _, _, _, none⟩) (v := ?_) rfl (by kernel_rfl) (by kernel_rfl) (by kernel_rfl) (fun _ _ _ h => h) (Or.inl ⟨by rfl, ?_⟩) hHeld ?_; rotate_left; (· (intro w9 hSw; (try dsimp only at hSw); go_simp; (try with_reducible rfl))))
                      (try simp only [Act.put, List.setIfInBounds_toArray, List.set_cons_zero, List.set_cons_succ])
                      (refine wpAnyH_take (i := 6) (oi := ⟨some 97, _, _, _, _, none⟩) (v := ?_) rfl (by kernel_rfl) (by kernel_rfl) (by kernel_rfl) (fun _ _ _ h => h) (Or.inl ⟨by rfl, ?_⟩) hHeld ?_; rotate_left; (· (intro w9 hSw; (try dsimp only at hSw); go_simp; (try with_reducible rfl))))
                      (try simp only [Act.put, List.setIfInBounds_toArray, List.set_cons_zero, List.set_cons_succ])
                      (refine wpAnyH_take (i := 7) (oi := ⟨some 98, _, _, _, _, none⟩) (v := ?_) rfl (by kernel_rfl) (by kernel_rfl) (by kernel_rfl) (fun _ _ _ h => h) (Or.inl ⟨by rfl, ?_⟩) hHeld ?_; rotate_left; (· (intro w9 hSw; (try dsimp only at hSw); go_simp; (try with_reducible rfl))))
                      (try simp only [Act.put, List.setIfInBounds_toArray, List.set_cons_zero, List.set_cons_succ])
                      (refine wpAnyH_take (i := 8) (oi := ⟨some 99, _, _, _, _, none⟩) (v := ?_) rfl (by kernel_rfl) (by kernel_rfl) (by kernel_rfl) (fun _ _ _ h => h) (Or.inl ⟨by rfl, ?_⟩) hHeld ?_; rotate_left; (· (intro w9 hSw; (try dsimp only at hSw); go_simp; (try with_reducible rfl))))
                      (try simp only [Act.put, List.setIfInBounds_toArray, List.set_cons_zero, List.set_cons_succ])
                      (refine wpAnyH_ready (rs := [0]) (by kernel_rfl) (by simp) ?_; refine AllReadyH.cons (o := ⟨some 91, _, _, _, _, none⟩) rfl (fun K hK => ?_) AllReadyH.nil; have hOld := hHeld; clear hHeld; go_simp; refine hK.out _ _ ?_ (fun hHeld => ?_); (· ((try dsimp only); exact fun i n hn => keepA _ (hOld i n hn))); clear hK K hOld)
                      (try simp only [Act.put, List.setIfInBounds_toArray, List.set_cons_zero, List.set_cons_succ])
                      (refine wpAnyH_ready (rs := [4]) (by kernel_rfl) (by simp) ?_; refine AllReadyH.cons (o := ⟨some 95, _, _, _, _, none⟩) rfl (fun K hK => ?_) AllReadyH.nil; have hOld := hHeld; clear hHeld; refine wp_ints _ _ rfl w5.heap.size _ [] rfl (by exact lit_own w5.drew) (l.take a) B1 o1 a _ rfl (by rw [List.length_take]; omega) (fun i n hn => hOld i n (by rw [List.getElem?_take] at hn; split at hn <;> simp_all)) (by simp) (by omega) (by simp [go_sem]) (fun v6 w6 h6 hg6 hb6 => ?_); refine hK.out _ _ ?_ (fun hHeld => ?_); (· ((try dsimp only); exact fun i n hn => (hb6.cell (p := ⟨B1, o1 + i, none⟩) hB1W).trans (hOld i n hn))); clear hK K hOld)
                      (try simp only [Act.put, List.setIfInBounds_toArray, List.set_cons_zero, List.set_cons_succ])
                      (refine wpAnyH_ready (rs := [9]) (by kernel_rfl) (by simp) ?_; refine AllReadyH.cons (o := ⟨some 100, _, _, _, _, none⟩) rfl (fun K hK => ?_) AllReadyH.nil; have hOld := hHeld; clear hHeld; go_loud (refine wp_ints _ _ rfl w5.heap.size _ _ rfl (by exact h6) (l.drop (a + 1)) B1 o1 0 0 (by first | rfl | (simp [go_sem]; trace_state; done)) (by rw [List.length_drop]; omega) (fun i n hn => by rw [List.drop_of_length_le (by omega)] at hn; simp at hn) (by simp; omega) (by omega) (by have := hb6.size; simp [go_sem] at this ⊢; omega) (fun v7 w7 h7 hg7 hb7 => ?_)); refine hK.out _ _ ?_ (fun hHeld => ?_); (· ((try dsimp only); exact fun i n hn => (hb7.cell (p := ⟨B1, o1 + i, none⟩) hB1W).trans (hOld i n hn))); clear hK K hOld)
                      (try simp only [Act.put, List.setIfInBounds_toArray, List.set_cons_zero, List.set_cons_succ])
                      (refine wpAnyH_take (i := 10) (oi := ⟨some 5, _, _, _, _, none⟩) (v := ?_) rfl (by kernel_rfl) (by kernel_rfl) (by kernel_rfl) (fun _ _ _ h => h) (Or.inl ⟨by rfl, ?_⟩) hHeld ?_; rotate_left; (· (intro w9 hSw; (try dsimp only at hSw); go_simp; (try with_reducible rfl))))
                      (try simp only [Act.put, List.setIfInBounds_toArray, List.set_cons_zero, List.set_cons_succ])
                      refine wpAnyH_done (by kernel_rfl) ?_ _
                      rw [List.nil_append] at h7
                      have hb8 : Below w5.heap.size w5 w7 := (show Below w5.heap.size w5 (w5.drew.alloc (.cells #[] 3)) by go_grown).trans (hb6.trans hb7)
                      have hB8 := hB5.trans (hb8.mono hzW)
                      have hout8 := hout5.below hb8
                      clear hb6 hb7 hb8 hg6 hg7 h6 hHeld r5 hout5 hB5
                      go_wp2_with fail
                      have hn7 : (l.take a ++ l.drop (a + 1)).length + 1 = l.length := by rw [List.length_append, List.length_take, List.length_drop]; omega
                      obtain ⟨q7, cap7, e7⟩ := h7.len
                      exact ⟨⟨_, _, w5.heap.size, h7, hout8, hzW, fun k hk => (hoW k hk).2, hnew, by simp only [List.length_append, List.length_cons, List.length_nil] at hn7 hlen ⊢; omega, hB8⟩, by rw [e7]; show (l.take a ++ l.drop (a + 1)).length < l.length; omega⟩
                    · have hc2 : ¬ a + 1 = capl := by omega
                      go_wp2_with fail
                      refine wp_region_held_drew (S := (fun X => RowI B1 o1 l X)) (by kernel_rfl) (by (try dsimp only); exact fun i n hn => by rw [World.cell?_drew]; exact r5 i n hn) (fun hHeld => ?_)
                      (refine wpAnyH_take (i := 1) (oi := ⟨some 92, _, _, _, _, none⟩) (v := ?_) rfl (by kernel_rfl) (by kernel_rfl) (by kernel_rfl) (fun _ _ _ h => h) (Or.inl ⟨by rfl, ?_⟩) hHeld ?_; rotate_left; (· (intro w9 hSw; (try dsimp only at hSw); go_simp; (try with_reducible rfl))))
                      (try simp only [Act.put, List.setIfInBounds_toArray, List.set_cons_zero, List.set_cons_succ])
                      (refine wpAnyH_take (i := 2) (oi := ⟨some 93, _, _, _, _, none⟩) (v := ?_) rfl (by kernel_rfl) (by kernel_rfl) (by kernel_rfl) (fun _ _ _ h => h) (Or.inl ⟨by rfl, ?_⟩) hHeld ?_; rotate_left; (· (intro w9 hSw; (try dsimp only at hSw); go_simp; (try with_reducible rfl))))
                      (try simp only [Act.put, List.setIfInBounds_toArray, List.set_cons_zero, List.set_cons_succ])
                      (refine wpAnyH_take (i := 3) (oi := ⟨some 94, _, _, _, _, none⟩) (v := ?_) rfl (by kernel_rfl) (by kernel_rfl) (by kernel_rfl) (fun _ _ _ h => h) (Or.inl ⟨by rfl, ?_⟩) hHeld ?_; rotate_left; (· (intro w9 hSw; (try dsimp only at hSw); go_simp; (try with_reducible rfl))))
                      (try simp only [Act.put, List.setIfInBounds_toArray, List.set_cons_zero, List.set_cons_succ])
                      (refine wpAnyH_take (i := 5) (oi := ⟨some 96, _, _, _, _, none⟩) (v := ?_) rfl (by kernel_rfl) (by kernel_rfl) (by kernel_rfl) (fun _ _ _ h => h) (Or.inl ⟨by rfl, ?_⟩) hHeld ?_; rotate_left; (· (intro w9 hSw; (try dsimp only at hSw); go_simp; (try with_reducible rfl))))
                      (try simp only [Act.put, List.setIfInBounds_toArray, List.set_cons_zero, List.set_cons_succ])
                      (refine wpAnyH_take (i := 6) (oi := ⟨some 97, _, _, _, _, none⟩) (v := ?_) rfl (by kernel_rfl) (by kernel_rfl) (by kernel_rfl) (fun _ _ _ h => h) (Or.inl ⟨by rfl, ?_⟩) hHeld ?_; rotate_left; (· (intro w9 hSw; (try dsimp only at hSw); go_simp; (try with_reducible rfl))))
                      (try simp only [Act.put, List.setIfInBounds_toArray, List.set_cons_zero, List.set_cons_succ])
                      (refine wpAnyH_take (i := 7) (oi := ⟨some 98, _, _, _, _, none⟩) (v := ?_) rfl (by kernel_rfl) (by kernel_rfl) (by kernel_rfl) (fun _ _ _ h => h) (Or.inl ⟨by rfl, ?_⟩) hHeld ?_; rotate_left; (· (intro w9 hSw; (try dsimp only at hSw); go_simp; (try with_reducible rfl))))
                      (try simp only [Act.put, List.setIfInBounds_toArray, List.set_cons_zero, List.set_cons_succ])
                      (refine wpAnyH_take (i := 8) (oi := ⟨some 99, _, _, _, _, none⟩) (v := ?_) rfl (by kernel_rfl) (by kernel_rfl) (by kernel_rfl) (fun _ _ _ h => h) (Or.inl ⟨by rfl, ?_⟩) hHeld ?_; rotate_left; (· (intro w9 hSw; (try dsimp only at hSw); go_simp; (try with_reducible rfl))))
                      (try simp only [Act.put, List.setIfInBounds_toArray, List.set_cons_zero, List.set_cons_succ])
                      (refine wpAnyH_ready (rs := [0]) (by kernel_rfl) (by simp) ?_; refine AllReadyH.cons (o := ⟨some 91, _, _, _, _, none⟩) rfl (fun K hK => ?_) AllReadyH.nil; have hOld := hHeld; clear hHeld; go_simp; refine hK.out _ _ ?_ (fun hHeld => ?_); (· ((try dsimp only); exact fun i n hn => keepA _ (hOld i n hn))); clear hK K hOld)
                      (try simp only [Act.put, List.setIfInBounds_toArray, List.set_cons_zero, List.set_cons_succ])
                      (refine wpAnyH_ready (rs := [4]) (by kernel_rfl) (by simp) ?_; refine AllReadyH.cons (o := ⟨some 95, _, _, _, _, none⟩) rfl (fun K hK => ?_) AllReadyH.nil; have hOld := hHeld; clear hHeld; refine wp_ints _ _ rfl w5.heap.size _ [] rfl (by exact lit_own w5.drew) (l.take a) B1 o1 a _ rfl (by rw [List.length_take]; omega) (fun i n hn => hOld i n (by rw [List.getElem?_take] at hn; split at hn <;> simp_all)) (by simp) (by omega) (by simp [go_sem]) (fun v6 w6 h6 hg6 hb6 => ?_); refine hK.out _ _ ?_ (fun hHeld => ?_); (· ((try dsimp only); exact fun i n hn => (hb6.cell (p := ⟨B1, o1 + i, none⟩) hB1W).trans (hOld i n hn))); clear hK K hOld)
                      (try simp only [Act.put, List.setIfInBounds_toArray, List.set_cons_zero, List.set_cons_succ])
                      (refine wpAnyH_ready (rs := [9]) (by kernel_rfl) (by simp) ?_; refine AllReadyH.cons (o := ⟨some 100, _, _, _, _, none⟩) rfl (fun K hK => ?_) AllReadyH.nil; have hOld := hHeld; clear hHeld; go_loud (refine wp_ints _ _ rfl w5.heap.size _ _ rfl (by exact h6) (l.drop (a + 1)) B1 (o1 + (a + 1)) (l.length - (a + 1)) (capl - (a + 1)) (by first | rfl | (simp [go_sem, hc]; done) | (simp [go_sem, hc]; trace_state; done)) (by rw [List.length_drop]) (fun i n hn => by rw [show o1 + (a + 1) + i = o1 + (a + 1 + i) by omega]; exact hOld _ n (by rwa [List.getElem?_drop] at hn)) (by simp; omega) (by omega) (by have := hb6.size; simp [go_sem] at this ⊢; omega) (fun v7 w7 h7 hg7 hb7 => ?_)); refine hK.out _ _ ?_ (fun hHeld => ?_); (· ((try dsimp only); exact fun i n hn => (hb7.cell (p := ⟨B1, o1 + i, none⟩) hB1W).trans (hOld i n hn))); clear hK K hOld)
                      (try simp only [Act.put, List.setIfInBounds_toArray, List.set_cons_zero, List.set_cons_succ])
                      (refine wpAnyH_take (i := 10) (oi := ⟨some 5, _, _, _, _, none⟩) (v := ?_) rfl (by kernel_rfl) (by kernel_rfl) (by kernel_rfl) (fun _ _ _ h => h) (Or.inl ⟨by rfl, ?_⟩) hHeld ?_; rotate_left; (· (intro w9 hSw; (try dsimp only at hSw); go_simp; (try with_reducible rfl))))
                      (try simp only [Act.put, List.setIfInBounds_toArray, List.set_cons_zero, List.set_cons_succ])
                      refine wpAnyH_done (by kernel_rfl) ?_ _
                      rw [List.nil_append] at h7
                      have hb8 : Below w5.heap.size w5 w7 := (show Below w5.heap.size w5 (w5.drew.alloc (.cells #[] 3)) by go_grown).trans (hb6.trans hb7)
                      have hB8 := hB5.trans (hb8.mono hzW)
                      have hout8 := hout5.below hb8
                      clear hb6 hb7 hb8 hg6 hg7 h6 hHeld r5 hout5 hB5
                      go_wp2_with fail
                      have hn7 : (l.take a ++ l.drop (a + 1)).length + 1 = l.length := by rw [List.length_append, List.length_take, List.length_drop]; omega
                      obtain ⟨q7, cap7, e7⟩ := h7.len
                      exact ⟨⟨_, _, w5.heap.size, h7, hout8, hzW, fun k hk => (hoW k hk).2, hnew, by simp only [List.length_append, List.length_cons, List.length_nil] at hn7 hlen ⊢; omega, hB8⟩, by rw [e7]; show (l.take a ++ l.drop (a + 1)).length < l.length; omega⟩
                  · obtain ⟨k1, hk1⟩ : ∃ k1, out.length = k1 + 1 := ⟨out.length - 1, by have := List.length_pos_iff.mpr co; omega⟩
                    obtain ⟨y, hy⟩ := int_some (show k1 < out.length by omega)
                    have hlast : out.getLast? = some y := by rw [List.getLast?_eq_getElem?, hk1]; exact hy
                    obtain ⟨x2, y2, e2, z2 | ⟨B2, o2, z2, r2⟩⟩ := own_ints2 hout
                    · exact absurd z2 co
                    simp only [Value.slice.injEq] at e2
                    obtain ⟨rfl, _, rfl⟩ := e2
                    subst z2
                    have d2 := r2 k1 _ hy
                    have hz1 : ((out.length : Int) == 0) = false := by rw [beq_eq_false_iff_ne]; omega
                    have wj : IntKind.i64.wrap ((out.length : Int) - 1) = (k1 : Int) := by rw [IntKind.wrap_i64]; omega
                    have hk1c : (k1 : Int) < out.length := by omega
                    have hk1d : k1 < out.length := by omega
                    have hal : out.length < 1000000 := by omega
                    replace hk1 := hid hk1
                    by_cases e : y = m
                    · subst e
                      have hnew := hid (hst.out.1 hlast)
                      clear hst hL hE r1 r2 hmin hai hil hlast hy
                      go_wp2_with fail
                      refine wp_region_held_drew (S := (fun w' => w'.cell? ⟨B1, o1 + a, none⟩ = some (.int .i64 y) ∧ w'.cell? ⟨B2, o2 + k1, none⟩ = some (.int .i64 y))) (by kernel_rfl) (by (try dsimp only); (first | (exact ⟨hk1 _ _ _ (hOld.1), hk1 _ _ _ (hOld.2)⟩) | ((try simp only [World.cell?_drew, World.frozen?_drew]); (repeat' apply And.intro) <;> (first | (with_reducible assumption) | (with_reducible exact ⟨_, by assumption⟩) | (with_reducible exact ⟨_, two_other (by assumption) (by omega)⟩) | (with_reducible exact two_0 (by assumption)) | (with_reducible exact two_1 (by assumption)) | (with_reducible exact two_other (by assumption) (by omega)) | (with_reducible exact two_fz (by assumption)) | (with_reducible exact keepA _ (by assumption)) | (with_reducible exact keepA _ (keepA _ (keepA _ (by assumption)))) | (simp (maxDischargeDepth := 8) [*, go_sem, World.cell?_alloc_some, World.cell?_setCell_far]; done))) | (go_keep; done) | (simp (maxDischargeDepth := 8) [*, go_sem, World.cell?_alloc_some, World.cell?_setCell_far]; done))) (fun hHeld => ?_)
                      (refine wpAnyH_take (i := 0) (oi := ⟨some 68, _, _, _, _, none⟩) (v := ?_) rfl (by kernel_rfl) (by kernel_rfl) (by kernel_rfl) (fun _ _ _ h => h) (Or.inl ⟨by rfl, ?_⟩) hHeld ?_; rotate_left; (· (intro w9 hSw; (try dsimp only at hSw); go_simp; (try with_reducible rfl))))
                      (try simp only [Act.put, List.setIfInBounds_toArray, List.set_cons_zero, List.set_cons_succ])
                      (refine wpAnyH_take (i := 1) (oi := ⟨some 69, _, _, _, _, none⟩) (v := ?_) rfl (by kernel_rfl) (by kernel_rfl) (by kernel_rfl) (fun _ _ _ h => h) (Or.inl ⟨by rfl, ?_⟩) hHeld ?_; rotate_left; (· (intro w9 hSw; (try dsimp only at hSw); go_simp; (try with_reducible rfl))))
                      (try simp only [Act.put, List.setIfInBounds_toArray, List.set_cons_zero, List.set_cons_succ])
                      (refine wpAnyH_take (i := 2) (oi := ⟨some 70, _, _, _, _, none⟩) (v := ?_) rfl (by kernel_rfl) (by kernel_rfl) (by kernel_rfl) (fun _ _ _ h => h) (Or.inl ⟨by rfl, ?_⟩) hHeld ?_; rotate_left; (· (intro w9 hSw; (try dsimp only at hSw); go_simp; (try with_reducible rfl))))
                      (try simp only [Act.put, List.setIfInBounds_toArray, List.set_cons_zero, List.set_cons_succ])
                      (refine wpAnyH_take (i := 3) (oi := ⟨some 71, _, _, _, _, none⟩) (v := ?_) rfl (by kernel_rfl) (by kernel_rfl) (by kernel_rfl) (fun _ _ _ h => h) (Or.inl ⟨by rfl, ?_⟩) hHeld ?_; rotate_left; (· (intro w9 hSw; (try dsimp only at hSw); go_simp; (try with_reducible rfl))))
                      (try simp only [Act.put, List.setIfInBounds_toArray, List.set_cons_zero, List.set_cons_succ])
                      (first | (refine wpAnyH_take (i := 4) (oi := ⟨some 72, _, _, _, _, some (3, false)⟩) (v := ?_) rfl (by kernel_rfl) (by kernel_rfl) (by kernel_rfl) (fun _ _ _ h => h) (Or.inl ⟨by rfl, ?_⟩) hHeld ?_; rotate_left; (· (intro w9 hSw; (try dsimp only at hSw); go_simp; (try with_reducible rfl)))) | (refine wpAnyH_take (i := 4) (oi := ⟨some 72, _, _, _, _, some (3, false)⟩) (v := undef) rfl (by kernel_rfl) (by kernel_rfl) (by kernel_rfl) (fun _ _ _ h => h) (Or.inr ⟨by rfl, rfl⟩) hHeld ?_))
                      (try simp only [Act.put, List.setIfInBounds_toArray, List.set_cons_zero, List.set_cons_succ])
                      (first | (refine wpAnyH_take (i := 5) (oi := ⟨some 73, _, _, _, _, some (3, false)⟩) (v := ?_) rfl (by kernel_rfl) (by kernel_rfl) (by kernel_rfl) (fun _ _ _ h => h) (Or.inl ⟨by rfl, ?_⟩) hHeld ?_; rotate_left; (· (intro w9 hSw; (try dsimp only at hSw); go_simp; (try with_reducible rfl)))) | (refine wpAnyH_take (i := 5) (oi := ⟨some 73, _, _, _, _, some (3, false)⟩) (v := undef) rfl (by kernel_rfl) (by kernel_rfl) (by kernel_rfl) (fun _ _ _ h => h) (Or.inr ⟨by rfl, rfl⟩) hHeld ?_))
                      (try simp only [Act.put, List.setIfInBounds_toArray, List.set_cons_zero, List.set_cons_succ])
                      (first | (refine wpAnyH_take (i := 6) (oi := ⟨some 74, _, _, _, _, some (3, false)⟩) (v := ?_) rfl (by kernel_rfl) (by kernel_rfl) (by kernel_rfl) (fun _ _ _ h => h) (Or.inl ⟨by rfl, ?_⟩) hHeld ?_; rotate_left; (· (intro w9 hSw; (try dsimp only at hSw); go_simp; (try with_reducible rfl)))) | (refine wpAnyH_take (i := 6) (oi := ⟨some 74, _, _, _, _, some (3, false)⟩) (v := undef) rfl (by kernel_rfl) (by kernel_rfl) (by kernel_rfl) (fun _ _ _ h => h) (Or.inr ⟨by rfl, rfl⟩) hHeld ?_))
                      (try simp only [Act.put, List.setIfInBounds_toArray, List.set_cons_zero, List.set_cons_succ])
                      (first | (refine wpAnyH_take (i := 7) (oi := ⟨some 75, _, _, _, _, some (3, false)⟩) (v := ?_) rfl (by kernel_rfl) (by kernel_rfl) (by kernel_rfl) (fun _ _ _ h => h) (Or.inl ⟨by rfl, ?_⟩) hHeld ?_; rotate_left; (· (intro w9 hSw; (try dsimp only at hSw); go_simp; (try with_reducible rfl)))) | (refine wpAnyH_take (i := 7) (oi := ⟨some 75, _, _, _, _, some (3, false)⟩) (v := undef) rfl (by kernel_rfl) (by kernel_rfl) (by kernel_rfl) (fun _ _ _ h => h) (Or.inr ⟨by rfl, rfl⟩) hHeld ?_))
                      (try simp only [Act.put, List.setIfInBounds_toArray, List.set_cons_zero, List.set_cons_succ])
                      (first | (refine wpAnyH_take (i := 8) (oi := ⟨some 76, _, _, _, _, some (3, false)⟩) (v := ?_) rfl (by kernel_rfl) (by kernel_rfl) (by kernel_rfl) (fun _ _ _ h => h) (Or.inl ⟨by rfl, ?_⟩) hHeld ?_; rotate_left; (· (intro w9 hSw; (try dsimp only at hSw); go_simp; (try with_reducible rfl)))) | (refine wpAnyH_take (i := 8) (oi := ⟨some 76, _, _, _, _, some (3, false)⟩) (v := undef) rfl (by kernel_rfl) (by kernel_rfl) (by kernel_rfl) (fun _ _ _ h => h) (Or.inr ⟨by rfl, rfl⟩) hHeld ?_))
                      (try simp only [Act.put, List.setIfInBounds_toArray, List.set_cons_zero, List.set_cons_succ])
                      (first | (refine wpAnyH_take (i := 9) (oi := ⟨some 77, _, _, _, _, some (3, false)⟩) (v := ?_) rfl (by kernel_rfl) (by kernel_rfl) (by kernel_rfl) (fun _ _ _ h => h) (Or.inl ⟨by rfl, ?_⟩) hHeld ?_; rotate_left; (· (intro w9 hSw; (try dsimp only at hSw); go_simp; (try with_reducible rfl)))) | (refine wpAnyH_take (i := 9) (oi := ⟨some 77, _, _, _, _, some (3, false)⟩) (v := undef) rfl (by kernel_rfl) (by kernel_rfl) (by kernel_rfl) (fun _ _ _ h => h) (Or.inr ⟨by rfl, rfl⟩) hHeld ?_))
                      (try simp only [Act.put, List.setIfInBounds_toArray, List.set_cons_zero, List.set_cons_succ])
                      (first | (refine wpAnyH_take (i := 10) (oi := ⟨some 78, _, _, _, _, some (3, false)⟩) (v := ?_) rfl (by kernel_rfl) (by kernel_rfl) (by kernel_rfl) (fun _ _ _ h => h) (Or.inl ⟨by rfl, ?_⟩) hHeld ?_; rotate_left; (· (intro w9 hSw; (try dsimp only at hSw); go_simp; (try with_reducible rfl)))) | (refine wpAnyH_take (i := 10) (oi := ⟨some 78, _, _, _, _, some (3, false)⟩) (v := undef) rfl (by kernel_rfl) (by kernel_rfl) (by kernel_rfl) (fun _ _ _ h => h) (Or.inr ⟨by rfl, rfl⟩) hHeld ?_))
                      (try simp only [Act.put, List.setIfInBounds_toArray, List.set_cons_zero, List.set_cons_succ])
                      (first | (refine wpAnyH_take (i := 11) (oi := ⟨some 79, _, _, _, _, some (3, false)⟩) (v := ?_) rfl (by kernel_rfl) (by kernel_rfl) (by kernel_rfl) (fun _ _ _ h => h) (Or.inl ⟨by rfl, ?_⟩) hHeld ?_; rotate_left; (· (intro w9 hSw; (try dsimp only at hSw); go_simp; (try with_reducible rfl)))) | (refine wpAnyH_take (i := 11) (oi := ⟨some 79, _, _, _, _, some (3, false)⟩) (v := undef) rfl (by kernel_rfl) (by kernel_rfl) (by kernel_rfl) (fun _ _ _ h => h) (Or.inr ⟨by rfl, rfl⟩) hHeld ?_))
                      (try simp only [Act.put, List.setIfInBounds_toArray, List.set_cons_zero, List.set_cons_succ])
                      (first | (refine wpAnyH_take (i := 12) (oi := ⟨some 80, _, _, _, _, some (3, false)⟩) (v := ?_) rfl (by kernel_rfl) (by kernel_rfl) (by kernel_rfl) (fun _ _ _ h => h) (Or.inl ⟨by rfl, ?_⟩) hHeld ?_; rotate_left; (· (intro w9 hSw; (try dsimp only at hSw); go_simp; (try with_reducible rfl)))) | (refine wpAnyH_take (i := 12) (oi := ⟨some 80, _, _, _, _, some (3, false)⟩) (v := undef) rfl (by kernel_rfl) (by kernel_rfl) (by kernel_rfl) (fun _ _ _ h => h) (Or.inr ⟨by rfl, rfl⟩) hHeld ?_))
                      (try simp only [Act.put, List.setIfInBounds_toArray, List.set_cons_zero, List.set_cons_succ])
                      (first | (refine wpAnyH_take (i := 13) (oi := ⟨some 81, _, _, _, _, some (3, false)⟩) (v := ?_) rfl (by kernel_rfl) (by kernel_rfl) (by kernel_rfl) (fun _ _ _ h => h) (Or.inl ⟨by rfl, ?_⟩) hHeld ?_; rotate_left; (· (intro w9 hSw; (try dsimp only at hSw); go_simp; (try with_reducible rfl)))) | (refine wpAnyH_take (i := 13) (oi := ⟨some 81, _, _, _, _, some (3, false)⟩) (v := undef) rfl (by kernel_rfl) (by kernel_rfl) (by kernel_rfl) (fun _ _ _ h => h) (Or.inr ⟨by rfl, rfl⟩) hHeld ?_))
                      (try simp only [Act.put, List.setIfInBounds_toArray, List.set_cons_zero, List.set_cons_succ])
                      (first | (refine wpAnyH_take (i := 14) (oi := ⟨some 82, _, _, _, _, some (3, false)⟩) (v := ?_) rfl (by kernel_rfl) (by kernel_rfl) (by kernel_rfl) (fun _ _ _ h => h) (Or.inl ⟨by rfl, ?_⟩) hHeld ?_; rotate_left; (· (intro w9 hSw; (try dsimp only at hSw); go_simp; (try with_reducible rfl)))) | (refine wpAnyH_take (i := 14) (oi := ⟨some 82, _, _, _, _, some (3, false)⟩) (v := undef) rfl (by kernel_rfl) (by kernel_rfl) (by kernel_rfl) (fun _ _ _ h => h) (Or.inr ⟨by rfl, rfl⟩) hHeld ?_))
                      (try simp only [Act.put, List.setIfInBounds_toArray, List.set_cons_zero, List.set_cons_succ])
                      (refine wpAnyH_take (i := 15) (oi := ⟨some 83, _, _, _, _, none⟩) (v := ?_) rfl (by kernel_rfl) (by kernel_rfl) (by kernel_rfl) (fun _ _ _ h => h) (Or.inl ⟨by rfl, ?_⟩) hHeld ?_; rotate_left; (· (intro w9 hSw; (try dsimp only at hSw); go_simp; (try with_reducible rfl))))
                      (try simp only [Act.put, List.setIfInBounds_toArray, List.set_cons_zero, List.set_cons_succ])
                      refine wpAnyH_done (by kernel_rfl) ?_ _
                      have hown5 := hown.drew
                      have hout5 := hout.drew
                      have hB5 : Below w.heap.size w wr.drew := by go_grown
                      clear hown hout hB hap hHeld d1 d2
                      generalize wr.drew = w5 at *
                      have r5 : RowI B1 o1 l w5 := own_row hown5
                      have hB1W : B1 < w5.heap.size := (World.ownsRow.lt hown5 B1 rfl).2
                      have hoW := (World.ownsRow.lt hout5)
                      have hzW := hB5.size
                      have wa : IntKind.i64.wrap ((a : Int) + 1) = ((a + 1 : Nat) : Int) := by rw [IntKind.wrap_i64]; omega
                      have hcap := own_cap hown5
                      have ha0 : a ≤ capl := by omega
                      have ha1 : (0 : Int) ≤ (a : Int) + 1 := by omega
                      have ha2 : (a : Int) + 1 ≤ l.length := by omega
                      have ha3 : a + 1 ≤ l.length := by omega
                      have ha4 : a + 1 ≤ capl := by omega
                      clear hown5
                      by_cases hc : capl = a + 1
                      · have hc2 : l.length = a + 1 := by omega
                        have ha5 : (a : Int) ≤ (a : Int) + 1 := by omega
                        have ha6 : a ≤ a + 1 := by omega
                        go_wp2_with fail
                        refine wp_region_held_drew (S := (fun X => RowI B1 o1 l X)) (by kernel_rfl) (by (try dsimp only); exact fun i n hn => by rw [World.cell?_drew]; exact r5 i n hn) (fun hHeld => ?_)
                        (refine wpAnyH_take (i := 1) (oi := ⟨some 92, _, _, _, _, none⟩) (v := ?_) rfl (by kernel_rfl) (by kernel_rfl) (by kernel_rfl) (fun _ _ _ h => h) (Or.inl ⟨by rfl, ?_⟩) hHeld ?_; rotate_left; (· (intro w9 hSw; (try dsimp only at hSw); go_simp; (try with_reducible rfl))))
                        (try simp only [Act.put, List.setIfInBounds_toArray, List.set_cons_zero, List.set_cons_succ])
                        (refine wpAnyH_take (i := 2) (oi := ⟨some 93, _, _, _, _, none⟩) (v := ?_) rfl (by kernel_rfl) (by kernel_rfl) (by kernel_rfl) (fun _ _ _ h => h) (Or.inl ⟨by rfl, ?_⟩) hHeld ?_; rotate_left; (· (intro w9 hSw; (try dsimp only at hSw); go_simp; (try with_reducible rfl))))
                        (try simp only [Act.put, List.setIfInBounds_toArray, List.set_cons_zero, List.set_cons_succ])
                        (refine wpAnyH_take (i := 3) (oi := ⟨some 94, _, _, _, _, none⟩) (v := ?_) rfl (by kernel_rfl) (by kernel_rfl) (by kernel_rfl) (fun _ _ _ h => h) (Or.inl ⟨by rfl, ?_⟩) hHeld ?_; rotate_left; (· (intro w9 hSw; (try dsimp only at hSw); go_simp; (try with_reducible rfl))))
                        (try simp only [Act.put, List.setIfInBounds_toArray, List.set_cons_zero, List.set_cons_succ])
                        (refine wpAnyH_take (i := 5) (oi := ⟨some 96, _, _, _, _, none⟩) (v := ?_) rfl (by kernel_rfl) (by kernel_rfl) (by kernel_rfl) (fun _ _ _ h => h) (Or.inl ⟨by rfl, ?_⟩) hHeld ?_; rotate_left; (· (intro w9 hSw; (try dsimp only at hSw); go_simp; (try with_reducible rfl))))
                        (try simp only [Act.put, List.setIfInBounds_toArray, List.set_cons_zero, List.set_cons_succ])
                        (refine wpAnyH_take (i := 6) (oi := ⟨some 97, _, _, _, _, none⟩) (v := ?_) rfl (by kernel_rfl) (by kernel_rfl) (by kernel_rfl) (fun _ _ _ h => h) (Or.inl ⟨by rfl, ?_⟩) hHeld ?_; rotate_left; (· (intro w9 hSw; (try dsimp only at hSw); go_simp; (try with_reducible rfl))))
                        (try simp only [Act.put, List.setIfInBounds_toArray, List.set_cons_zero, List.set_cons_succ])
                        (refine wpAnyH_take (i := 7) (oi := ⟨some 98, _, _, _, _, none⟩) (v := ?_) rfl (by kernel_rfl) (by kernel_rfl) (by kernel_rfl) (fun _ _ _ h => h) (Or.inl ⟨by rfl, ?_⟩) hHeld ?_; rotate_left; (· (intro w9 hSw; (try dsimp only at hSw); go_simp; (try with_reducible rfl))))
                        (try simp only [Act.put, List.setIfInBounds_toArray, List.set_cons_zero, List.set_cons_succ])
                        (refine wpAnyH_take (i := 8) (oi := ⟨some 99, _, _, _, _, none⟩) (v := ?_) rfl (by kernel_rfl) (by kernel_rfl) (by kernel_rfl) (fun _ _ _ h => h) (Or.inl ⟨by rfl, ?_⟩) hHeld ?_; rotate_left; (· (intro w9 hSw; (try dsimp only at hSw); go_simp; (try with_reducible rfl))))
                        (try simp only [Act.put, List.setIfInBounds_toArray, List.set_cons_zero, List.set_cons_succ])
                        (refine wpAnyH_ready (rs := [0]) (by kernel_rfl) (by simp) ?_; refine AllReadyH.cons (o := ⟨some 91, _, _, _, _, none⟩) rfl (fun K hK => ?_) AllReadyH.nil; have hOld := hHeld; clear hHeld; go_simp; refine hK.out _ _ ?_ (fun hHeld => ?_); (· ((try dsimp only); exact fun i n hn => keepA _ (hOld i n hn))); clear hK K hOld)
                        (try simp only [Act.put, List.setIfInBounds_toArray, List.set_cons_zero, List.set_cons_succ])
                        (refine wpAnyH_ready (rs := [4]) (by kernel_rfl) (by simp) ?_; refine AllReadyH.cons (o := ⟨some 95, _, _, _, _, none⟩) rfl (fun K hK => ?_) AllReadyH.nil; have hOld := hHeld; clear hHeld; refine wp_ints _ _ rfl w5.heap.size _ [] rfl (by exact lit_own w5.drew) (l.take a) B1 o1 a _ rfl (by rw [List.length_take]; omega) (fun i n hn => hOld i n (by rw [List.getElem?_take] at hn; split at hn <;> simp_all)) (by simp) (by omega) (by simp [go_sem]) (fun v6 w6 h6 hg6 hb6 => ?_); refine hK.out _ _ ?_ (fun hHeld => ?_); (· ((try dsimp only); exact fun i n hn => (hb6.cell (p := ⟨B1, o1 + i, none⟩) hB1W).trans (hOld i n hn))); clear hK K hOld)
                        (try simp only [Act.put, List.setIfInBounds_toArray, List.set_cons_zero, List.set_cons_succ])
                        (refine wpAnyH_ready (rs := [9]) (by kernel_rfl) (by simp) ?_; refine AllReadyH.cons (o := ⟨some 100, _, _, _, _, none⟩) rfl (fun K hK => ?_) AllReadyH.nil; have hOld := hHeld; clear hHeld; go_loud (refine wp_ints _ _ rfl w5.heap.size _ _ rfl (by exact h6) (l.drop (a + 1)) B1 o1 0 0 (by first | rfl | (simp [go_sem]; trace_state; done)) (by rw [List.length_drop]; omega) (fun i n hn => by rw [List.drop_of_length_le (by omega)] at hn; simp at hn) (by simp; omega) (by omega) (by have := hb6.size; simp [go_sem] at this ⊢; omega) (fun v7 w7 h7 hg7 hb7 => ?_)); refine hK.out _ _ ?_ (fun hHeld => ?_); (· ((try dsimp only); exact fun i n hn => (hb7.cell (p := ⟨B1, o1 + i, none⟩) hB1W).trans (hOld i n hn))); clear hK K hOld)
                        (try simp only [Act.put, List.setIfInBounds_toArray, List.set_cons_zero, List.set_cons_succ])
                        (refine wpAnyH_take (i := 10) (oi := ⟨some 5, _, _, _, _, none⟩) (v := ?_) rfl (by kernel_rfl) (by kernel_rfl) (by kernel_rfl) (fun _ _ _ h => h) (Or.inl ⟨by rfl, ?_⟩) hHeld ?_; rotate_left; (· (intro w9 hSw; (try dsimp only at hSw); go_simp; (try with_reducible rfl))))
                        (try simp only [Act.put, List.setIfInBounds_toArray, List.set_cons_zero, List.set_cons_succ])
                        refine wpAnyH_done (by kernel_rfl) ?_ _
                        rw [List.nil_append] at h7
                        have hb8 : Below w5.heap.size w5 w7 := (show Below w5.heap.size w5 (w5.drew.alloc (.cells #[] 3)) by go_grown).trans (hb6.trans hb7)
                        have hB8 := hB5.trans (hb8.mono hzW)
                        have hout8 := hout5.below hb8
                        clear hb6 hb7 hb8 hg6 hg7 h6 hHeld r5 hout5 hB5
                        go_wp2_with fail
                        have hn7 : (l.take a ++ l.drop (a + 1)).length + 1 = l.length := by rw [List.length_append, List.length_take, List.length_drop]; omega
                        obtain ⟨q7, cap7, e7⟩ := h7.len
                        exact ⟨⟨_, _, w5.heap.size, h7, hout8, hzW, fun k hk => (hoW k hk).2, hnew, by simp only [List.length_append, List.length_cons, List.length_nil] at hn7 hlen ⊢; omega, hB8⟩, by rw [e7]; show (l.take a ++ l.drop (a + 1)).length < l.length; omega⟩
                      · have hc2 : ¬ a + 1 = capl := by omega
                        go_wp2_with fail
                        refine wp_region_held_drew (S := (fun X => RowI B1 o1 l X)) (by kernel_rfl) (by (try dsimp only); exact fun i n hn => by rw [World.cell?_drew]; exact r5 i n hn) (fun hHeld => ?_)
                        (refine wpAnyH_take (i := 1) (oi := ⟨some 92, _, _, _, _, none⟩) (v := ?_) rfl (by kernel_rfl) (by kernel_rfl) (by kernel_rfl) (fun _ _ _ h => h) (Or.inl ⟨by rfl, ?_⟩) hHeld ?_; rotate_left; (· (intro w9 hSw; (try dsimp only at hSw); go_simp; (try with_reducible rfl))))
                        (try simp only [Act.put, List.setIfInBounds_toArray, List.set_cons_zero, List.set_cons_succ])
                        (refine wpAnyH_take (i := 2) (oi := ⟨some 93, _, _, _, _, none⟩) (v := ?_) rfl (by kernel_rfl) (by kernel_rfl) (by kernel_rfl) (fun _ _ _ h => h) (Or.inl ⟨by rfl, ?_⟩) hHeld ?_; rotate_left; (· (intro w9 hSw; (try dsimp only at hSw); go_simp; (try with_reducible rfl))))
                        (try simp only [Act.put, List.setIfInBounds_toArray, List.set_cons_zero, List.set_cons_succ])
                        (refine wpAnyH_take (i := 3) (oi := ⟨some 94, _, _, _, _, none⟩) (v := ?_) rfl (by kernel_rfl) (by kernel_rfl) (by kernel_rfl) (fun _ _ _ h => h) (Or.inl ⟨by rfl, ?_⟩) hHeld ?_; rotate_left; (· (intro w9 hSw; (try dsimp only at hSw); go_simp; (try with_reducible rfl))))
                        (try simp only [Act.put, List.setIfInBounds_toArray, List.set_cons_zero, List.set_cons_succ])
                        (refine wpAnyH_take (i := 5) (oi := ⟨some 96, _, _, _, _, none⟩) (v := ?_) rfl (by kernel_rfl) (by kernel_rfl) (by kernel_rfl) (fun _ _ _ h => h) (Or.inl ⟨by rfl, ?_⟩) hHeld ?_; rotate_left; (· (intro w9 hSw; (try dsimp only at hSw); go_simp; (try with_reducible rfl))))
                        (try simp only [Act.put, List.setIfInBounds_toArray, List.set_cons_zero, List.set_cons_succ])
                        (refine wpAnyH_take (i := 6) (oi := ⟨some 97, _, _, _, _, none⟩) (v := ?_) rfl (by kernel_rfl) (by kernel_rfl) (by kernel_rfl) (fun _ _ _ h => h) (Or.inl ⟨by rfl, ?_⟩) hHeld ?_; rotate_left; (· (intro w9 hSw; (try dsimp only at hSw); go_simp; (try with_reducible rfl))))
                        (try simp only [Act.put, List.setIfInBounds_toArray, List.set_cons_zero, List.set_cons_succ])
                        (refine wpAnyH_take (i := 7) (oi := ⟨some 98, _, _, _, _, none⟩) (v := ?_) rfl (by kernel_rfl) (by kernel_rfl) (by kernel_rfl) (fun _ _ _ h => h) (Or.inl ⟨by rfl, ?_⟩) hHeld ?_; rotate_left; (· (intro w9 hSw; (try dsimp only at hSw); go_simp; (try with_reducible rfl))))
                        (try simp only [Act.put, List.setIfInBounds_toArray, List.set_cons_zero, List.set_cons_succ])
                        (refine wpAnyH_take (i := 8) (oi := ⟨some 99, _, _, _, _, none⟩) (v := ?_) rfl (by kernel_rfl) (by kernel_rfl) (by kernel_rfl) (fun _ _ _ h => h) (Or.inl ⟨by rfl, ?_⟩) hHeld ?_; rotate_left; (· (intro w9 hSw; (try dsimp only at hSw); go_simp; (try with_reducible rfl))))
                        (try simp only [Act.put, List.setIfInBounds_toArray, List.set_cons_zero, List.set_cons_succ])
                        (refine wpAnyH_ready (rs := [0]) (by kernel_rfl) (by simp) ?_; refine AllReadyH.cons (o := ⟨some 91, _, _, _, _, none⟩) rfl (fun K hK => ?_) AllReadyH.nil; have hOld := hHeld; clear hHeld; go_simp; refine hK.out _ _ ?_ (fun hHeld => ?_); (· ((try dsimp only); exact fun i n hn => keepA _ (hOld i n hn))); clear hK K hOld)
                        (try simp only [Act.put, List.setIfInBounds_toArray, List.set_cons_zero, List.set_cons_succ])
                        (refine wpAnyH_ready (rs := [4]) (by kernel_rfl) (by simp) ?_; refine AllReadyH.cons (o := ⟨some 95, _, _, _, _, none⟩) rfl (fun K hK => ?_) AllReadyH.nil; have hOld := hHeld; clear hHeld; refine wp_ints _ _ rfl w5.heap.size _ [] rfl (by exact lit_own w5.drew) (l.take a) B1 o1 a _ rfl (by rw [List.length_take]; omega) (fun i n hn => hOld i n (by rw [List.getElem?_take] at hn; split at hn <;> simp_all)) (by simp) (by omega) (by simp [go_sem]) (fun v6 w6 h6 hg6 hb6 => ?_); refine hK.out _ _ ?_ (fun hHeld => ?_); (· ((try dsimp only); exact fun i n hn => (hb6.cell (p := ⟨B1, o1 + i, none⟩) hB1W).trans (hOld i n hn))); clear hK K hOld)
                        (try simp only [Act.put, List.setIfInBounds_toArray, List.set_cons_zero, List.set_cons_succ])
                        (refine wpAnyH_ready (rs := [9]) (by kernel_rfl) (by simp) ?_; refine AllReadyH.cons (o := ⟨some 100, _, _, _, _, none⟩) rfl (fun K hK => ?_) AllReadyH.nil; have hOld := hHeld; clear hHeld; go_loud (refine wp_ints _ _ rfl w5.heap.size _ _ rfl (by exact h6) (l.drop (a + 1)) B1 (o1 + (a + 1)) (l.length - (a + 1)) (capl - (a + 1)) (by first | rfl | (simp [go_sem, hc]; done) | (simp [go_sem, hc]; trace_state; done)) (by rw [List.length_drop]) (fun i n hn => by rw [show o1 + (a + 1) + i = o1 + (a + 1 + i) by omega]; exact hOld _ n (by rwa [List.getElem?_drop] at hn)) (by simp; omega) (by omega) (by have := hb6.size; simp [go_sem] at this ⊢; omega) (fun v7 w7 h7 hg7 hb7 => ?_)); refine hK.out _ _ ?_ (fun hHeld => ?_); (· ((try dsimp only); exact fun i n hn => (hb7.cell (p := ⟨B1, o1 + i, none⟩) hB1W).trans (hOld i n hn))); clear hK K hOld)
                        (try simp only [Act.put, List.setIfInBounds_toArray, List.set_cons_zero, List.set_cons_succ])
                        (refine wpAnyH_take (i := 10) (oi := ⟨some 5, _, _, _, _, none⟩) (v := ?_) rfl (by kernel_rfl) (by kernel_rfl) (by kernel_rfl) (fun _ _ _ h => h) (Or.inl ⟨by rfl, ?_⟩) hHeld ?_; rotate_left; (· (intro w9 hSw; (try dsimp only at hSw); go_simp; (try with_reducible rfl))))
                        (try simp only [Act.put, List.setIfInBounds_toArray, List.set_cons_zero, List.set_cons_succ])
                        refine wpAnyH_done (by kernel_rfl) ?_ _
                        rw [List.nil_append] at h7
                        have hb8 : Below w5.heap.size w5 w7 := (show Below w5.heap.size w5 (w5.drew.alloc (.cells #[] 3)) by go_grown).trans (hb6.trans hb7)
                        have hB8 := hB5.trans (hb8.mono hzW)
                        have hout8 := hout5.below hb8
                        clear hb6 hb7 hb8 hg6 hg7 h6 hHeld r5 hout5 hB5
                        go_wp2_with fail
                        have hn7 : (l.take a ++ l.drop (a + 1)).length + 1 = l.length := by rw [List.length_append, List.length_take, List.length_drop]; omega
                        obtain ⟨q7, cap7, e7⟩ := h7.len
                        exact ⟨⟨_, _, w5.heap.size, h7, hout8, hzW, fun k hk => (hoW k hk).2, hnew, by simp only [List.length_append, List.length_cons, List.length_nil] at hn7 hlen ⊢; omega, hB8⟩, by rw [e7]; show (l.take a ++ l.drop (a + 1)).length < l.length; omega⟩
                    · have hne : (y == m) = false := by rw [beq_eq_false_iff_ne]; exact e
                      have hnew := hid (hst.out.2 (by rw [hlast]; simpa using e))
                      clear hst hL hE r1 r2 hmin hai hil hlast hy
                      go_wp2_with fail
                      refine wp_region_held_drew (S := (fun w' => w'.cell? ⟨B1, o1 + a, none⟩ = some (.int .i64 m) ∧ w'.cell? ⟨B2, o2 + k1, none⟩ = some (.int .i64 y))) (by kernel_rfl) (by (try dsimp only); (first | (exact ⟨hk1 _ _ _ (hOld.1), hk1 _ _ _ (hOld.2)⟩) | ((try simp only [World.cell?_drew, World.frozen?_drew]); (repeat' apply And.intro) <;> (first | (with_reducible assumption) | (with_reducible exact ⟨_, by assumption⟩) | (with_reducible exact ⟨_, two_other (by assumption) (by omega)⟩) | (with_reducible exact two_0 (by assumption)) | (with_reducible exact two_1 (by assumption)) | (with_reducible exact two_other (by assumption) (by omega)) | (with_reducible exact two_fz (by assumption)) | (with_reducible exact keepA _ (by assumption)) | (with_reducible exact keepA _ (keepA _ (keepA _ (by assumption)))) | (simp (maxDischargeDepth := 8) [*, go_sem, World.cell?_alloc_some, World.cell?_setCell_far]; done))) | (go_keep; done) | (simp (maxDischargeDepth := 8) [*, go_sem, World.cell?_alloc_some, World.cell?_setCell_far]; done))) (fun hHeld => ?_)
                      (refine wpAnyH_take (i := 0) (oi := ⟨some 68, _, _, _, _, none⟩) (v := ?_) rfl (by kernel_rfl) (by kernel_rfl) (by kernel_rfl) (fun _ _ _ h => h) (Or.inl ⟨by rfl, ?_⟩) hHeld ?_; rotate_left; (· (intro w9 hSw; (try dsimp only at hSw); go_simp; (try with_reducible rfl))))
                      (try simp only [Act.put, List.setIfInBounds_toArray, List.set_cons_zero, List.set_cons_succ])
                      (refine wpAnyH_take (i := 1) (oi := ⟨some 69, _, _, _, _, none⟩) (v := ?_) rfl (by kernel_rfl) (by kernel_rfl) (by kernel_rfl) (fun _ _ _ h => h) (Or.inl ⟨by rfl, ?_⟩) hHeld ?_; rotate_left; (· (intro w9 hSw; (try dsimp only at hSw); go_simp; (try with_reducible rfl))))
                      (try simp only [Act.put, List.setIfInBounds_toArray, List.set_cons_zero, List.set_cons_succ])
                      (refine wpAnyH_take (i := 2) (oi := ⟨some 70, _, _, _, _, none⟩) (v := ?_) rfl (by kernel_rfl) (by kernel_rfl) (by kernel_rfl) (fun _ _ _ h => h) (Or.inl ⟨by rfl, ?_⟩) hHeld ?_; rotate_left; (· (intro w9 hSw; (try dsimp only at hSw); go_simp; (try with_reducible rfl))))
                      (try simp only [Act.put, List.setIfInBounds_toArray, List.set_cons_zero, List.set_cons_succ])
                      (refine wpAnyH_take (i := 3) (oi := ⟨some 71, _, _, _, _, none⟩) (v := ?_) rfl (by kernel_rfl) (by kernel_rfl) (by kernel_rfl) (fun _ _ _ h => h) (Or.inl ⟨by rfl, ?_⟩) hHeld ?_; rotate_left; (· (intro w9 hSw; (try dsimp only at hSw); go_simp; (try with_reducible rfl))))
                      (try simp only [Act.put, List.setIfInBounds_toArray, List.set_cons_zero, List.set_cons_succ])
                      (first | (refine wpAnyH_take (i := 4) (oi := ⟨some 72, _, _, _, _, some (3, false)⟩) (v := ?_) rfl (by kernel_rfl) (by kernel_rfl) (by kernel_rfl) (fun _ _ _ h => h) (Or.inl ⟨by rfl, ?_⟩) hHeld ?_; rotate_left; (· (intro w9 hSw; (try dsimp only at hSw); go_simp; (try with_reducible rfl)))) | (refine wpAnyH_take (i := 4) (oi := ⟨some 72, _, _, _, _, some (3, false)⟩) (v := undef) rfl (by kernel_rfl) (by kernel_rfl) (by kernel_rfl) (fun _ _ _ h => h) (Or.inr ⟨by rfl, rfl⟩) hHeld ?_))
                      (try simp only [Act.put, List.setIfInBounds_toArray, List.set_cons_zero, List.set_cons_succ])
                      (first | (refine wpAnyH_take (i := 5) (oi := ⟨some 73, _, _, _, _, some (3, false)⟩) (v := ?_) rfl (by kernel_rfl) (by kernel_rfl) (by kernel_rfl) (fun _ _ _ h => h) (Or.inl ⟨by rfl, ?_⟩) hHeld ?_; rotate_left; (· (intro w9 hSw; (try dsimp only at hSw); go_simp; (try with_reducible rfl)))) | (refine wpAnyH_take (i := 5) (oi := ⟨some 73, _, _, _, _, some (3, false)⟩) (v := undef) rfl (by kernel_rfl) (by kernel_rfl) (by kernel_rfl) (fun _ _ _ h => h) (Or.inr ⟨by rfl, rfl⟩) hHeld ?_))
                      (try simp only [Act.put, List.setIfInBounds_toArray, List.set_cons_zero, List.set_cons_succ])
                      (first | (refine wpAnyH_take (i := 6) (oi := ⟨some 74, _, _, _, _, some (3, false)⟩) (v := ?_) rfl (by kernel_rfl) (by kernel_rfl) (by kernel_rfl) (fun _ _ _ h => h) (Or.inl ⟨by rfl, ?_⟩) hHeld ?_; rotate_left; (· (intro w9 hSw; (try dsimp only at hSw); go_simp; (try with_reducible rfl)))) | (refine wpAnyH_take (i := 6) (oi := ⟨some 74, _, _, _, _, some (3, false)⟩) (v := undef) rfl (by kernel_rfl) (by kernel_rfl) (by kernel_rfl) (fun _ _ _ h => h) (Or.inr ⟨by rfl, rfl⟩) hHeld ?_))
                      (try simp only [Act.put, List.setIfInBounds_toArray, List.set_cons_zero, List.set_cons_succ])
                      (first | (refine wpAnyH_take (i := 7) (oi := ⟨some 75, _, _, _, _, some (3, false)⟩) (v := ?_) rfl (by kernel_rfl) (by kernel_rfl) (by kernel_rfl) (fun _ _ _ h => h) (Or.inl ⟨by rfl, ?_⟩) hHeld ?_; rotate_left; (· (intro w9 hSw; (try dsimp only at hSw); go_simp; (try with_reducible rfl)))) | (refine wpAnyH_take (i := 7) (oi := ⟨some 75, _, _, _, _, some (3, false)⟩) (v := undef) rfl (by kernel_rfl) (by kernel_rfl) (by kernel_rfl) (fun _ _ _ h => h) (Or.inr ⟨by rfl, rfl⟩) hHeld ?_))
                      (try simp only [Act.put, List.setIfInBounds_toArray, List.set_cons_zero, List.set_cons_succ])
                      (first | (refine wpAnyH_take (i := 8) (oi := ⟨some 76, _, _, _, _, some (3, false)⟩) (v := ?_) rfl (by kernel_rfl) (by kernel_rfl) (by kernel_rfl) (fun _ _ _ h => h) (Or.inl ⟨by rfl, ?_⟩) hHeld ?_; rotate_left; (· (intro w9 hSw; (try dsimp only at hSw); go_simp; (try with_reducible rfl)))) | (refine wpAnyH_take (i := 8) (oi := ⟨some 76, _, _, _, _, some (3, false)⟩) (v := undef) rfl (by kernel_rfl) (by kernel_rfl) (by kernel_rfl) (fun _ _ _ h => h) (Or.inr ⟨by rfl, rfl⟩) hHeld ?_))
                      (try simp only [Act.put, List.setIfInBounds_toArray, List.set_cons_zero, List.set_cons_succ])
                      (first | (refine wpAnyH_take (i := 9) (oi := ⟨some 77, _, _, _, _, some (3, false)⟩) (v := ?_) rfl (by kernel_rfl) (by kernel_rfl) (by kernel_rfl) (fun _ _ _ h => h) (Or.inl ⟨by rfl, ?_⟩) hHeld ?_; rotate_left; (· (intro w9 hSw; (try dsimp only at hSw); go_simp; (try with_reducible rfl)))) | (refine wpAnyH_take (i := 9) (oi := ⟨some 77, _, _, _, _, some (3, false)⟩) (v := undef) rfl (by kernel_rfl) (by kernel_rfl) (by kernel_rfl) (fun _ _ _ h => h) (Or.inr ⟨by rfl, rfl⟩) hHeld ?_))
                      (try simp only [Act.put, List.setIfInBounds_toArray, List.set_cons_zero, List.set_cons_succ])
                      (first | (refine wpAnyH_take (i := 10) (oi := ⟨some 78, _, _, _, _, some (3, false)⟩) (v := ?_) rfl (by kernel_rfl) (by kernel_rfl) (by kernel_rfl) (fun _ _ _ h => h) (Or.inl ⟨by rfl, ?_⟩) hHeld ?_; rotate_left; (· (intro w9 hSw; (try dsimp only at hSw); go_simp; (try with_reducible rfl)))) | (refine wpAnyH_take (i := 10) (oi := ⟨some 78, _, _, _, _, some (3, false)⟩) (v := undef) rfl (by kernel_rfl) (by kernel_rfl) (by kernel_rfl) (fun _ _ _ h => h) (Or.inr ⟨by rfl, rfl⟩) hHeld ?_))
                      (try simp only [Act.put, List.setIfInBounds_toArray, List.set_cons_zero, List.set_cons_succ])
                      (first | (refine wpAnyH_take (i := 11) (oi := ⟨some 79, _, _, _, _, some (3, false)⟩) (v := ?_) rfl (by kernel_rfl) (by kernel_rfl) (by kernel_rfl) (fun _ _ _ h => h) (Or.inl ⟨by rfl, ?_⟩) hHeld ?_; rotate_left; (· (intro w9 hSw; (try dsimp only at hSw); go_simp; (try with_reducible rfl)))) | (refine wpAnyH_take (i := 11) (oi := ⟨some 79, _, _, _, _, some (3, false)⟩) (v := undef) rfl (by kernel_rfl) (by kernel_rfl) (by kernel_rfl) (fun _ _ _ h => h) (Or.inr ⟨by rfl, rfl⟩) hHeld ?_))
                      (try simp only [Act.put, List.setIfInBounds_toArray, List.set_cons_zero, List.set_cons_succ])
                      (first | (refine wpAnyH_take (i := 12) (oi := ⟨some 80, _, _, _, _, some (3, false)⟩) (v := ?_) rfl (by kernel_rfl) (by kernel_rfl) (by kernel_rfl) (fun _ _ _ h => h) (Or.inl ⟨by rfl, ?_⟩) hHeld ?_; rotate_left; (· (intro w9 hSw; (try dsimp only at hSw); go_simp; (try with_reducible rfl)))) | (refine wpAnyH_take (i := 12) (oi := ⟨some 80, _, _, _, _, some (3, false)⟩) (v := undef) rfl (by kernel_rfl) (by kernel_rfl) (by kernel_rfl) (fun _ _ _ h => h) (Or.inr ⟨by rfl, rfl⟩) hHeld ?_))
                      (try simp only [Act.put, List.setIfInBounds_toArray, List.set_cons_zero, List.set_cons_succ])
                      (first | (refine wpAnyH_take (i := 13) (oi := ⟨some 81, _, _, _, _, some (3, false)⟩) (v := ?_) rfl (by kernel_rfl) (by kernel_rfl) (by kernel_rfl) (fun _ _ _ h => h) (Or.inl ⟨by rfl, ?_⟩) hHeld ?_; rotate_left; (· (intro w9 hSw; (try dsimp only at hSw); go_simp; (try with_reducible rfl)))) | (refine wpAnyH_take (i := 13) (oi := ⟨some 81, _, _, _, _, some (3, false)⟩) (v := undef) rfl (by kernel_rfl) (by kernel_rfl) (by kernel_rfl) (fun _ _ _ h => h) (Or.inr ⟨by rfl, rfl⟩) hHeld ?_))
                      (try simp only [Act.put, List.setIfInBounds_toArray, List.set_cons_zero, List.set_cons_succ])
                      (first | (refine wpAnyH_take (i := 14) (oi := ⟨some 82, _, _, _, _, some (3, false)⟩) (v := ?_) rfl (by kernel_rfl) (by kernel_rfl) (by kernel_rfl) (fun _ _ _ h => h) (Or.inl ⟨by rfl, ?_⟩) hHeld ?_; rotate_left; (· (intro w9 hSw; (try dsimp only at hSw); go_simp; (try with_reducible rfl)))) | (refine wpAnyH_take (i := 14) (oi := ⟨some 82, _, _, _, _, some (3, false)⟩) (v := undef) rfl (by kernel_rfl) (by kernel_rfl) (by kernel_rfl) (fun _ _ _ h => h) (Or.inr ⟨by rfl, rfl⟩) hHeld ?_))
                      (try simp only [Act.put, List.setIfInBounds_toArray, List.set_cons_zero, List.set_cons_succ])
                      (refine wpAnyH_take (i := 15) (oi := ⟨some 83, _, _, _, _, none⟩) (v := ?_) rfl (by kernel_rfl) (by kernel_rfl) (by kernel_rfl) (fun _ _ _ h => h) (Or.inl ⟨by rfl, ?_⟩) hHeld ?_; rotate_left; (· (intro w9 hSw; (try dsimp only at hSw); go_simp; (try with_reducible rfl))))
                      (try simp only [Act.put, List.setIfInBounds_toArray, List.set_cons_zero, List.set_cons_succ])
                      refine wpAnyH_done (by kernel_rfl) ?_ _
                      go_upto_region 19 with fail
                      go_wp2_with (at_builtin; go_loud (refine app_intsW rfl _ _ rfl w.heap.size _ _ rfl (by exact (hout.alloc _).drew) [m] wr.heap.size 0 1 1 rfl rfl (one_cell (by simp [go_sem])) hal (by decide) (by simp [go_sem]; omega) ?_))
                      intro v5 w5 hout5 hg5 hb5
                      have hown5 : OwnI bl l (.slice (some ⟨B1, o1, none⟩) l.length capl) w5 := World.ownsRow.kept ((hown.alloc _).drew) hg5 (Or.inr (by intro e; have := hap B1 (by rw [← e]; rfl); omega))
                      have hB5 : Below w.heap.size w w5 := hB.trans ((show Below w.heap.size wr (wr.alloc (.cells #[.int .i64 m] 3)).drew by go_grown).trans hb5)
                      clear hb5 hg5 hown hout hHeld hB hap
                      have r5 : RowI B1 o1 l w5 := own_row hown5
                      have hB1W : B1 < w5.heap.size := (World.ownsRow.lt hown5 B1 rfl).2
                      have hoW := (World.ownsRow.lt hout5)
                      have hzW := hB5.size
                      have wa : IntKind.i64.wrap ((a : Int) + 1) = ((a + 1 : Nat) : Int) := by rw [IntKind.wrap_i64]; omega
                      have hcap := own_cap hown5
                      have ha0 : a ≤ capl := by omega
                      have ha1 : (0 : Int) ≤ (a : Int) + 1 := by omega
                      have ha2 : (a : Int) + 1 ≤ l.length := by omega
                      have ha3 : a + 1 ≤ l.length := by omega
                      have ha4 : a + 1 ≤ capl := by omega
                      clear hown5
                      by_cases hc : capl = a + 1
                      · have hc2 : l.length = a + 1 := by omega
                        have ha5 : (a : Int) ≤ (a : Int) + 1 := by omega
                        have ha6 : a ≤ a + 1 := by omega
                        go_wp2_with fail
                        refine wp_region_held_drew (S := (fun X => RowI B1 o1 l X)) (by kernel_rfl) (by (try dsimp only); exact fun i n hn => by rw [World.cell?_drew]; exact r5 i n hn) (fun hHeld => ?_)
                        (refine wpAnyH_take (i := 1) (oi := ⟨some 92, _, _, _, _, none⟩) (v := ?_) rfl (by kernel_rfl) (by kernel_rfl) (by kernel_rfl) (fun _ _ _ h => h) (Or.inl ⟨by rfl, ?_⟩) hHeld ?_; rotate_left; (· (intro w9 hSw; (try dsimp only at hSw); go_simp; (try with_reducible rfl))))
                        (try simp only [Act.put, List.setIfInBounds_toArray, List.set_cons_zero, List.set_cons_succ])
                        (refine wpAnyH_take (i := 2) (oi := ⟨some 93, _, _, _, _, none⟩) (v := ?_) rfl (by kernel_rfl) (by kernel_rfl) (by kernel_rfl) (fun _ _ _ h => h) (Or.inl ⟨by rfl, ?_⟩) hHeld ?_; rotate_left; (· (intro w9 hSw; (try dsimp only at hSw); go_simp; (try with_reducible rfl))))
                        (try simp only [Act.put, List.setIfInBounds_toArray, List.set_cons_zero, List.set_cons_succ])
                        (refine wpAnyH_take (i := 3) (oi := ⟨some 94, _, _, _, _, none⟩) (v := ?_) rfl (by kernel_rfl) (by kernel_rfl) (by kernel_rfl) (fun _ _ _ h => h) (Or.inl ⟨by rfl, ?_⟩) hHeld ?_; rotate_left; (· (intro w9 hSw; (try dsimp only at hSw); go_simp; (try with_reducible rfl))))
                        (try simp only [Act.put, List.setIfInBounds_toArray, List.set_cons_zero, List.set_cons_succ])
                        (refine wpAnyH_take (i := 5) (oi := ⟨some 96, _, _, _, _, none⟩) (v := ?_) rfl (by kernel_rfl) (by kernel_rfl) (by kernel_rfl) (fun _ _ _ h => h) (Or.inl ⟨by rfl, ?_⟩) hHeld ?_; rotate_left; (· (intro w9 hSw; (try dsimp only at hSw); go_simp; (try with_reducible rfl))))
                        (try simp only [Act.put, List.setIfInBounds_toArray, List.set_cons_zero, List.set_cons_succ])
                        (refine wpAnyH_take (i := 6) (oi := ⟨some 97, _, _, _, _, none⟩) (v := ?_) rfl (by kernel_rfl) (by kernel_rfl) (by kernel_rfl) (fun _ _ _ h => h) (Or.inl ⟨by rfl, ?_⟩) hHeld ?_; rotate_left; (· (intro w9 hSw; (try dsimp only at hSw); go_simp; (try with_reducible rfl))))
                        (try simp only [Act.put, List.setIfInBounds_toArray, List.set_cons_zero, List.set_cons_succ])
                        (refine wpAnyH_take (i := 7) (oi := ⟨some 98, _, _, _, _, none⟩) (v := ?_) rfl (by kernel_rfl) (by kernel_rfl) (by kernel_rfl) (fun _ _ _ h => h) (Or.inl ⟨by rfl, ?_⟩) hHeld ?_; rotate_left; (· (intro w9 hSw; (try dsimp only at hSw); go_simp; (try with_reducible rfl))))
                        (try simp only [Act.put, List.setIfInBounds_toArray, List.set_cons_zero, List.set_cons_succ])
                        (refine wpAnyH_take (i := 8) (oi := ⟨some 99, _, _, _, _, none⟩) (v := ?_) rfl (by kernel_rfl) (by kernel_rfl) (by kernel_rfl) (fun _ _ _ h => h) (Or.inl ⟨by rfl, ?_⟩) hHeld ?_; rotate_left; (· (intro w9 hSw; (try dsimp only at hSw); go_simp; (try with_reducible rfl))))
                        (try simp only [Act.put, List.setIfInBounds_toArray, List.set_cons_zero, List.set_cons_succ])
                        (refine wpAnyH_ready (rs := [0]) (by kernel_rfl) (by simp) ?_; refine AllReadyH.cons (o := ⟨some 91, _, _, _, _, none⟩) rfl (fun K hK => ?_) AllReadyH.nil; have hOld := hHeld; clear hHeld; go_simp; refine hK.out _ _ ?_ (fun hHeld => ?_); (· ((try dsimp only); exact fun i n hn => keepA _ (hOld i n hn))); clear hK K hOld)
                        (try simp only [Act.put, List.setIfInBounds_toArray, List.set_cons_zero, List.set_cons_succ])
                        (refine wpAnyH_ready (rs := [4]) (by kernel_rfl) (by simp) ?_; refine AllReadyH.cons (o := ⟨some 95, _, _, _, _, none⟩) rfl (fun K hK => ?_) AllReadyH.nil; have hOld := hHeld; clear hHeld; refine wp_ints _ _ rfl w5.heap.size _ [] rfl (by exact lit_own w5.drew) (l.take a) B1 o1 a _ rfl (by rw [List.length_take]; omega) (fun i n hn => hOld i n (by rw [List.getElem?_take] at hn; split at hn <;> simp_all)) (by simp) (by omega) (by simp [go_sem]) (fun v6 w6 h6 hg6 hb6 => ?_); refine hK.out _ _ ?_ (fun hHeld => ?_); (· ((try dsimp only); exact fun i n hn => (hb6.cell (p := ⟨B1, o1 + i, none⟩) hB1W).trans (hOld i n hn))); clear hK K hOld)
                        (try simp only [Act.put, List.setIfInBounds_toArray, List.set_cons_zero, List.set_cons_succ])
                        (refine wpAnyH_ready (rs := [9]) (by kernel_rfl) (by simp) ?_; refine AllReadyH.cons (o := ⟨some 100, _, _, _, _, none⟩) rfl (fun K hK => ?_) AllReadyH.nil; have hOld := hHeld; clear hHeld; go_loud (refine wp_ints _ _ rfl w5.heap.size _ _ rfl (by exact h6) (l.drop (a + 1)) B1 o1 0 0 (by first | rfl | (simp [go_sem]; trace_state; done)) (by rw [List.length_drop]; omega) (fun i n hn => by rw [List.drop_of_length_le (by omega)] at hn; simp at hn) (by simp; omega) (by omega) (by have := hb6.size; simp [go_sem] at this ⊢; omega) (fun v7 w7 h7 hg7 hb7 => ?_)); refine hK.out _ _ ?_ (fun hHeld => ?_); (· ((try dsimp only); exact fun i n hn => (hb7.cell (p := ⟨B1, o1 + i, none⟩) hB1W).trans (hOld i n hn))); clear hK K hOld)
                        (try simp only [Act.put, List.setIfInBounds_toArray, List.set_cons_zero, List.set_cons_succ])
                        (refine wpAnyH_take (i := 10) (oi := ⟨some 5, _, _, _, _, none⟩) (v := ?_) rfl (by kernel_rfl) (by kernel_rfl) (by kernel_rfl) (fun _ _ _ h => h) (Or.inl ⟨by rfl, ?_⟩) hHeld ?_; rotate_left; (· (intro w9 hSw; (try dsimp only at hSw); go_simp; (try with_reducible rfl))))
                        (try simp only [Act.put, List.setIfInBounds_toArray, List.set_cons_zero, List.set_cons_succ])
                        refine wpAnyH_done (by kernel_rfl) ?_ _
                        rw [List.nil_append] at h7
                        have hb8 : Below w5.heap.size w5 w7 := (show Below w5.heap.size w5 (w5.drew.alloc (.cells #[] 3)) by go_grown).trans (hb6.trans hb7)
                        have hB8 := hB5.trans (hb8.mono hzW)
                        have hout8 := hout5.below hb8
                        clear hb6 hb7 hb8 hg6 hg7 h6 hHeld r5 hout5 hB5
                        go_wp2_with fail
                        have hn7 : (l.take a ++ l.drop (a + 1)).length + 1 = l.length := by rw [List.length_append, List.length_take, List.length_drop]; omega
                        obtain ⟨q7, cap7, e7⟩ := h7.len
                        exact ⟨⟨_, _, w5.heap.size, h7, hout8, hzW, fun k hk => (hoW k hk).2, hnew, by simp only [List.length_append, List.length_cons, List.length_nil] at hn7 hlen ⊢; omega, hB8⟩, by rw [e7]; show (l.take a ++ l.drop (a + 1)).length < l.length; omega⟩
                      · have hc2 : ¬ a + 1 = capl := by omega
                        go_wp2_with fail
                        refine wp_region_held_drew (S := (fun X => RowI B1 o1 l X)) (by kernel_rfl) (by (try dsimp only); exact fun i n hn => by rw [World.cell?_drew]; exact r5 i n hn) (fun hHeld => ?_)
                        (refine wpAnyH_take (i := 1) (oi := ⟨some 92, _, _, _, _, none⟩) (v := ?_) rfl (by kernel_rfl) (by kernel_rfl) (by kernel_rfl) (fun _ _ _ h => h) (Or.inl ⟨by rfl, ?_⟩) hHeld ?_; rotate_left; (· (intro w9 hSw; (try dsimp only at hSw); go_simp; (try with_reducible rfl))))
                        (try simp only [Act.put, List.setIfInBounds_toArray, List.set_cons_zero, List.set_cons_succ])
                        (refine wpAnyH_take (i := 2) (oi := ⟨some 93, _, _, _, _, none⟩) (v := ?_) rfl (by kernel_rfl) (by kernel_rfl) (by kernel_rfl) (fun _ _ _ h => h) (Or.inl ⟨by rfl, ?_⟩) hHeld ?_; rotate_left; (· (intro w9 hSw; (try dsimp only at hSw); go_simp; (try with_reducible rfl))))
                        (try simp only [Act.put, List.setIfInBounds_toArray, List.set_cons_zero, List.set_cons_succ])
                        (refine wpAnyH_take (i := 3) (oi := ⟨some 94, _, _, _, _, none⟩) (v := ?_) rfl (by kernel_rfl) (by kernel_rfl) (by kernel_rfl) (fun _ _ _ h => h) (Or.inl ⟨by rfl, ?_⟩) hHeld ?_; rotate_left; (· (intro w9 hSw; (try dsimp only at hSw); go_simp; (try with_reducible rfl))))
                        (try simp only [Act.put, List.setIfInBounds_toArray, List.set_cons_zero, List.set_cons_succ])
                        (refine wpAnyH_take (i := 5) (oi := ⟨some 96, _, _, _, _, none⟩) (v := ?_) rfl (by kernel_rfl) (by kernel_rfl) (by kernel_rfl) (fun _ _ _ h => h) (Or.inl ⟨by rfl, ?_⟩) hHeld ?_; rotate_left; (· (intro w9 hSw; (try dsimp only at hSw); go_simp; (try with_reducible rfl))))
                        (try simp only [Act.put, List.setIfInBounds_toArray, List.set_cons_zero, List.set_cons_succ])
                        (refine wpAnyH_take (i := 6) (oi := ⟨some 97, _, _, _, _, none⟩) (v := ?_) rfl (by kernel_rfl) (by kernel_rfl) (by kernel_rfl) (fun _ _ _ h => h) (Or.inl ⟨by rfl, ?_⟩) hHeld ?_; rotate_left; (· (intro w9 hSw; (try dsimp only at hSw); go_simp; (try with_reducible rfl))))
                        (try simp only [Act.put, List.setIfInBounds_toArray, List.set_cons_zero, List.set_cons_succ])
                        (refine wpAnyH_take (i := 7) (oi := ⟨some 98, _, _, _, _, none⟩) (v := ?_) rfl (by kernel_rfl) (by kernel_rfl) (by kernel_rfl) (fun _ _ _ h => h) (Or.inl ⟨by rfl, ?_⟩) hHeld ?_; rotate_left; (· (intro w9 hSw; (try dsimp only at hSw); go_simp; (try with_reducible rfl))))
                        (try simp only [Act.put, List.setIfInBounds_toArray, List.set_cons_zero, List.set_cons_succ])
                        (refine wpAnyH_take (i := 8) (oi := ⟨some 99, _, _, _, _, none⟩) (v := ?_) rfl (by kernel_rfl) (by kernel_rfl) (by kernel_rfl) (fun _ _ _ h => h) (Or.inl ⟨by rfl, ?_⟩) hHeld ?_; rotate_left; (· (intro w9 hSw; (try dsimp only at hSw); go_simp; (try with_reducible rfl))))
                        (try simp only [Act.put, List.setIfInBounds_toArray, List.set_cons_zero, List.set_cons_succ])
                        (refine wpAnyH_ready (rs := [0]) (by kernel_rfl) (by simp) ?_; refine AllReadyH.cons (o := ⟨some 91, _, _, _, _, none⟩) rfl (fun K hK => ?_) AllReadyH.nil; have hOld := hHeld; clear hHeld; go_simp; refine hK.out _ _ ?_ (fun hHeld => ?_); (· ((try dsimp only); exact fun i n hn => keepA _ (hOld i n hn))); clear hK K hOld)
                        (try simp only [Act.put, List.setIfInBounds_toArray, List.set_cons_zero, List.set_cons_succ])
                        (refine wpAnyH_ready (rs := [4]) (by kernel_rfl) (by simp) ?_; refine AllReadyH.cons (o := ⟨some 95, _, _, _, _, none⟩) rfl (fun K hK => ?_) AllReadyH.nil; have hOld := hHeld; clear hHeld; refine wp_ints _ _ rfl w5.heap.size _ [] rfl (by exact lit_own w5.drew) (l.take a) B1 o1 a _ rfl (by rw [List.length_take]; omega) (fun i n hn => hOld i n (by rw [List.getElem?_take] at hn; split at hn <;> simp_all)) (by simp) (by omega) (by simp [go_sem]) (fun v6 w6 h6 hg6 hb6 => ?_); refine hK.out _ _ ?_ (fun hHeld => ?_); (· ((try dsimp only); exact fun i n hn => (hb6.cell (p := ⟨B1, o1 + i, none⟩) hB1W).trans (hOld i n hn))); clear hK K hOld)
                        (try simp only [Act.put, List.setIfInBounds_toArray, List.set_cons_zero, List.set_cons_succ])
                        (refine wpAnyH_ready (rs := [9]) (by kernel_rfl) (by simp) ?_; refine AllReadyH.cons (o := ⟨some 100, _, _, _, _, none⟩) rfl (fun K hK => ?_) AllReadyH.nil; have hOld := hHeld; clear hHeld; go_loud (refine wp_ints _ _ rfl w5.heap.size _ _ rfl (by exact h6) (l.drop (a + 1)) B1 (o1 + (a + 1)) (l.length - (a + 1)) (capl - (a + 1)) (by first | rfl | (simp [go_sem, hc]; done) | (simp [go_sem, hc]; trace_state; done)) (by rw [List.length_drop]) (fun i n hn => by rw [show o1 + (a + 1) + i = o1 + (a + 1 + i) by omega]; exact hOld _ n (by rwa [List.getElem?_drop] at hn)) (by simp; omega) (by omega) (by have := hb6.size; simp [go_sem] at this ⊢; omega) (fun v7 w7 h7 hg7 hb7 => ?_)); refine hK.out _ _ ?_ (fun hHeld => ?_); (· ((try dsimp only); exact fun i n hn => (hb7.cell (p := ⟨B1, o1 + i, none⟩) hB1W).trans (hOld i n hn))); clear hK K hOld)
                        (try simp only [Act.put, List.setIfInBounds_toArray, List.set_cons_zero, List.set_cons_succ])
                        (refine wpAnyH_take (i := 10) (oi := ⟨some 5, _, _, _, _, none⟩) (v := ?_) rfl (by kernel_rfl) (by kernel_rfl) (by kernel_rfl) (fun _ _ _ h => h) (Or.inl ⟨by rfl, ?_⟩) hHeld ?_; rotate_left; (· (intro w9 hSw; (try dsimp only at hSw); go_simp; (try with_reducible rfl))))
                        (try simp only [Act.put, List.setIfInBounds_toArray, List.set_cons_zero, List.set_cons_succ])
                        refine wpAnyH_done (by kernel_rfl) ?_ _
                        rw [List.nil_append] at h7
                        have hb8 : Below w5.heap.size w5 w7 := (show Below w5.heap.size w5 (w5.drew.alloc (.cells #[] 3)) by go_grown).trans (hb6.trans hb7)
                        have hB8 := hB5.trans (hb8.mono hzW)
                        have hout8 := hout5.below hb8
                        clear hb6 hb7 hb8 hg6 hg7 h6 hHeld r5 hout5 hB5
                        go_wp2_with fail
                        have hn7 : (l.take a ++ l.drop (a + 1)).length + 1 = l.length := by rw [List.length_append, List.length_take, List.length_drop]; omega
                        obtain ⟨q7, cap7, e7⟩ := h7.len
                        exact ⟨⟨_, _, w5.heap.size, h7, hout8, hzW, fun k hk => (hoW k hk).2, hnew, by simp only [List.length_append, List.length_cons, List.length_nil] at hn7 hlen ⊢; omega, hB8⟩, by rw [e7]; show (l.take a ++ l.drop (a + 1)).length < l.length; omega⟩
                · have hic : (i : Int) < l.length := by omega
                  have hac : (a : Int) < l.length := by omega
                  obtain ⟨x, hx⟩ := int_some (show i < l.length by omega)
                  obtain ⟨m, hm⟩ := int_some (show a < l.length by omega)
                  obtain ⟨x1, y1, e0, z1 | ⟨B1, o1, z1, r1⟩⟩ := own_ints2 hown
                  · exact absurd z1 c0
                  simp only [Value.slice.injEq] at e0
                  obtain ⟨rfl, _, rfl⟩ := e0
                  subst z1
                  have d0 := r1 i _ hx
                  have d1 := r1 a _ hm
                  by_cases lt : x < m
                  · have hL2 := hid (least_new hL.out hm hx lt)
                    clear r1 hx hm ci hL
                    go_wp2_with fail
                    refine wp_region_held_drew (S := (fun w' => w'.cell? ⟨B1, o1 + i, none⟩ = some (.int .i64 x) ∧ w'.cell? ⟨B1, o1 + a, none⟩ = some (.int .i64 m))) (by kernel_rfl) (by (try dsimp only); (first | (exact ⟨hk1 _ _ _ (hOld.1), hk1 _ _ _ (hOld.2)⟩) | ((try simp only [World.cell?_drew, World.frozen?_drew]); (repeat' apply And.intro) <;> (first | (with_reducible assumption) | (with_reducible exact ⟨_, by assumption⟩) | (with_reducible exact ⟨_, two_other (by assumption) (by omega)⟩) | (with_reducible exact two_0 (by assumption)) | (with_reducible exact two_1 (by assumption)) | (with_reducible exact two_other (by assumption) (by omega)) | (with_reducible exact two_fz (by assumption)) | (with_reducible exact keepA _ (by assumption)) | (with_reducible exact keepA _ (keepA _ (keepA _ (by assumption)))) | (simp (maxDischargeDepth := 8) [*, go_sem, World.cell?_alloc_some, World.cell?_setCell_far]; done))) | (go_keep; done) | (simp (maxDischargeDepth := 8) [*, go_sem, World.cell?_alloc_some, World.cell?_setCell_far]; done))) (fun hHeld => ?_)
                    (refine wpAnyH_take (i := 0) (oi := ⟨some 58, _, _, _, _, none⟩) (v := ?_) rfl (by kernel_rfl) (by kernel_rfl) (by kernel_rfl) (fun _ _ _ h => h) (Or.inl ⟨by rfl, ?_⟩) hHeld ?_; rotate_left; (· (intro w9 hSw; (try dsimp only at hSw); go_simp; (try with_reducible rfl))))
                    (try simp only [Act.put, List.setIfInBounds_toArray, List.set_cons_zero, List.set_cons_succ])
                    (refine wpAnyH_take (i := 1) (oi := ⟨some 59, _, _, _, _, none⟩) (v := ?_) rfl (by kernel_rfl) (by kernel_rfl) (by kernel_rfl) (fun _ _ _ h => h) (Or.inl ⟨by rfl, ?_⟩) hHeld ?_; rotate_left; (· (intro w9 hSw; (try dsimp only at hSw); go_simp; (try with_reducible rfl))))
                    (try simp only [Act.put, List.setIfInBounds_toArray, List.set_cons_zero, List.set_cons_succ])
                    (refine wpAnyH_take (i := 2) (oi := ⟨some 60, _, _, _, _, none⟩) (v := ?_) rfl (by kernel_rfl) (by kernel_rfl) (by kernel_rfl) (fun _ _ _ h => h) (Or.inl ⟨by rfl, ?_⟩) hHeld ?_; rotate_left; (· (intro w9 hSw; (try dsimp only at hSw); go_simp; (try with_reducible rfl))))
                    (try simp only [Act.put, List.setIfInBounds_toArray, List.set_cons_zero, List.set_cons_succ])
                    (refine wpAnyH_take (i := 3) (oi := ⟨some 61, _, _, _, _, none⟩) (v := ?_) rfl (by kernel_rfl) (by kernel_rfl) (by kernel_rfl) (fun _ _ _ h => h) (Or.inl ⟨by rfl, ?_⟩) hHeld ?_; rotate_left; (· (intro w9 hSw; (try dsimp only at hSw); go_simp; (try with_reducible rfl))))
                    (try simp only [Act.put, List.setIfInBounds_toArray, List.set_cons_zero, List.set_cons_succ])
                    (refine wpAnyH_take (i := 4) (oi := ⟨some 62, _, _, _, _, none⟩) (v := ?_) rfl (by kernel_rfl) (by kernel_rfl) (by kernel_rfl) (fun _ _ _ h => h) (Or.inl ⟨by rfl, ?_⟩) hHeld ?_; rotate_left; (· (intro w9 hSw; (try dsimp only at hSw); go_simp; (try with_reducible rfl))))
                    (try simp only [Act.put, List.setIfInBounds_toArray, List.set_cons_zero, List.set_cons_succ])
                    (refine wpAnyH_take (i := 5) (oi := ⟨some 63, _, _, _, _, none⟩) (v := ?_) rfl (by kernel_rfl) (by kernel_rfl) (by kernel_rfl) (fun _ _ _ h => h) (Or.inl ⟨by rfl, ?_⟩) hHeld ?_; rotate_left; (· (intro w9 hSw; (try dsimp only at hSw); go_simp; (try with_reducible rfl))))
                    (try simp only [Act.put, List.setIfInBounds_toArray, List.set_cons_zero, List.set_cons_succ])
                    (refine wpAnyH_take (i := 6) (oi := ⟨some 64, _, _, _, _, none⟩) (v := ?_) rfl (by kernel_rfl) (by kernel_rfl) (by kernel_rfl) (fun _ _ _ h => h) (Or.inl ⟨by rfl, ?_⟩) hHeld ?_; rotate_left; (· (intro w9 hSw; (try dsimp only at hSw); go_simp; (try with_reducible rfl))))
                    (try simp only [Act.put, List.setIfInBounds_toArray, List.set_cons_zero, List.set_cons_succ])
                    (refine wpAnyH_take (i := 7) (oi := ⟨some 65, _, _, _, _, none⟩) (v := ?_) rfl (by kernel_rfl) (by kernel_rfl) (by kernel_rfl) (fun _ _ _ h => h) (Or.inl ⟨by rfl, ?_⟩) hHeld ?_; rotate_left; (· (intro w9 hSw; (try dsimp only at hSw); go_simp; (try with_reducible rfl))))
                    (try simp only [Act.put, List.setIfInBounds_toArray, List.set_cons_zero, List.set_cons_succ])
                    (refine wpAnyH_take (i := 8) (oi := ⟨some 66, _, _, _, _, none⟩) (v := ?_) rfl (by kernel_rfl) (by kernel_rfl) (by kernel_rfl) (fun _ _ _ h => h) (Or.inl ⟨by rfl, ?_⟩) hHeld ?_; rotate_left; (· (intro w9 hSw; (try dsimp only at hSw); go_simp; (try with_reducible rfl))))
                    (try simp only [Act.put, List.setIfInBounds_toArray, List.set_cons_zero, List.set_cons_succ])
                    refine wpAnyH_done (by kernel_rfl) ?_ _
                    go_wp2_with fail
                    exact ⟨⟨i, i + 1, rfl, by simp, by omega, by omega, hL2, hown.drew, hout.drew, by go_grown⟩, by first | (simp [intOf]; done) | (simp [intOf]; omega)⟩
                  · have hL2 := hid (least_old hL.out hm hx lt)
                    clear r1 hx hm ci hL
                    go_wp2_with fail
                    refine wp_region_held_drew (S := (fun w' => w'.cell? ⟨B1, o1 + i, none⟩ = some (.int .i64 x) ∧ w'.cell? ⟨B1, o1 + a, none⟩ = some (.int .i64 m))) (by kernel_rfl) (by (try dsimp only); (first | (exact ⟨hk1 _ _ _ (hOld.1), hk1 _ _ _ (hOld.2)⟩) | ((try simp only [World.cell?_drew, World.frozen?_drew]); (repeat' apply And.intro) <;> (first | (with_reducible assumption) | (with_reducible exact ⟨_, by assumption⟩) | (with_reducible exact ⟨_, two_other (by assumption) (by omega)⟩) | (with_reducible exact two_0 (by assumption)) | (with_reducible exact two_1 (by assumption)) | (with_reducible exact two_other (by assumption) (by omega)) | (with_reducible exact two_fz (by assumption)) | (with_reducible exact keepA _ (by assumption)) | (with_reducible exact keepA _ (keepA _ (keepA _ (by assumption)))) | (simp (maxDischargeDepth := 8) [*, go_sem, World.cell?_alloc_some, World.cell?_setCell_far]; done))) | (go_keep; done) | (simp (maxDischargeDepth := 8) [*, go_sem, World.cell?_alloc_some, World.cell?_setCell_far]; done))) (fun hHeld => ?_)
                    (refine wpAnyH_take (i := 0) (oi := ⟨some 58, _, _, _, _, none⟩) (v := ?_) rfl (by kernel_rfl) (by kernel_rfl) (by kernel_rfl) (fun _ _ _ h => h) (Or.inl ⟨by rfl, ?_⟩) hHeld ?_; rotate_left; (· (intro w9 hSw; (try dsimp only at hSw); go_simp; (try with_reducible rfl))))
                    (try simp only [Act.put, List.setIfInBounds_toArray, List.set_cons_zero, List.set_cons_succ])
                    (refine wpAnyH_take (i := 1) (oi := ⟨some 59, _, _, _, _, none⟩) (v := ?_) rfl (by kernel_rfl) (by kernel_rfl) (by kernel_rfl) (fun _ _ _ h => h) (Or.inl ⟨by rfl, ?_⟩) hHeld ?_; rotate_left; (· (intro w9 hSw; (try dsimp only at hSw); go_simp; (try with_reducible rfl))))
                    (try simp only [Act.put, List.setIfInBounds_toArray, List.set_cons_zero, List.set_cons_succ])
                    (refine wpAnyH_take (i := 2) (oi := ⟨some 60, _, _, _, _, none⟩) (v := ?_) rfl (by kernel_rfl) (by kernel_rfl) (by kernel_rfl) (fun _ _ _ h => h) (Or.inl ⟨by rfl, ?_⟩) hHeld ?_; rotate_left; (· (intro w9 hSw; (try dsimp only at hSw); go_simp; (try with_reducible rfl))))
                    (try simp only [Act.put, List.setIfInBounds_toArray, List.set_cons_zero, List.set_cons_succ])
                    (refine wpAnyH_take (i := 3) (oi := ⟨some 61, _, _, _, _, none⟩) (v := ?_) rfl (by kernel_rfl) (by kernel_rfl) (by kernel_rfl) (fun _ _ _ h => h) (Or.inl ⟨by rfl, ?_⟩) hHeld ?_; rotate_left; (· (intro w9 hSw; (try dsimp only at hSw); go_simp; (try with_reducible rfl))))
                    (try simp only [Act.put, List.setIfInBounds_toArray, List.set_cons_zero, List.set_cons_succ])
                    (refine wpAnyH_take (i := 4) (oi := ⟨some 62, _, _, _, _, none⟩) (v := ?_) rfl (by kernel_rfl) (by kernel_rfl) (by kernel_rfl) (fun _ _ _ h => h) (Or.inl ⟨by rfl, ?_⟩) hHeld ?_; rotate_left; (· (intro w9 hSw; (try dsimp only at hSw); go_simp; (try with_reducible rfl))))
                    (try simp only [Act.put, List.setIfInBounds_toArray, List.set_cons_zero, List.set_cons_succ])
                    (refine wpAnyH_take (i := 5) (oi := ⟨some 63, _, _, _, _, none⟩) (v := ?_) rfl (by kernel_rfl) (by kernel_rfl) (by kernel_rfl) (fun _ _ _ h => h) (Or.inl ⟨by rfl, ?_⟩) hHeld ?_; rotate_left; (· (intro w9 hSw; (try dsimp only at hSw); go_simp; (try with_reducible rfl))))
                    (try simp only [Act.put, List.setIfInBounds_toArray, List.set_cons_zero, List.set_cons_succ])
                    (refine wpAnyH_take (i := 6) (oi := ⟨some 64, _, _, _, _, none⟩) (v := ?_) rfl (by kernel_rfl) (by kernel_rfl) (by kernel_rfl) (fun _ _ _ h => h) (Or.inl ⟨by rfl, ?_⟩) hHeld ?_; rotate_left; (· (intro w9 hSw; (try dsimp only at hSw); go_simp; (try with_reducible rfl))))
                    (try simp only [Act.put, List.setIfInBounds_toArray, List.set_cons_zero, List.set_cons_succ])
                    (refine wpAnyH_take (i := 7) (oi := ⟨some 65, _, _, _, _, none⟩) (v := ?_) rfl (by kernel_rfl) (by kernel_rfl) (by kernel_rfl) (fun _ _ _ h => h) (Or.inl ⟨by rfl, ?_⟩) hHeld ?_; rotate_left; (· (intro w9 hSw; (try dsimp only at hSw); go_simp; (try with_reducible rfl))))
                    (try simp only [Act.put, List.setIfInBounds_toArray, List.set_cons_zero, List.set_cons_succ])
                    (refine wpAnyH_take (i := 8) (oi := ⟨some 66, _, _, _, _, none⟩) (v := ?_) rfl (by kernel_rfl) (by kernel_rfl) (by kernel_rfl) (fun _ _ _ h => h) (Or.inl ⟨by rfl, ?_⟩) hHeld ?_; rotate_left; (· (intro w9 hSw; (try dsimp only at hSw); go_simp; (try with_reducible rfl))))
                    (try simp only [Act.put, List.setIfInBounds_toArray, List.set_cons_zero, List.set_cons_succ])
                    refine wpAnyH_done (by kernel_rfl) ?_ _
                    go_wp2_with fail
                    exact ⟨⟨a, i + 1, rfl, by simp, by omega, by omega, hL2, hown.drew, hout.drew, by go_grown⟩, by first | (simp [intOf]; done) | (simp [intOf]; omega)⟩
        · obtain ⟨⟨F, T⟩, hp⟩ := slot_some (show k < lb.length by omega)
          obtain ⟨x1, y1, e0, z1 | ⟨B1, o1, z1, r1⟩⟩   := h2x
          · rw [z1] at hk c; simp at hk; simp at c; omega
          simp only [Value.slice.injEq] at e0
          obtain ⟨rfl, _, rfl⟩ := e0
          subst z1
          obtain ⟨d0, d1⟩ := r1 k _ hp
          dsimp only at d0 d1
          have hkc : (k : Int) < lb.length := by omega
          have hlen : (endsL la ++ endsL (lb.take k)).length < 1000000 := by rw [List.length_append, ends_len, ends_len, List.length_take]; omega
          have e2 := hid (show endsL la ++ endsL (lb.take (k + 1)) = (endsL la ++ endsL (lb.take k)) ++ [F, T] by rw [ends_take hp, List.append_assoc])
          have hB1 : B1 < w.heap.size := slots_block hu (by omega)
          replace hv := hid hv
          replace hu := hid hu
          clear r1 hp c ha hb
          go_wp2_with fail
          refine wp_region_held_drew (S := (fun w' => w'.cell? ⟨B1, o1 + k * 2, none⟩ = some (.int .i64 F) ∧ w'.cell? ⟨B1, o1 + k * 2 + 1, none⟩ = some (.int .i64 T))) (by kernel_rfl) (by (try dsimp only); (first | (exact ⟨hk1 _ _ _ (hOld.1), hk1 _ _ _ (hOld.2)⟩) | ((try simp only [World.cell?_drew, World.frozen?_drew]); (repeat' apply And.intro) <;> (first | (with_reducible assumption) | (with_reducible exact ⟨_, by assumption⟩) | (with_reducible exact ⟨_, two_other (by assumption) (by omega)⟩) | (with_reducible exact two_0 (by assumption)) | (with_reducible exact two_1 (by assumption)) | (with_reducible exact two_other (by assumption) (by omega)) | (with_reducible exact two_fz (by assumption)) | (with_reducible exact keepA _ (by assumption)) | (with_reducible exact keepA _ (keepA _ (keepA _ (by assumption)))) | (simp (maxDischargeDepth := 8) [*, go_sem, World.cell?_alloc_some, World.cell?_setCell_far]; done))) | (go_keep; done) | (simp (maxDischargeDepth := 8) [*, go_sem, World.cell?_alloc_some, World.cell?_setCell_far]; done))) (fun hHeld => ?_)
          (refine wpAnyH_take (i := 0) (oi := ⟨some 36, _, _, _, _, none⟩) (v := ?_) rfl (by kernel_rfl) (by kernel_rfl) (by kernel_rfl) (fun _ _ _ h => h) (Or.inl ⟨by rfl, ?_⟩) hHeld ?_; rotate_left; (· (intro w9 hSw; (try dsimp only at hSw); go_simp; (try with_reducible rfl))))
          (try simp only [Act.put, List.setIfInBounds_toArray, List.set_cons_zero, List.set_cons_succ])
          (refine wpAnyH_take (i := 1) (oi := ⟨some 37, _, _, _, _, none⟩) (v := ?_) rfl (by kernel_rfl) (by kernel_rfl) (by kernel_rfl) (fun _ _ _ h => h) (Or.inl ⟨by rfl, ?_⟩) hHeld ?_; rotate_left; (· (intro w9 hSw; (try dsimp only at hSw); go_simp; (try with_reducible rfl))))
          (try simp only [Act.put, List.setIfInBounds_toArray, List.set_cons_zero, List.set_cons_succ])
          (refine wpAnyH_take (i := 2) (oi := ⟨some 38, _, _, _, _, none⟩) (v := ?_) rfl (by kernel_rfl) (by kernel_rfl) (by kernel_rfl) (fun _ _ _ h => h) (Or.inl ⟨by rfl, ?_⟩) hHeld ?_; rotate_left; (· (intro w9 hSw; (try dsimp only at hSw); go_simp; (try with_reducible rfl))))
          (try simp only [Act.put, List.setIfInBounds_toArray, List.set_cons_zero, List.set_cons_succ])
          (refine wpAnyH_take (i := 3) (oi := ⟨some 39, _, _, _, _, none⟩) (v := ?_) rfl (by kernel_rfl) (by kernel_rfl) (by kernel_rfl) (fun _ _ _ h => h) (Or.inl ⟨by rfl, ?_⟩) hHeld ?_; rotate_left; (· (intro w9 hSw; (try dsimp only at hSw); go_simp; (try with_reducible rfl))))
          (try simp only [Act.put, List.setIfInBounds_toArray, List.set_cons_zero, List.set_cons_succ])
          (refine wpAnyH_take (i := 4) (oi := ⟨some 40, _, _, _, _, none⟩) (v := ?_) rfl (by kernel_rfl) (by kernel_rfl) (by kernel_rfl) (fun _ _ _ h => h) (Or.inl ⟨by rfl, ?_⟩) hHeld ?_; rotate_left; (· (intro w9 hSw; (try dsimp only at hSw); go_simp; (try with_reducible rfl))))
          (try simp only [Act.put, List.setIfInBounds_toArray, List.set_cons_zero, List.set_cons_succ])
          (refine wpAnyH_take (i := 5) (oi := ⟨some 41, _, _, _, _, none⟩) (v := ?_) rfl (by kernel_rfl) (by kernel_rfl) (by kernel_rfl) (fun _ _ _ h => h) (Or.inl ⟨by rfl, ?_⟩) hHeld ?_; rotate_left; (· (intro w9 hSw; (try dsimp only at hSw); go_simp; (try with_reducible rfl))))
          (try simp only [Act.put, List.setIfInBounds_toArray, List.set_cons_zero, List.set_cons_succ])
          (refine wpAnyH_take (i := 6) (oi := ⟨some 42, _, _, _, _, none⟩) (v := ?_) rfl (by kernel_rfl) (by kernel_rfl) (by kernel_rfl) (fun _ _ _ h => h) (Or.inl ⟨by rfl, ?_⟩) hHeld ?_; rotate_left; (· (intro w9 hSw; (try dsimp only at hSw); go_simp; (try with_reducible rfl))))
          (try simp only [Act.put, List.setIfInBounds_toArray, List.set_cons_zero, List.set_cons_succ])
          (refine wpAnyH_take (i := 7) (oi := ⟨some 43, _, _, _, _, none⟩) (v := ?_) rfl (by kernel_rfl) (by kernel_rfl) (by kernel_rfl) (fun _ _ _ h => h) (Or.inl ⟨by rfl, ?_⟩) hHeld ?_; rotate_left; (· (intro w9 hSw; (try dsimp only at hSw); go_simp; (try with_reducible rfl))))
          (try simp only [Act.put, List.setIfInBounds_toArray, List.set_cons_zero, List.set_cons_succ])
          (refine wpAnyH_take (i := 8) (oi := ⟨some 44, _, _, _, _, none⟩) (v := ?_) rfl (by kernel_rfl) (by kernel_rfl) (by kernel_rfl) (fun _ _ _ h => h) (Or.inl ⟨by rfl, ?_⟩) hHeld ?_; rotate_left; (· (intro w9 hSw; (try dsimp only at hSw); go_simp; (try with_reducible rfl))))
          (try simp only [Act.put, List.setIfInBounds_toArray, List.set_cons_zero, List.set_cons_succ])
          (refine wpAnyH_take (i := 9) (oi := ⟨some 45, _, _, _, _, none⟩) (v := ?_) rfl (by kernel_rfl) (by kernel_rfl) (by kernel_rfl) (fun _ _ _ h => h) (Or.inl ⟨by rfl, ?_⟩) hHeld ?_; rotate_left; (· (intro w9 hSw; (try dsimp only at hSw); go_simp; (try with_reducible rfl))))
          (try simp only [Act.put, List.setIfInBounds_toArray, List.set_cons_zero, List.set_cons_succ])
          (refine wpAnyH_take (i := 10) (oi := ⟨some 46, _, _, _, _, none⟩) (v := ?_) rfl (by kernel_rfl) (by kernel_rfl) (by kernel_rfl) (fun _ _ _ h => h) (Or.inl ⟨by rfl, ?_⟩) hHeld ?_; rotate_left; (· (intro w9 hSw; (try dsimp only at hSw); go_simp; (try with_reducible rfl))))
          (try simp only [Act.put, List.setIfInBounds_toArray, List.set_cons_zero, List.set_cons_succ])
          (refine wpAnyH_ready (rs := [11]) (by kernel_rfl) (by simp) ?_; refine AllReadyH.cons (o := ⟨some 47, _, _, _, _, none⟩) rfl (fun K hK => ?_) AllReadyH.nil; have hOld := hHeld; clear hHeld; go_simp; refine hK.out _ _ ?_ (fun hHeld => ?_); (· ((try dsimp only); exact ⟨keepA _ (hOld.1), keepA _ (hOld.2)⟩)); clear hK K hOld)
          (try simp only [Act.put, List.setIfInBounds_toArray, List.set_cons_zero, List.set_cons_succ])
          (refine wpAnyH_ready (rs := [12]) (by kernel_rfl) (by simp) ?_; refine AllReadyH.cons (o := ⟨some 48, _, _, _, _, none⟩) rfl (fun K hK => ?_) AllReadyH.nil; have hOld := hHeld; clear hHeld; refine wp_ints _ _ rfl w.heap.size _ _ rfl ((hown.drew).alloc _) [F, T] wr.heap.size 0 2 2 rfl rfl (two_cells (by simp [go_sem]) (by simp [go_sem])) hlen (by decide) (by simp [go_sem]; omega) (fun v6 w6 h6 hg6 hb6 => ?_) ; refine hK.out _ _ ?_ (fun hHeld => ?_); (· ((try dsimp only);  exact ⟨(hb6.cell (p := ⟨B1, o1 + k * 2, none⟩) hB1).trans hOld.1, (hb6.cell (p := ⟨B1, o1 + k * 2 + 1, none⟩) hB1).trans hOld.2⟩)); clear hK K hOld)
          (try simp only [Act.put, List.setIfInBounds_toArray, List.set_cons_zero, List.set_cons_succ])
          (refine wpAnyH_take (i := 13) (oi := ⟨some 5, _, _, _, _, none⟩) (v := ?_) rfl (by kernel_rfl) (by kernel_rfl) (by kernel_rfl) (fun _ _ _ h => h) (Or.inl ⟨by rfl, ?_⟩) hHeld ?_; rotate_left; (· (intro w9 hSw; (try dsimp only at hSw); go_simp; (try with_reducible rfl))))
          (try simp only [Act.put, List.setIfInBounds_toArray, List.set_cons_zero, List.set_cons_succ])
          refine wpAnyH_done (by kernel_rfl) ?_ _
          rw [← e2.out] at h6
          have hB6 : Below w.heap.size w w6 := hB.trans ((show Below w.heap.size wr (wr.drew.alloc (.cells #[.int .i64 F, .int .i64 T] 3)) by go_grown).trans hb6)
          clear hb6 hg6 hown hHeld
          go_wp2_with fail
          exact ⟨⟨k + 1, by simp, by omega, h6, hB6⟩, by first | (simp [intOf]; done) | (simp [intOf]; omega)⟩
    · obtain ⟨⟨F, T⟩, hp⟩ := slot_some (show k < la.length by omega)
      obtain ⟨x1, y1, e0, z1 | ⟨B1, o1, z1, r1⟩⟩ := h1
      · rw [z1] at hk c; simp at hk; simp at c; omega
      simp only [Value.slice.injEq] at e0
      obtain ⟨rfl, _, rfl⟩ := e0
      subst z1
      obtain ⟨d0, d1⟩ := r1 k _ hp
      dsimp only at d0 d1
      have hkc : (k : Int) < la.length := by omega
      have hlen : (endsL (la.take k)).length < 1000000 := by rw [ends_len, List.length_take]; omega
      have e2 := hid (ends_take hp)
      have hB1 : B1 < w.heap.size := slots_block hv (by omega)
      replace hv := hid hv
      replace hu := hid hu
      clear r1 hp c ha hb
      go_wp2_with fail
      refine wp_region_held_drew (S := (fun w' => w'.cell? ⟨B1, o1 + k * 2, none⟩ = some (.int .i64 F) ∧ w'.cell? ⟨B1, o1 + k * 2 + 1, none⟩ = some (.int .i64 T))) (by kernel_rfl) (by (try dsimp only); (first | (exact ⟨hk1 _ _ _ (hOld.1), hk1 _ _ _ (hOld.2)⟩) | ((try simp only [World.cell?_drew, World.frozen?_drew]); (repeat' apply And.intro) <;> (first | (with_reducible assumption) | (with_reducible exact ⟨_, by assumption⟩) | (with_reducible exact ⟨_, two_other (by assumption) (by omega)⟩) | (with_reducible exact two_0 (by assumption)) | (with_reducible exact two_1 (by assumption)) | (with_reducible exact two_other (by assumption) (by omega)) | (with_reducible exact two_fz (by assumption)) | (with_reducible exact keepA _ (by assumption)) | (with_reducible exact keepA _ (keepA _ (keepA _ (by assumption)))) | (simp (maxDischargeDepth := 8) [*, go_sem, World.cell?_alloc_some, World.cell?_setCell_far]; done))) | (go_keep; done) | (simp (maxDischargeDepth := 8) [*, go_sem, World.cell?_alloc_some, World.cell?_setCell_far]; done))) (fun hHeld => ?_)
      (refine wpAnyH_take (i := 0) (oi := ⟨some 17, _, _, _, _, none⟩) (v := ?_) rfl (by kernel_rfl) (by kernel_rfl) (by kernel_rfl) (fun _ _ _ h => h) (Or.inl ⟨by rfl, ?_⟩) hHeld ?_; rotate_left; (· (intro w9 hSw; (try dsimp only at hSw); go_simp; (try with_reducible rfl))))
      (try simp only [Act.put, List.setIfInBounds_toArray, List.set_cons_zero, List.set_cons_succ])
      (refine wpAnyH_take (i := 1) (oi := ⟨some 18, _, _, _, _, none⟩) (v := ?_) rfl (by kernel_rfl) (by kernel_rfl) (by kernel_rfl) (fun _ _ _ h => h) (Or.inl ⟨by rfl, ?_⟩) hHeld ?_; rotate_left; (· (intro w9 hSw; (try dsimp only at hSw); go_simp; (try with_reducible rfl))))
      (try simp only [Act.put, List.setIfInBounds_toArray, List.set_cons_zero, List.set_cons_succ])
      (refine wpAnyH_take (i := 2) (oi := ⟨some 19, _, _, _, _, none⟩) (v := ?_) rfl (by kernel_rfl) (by kernel_rfl) (by kernel_rfl) (fun _ _ _ h => h) (Or.inl ⟨by rfl, ?_⟩) hHeld ?_; rotate_left; (· (intro w9 hSw; (try dsimp only at hSw); go_simp; (try with_reducible rfl))))
      (try simp only [Act.put, List.setIfInBounds_toArray, List.set_cons_zero, List.set_cons_succ])
      (refine wpAnyH_take (i := 3) (oi := ⟨some 20, _, _, _, _, none⟩) (v := ?_) rfl (by kernel_rfl) (by kernel_rfl) (by kernel_rfl) (fun _ _ _ h => h) (Or.inl ⟨by rfl, ?_⟩) hHeld ?_; rotate_left; (· (intro w9 hSw; (try dsimp only at hSw); go_simp; (try with_reducible rfl))))
      (try simp only [Act.put, List.setIfInBounds_toArray, List.set_cons_zero, List.set_cons_succ])
      (refine wpAnyH_take (i := 4) (oi := ⟨some 21, _, _, _, _, none⟩) (v := ?_) rfl (by kernel_rfl) (by kernel_rfl) (by kernel_rfl) (fun _ _ _ h => h) (Or.inl ⟨by rfl, ?_⟩) hHeld ?_; rotate_left; (· (intro w9 hSw; (try dsimp only at hSw); go_simp; (try with_reducible rfl))))
      (try simp only [Act.put, List.setIfInBounds_toArray, List.set_cons_zero, List.set_cons_succ])
      (refine wpAnyH_take (i := 5) (oi := ⟨some 22, _, _, _, _, none⟩) (v := ?_) rfl (by kernel_rfl) (by kernel_rfl) (by kernel_rfl) (fun _ _ _ h => h) (Or.inl ⟨by rfl, ?_⟩) hHeld ?_; rotate_left; (· (intro w9 hSw; (try dsimp only at hSw); go_simp; (try with_reducible rfl))))
      (try simp only [Act.put, List.setIfInBounds_toArray, List.set_cons_zero, List.set_cons_succ])
      (refine wpAnyH_take (i := 6) (oi := ⟨some 23, _, _, _, _, none⟩) (v := ?_) rfl (by kernel_rfl) (by kernel_rfl) (by kernel_rfl) (fun _ _ _ h => h) (Or.inl ⟨by rfl, ?_⟩) hHeld ?_; rotate_left; (· (intro w9 hSw; (try dsimp only at hSw); go_simp; (try with_reducible rfl))))
      (try simp only [Act.put, List.setIfInBounds_toArray, List.set_cons_zero, List.set_cons_succ])
      (refine wpAnyH_take (i := 7) (oi := ⟨some 24, _, _, _, _, none⟩) (v := ?_) rfl (by kernel_rfl) (by kernel_rfl) (by kernel_rfl) (fun _ _ _ h => h) (Or.inl ⟨by rfl, ?_⟩) hHeld ?_; rotate_left; (· (intro w9 hSw; (try dsimp only at hSw); go_simp; (try with_reducible rfl))))
      (try simp only [Act.put, List.setIfInBounds_toArray, List.set_cons_zero, List.set_cons_succ])
      (refine wpAnyH_take (i := 8) (oi := ⟨some 25, _, _, _, _, none⟩) (v := ?_) rfl (by kernel_rfl) (by kernel_rfl) (by kernel_rfl) (fun _ _ _ h => h) (Or.inl ⟨by rfl, ?_⟩) hHeld ?_; rotate_left; (· (intro w9 hSw; (try dsimp only at hSw); go_simp; (try with_reducible rfl))))
      (try simp only [Act.put, List.setIfInBounds_toArray, List.set_cons_zero, List.set_cons_succ])
      (refine wpAnyH_take (i := 9) (oi := ⟨some 26, _, _, _, _, none⟩) (v := ?_) rfl (by kernel_rfl) (by kernel_rfl) (by kernel_rfl) (fun _ _ _ h => h) (Or.inl ⟨by rfl, ?_⟩) hHeld ?_; rotate_left; (· (intro w9 hSw; (try dsimp only at hSw); go_simp; (try with_reducible rfl))))
      (try simp only [Act.put, List.setIfInBounds_toArray, List.set_cons_zero, List.set_cons_succ])
      (refine wpAnyH_take (i := 10) (oi := ⟨some 27, _, _, _, _, none⟩) (v := ?_) rfl (by kernel_rfl) (by kernel_rfl) (by kernel_rfl) (fun _ _ _ h => h) (Or.inl ⟨by rfl, ?_⟩) hHeld ?_; rotate_left; (· (intro w9 hSw; (try dsimp only at hSw); go_simp; (try with_reducible rfl))))
      (try simp only [Act.put, List.setIfInBounds_toArray, List.set_cons_zero, List.set_cons_succ])
      (refine wpAnyH_ready (rs := [11]) (by kernel_rfl) (by simp) ?_; refine AllReadyH.cons (o := ⟨some 28, _, _, _, _, none⟩) rfl (fun K hK => ?_) AllReadyH.nil; have hOld := hHeld; clear hHeld; go_simp; refine hK.out _ _ ?_ (fun hHeld => ?_); (· ((try dsimp only); exact ⟨keepA _ (hOld.1), keepA _ (hOld.2)⟩)); clear hK K hOld)
      (try simp only [Act.put, List.setIfInBounds_toArray, List.set_cons_zero, List.set_cons_succ])
      (refine wpAnyH_ready (rs := [12]) (by kernel_rfl) (by simp) ?_; refine AllReadyH.cons (o := ⟨some 29, _, _, _, _, none⟩) rfl (fun K hK => ?_) AllReadyH.nil; have hOld := hHeld; clear hHeld; refine wp_ints _ _ rfl w.heap.size _ _ rfl ((hown.drew).alloc _) [F, T] wr.heap.size 0 2 2 rfl rfl (two_cells (by simp [go_sem]) (by simp [go_sem])) hlen (by decide) (by simp [go_sem]; omega) (fun v6 w6 h6 hg6 hb6 => ?_) ; refine hK.out _ _ ?_ (fun hHeld => ?_); (· ((try dsimp only);  exact ⟨(hb6.cell (p := ⟨B1, o1 + k * 2, none⟩) hB1).trans hOld.1, (hb6.cell (p := ⟨B1, o1 + k * 2 + 1, none⟩) hB1).trans hOld.2⟩)); clear hK K hOld)
      (try simp only [Act.put, List.setIfInBounds_toArray, List.set_cons_zero, List.set_cons_succ])
      (refine wpAnyH_take (i := 13) (oi := ⟨some 5, _, _, _, _, none⟩) (v := ?_) rfl (by kernel_rfl) (by kernel_rfl) (by kernel_rfl) (fun _ _ _ h => h) (Or.inl ⟨by rfl, ?_⟩) hHeld ?_; rotate_left; (· (intro w9 hSw; (try dsimp only at hSw); go_simp; (try with_reducible rfl))))
      (try simp only [Act.put, List.setIfInBounds_toArray, List.set_cons_zero, List.set_cons_succ])
      refine wpAnyH_done (by kernel_rfl) ?_ _
      rw [← e2.out] at h6
      have hB6 : Below w.heap.size w w6 := hB.trans ((show Below w.heap.size wr (wr.drew.alloc (.cells #[.int .i64 F, .int .i64 T] 3)) by go_grown).trans hb6)
      clear hb6 hg6 hown hHeld
      go_wp2_with fail
      exact ⟨⟨k + 1, by simp, by omega, h6, hB6⟩, by first | (simp [intOf]; done) | (simp [intOf]; omega)⟩
end Go.Proofs.Ytlpbkifiidlllaa
