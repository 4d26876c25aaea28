/- Lists of spans: their cells; what sums, sums of products and roots of sums of squares are. -/
import Derived.Test.YtjleflfncijnpaaRows
import Derived.Test.YtjleflfncijnpaaBase
import Derived.Test.YtjleflfncijnpaaFacts
import Derived.Test.YtjleflfncijnpaaTwo
import Derived.Deep.RegionHeld3
import Derived.Deep.RegionWith
import Derived.Deep.QuietTactic
import Derived.BigQuiet
import Derived.Test.YtjleflfncijnpaaW
import Derived.Test.YtjleflfncijnpaaAsks
import Derived.Test.YtjleflfncijnpaaOut
import Derived.Test.YtjleflfncijnpaaSeq
import Derived.Test.YtjleflfncijnpaaTwo
import Derived.Test.YtjleflfncijnpaaQuo
import Derived.Test.YtjleflfncijnpaaRound
import Derived.Test.YtjleflfncijnpaaScaleM
import Derived.Test.YtjleflfncijnpaaMul
import Derived.Test.YtjleflfncijnpaaRootM
import Derived.Test.YtjleflfncijnpaaRootT
set_option linter.unusedVariables false
set_option linter.unusedSimpArgs false
set_option maxHeartbeats 4000000
set_option maxRecDepth 100000
namespace Go.Proofs.Ytjleflfncijnpaa
open Go Go.RowKit
/-- The cells of a list of spans. -/
def Spans (B o : Nat) (l : List (Int × Int)) (w : World) : Prop := ∀ (i : Nat) (p : Int × Int), l[i]? = some p →
  w.cell? ⟨B, o + i * 2, none⟩ = some (.int .i64 p.1) ∧ w.cell? ⟨B, o + i * 2 + 1, none⟩ = some (.int .i64 p.2)
theorem Spans.keep {B o : Nat} {l : List (Int × Int)} {w w1 : World} (h : Spans B o l w) (hk : ∀ b o v, w.cell? ⟨b, o, none⟩ = some v → w1.cell? ⟨b, o, none⟩ = some v) : Spans B o l w1 :=
  fun i p hp => let ⟨h0, h1⟩ := h i p hp; ⟨hk _ _ _ h0, hk _ _ _ h1⟩
theorem Spans.alloc {B o : Nat} {l : List (Int × Int)} {w : World} (h : Spans B o l w) (x : Obj) : Spans B o l (w.alloc x) :=
  fun i p hp => let ⟨h0, h1⟩ := h i p hp; ⟨keepA _ h0, keepA _ h1⟩
theorem Spans.drew {B o : Nat} {l : List (Int × Int)} {w : World} (h : Spans B o l w) : Spans B o l w.drew :=
  fun i p hp => let ⟨h0, h1⟩ := h i p hp; ⟨by rw [World.cell?_drew]; exact h0, by rw [World.cell?_drew]; exact h1⟩
theorem Spans.two {B o b : Nat} {l : List (Int × Int)} {w : World} {x y : Value} (h : Spans B o l w) (hne : b ≠ B) : Spans B o l ((w.setCell ⟨b, 0, none⟩ x).setCell ⟨b, 1, none⟩ y) :=
  fun i p hp => let ⟨h0, h1⟩ := h i p hp; ⟨two_other h0 hne, two_other h1 hne⟩
theorem Spans.lt {B o : Nat} {l : List (Int × Int)} {w : World} (h : Spans B o l w) {p : Int × Int} {i : Nat} (hp : l[i]? = some p) : B < w.heap.size :=
  World.block_lt_of_cell? w ⟨B, _, none⟩ (h i p hp).1
theorem Spans.below {B o n : Nat} {l : List (Int × Int)} {w w1 : World} (h : Spans B o l w) (hb : Below n w w1) (hn : B < n) : Spans B o l w1 :=
  fun i p hp => let ⟨h0, h1⟩ := h i p hp; ⟨(hb.cell (p := ⟨B, _, none⟩) hn).trans h0, (hb.cell (p := ⟨B, _, none⟩) hn).trans h1⟩
/-- A slice's value and its spans. -/
def SLp (q : Option Addr) (l : List (Int × Int)) (w : World) : Prop := l = [] ∨ ∃ B o, q = some ⟨B, o, none⟩ ∧ Spans B o l w
theorem SLp.keep {q : Option Addr} {l : List (Int × Int)} {w w1 : World} (h : SLp q l w) (hk : ∀ b o v, w.cell? ⟨b, o, none⟩ = some v → w1.cell? ⟨b, o, none⟩ = some v) : SLp q l w1 := by
  rcases h with h | ⟨B, o, e, hs⟩
  · exact .inl h
  · exact .inr ⟨B, o, e, hs.keep hk⟩
theorem SLp.alloc {q : Option Addr} {l : List (Int × Int)} {w : World} (h : SLp q l w) (x : Obj) : SLp q l (w.alloc x) := h.keep fun _ _ _ h => keepA _ h
theorem span_some {l : List (Int × Int)} {k : Nat} (h : k < l.length) : ∃ p, l[k]? = some p := ⟨l[k], List.getElem?_eq_getElem h⟩
/-- Are the first k valid? -/
def goodL (l : List (Int × Int)) : Nat → Bool
  | 0 => true
  | k + 1 => goodL l k && (match l[k]? with | some p => decide (chk p.1 p.2 = 0) | none => false)
theorem goodL_step {l : List (Int × Int)} {k : Nat} {p : Int × Int} (hp : l[k]? = some p) : goodL l (k + 1) = (goodL l k && decide (chk p.1 p.2 = 0)) := by
  show (goodL l k && (match l[k]? with | some p => decide (chk p.1 p.2 = 0) | none => false)) = _
  rw [hp]
theorem goodL_le {l : List (Int × Int)} {k : Nat} : ∀ {n : Nat}, goodL l n = true → k ≤ n → goodL l k = true
  | 0, h, hk => by rw [Nat.le_zero.1 hk]; exact h
  | n + 1, h, hk => by
    by_cases e : k = n + 1
    · rw [e]; exact h
    · simp only [goodL, Bool.and_eq_true] at h
      exact goodL_le h.1 (by omega)
theorem goodL_bad {l : List (Int × Int)} {k n : Nat} {p : Int × Int} (hp : l[k]? = some p) (hk : k < n) (h : chk p.1 p.2 ≠ 0) : goodL l n = false := by
  cases e : goodL l n
  · rfl
  · have := goodL_le e (show k + 1 ≤ n by omega)
    rw [goodL_step hp, decide_eq_false h, Bool.and_false] at this
    cases this
theorem goodL_at {l : List (Int × Int)} {k n : Nat} {p : Int × Int} (h : goodL l n = true) (hp : l[k]? = some p) (hk : k < n) : chk p.1 p.2 = 0 := by
  have := goodL_le h (show k + 1 ≤ n by omega)
  rw [goodL_step hp] at this
  simpa using (Bool.and_eq_true_iff.1 this).2
/-- What is wrong with a list. -/
def listE (l : List (Int × Int)) : Int := if 64 < l.length then 3 else if goodL l l.length = true then 0 else 2
theorem listE_long {l : List (Int × Int)} (h : 64 < l.length) : listE l = 3 := if_pos h
theorem listE_good {l : List (Int × Int)} (h : ¬ 64 < l.length) (g : goodL l l.length = true) : listE l = 0 := by unfold listE; rw [if_neg h, if_pos g]
theorem listE_bad {l : List (Int × Int)} (h : ¬ 64 < l.length) (g : goodL l l.length = false) : listE l = 2 := by unfold listE; rw [if_neg h, if_neg (by rw [g]; simp)]
/-- One item more, up to the first error. -/
def stepL {α : Type} (tk : Int × Int → α → Int × Int × Int) (s : Int × Int × Int) (x : α) : Int × Int × Int :=
  if s.2.2 = 0 then (if (tk (s.1, s.2.1) x).2.2 = 0 then tk (s.1, s.2.1) x else (0, 0, (tk (s.1, s.2.1) x).2.2)) else s
def runL {α : Type} (tk : Int × Int → α → Int × Int × Int) (l : List α) : Int × Int × Int := l.foldl (stepL tk) (0, 0, 0)
theorem runL_snoc {α : Type} (tk : Int × Int → α → Int × Int × Int) (l : List α) (x : α) : runL tk (l ++ [x]) = stepL tk (runL tk l) x := by
  unfold runL; rw [List.foldl_append]; rfl
theorem runL_succ {α : Type} (tk : Int × Int → α → Int × Int × Int) {l : List α} {k : Nat} {x : α} (h : l[k]? = some x) : runL tk (l.take (k + 1)) = stepL tk (runL tk (l.take k)) x := by
  have hk : k < l.length := (List.getElem?_eq_some_iff.1 h).1
  have hv : l[k] = x := by have := List.getElem?_eq_getElem hk; rw [h] at this; exact (Option.some.inj this).symm
  rw [List.take_succ_eq_append_getElem hk, hv, runL_snoc]
theorem step_err {α : Type} {tk : Int × Int → α → Int × Int × Int} {s : Int × Int × Int} {x : α} (h : s.2.2 ≠ 0) : stepL tk s x = s := if_neg h
theorem step_ok {α : Type} {tk : Int × Int → α → Int × Int × Int} {s : Int × Int × Int} {x : α} (h : s.2.2 = 0) (g : (tk (s.1, s.2.1) x).2.2 = 0) : stepL tk s x = tk (s.1, s.2.1) x := by unfold stepL; rw [if_pos h, if_pos g]
theorem step_bad {α : Type} {tk : Int × Int → α → Int × Int × Int} {s : Int × Int × Int} {x : α} (h : s.2.2 = 0) (g : (tk (s.1, s.2.1) x).2.2 ≠ 0) : stepL tk s x = (0, 0, (tk (s.1, s.2.1) x).2.2) := by unfold stepL; rw [if_pos h, if_neg g]
theorem run_err {α : Type} (tk : Int × Int → α → Int × Int × Int) : ∀ (l : List α) (s : Int × Int × Int), s.2.2 ≠ 0 → l.foldl (stepL tk) s = s
  | [], s, _ => rfl
  | x :: l, s, h => by
    show l.foldl (stepL tk) (stepL tk s x) = s
    rw [step_err h]; exact run_err tk l s h
theorem run_pre {α : Type} (tk : Int × Int → α → Int × Int × Int) {p l : List α} (h : p <+: l) (he : (runL tk p).2.2 ≠ 0) : runL tk l = runL tk p := by
  obtain ⟨t, rfl⟩ := h
  show (p ++ t).foldl (stepL tk) (0, 0, 0) = runL tk p
  rw [List.foldl_append]
  exact run_err tk t _ he
theorem run_take {α : Type} (tk : Int × Int → α → Int × Int × Int) {l : List α} {k : Nat} (he : (runL tk (l.take k)).2.2 ≠ 0) : runL tk l = runL tk (l.take k) := run_pre tk (List.take_prefix k l) he
theorem fold_zero {α : Type} (tk : Int × Int → α → Int × Int × Int) : ∀ (l : List α) (s : Int × Int × Int), (s.2.2 ≠ 0 → s.1 = 0 ∧ s.2.1 = 0) → (l.foldl (stepL tk) s).2.2 ≠ 0 → (l.foldl (stepL tk) s).1 = 0 ∧ (l.foldl (stepL tk) s).2.1 = 0
  | [], s, h => h
  | x :: l, s, h => fold_zero tk l (stepL tk s x) (by
    unfold stepL; split
    · split
      · rename_i h1 h2; exact fun h3 => absurd h2 h3
      · exact fun _ => ⟨rfl, rfl⟩
    · exact h)
theorem run_zero {α : Type} (tk : Int × Int → α → Int × Int × Int) (l : List α) (h : (runL tk l).2.2 ≠ 0) : (runL tk l).1 = 0 ∧ (runL tk l).2.1 = 0 := fold_zero tk l (0, 0, 0) (fun h => absurd rfl h) h
theorem addS_err (al ah bl bh : Int) (h : (addS al ah bl bh).2.2 ≠ 0) : addS al ah bl bh = (0, 0, (addS al ah bl bh).2.2) := by
  unfold addS at h ⊢
  split
  · rename_i c
    rw [if_pos c] at h
    unfold fitS at h ⊢
    split
    · rename_i d; rw [if_pos d] at h; exact absurd rfl h
    · rfl
  · rfl
/-- A box for numbers. -/
def Bx (s : Int × Int × Int) : Prop := -9223372036854775807 ≤ s.1 ∧ s.1 ≤ 9223372036854775807 ∧ -9223372036854775807 ≤ s.2.1 ∧ s.2.1 ≤ 9223372036854775807 ∧ 0 ≤ s.2.2 ∧ s.2.2 ≤ 10
theorem fitS_box (lo hi : Int) : Bx (fitS lo hi) := by
  unfold fitS Bx; split <;> dsimp only <;> omega
theorem addS_box (al ah bl bh : Int) : Bx (addS al ah bl bh) := by
  unfold addS; split
  · exact fitS_box _ _
  · unfold Bx; decide
theorem mulS_box (al ah bl bh : Int) : Bx (mulS al ah bl bh) := by
  unfold mulS; split
  · rw [corn_fit (fun x y => x * y) (fun _ _ => 4294967296) al ah bl bh (dn_le _ _ _ (by omega)) (dn_le _ _ _ (by omega)) (dn_le _ _ _ (by omega)) (dn_le _ _ _ (by omega))]
    exact fitS_box _ _
  · unfold Bx; decide
theorem squareS_box (lo hi : Int) : Bx (squareS lo hi) := by
  unfold squareS; split
  · exact fitS_box _ _
  · unfold Bx; decide
/-- What is taken into a sum, into a sum of products, into a sum of squares. -/
def takeA (s x : Int × Int) : Int × Int × Int := addS s.1 s.2 x.1 x.2
def takeM (s : Int × Int) (x : (Int × Int) × Int × Int) : Int × Int × Int :=
  if (mulS x.1.1 x.1.2 x.2.1 x.2.2).2.2 = 0 then addS s.1 s.2 (mulS x.1.1 x.1.2 x.2.1 x.2.2).1 (mulS x.1.1 x.1.2 x.2.1 x.2.2).2.1 else (0, 0, (mulS x.1.1 x.1.2 x.2.1 x.2.2).2.2)
def takeQ (s x : Int × Int) : Int × Int × Int :=
  if (squareS x.1 x.2).2.2 = 0 then addS s.1 s.2 (squareS x.1 x.2).1 (squareS x.1 x.2).2.1 else (0, 0, (squareS x.1 x.2).2.2)
theorem err_box {s : Int × Int × Int} (h : Bx s) : Bx (0, 0, s.2.2) := by unfold Bx at *; dsimp only; omega
theorem takeA_box (s x : Int × Int) : Bx (takeA s x) := addS_box _ _ _ _
theorem takeM_box (s : Int × Int) (x : (Int × Int) × Int × Int) : Bx (takeM s x) := by
  unfold takeM; split
  · exact addS_box _ _ _ _
  · exact err_box (mulS_box _ _ _ _)
theorem takeQ_box (s x : Int × Int) : Bx (takeQ s x) := by
  unfold takeQ; split
  · exact addS_box _ _ _ _
  · exact err_box (squareS_box _ _)
theorem runL_box {α : Type} {tk : Int × Int → α → Int × Int × Int} (ht : ∀ s x, Bx (tk s x)) : ∀ (l : List α) (s : Int × Int × Int), Bx s → Bx (l.foldl (stepL tk) s)
  | [], s, h => h
  | x :: l, s, h => runL_box ht l _ (by
    unfold stepL; split
    · split
      · exact ht _ _
      · exact err_box (ht _ _)
    · exact h)
theorem run_box {α : Type} {tk : Int × Int → α → Int × Int × Int} (ht : ∀ s x, Bx (tk s x)) (l : List α) : Bx (runL tk l) := runL_box ht l _ (by unfold Bx; decide)
theorem stepA {S : Int × Int × Int} {x : Int × Int} (h : S.2.2 = 0) : stepL takeA S x = addS S.1 S.2.1 x.1 x.2 := by
  by_cases c : (takeA (S.1, S.2.1) x).2.2 = 0
  · rw [step_ok h c]; rfl
  · rw [step_bad h c]; exact (addS_err _ _ _ _ c).symm
def sumS (l : List (Int × Int)) : Int × Int × Int := if listE l = 0 then runL takeA l else (0, 0, listE l)
def dotE (a b : List (Int × Int)) : Int := if 64 < a.length ∨ 64 < b.length then 3 else if goodL a a.length = true ∧ goodL b b.length = true ∧ a.length = b.length then 0 else 2
def dotS (a b : List (Int × Int)) : Int × Int × Int := if dotE a b = 0 then runL takeM (a.zip b) else (0, 0, dotE a b)
noncomputable def rootE (r : Int × Int × Int) : Int × Int × Int := if r.2.2 = 0 then rootS r.1 r.2.1 else (0, 0, r.2.2)
noncomputable def normS (l : List (Int × Int)) : Int × Int × Int := if listE l = 0 then rootE (runL takeQ l) else (0, 0, listE l)
end Go.Proofs.Ytjleflfncijnpaa
