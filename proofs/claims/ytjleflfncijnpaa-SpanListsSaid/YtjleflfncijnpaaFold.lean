/- slices.Values of a slice of spans; fold over them. -/
import Derived.RangeFuncNested
import Derived.RangeFuncBound
import Derived.RangeFuncCalls
import Derived.RangeFuncLeaves
import Derived.RangeFuncBox
import Derived.Shelf.Abstract
import Derived.Shelf.RegionOpen
import Derived.OwnWalkIn
import Derived.TacticsInMore
import Derived.LoopNIn
import Derived.LoopIn
import Derived.Test.YtjleflfncijnpaaRows
import Derived.Test.YtjleflfncijnpaaBase
import Derived.Test.YtjleflfncijnpaaFacts
import Derived.Test.YtjleflfncijnpaaTwo
import Derived.Deep.RegionHeld3
import Derived.Deep.RegionWith
import Derived.Deep.QuietTactic
import Derived.BigQuiet
import Derived.Test.YtjleflfncijnpaaW
import Derived.Test.YtjleflfncijnpaaAsks
import Derived.Test.YtjleflfncijnpaaOut
import Derived.Test.YtjleflfncijnpaaSeq
import Derived.Test.YtjleflfncijnpaaTwo
import Derived.Test.YtjleflfncijnpaaOne
import Derived.Test.YtjleflfncijnpaaQuo
import Derived.Test.YtjleflfncijnpaaSums
import Derived.Test.YtjleflfncijnpaaScaleM
import Derived.Test.YtjleflfncijnpaaMul
import Derived.Test.YtjleflfncijnpaaRootM
import Derived.Test.YtjleflfncijnpaaRootT
import Derived.Test.YtjleflfncijnpaaListM
import Derived.Test.YtjleflfncijnpaaTake
set_option linter.unusedVariables false
set_option linter.unusedSimpArgs false
set_option maxHeartbeats 4000000
set_option maxRecDepth 100000
namespace Go.Proofs.Ytjleflfncijnpaa
open Go Go.RowKit
open Go.Shelf
attribute [local go_sem] Oper.semAt_some
/-- A span within what an int64 holds. -/
abbrev VS := { x : Int × Int // (-9223372036854775808 ≤ x.1 ∧ x.1 ≤ 9223372036854775807) ∧ (-9223372036854775808 ≤ x.2 ∧ x.2 ≤ 9223372036854775807) }
abbrev encV (x : VS) : Array Value := #[.agg #[.int .i64 x.1.1, .int .i64 x.1.2]]
theorem keepsBelow {B : Nat} {W W' : World} (h : Below W.heap.size W W') : KeepsFrom B W W' := ⟨h.size, fun k o _ hk _ => (h.block k (Array.getElem?_eq_some_iff.1 hk).1).trans hk⟩
theorem take_pre {α : Type} (l : List α) (k : Nat) : l.take k <+: l := List.take_prefix k l
theorem map_get {zs : List VS} {k : Nat} {x : VS} (h : zs[k]? = some x) : (zs.map (·.1))[k]? = some x.1 := by rw [List.getElem?_map, h]; rfl
theorem take_snoc' {α : Type} {l : List α} {k : Nat} {x : α} (h : l[k]? = some x) : l.take (k + 1) = l.take k ++ [x] := by
  have hk : k < l.length := (List.getElem?_eq_some_iff.1 h).1
  have hv : l[k] = x := by have := List.getElem?_eq_getElem hk; rw [h] at this; exact (Option.some.inj this).symm
  rw [List.take_succ_eq_append_getElem hk, hv]
theorem values1_in (F : Fence) (n : Nat) (h7 : F.fn 132) (hro : F.round = none) (hn : 1 ≤ n) (l Bs n₀ b off cap : Nat) (zs : List VS) (hl : zs.length ≤ 64) (hb : b < n₀) (J Jx : List VS → World → Prop)
    (W : World) (hn0 : n₀ ≤ W.heap.size) (hJ : AbidesFrom W.heap.size J)
    (hY : ∀ pre x W, J pre W → pre.length < zs.length → YieldAt F (n - 1) Try.prog l (encV x) W fun e W' =>
      (e = .returned (.bool true) ∧ J (pre ++ [x]) W' ∧ Below n₀ W W') ∨ (e = .returned (.bool false) ∧ Jx (pre ++ [x]) W'))
    (hBs : W.cell? ⟨Bs, 0, none⟩ = some (.slice (some ⟨b, off, none⟩) zs.length cap)) (hc : Spans b off (zs.map (·.1)) W) (h0 : J [] W) :
    CallsIn F n Try.prog 132 #[.func (.yield l) #[] #[], .pointer (some ⟨Bs, 0, none⟩)] W fun e W' => (∃ v, e = .returned v) ∧
      ((∃ ys, ys = zs ∧ J ys W') ∨ (∃ pre, pre <+: zs ∧ Jx pre W')) := by
  refine callsIn_of_wp Try.func132 rfl h7 ?_ hro
  simp only [Try.ntmps132, List.size_toArray, List.length_cons, List.length_nil, Nat.reduceAdd, Nat.reduceSub, Array.replicate_succ, Array.replicate_zero, List.push_toArray, List.append_toArray, List.nil_append, List.cons_append]
  gi_wp2
  gi_loopw [7] (fun i wr => ∃ k : Nat, k ≤ zs.length ∧ i = .int .i64 k ∧ J (zs.take k) wr ∧ Below n₀ W wr ∧ W.heap.size ≤ wr.heap.size)
    (fun i _ => zs.length - (intOf i).toNat)
  case atStart => exact ⟨0, Nat.zero_le _, rfl, h0, Below.refl _ _, Nat.le_refl _⟩
  case round =>
    obtain ⟨k, hk, rfl, hJs, hnx, hsz⟩ := hrel
    by_cases hlt : k < zs.length
    · obtain ⟨x, hx⟩ : ∃ x, zs[k]? = some x := ⟨zs[k], List.getElem?_eq_getElem hlt⟩
      obtain ⟨c0, c1⟩ := (hc.below hnx hb) k _ (map_get hx)
      have hJ2 := hJ _ _ _ none hJs (World.grownBy_alloc wr (.cells #[.int .i64 x.1.1, .int .i64 x.1.2] 24) none) (fun r e => by cases e)
      obtain ⟨fn, tmps, assign, body, hy, hR⟩ := hY _ x _ hJ2 (by rw [List.length_take]; omega)
      have hts := hid (take_snoc' hx)
      have hbn : Below n₀ W (wr.alloc (.cells #[.int .i64 x.1.1, .int .i64 x.1.2] 24)) := hnx.alloc (by omega) _
      dsimp only [encV] at hy
      clear hx
      gi_wp2
      refine hR.mono ?_
      rintro e W3 (⟨rfl, hJ3, hk3⟩ | ⟨rfl, hJx3⟩)
      · gi_wp2
        go_roundw
        case rel => exact ⟨k + 1, by omega, by simp, by rw [hts.out]; exact hJ3, hbn.trans hk3, by have := hk3.size; simp at this; omega⟩
        case measure => simp [intOf]; omega
      · gi_wp2
        refine bodyPost_ret (results_none rfl _ _ _) rfl ?_
        exact ⟨⟨_, rfl⟩, .inr ⟨_, by rw [← hts.out]; exact take_pre _ _, hJx3⟩⟩
    · obtain rfl : k = zs.length := by omega
      gi_wp2
      go_end0
      exact ⟨⟨_, rfl⟩, .inl ⟨zs, rfl, by rw [List.take_length] at hJs; exact hJs⟩⟩
theorem values1_nil (F : Fence) (n : Nat) (h7 : F.fn 132) (hro : F.round = none) (l Bs cap : Nat) (q : Option Addr) (J : List VS → World → Prop)
    (W : World) (hBs : W.cell? ⟨Bs, 0, none⟩ = some (.slice q 0 cap)) (h0 : J [] W) :
    CallsIn F n Try.prog 132 #[.func (.yield l) #[] #[], .pointer (some ⟨Bs, 0, none⟩)] W fun e W' => (∃ v, e = .returned v) ∧ J [] W' := by
  refine callsIn_of_wp Try.func132 rfl h7 ?_ hro
  simp only [Try.ntmps132, List.size_toArray, List.length_cons, List.length_nil, Nat.reduceAdd, Nat.reduceSub, Array.replicate_succ, Array.replicate_zero, List.push_toArray, List.append_toArray, List.nil_append, List.cons_append]
  gi_wp2
  gi_loopw [7] (fun i wr => i = .int .i64 0 ∧ J [] wr) (fun _ _ => 0)
  case atStart => exact ⟨rfl, h0⟩
  case round =>
    obtain ⟨rfl, hJs⟩ := hrel
    gi_wp2
    go_end0
    exact ⟨⟨_, rfl⟩, hJs⟩
/-- A slice's value: its spans lie below n₀. -/
def SV (n₀ : Nat) (q : Option Addr) (zs : List VS) (W : World) : Prop := zs = [] ∨ ∃ b off, q = some ⟨b, off, none⟩ ∧ b < n₀ ∧ Spans b off (zs.map (·.1)) W
theorem SV.below {n₀ : Nat} {q : Option Addr} {zs : List VS} {A B : World} (h : SV n₀ q zs A) (hb : Below n₀ A B) : SV n₀ q zs B := by
  rcases h with h | ⟨b, off, e, hl, hs⟩
  · exact .inl h
  · exact .inr ⟨b, off, e, hl, hs.below hb hl⟩
theorem values_stops (F : Fence) (n : Nat) (h7 : F.fn 132) (hro : F.round = none) (hn : 1 ≤ n) (Bs n₀ cap : Nat) (q : Option Addr) (zs : List VS) (hl : zs.length ≤ 64) (w : World) (hBs : Bs < w.heap.size) (hn₀ : n₀ ≤ w.heap.size)
    (hc : w.cell? ⟨Bs, 0, none⟩ = some (.slice q zs.length cap)) (hI : SV n₀ q zs w) :
    SeqStopsK F n Try.prog 132 #[.pointer (some ⟨Bs, 0, none⟩)] encV (Below n₀) (fun ys => ys = zs) (fun pre => pre <+: zs) zs.length w := fun l J Jx W hW hJ hJx hY h0 => by
  have hc' := (hW.cell (p := ⟨Bs, 0, none⟩) hBs).trans hc
  rcases hI.below (hW.mono hn₀) with rfl | ⟨b, off, rfl, hb, hs⟩
  · exact (values1_nil F n h7 hro l Bs cap q J W hc' h0).mono fun e W' ⟨he, hj⟩ => ⟨he, .inl ⟨_, rfl, hj⟩⟩
  · exact values1_in F n h7 hro hn l Bs n₀ b off cap zs hl hb J Jx W (by have := hW.size; omega) hJ hY hc' hs h0
theorem values_any (q : Option Addr) (n cap : Nat) (w : World) :
    Calls Try.prog 110 #[.slice q n cap] w fun e w' => e = .returned (.func (.func 132) #[] #[.pointer (some ⟨w.heap.size, 0, none⟩)]) ∧ w' = w.alloc (.cells #[.slice q n cap] 68) := by
  go_enter Try.func110, Try.ntmps110
  go_wp2_with fail
  go_ret
  exact ⟨rfl, rfl⟩
/-- The cells of a fold's own: what it calls, its results, the sum so far. -/
def FI (b : Nat) (g : Nat) (s : Int × Int × Int) (w' : World) : Prop :=
  w'.cell? ⟨b, 0, none⟩ = some (.func (.func g) #[] #[]) ∧ w'.cell? ⟨b + 1, 0, none⟩ = some (.int .i64 0) ∧ w'.cell? ⟨b + 1, 1, none⟩ = some (.int .i64 0) ∧ w'.frozen? ⟨b + 1, 0, none⟩ = false ∧ w'.frozen? ⟨b + 1, 1, none⟩ = false ∧
  w'.cell? ⟨b + 1 + 1, 0, none⟩ = some (.int .i64 0) ∧ w'.frozen? ⟨b + 1 + 1, 0, none⟩ = false ∧
  w'.cell? ⟨b + 1 + 1 + 1, 0, none⟩ = some (.int .i64 s.1) ∧ w'.cell? ⟨b + 1 + 1 + 1, 1, none⟩ = some (.int .i64 s.2.1) ∧ w'.frozen? ⟨b + 1 + 1 + 1, 0, none⟩ = false ∧ w'.frozen? ⟨b + 1 + 1 + 1, 1, none⟩ = false
theorem FI_own {β : Type} (b g : Nat) (f : β → Int × Int × Int) : Own (fun s W => FI b g (f s) W) := fun s A B row h hg hr => by
  obtain ⟨h1, h2, h3, h4, h5, h6, h7, h8, h9, h10, h11⟩ := h
  exact ⟨cell_kept h1 hg hr, cell_kept h2 hg hr, cell_kept h3 hg hr, (frozen_kept h2 hg hr).trans h4, (frozen_kept h3 hg hr).trans h5, cell_kept h6 hg hr, (frozen_kept h6 hg hr).trans h7, cell_kept h8 hg hr, cell_kept h9 hg hr, (frozen_kept h8 hg hr).trans h10, (frozen_kept h9 hg hr).trans h11⟩
/-- The results behind an error. -/
def FE (b : Nat) (s : Int × Int × Int) (w' : World) : Prop :=
  w'.cell? ⟨b + 1, 0, none⟩ = some (.int .i64 s.1) ∧ w'.cell? ⟨b + 1, 1, none⟩ = some (.int .i64 s.2.1) ∧ w'.cell? ⟨b + 1 + 1, 0, none⟩ = some (.int .i64 s.2.2)
theorem FE_own {β : Type} (b : Nat) (f : β → Int × Int × Int) : Own (fun s W => FE b (f s) W) := fun s A B row h hg hr => by
  obtain ⟨h1, h2, h3⟩ := h
  exact ⟨cell_kept h1 hg hr, cell_kept h2 hg hr, cell_kept h3 hg hr⟩
theorem res_cc {P : Program} {fn : Func} {p u : Tmp} {t t' : TypeId} {tmps : Array Value} {w : World} {b c : Nat} {v0 v1 u0 : Value} (h : fn.results = #[.cell p t, .cell u t']) (hA : ∀ w, (isAgg t).run P w = .ok true w) (hS : ∀ w, (sizeOf t).run P w = .ok 2 w) (hA' : ∀ w, (isAgg t').run P w = .ok false w)
    (hp : tmps.getD p undef = .pointer (some ⟨b, 0, none⟩)) (hu : tmps.getD u undef = .pointer (some ⟨c, 0, none⟩)) (c0 : w.cell? ⟨b, 0, none⟩ = some v0) (c1 : w.cell? ⟨b, 1, none⟩ = some v1) (d0 : w.cell? ⟨c, 0, none⟩ = some u0) : (results fn tmps).run P w = .ok (.tuple #[.agg #[v0, v1], u0]) w := by
  have hl := load2 (P := P) hA hS c0 c1
  have hl' : (loadVar t' ⟨c, 0, none⟩).run P w = .ok u0 w := by simp [loadVar, hA', go_sem, d0]
  have hp' : tmps[p]?.getD undef = .pointer (some ⟨b, 0, none⟩) := by simpa using hp
  have hu' : tmps[u]?.getD undef = .pointer (some ⟨c, 0, none⟩) := by simpa using hu
  simp only [results, h]
  simp [Sem.run_bind, asAddr, hp', hu', hl, hl']
theorem keepB {W w1 : World} {b o : Nat} {v : Value} (hb : Below W.heap.size W w1) (h : W.cell? ⟨b, o, none⟩ = some v) : w1.cell? ⟨b, o, none⟩ = some v := (hb.cell (p := ⟨b, o, none⟩) (World.block_lt_of_cell? W ⟨b, o, none⟩ h)).trans h
theorem keepBF {W w1 : World} {b o : Nat} {v : Value} (hb : Below W.heap.size W w1) (h : W.cell? ⟨b, o, none⟩ = some v) (hf : W.frozen? ⟨b, o, none⟩ = false) : w1.frozen? ⟨b, o, none⟩ = false := (hb.frozen (p := ⟨b, o, none⟩) (World.block_lt_of_cell? W ⟨b, o, none⟩ h)).trans hf
theorem isA_E : ∀ w, (isAgg 25).run Try.prog w = .ok false w := fun _ => by kernel_rfl

theorem foldAdd_in (n : Nat) (hn : 3 ≤ n) (Bs cap : Nat) (q : Option Addr) (zs : List VS) (hl : zs.length ≤ 64) (w : World) (hBs : Bs < w.heap.size) (hc : w.cell? ⟨Bs, 0, none⟩ = some (.slice q zs.length cap)) (hI : SV w.heap.size q zs w)
    (tk : Int × Int → VS → Int × Int × Int) (htk : Hid (∀ s x, Bx (tk s x)))
    (hT : Hid (∀ (s : Int × Int) (x : VS) (w : World), (-9223372036854775808 ≤ s.1 ∧ s.1 ≤ 9223372036854775807) ∧ (-9223372036854775808 ≤ s.2 ∧ s.2 ≤ 9223372036854775807) → Calls Try.prog 21 #[.agg #[.int .i64 s.1, .int .i64 s.2], .agg #[.int .i64 x.1.1, .int .i64 x.1.2]] w fun e w' => e = .returned (.tuple #[.agg #[.int .i64 ((tk s x).1), .int .i64 ((tk s x).2.1)], .int .i64 ((tk s x).2.2)]) ∧ Below w.heap.size w w')) :
    CallsIn Fence.wide n Try.prog 109 #[.func (.func 132) #[] #[.pointer (some ⟨Bs, 0, none⟩)], .func (.func 21) #[] #[]] w fun e W' => e = .returned (.tuple #[.agg #[.int .i64 ((runL tk zs).1), .int .i64 ((runL tk zs).2.1)], .int .i64 ((runL tk zs).2.2)]) ∧ Below w.heap.size w W' := by
  refine callsIn_of_wp_marks Try.func109 rfl trivial ?_ rfl
  simp only [Try.ntmps109, List.size_toArray, List.length_cons, List.length_nil, Nat.reduceAdd, Nat.reduceSub, Array.replicate_succ, Array.replicate_zero, List.push_toArray, List.append_toArray, List.nil_append, List.cons_append]
  gi_wp2
  have hFI : FI w.heap.size 21 (0, 0, 0) ((((w.alloc (.cells #[.func (.func 21) #[] #[]] 38)).alloc (.cells #[.int .i64 0, .int .i64 0] 24)).alloc (.cells #[.int .i64 0] 25)).alloc (.cells #[.int .i64 0, .int .i64 0] 24)) :=
    ⟨by simp [go_sem], by simp [go_sem], by simp [go_sem], by simp [go_sem], by simp [go_sem], by simp [go_sem], by simp [go_sem], by simp [go_sem], by simp [go_sem], by simp [go_sem], by simp [go_sem]⟩
  have hB0 : Below w.heap.size w ((((w.alloc (.cells #[.func (.func 21) #[] #[]] 38)).alloc (.cells #[.int .i64 0, .int .i64 0] 24)).alloc (.cells #[.int .i64 0] 25)).alloc (.cells #[.int .i64 0, .int .i64 0] 24)) := by go_grown
  have hsz : ((((w.alloc (.cells #[.func (.func 21) #[] #[]] 38)).alloc (.cells #[.int .i64 0, .int .i64 0] 24)).alloc (.cells #[.int .i64 0] 25)).alloc (.cells #[.int .i64 0, .int .i64 0] 24)).heap.size = w.heap.size + 4 := by simp
  generalize ((((w.alloc (.cells #[.func (.func 21) #[] #[]] 38)).alloc (.cells #[.int .i64 0, .int .i64 0] 24)).alloc (.cells #[.int .i64 0] 25)).alloc (.cells #[.int .i64 0, .int .i64 0] 24)) = W0 at *
  refine wpIn_rangeFunc_ownH rfl (by omega) (gf := 132) (lb := #[.pointer (some ⟨Bs, 0, none⟩)]) rfl trivial (enters_of Try.func132 (by kernel_rfl) rfl)
    (values_stops Fence.wide (n - 1) trivial rfl (by omega) Bs w.heap.size cap q zs hl W0 (by omega) (by omega) ((hB0.cell (p := ⟨Bs, 0, none⟩) hBs).trans hc) (hI.below hB0)) belowK_t (belowK_b (by omega)) (Below.refl _ _) (fun _ => rfl)
    (fun pre W => ((runL tk pre).2.2 = 0 ∧ FI w.heap.size 21 (runL tk pre) W) ∧ Below w.heap.size w W)
    (fun c pre W => ((c = .ret ∧ (runL tk pre).2.2 ≠ 0) ∧ FE w.heap.size (runL tk pre) W) ∧ Below w.heap.size w W)
    (OwnFrom.and (OwnFrom.and (ownFrom_pure _ _) (Own.from (FI_own _ _ _) _)) (ownFrom_below (Nat.le_refl _) (by omega)))
    (fun c => OwnFrom.and (OwnFrom.and (ownFrom_pure _ _) (Own.from (FE_own _ _) _)) (ownFrom_below (Nat.le_refl _) (by omega)))
    ⟨⟨rfl, hFI⟩, hB0⟩
    (fun x a' W => ∃ Bi, w.heap.size + 1 + 1 + 1 < Bi ∧ (W.cell? ⟨Bi, 0, none⟩ = some (.int .i64 x.1.1) ∧ W.cell? ⟨Bi, 1, none⟩ = some (.int .i64 x.1.2)) ∧ a' = { tmps := #[.func (.func 132) #[] #[.pointer (some ⟨Bs, 0, none⟩)], .func (.func 21) #[] #[], undef, .pointer (some ⟨w.heap.size, 0, none⟩), .pointer (some ⟨w.heap.size + 1, 0, none⟩), .pointer (some ⟨w.heap.size + 1 + 1, 0, none⟩), .pointer (some ⟨w.heap.size + 1 + 1 + 1, 0, none⟩), .pointer (some ⟨Bi, 0, none⟩), undef, undef, .func (.func 132) #[] #[.pointer (some ⟨Bs, 0, none⟩)], .agg #[.int .i64 x.1.1, .int .i64 x.1.2], undef, undef, undef, undef, undef, undef, undef, undef, undef, undef, undef, undef, undef], defers := [] })
    (fun x a' _ X Y row hs hg hr => by obtain ⟨Bi, h1, ⟨h2, h3⟩, h4⟩ := hs; exact ⟨Bi, h1, ⟨cell_kept h2 hg (fun r e => (hr r e).2), cell_kept h3 hg (fun r e => (hr r e).2)⟩, h4⟩)
    ?assign ?body ?done ?stop
  case assign =>
    rintro l pre x W K ⟨⟨he, hF⟩, hB1⟩ hK
    have hF2 := hF
    obtain ⟨h1, h2, h3, h4, h5, h6, h7, h8, h9, h10, h11⟩ := hF
    dsimp only [encV]
    gi_wp2
    exact hK _ _ ((KeepsOthers.alloc _ _).from _) ((Below.refl _ W).alloc hB1.size _) ⟨⟨he, FI_own w.heap.size _ (fun _ : Unit => runL tk pre) () _ _ none hF2 (World.grownBy_alloc _ _ _) (fun r e => by cases e)⟩, hB1.alloc hB1.size _⟩ ⟨W.heap.size, World.block_lt_of_cell? W ⟨_, 0, none⟩ h8, ⟨show (W.alloc (.cells #[.int .i64 x.1.1, .int .i64 x.1.2] 24)).cell? ⟨W.heap.size, 0, none⟩ = _ by simp [go_sem], show (W.alloc (.cells #[.int .i64 x.1.1, .int .i64 x.1.2] 24)).cell? ⟨W.heap.size, 1, none⟩ = _ by simp [go_sem]⟩, rfl⟩
  case body =>
    rintro l pre x a' W hl2 - ⟨⟨he, h1, h2, h3, h4, h5, h6, h7, h8, h9, h10, h11⟩, hB1⟩ ⟨Bi, hBi, ⟨i0, i1⟩, rfl⟩ hlt
    have hbx := run_box (tk := tk) htk.out pre
    have hstep := runL_snoc tk pre x
    generalize hS : runL tk pre = S at *
    generalize hS2 : runL tk (pre ++ [x]) = S2 at *
    obtain ⟨s1, s2, s3⟩ := S
    dsimp only at he h8 h9 hstep
    subst he
    have hct := fun W => hT.out (s1, s2) x W (by unfold Bx at hbx; dsimp only at hbx ⊢; omega)
    have hsw := hB1.size
    have hib := World.block_lt_of_cell? _ _ i0
    dsimp only at hib
    have h1' : 1 ≤ n - 1 - 1 := by omega
    replace hS2 := hid hS2
    replace hS := hid hS
    by_cases c : (tk (s1, s2) x).2.2 = 0
    · have hs2 := hid (hstep.trans (step_ok rfl c))
      generalize tk (s1, s2) x = T at *
      obtain ⟨r1, r2, r3⟩ := T
      dsimp only at c hct
      subst c
      replace hct := hid hct
      clear hstep hbx htk hT
      gi_wp2_with (first | (refine ⟨trivial, ?_⟩; gi_at_call 21; refine (CallsIn.inRound l (callsIn_wide.2 (hct.out _))).mono ?_; rintro e w1 ⟨rfl, hb1⟩; replace h1 := keepB hb1 h1; replace h4 := keepBF hb1 h2 h4; replace h5 := keepBF hb1 h3 h5; replace h2 := keepB hb1 h2; replace h3 := keepB hb1 h3; replace h7 := keepBF hb1 h6 h7; replace h6 := keepB hb1 h6; replace h10 := keepBF hb1 h8 h10; replace h11 := keepBF hb1 h9 h11; replace h8 := keepB hb1 h8; replace h9 := keepB hb1 h9; clear i0 i1; have g8 := World.block_lt_of_cell? w1 ⟨w.heap.size + 1 + 1 + 1, 0, none⟩ h8; dsimp only at g8; have g2 : w.heap.size + 1 < w1.heap.size := (by omega); have g6 : w.heap.size + 1 + 1 < w1.heap.size := (by omega); have g0 : w.heap.size < w1.heap.size := (by omega)) | (gi_at_call 21; refine (CallsIn.inRound l (callsIn_wide.2 (hct.out _))).mono ?_; rintro e w1 ⟨rfl, hb1⟩; replace h1 := keepB hb1 h1; replace h4 := keepBF hb1 h2 h4; replace h5 := keepBF hb1 h3 h5; replace h2 := keepB hb1 h2; replace h3 := keepB hb1 h3; replace h7 := keepBF hb1 h6 h7; replace h6 := keepB hb1 h6; replace h10 := keepBF hb1 h8 h10; replace h11 := keepBF hb1 h9 h11; replace h8 := keepB hb1 h8; replace h9 := keepB hb1 h9; clear i0 i1; have g8 := World.block_lt_of_cell? w1 ⟨w.heap.size + 1 + 1 + 1, 0, none⟩ h8; dsimp only at g8; have g2 : w.heap.size + 1 < w1.heap.size := (by omega); have g6 : w.heap.size + 1 + 1 < w1.heap.size := (by omega); have g0 : w.heap.size < w1.heap.size := (by omega)))
      have hbm : Below w.heap.size W w1 := hb1.mono hsw
      have hB2 : Below w.heap.size W (((w1.setCell ⟨w.heap.size + 1 + 1 + 1, 0, none⟩ (.int .i64 r1)).setCell ⟨w.heap.size + 1 + 1 + 1, 1, none⟩ (.int .i64 r2)).alloc (.cells #[.int .i64 r1, .int .i64 r2] 24)) := by go_grown
      have hfin := hS2.out.trans hs2.out
      exact ⟨(keepsBelow hb1).trans (((KeepsOthers.setCell _ _ _).from _).trans (((KeepsOthers.setCell _ _ _).from _).trans ((KeepsOthers.alloc _ _).from _))), hB2, ⟨⟨by rw [hfin], by
        rw [hfin]
        exact ⟨keepA _ (two_other h1 (by omega)), keepA _ (two_other h2 (by omega)), keepA _ (two_other h3 (by omega)), keepAF _ (two_other h2 (by omega)) (two_fz h4), keepAF _ (two_other h3 (by omega)) (two_fz h5),
          keepA _ (two_other h6 (by omega)), keepAF _ (two_other h6 (by omega)) (two_fz h7), keepA _ (two_0 h8), keepA _ (two_1 h9), keepAF _ (two_0 h8) (two_fz h10), keepAF _ (two_1 h9) (two_fz h11)⟩⟩, hB1.trans hB2⟩⟩
    · have hs2 := hid (hstep.trans (step_bad rfl c))
      generalize tk (s1, s2) x = T at *
      obtain ⟨r1, r2, r3⟩ := T
      dsimp only at c hct hs2
      have cb : (r3 != 0) = true := by simpa using c
      have ci : ¬ r3 = 0 := c
      replace hct := hid hct
      clear hstep hbx htk hT
      gi_wp2_with (first | (refine ⟨trivial, ?_⟩; gi_at_call 21; refine (CallsIn.inRound l (callsIn_wide.2 (hct.out _))).mono ?_; rintro e w1 ⟨rfl, hb1⟩; replace h1 := keepB hb1 h1; replace h4 := keepBF hb1 h2 h4; replace h5 := keepBF hb1 h3 h5; replace h2 := keepB hb1 h2; replace h3 := keepB hb1 h3; replace h7 := keepBF hb1 h6 h7; replace h6 := keepB hb1 h6; replace h10 := keepBF hb1 h8 h10; replace h11 := keepBF hb1 h9 h11; replace h8 := keepB hb1 h8; replace h9 := keepB hb1 h9; clear i0 i1; have g8 := World.block_lt_of_cell? w1 ⟨w.heap.size + 1 + 1 + 1, 0, none⟩ h8; dsimp only at g8; have g2 : w.heap.size + 1 < w1.heap.size := (by omega); have g6 : w.heap.size + 1 + 1 < w1.heap.size := (by omega); have g0 : w.heap.size < w1.heap.size := (by omega)) | (gi_at_call 21; refine (CallsIn.inRound l (callsIn_wide.2 (hct.out _))).mono ?_; rintro e w1 ⟨rfl, hb1⟩; replace h1 := keepB hb1 h1; replace h4 := keepBF hb1 h2 h4; replace h5 := keepBF hb1 h3 h5; replace h2 := keepB hb1 h2; replace h3 := keepB hb1 h3; replace h7 := keepBF hb1 h6 h7; replace h6 := keepB hb1 h6; replace h10 := keepBF hb1 h8 h10; replace h11 := keepBF hb1 h9 h11; replace h8 := keepB hb1 h8; replace h9 := keepB hb1 h9; clear i0 i1; have g8 := World.block_lt_of_cell? w1 ⟨w.heap.size + 1 + 1 + 1, 0, none⟩ h8; dsimp only at g8; have g2 : w.heap.size + 1 < w1.heap.size := (by omega); have g6 : w.heap.size + 1 + 1 < w1.heap.size := (by omega); have g0 : w.heap.size < w1.heap.size := (by omega)))
      have hbm : Below w.heap.size W w1 := hb1.mono hsw
      have hfin := hS2.out.trans hs2.out
      have hB2 : Below w.heap.size W ((((w1.setCell ⟨w.heap.size + 1, 0, none⟩ (.int .i64 0)).setCell ⟨w.heap.size + 1, 1, none⟩ (.int .i64 0)).setCell ⟨w.heap.size + 1 + 1, 0, none⟩ (.int .i64 r3)).alloc (.cells #[.int .i64 r1, .int .i64 r2] 24)) := by go_grown
      exact ⟨(keepsBelow hb1).trans (((KeepsOthers.setCell _ _ _).from _).trans (((KeepsOthers.setCell _ _ _).from _).trans (((KeepsOthers.setCell _ _ _).from _).trans ((KeepsOthers.alloc _ _).from _)))), ⟨⟨rfl, by rw [hfin]; exact ci⟩, by
        rw [hfin]
        exact ⟨keepA _ (one_other (two_0 h2) (by omega)), keepA _ (one_other (two_1 h3) (by omega)), keepA _ (one_same (two_other h6 (by omega)))⟩⟩, hB1.trans hB2⟩
  case done =>
    rintro D ys W hD rfl ⟨⟨he, h1, h2, h3, h4, h5, h6, h7, h8, h9, h10, h11⟩, hB1⟩ hK
    generalize hS : runL tk ys = S at *
    obtain ⟨s1, s2, s3⟩ := S
    dsimp only at he h8 h9
    subst he
    have g8 := World.block_lt_of_cell? W ⟨w.heap.size + 1 + 1 + 1, 0, none⟩ h8
    dsimp only at g8
    replace hS := hid hS
    gi_wp2
    have hK' := ((KeepsOthers.setCell W ⟨w.heap.size + 1, 0, none⟩ (.int .i64 s1)).trans ((KeepsOthers.setCell _ ⟨w.heap.size + 1, 1, none⟩ (.int .i64 s2)).trans (KeepsOthers.setCell _ ⟨w.heap.size + 1 + 1, 0, none⟩ (.int .i64 0)))).same D _ hK rfl
    refine ⟨by simp, .inl ⟨_, _, rfl, run_takeDeferred hK', ?_⟩⟩
    have hkp : ∀ b o v, (((W.setCell ⟨w.heap.size + 1, 0, none⟩ (.int .i64 s1)).setCell ⟨w.heap.size + 1, 1, none⟩ (.int .i64 s2)).setCell ⟨w.heap.size + 1 + 1, 0, none⟩ (.int .i64 0)).cell? ⟨b, o, none⟩ = some v → _ := fun b o v h => cell_kept h (grownBy_putObj' _ D (.deferred none)) (fun r e => by cases e; exact ⟨_, hK', rfl⟩)
    refine ⟨_, res_cc rfl isA_S isS_S isA_E rfl rfl (hkp _ _ _ (one_other (two_0 h2) (by omega))) (hkp _ _ _ (one_other (two_1 h3) (by omega))) (hkp _ _ _ (one_same (two_other h6 (by omega)))), by rw [hS.out], ?_⟩
    have hB2 : Below w.heap.size w (((W.setCell ⟨w.heap.size + 1, 0, none⟩ (.int .i64 s1)).setCell ⟨w.heap.size + 1, 1, none⟩ (.int .i64 s2)).setCell ⟨w.heap.size + 1 + 1, 0, none⟩ (.int .i64 0)) := by go_grown
    exact hB2.trans (belowK_b (w := w) (Nat.le_refl _) _ D _ _ (by omega) hK' rfl rfl)
  case stop =>
    rintro D c pre W hD hpre ⟨⟨⟨rfl, hne⟩, h1, h2, h3⟩, hB1⟩ hK
    gi_wp2
    refine ⟨by simp, .inl ⟨_, _, rfl, run_takeDeferred hK, ?_⟩⟩
    have hkp : ∀ b o v, W.cell? ⟨b, o, none⟩ = some v → _ := fun b o v h => cell_kept h (grownBy_putObj' _ D (.deferred none)) (fun r e => by cases e; exact ⟨_, hK, rfl⟩)
    exact ⟨_, res_cc rfl isA_S isS_S isA_E rfl rfl (hkp _ _ _ h1) (hkp _ _ _ h2) (hkp _ _ _ h3), by rw [run_pre tk hpre hne], hB1.trans (belowK_b (w := w) (Nat.le_refl _) W D _ _ (by omega) hK rfl rfl)⟩

theorem foldNorm_in (n : Nat) (hn : 3 ≤ n) (Bs cap : Nat) (q : Option Addr) (zs : List VS) (hl : zs.length ≤ 64) (w : World) (hBs : Bs < w.heap.size) (hc : w.cell? ⟨Bs, 0, none⟩ = some (.slice q zs.length cap)) (hI : SV w.heap.size q zs w)
    (tk : Int × Int → VS → Int × Int × Int) (htk : Hid (∀ s x, Bx (tk s x)))
    (hT : Hid (∀ (s : Int × Int) (x : VS) (w : World), (-9223372036854775808 ≤ s.1 ∧ s.1 ≤ 9223372036854775807) ∧ (-9223372036854775808 ≤ s.2 ∧ s.2 ≤ 9223372036854775807) → Calls Try.prog 115 #[.agg #[.int .i64 s.1, .int .i64 s.2], .agg #[.int .i64 x.1.1, .int .i64 x.1.2]] w fun e w' => e = .returned (.tuple #[.agg #[.int .i64 ((tk s x).1), .int .i64 ((tk s x).2.1)], .int .i64 ((tk s x).2.2)]) ∧ Below w.heap.size w w')) :
    CallsIn Fence.wide n Try.prog 109 #[.func (.func 132) #[] #[.pointer (some ⟨Bs, 0, none⟩)], .func (.func 115) #[] #[]] w fun e W' => e = .returned (.tuple #[.agg #[.int .i64 ((runL tk zs).1), .int .i64 ((runL tk zs).2.1)], .int .i64 ((runL tk zs).2.2)]) ∧ Below w.heap.size w W' := by
  refine callsIn_of_wp_marks Try.func109 rfl trivial ?_ rfl
  simp only [Try.ntmps109, List.size_toArray, List.length_cons, List.length_nil, Nat.reduceAdd, Nat.reduceSub, Array.replicate_succ, Array.replicate_zero, List.push_toArray, List.append_toArray, List.nil_append, List.cons_append]
  gi_wp2
  have hFI : FI w.heap.size 115 (0, 0, 0) ((((w.alloc (.cells #[.func (.func 115) #[] #[]] 38)).alloc (.cells #[.int .i64 0, .int .i64 0] 24)).alloc (.cells #[.int .i64 0] 25)).alloc (.cells #[.int .i64 0, .int .i64 0] 24)) :=
    ⟨by simp [go_sem], by simp [go_sem], by simp [go_sem], by simp [go_sem], by simp [go_sem], by simp [go_sem], by simp [go_sem], by simp [go_sem], by simp [go_sem], by simp [go_sem], by simp [go_sem]⟩
  have hB0 : Below w.heap.size w ((((w.alloc (.cells #[.func (.func 115) #[] #[]] 38)).alloc (.cells #[.int .i64 0, .int .i64 0] 24)).alloc (.cells #[.int .i64 0] 25)).alloc (.cells #[.int .i64 0, .int .i64 0] 24)) := by go_grown
  have hsz : ((((w.alloc (.cells #[.func (.func 115) #[] #[]] 38)).alloc (.cells #[.int .i64 0, .int .i64 0] 24)).alloc (.cells #[.int .i64 0] 25)).alloc (.cells #[.int .i64 0, .int .i64 0] 24)).heap.size = w.heap.size + 4 := by simp
  generalize ((((w.alloc (.cells #[.func (.func 115) #[] #[]] 38)).alloc (.cells #[.int .i64 0, .int .i64 0] 24)).alloc (.cells #[.int .i64 0] 25)).alloc (.cells #[.int .i64 0, .int .i64 0] 24)) = W0 at *
  refine wpIn_rangeFunc_ownH rfl (by omega) (gf := 132) (lb := #[.pointer (some ⟨Bs, 0, none⟩)]) rfl trivial (enters_of Try.func132 (by kernel_rfl) rfl)
    (values_stops Fence.wide (n - 1) trivial rfl (by omega) Bs w.heap.size cap q zs hl W0 (by omega) (by omega) ((hB0.cell (p := ⟨Bs, 0, none⟩) hBs).trans hc) (hI.below hB0)) belowK_t (belowK_b (by omega)) (Below.refl _ _) (fun _ => rfl)
    (fun pre W => ((runL tk pre).2.2 = 0 ∧ FI w.heap.size 115 (runL tk pre) W) ∧ Below w.heap.size w W)
    (fun c pre W => ((c = .ret ∧ (runL tk pre).2.2 ≠ 0) ∧ FE w.heap.size (runL tk pre) W) ∧ Below w.heap.size w W)
    (OwnFrom.and (OwnFrom.and (ownFrom_pure _ _) (Own.from (FI_own _ _ _) _)) (ownFrom_below (Nat.le_refl _) (by omega)))
    (fun c => OwnFrom.and (OwnFrom.and (ownFrom_pure _ _) (Own.from (FE_own _ _) _)) (ownFrom_below (Nat.le_refl _) (by omega)))
    ⟨⟨rfl, hFI⟩, hB0⟩
    (fun x a' W => ∃ Bi, w.heap.size + 1 + 1 + 1 < Bi ∧ (W.cell? ⟨Bi, 0, none⟩ = some (.int .i64 x.1.1) ∧ W.cell? ⟨Bi, 1, none⟩ = some (.int .i64 x.1.2)) ∧ a' = { tmps := #[.func (.func 132) #[] #[.pointer (some ⟨Bs, 0, none⟩)], .func (.func 115) #[] #[], undef, .pointer (some ⟨w.heap.size, 0, none⟩), .pointer (some ⟨w.heap.size + 1, 0, none⟩), .pointer (some ⟨w.heap.size + 1 + 1, 0, none⟩), .pointer (some ⟨w.heap.size + 1 + 1 + 1, 0, none⟩), .pointer (some ⟨Bi, 0, none⟩), undef, undef, .func (.func 132) #[] #[.pointer (some ⟨Bs, 0, none⟩)], .agg #[.int .i64 x.1.1, .int .i64 x.1.2], undef, undef, undef, undef, undef, undef, undef, undef, undef, undef, undef, undef, undef], defers := [] })
    (fun x a' _ X Y row hs hg hr => by obtain ⟨Bi, h1, ⟨h2, h3⟩, h4⟩ := hs; exact ⟨Bi, h1, ⟨cell_kept h2 hg (fun r e => (hr r e).2), cell_kept h3 hg (fun r e => (hr r e).2)⟩, h4⟩)
    ?assign ?body ?done ?stop
  case assign =>
    rintro l pre x W K ⟨⟨he, hF⟩, hB1⟩ hK
    have hF2 := hF
    obtain ⟨h1, h2, h3, h4, h5, h6, h7, h8, h9, h10, h11⟩ := hF
    dsimp only [encV]
    gi_wp2
    exact hK _ _ ((KeepsOthers.alloc _ _).from _) ((Below.refl _ W).alloc hB1.size _) ⟨⟨he, FI_own w.heap.size _ (fun _ : Unit => runL tk pre) () _ _ none hF2 (World.grownBy_alloc _ _ _) (fun r e => by cases e)⟩, hB1.alloc hB1.size _⟩ ⟨W.heap.size, World.block_lt_of_cell? W ⟨_, 0, none⟩ h8, ⟨show (W.alloc (.cells #[.int .i64 x.1.1, .int .i64 x.1.2] 24)).cell? ⟨W.heap.size, 0, none⟩ = _ by simp [go_sem], show (W.alloc (.cells #[.int .i64 x.1.1, .int .i64 x.1.2] 24)).cell? ⟨W.heap.size, 1, none⟩ = _ by simp [go_sem]⟩, rfl⟩
  case body =>
    rintro l pre x a' W hl2 - ⟨⟨he, h1, h2, h3, h4, h5, h6, h7, h8, h9, h10, h11⟩, hB1⟩ ⟨Bi, hBi, ⟨i0, i1⟩, rfl⟩ hlt
    have hbx := run_box (tk := tk) htk.out pre
    have hstep := runL_snoc tk pre x
    generalize hS : runL tk pre = S at *
    generalize hS2 : runL tk (pre ++ [x]) = S2 at *
    obtain ⟨s1, s2, s3⟩ := S
    dsimp only at he h8 h9 hstep
    subst he
    have hct := fun W => hT.out (s1, s2) x W (by unfold Bx at hbx; dsimp only at hbx ⊢; omega)
    have hsw := hB1.size
    have hib := World.block_lt_of_cell? _ _ i0
    dsimp only at hib
    have h1' : 1 ≤ n - 1 - 1 := by omega
    replace hS2 := hid hS2
    replace hS := hid hS
    by_cases c : (tk (s1, s2) x).2.2 = 0
    · have hs2 := hid (hstep.trans (step_ok rfl c))
      generalize tk (s1, s2) x = T at *
      obtain ⟨r1, r2, r3⟩ := T
      dsimp only at c hct
      subst c
      replace hct := hid hct
      clear hstep hbx htk hT
      gi_wp2_with (first | (refine ⟨trivial, ?_⟩; gi_at_call 115; refine (CallsIn.inRound l (callsIn_wide.2 (hct.out _))).mono ?_; rintro e w1 ⟨rfl, hb1⟩; replace h1 := keepB hb1 h1; replace h4 := keepBF hb1 h2 h4; replace h5 := keepBF hb1 h3 h5; replace h2 := keepB hb1 h2; replace h3 := keepB hb1 h3; replace h7 := keepBF hb1 h6 h7; replace h6 := keepB hb1 h6; replace h10 := keepBF hb1 h8 h10; replace h11 := keepBF hb1 h9 h11; replace h8 := keepB hb1 h8; replace h9 := keepB hb1 h9; clear i0 i1; have g8 := World.block_lt_of_cell? w1 ⟨w.heap.size + 1 + 1 + 1, 0, none⟩ h8; dsimp only at g8; have g2 : w.heap.size + 1 < w1.heap.size := (by omega); have g6 : w.heap.size + 1 + 1 < w1.heap.size := (by omega); have g0 : w.heap.size < w1.heap.size := (by omega)) | (gi_at_call 115; refine (CallsIn.inRound l (callsIn_wide.2 (hct.out _))).mono ?_; rintro e w1 ⟨rfl, hb1⟩; replace h1 := keepB hb1 h1; replace h4 := keepBF hb1 h2 h4; replace h5 := keepBF hb1 h3 h5; replace h2 := keepB hb1 h2; replace h3 := keepB hb1 h3; replace h7 := keepBF hb1 h6 h7; replace h6 := keepB hb1 h6; replace h10 := keepBF hb1 h8 h10; replace h11 := keepBF hb1 h9 h11; replace h8 := keepB hb1 h8; replace h9 := keepB hb1 h9; clear i0 i1; have g8 := World.block_lt_of_cell? w1 ⟨w.heap.size + 1 + 1 + 1, 0, none⟩ h8; dsimp only at g8; have g2 : w.heap.size + 1 < w1.heap.size := (by omega); have g6 : w.heap.size + 1 + 1 < w1.heap.size := (by omega); have g0 : w.heap.size < w1.heap.size := (by omega)))
      have hbm : Below w.heap.size W w1 := hb1.mono hsw
      have hB2 : Below w.heap.size W (((w1.setCell ⟨w.heap.size + 1 + 1 + 1, 0, none⟩ (.int .i64 r1)).setCell ⟨w.heap.size + 1 + 1 + 1, 1, none⟩ (.int .i64 r2)).alloc (.cells #[.int .i64 r1, .int .i64 r2] 24)) := by go_grown
      have hfin := hS2.out.trans hs2.out
      exact ⟨(keepsBelow hb1).trans (((KeepsOthers.setCell _ _ _).from _).trans (((KeepsOthers.setCell _ _ _).from _).trans ((KeepsOthers.alloc _ _).from _))), hB2, ⟨⟨by rw [hfin], by
        rw [hfin]
        exact ⟨keepA _ (two_other h1 (by omega)), keepA _ (two_other h2 (by omega)), keepA _ (two_other h3 (by omega)), keepAF _ (two_other h2 (by omega)) (two_fz h4), keepAF _ (two_other h3 (by omega)) (two_fz h5),
          keepA _ (two_other h6 (by omega)), keepAF _ (two_other h6 (by omega)) (two_fz h7), keepA _ (two_0 h8), keepA _ (two_1 h9), keepAF _ (two_0 h8) (two_fz h10), keepAF _ (two_1 h9) (two_fz h11)⟩⟩, hB1.trans hB2⟩⟩
    · have hs2 := hid (hstep.trans (step_bad rfl c))
      generalize tk (s1, s2) x = T at *
      obtain ⟨r1, r2, r3⟩ := T
      dsimp only at c hct hs2
      have cb : (r3 != 0) = true := by simpa using c
      have ci : ¬ r3 = 0 := c
      replace hct := hid hct
      clear hstep hbx htk hT
      gi_wp2_with (first | (refine ⟨trivial, ?_⟩; gi_at_call 115; refine (CallsIn.inRound l (callsIn_wide.2 (hct.out _))).mono ?_; rintro e w1 ⟨rfl, hb1⟩; replace h1 := keepB hb1 h1; replace h4 := keepBF hb1 h2 h4; replace h5 := keepBF hb1 h3 h5; replace h2 := keepB hb1 h2; replace h3 := keepB hb1 h3; replace h7 := keepBF hb1 h6 h7; replace h6 := keepB hb1 h6; replace h10 := keepBF hb1 h8 h10; replace h11 := keepBF hb1 h9 h11; replace h8 := keepB hb1 h8; replace h9 := keepB hb1 h9; clear i0 i1; have g8 := World.block_lt_of_cell? w1 ⟨w.heap.size + 1 + 1 + 1, 0, none⟩ h8; dsimp only at g8; have g2 : w.heap.size + 1 < w1.heap.size := (by omega); have g6 : w.heap.size + 1 + 1 < w1.heap.size := (by omega); have g0 : w.heap.size < w1.heap.size := (by omega)) | (gi_at_call 115; refine (CallsIn.inRound l (callsIn_wide.2 (hct.out _))).mono ?_; rintro e w1 ⟨rfl, hb1⟩; replace h1 := keepB hb1 h1; replace h4 := keepBF hb1 h2 h4; replace h5 := keepBF hb1 h3 h5; replace h2 := keepB hb1 h2; replace h3 := keepB hb1 h3; replace h7 := keepBF hb1 h6 h7; replace h6 := keepB hb1 h6; replace h10 := keepBF hb1 h8 h10; replace h11 := keepBF hb1 h9 h11; replace h8 := keepB hb1 h8; replace h9 := keepB hb1 h9; clear i0 i1; have g8 := World.block_lt_of_cell? w1 ⟨w.heap.size + 1 + 1 + 1, 0, none⟩ h8; dsimp only at g8; have g2 : w.heap.size + 1 < w1.heap.size := (by omega); have g6 : w.heap.size + 1 + 1 < w1.heap.size := (by omega); have g0 : w.heap.size < w1.heap.size := (by omega)))
      have hbm : Below w.heap.size W w1 := hb1.mono hsw
      have hfin := hS2.out.trans hs2.out
      have hB2 : Below w.heap.size W ((((w1.setCell ⟨w.heap.size + 1, 0, none⟩ (.int .i64 0)).setCell ⟨w.heap.size + 1, 1, none⟩ (.int .i64 0)).setCell ⟨w.heap.size + 1 + 1, 0, none⟩ (.int .i64 r3)).alloc (.cells #[.int .i64 r1, .int .i64 r2] 24)) := by go_grown
      exact ⟨(keepsBelow hb1).trans (((KeepsOthers.setCell _ _ _).from _).trans (((KeepsOthers.setCell _ _ _).from _).trans (((KeepsOthers.setCell _ _ _).from _).trans ((KeepsOthers.alloc _ _).from _)))), ⟨⟨rfl, by rw [hfin]; exact ci⟩, by
        rw [hfin]
        exact ⟨keepA _ (one_other (two_0 h2) (by omega)), keepA _ (one_other (two_1 h3) (by omega)), keepA _ (one_same (two_other h6 (by omega)))⟩⟩, hB1.trans hB2⟩
  case done =>
    rintro D ys W hD rfl ⟨⟨he, h1, h2, h3, h4, h5, h6, h7, h8, h9, h10, h11⟩, hB1⟩ hK
    generalize hS : runL tk ys = S at *
    obtain ⟨s1, s2, s3⟩ := S
    dsimp only at he h8 h9
    subst he
    have g8 := World.block_lt_of_cell? W ⟨w.heap.size + 1 + 1 + 1, 0, none⟩ h8
    dsimp only at g8
    replace hS := hid hS
    gi_wp2
    have hK' := ((KeepsOthers.setCell W ⟨w.heap.size + 1, 0, none⟩ (.int .i64 s1)).trans ((KeepsOthers.setCell _ ⟨w.heap.size + 1, 1, none⟩ (.int .i64 s2)).trans (KeepsOthers.setCell _ ⟨w.heap.size + 1 + 1, 0, none⟩ (.int .i64 0)))).same D _ hK rfl
    refine ⟨by simp, .inl ⟨_, _, rfl, run_takeDeferred hK', ?_⟩⟩
    have hkp : ∀ b o v, (((W.setCell ⟨w.heap.size + 1, 0, none⟩ (.int .i64 s1)).setCell ⟨w.heap.size + 1, 1, none⟩ (.int .i64 s2)).setCell ⟨w.heap.size + 1 + 1, 0, none⟩ (.int .i64 0)).cell? ⟨b, o, none⟩ = some v → _ := fun b o v h => cell_kept h (grownBy_putObj' _ D (.deferred none)) (fun r e => by cases e; exact ⟨_, hK', rfl⟩)
    refine ⟨_, res_cc rfl isA_S isS_S isA_E rfl rfl (hkp _ _ _ (one_other (two_0 h2) (by omega))) (hkp _ _ _ (one_other (two_1 h3) (by omega))) (hkp _ _ _ (one_same (two_other h6 (by omega)))), by rw [hS.out], ?_⟩
    have hB2 : Below w.heap.size w (((W.setCell ⟨w.heap.size + 1, 0, none⟩ (.int .i64 s1)).setCell ⟨w.heap.size + 1, 1, none⟩ (.int .i64 s2)).setCell ⟨w.heap.size + 1 + 1, 0, none⟩ (.int .i64 0)) := by go_grown
    exact hB2.trans (belowK_b (w := w) (Nat.le_refl _) _ D _ _ (by omega) hK' rfl rfl)
  case stop =>
    rintro D c pre W hD hpre ⟨⟨⟨rfl, hne⟩, h1, h2, h3⟩, hB1⟩ hK
    gi_wp2
    refine ⟨by simp, .inl ⟨_, _, rfl, run_takeDeferred hK, ?_⟩⟩
    have hkp : ∀ b o v, W.cell? ⟨b, o, none⟩ = some v → _ := fun b o v h => cell_kept h (grownBy_putObj' _ D (.deferred none)) (fun r e => by cases e; exact ⟨_, hK, rfl⟩)
    exact ⟨_, res_cc rfl isA_S isS_S isA_E rfl rfl (hkp _ _ _ h1) (hkp _ _ _ h2) (hkp _ _ _ h3), by rw [run_pre tk hpre hne], hB1.trans (belowK_b (w := w) (Nat.le_refl _) W D _ _ (by omega) hK rfl rfl)⟩
end Go.Proofs.Ytjleflfncijnpaa
