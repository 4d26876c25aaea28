/- The plain words of this seat: numbers of 128 bits as integers, spans, what follows of a call. Nothing of the program is named here. -/
import Derived.WalkKit
import Derived.WalkSpells
import Derived.WalkLawsBesides
import Derived.Handy
import Derived.Laws.ResultCell
set_option linter.unusedVariables false
set_option linter.unusedSimpArgs false
namespace Go.Proofs.Ytlpbkifiidlllaa
open Go Go.RowKit

@[simp, go_sem] theorem lt2 (n : Nat) : n < n + 1 + 1 := by omega
@[simp, go_sem] theorem lt3 (n : Nat) : n < n + 1 + 1 + 1 := by omega
@[simp, go_sem] theorem lt4 (n : Nat) : n < n + 1 + 1 + 1 + 1 := by omega
@[simp, go_sem] theorem lt5 (n : Nat) : n < n + 1 + 1 + 1 + 1 + 1 := by omega
@[simp, go_sem] theorem lt6 (n : Nat) : n < n + 1 + 1 + 1 + 1 + 1 + 1 := by omega
@[simp, go_sem] theorem lt7 (n : Nat) : n < n + 1 + 1 + 1 + 1 + 1 + 1 + 1 := by omega
@[simp, go_sem] theorem lt8 (n : Nat) : n < n + 1 + 1 + 1 + 1 + 1 + 1 + 1 + 1 := by omega
/-- What a call leaves: what it returns; below: as it was, from the caller's start and up to block B, the caller's own. -/
theorem use {P : Program} {f : FuncId} {args : Array Value} (w : World) (B : Nat) {W : World} {R : Ending → Prop} {Q : Ending → World → Prop} (hc : Calls P f args W (fun e w' => R e ∧ Below W.heap.size W w')) (hW : Below w.heap.size w W) (hB : B ≤ W.heap.size)
    (k : ∀ e w1, R e → Below w.heap.size w w1 → (∀ b o, b < B → w1.cell? ⟨b, o, none⟩ = W.cell? ⟨b, o, none⟩) → (∀ b o, b < B → w1.frozen? ⟨b, o, none⟩ = W.frozen? ⟨b, o, none⟩) → (∀ b, b < B → b < w1.heap.size) → B ≤ w1.heap.size → Q e w1) : Calls P f args W Q :=
  Calls.mono hc fun e w1 ⟨hr, hb⟩ => k e w1 hr (hW.trans (hb.mono hW.size)) (fun b o h => hb.cell (p := ⟨b, o, none⟩) (Nat.lt_of_lt_of_le h hB)) (fun b o h => hb.frozen (p := ⟨b, o, none⟩) (Nat.lt_of_lt_of_le h hB)) (fun _ h => Nat.lt_of_lt_of_le h (Nat.le_trans hB hb.size)) (Nat.le_trans hB hb.size)
theorem hid {p : Prop} (h : p) : Hid p := h
theorem ret_int {k : IntKind} {a b : Int} (h : a = b) : Ending.returned (.int k a) = .returned (.int k b) := by rw [h]
theorem ret_bool {a b : Bool} (h : a = b) : Ending.returned (.bool a) = .returned (.bool b) := by rw [h]

theorem load2 {P : Program} {t : TypeId} {w : World} {b : Nat} {v0 v1 : Value} (hA : ∀ w, (isAgg t).run P w = .ok true w) (hS : ∀ w, (sizeOf t).run P w = .ok 2 w)
    (c0 : w.cell? ⟨b, 0, none⟩ = some v0) (c1 : w.cell? ⟨b, 1, none⟩ = some v1) : (loadVar t ⟨b, 0, none⟩).run P w = .ok (.agg #[v0, v1]) w := by
  simp [loadVar, hA, hS, loadCellsFrom, go_sem, c0, c1]
theorem res_st_t {P : Program} {fn : Func} {p u : Tmp} {t : TypeId} {tmps : Array Value} {w : World} {b : Nat} {v0 v1 : Value} (h : fn.results = #[.cell p t, .tmp u]) (hA : ∀ w, (isAgg t).run P w = .ok true w) (hS : ∀ w, (sizeOf t).run P w = .ok 2 w)
    (hp : tmps.getD p undef = .pointer (some ⟨b, 0, none⟩)) (c0 : w.cell? ⟨b, 0, none⟩ = some v0) (c1 : w.cell? ⟨b, 1, none⟩ = some v1) : (results fn tmps).run P w = .ok (.tuple #[.agg #[v0, v1], tmps.getD u undef]) w := by
  rw [results_cell_tmp h, hp]
  simp only [asAddr, Sem.run_pure, Result.andThen, load2 hA hS c0 c1]
theorem res_st {P : Program} {fn : Func} {p : Tmp} {t : TypeId} {tmps : Array Value} {w : World} {b : Nat} {v0 v1 : Value} (h : fn.results = #[.cell p t]) (hA : ∀ w, (isAgg t).run P w = .ok true w) (hS : ∀ w, (sizeOf t).run P w = .ok 2 w)
    (hp : tmps.getD p undef = .pointer (some ⟨b, 0, none⟩)) (c0 : w.cell? ⟨b, 0, none⟩ = some v0) (c1 : w.cell? ⟨b, 1, none⟩ = some v1) : (results fn tmps).run P w = .ok (.agg #[v0, v1]) w := by
  have hl := load2 (P := P) hA hS c0 c1
  have hp' : tmps[p]?.getD undef = .pointer (some ⟨b, 0, none⟩) := by simpa using hp
  simp only [results, h]
  simp [Sem.run_bind, asAddr, hp', hl]
theorem res_st_st {P : Program} {fn : Func} {p q : Tmp} {t u : TypeId} {tmps : Array Value} {w : World} {b c : Nat} {v0 v1 u0 u1 : Value} (h : fn.results = #[.cell p t, .cell q u]) (hA : ∀ w, (isAgg t).run P w = .ok true w) (hS : ∀ w, (sizeOf t).run P w = .ok 2 w)
    (hA' : ∀ w, (isAgg u).run P w = .ok true w) (hS' : ∀ w, (sizeOf u).run P w = .ok 2 w)
    (hp : tmps.getD p undef = .pointer (some ⟨b, 0, none⟩)) (hq : tmps.getD q undef = .pointer (some ⟨c, 0, none⟩)) (c0 : w.cell? ⟨b, 0, none⟩ = some v0) (c1 : w.cell? ⟨b, 1, none⟩ = some v1)
    (d0 : w.cell? ⟨c, 0, none⟩ = some u0) (d1 : w.cell? ⟨c, 1, none⟩ = some u1) : (results fn tmps).run P w = .ok (.tuple #[.agg #[v0, v1], .agg #[u0, u1]]) w := by
  have hl := load2 (P := P) hA hS c0 c1
  have hl' := load2 (P := P) hA' hS' d0 d1
  have hp' : tmps[p]?.getD undef = .pointer (some ⟨b, 0, none⟩) := by simpa using hp
  have hq' : tmps[q]?.getD undef = .pointer (some ⟨c, 0, none⟩) := by simpa using hq
  simp only [results, h]
  simp [Sem.run_bind, asAddr, hp', hq', hl, hl']
theorem res_st_st_t {P : Program} {fn : Func} {p q r : Tmp} {t u : TypeId} {tmps : Array Value} {w : World} {b c : Nat} {v0 v1 u0 u1 : Value} (h : fn.results = #[.cell p t, .cell q u, .tmp r]) (hA : ∀ w, (isAgg t).run P w = .ok true w) (hS : ∀ w, (sizeOf t).run P w = .ok 2 w)
    (hA' : ∀ w, (isAgg u).run P w = .ok true w) (hS' : ∀ w, (sizeOf u).run P w = .ok 2 w)
    (hp : tmps.getD p undef = .pointer (some ⟨b, 0, none⟩)) (hq : tmps.getD q undef = .pointer (some ⟨c, 0, none⟩)) (c0 : w.cell? ⟨b, 0, none⟩ = some v0) (c1 : w.cell? ⟨b, 1, none⟩ = some v1)
    (d0 : w.cell? ⟨c, 0, none⟩ = some u0) (d1 : w.cell? ⟨c, 1, none⟩ = some u1) : (results fn tmps).run P w = .ok (.tuple #[.agg #[v0, v1], .agg #[u0, u1], tmps.getD r undef]) w := by
  have hl := load2 (P := P) hA hS c0 c1
  have hl' := load2 (P := P) hA' hS' d0 d1
  have hp' : tmps[p]?.getD undef = .pointer (some ⟨b, 0, none⟩) := by simpa using hp
  have hq' : tmps[q]?.getD undef = .pointer (some ⟨c, 0, none⟩) := by simpa using hq
  simp only [results, h]
  simp [Sem.run_bind, asAddr, hp', hq', hl, hl']

/-! A W as an integer, modulo 2^128. -/
def hiW (n : Int) : Int := (n / 18446744073709551616 + 9223372036854775808) % 18446744073709551616 - 9223372036854775808
def loW (n : Int) : Int := n % 18446744073709551616
theorem hiW_bd (n : Int) : -9223372036854775808 ≤ hiW n ∧ hiW n ≤ 9223372036854775807 := by unfold hiW; omega
theorem loW_bd (n : Int) : 0 ≤ loW n ∧ loW n ≤ 18446744073709551615 := by unfold loW; omega
theorem ret_w {a b c d : Int} (h : a = c) (k : b = d) : Ending.returned (.agg #[.int .i64 a, .int .u64 b]) = .returned (.agg #[.int .i64 c, .int .u64 d]) := by rw [h, k]
theorem ret_v {a b c d : Int} (h : a = c) (k : b = d) : Ending.returned (.agg #[.int .u64 a, .int .u64 b]) = .returned (.agg #[.int .u64 c, .int .u64 d]) := by rw [h, k]
theorem ret_ww {a b c d a' b' c' d' : Int} (h : a = a') (k : b = b') (h2 : c = c') (k2 : d = d') : Ending.returned (.tuple #[.agg #[.int .i64 a, .int .u64 b], .agg #[.int .i64 c, .int .u64 d]]) = .returned (.tuple #[.agg #[.int .i64 a', .int .u64 b'], .agg #[.int .i64 c', .int .u64 d']]) := by rw [h, k, h2, k2]
theorem ret_s {a b c d : Int} (h : a = c) (k : b = d) : Ending.returned (.agg #[.int .i64 a, .int .i64 b]) = .returned (.agg #[.int .i64 c, .int .i64 d]) := by rw [h, k]
theorem ret_r {a b e : Int} {p : Int × Int × Int} (h : (a, b, e) = p) : Ending.returned (.tuple #[.agg #[.int .i64 a, .int .i64 b], .int .i64 e]) = .returned (.tuple #[.agg #[.int .i64 p.1, .int .i64 p.2.1], .int .i64 p.2.2]) := by subst h; rfl
theorem ret_rn {a e : Int} {p : Int × Int} (h : (a, e) = p) : Ending.returned (.tuple #[.int .i64 a, .int .i64 e]) = .returned (.tuple #[.int .i64 p.1, .int .i64 p.2]) := by subst h; rfl

theorem not_i64 (x : Int) (h : -9223372036854775808 ≤ x ∧ x ≤ 9223372036854775807) : bits .xor .i64 (-1) x = -x - 1 := by
  have h1 : BitVec.ofInt 64 (-1) = BitVec.allOnes 64 := by decide
  show IntKind.i64.wrap ((BitVec.ofInt 64 (-1) ^^^ BitVec.ofInt 64 x).toNat : Nat) = _
  rw [h1, BitVec.allOnes_xor, BitVec.toNat_not, BitVec.toNat_ofInt, IntKind.wrap_i64]; omega
theorem not_u64 (x : Int) (h : 0 ≤ x ∧ x ≤ 18446744073709551615) : bits .xor .u64 IntKind.u64.max x = 18446744073709551615 - x := by
  have h1 : BitVec.ofInt 64 IntKind.u64.max = BitVec.allOnes 64 := by decide
  show IntKind.u64.wrap ((BitVec.ofInt 64 IntKind.u64.max ^^^ BitVec.ofInt 64 x).toNat : Nat) = _
  rw [h1, BitVec.allOnes_xor, BitVec.toNat_not, BitVec.toNat_ofInt, IntKind.wrap_u64]; omega
/-- Without its sign. -/
def ab (n : Int) : Int := if n < 0 then -n else n
theorem ab_bd {n : Int} (h : -9223372036854775808 ≤ n ∧ n ≤ 9223372036854775807) : 0 ≤ ab n ∧ ab n ≤ 9223372036854775808 := by unfold ab; split <;> omega
theorem mul_bd {x y a b : Int} (hx : 0 ≤ x ∧ x ≤ a) (hy : 0 ≤ y ∧ y ≤ b) : 0 ≤ x * y ∧ x * y ≤ a * b :=
  ⟨Int.mul_nonneg hx.1 hy.1, Int.mul_le_mul hx.2 hy.2 hy.1 (by omega)⟩
/-! Spans. -/
def chk (lo hi : Int) : Int := if lo < -9223372036854775807 ∨ hi < -9223372036854775807 ∨ hi < lo then 2 else 0
def bothS (al ah bl bh : Int) : Int := if chk al ah = 0 then chk bl bh else chk al ah
def fitS (lo hi : Int) : Int × Int × Int := if -9223372036854775807 ≤ lo ∧ lo ≤ 9223372036854775807 ∧ -9223372036854775807 ≤ hi ∧ hi ≤ 9223372036854775807 then (lo, hi, 0) else (0, 0, 4)
theorem chk_cases (lo hi : Int) : (chk lo hi = 0 ∧ -9223372036854775807 ≤ lo ∧ lo ≤ hi) ∨ (chk lo hi = 2 ∧ (lo < -9223372036854775807 ∨ hi < -9223372036854775807 ∨ hi < lo)) := by
  unfold chk; split <;> omega
theorem chk_zero : chk 0 0 = 0 := by decide
def inS (lo hi n : Int) : Bool := decide (chk lo hi = 0 ∧ lo ≤ n ∧ n ≤ hi)
def withinS (al ah bl bh : Int) : Bool := decide (bothS al ah bl bh = 0 ∧ bl ≤ al ∧ ah ≤ bh)
def orderS (al ah bl bh : Int) : Int := if bothS al ah bl bh = 0 then (if ah < bl then -1 else if bh < al then 1 else 0) else 0
theorem both_cases (al ah bl bh : Int) : (bothS al ah bl bh = 0 ∧ chk al ah = 0 ∧ chk bl bh = 0 ∧ -9223372036854775807 ≤ al ∧ al ≤ ah ∧ -9223372036854775807 ≤ bl ∧ bl ≤ bh) ∨ bothS al ah bl bh = 2 := by
  have h1 := chk_cases al ah; have h2 := chk_cases bl bh; unfold bothS
  split <;> omega
def addN (x y : Int) : Int := if -9223372036854775807 ≤ x + y ∧ x + y ≤ 9223372036854775807 then x + y else 0
def addF (x y : Int) : Bool := decide (-9223372036854775807 ≤ x + y ∧ x + y ≤ 9223372036854775807)
def addS (al ah bl bh : Int) : Int × Int × Int := if bothS al ah bl bh = 0 then fitS (al + bl) (ah + bh) else (0, 0, 2)
def subS (al ah bl bh : Int) : Int × Int × Int := if bothS al ah bl bh = 0 then fitS (al - bh) (ah - bl) else (0, 0, 2)
def negS (lo hi : Int) : Int × Int × Int := if chk lo hi = 0 then (-hi, -lo, 0) else (0, 0, 2)
end Go.Proofs.Ytlpbkifiidlllaa
