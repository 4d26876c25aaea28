/- The plain words of this seat: numbers of 128 bits as integers, spans, what follows of a call. Nothing of the program is named here. -/
import Derived.WalkKit
import Derived.WalkSpells
import Derived.WalkLawsBesides
import Derived.Handy
set_option linter.unusedVariables false
set_option linter.unusedSimpArgs false
namespace Go.Proofs.Ytbahajcgdmbjcaa
open Go Go.RowKit

@[simp, go_sem] theorem lt2 (n : Nat) : n < n + 1 + 1 := by omega
@[simp, go_sem] theorem lt3 (n : Nat) : n < n + 1 + 1 + 1 := by omega
@[simp, go_sem] theorem lt4 (n : Nat) : n < n + 1 + 1 + 1 + 1 := by omega
@[simp, go_sem] theorem lt5 (n : Nat) : n < n + 1 + 1 + 1 + 1 + 1 := by omega
@[simp, go_sem] theorem lt6 (n : Nat) : n < n + 1 + 1 + 1 + 1 + 1 + 1 := by omega
@[simp, go_sem] theorem lt7 (n : Nat) : n < n + 1 + 1 + 1 + 1 + 1 + 1 + 1 := by omega
@[simp, go_sem] theorem lt8 (n : Nat) : n < n + 1 + 1 + 1 + 1 + 1 + 1 + 1 + 1 := by omega
/-- What a call leaves: what it returns; below: as it was, from the caller's start and up to block B, the caller's own. -/
theorem use {P : Program} {f : FuncId} {args : Array Value} (w : World) (B : Nat) {W : World} {R : Ending → Prop} {Q : Ending → World → Prop} (hc : Calls P f args W (fun e w' => R e ∧ Below W.heap.size W w')) (hW : Below w.heap.size w W) (hB : B ≤ W.heap.size)
    (k : ∀ e w1, R e → Below w.heap.size w w1 → (∀ b o, b < B → w1.cell? ⟨b, o, none⟩ = W.cell? ⟨b, o, none⟩) → (∀ b o, b < B → w1.frozen? ⟨b, o, none⟩ = W.frozen? ⟨b, o, none⟩) → (∀ b, b < B → b < w1.heap.size) → B ≤ w1.heap.size → Q e w1) : Calls P f args W Q :=
  Calls.mono hc fun e w1 ⟨hr, hb⟩ => k e w1 hr (hW.trans (hb.mono hW.size)) (fun b o h => hb.cell (p := ⟨b, o, none⟩) (Nat.lt_of_lt_of_le h hB)) (fun b o h => hb.frozen (p := ⟨b, o, none⟩) (Nat.lt_of_lt_of_le h hB)) (fun _ h => Nat.lt_of_lt_of_le h (Nat.le_trans hB hb.size)) (Nat.le_trans hB hb.size)
theorem hid {p : Prop} (h : p) : Hid p := h
theorem ret_int {k : IntKind} {a b : Int} (h : a = b) : Ending.returned (.int k a) = .returned (.int k b) := by rw [h]
theorem ret_bool {a b : Bool} (h : a = b) : Ending.returned (.bool a) = .returned (.bool b) := by rw [h]

/-! A W as an integer, modulo 2^128. -/
def hiW (n : Int) : Int := (n / 18446744073709551616 + 9223372036854775808) % 18446744073709551616 - 9223372036854775808
def loW (n : Int) : Int := n % 18446744073709551616
theorem hiW_bd (n : Int) : -9223372036854775808 ≤ hiW n ∧ hiW n ≤ 9223372036854775807 := by unfold hiW; omega
theorem loW_bd (n : Int) : 0 ≤ loW n ∧ loW n ≤ 18446744073709551615 := by unfold loW; omega
theorem ret_w {a b c d : Int} (h : a = c) (k : b = d) : Ending.returned (.agg #[.int .i64 a, .int .u64 b]) = .returned (.agg #[.int .i64 c, .int .u64 d]) := by rw [h, k]
theorem ret_s {a b c d : Int} (h : a = c) (k : b = d) : Ending.returned (.agg #[.int .i64 a, .int .i64 b]) = .returned (.agg #[.int .i64 c, .int .i64 d]) := by rw [h, k]
theorem ret_r {a b e : Int} {p : Int × Int × Int} (h : (a, b, e) = p) : Ending.returned (.tuple #[.agg #[.int .i64 a, .int .i64 b], .int .i64 e]) = .returned (.tuple #[.agg #[.int .i64 p.1, .int .i64 p.2.1], .int .i64 p.2.2]) := by subst h; rfl
theorem ret_rn {a e : Int} {p : Int × Int} (h : (a, e) = p) : Ending.returned (.tuple #[.int .i64 a, .int .i64 e]) = .returned (.tuple #[.int .i64 p.1, .int .i64 p.2]) := by subst h; rfl

/-! Spans. -/
def chk (lo hi : Int) : Int := if lo < -9223372036854775807 ∨ hi < -9223372036854775807 ∨ hi < lo then 2 else 0
def bothS (al ah bl bh : Int) : Int := if chk al ah = 0 then chk bl bh else chk al ah
def fitS (lo hi : Int) : Int × Int × Int := if -9223372036854775807 ≤ lo ∧ lo ≤ 9223372036854775807 ∧ -9223372036854775807 ≤ hi ∧ hi ≤ 9223372036854775807 then (lo, hi, 0) else (0, 0, 4)
theorem chk_cases (lo hi : Int) : (chk lo hi = 0 ∧ -9223372036854775807 ≤ lo ∧ lo ≤ hi) ∨ (chk lo hi = 2 ∧ (lo < -9223372036854775807 ∨ hi < -9223372036854775807 ∨ hi < lo)) := by
  unfold chk; split <;> omega
theorem chk_zero : chk 0 0 = 0 := by decide
def inS (lo hi n : Int) : Bool := decide (chk lo hi = 0 ∧ lo ≤ n ∧ n ≤ hi)
def withinS (al ah bl bh : Int) : Bool := decide (bothS al ah bl bh = 0 ∧ bl ≤ al ∧ ah ≤ bh)
def orderS (al ah bl bh : Int) : Int := if bothS al ah bl bh = 0 then (if ah < bl then -1 else if bh < al then 1 else 0) else 0
end Go.Proofs.Ytbahajcgdmbjcaa
