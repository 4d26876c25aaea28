/- What the text of a number is. -/
import Derived.OwnWalk
import Derived.Lib.AppendStr
import Derived.Lib.Itoa
import Derived.Lib.ItoaLen
import Derived.Lib.UnsafeStr
import Derived.Test.YtjleflfncijnpaaDoorRows
import Derived.Test.YtjleflfncijnpaaDoorBase
import Derived.Test.YtjleflfncijnpaaDoorFacts
import Derived.Test.YtjleflfncijnpaaDoorTwo
import Derived.Deep.RegionHeld3
import Derived.Deep.RegionWith
import Derived.Deep.QuietTactic
import Derived.BigQuiet
import Derived.Test.YtjleflfncijnpaaDoorSeq
set_option linter.unusedVariables false
set_option linter.unusedSimpArgs false
set_option maxHeartbeats 4000000
set_option maxRecDepth 100000
namespace Go.Proofs.YtjleflfncijnpaaDoor
open Go Go.RowKit
def digC (r : Nat) : UInt8 := UInt8.ofNat (48 + r * 10 / 4294967296)
/-- The digits behind the point. -/
def fracD : Nat → Nat → List UInt8
  | 0, _ => []
  | f + 1, r => if r = 0 then [] else digC r :: fracD f (r * 10 % 4294967296)
def GoodF (f r : Nat) : Prop := r < 4294967296 ∧ f ≤ 32 ∧ 2 ^ (32 - f) ∣ r
theorem goodF_zero {r : Nat} (h : GoodF 0 r) : r = 0 := by
  obtain ⟨h1, _, h2⟩ := h
  exact Nat.eq_zero_of_dvd_of_lt h2 (by simpa using h1)
theorem goodF_start {r : Nat} (h : r < 4294967296) : GoodF 32 r := ⟨h, by omega, by simp⟩
theorem goodF_next {f r : Nat} (h : GoodF (f + 1) r) : GoodF f (r * 10 % 4294967296) := by
  obtain ⟨h1, h2, h3⟩ := h
  refine ⟨Nat.mod_lt _ (by omega), by omega, ?_⟩
  have e : 32 - f = 32 - (f + 1) + 1 := by omega
  have d : 2 ^ (32 - (f + 1) + 1) ∣ 2 ^ 32 := Nat.pow_dvd_pow 2 (by omega)
  rw [show (2 ^ 32 : Nat) = 4294967296 from rfl] at d
  rw [e, Nat.dvd_mod_iff d, Nat.pow_succ]
  obtain ⟨m, hm⟩ := h3
  refine ⟨m * 5, ?_⟩
  rw [hm, Nat.mul_assoc, Nat.mul_assoc]
  congr 1
  omega
theorem frac_cons {f r : Nat} (h : r ≠ 0) : fracD (f + 1) r = digC r :: fracD f (r * 10 % 4294967296) := if_neg h
theorem frac_nil (f : Nat) : fracD f 0 = [] := by cases f <;> rfl
theorem frac_length : ∀ f r : Nat, (fracD f r).length ≤ f
  | 0, _ => Nat.le_refl _
  | f + 1, r => by
    unfold fracD; split
    · exact Nat.zero_le _
    · exact Nat.succ_le_succ (frac_length f _)
theorem byte_nat {k : Nat} (h : k < 256) : (UInt8.ofNat k).toNat = k := by
  rw [UInt8.toNat_ofNat']; exact Nat.mod_eq_of_lt h
theorem digC_nat {r : Nat} (h : r < 4294967296) : (digC r).toNat = 48 + r * 10 / 4294967296 := byte_nat (by omega)
def signD (n : Int) : List UInt8 := if n < 0 then [45] else []
def tailD (r : Nat) : List UInt8 := if r = 0 then [] else 46 :: fracD 32 r
/-- The text of a number. -/
def textS (n : Int) : List UInt8 := if n = -9223372036854775808 then [] else signD n ++ Lib.decDigits (n.natAbs / 4294967296) ++ tailD (n.natAbs % 4294967296)
theorem sign_length (n : Int) : (signD n).length ≤ 1 := by unfold signD; split <;> simp
theorem tail_length (r : Nat) : (tailD r).length ≤ 33 := by
  unfold tailD; split
  · simp
  · have := frac_length 32 r; simp; omega
theorem dec_length {u : Nat} (h : u < 18446744073709551616) : 1 ≤ (Lib.decDigits u).length ∧ (Lib.decDigits u).length ≤ 20 := by
  rw [Lib.decDigits_length]
  exact ⟨Lib.nDigits_pos u, Lib.nDigits_le20 u h⟩
theorem text_length (n : Int) (h : -9223372036854775808 ≤ n ∧ n ≤ 9223372036854775807) : (textS n).length ≤ 54 := by
  unfold textS; split
  · simp
  · have a := sign_length n
    have b := tail_length (n.natAbs % 4294967296)
    have c := (dec_length (u := n.natAbs / 4294967296) (by omega)).2
    simp only [List.length_append]
    omega
/-- How long a slice or a string is. -/
def lenV : Value → Nat
  | .slice _ n _ => n
  | .string s => s.size
  | _ => 0
/-- A row of bytes of the call's own. -/
def OwnB (B : Nat) (l : List UInt8) (v : Value) (w : World) : Prop := w.ownsRow B 5 1 v l.length (Lib.byteCells l)
theorem OwnB.len {B : Nat} {l : List UInt8} {v : Value} {w : World} (h : OwnB B l v w) : lenV v = l.length := by
  obtain ⟨_, ⟨rfl, h2⟩ | ⟨g, cap, cur, rfl, _⟩⟩ := h
  · exact h2.symm
  · rfl
theorem OwnB.nil (B : Nat) (w : World) : OwnB B [] (.slice none 0 0) w := ⟨rfl, Or.inl ⟨rfl, rfl⟩⟩
theorem OwnB.of {B : Nat} {l : List UInt8} {c : UInt8} {b : Int} {v : Value} {w : World} (h : w.ownsRow B 5 1 v (l.length + 1) (Lib.byteCells l ++ [.int .u8 b])) (hb : b = (c.toNat : Int)) : OwnB B (l ++ [c]) v w := by
  subst hb
  unfold OwnB
  rw [List.length_append, Lib.byteCells_append]
  exact h
theorem OwnB.app {B : Nat} {l m : List UInt8} {v : Value} {w : World} (h : w.ownsRow B 5 1 v (l.length + m.length) (Lib.byteCells l ++ Lib.byteCells m)) : OwnB B (l ++ m) v w := by
  unfold OwnB
  rw [List.length_append, Lib.byteCells_append]
  exact h
/-- The bytes as a string. -/
theorem own_string {B : Nat} {l : List UInt8} {v : Value} {w : World} (h : OwnB B l v w) (hl : 1 ≤ l.length) : (convert 91 9 v).run Tryd.prog w = .ok (.string ⟨l.toArray⟩) w := by
  obtain ⟨h1, ⟨_, hn⟩ | ⟨g, cap, cur, rfl, hg1, hg2, hg3, hg4, hg5, hg6⟩⟩ := id h
  · omega
  · have hc := World.ownsRow.cells h (g := g) rfl
    refine @Go.run_convert_bytes_back Tryd.prog w 91 9 5 ⟨g, 0, none⟩ cap l Tryd.underlying91 Tryd.underlying5 Tryd.underlying9 (fun j hj => hc j _ ?_)
    simp [Lib.byteCells, List.getElem?_eq_getElem hj]
/-- One byte as a string. -/
theorem conv_byte (w : World) (b : Int) (c : UInt8) (h : b = (c.toNat : Int)) : (convert 91 9 (.slice (some ⟨w.heap.size, 0, none⟩) 1 1)).run Tryd.prog (w.alloc (.cells #[.int .u8 b] 5)) = .ok (.string ⟨#[c]⟩) (w.alloc (.cells #[.int .u8 b] 5)) := by
  subst h
  refine @Go.run_convert_bytes_back Tryd.prog (w.alloc (.cells #[.int .u8 (c.toNat : Int)] 5)) 91 9 5 ⟨w.heap.size, 0, none⟩ 1 [c] Tryd.underlying91 Tryd.underlying5 Tryd.underlying9 (fun j hj => ?_)
  obtain rfl : j = 0 := by simp at hj; omega
  simp [go_sem, Addr.add]
end Go.Proofs.YtjleflfncijnpaaDoor
