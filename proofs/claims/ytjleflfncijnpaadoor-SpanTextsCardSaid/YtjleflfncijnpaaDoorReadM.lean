/- What a text says. -/
import Derived.Lib.IndexMore
import Derived.Laws.Strings
import Derived.Test.YtjleflfncijnpaaDoorRows
import Derived.Test.YtjleflfncijnpaaDoorBase
import Derived.Test.YtjleflfncijnpaaDoorFacts
import Derived.Test.YtjleflfncijnpaaDoorTwo
import Derived.Deep.RegionHeld3
import Derived.Deep.RegionWith
import Derived.Deep.QuietTactic
import Derived.BigQuiet
import Derived.Test.YtjleflfncijnpaaDoorSeq
import Derived.Test.YtjleflfncijnpaaDoorTextM
set_option linter.unusedVariables false
set_option linter.unusedSimpArgs false
set_option maxHeartbeats 4000000
set_option maxRecDepth 100000
namespace Go.Proofs.YtjleflfncijnpaaDoor
open Go Go.RowKit
/-- Is a byte a digit? -/
def isD (b : UInt8) : Bool := decide (48 ≤ b.toNat ∧ b.toNat ≤ 57)
def valD (l : List UInt8) : Nat := l.foldl (fun a b => 10 * a + (b.toNat - 48)) 0
theorem byte_some {l : List UInt8} {k : Nat} (h : k < l.length) : ∃ b, l[k]? = some b := ⟨l[k], List.getElem?_eq_getElem h⟩
theorem take_snoc {l : List UInt8} {k : Nat} {b : UInt8} (h : l[k]? = some b) : l.take (k + 1) = l.take k ++ [b] := by
  have hk : k < l.length := (List.getElem?_eq_some_iff.1 h).1
  have hv : l[k] = b := by have := List.getElem?_eq_getElem hk; rw [h] at this; exact (Option.some.inj this).symm
  rw [List.take_succ_eq_append_getElem hk, hv]
theorem idx_at {l : List UInt8} {k : Nat} {b : UInt8} (h : l[k]? = some b) (W : World) : (Instr.index 9 (.string ⟨l.toArray⟩) (.int .i64 (k : Int))).run Tryd.prog W = .ok (.int .u8 (b.toNat : Int)) W := by
  have hk : k < l.length := (List.getElem?_eq_some_iff.1 h).1
  have hv : l[k] = b := by have := List.getElem?_eq_getElem hk; rw [h] at this; exact (Option.some.inj this).symm
  have hs : (⟨l.toArray⟩ : ByteArray).size = l.length := rfl
  rw [run_index_string W _ _ _ _ Tryd.underlying9, dif_pos (by rw [hs]; omega)]
  subst hv
  rfl
theorem all_bad {l : List UInt8} {k : Nat} {b : UInt8} (h : l[k]? = some b) (hb : isD b = false) : l.all isD = false := by
  rw [List.all_eq_false]
  exact ⟨b, List.mem_of_getElem? h, by rw [hb]; simp⟩
theorem all_snoc {l : List UInt8} {k : Nat} {b : UInt8} (h : l[k]? = some b) (hb : isD b = true) (ha : (l.take k).all isD = true) : (l.take (k + 1)).all isD = true := by
  rw [take_snoc h, List.all_append, ha, List.all_cons, hb]; rfl
theorem isD_true {b : UInt8} (h : 48 ≤ (b.toNat : Int)) (h2 : (b.toNat : Int) ≤ 57) : isD b = true := decide_eq_true (by omega)
theorem isD_false {b : UInt8} (h : (b.toNat : Int) < 48 ∨ 57 < (b.toNat : Int)) : isD b = false := decide_eq_false (by omega)
theorem val_snoc {l : List UInt8} {k : Nat} {b : UInt8} (h : l[k]? = some b) : valD (l.take (k + 1)) = 10 * valD (l.take k) + (b.toNat - 48) := by
  rw [take_snoc h]; unfold valD; rw [List.foldl_append]; rfl
theorem val_more : ∀ (l : List UInt8) (a : Nat), a ≤ l.foldl (fun a b => 10 * a + (b.toNat - 48)) a
  | [], _ => Nat.le_refl _
  | b :: l, a => Nat.le_trans (by omega) (val_more l (10 * a + (b.toNat - 48)))
theorem val_take (l : List UInt8) (k : Nat) : valD (l.take k) ≤ valD l := by
  have e : l = l.take k ++ l.drop k := (List.take_append_drop k l).symm
  have h : valD l = (l.drop k).foldl (fun a b => 10 * a + (b.toNat - 48)) (valD (l.take k)) := by
    conv => lhs; rw [e]
    unfold valD; rw [List.foldl_append]
  rw [h]; exact val_more _ _
end Go.Proofs.YtjleflfncijnpaaDoor
