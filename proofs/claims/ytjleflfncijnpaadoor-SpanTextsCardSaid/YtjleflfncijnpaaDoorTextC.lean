/- The text of -1/4; a byte behind a slice of the call's own. -/
import Derived.OwnWalk
import Derived.Lib.AppendStr
import Derived.Lib.Itoa
import Derived.Lib.Hide
import Derived.Laws.IdiomStrings
import Derived.Test.YtjleflfncijnpaaDoorRows
import Derived.Test.YtjleflfncijnpaaDoorBase
import Derived.Test.YtjleflfncijnpaaDoorFacts
import Derived.Test.YtjleflfncijnpaaDoorTwo
import Derived.Deep.RegionHeld3
import Derived.Deep.RegionWith
import Derived.Deep.QuietTactic
import Derived.BigQuiet
import Derived.Test.YtjleflfncijnpaaDoorSeq
import Derived.Test.YtjleflfncijnpaaDoorShelf
set_option linter.unusedVariables false
set_option linter.unusedSimpArgs false
set_option maxHeartbeats 4000000
set_option maxRecDepth 100000
namespace Go.Proofs.YtjleflfncijnpaaDoor
open Go Go.RowKit
theorem Tryd.info5 : (Tryd.prog.info? 5).map (fun i => (i.zero, i.size, i.bytes)) = some (some (.int .u8 0), 1, 1) := by kernel_rfl
theorem ret_str {l m : List UInt8} (h : l = m) : Ending.returned (.string ⟨l.toArray⟩) = .returned (.string ⟨m.toArray⟩) := by rw [h]
theorem app_byte {ops : Array Oper} {rest : List Oper} {o : Oper} {a : Act} {Q : Exit → Act → World → Prop} {w0 : World} (hgd : o.guard = none) (s x : Operand)
    (ho : o.op = .call { callee := .builtin .append, args := #[s, x], argTypes := #[91, 91] }) (B : Nat) (v : Value) (n : Nat) (xs : List Value) (hs : a.eval s = v) (hown : w0.ownsRow B 5 1 v n xs) (b : Int)
    (hx : a.eval x = .slice (some ⟨w0.heap.size, 0, none⟩) 1 1) (hn : n < 1000000) (hB : B ≤ w0.heap.size)
    (h : ∀ v' w', w'.ownsRow B 5 1 v' (n + 1) (xs ++ [.int .u8 b]) → Below B w0 w' → wpList Tryd.prog ops Q rest (a.put o.dst v') w') : wpList Tryd.prog ops Q (o :: rest) a (w0.alloc (.cells #[.int .u8 b] 5)) := by
  obtain ⟨i0, hi, hz0, hz1, hz2⟩ := info_parts Tryd.info5
  refine wpList_append_own _ hgd s x 91 ho B 5 i0 (.int .u8 0) 1 1 Tryd.underlying91 hi hz0 hz1 hz2 rfl (by decide) v n xs hs (hown.alloc _) ⟨w0.heap.size, 0, none⟩ 1 1 [.int .u8 b] hx rfl ?_ ?_ ?_ ?_ ?_ ?_
  · intro j u hj
    cases j with
    | zero => simp at hj; subst hj; simp [Addr.add, go_sem]
    | succ j => simp at hj
  · intro u hu; simp at hu; subst hu; rfl
  · unfold maxLen; omega
  · omega
  · simp [go_sem]; omega
  · intro v' w' h1 h2 _
    refine h v' w' h1 ?_
    refine ((Below.refl B _).alloc hB _).trans ((Below.refl B _).grown h2 (by simp [go_sem]; omega) (fun k hk => (hown.lt k hk).1))
/-- AppendUint of a digit. -/
theorem iau_small (B n u : Nat) (hu : u < 10) (sv : Value) (xs : List Value) (w : World) (hown : w.ownsRow B 5 1 sv n xs) (hB : B ≤ w.heap.size) (hn : n < 1000000) :
    Calls Tryd.prog 92 #[sv, .int .u64 u, .int .i64 10] w fun e w' => ∃ v', e = .returned v' ∧ w'.ownsRow B 5 1 v' (n + 1) (xs ++ [.int .u8 (48 + u)]) ∧ Below B w w' := by
  obtain ⟨i0, hi, hz0, hz1, hz2⟩ := info_parts Tryd.info5
  have hd : Lib.decDigits u = [UInt8.ofNat (48 + u)] := Lib.decDigits_one hu
  have hsz : (⟨(Lib.decDigits u).toArray⟩ : ByteArray).size = 1 := by rw [hd]; rfl
  have hcell : Lib.strCells (⟨(Lib.decDigits u).toArray⟩ : ByteArray) = [.int .u8 (48 + u)] := by
    rw [hd]
    rcases (by omega : u = 0 ∨ u = 1 ∨ u = 2 ∨ u = 3 ∨ u = 4 ∨ u = 5 ∨ u = 6 ∨ u = 7 ∨ u = 8 ∨ u = 9) with rfl | rfl | rfl | rfl | rfl | rfl | rfl | rfl | rfl | rfl <;> rfl
  have H := Lib.hid (And.intro hd (And.intro hsz hcell))
  clear hd hsz hcell
  have hu0 : (u : Int) < 100 := by omega
  have hu1 : (0 : Int) ≤ u := by omega
  go_enter Tryd.func92, Tryd.ntmps92
  go_wp2_with (first
    | (go_at_call 109; refine (Tryd.internal_strconv_small u (by omega) _).mono ?_; rintro e w' ⟨rfl, rfl⟩)
    | (at_builtin; refine Lib.wpList_append_own_string _ rfl _ _ 91 9 rfl B 5 i0 Tryd.underlying91 Tryd.underlying9 hi hz0 hz1 hz2 _ _ _ rfl hown ⟨(Lib.decDigits u).toArray⟩ rfl (by rw [H.out.2.1]; unfold maxLen; omega) (by rw [H.out.2.1]; omega) hB ?_))
  intro v' w1 hown' hgrow _
  rw [H.out.2.2, H.out.1] at hown'
  go_wp2_with fail
  go_ret
  exact ⟨v', rfl, hown', (Below.refl B _).grown hgrow hB (fun k hk => (hown.lt k hk).1)⟩
theorem au_small (B n u : Nat) (hu : u < 10) (sv : Value) (xs : List Value) (w : World) (hown : w.ownsRow B 5 1 sv n xs) (hB : B ≤ w.heap.size) (hn : n < 1000000) :
    Calls Tryd.prog 64 #[sv, .int .u64 u, .int .i64 10] w fun e w' => ∃ v', e = .returned v' ∧ w'.ownsRow B 5 1 v' (n + 1) (xs ++ [.int .u8 (48 + u)]) ∧ Below B w w' := by
  have H := Lib.hid (iau_small B n u hu sv xs w hown hB hn)
  go_enter Tryd.func64, Tryd.ntmps64
  go_wp2_with (go_at_call 92; refine H.out.mono ?_; rintro e w' ⟨v', rfl, h1, h2⟩)
  go_ret
  exact ⟨v', rfl, h1, h2⟩
theorem valid_any (n : Int) (w : World) (h : (-9223372036854775808 ≤ n ∧ n ≤ 9223372036854775807)) :
    Calls Tryd.prog 63 #[.int .i64 n] w fun e w' => e = .returned (.bool (decide (-9223372036854775807 ≤ n))) ∧ Below w.heap.size w w' := by
  obtain ⟨a1, a2⟩ := h
  go_enter Tryd.func63, Tryd.ntmps63
  go_wp2
  all_goals (go_ret; exact ⟨ret_bool (by first | rfl | simp), by go_grown⟩)
theorem sizeq (w : World) :
    Calls Tryd.prog 65 #[.int .i64 (-1073741824)] w fun e w' => e = .returned (.int .u64 1073741824) ∧ w = w' := by
  go_enter Tryd.func65, Tryd.ntmps65
  go_wp2
  all_goals (go_ret; exact ⟨by first | rfl | (simp; rfl), rfl⟩)
theorem text_q (w : World) :
    Calls Tryd.prog 14 #[.int .i64 (-1073741824)] w fun e w' => e = .returned (.string ⟨#[45, 48, 46, 50, 53]⟩) ∧ Below w.heap.size w w' := by
  go_enter Tryd.func14, Tryd.ntmps14
  go_wp2_with fail
  refine useF w (valid_any (-1073741824) _ (by omega)) (by go_grown) ?_; rintro e w1 rfl hB1 hk1 hf1 hs1
  clear hk1 hf1
  have h0 : w1.ownsRow w.heap.size 5 1 (.slice none 0 0) 0 [] := ⟨rfl, Or.inl ⟨rfl, rfl⟩⟩
  go_wp2_with (at_builtin; refine app_byte rfl _ _ rfl w.heap.size _ _ _ rfl h0 45 rfl (by omega) (by omega) ?_)
  intro v1 w2 h1 hb2
  have hB2 := hB1.trans hb2
  go_wp2_with fail
  refine (sizeq _).mono ?_; rintro e w3 ⟨rfl, rfl⟩
  go_wp2_with fail
  refine (au_small w.heap.size _ 0 (by omega) _ _ _ h1 hB2.size (by omega)).mono ?_; rintro e w3 ⟨v2, rfl, h2, hb3⟩
  have hB3 := hB2.trans hb3
  go_wp2_with fail
  refine (sizeq _).mono ?_; rintro e w4 ⟨rfl, rfl⟩
  go_wp2_with (at_builtin; refine app_byte rfl _ _ rfl w.heap.size _ _ _ rfl h2 46 rfl (by omega) hB3.size ?_)
  intro v3 w4 h3 hb4
  have hB4 := hB3.trans hb4
  go_wp2_with fail
  refine wp_loop_rounds 3 ?_; rw [rounds_succ]
  go_wp2_with (at_builtin; refine app_byte rfl _ _ rfl w.heap.size _ _ _ rfl h3 50 rfl (by omega) hB4.size ?_)
  intro v4 w5 h4 hb5
  have hB5 := hB4.trans hb5
  go_wp2_with fail
  rw [rounds_succ]
  go_wp2_with (at_builtin; refine app_byte rfl _ _ rfl w.heap.size _ _ _ rfl h4 53 rfl (by omega) hB5.size ?_)
  intro v5 w6 h5 hb6
  have hB6 := hB5.trans hb6
  obtain ⟨hl, ⟨_, hn⟩ | ⟨g, cap, cur, rfl, hg1, hg2, hg3, hg4, hg5, hg6⟩⟩ := id h5
  · omega
  have hc := h5.cells (g := g) rfl
  have hconv := fun W (hW : W = w6) => @Go.run_convert_bytes_back Tryd.prog W 91 9 5 ⟨g, 0, none⟩ cap [45, 48, 46, 50, 53] Tryd.underlying91 Tryd.underlying5 Tryd.underlying9 (by
    subst hW
    intro j hj
    refine hc j _ ?_
    rcases (by simp at hj; omega : j = 0 ∨ j = 1 ∨ j = 2 ∨ j = 3 ∨ j = 4) with rfl | rfl | rfl | rfl | rfl <;> rfl)
  have hconv : (convert 91 9 (.slice (some ⟨g, 0, none⟩) 5 cap)).run Tryd.prog w6 = .ok (.string ⟨#[45, 48, 46, 50, 53]⟩) w6 := hconv w6 rfl
  clear hc h5 hl
  go_wp2_with fail
  rw [rounds_succ]
  go_wp2_with fail
  go_ret
  exact ⟨by simp, by go_grown⟩
end Go.Proofs.YtjleflfncijnpaaDoor
