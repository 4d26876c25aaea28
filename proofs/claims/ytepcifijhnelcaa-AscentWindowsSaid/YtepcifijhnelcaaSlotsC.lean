/- The slots of a window, by package ascent. -/
import Derived.OwnWalk
import Derived.Deep.DeepCutAuto
import Derived.Test.YtepcifijhnelcaaRows
import Derived.Test.YtepcifijhnelcaaBase
import Derived.Test.YtepcifijhnelcaaFacts
import Derived.Test.YtepcifijhnelcaaTwo
import Derived.Deep.RegionHeld3
import Derived.Deep.RegionWith
import Derived.Deep.QuietTactic
import Derived.BigQuiet
import Derived.Test.YtepcifijhnelcaaSeq
import Derived.Test.YtepcifijhnelcaaWinM
import Derived.Test.YtepcifijhnelcaaWinF
import Derived.Test.YtepcifijhnelcaaSlotS
set_option linter.unusedVariables false
set_option linter.unusedSimpArgs false
set_option maxHeartbeats 4000000
set_option maxRecDepth 100000
namespace Go.Proofs.Ytepcifijhnelcaa
open Go Go.RowKit
def SlotsP (P F L f t : Int) (B : Nat) (w : World) (e : Ending) (w' : World) : Prop :=
  (∃ v, e = .returned (.tuple #[v, .int .i64 (slotsE P F L f t)]) ∧ SlotsIn v (if slotsE P F L f t = 0 then slotsT P F L f t else []) w') ∧ Below B w w'
theorem slotsP_nil {P F L f t E : Int} {B : Nat} {w w' : World} (hE : slotsE P F L f t = E) (h : E = 0 → slotsT P F L f t = []) (hB : Below B w w') : SlotsP P F L f t B w (.returned (.tuple #[.slice none 0 0, .int .i64 E])) w' := by
  refine ⟨⟨_, by rw [hE], ?_⟩, hB⟩
  rw [hE]
  split
  · rename_i c; rw [h c]; exact SlotsIn.nil _
  · exact SlotsIn.nil _
theorem slotsP_list {P F L f t : Int} {B : Nat} {w w' : World} {v : Value} (hE : slotsE P F L f t = 0) (h : SlotsIn v (slotsT P F L f t) w') (hB : Below B w w') : SlotsP P F L f t B w (.returned (.tuple #[v, .int .i64 0])) w' :=
  ⟨⟨v, by rw [hE], by rw [if_pos hE]; exact h⟩, hB⟩
theorem slots_bad (P F L f t : Int) (w : World) (h : (-9223372036854775808 ≤ P ∧ P ≤ 9223372036854775807) ∧ (-9223372036854775808 ≤ F ∧ F ≤ 9223372036854775807) ∧ (-9223372036854775808 ≤ L ∧ L ≤ 9223372036854775807) ∧ (-9223372036854775808 ≤ f ∧ f ≤ 9223372036854775807) ∧ (-9223372036854775808 ≤ t ∧ t ≤ 9223372036854775807)) (hb : ¬ (winB P F L = true ∧ timB f = true ∧ timB t = true ∧ f ≤ t)) :
    Calls Try.prog 15 #[.agg #[.int .i64 P, .int .i64 F, .int .i64 L], .int .i64 f, .int .i64 t] w fun e w' => SlotsP P F L f t w.heap.size w e w' := by
  have hE := hid (show slotsE P F L f t = 2 from if_neg hb)
  have k1 := hid (fun W => iswin_any P F L W (by omega))
  have k2 := hid (fun W => isinst_any f W (by omega))
  have k3 := hid (fun W => isinst_any t W (by omega))
  cases c1 : winB P F L
  · rw [c1] at k1
    clear hb h k2 k3
    go_enter Try.func15, Try.ntmps15
    go_wp2_with fail
    refine useK w (k1.out _) (by go_grown) ?_; rintro e w1 rfl hB1 hk1 hs1
    replace p00 : w1.cell? ⟨w.heap.size, 0, none⟩ = some (.int .i64 P) := hk1 _ _ _ (by simp [go_sem])
    replace p01 : w1.cell? ⟨w.heap.size, 1, none⟩ = some (.int .i64 F) := hk1 _ _ _ (by simp [go_sem])
    replace p02 : w1.cell? ⟨w.heap.size, 2, none⟩ = some (.int .i64 L) := hk1 _ _ _ (by simp [go_sem])
    have bp00 : w.heap.size < w1.heap.size := World.block_lt_of_cell? w1 ⟨w.heap.size, 0, none⟩ p00
    clear hk1
    go_wp2_with fail
    go_ret2
    exact slotsP_nil hE.out (fun h => absurd h (by decide)) (by go_grown)
  rw [c1] at k1
  cases c2 : timB f
  · rw [c2] at k2
    clear hb h k3
    go_enter Try.func15, Try.ntmps15
    go_wp2_with fail
    refine useK w (k1.out _) (by go_grown) ?_; rintro e w1 rfl hB1 hk1 hs1
    replace p00 : w1.cell? ⟨w.heap.size, 0, none⟩ = some (.int .i64 P) := hk1 _ _ _ (by simp [go_sem])
    replace p01 : w1.cell? ⟨w.heap.size, 1, none⟩ = some (.int .i64 F) := hk1 _ _ _ (by simp [go_sem])
    replace p02 : w1.cell? ⟨w.heap.size, 2, none⟩ = some (.int .i64 L) := hk1 _ _ _ (by simp [go_sem])
    have bp00 : w.heap.size < w1.heap.size := World.block_lt_of_cell? w1 ⟨w.heap.size, 0, none⟩ p00
    clear hk1
    go_wp2_with fail
    refine useK w (k2.out _) (by go_grown) ?_; rintro e w2 rfl hB2 hk2 hs2
    replace p00 : w2.cell? ⟨w.heap.size, 0, none⟩ = some (.int .i64 P) := hk2 _ _ _ (p00)
    replace p01 : w2.cell? ⟨w.heap.size, 1, none⟩ = some (.int .i64 F) := hk2 _ _ _ (p01)
    replace p02 : w2.cell? ⟨w.heap.size, 2, none⟩ = some (.int .i64 L) := hk2 _ _ _ (p02)
    have bp00 : w.heap.size < w2.heap.size := World.block_lt_of_cell? w2 ⟨w.heap.size, 0, none⟩ p00
    clear hk2
    go_wp2_with fail
    go_ret2
    exact slotsP_nil hE.out (fun h => absurd h (by decide)) (by go_grown)
  rw [c2] at k2
  cases c3 : timB t
  · rw [c3] at k3
    clear hb h
    go_enter Try.func15, Try.ntmps15
    go_wp2_with fail
    refine useK w (k1.out _) (by go_grown) ?_; rintro e w1 rfl hB1 hk1 hs1
    replace p00 : w1.cell? ⟨w.heap.size, 0, none⟩ = some (.int .i64 P) := hk1 _ _ _ (by simp [go_sem])
    replace p01 : w1.cell? ⟨w.heap.size, 1, none⟩ = some (.int .i64 F) := hk1 _ _ _ (by simp [go_sem])
    replace p02 : w1.cell? ⟨w.heap.size, 2, none⟩ = some (.int .i64 L) := hk1 _ _ _ (by simp [go_sem])
    have bp00 : w.heap.size < w1.heap.size := World.block_lt_of_cell? w1 ⟨w.heap.size, 0, none⟩ p00
    clear hk1
    go_wp2_with fail
    refine useK w (k2.out _) (by go_grown) ?_; rintro e w2 rfl hB2 hk2 hs2
    replace p00 : w2.cell? ⟨w.heap.size, 0, none⟩ = some (.int .i64 P) := hk2 _ _ _ (p00)
    replace p01 : w2.cell? ⟨w.heap.size, 1, none⟩ = some (.int .i64 F) := hk2 _ _ _ (p01)
    replace p02 : w2.cell? ⟨w.heap.size, 2, none⟩ = some (.int .i64 L) := hk2 _ _ _ (p02)
    have bp00 : w.heap.size < w2.heap.size := World.block_lt_of_cell? w2 ⟨w.heap.size, 0, none⟩ p00
    clear hk2
    go_wp2_with fail
    refine useK w (k3.out _) (by go_grown) ?_; rintro e w3 rfl hB3 hk3 hs3
    replace p00 : w3.cell? ⟨w.heap.size, 0, none⟩ = some (.int .i64 P) := hk3 _ _ _ (p00)
    replace p01 : w3.cell? ⟨w.heap.size, 1, none⟩ = some (.int .i64 F) := hk3 _ _ _ (p01)
    replace p02 : w3.cell? ⟨w.heap.size, 2, none⟩ = some (.int .i64 L) := hk3 _ _ _ (p02)
    have bp00 : w.heap.size < w3.heap.size := World.block_lt_of_cell? w3 ⟨w.heap.size, 0, none⟩ p00
    clear hk3
    go_wp2_with fail
    go_ret2
    exact slotsP_nil hE.out (fun h => absurd h (by decide)) (by go_grown)
  rw [c3] at k3
  have c4 : t < f := by
    rcases (by omega : t < f ∨ f ≤ t) with c | c
    · exact c
    · exact absurd ⟨c1, c2, c3, c⟩ hb
  clear hb h
  go_enter Try.func15, Try.ntmps15
  go_wp2_with fail
  refine useK w (k1.out _) (by go_grown) ?_; rintro e w1 rfl hB1 hk1 hs1
  replace p00 : w1.cell? ⟨w.heap.size, 0, none⟩ = some (.int .i64 P) := hk1 _ _ _ (by simp [go_sem])
  replace p01 : w1.cell? ⟨w.heap.size, 1, none⟩ = some (.int .i64 F) := hk1 _ _ _ (by simp [go_sem])
  replace p02 : w1.cell? ⟨w.heap.size, 2, none⟩ = some (.int .i64 L) := hk1 _ _ _ (by simp [go_sem])
  have bp00 : w.heap.size < w1.heap.size := World.block_lt_of_cell? w1 ⟨w.heap.size, 0, none⟩ p00
  clear hk1
  go_wp2_with fail
  refine useK w (k2.out _) (by go_grown) ?_; rintro e w2 rfl hB2 hk2 hs2
  replace p00 : w2.cell? ⟨w.heap.size, 0, none⟩ = some (.int .i64 P) := hk2 _ _ _ (p00)
  replace p01 : w2.cell? ⟨w.heap.size, 1, none⟩ = some (.int .i64 F) := hk2 _ _ _ (p01)
  replace p02 : w2.cell? ⟨w.heap.size, 2, none⟩ = some (.int .i64 L) := hk2 _ _ _ (p02)
  have bp00 : w.heap.size < w2.heap.size := World.block_lt_of_cell? w2 ⟨w.heap.size, 0, none⟩ p00
  clear hk2
  go_wp2_with fail
  refine useK w (k3.out _) (by go_grown) ?_; rintro e w3 rfl hB3 hk3 hs3
  replace p00 : w3.cell? ⟨w.heap.size, 0, none⟩ = some (.int .i64 P) := hk3 _ _ _ (p00)
  replace p01 : w3.cell? ⟨w.heap.size, 1, none⟩ = some (.int .i64 F) := hk3 _ _ _ (p01)
  replace p02 : w3.cell? ⟨w.heap.size, 2, none⟩ = some (.int .i64 L) := hk3 _ _ _ (p02)
  have bp00 : w.heap.size < w3.heap.size := World.block_lt_of_cell? w3 ⟨w.heap.size, 0, none⟩ p00
  clear hk3
  go_wp2_with fail
  go_ret2
  exact slotsP_nil hE.out (fun h => absurd h (by decide)) (by go_grown)
theorem slots_easy (P F L f t : Int) (w : World) (h : (-9223372036854775808 ≤ P ∧ P ≤ 9223372036854775807) ∧ (-9223372036854775808 ≤ F ∧ F ≤ 9223372036854775807) ∧ (-9223372036854775808 ≤ L ∧ L ≤ 9223372036854775807) ∧ (-9223372036854775808 ≤ f ∧ f ≤ 9223372036854775807) ∧ (-9223372036854775808 ≤ t ∧ t ≤ 9223372036854775807)) (c1 : winB P F L = true) (c2 : timB f = true) (c3 : timB t = true) (c4 : f ≤ t) (hc : L = 0 ∨ f = t ∨ L = P) :
    Calls Try.prog 15 #[.agg #[.int .i64 P, .int .i64 F, .int .i64 L], .int .i64 f, .int .i64 t] w fun e w' => SlotsP P F L f t w.heap.size w e w' := by
  have hT : slotsT P F L f t = if L = 0 ∨ f = t then [] else [(f, t)] := by
    unfold slotsT
    split
    · rfl
    · rw [if_pos (by omega)]
  have hE := hid (show slotsE P F L f t = 0 by unfold slotsE; rw [if_pos ⟨c1, c2, c3, c4⟩, hT, if_neg (by split <;> simp)])
  have k1 := hid (fun W => iswin_any P F L W (by omega))
  have k2 := hid (fun W => isinst_any f W (by omega))
  have k3 := hid (fun W => isinst_any t W (by omega))
  rw [c1] at k1
  rw [c2] at k2
  rw [c3] at k3
  have c5 : ¬ t < f := by omega
  clear h c1 c2 c3
  by_cases d1 : L = 0
  · rw [if_pos (Or.inl d1)] at hT
    replace hT := hid hT
    subst d1
    clear hc
    go_enter Try.func15, Try.ntmps15
    go_wp2_with fail
    refine useK w (k1.out _) (by go_grown) ?_; rintro e w1 rfl hB1 hk1 hs1
    replace p00 : w1.cell? ⟨w.heap.size, 0, none⟩ = some (.int .i64 P) := hk1 _ _ _ (by simp [go_sem])
    replace p01 : w1.cell? ⟨w.heap.size, 1, none⟩ = some (.int .i64 F) := hk1 _ _ _ (by simp [go_sem])
    replace p02 : w1.cell? ⟨w.heap.size, 2, none⟩ = some (.int .i64 0) := hk1 _ _ _ (by simp [go_sem])
    have bp00 : w.heap.size < w1.heap.size := World.block_lt_of_cell? w1 ⟨w.heap.size, 0, none⟩ p00
    clear hk1
    go_wp2_with fail
    refine useK w (k2.out _) (by go_grown) ?_; rintro e w2 rfl hB2 hk2 hs2
    replace p00 : w2.cell? ⟨w.heap.size, 0, none⟩ = some (.int .i64 P) := hk2 _ _ _ (p00)
    replace p01 : w2.cell? ⟨w.heap.size, 1, none⟩ = some (.int .i64 F) := hk2 _ _ _ (p01)
    replace p02 : w2.cell? ⟨w.heap.size, 2, none⟩ = some (.int .i64 0) := hk2 _ _ _ (p02)
    have bp00 : w.heap.size < w2.heap.size := World.block_lt_of_cell? w2 ⟨w.heap.size, 0, none⟩ p00
    clear hk2
    go_wp2_with fail
    refine useK w (k3.out _) (by go_grown) ?_; rintro e w3 rfl hB3 hk3 hs3
    replace p00 : w3.cell? ⟨w.heap.size, 0, none⟩ = some (.int .i64 P) := hk3 _ _ _ (p00)
    replace p01 : w3.cell? ⟨w.heap.size, 1, none⟩ = some (.int .i64 F) := hk3 _ _ _ (p01)
    replace p02 : w3.cell? ⟨w.heap.size, 2, none⟩ = some (.int .i64 0) := hk3 _ _ _ (p02)
    have bp00 : w.heap.size < w3.heap.size := World.block_lt_of_cell? w3 ⟨w.heap.size, 0, none⟩ p00
    clear hk3
    go_wp2_with fail
    go_ret2
    exact slotsP_nil hE.out (fun _ => hT.out) (by go_grown)
  have e1 : (L == 0) = false := by rw [beq_eq_false_iff_ne]; exact d1
  by_cases d2 : f = t
  · rw [if_pos (Or.inr d2)] at hT
    replace hT := hid hT
    subst d2
    clear hc c4 c5
    go_enter Try.func15, Try.ntmps15
    go_wp2_with fail
    refine useK w (k1.out _) (by go_grown) ?_; rintro e w1 rfl hB1 hk1 hs1
    replace p00 : w1.cell? ⟨w.heap.size, 0, none⟩ = some (.int .i64 P) := hk1 _ _ _ (by simp [go_sem])
    replace p01 : w1.cell? ⟨w.heap.size, 1, none⟩ = some (.int .i64 F) := hk1 _ _ _ (by simp [go_sem])
    replace p02 : w1.cell? ⟨w.heap.size, 2, none⟩ = some (.int .i64 L) := hk1 _ _ _ (by simp [go_sem])
    have bp00 : w.heap.size < w1.heap.size := World.block_lt_of_cell? w1 ⟨w.heap.size, 0, none⟩ p00
    clear hk1
    go_wp2_with fail
    refine useK w (k2.out _) (by go_grown) ?_; rintro e w2 rfl hB2 hk2 hs2
    replace p00 : w2.cell? ⟨w.heap.size, 0, none⟩ = some (.int .i64 P) := hk2 _ _ _ (p00)
    replace p01 : w2.cell? ⟨w.heap.size, 1, none⟩ = some (.int .i64 F) := hk2 _ _ _ (p01)
    replace p02 : w2.cell? ⟨w.heap.size, 2, none⟩ = some (.int .i64 L) := hk2 _ _ _ (p02)
    have bp00 : w.heap.size < w2.heap.size := World.block_lt_of_cell? w2 ⟨w.heap.size, 0, none⟩ p00
    clear hk2
    go_wp2_with fail
    refine useK w (k3.out _) (by go_grown) ?_; rintro e w3 rfl hB3 hk3 hs3
    replace p00 : w3.cell? ⟨w.heap.size, 0, none⟩ = some (.int .i64 P) := hk3 _ _ _ (p00)
    replace p01 : w3.cell? ⟨w.heap.size, 1, none⟩ = some (.int .i64 F) := hk3 _ _ _ (p01)
    replace p02 : w3.cell? ⟨w.heap.size, 2, none⟩ = some (.int .i64 L) := hk3 _ _ _ (p02)
    have bp00 : w.heap.size < w3.heap.size := World.block_lt_of_cell? w3 ⟨w.heap.size, 0, none⟩ p00
    clear hk3
    go_wp2_with fail
    go_ret2
    exact slotsP_nil hE.out (fun _ => hT.out) (by go_grown)
  have e2 : (f == t) = false := by rw [beq_eq_false_iff_ne]; exact d2
  have d3 : L = P := by omega
  rw [if_neg (by omega)] at hT
  replace hT := hid hT
  subst d3
  clear hc d1 d2
  go_enter Try.func15, Try.ntmps15
  go_wp2_with fail
  refine useK w (k1.out _) (by go_grown) ?_; rintro e w1 rfl hB1 hk1 hs1
  replace p00 : w1.cell? ⟨w.heap.size, 0, none⟩ = some (.int .i64 L) := hk1 _ _ _ (by simp [go_sem])
  replace p01 : w1.cell? ⟨w.heap.size, 1, none⟩ = some (.int .i64 F) := hk1 _ _ _ (by simp [go_sem])
  replace p02 : w1.cell? ⟨w.heap.size, 2, none⟩ = some (.int .i64 L) := hk1 _ _ _ (by simp [go_sem])
  have bp00 : w.heap.size < w1.heap.size := World.block_lt_of_cell? w1 ⟨w.heap.size, 0, none⟩ p00
  clear hk1
  go_wp2_with fail
  refine useK w (k2.out _) (by go_grown) ?_; rintro e w2 rfl hB2 hk2 hs2
  replace p00 : w2.cell? ⟨w.heap.size, 0, none⟩ = some (.int .i64 L) := hk2 _ _ _ (p00)
  replace p01 : w2.cell? ⟨w.heap.size, 1, none⟩ = some (.int .i64 F) := hk2 _ _ _ (p01)
  replace p02 : w2.cell? ⟨w.heap.size, 2, none⟩ = some (.int .i64 L) := hk2 _ _ _ (p02)
  have bp00 : w.heap.size < w2.heap.size := World.block_lt_of_cell? w2 ⟨w.heap.size, 0, none⟩ p00
  clear hk2
  go_wp2_with fail
  refine useK w (k3.out _) (by go_grown) ?_; rintro e w3 rfl hB3 hk3 hs3
  replace p00 : w3.cell? ⟨w.heap.size, 0, none⟩ = some (.int .i64 L) := hk3 _ _ _ (p00)
  replace p01 : w3.cell? ⟨w.heap.size, 1, none⟩ = some (.int .i64 F) := hk3 _ _ _ (p01)
  replace p02 : w3.cell? ⟨w.heap.size, 2, none⟩ = some (.int .i64 L) := hk3 _ _ _ (p02)
  have bp00 : w.heap.size < w3.heap.size := World.block_lt_of_cell? w3 ⟨w.heap.size, 0, none⟩ p00
  clear hk3
  go_wp2_with fail
  go_ret2
  refine slotsP_list hE.out ?_ (by go_grown)
  rw [hT.out]
  refine ⟨_, _, rfl, Or.inr ⟨w3.heap.size, 0, rfl, fun i p hp => ?_⟩⟩
  cases i with
  | zero =>
    have : p = (f, t) := by simpa using hp.symm
    subst this
    exact ⟨by simp [go_sem], by simp [go_sem]⟩
  | succ i => simp at hp
/-- What is known at a round's head. -/
def HeadS (P F L f t b : Int) (acc : List (Int × Int)) : Prop := (b = f - sinc P F f ∧ acc = []) ∨ (f < b ∧ acc ++ sl P L t b = tl P F L t f)
set_option maxRecDepth 100000 in
theorem slots_many (P F L f t : Int) (w : World) (c1 : winB P F L = true) (c2 : timB f = true) (c3 : timB t = true) (c4 : f < t) (hL : 0 < L ∧ L < P) :
    Calls Try.prog 15 #[.agg #[.int .i64 P, .int .i64 F, .int .i64 L], .int .i64 f, .int .i64 t] w fun e w' => SlotsP P F L f t w.heap.size w e w' := by
  obtain ⟨p1, p2, f1, f2, l1, l2⟩ := win_bd c1
  have b2 := of_decide_eq_true c2
  have b3 := of_decide_eq_true c3
  obtain ⟨b21, b22⟩ := b2
  obtain ⟨b31, b32⟩ := b3
  have hT : slotsT P F L f t = tl P F L t f := by unfold slotsT; rw [if_neg (by omega), if_neg (by omega)]
  have hE := hid (show slotsE P F L f t = if 4096 < (tl P F L t f).length then 3 else 0 by unfold slotsE; rw [if_pos ⟨c1, c2, c3, by omega⟩, hT])
  replace hT := hid hT
  have k1 := hid (fun W => iswin_any P F L W (by omega))
  have k2 := hid (fun W => isinst_any f W (by omega))
  have k3 := hid (fun W => isinst_any t W (by omega))
  have k4 := hid (fun W => since_any P F L f W (by omega) c1)
  rw [c1] at k1
  rw [c2] at k2
  rw [c3] at k3
  have hs := sinc_bd (F := F) (t := f) p1
  have c5 : ¬ t < f := by omega
  have e1 : (L == 0) = false := by rw [beq_eq_false_iff_ne]; omega
  have e2 : (f == t) = false := by rw [beq_eq_false_iff_ne]; omega
  have e3 : (L == P) = false := by rw [beq_eq_false_iff_ne]; omega
  obtain ⟨L0, L1⟩ := hL
  have hH0 : HeadS P F L f t (f - sinc P F f) [] := Or.inl ⟨rfl, rfl⟩
  have hstep : ∀ b acc, HeadS P F L f t b acc → b < t → (acc = [] ∧ max b f = f ∧ b + L ≤ f ∧ b ≤ f ∧ HeadS P F L f t (b + P) []) ∨
      (max b f < min (b + L) t ∧ f - P < b ∧ (acc.length = 4096 → 4096 < (tl P F L t f).length) ∧ HeadS P F L f t (b + P) (acc ++ [(max b f, min (b + L) t)])) := fun b acc hh hb => by
    rcases hh with ⟨g1, g2⟩ | ⟨g1, g2⟩
    · subst g1 g2
      rw [show max (f - sinc P F f) f = f by omega]
      by_cases c : sinc P F f < L
      · refine Or.inr ⟨by omega, by omega, fun h => by simp at h, Or.inr ⟨by omega, ?_⟩⟩
        rw [tl_in c4 c]; rfl
      · refine Or.inl ⟨rfl, rfl, by omega, by omega, Or.inr ⟨by omega, ?_⟩⟩
        rw [tl_out c4 c]; rfl
    · rw [show max b f = b by omega]
      refine Or.inr ⟨by omega, by omega, fun h => ?_, Or.inr ⟨by omega, ?_⟩⟩
      · rw [← g2, List.length_append, sl_cons hb p1, List.length_cons]; omega
      · rw [← g2, sl_cons hb p1, List.append_assoc]; rfl
  have hexit : ∀ b acc, HeadS P F L f t b acc → t ≤ b → acc = tl P F L t f := fun b acc hh hb => by
    rcases hh with ⟨g1, g2⟩ | ⟨g1, g2⟩
    · omega
    · rw [← g2, sl_nil hb, List.append_nil]
  replace hstep := hid hstep
  replace hexit := hid hexit
  generalize sinc P F f = S at *
  generalize tl P F L t f = T at *
  clear c1 c2 c3
  go_enter Try.func15, Try.ntmps15
  go_wp2_with fail
  refine useK w (k1.out _) (by go_grown) ?_; rintro e w1 rfl hB1 hk1 hs1
  replace p00 : w1.cell? ⟨w.heap.size, 0, none⟩ = some (.int .i64 P) := hk1 _ _ _ (by simp [go_sem])
  replace p01 : w1.cell? ⟨w.heap.size, 1, none⟩ = some (.int .i64 F) := hk1 _ _ _ (by simp [go_sem])
  replace p02 : w1.cell? ⟨w.heap.size, 2, none⟩ = some (.int .i64 L) := hk1 _ _ _ (by simp [go_sem])
  have bp00 : w.heap.size < w1.heap.size := World.block_lt_of_cell? w1 ⟨w.heap.size, 0, none⟩ p00
  clear hk1
  go_wp2_with fail
  refine useK w (k2.out _) (by go_grown) ?_; rintro e w2 rfl hB2 hk2 hs2
  replace p00 : w2.cell? ⟨w.heap.size, 0, none⟩ = some (.int .i64 P) := hk2 _ _ _ (p00)
  replace p01 : w2.cell? ⟨w.heap.size, 1, none⟩ = some (.int .i64 F) := hk2 _ _ _ (p01)
  replace p02 : w2.cell? ⟨w.heap.size, 2, none⟩ = some (.int .i64 L) := hk2 _ _ _ (p02)
  have bp00 : w.heap.size < w2.heap.size := World.block_lt_of_cell? w2 ⟨w.heap.size, 0, none⟩ p00
  clear hk2
  go_wp2_with fail
  refine useK w (k3.out _) (by go_grown) ?_; rintro e w3 rfl hB3 hk3 hs3
  replace p00 : w3.cell? ⟨w.heap.size, 0, none⟩ = some (.int .i64 P) := hk3 _ _ _ (p00)
  replace p01 : w3.cell? ⟨w.heap.size, 1, none⟩ = some (.int .i64 F) := hk3 _ _ _ (p01)
  replace p02 : w3.cell? ⟨w.heap.size, 2, none⟩ = some (.int .i64 L) := hk3 _ _ _ (p02)
  have bp00 : w.heap.size < w3.heap.size := World.block_lt_of_cell? w3 ⟨w.heap.size, 0, none⟩ p00
  clear hk3
  go_wp2_with fail
  refine useK w (k4.out _) (by go_grown) ?_; rintro e w4 rfl hB4 hk4 hs4
  replace p00 : w4.cell? ⟨w.heap.size, 0, none⟩ = some (.int .i64 P) := hk4 _ _ _ (p00)
  replace p01 : w4.cell? ⟨w.heap.size, 1, none⟩ = some (.int .i64 F) := hk4 _ _ _ (p01)
  replace p02 : w4.cell? ⟨w.heap.size, 2, none⟩ = some (.int .i64 L) := hk4 _ _ _ (p02)
  have bp00 : w.heap.size < w4.heap.size := World.block_lt_of_cell? w4 ⟨w.heap.size, 0, none⟩ p00
  clear hk4
  go_wp2_with fail
  have hz4 := hB4.size
  obtain ⟨B, hBlt, hBle⟩ : ∃ B, w.heap.size < B ∧ B ≤ w4.heap.size := ⟨w4.heap.size, bp00, Nat.le_refl _⟩
  go_loopw [9, 8] (fun b v wx => ∃ (bb : Int) (acc : List (Int × Int)), b = .int .i64 bb ∧ f - P ≤ bb ∧ bb < t + P ∧ OwnS B acc v wx ∧ acc.length ≤ 4096 ∧ Hid (HeadS P F L f t bb acc) ∧ WinC w.heap.size P F L wx ∧ B ≤ wx.heap.size ∧ Below w.heap.size w wx) (fun b _ _ => (t - intOf b).toNat)
  case atStart => exact ⟨f - S, [], rfl, by omega, by omega, OwnS.nil _ _, by simp, hid hH0, ⟨p00, p01, p02⟩, by omega, by go_grown⟩
  case round =>
    clear p00 p01 p02 bp00 hB4 hs4
    obtain ⟨bb, acc, rfl, hb1, hb2, hown, hlen, hh, ⟨x0, x1, x2⟩, hBs, hBw⟩ := hrel
    have xb := World.block_lt_of_cell? _ _ x0
    dsimp only at xb
    by_cases c : bb < t
    · have hst := hstep.out bb acc hh.out c
      rcases hst with ⟨g1, g2, g3, g4, g5⟩ | ⟨g1, g2, g3, g4⟩
      · have m1 : min (bb + L) t ≤ f := by omega
        have m2 : min (bb + L) t = bb + L := by omega
        replace hh := hid g5
        subst g1
        clear g5
        go_wp2_with fail
        exact ⟨⟨bb + P, [], by go_num, by omega, by omega, World.ownsRow.alloc hown _, by simp, hh, ⟨keepA _ x0, keepA _ x1, keepA _ x2⟩, by simp [go_sem]; omega, by go_grown⟩, by first | (simp [intOf]; done) | (simp [intOf]; omega)⟩
      · rw [show max bb f = (if bb < f then f else bb) by split <;> omega, show min (bb + L) t = (if t < bb + L then t else bb + L) by split <;> omega] at g1 g4
        by_cases u1 : bb < f <;> by_cases u2 : t < bb + L
        all_goals
          first | rw [if_pos u1] at g1 g4 | rw [if_neg u1] at g1 g4
          first | rw [if_pos u2] at g1 g4 | rw [if_neg u2] at g1 g4
          have hh2 := hid g4
          have g5 := hid g3
          clear g4 g3
          by_cases d : acc.length = 4096
          · have hE3 := hid (show slotsE P F L f t = 3 by rw [hE.out, if_pos (g5.out d)])
            obtain ⟨q, cap, rfl⟩ := hown.len
            have d2 : ((acc.length : Int) == 4096) = true := by rw [beq_iff_eq]; omega
            clear hh hown hh2 d
            go_wp2_with fail
            go_ret2
            exact slotsP_nil hE3.out (fun h => absurd h (by decide)) (by go_grown)
          · have d2 : ((acc.length : Int) == 4096) = false := by rw [beq_eq_false_iff_ne]; omega
            obtain ⟨q, cap, rfl⟩ := hown.len
            have hlen2 : acc.length < 4096 := by omega
            clear d hlen
            have hBs2 : ∀ o : Obj, B ≤ (wr.alloc o).heap.size := fun o => by have : (wr.alloc o).heap.size = wr.heap.size + 1 := by simp [go_sem]
                                                                             omega
            go_upto_region 15 with fail
            generalize Value.slice q acc.length cap = v at *
            go_wp2_with (at_builtin; refine app_slot rfl _ _ rfl B _ acc (by rfl) (by exact hown.alloc _) _ _ _ rfl (by simp [go_sem]) (by omega) (hBs2 _) ?_)
            intro v5 w5 h5 hb5
            have hz5 := hb5.size
            have hbw : w.heap.size < B := hBlt
            have y0 : w5.cell? ⟨w.heap.size, 0, none⟩ = some (.int .i64 P) := (hb5.cell (p := ⟨w.heap.size, 0, none⟩) hbw).trans (keepA _ x0)
            have y1 : w5.cell? ⟨w.heap.size, 1, none⟩ = some (.int .i64 F) := (hb5.cell (p := ⟨w.heap.size, 1, none⟩) hbw).trans (keepA _ x1)
            have y2 : w5.cell? ⟨w.heap.size, 2, none⟩ = some (.int .i64 L) := (hb5.cell (p := ⟨w.heap.size, 2, none⟩) hbw).trans (keepA _ x2)
            have hz6 : B ≤ w5.heap.size := by simp [go_sem] at hz5; omega
            have hB6 : Below w.heap.size w w5 := Below.trans (by go_grown) (hb5.mono (Nat.le_of_lt hBlt))
            clear hb5 hown hz5
            go_wp2_with fail
            exact ⟨⟨bb + P, _, by go_num, by omega, by omega, h5, by simp; omega, hh2, ⟨y0, y1, y2⟩, hz6, hB6⟩, by first | (simp [intOf]; done) | (simp [intOf]; omega)⟩
    · have hT2 := hexit.out bb acc hh.out (by omega)
      have hE0 := hid (show slotsE P F L f t = 0 by rw [hE.out, ← hT2, if_neg (by omega)])
      have hsl := own_slots hown
      rw [hT2, ← hT.out] at hsl
      clear hh
      go_wp2_with fail
      go_ret2
      exact slotsP_list hE0.out hsl (by go_grown)
theorem slots_any (P F L f t : Int) (w : World) (h : (-9223372036854775808 ≤ P ∧ P ≤ 9223372036854775807) ∧ (-9223372036854775808 ≤ F ∧ F ≤ 9223372036854775807) ∧ (-9223372036854775808 ≤ L ∧ L ≤ 9223372036854775807) ∧ (-9223372036854775808 ≤ f ∧ f ≤ 9223372036854775807) ∧ (-9223372036854775808 ≤ t ∧ t ≤ 9223372036854775807)) :
    Calls Try.prog 15 #[.agg #[.int .i64 P, .int .i64 F, .int .i64 L], .int .i64 f, .int .i64 t] w fun e w' => SlotsP P F L f t w.heap.size w e w' := by
  by_cases c : winB P F L = true ∧ timB f = true ∧ timB t = true ∧ f ≤ t
  · obtain ⟨c1, c2, c3, c4⟩ := c
    have := win_bd c1
    by_cases d : L = 0 ∨ f = t ∨ L = P
    · exact slots_easy P F L f t w h c1 c2 c3 c4 d
    · exact slots_many P F L f t w c1 c2 c3 (by omega) (by omega)
  · exact slots_bad P F L f t w h c
end Go.Proofs.Ytepcifijhnelcaa
