/- The slots of a window, as the document says. -/
import Derived.OwnWalk
import Derived.Deep.DeepCutAuto
import Derived.Test.YtepcifijhnelcaaRows
import Derived.Test.YtepcifijhnelcaaBase
import Derived.Test.YtepcifijhnelcaaFacts
import Derived.Test.YtepcifijhnelcaaTwo
import Derived.Deep.RegionHeld3
import Derived.Deep.RegionWith
import Derived.Deep.QuietTactic
import Derived.BigQuiet
import Derived.Test.YtepcifijhnelcaaSeq
import Derived.Test.YtepcifijhnelcaaWinM
import Derived.Test.YtepcifijhnelcaaWinF
import Derived.Test.YtepcifijhnelcaaSlotS
import Derived.Test.YtepcifijhnelcaaSlotsC
set_option linter.unusedVariables false
set_option linter.unusedSimpArgs false
set_option maxHeartbeats 4000000
set_option maxRecDepth 100000
namespace Go.Proofs.Ytepcifijhnelcaa
open Go Go.RowKit
theorem rslots_bad (P F L f t : Int) (w : World) (h : (-9223372036854775808 ≤ P ∧ P ≤ 9223372036854775807) ∧ (-9223372036854775808 ≤ F ∧ F ≤ 9223372036854775807) ∧ (-9223372036854775808 ≤ L ∧ L ≤ 9223372036854775807) ∧ (-9223372036854775808 ≤ f ∧ f ≤ 9223372036854775807) ∧ (-9223372036854775808 ≤ t ∧ t ≤ 9223372036854775807)) (hb : ¬ (winB P F L = true ∧ timB f = true ∧ timB t = true ∧ f ≤ t)) :
    Calls Try.prog 16 #[.agg #[.int .i64 P, .int .i64 F, .int .i64 L], .int .i64 f, .int .i64 t] w fun e w' => SlotsP P F L f t w.heap.size w e w' := by
  have hE := hid (show slotsE P F L f t = 2 from if_neg hb)
  have k1 := hid (fun W => rwin_any P F L W (by omega))
  have k2 := hid (fun W => rtime_any f W (by omega))
  have k3 := hid (fun W => rtime_any t W (by omega))
  cases c2 : timB f
  · rw [c2] at k2
    cases c1 : winB P F L
    all_goals
      rw [c1] at k1
      clear hb h k3
      go_enter Try.func16, Try.ntmps16
      go_wp2_with fail
      refine useK w (k1.out _) (by go_grown) ?_; rintro e w1 rfl hB1 hk1 hs1
      replace p00 : w1.cell? ⟨w.heap.size, 0, none⟩ = some (.int .i64 P) := hk1 _ _ _ (by simp [go_sem])
      replace p01 : w1.cell? ⟨w.heap.size, 1, none⟩ = some (.int .i64 F) := hk1 _ _ _ (by simp [go_sem])
      replace p02 : w1.cell? ⟨w.heap.size, 2, none⟩ = some (.int .i64 L) := hk1 _ _ _ (by simp [go_sem])
      have bp00 : w.heap.size < w1.heap.size := World.block_lt_of_cell? w1 ⟨w.heap.size, 0, none⟩ p00
      clear hk1
      go_wp2_with fail
      refine useK w (k2.out _) (by go_grown) ?_; rintro e w2 rfl hB2 hk2 hs2
      replace p00 : w2.cell? ⟨w.heap.size, 0, none⟩ = some (.int .i64 P) := hk2 _ _ _ (p00)
      replace p01 : w2.cell? ⟨w.heap.size, 1, none⟩ = some (.int .i64 F) := hk2 _ _ _ (p01)
      replace p02 : w2.cell? ⟨w.heap.size, 2, none⟩ = some (.int .i64 L) := hk2 _ _ _ (p02)
      have bp00 : w.heap.size < w2.heap.size := World.block_lt_of_cell? w2 ⟨w.heap.size, 0, none⟩ p00
      clear hk2
      go_wp2_with fail
      go_ret2
      exact slotsP_nil hE.out (fun h => absurd h (by decide)) (by go_grown)
  rw [c2] at k2
  cases c3 : timB t
  · rw [c3] at k3
    cases c1 : winB P F L
    all_goals
      rw [c1] at k1
      clear hb h
      go_enter Try.func16, Try.ntmps16
      go_wp2_with fail
      refine useK w (k1.out _) (by go_grown) ?_; rintro e w1 rfl hB1 hk1 hs1
      replace p00 : w1.cell? ⟨w.heap.size, 0, none⟩ = some (.int .i64 P) := hk1 _ _ _ (by simp [go_sem])
      replace p01 : w1.cell? ⟨w.heap.size, 1, none⟩ = some (.int .i64 F) := hk1 _ _ _ (by simp [go_sem])
      replace p02 : w1.cell? ⟨w.heap.size, 2, none⟩ = some (.int .i64 L) := hk1 _ _ _ (by simp [go_sem])
      have bp00 : w.heap.size < w1.heap.size := World.block_lt_of_cell? w1 ⟨w.heap.size, 0, none⟩ p00
      clear hk1
      go_wp2_with fail
      refine useK w (k2.out _) (by go_grown) ?_; rintro e w2 rfl hB2 hk2 hs2
      replace p00 : w2.cell? ⟨w.heap.size, 0, none⟩ = some (.int .i64 P) := hk2 _ _ _ (p00)
      replace p01 : w2.cell? ⟨w.heap.size, 1, none⟩ = some (.int .i64 F) := hk2 _ _ _ (p01)
      replace p02 : w2.cell? ⟨w.heap.size, 2, none⟩ = some (.int .i64 L) := hk2 _ _ _ (p02)
      have bp00 : w.heap.size < w2.heap.size := World.block_lt_of_cell? w2 ⟨w.heap.size, 0, none⟩ p00
      clear hk2
      go_wp2_with fail
      refine useK w (k3.out _) (by go_grown) ?_; rintro e w3 rfl hB3 hk3 hs3
      replace p00 : w3.cell? ⟨w.heap.size, 0, none⟩ = some (.int .i64 P) := hk3 _ _ _ (p00)
      replace p01 : w3.cell? ⟨w.heap.size, 1, none⟩ = some (.int .i64 F) := hk3 _ _ _ (p01)
      replace p02 : w3.cell? ⟨w.heap.size, 2, none⟩ = some (.int .i64 L) := hk3 _ _ _ (p02)
      have bp00 : w.heap.size < w3.heap.size := World.block_lt_of_cell? w3 ⟨w.heap.size, 0, none⟩ p00
      clear hk3
      go_wp2_with fail
      go_ret2
      exact slotsP_nil hE.out (fun h => absurd h (by decide)) (by go_grown)
  rw [c3] at k3
  cases c1 : winB P F L
  · rw [c1] at k1
    clear hb h
    by_cases c4 : f ≤ t
    all_goals
      go_enter Try.func16, Try.ntmps16
      go_wp2_with fail
      refine useK w (k1.out _) (by go_grown) ?_; rintro e w1 rfl hB1 hk1 hs1
      replace p00 : w1.cell? ⟨w.heap.size, 0, none⟩ = some (.int .i64 P) := hk1 _ _ _ (by simp [go_sem])
      replace p01 : w1.cell? ⟨w.heap.size, 1, none⟩ = some (.int .i64 F) := hk1 _ _ _ (by simp [go_sem])
      replace p02 : w1.cell? ⟨w.heap.size, 2, none⟩ = some (.int .i64 L) := hk1 _ _ _ (by simp [go_sem])
      have bp00 : w.heap.size < w1.heap.size := World.block_lt_of_cell? w1 ⟨w.heap.size, 0, none⟩ p00
      clear hk1
      go_wp2_with fail
      refine useK w (k2.out _) (by go_grown) ?_; rintro e w2 rfl hB2 hk2 hs2
      replace p00 : w2.cell? ⟨w.heap.size, 0, none⟩ = some (.int .i64 P) := hk2 _ _ _ (p00)
      replace p01 : w2.cell? ⟨w.heap.size, 1, none⟩ = some (.int .i64 F) := hk2 _ _ _ (p01)
      replace p02 : w2.cell? ⟨w.heap.size, 2, none⟩ = some (.int .i64 L) := hk2 _ _ _ (p02)
      have bp00 : w.heap.size < w2.heap.size := World.block_lt_of_cell? w2 ⟨w.heap.size, 0, none⟩ p00
      clear hk2
      go_wp2_with fail
      refine useK w (k3.out _) (by go_grown) ?_; rintro e w3 rfl hB3 hk3 hs3
      replace p00 : w3.cell? ⟨w.heap.size, 0, none⟩ = some (.int .i64 P) := hk3 _ _ _ (p00)
      replace p01 : w3.cell? ⟨w.heap.size, 1, none⟩ = some (.int .i64 F) := hk3 _ _ _ (p01)
      replace p02 : w3.cell? ⟨w.heap.size, 2, none⟩ = some (.int .i64 L) := hk3 _ _ _ (p02)
      have bp00 : w.heap.size < w3.heap.size := World.block_lt_of_cell? w3 ⟨w.heap.size, 0, none⟩ p00
      clear hk3
      go_wp2_with fail
      go_ret2
      exact slotsP_nil hE.out (fun h => absurd h (by decide)) (by go_grown)
  rw [c1] at k1
  have c4 : ¬ f ≤ t := fun c => hb ⟨c1, c2, c3, c⟩
  have c5 : decide (f ≤ t) = false := decide_eq_false c4
  clear hb h
  go_enter Try.func16, Try.ntmps16
  go_wp2_with fail
  refine useK w (k1.out _) (by go_grown) ?_; rintro e w1 rfl hB1 hk1 hs1
  replace p00 : w1.cell? ⟨w.heap.size, 0, none⟩ = some (.int .i64 P) := hk1 _ _ _ (by simp [go_sem])
  replace p01 : w1.cell? ⟨w.heap.size, 1, none⟩ = some (.int .i64 F) := hk1 _ _ _ (by simp [go_sem])
  replace p02 : w1.cell? ⟨w.heap.size, 2, none⟩ = some (.int .i64 L) := hk1 _ _ _ (by simp [go_sem])
  have bp00 : w.heap.size < w1.heap.size := World.block_lt_of_cell? w1 ⟨w.heap.size, 0, none⟩ p00
  clear hk1
  go_wp2_with fail
  refine useK w (k2.out _) (by go_grown) ?_; rintro e w2 rfl hB2 hk2 hs2
  replace p00 : w2.cell? ⟨w.heap.size, 0, none⟩ = some (.int .i64 P) := hk2 _ _ _ (p00)
  replace p01 : w2.cell? ⟨w.heap.size, 1, none⟩ = some (.int .i64 F) := hk2 _ _ _ (p01)
  replace p02 : w2.cell? ⟨w.heap.size, 2, none⟩ = some (.int .i64 L) := hk2 _ _ _ (p02)
  have bp00 : w.heap.size < w2.heap.size := World.block_lt_of_cell? w2 ⟨w.heap.size, 0, none⟩ p00
  clear hk2
  go_wp2_with fail
  refine useK w (k3.out _) (by go_grown) ?_; rintro e w3 rfl hB3 hk3 hs3
  replace p00 : w3.cell? ⟨w.heap.size, 0, none⟩ = some (.int .i64 P) := hk3 _ _ _ (p00)
  replace p01 : w3.cell? ⟨w.heap.size, 1, none⟩ = some (.int .i64 F) := hk3 _ _ _ (p01)
  replace p02 : w3.cell? ⟨w.heap.size, 2, none⟩ = some (.int .i64 L) := hk3 _ _ _ (p02)
  have bp00 : w.heap.size < w3.heap.size := World.block_lt_of_cell? w3 ⟨w.heap.size, 0, none⟩ p00
  clear hk3
  go_wp2_with fail
  go_ret2
  exact slotsP_nil hE.out (fun h => absurd h (by decide)) (by go_grown)
/-- What is known at a round's head. -/
def HeadR (P F L f t b : Int) (acc : List (Int × Int)) : Prop := f ≤ b ∧ b ≤ t ∧ acc ++ tl P F L t b = tl P F L t f
set_option maxRecDepth 100000 in
theorem rslots_go (P F L f t : Int) (w : World) (c1 : winB P F L = true) (c2 : timB f = true) (c3 : timB t = true) (c4 : f ≤ t) (T : List (Int × Int)) (Hd : Int → List (Int × Int) → Prop)
    (hT : Hid (slotsT P F L f t = T)) (hH0 : Hd f [])
    (hstep : Hid (∀ b acc, Hd b acc → f ≤ b → b < t → ∃ s c, sinc P F b = s ∧ chgI P F L b = c ∧ 0 < c ∧ c ≤ 2305843009213693952 ∧
      ((s < L ∧ (acc.length = 4096 → 4096 < T.length) ∧ Hd (min (b + c) t) (acc ++ [(b, min (b + c) t)])) ∨ (¬ s < L ∧ Hd (min (b + c) t) acc))))
    (hexit : Hid (∀ b acc, Hd b acc → f ≤ b → t ≤ b → b ≤ t → acc = T)) :
    Calls Try.prog 16 #[.agg #[.int .i64 P, .int .i64 F, .int .i64 L], .int .i64 f, .int .i64 t] w fun e w' => SlotsP P F L f t w.heap.size w e w' := by
  obtain ⟨p1, p2, f1, f2, l1, l2⟩ := win_bd c1
  have b2 := of_decide_eq_true c2
  have b3 := of_decide_eq_true c3
  obtain ⟨b21, b22⟩ := b2
  obtain ⟨b31, b32⟩ := b3
  have hE := hid (show slotsE P F L f t = if 4096 < T.length then 3 else 0 by unfold slotsE; rw [if_pos ⟨c1, c2, c3, c4⟩, hT.out])
  have k1 := hid (fun W => rwin_any P F L W (by omega))
  have k2 := hid (fun W => rtime_any f W (by omega))
  have k3 := hid (fun W => rtime_any t W (by omega))
  have k4 := hid (fun b (hb : (-9223372036854775808 ≤ b ∧ b ≤ 9223372036854775807)) W => rhas_any P F L b W hb c1)
  have k5 := hid (fun b (hb : (-9223372036854775808 ≤ b ∧ b ≤ 9223372036854775807)) W => rchange_any P F L b W hb c1)
  rw [c1] at k1
  rw [c2] at k2
  rw [c3] at k3
  replace hH0 := hid hH0
  clear c1 c2 c3
  go_enter Try.func16, Try.ntmps16
  go_wp2_with fail
  refine useK w (k1.out _) (by go_grown) ?_; rintro e w1 rfl hB1 hk1 hs1
  replace p00 : w1.cell? ⟨w.heap.size, 0, none⟩ = some (.int .i64 P) := hk1 _ _ _ (by simp [go_sem])
  replace p01 : w1.cell? ⟨w.heap.size, 1, none⟩ = some (.int .i64 F) := hk1 _ _ _ (by simp [go_sem])
  replace p02 : w1.cell? ⟨w.heap.size, 2, none⟩ = some (.int .i64 L) := hk1 _ _ _ (by simp [go_sem])
  have bp00 : w.heap.size < w1.heap.size := World.block_lt_of_cell? w1 ⟨w.heap.size, 0, none⟩ p00
  clear hk1
  go_wp2_with fail
  refine useK w (k2.out _) (by go_grown) ?_; rintro e w2 rfl hB2 hk2 hs2
  replace p00 : w2.cell? ⟨w.heap.size, 0, none⟩ = some (.int .i64 P) := hk2 _ _ _ (p00)
  replace p01 : w2.cell? ⟨w.heap.size, 1, none⟩ = some (.int .i64 F) := hk2 _ _ _ (p01)
  replace p02 : w2.cell? ⟨w.heap.size, 2, none⟩ = some (.int .i64 L) := hk2 _ _ _ (p02)
  have bp00 : w.heap.size < w2.heap.size := World.block_lt_of_cell? w2 ⟨w.heap.size, 0, none⟩ p00
  clear hk2
  go_wp2_with fail
  refine useK w (k3.out _) (by go_grown) ?_; rintro e w3 rfl hB3 hk3 hs3
  replace p00 : w3.cell? ⟨w.heap.size, 0, none⟩ = some (.int .i64 P) := hk3 _ _ _ (p00)
  replace p01 : w3.cell? ⟨w.heap.size, 1, none⟩ = some (.int .i64 F) := hk3 _ _ _ (p01)
  replace p02 : w3.cell? ⟨w.heap.size, 2, none⟩ = some (.int .i64 L) := hk3 _ _ _ (p02)
  have bp00 : w.heap.size < w3.heap.size := World.block_lt_of_cell? w3 ⟨w.heap.size, 0, none⟩ p00
  clear hk3
  go_wp2_with fail
  have hz3 := hB3.size
  obtain ⟨B, hBlt, hBle⟩ : ∃ B, w.heap.size < B ∧ B ≤ w3.heap.size := ⟨w3.heap.size, bp00, Nat.le_refl _⟩
  go_loopw [11, 10] (fun b v wx => ∃ (bb : Int) (acc : List (Int × Int)), b = .int .i64 bb ∧ f ≤ bb ∧ bb ≤ t ∧ OwnS B acc v wx ∧ acc.length ≤ 4096 ∧ Hid (Hd bb acc) ∧ WinC w.heap.size P F L wx ∧ B ≤ wx.heap.size ∧ Below w.heap.size w wx) (fun b _ _ => (t - intOf b).toNat)
  case atStart => exact ⟨f, [], rfl, by omega, by omega, OwnS.nil _ _, by simp, hH0, ⟨p00, p01, p02⟩, by omega, by go_grown⟩
  case round =>
    clear p00 p01 p02 bp00 hB3 hs3
    obtain ⟨bb, acc, rfl, hb1, hb2, hown, hlen, hh, ⟨x0, x1, x2⟩, hBs, hBw⟩ := hrel
    have xb := World.block_lt_of_cell? _ _ x0
    dsimp only at xb
    by_cases c : bb < t
    · obtain ⟨s, ch, hs1, hc1, hc2, hc3, hst⟩ := hstep.out bb acc hh.out hb1 c
      have q4 := hid (fun W => k4.out bb (by omega) W)
      have q5 := hid (fun W => k5.out bb (by omega) W)
      rw [hs1] at q4
      rw [hc1] at q5
      clear hs1 hc1 k4 k5 hh
      rcases hst with ⟨g1, g2, g3⟩ | ⟨g1, g3⟩
      · rw [show min (bb + ch) t = (if t < bb + ch then t else bb + ch) by split <;> omega] at g3
        have g4 : decide (s < L) = true := decide_eq_true g1
        rw [g4] at q4
        by_cases u : t < bb + ch
        all_goals
          first | rw [if_pos u] at g3 | rw [if_neg u] at g3
          have hh2 := hid g3
          have g5 := hid g2
          clear g3 g2 g4 g1
          by_cases d : acc.length = 4096
          · have hE3 := hid (show slotsE P F L f t = 3 by rw [hE.out, if_pos (g5.out d)])
            obtain ⟨q, cap, rfl⟩ := hown.len
            have d2 : ((acc.length : Int) == 4096) = true := by rw [beq_iff_eq]; omega
            clear hh2 d
            go_wp2_with fail
            refine useO w (q4.out _) (by go_grown) ?_; rintro e w8 rfl hB8 hO8
            replace x0 := cell_below x0 hO8; replace x1 := cell_below x1 hO8; replace x2 := cell_below x2 hO8
            replace hown := hown.below hO8
            have hz8 := hO8.size
            have xb8 := World.block_lt_of_cell? _ _ x0
            dsimp only at xb8
            clear hO8
            go_wp2_with fail
            refine useO w (q5.out _) (by go_grown) ?_; rintro e w9 rfl hB9 hO9
            replace x0 := cell_below x0 hO9; replace x1 := cell_below x1 hO9; replace x2 := cell_below x2 hO9
            replace hown := hown.below hO9
            have hz9 := hO9.size
            have xb9 := World.block_lt_of_cell? _ _ x0
            dsimp only at xb9
            clear hO9
            clear hown
            go_wp2_with fail
            go_ret2
            exact slotsP_nil hE3.out (fun h => absurd h (by decide)) (by go_grown)
          · have d2 : ((acc.length : Int) == 4096) = false := by rw [beq_eq_false_iff_ne]; omega
            obtain ⟨q, cap, rfl⟩ := hown.len
            have hlen2 : acc.length < 4096 := by omega
            clear d hlen
            go_wp2_with fail
            refine useO w (q4.out _) (by go_grown) ?_; rintro e w8 rfl hB8 hO8
            replace x0 := cell_below x0 hO8; replace x1 := cell_below x1 hO8; replace x2 := cell_below x2 hO8
            replace hown := hown.below hO8
            have hz8 := hO8.size
            have xb8 := World.block_lt_of_cell? _ _ x0
            dsimp only at xb8
            clear hO8
            go_wp2_with fail
            refine useO w (q5.out _) (by go_grown) ?_; rintro e w9 rfl hB9 hO9
            replace x0 := cell_below x0 hO9; replace x1 := cell_below x1 hO9; replace x2 := cell_below x2 hO9
            replace hown := hown.below hO9
            have hz9 := hO9.size
            have xb9 := World.block_lt_of_cell? _ _ x0
            dsimp only at xb9
            clear hO9
            have hBs2 : B ≤ w9.heap.size := by omega
            go_upto_region 15 with fail
            generalize Value.slice q acc.length cap = v at *
            go_wp2_with (at_builtin; refine app_slot rfl _ _ rfl B _ acc (by rfl) (by exact hown) _ _ _ rfl rfl (by omega) hBs2 ?_)
            intro v5 w5 h5 hb5
            have hz5 := hb5.size
            have y0 : w5.cell? ⟨w.heap.size, 0, none⟩ = some (.int .i64 P) := (hb5.cell (p := ⟨w.heap.size, 0, none⟩) hBlt).trans x0
            have y1 : w5.cell? ⟨w.heap.size, 1, none⟩ = some (.int .i64 F) := (hb5.cell (p := ⟨w.heap.size, 1, none⟩) hBlt).trans x1
            have y2 : w5.cell? ⟨w.heap.size, 2, none⟩ = some (.int .i64 L) := (hb5.cell (p := ⟨w.heap.size, 2, none⟩) hBlt).trans x2
            have hz6 : B ≤ w5.heap.size := by omega
            have hB6 : Below w.heap.size w w5 := Below.trans hB9 (hb5.mono (Nat.le_of_lt hBlt))
            clear hb5 hown hz5
            go_wp2_with fail
            exact ⟨⟨_, _, rfl, by omega, by omega, h5, by simp; omega, hh2, ⟨y0, y1, y2⟩, hz6, hB6⟩, by first | (simp [intOf]; done) | (simp [intOf]; omega)⟩
      · rw [show min (bb + ch) t = (if t < bb + ch then t else bb + ch) by split <;> omega] at g3
        have g4 : decide (s < L) = false := decide_eq_false (by omega)
        rw [g4] at q4
        by_cases u : t < bb + ch
        all_goals
          first | rw [if_pos u] at g3 | rw [if_neg u] at g3
          have hh2 := hid g3
          clear g3 g4 g1
          · go_wp2_with fail
            refine useO w (q4.out _) (by go_grown) ?_; rintro e w8 rfl hB8 hO8
            replace x0 := cell_below x0 hO8; replace x1 := cell_below x1 hO8; replace x2 := cell_below x2 hO8
            replace hown := hown.below hO8
            have hz8 := hO8.size
            have xb8 := World.block_lt_of_cell? _ _ x0
            dsimp only at xb8
            clear hO8
            go_wp2_with fail
            refine useO w (q5.out _) (by go_grown) ?_; rintro e w9 rfl hB9 hO9
            replace x0 := cell_below x0 hO9; replace x1 := cell_below x1 hO9; replace x2 := cell_below x2 hO9
            replace hown := hown.below hO9
            have hz9 := hO9.size
            have xb9 := World.block_lt_of_cell? _ _ x0
            dsimp only at xb9
            clear hO9
            go_wp2_with fail
            exact ⟨⟨_, acc, rfl, by omega, by omega, hown, hlen, hh2, ⟨x0, x1, x2⟩, by omega, hB9⟩, by first | (simp [intOf]; done) | (simp [intOf]; omega)⟩
    · have hT2 := hexit.out bb acc hh.out hb1 (by omega) hb2
      have hE0 := hid (show slotsE P F L f t = 0 by rw [hE.out, ← hT2, if_neg (by omega)])
      have hsl := own_slots hown
      rw [hT2, ← hT.out] at hsl
      clear hh
      go_wp2_with fail
      go_ret2
      exact slotsP_list hE0.out hsl (by go_grown)
theorem rslots_many (P F L f t : Int) (w : World) (c1 : winB P F L = true) (c2 : timB f = true) (c3 : timB t = true) (c4 : f ≤ t) (hL : 0 < L ∧ L < P) :
    Calls Try.prog 16 #[.agg #[.int .i64 P, .int .i64 F, .int .i64 L], .int .i64 f, .int .i64 t] w fun e w' => SlotsP P F L f t w.heap.size w e w' := by
  obtain ⟨p1, p2, f1, f2, l1, l2⟩ := win_bd c1
  refine rslots_go P F L f t w c1 c2 c3 c4 (tl P F L t f) (HeadR P F L f t) (hid ?_) ⟨Int.le_refl _, c4, rfl⟩ (hid ?_) (hid ?_)
  · unfold slotsT
    split
    · rename_i c
      have : f = t := by omega
      subst this
      rw [tl_nil (Int.le_refl _)]
    · rw [if_neg (by omega)]
  · intro b acc hh _ hb
    obtain ⟨g1, g2, g3⟩ := hh
    have hs := sinc_bd (F := F) (t := b) p1
    refine ⟨_, _, rfl, rfl, ?_⟩
    rw [show chgI P F L b = if sinc P F b < L then L - sinc P F b else P - sinc P F b from if_neg (by omega)]
    by_cases c : sinc P F b < L
    · rw [if_pos c]
      have e : tl P F L t b = _ := tl_slot p1 hL hb c
      rw [e] at g3
      refine ⟨by omega, by omega, Or.inl ⟨c, fun h => ?_, by omega, by omega, ?_⟩⟩
      · rw [← g3, List.length_append, List.length_cons]; omega
      · rw [← g3, List.append_assoc]; rfl
    · rw [if_neg c]
      have e : tl P F L t b = _ := tl_gap p1 hL hb c
      rw [e] at g3
      exact ⟨by omega, by omega, Or.inr ⟨c, by omega, by omega, g3⟩⟩
  · intro b acc hh _ hb _
    obtain ⟨g1, g2, g3⟩ := hh
    rw [← g3, tl_nil hb, List.append_nil]
theorem rslots_easy (P F L f t : Int) (w : World) (c1 : winB P F L = true) (c2 : timB f = true) (c3 : timB t = true) (c4 : f ≤ t) (hL : L = 0 ∨ L = P) :
    Calls Try.prog 16 #[.agg #[.int .i64 P, .int .i64 F, .int .i64 L], .int .i64 f, .int .i64 t] w fun e w' => SlotsP P F L f t w.heap.size w e w' := by
  obtain ⟨p1, p2, f1, f2, l1, l2⟩ := win_bd c1
  have b2 := of_decide_eq_true c2
  have b3 := of_decide_eq_true c3
  refine rslots_go P F L f t w c1 c2 c3 c4 (slotsT P F L f t) (fun b acc => (b = f ∧ acc = []) ∨ (b = t ∧ acc = slotsT P F L f t)) (hid rfl) (Or.inl ⟨rfl, rfl⟩) (hid ?_) (hid ?_)
  · intro b acc hh h1 hb
    rcases hh with ⟨rfl, rfl⟩ | ⟨rfl, _⟩
    · have hs := sinc_bd (F := F) (t := b) p1
      refine ⟨_, _, rfl, rfl, ?_⟩
      rw [show chgI P F L b = 2305843009213693952 from if_pos hL, show min (b + 2305843009213693952) t = t by omega]
      refine ⟨by omega, by omega, ?_⟩
      by_cases c : sinc P F b < L
      · refine Or.inl ⟨c, fun h => by simp at h, Or.inr ⟨rfl, ?_⟩⟩
        unfold slotsT; rw [if_neg (by omega), if_pos (by omega)]; rfl
      · refine Or.inr ⟨c, Or.inr ⟨rfl, ?_⟩⟩
        unfold slotsT; rw [if_pos (by omega)]
    · omega
  · intro b acc hh h1 hb h2
    rcases hh with ⟨rfl, rfl⟩ | ⟨rfl, h⟩
    · unfold slotsT; rw [if_pos (by omega)]
    · exact h
theorem rslots_any (P F L f t : Int) (w : World) (h : (-9223372036854775808 ≤ P ∧ P ≤ 9223372036854775807) ∧ (-9223372036854775808 ≤ F ∧ F ≤ 9223372036854775807) ∧ (-9223372036854775808 ≤ L ∧ L ≤ 9223372036854775807) ∧ (-9223372036854775808 ≤ f ∧ f ≤ 9223372036854775807) ∧ (-9223372036854775808 ≤ t ∧ t ≤ 9223372036854775807)) :
    Calls Try.prog 16 #[.agg #[.int .i64 P, .int .i64 F, .int .i64 L], .int .i64 f, .int .i64 t] w fun e w' => SlotsP P F L f t w.heap.size w e w' := by
  by_cases c : winB P F L = true ∧ timB f = true ∧ timB t = true ∧ f ≤ t
  · obtain ⟨c1, c2, c3, c4⟩ := c
    have := win_bd c1
    by_cases d : L = 0 ∨ L = P
    · exact rslots_easy P F L f t w c1 c2 c3 c4 d
    · exact rslots_many P F L f t w c1 c2 c3 c4 (by omega)
  · exact rslots_bad P F L f t w h c
end Go.Proofs.Ytepcifijhnelcaa
