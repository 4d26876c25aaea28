/- SpanTight: the walk. -/
import Derived.Deep.DeepCutAuto
import Derived.Deep.CutBlock
import Derived.Test.YtjleflfncijnpaaDoorRows
import Derived.Test.YtjleflfncijnpaaDoorBase
import Derived.Test.YtjleflfncijnpaaDoorFacts
import Derived.Test.YtjleflfncijnpaaDoorTwo
import Derived.Deep.RegionHeld3
import Derived.Deep.RegionWith
import Derived.Deep.QuietTactic
import Derived.BigQuiet
import Derived.Test.YtjleflfncijnpaaDoorW
import Derived.Test.YtjleflfncijnpaaDoorAsks
import Derived.Test.YtjleflfncijnpaaDoorOut
import Derived.Test.YtjleflfncijnpaaDoorSeq
import Derived.Test.YtjleflfncijnpaaDoorTwo
import Derived.Test.YtjleflfncijnpaaDoorQuo
import Derived.Test.YtjleflfncijnpaaDoorTimes
import Derived.Test.YtjleflfncijnpaaDoorRound
import Derived.Test.YtjleflfncijnpaaDoorScaleM
import Derived.Test.YtjleflfncijnpaaDoorMul
import Derived.Test.YtjleflfncijnpaaDoorRootM
import Derived.Test.YtjleflfncijnpaaDoorRootT
import Derived.Test.YtjleflfncijnpaaDoorSums
import Derived.Test.YtjleflfncijnpaaDoorHoldsM
import Derived.Test.YtjleflfncijnpaaDoorTightM
import Derived.Test.YtjleflfncijnpaaDoorAlive
set_option linter.unusedVariables false
set_option linter.unusedSimpArgs false
set_option maxHeartbeats 4000000
set_option maxRecDepth 100000
namespace Go.Proofs.YtjleflfncijnpaaDoor
open Go Go.RowKit
theorem times_inc (x : Int) (w : World) (h : -1 ≤ x ∧ x ≤ 1000000000000000) : Calls Tryd.prog 38 #[.int .i64 (IntKind.i64.wrap (x + 1)), .int .i64 (IntKind.i64.wrap (x + 1))] w fun e w' => e = .returned (.agg #[.int .i64 (hiW ((x + 1) * (x + 1))), .int .u64 (loW ((x + 1) * (x + 1)))]) ∧ Below w.heap.size w w' := by
  rw [show IntKind.i64.wrap (x + 1) = x + 1 by simp only [IntKind.wrap_i64, wrap64]; omega]
  exact times_any _ _ w (by omega)
theorem times_inc64 (x : Int) (w : World) (h : -1 ≤ x ∧ x ≤ 1000000000000000) : Calls Tryd.prog 38 #[.int .i64 (wrap64 (x + 1)), .int .i64 (wrap64 (x + 1))] w fun e w' => e = .returned (.agg #[.int .i64 (hiW ((x + 1) * (x + 1))), .int .u64 (loW ((x + 1) * (x + 1)))]) ∧ Below w.heap.size w w' := by
  rw [show wrap64 (x + 1) = x + 1 by simp only [IntKind.wrap_i64, wrap64]; omega]
  exact times_any _ _ w (by omega)
theorem times_dec (x : Int) (w : World) (h : -1 ≤ x ∧ x ≤ 1000000000000000) : Calls Tryd.prog 38 #[.int .i64 (IntKind.i64.wrap (x - 1)), .int .i64 (IntKind.i64.wrap (x - 1))] w fun e w' => e = .returned (.agg #[.int .i64 (hiW ((x - 1) * (x - 1))), .int .u64 (loW ((x - 1) * (x - 1)))]) ∧ Below w.heap.size w w' := by
  rw [show IntKind.i64.wrap (x - 1) = x - 1 by simp only [IntKind.wrap_i64, wrap64]; omega]
  exact times_any _ _ w (by omega)
theorem times_dec64 (x : Int) (w : World) (h : -1 ≤ x ∧ x ≤ 1000000000000000) : Calls Tryd.prog 38 #[.int .i64 (wrap64 (x - 1)), .int .i64 (wrap64 (x - 1))] w fun e w' => e = .returned (.agg #[.int .i64 (hiW ((x - 1) * (x - 1))), .int .u64 (loW ((x - 1) * (x - 1)))]) ∧ Below w.heap.size w w' := by
  rw [show wrap64 (x - 1) = x - 1 by simp only [IntKind.wrap_i64, wrap64]; omega]
  exact times_any _ _ w (by omega)
/-- The cells of the parameters and of the product. -/
def TA (B Bp : Nat) (al ah bl bh pl ph : Int) : World → Prop := (fun w' => w'.cell? ⟨B, 0, none⟩ = some (.int .i64 al) ∧ w'.cell? ⟨B, 1, none⟩ = some (.int .i64 ah) ∧ w'.cell? ⟨B + 1, 0, none⟩ = some (.int .i64 bl) ∧ w'.cell? ⟨B + 1, 1, none⟩ = some (.int .i64 bh) ∧ w'.cell? ⟨Bp, 0, none⟩ = some (.int .i64 pl) ∧ w'.cell? ⟨Bp, 1, none⟩ = some (.int .i64 ph))
/-- Those, and the list of the first span's bounds. -/
def TB (B Bp Bx : Nat) (al ah bl bh pl ph : Int) : World → Prop := (fun w' => w'.cell? ⟨B, 0, none⟩ = some (.int .i64 al) ∧ w'.cell? ⟨B, 1, none⟩ = some (.int .i64 ah) ∧ w'.cell? ⟨B + 1, 0, none⟩ = some (.int .i64 bl) ∧ w'.cell? ⟨B + 1, 1, none⟩ = some (.int .i64 bh) ∧ w'.cell? ⟨Bp, 0, none⟩ = some (.int .i64 pl) ∧ w'.cell? ⟨Bp, 1, none⟩ = some (.int .i64 ph) ∧ w'.cell? ⟨Bx, 0, none⟩ = some (.int .i64 al) ∧ w'.cell? ⟨Bx, 1, none⟩ = some (.int .i64 ah))
/-- Those, and the second's. -/
def TC (B Bp Bx By : Nat) (al ah bl bh pl ph : Int) : World → Prop := (fun w' => w'.cell? ⟨B, 0, none⟩ = some (.int .i64 al) ∧ w'.cell? ⟨B, 1, none⟩ = some (.int .i64 ah) ∧ w'.cell? ⟨B + 1, 0, none⟩ = some (.int .i64 bl) ∧ w'.cell? ⟨B + 1, 1, none⟩ = some (.int .i64 bh) ∧ w'.cell? ⟨Bp, 0, none⟩ = some (.int .i64 pl) ∧ w'.cell? ⟨Bp, 1, none⟩ = some (.int .i64 ph) ∧ w'.cell? ⟨Bx, 0, none⟩ = some (.int .i64 al) ∧ w'.cell? ⟨Bx, 1, none⟩ = some (.int .i64 ah) ∧ w'.cell? ⟨By, 0, none⟩ = some (.int .i64 bl) ∧ w'.cell? ⟨By, 1, none⟩ = some (.int .i64 bh))
theorem tight_go (al ah bl bh pl ph rl rh er : Int) (w : World) (h : (-9223372036854775808 ≤ al ∧ al ≤ 9223372036854775807) ∧ (-9223372036854775808 ≤ ah ∧ ah ≤ 9223372036854775807) ∧ (-9223372036854775808 ≤ bl ∧ bl ≤ 9223372036854775807) ∧ (-9223372036854775808 ≤ bh ∧ bh ≤ 9223372036854775807)) (hv : (-9223372036854775807 ≤ pl ∧ pl ≤ 9223372036854775807) ∧ (-9223372036854775807 ≤ ph ∧ ph ≤ 9223372036854775807)) (hr : 0 ≤ rl ∧ rl ≤ 281474976710656 ∧ 0 ≤ rh ∧ rh ≤ 281474976710657)
    (g1 : Hid (∀ w : World, Calls Tryd.prog 34 #[.agg #[.int .i64 al, .int .i64 ah], .agg #[.int .i64 bl, .int .i64 bh]] w fun e w' => e = .returned (.tuple #[.agg #[.int .i64 pl, .int .i64 ph], .int .i64 0]) ∧ Below w.heap.size w w'))
    (g2 : Hid (∀ w : World, Calls Tryd.prog 21 #[.agg #[.int .i64 al, .int .i64 ah]] w fun e w' => e = .returned (.tuple #[.agg #[.int .i64 rl, .int .i64 rh], .int .i64 er]) ∧ Below w.heap.size w w'))
    (hlow : Hid (orK (lowK al ah bl bh (pl * 4294967296 + 4294967296)) 4 = true)) (hhigh : Hid (orK (highK al ah bl bh (ph * 4294967296 + -4294967296)) 4 = true))
    (hrt : Hid ((er = 0 ∧ 0 ≤ ah ∧ max al 0 * 4294967296 < (rl + 1) * (rl + 1) ∧ (rh = 0 ∨ (rh - 1) * (rh - 1) < ah * 4294967296)) ∨ (er = 4 ∧ ah < 0))) :
    Calls Tryd.prog 6 #[.agg #[.int .i64 al, .int .i64 ah], .agg #[.int .i64 bl, .int .i64 bh]] w fun e w' => e = .returned (.bool true) ∧ Below w.heap.size w w' := by
  have hxy := hid h
  obtain ⟨⟨a1, a2⟩, ⟨b1, b2⟩, ⟨c1, c2⟩, d1, d2⟩ := h
  obtain ⟨⟨v1, v2⟩, v3, v4⟩ := hv
  go_enter Tryd.func6, Tryd.ntmps6
  go_wp2_with fail
  refine useK w (alive_any _) (by go_grown) ?_; rintro e w1 rfl hB1 hk1 hs1
  replace p00 : w1.cell? ⟨w.heap.size, 0, none⟩ = some (.int .i64 al) := hk1 _ _ _ (by simp [go_sem])
  replace p01 : w1.cell? ⟨w.heap.size, 1, none⟩ = some (.int .i64 ah) := hk1 _ _ _ (by simp [go_sem])
  replace p10 : w1.cell? ⟨w.heap.size + 1, 0, none⟩ = some (.int .i64 bl) := hk1 _ _ _ (by simp [go_sem])
  replace p11 : w1.cell? ⟨w.heap.size + 1, 1, none⟩ = some (.int .i64 bh) := hk1 _ _ _ (by simp [go_sem])
  have bp00 : w.heap.size < w1.heap.size := World.block_lt_of_cell? w1 ⟨w.heap.size, 0, none⟩ p00
  have bp10 : w.heap.size + 1 < w1.heap.size := World.block_lt_of_cell? w1 ⟨w.heap.size + 1, 0, none⟩ p10
  clear hk1
  go_wp2_with fail
  refine useF w (g1.out _) (by go_grown) ?_; rintro e w11 rfl hB11 hk11 hf11 hs11; clear hs11
  replace p00 : w11.cell? ⟨w.heap.size, 0, none⟩ = some (.int .i64 al) := hk11 _ _ _ (p00)
  replace p01 : w11.cell? ⟨w.heap.size, 1, none⟩ = some (.int .i64 ah) := hk11 _ _ _ (p01)
  replace p10 : w11.cell? ⟨w.heap.size + 1, 0, none⟩ = some (.int .i64 bl) := hk11 _ _ _ (p10)
  replace p11 : w11.cell? ⟨w.heap.size + 1, 1, none⟩ = some (.int .i64 bh) := hk11 _ _ _ (p11)
  (try clear p0b); have p0b : w.heap.size < w11.heap.size := World.block_lt_of_cell? w11 ⟨w.heap.size, 0, none⟩ p00
  (try clear p1b); have p1b : w.heap.size + 1 < w11.heap.size := World.block_lt_of_cell? w11 ⟨w.heap.size + 1, 0, none⟩ p10
  clear hk11 hf11
  go_upto_block 0 with fail
  have hA : TB w.heap.size w11.heap.size (w11.heap.size + 1) al ah bl bh pl ph ((w11.alloc (.cells #[.int .i64 pl, .int .i64 ph] 24)).alloc (.cells #[.int .i64 al, .int .i64 ah] 22)) := ⟨keepA _ (keepA _ p00), keepA _ (keepA _ p01), keepA _ (keepA _ p10), keepA _ (keepA _ p11), by simp [go_sem], by simp [go_sem], by simp [go_sem], by simp [go_sem]⟩
  have hB : Below w.heap.size w ((w11.alloc (.cells #[.int .i64 pl, .int .i64 ph] 24)).alloc (.cells #[.int .i64 al, .int .i64 ah] 22)) := by go_grown
  clear p00 p01 p10 p11
  have hwA : w.heap.size + 1 < w11.heap.size := p1b
  generalize w11.heap.size = Bp at *
  generalize hT : pl * 4294967296 + 4294967296 = T at *
  generalize hU : ph * 4294967296 + -4294967296 = U at *
  have hTU := hid (show (-170141183460469231731687303715884105728 ≤ T ∧ T < 170141183460469231731687303715884105728) ∧ (-170141183460469231731687303715884105728 ≤ U ∧ U < 170141183460469231731687303715884105728) by omega)
  go_cut [9, 10] (fun lo hi wx => lo = .bool true ∧ hi = .bool true ∧ TA w.heap.size Bp al ah bl bh pl ph wx ∧ Bp < wx.heap.size ∧ Below w.heap.size w wx)
  case first => as_aux_lemma =>
    go_wp2_with fail
    go_loopw [44, 9, 10] (fun s lo hi wx => ∃ k : Nat, s = .int .i64 k ∧ lo = .bool (orK (lowK al ah bl bh T) (2 * k)) ∧ hi = .bool (orK (highK al ah bl bh U) (2 * k)) ∧ k ≤ 2 ∧ TB w.heap.size Bp (Bp + 1) al ah bl bh pl ph wx ∧ Below w.heap.size w wx) (fun s _ _ _ => (2 - intOf s).toNat)
    case atStart => exact ⟨0, rfl, rfl, rfl, by omega, hA, hB⟩
    case round =>
      clear hA hB
      obtain ⟨k, rfl, rfl, rfl, hk, hA, hB⟩ := hrel
      obtain ⟨a0, a1', b0, b1', p0, p1, x0, x1⟩ := hA
      by_cases k2 : k = 2
      · subst k2
        have e1 := hlow.out
        have e2 := hhigh.out
        have hbl := World.block_lt_of_cell? _ _ p0
        go_wp2_with fail
        go_meet
        exact ⟨by rw [← e1], by rw [← e2], ⟨a0, a1', b0, b1', p0, p1⟩, hbl, hB⟩
      · have hx := list_at (by omega : k < 2) x0 x1
        have hk0 : (0 : Int) ≤ k := by omega
        have hk1 : (k : Int) < 2 := by omega
        have hz := hB.size
        have hA2 : TC w.heap.size Bp (Bp + 1) wr.heap.size al ah bl bh pl ph (wr.alloc (.cells #[.int .i64 bl, .int .i64 bh] 22)) := ⟨keepA _ a0, keepA _ a1', keepA _ b0, keepA _ b1', keepA _ p0, keepA _ p1, keepA _ x0, keepA _ x1, by simp [go_sem], by simp [go_sem]⟩
        have hB2 : Below w.heap.size w (wr.alloc (.cells #[.int .i64 bl, .int .i64 bh] 22)) := by go_grown
        obtain ⟨By, hBy⟩ : ∃ b, b = wr.heap.size := ⟨_, rfl⟩
        go_upto_block 1 with fail
        go_cut [9, 10] (fun lo hi wx => lo = .bool (orK (lowK al ah bl bh T) (2 * k + 2)) ∧ hi = .bool (orK (highK al ah bl bh U) (2 * k + 2)) ∧ TB w.heap.size Bp (Bp + 1) al ah bl bh pl ph wx ∧ Below w.heap.size w wx)
        case first => as_aux_lemma =>
          go_wp2_with fail
          rw [← hBy] at hA2
          rw [← hBy]
          clear a0 a1' b0 b1' p0 p1 x0 x1 hB hx hBy
          go_loopw [54, 9, 10] (fun s lo hi wx => ∃ (j : Nat) (lo' hi' : Bool), s = .int .i64 j ∧ lo = .bool lo' ∧ hi = .bool hi' ∧ lo' = orK (lowK al ah bl bh T) (2 * k + j) ∧ hi' = orK (highK al ah bl bh U) (2 * k + j) ∧ j ≤ 2 ∧ TC w.heap.size Bp (Bp + 1) By al ah bl bh pl ph wx ∧ Below w.heap.size w wx) (fun s _ _ _ => (2 - intOf s).toNat)
          case atStart => exact ⟨0, _, _, rfl, rfl, rfl, rfl, rfl, by omega, hA2, hB2⟩
          case round =>
            clear hA2 hB2
            obtain ⟨j, lo', hi', rfl, rfl, rfl, hl, hh, hj, hA2, hB2⟩ := hrel
            obtain ⟨fa0, fa1, fb0, fb1, fp0, fp1, fx0, fx1, fy0, fy1⟩ := hA2
            by_cases j2 : j = 2
            · subst j2
              go_wp2_with fail
              go_meet
              exact ⟨by rw [hl], by rw [hh], ⟨fa0, fa1, fb0, fb1, fp0, fp1, fx0, fx1⟩, hB2⟩
            · have hy := list_at (by omega : j < 2) fy0 fy1
              have hj0 : (0 : Int) ≤ j := by omega
              have hj1 : (j : Int) < 2 := by omega
              have hpk := pK_xy al ah bl bh (by omega : k < 2) (by omega : j < 2)
              have hbx := xT_bd (al := al) (ah := ah) ⟨hxy.out.1, hxy.out.2.1⟩ k
              have hby := xT_bd (al := bl) (ah := bh) ⟨hxy.out.2.2.1, hxy.out.2.2.2⟩ j
              have hpb := prod_bd (x := xT al ah k) (y := xT bl bh j) ⟨hbx, hby⟩
              have t1 := hid (fun W => times_any (xT al ah k) (xT bl bh j) W ⟨hbx, hby⟩)
              have e1 : lowK al ah bl bh T (2 * k + j) = decide (xT al ah k * xT bl bh j < T) := by unfold lowK; rw [hpk]
              have e2 : highK al ah bl bh U (2 * k + j) = decide (U < xT al ah k * xT bl bh j) := by unfold highK; rw [hpk]
              have l1 := hid (fun W => less_any (xT al ah k * xT bl bh j) T W ⟨by omega, hTU.out.1⟩)
              have l2 := hid (fun W => less_any U (xT al ah k * xT bl bh j) W ⟨hTU.out.2, by omega⟩)
              have p1 := hid (fun W => plus_any (pl * 4294967296) 4294967296 W)
              have p2 := hid (fun W => plus_any (ph * 4294967296) (-4294967296) W)
              rw [hT] at p1
              rw [hU] at p2
              replace e1 := hid e1
              replace e2 := hid e2
              replace hl := hid hl
              replace hh := hid hh
              clear hpk hpb hbx hby
              generalize xT al ah k * xT bl bh j = V at *
              cases lo' <;> cases hi'

              · as_aux_lemma =>
                go_wp2_with fail
                refine useF w (t1.out _) (by go_grown) ?_; rintro e w21 rfl hB21 hk21 hf21 hs21; clear hs21
                replace fa0 : w21.cell? ⟨w.heap.size, 0, none⟩ = some (.int .i64 al) := hk21 _ _ _ (fa0)
                replace fa1 : w21.cell? ⟨w.heap.size, 1, none⟩ = some (.int .i64 ah) := hk21 _ _ _ (fa1)
                replace fb0 : w21.cell? ⟨w.heap.size + 1, 0, none⟩ = some (.int .i64 bl) := hk21 _ _ _ (fb0)
                replace fb1 : w21.cell? ⟨w.heap.size + 1, 1, none⟩ = some (.int .i64 bh) := hk21 _ _ _ (fb1)
                replace fp0 : w21.cell? ⟨Bp, 0, none⟩ = some (.int .i64 pl) := hk21 _ _ _ (fp0)
                replace fp1 : w21.cell? ⟨Bp, 1, none⟩ = some (.int .i64 ph) := hk21 _ _ _ (fp1)
                replace fx0 : w21.cell? ⟨Bp + 1, 0, none⟩ = some (.int .i64 al) := hk21 _ _ _ (fx0)
                replace fx1 : w21.cell? ⟨Bp + 1, 1, none⟩ = some (.int .i64 ah) := hk21 _ _ _ (fx1)
                replace fy0 : w21.cell? ⟨By, 0, none⟩ = some (.int .i64 bl) := hk21 _ _ _ (fy0)
                replace fy1 : w21.cell? ⟨By, 1, none⟩ = some (.int .i64 bh) := hk21 _ _ _ (fy1)
                (try clear fab); have fab : w.heap.size < w21.heap.size := World.block_lt_of_cell? w21 ⟨w.heap.size, 0, none⟩ fa0
                (try clear fbb); have fbb : w.heap.size + 1 < w21.heap.size := World.block_lt_of_cell? w21 ⟨w.heap.size + 1, 0, none⟩ fb0
                (try clear fpb); have fpb : Bp < w21.heap.size := World.block_lt_of_cell? w21 ⟨Bp, 0, none⟩ fp0
                (try clear fxb); have fxb : Bp + 1 < w21.heap.size := World.block_lt_of_cell? w21 ⟨Bp + 1, 0, none⟩ fx0
                (try clear fyb); have fyb : By < w21.heap.size := World.block_lt_of_cell? w21 ⟨By, 0, none⟩ fy0
                clear hk21 hf21
                go_wp2_with fail
                refine useF w (times_any pl 4294967296 _ (by omega)) (by go_grown) ?_; rintro e w22 rfl hB22 hk22 hf22 hs22; clear hs22
                replace fa0 : w22.cell? ⟨w.heap.size, 0, none⟩ = some (.int .i64 al) := hk22 _ _ _ ((keepA _ fa0))
                replace fa1 : w22.cell? ⟨w.heap.size, 1, none⟩ = some (.int .i64 ah) := hk22 _ _ _ ((keepA _ fa1))
                replace fb0 : w22.cell? ⟨w.heap.size + 1, 0, none⟩ = some (.int .i64 bl) := hk22 _ _ _ ((keepA _ fb0))
                replace fb1 : w22.cell? ⟨w.heap.size + 1, 1, none⟩ = some (.int .i64 bh) := hk22 _ _ _ ((keepA _ fb1))
                replace fp0 : w22.cell? ⟨Bp, 0, none⟩ = some (.int .i64 pl) := hk22 _ _ _ ((keepA _ fp0))
                replace fp1 : w22.cell? ⟨Bp, 1, none⟩ = some (.int .i64 ph) := hk22 _ _ _ ((keepA _ fp1))
                replace fx0 : w22.cell? ⟨Bp + 1, 0, none⟩ = some (.int .i64 al) := hk22 _ _ _ ((keepA _ fx0))
                replace fx1 : w22.cell? ⟨Bp + 1, 1, none⟩ = some (.int .i64 ah) := hk22 _ _ _ ((keepA _ fx1))
                replace fy0 : w22.cell? ⟨By, 0, none⟩ = some (.int .i64 bl) := hk22 _ _ _ ((keepA _ fy0))
                replace fy1 : w22.cell? ⟨By, 1, none⟩ = some (.int .i64 bh) := hk22 _ _ _ ((keepA _ fy1))
                have fw0 : w22.cell? ⟨w21.heap.size, 0, none⟩ = some (.int .i64 (hiW V)) := hk22 _ _ _ ((by simp [go_sem]))
                have fw1 : w22.cell? ⟨w21.heap.size, 1, none⟩ = some (.int .u64 (loW V)) := hk22 _ _ _ ((by simp [go_sem]))
                (try clear fab); have fab : w.heap.size < w22.heap.size := World.block_lt_of_cell? w22 ⟨w.heap.size, 0, none⟩ fa0
                (try clear fbb); have fbb : w.heap.size + 1 < w22.heap.size := World.block_lt_of_cell? w22 ⟨w.heap.size + 1, 0, none⟩ fb0
                (try clear fpb); have fpb : Bp < w22.heap.size := World.block_lt_of_cell? w22 ⟨Bp, 0, none⟩ fp0
                (try clear fxb); have fxb : Bp + 1 < w22.heap.size := World.block_lt_of_cell? w22 ⟨Bp + 1, 0, none⟩ fx0
                (try clear fyb); have fyb : By < w22.heap.size := World.block_lt_of_cell? w22 ⟨By, 0, none⟩ fy0
                (try clear fwb); have fwb : w21.heap.size < w22.heap.size := World.block_lt_of_cell? w22 ⟨w21.heap.size, 0, none⟩ fw0
                clear hk22 hf22
                go_wp2_with fail
                refine useF w (of_any 4294967296 _ (by omega)) (by go_grown) ?_; rintro e w23 rfl hB23 hk23 hf23 hs23; clear hs23
                replace fa0 : w23.cell? ⟨w.heap.size, 0, none⟩ = some (.int .i64 al) := hk23 _ _ _ (fa0)
                replace fa1 : w23.cell? ⟨w.heap.size, 1, none⟩ = some (.int .i64 ah) := hk23 _ _ _ (fa1)
                replace fb0 : w23.cell? ⟨w.heap.size + 1, 0, none⟩ = some (.int .i64 bl) := hk23 _ _ _ (fb0)
                replace fb1 : w23.cell? ⟨w.heap.size + 1, 1, none⟩ = some (.int .i64 bh) := hk23 _ _ _ (fb1)
                replace fp0 : w23.cell? ⟨Bp, 0, none⟩ = some (.int .i64 pl) := hk23 _ _ _ (fp0)
                replace fp1 : w23.cell? ⟨Bp, 1, none⟩ = some (.int .i64 ph) := hk23 _ _ _ (fp1)
                replace fx0 : w23.cell? ⟨Bp + 1, 0, none⟩ = some (.int .i64 al) := hk23 _ _ _ (fx0)
                replace fx1 : w23.cell? ⟨Bp + 1, 1, none⟩ = some (.int .i64 ah) := hk23 _ _ _ (fx1)
                replace fy0 : w23.cell? ⟨By, 0, none⟩ = some (.int .i64 bl) := hk23 _ _ _ (fy0)
                replace fy1 : w23.cell? ⟨By, 1, none⟩ = some (.int .i64 bh) := hk23 _ _ _ (fy1)
                replace fw0 : w23.cell? ⟨w21.heap.size, 0, none⟩ = some (.int .i64 (hiW V)) := hk23 _ _ _ (fw0)
                replace fw1 : w23.cell? ⟨w21.heap.size, 1, none⟩ = some (.int .u64 (loW V)) := hk23 _ _ _ (fw1)
                (try clear fab); have fab : w.heap.size < w23.heap.size := World.block_lt_of_cell? w23 ⟨w.heap.size, 0, none⟩ fa0
                (try clear fbb); have fbb : w.heap.size + 1 < w23.heap.size := World.block_lt_of_cell? w23 ⟨w.heap.size + 1, 0, none⟩ fb0
                (try clear fpb); have fpb : Bp < w23.heap.size := World.block_lt_of_cell? w23 ⟨Bp, 0, none⟩ fp0
                (try clear fxb); have fxb : Bp + 1 < w23.heap.size := World.block_lt_of_cell? w23 ⟨Bp + 1, 0, none⟩ fx0
                (try clear fyb); have fyb : By < w23.heap.size := World.block_lt_of_cell? w23 ⟨By, 0, none⟩ fy0
                (try clear fwb); have fwb : w21.heap.size < w23.heap.size := World.block_lt_of_cell? w23 ⟨w21.heap.size, 0, none⟩ fw0
                clear hk23 hf23
                go_wp2_with fail
                refine useF w (p1.out _) (by go_grown) ?_; rintro e w24 rfl hB24 hk24 hf24 hs24; clear hs24
                replace fa0 : w24.cell? ⟨w.heap.size, 0, none⟩ = some (.int .i64 al) := hk24 _ _ _ (fa0)
                replace fa1 : w24.cell? ⟨w.heap.size, 1, none⟩ = some (.int .i64 ah) := hk24 _ _ _ (fa1)
                replace fb0 : w24.cell? ⟨w.heap.size + 1, 0, none⟩ = some (.int .i64 bl) := hk24 _ _ _ (fb0)
                replace fb1 : w24.cell? ⟨w.heap.size + 1, 1, none⟩ = some (.int .i64 bh) := hk24 _ _ _ (fb1)
                replace fp0 : w24.cell? ⟨Bp, 0, none⟩ = some (.int .i64 pl) := hk24 _ _ _ (fp0)
                replace fp1 : w24.cell? ⟨Bp, 1, none⟩ = some (.int .i64 ph) := hk24 _ _ _ (fp1)
                replace fx0 : w24.cell? ⟨Bp + 1, 0, none⟩ = some (.int .i64 al) := hk24 _ _ _ (fx0)
                replace fx1 : w24.cell? ⟨Bp + 1, 1, none⟩ = some (.int .i64 ah) := hk24 _ _ _ (fx1)
                replace fy0 : w24.cell? ⟨By, 0, none⟩ = some (.int .i64 bl) := hk24 _ _ _ (fy0)
                replace fy1 : w24.cell? ⟨By, 1, none⟩ = some (.int .i64 bh) := hk24 _ _ _ (fy1)
                replace fw0 : w24.cell? ⟨w21.heap.size, 0, none⟩ = some (.int .i64 (hiW V)) := hk24 _ _ _ (fw0)
                replace fw1 : w24.cell? ⟨w21.heap.size, 1, none⟩ = some (.int .u64 (loW V)) := hk24 _ _ _ (fw1)
                (try clear fab); have fab : w.heap.size < w24.heap.size := World.block_lt_of_cell? w24 ⟨w.heap.size, 0, none⟩ fa0
                (try clear fbb); have fbb : w.heap.size + 1 < w24.heap.size := World.block_lt_of_cell? w24 ⟨w.heap.size + 1, 0, none⟩ fb0
                (try clear fpb); have fpb : Bp < w24.heap.size := World.block_lt_of_cell? w24 ⟨Bp, 0, none⟩ fp0
                (try clear fxb); have fxb : Bp + 1 < w24.heap.size := World.block_lt_of_cell? w24 ⟨Bp + 1, 0, none⟩ fx0
                (try clear fyb); have fyb : By < w24.heap.size := World.block_lt_of_cell? w24 ⟨By, 0, none⟩ fy0
                (try clear fwb); have fwb : w21.heap.size < w24.heap.size := World.block_lt_of_cell? w24 ⟨w21.heap.size, 0, none⟩ fw0
                clear hk24 hf24
                go_wp2_with fail
                refine useF w (times_any ph 4294967296 _ (by omega)) (by go_grown) ?_; rintro e w25 rfl hB25 hk25 hf25 hs25; clear hs25
                replace fa0 : w25.cell? ⟨w.heap.size, 0, none⟩ = some (.int .i64 al) := hk25 _ _ _ ((keepA _ fa0))
                replace fa1 : w25.cell? ⟨w.heap.size, 1, none⟩ = some (.int .i64 ah) := hk25 _ _ _ ((keepA _ fa1))
                replace fb0 : w25.cell? ⟨w.heap.size + 1, 0, none⟩ = some (.int .i64 bl) := hk25 _ _ _ ((keepA _ fb0))
                replace fb1 : w25.cell? ⟨w.heap.size + 1, 1, none⟩ = some (.int .i64 bh) := hk25 _ _ _ ((keepA _ fb1))
                replace fp0 : w25.cell? ⟨Bp, 0, none⟩ = some (.int .i64 pl) := hk25 _ _ _ ((keepA _ fp0))
                replace fp1 : w25.cell? ⟨Bp, 1, none⟩ = some (.int .i64 ph) := hk25 _ _ _ ((keepA _ fp1))
                replace fx0 : w25.cell? ⟨Bp + 1, 0, none⟩ = some (.int .i64 al) := hk25 _ _ _ ((keepA _ fx0))
                replace fx1 : w25.cell? ⟨Bp + 1, 1, none⟩ = some (.int .i64 ah) := hk25 _ _ _ ((keepA _ fx1))
                replace fy0 : w25.cell? ⟨By, 0, none⟩ = some (.int .i64 bl) := hk25 _ _ _ ((keepA _ fy0))
                replace fy1 : w25.cell? ⟨By, 1, none⟩ = some (.int .i64 bh) := hk25 _ _ _ ((keepA _ fy1))
                replace fw0 : w25.cell? ⟨w21.heap.size, 0, none⟩ = some (.int .i64 (hiW V)) := hk25 _ _ _ ((keepA _ fw0))
                replace fw1 : w25.cell? ⟨w21.heap.size, 1, none⟩ = some (.int .u64 (loW V)) := hk25 _ _ _ ((keepA _ fw1))
                have fn0 : w25.cell? ⟨w24.heap.size, 0, none⟩ = some (.int .i64 (hiW T)) := hk25 _ _ _ ((by simp [go_sem]))
                have fn1 : w25.cell? ⟨w24.heap.size, 1, none⟩ = some (.int .u64 (loW T)) := hk25 _ _ _ ((by simp [go_sem]))
                (try clear fab); have fab : w.heap.size < w25.heap.size := World.block_lt_of_cell? w25 ⟨w.heap.size, 0, none⟩ fa0
                (try clear fbb); have fbb : w.heap.size + 1 < w25.heap.size := World.block_lt_of_cell? w25 ⟨w.heap.size + 1, 0, none⟩ fb0
                (try clear fpb); have fpb : Bp < w25.heap.size := World.block_lt_of_cell? w25 ⟨Bp, 0, none⟩ fp0
                (try clear fxb); have fxb : Bp + 1 < w25.heap.size := World.block_lt_of_cell? w25 ⟨Bp + 1, 0, none⟩ fx0
                (try clear fyb); have fyb : By < w25.heap.size := World.block_lt_of_cell? w25 ⟨By, 0, none⟩ fy0
                (try clear fwb); have fwb : w21.heap.size < w25.heap.size := World.block_lt_of_cell? w25 ⟨w21.heap.size, 0, none⟩ fw0
                (try clear fnb); have fnb : w24.heap.size < w25.heap.size := World.block_lt_of_cell? w25 ⟨w24.heap.size, 0, none⟩ fn0
                clear hk25 hf25
                go_wp2_with fail
                refine useF w (of_any (-4294967296) _ (by omega)) (by go_grown) ?_; rintro e w26 rfl hB26 hk26 hf26 hs26; clear hs26
                replace fa0 : w26.cell? ⟨w.heap.size, 0, none⟩ = some (.int .i64 al) := hk26 _ _ _ (fa0)
                replace fa1 : w26.cell? ⟨w.heap.size, 1, none⟩ = some (.int .i64 ah) := hk26 _ _ _ (fa1)
                replace fb0 : w26.cell? ⟨w.heap.size + 1, 0, none⟩ = some (.int .i64 bl) := hk26 _ _ _ (fb0)
                replace fb1 : w26.cell? ⟨w.heap.size + 1, 1, none⟩ = some (.int .i64 bh) := hk26 _ _ _ (fb1)
                replace fp0 : w26.cell? ⟨Bp, 0, none⟩ = some (.int .i64 pl) := hk26 _ _ _ (fp0)
                replace fp1 : w26.cell? ⟨Bp, 1, none⟩ = some (.int .i64 ph) := hk26 _ _ _ (fp1)
                replace fx0 : w26.cell? ⟨Bp + 1, 0, none⟩ = some (.int .i64 al) := hk26 _ _ _ (fx0)
                replace fx1 : w26.cell? ⟨Bp + 1, 1, none⟩ = some (.int .i64 ah) := hk26 _ _ _ (fx1)
                replace fy0 : w26.cell? ⟨By, 0, none⟩ = some (.int .i64 bl) := hk26 _ _ _ (fy0)
                replace fy1 : w26.cell? ⟨By, 1, none⟩ = some (.int .i64 bh) := hk26 _ _ _ (fy1)
                replace fw0 : w26.cell? ⟨w21.heap.size, 0, none⟩ = some (.int .i64 (hiW V)) := hk26 _ _ _ (fw0)
                replace fw1 : w26.cell? ⟨w21.heap.size, 1, none⟩ = some (.int .u64 (loW V)) := hk26 _ _ _ (fw1)
                replace fn0 : w26.cell? ⟨w24.heap.size, 0, none⟩ = some (.int .i64 (hiW T)) := hk26 _ _ _ (fn0)
                replace fn1 : w26.cell? ⟨w24.heap.size, 1, none⟩ = some (.int .u64 (loW T)) := hk26 _ _ _ (fn1)
                (try clear fab); have fab : w.heap.size < w26.heap.size := World.block_lt_of_cell? w26 ⟨w.heap.size, 0, none⟩ fa0
                (try clear fbb); have fbb : w.heap.size + 1 < w26.heap.size := World.block_lt_of_cell? w26 ⟨w.heap.size + 1, 0, none⟩ fb0
                (try clear fpb); have fpb : Bp < w26.heap.size := World.block_lt_of_cell? w26 ⟨Bp, 0, none⟩ fp0
                (try clear fxb); have fxb : Bp + 1 < w26.heap.size := World.block_lt_of_cell? w26 ⟨Bp + 1, 0, none⟩ fx0
                (try clear fyb); have fyb : By < w26.heap.size := World.block_lt_of_cell? w26 ⟨By, 0, none⟩ fy0
                (try clear fwb); have fwb : w21.heap.size < w26.heap.size := World.block_lt_of_cell? w26 ⟨w21.heap.size, 0, none⟩ fw0
                (try clear fnb); have fnb : w24.heap.size < w26.heap.size := World.block_lt_of_cell? w26 ⟨w24.heap.size, 0, none⟩ fn0
                clear hk26 hf26
                go_wp2_with fail
                refine useF w (p2.out _) (by go_grown) ?_; rintro e w27 rfl hB27 hk27 hf27 hs27; clear hs27
                replace fa0 : w27.cell? ⟨w.heap.size, 0, none⟩ = some (.int .i64 al) := hk27 _ _ _ (fa0)
                replace fa1 : w27.cell? ⟨w.heap.size, 1, none⟩ = some (.int .i64 ah) := hk27 _ _ _ (fa1)
                replace fb0 : w27.cell? ⟨w.heap.size + 1, 0, none⟩ = some (.int .i64 bl) := hk27 _ _ _ (fb0)
                replace fb1 : w27.cell? ⟨w.heap.size + 1, 1, none⟩ = some (.int .i64 bh) := hk27 _ _ _ (fb1)
                replace fp0 : w27.cell? ⟨Bp, 0, none⟩ = some (.int .i64 pl) := hk27 _ _ _ (fp0)
                replace fp1 : w27.cell? ⟨Bp, 1, none⟩ = some (.int .i64 ph) := hk27 _ _ _ (fp1)
                replace fx0 : w27.cell? ⟨Bp + 1, 0, none⟩ = some (.int .i64 al) := hk27 _ _ _ (fx0)
                replace fx1 : w27.cell? ⟨Bp + 1, 1, none⟩ = some (.int .i64 ah) := hk27 _ _ _ (fx1)
                replace fy0 : w27.cell? ⟨By, 0, none⟩ = some (.int .i64 bl) := hk27 _ _ _ (fy0)
                replace fy1 : w27.cell? ⟨By, 1, none⟩ = some (.int .i64 bh) := hk27 _ _ _ (fy1)
                replace fw0 : w27.cell? ⟨w21.heap.size, 0, none⟩ = some (.int .i64 (hiW V)) := hk27 _ _ _ (fw0)
                replace fw1 : w27.cell? ⟨w21.heap.size, 1, none⟩ = some (.int .u64 (loW V)) := hk27 _ _ _ (fw1)
                replace fn0 : w27.cell? ⟨w24.heap.size, 0, none⟩ = some (.int .i64 (hiW T)) := hk27 _ _ _ (fn0)
                replace fn1 : w27.cell? ⟨w24.heap.size, 1, none⟩ = some (.int .u64 (loW T)) := hk27 _ _ _ (fn1)
                (try clear fab); have fab : w.heap.size < w27.heap.size := World.block_lt_of_cell? w27 ⟨w.heap.size, 0, none⟩ fa0
                (try clear fbb); have fbb : w.heap.size + 1 < w27.heap.size := World.block_lt_of_cell? w27 ⟨w.heap.size + 1, 0, none⟩ fb0
                (try clear fpb); have fpb : Bp < w27.heap.size := World.block_lt_of_cell? w27 ⟨Bp, 0, none⟩ fp0
                (try clear fxb); have fxb : Bp + 1 < w27.heap.size := World.block_lt_of_cell? w27 ⟨Bp + 1, 0, none⟩ fx0
                (try clear fyb); have fyb : By < w27.heap.size := World.block_lt_of_cell? w27 ⟨By, 0, none⟩ fy0
                (try clear fwb); have fwb : w21.heap.size < w27.heap.size := World.block_lt_of_cell? w27 ⟨w21.heap.size, 0, none⟩ fw0
                (try clear fnb); have fnb : w24.heap.size < w27.heap.size := World.block_lt_of_cell? w27 ⟨w24.heap.size, 0, none⟩ fn0
                clear hk27 hf27
                go_wp2_with fail
                refine useF w (l1.out _) (by go_grown) ?_; rintro e w28 rfl hB28 hk28 hf28 hs28; clear hs28
                replace fa0 : w28.cell? ⟨w.heap.size, 0, none⟩ = some (.int .i64 al) := hk28 _ _ _ ((keepA _ fa0))
                replace fa1 : w28.cell? ⟨w.heap.size, 1, none⟩ = some (.int .i64 ah) := hk28 _ _ _ ((keepA _ fa1))
                replace fb0 : w28.cell? ⟨w.heap.size + 1, 0, none⟩ = some (.int .i64 bl) := hk28 _ _ _ ((keepA _ fb0))
                replace fb1 : w28.cell? ⟨w.heap.size + 1, 1, none⟩ = some (.int .i64 bh) := hk28 _ _ _ ((keepA _ fb1))
                replace fp0 : w28.cell? ⟨Bp, 0, none⟩ = some (.int .i64 pl) := hk28 _ _ _ ((keepA _ fp0))
                replace fp1 : w28.cell? ⟨Bp, 1, none⟩ = some (.int .i64 ph) := hk28 _ _ _ ((keepA _ fp1))
                replace fx0 : w28.cell? ⟨Bp + 1, 0, none⟩ = some (.int .i64 al) := hk28 _ _ _ ((keepA _ fx0))
                replace fx1 : w28.cell? ⟨Bp + 1, 1, none⟩ = some (.int .i64 ah) := hk28 _ _ _ ((keepA _ fx1))
                replace fy0 : w28.cell? ⟨By, 0, none⟩ = some (.int .i64 bl) := hk28 _ _ _ ((keepA _ fy0))
                replace fy1 : w28.cell? ⟨By, 1, none⟩ = some (.int .i64 bh) := hk28 _ _ _ ((keepA _ fy1))
                replace fw0 : w28.cell? ⟨w21.heap.size, 0, none⟩ = some (.int .i64 (hiW V)) := hk28 _ _ _ ((keepA _ fw0))
                replace fw1 : w28.cell? ⟨w21.heap.size, 1, none⟩ = some (.int .u64 (loW V)) := hk28 _ _ _ ((keepA _ fw1))
                replace fn0 : w28.cell? ⟨w24.heap.size, 0, none⟩ = some (.int .i64 (hiW T)) := hk28 _ _ _ ((keepA _ fn0))
                replace fn1 : w28.cell? ⟨w24.heap.size, 1, none⟩ = some (.int .u64 (loW T)) := hk28 _ _ _ ((keepA _ fn1))
                have fl0 : w28.cell? ⟨w27.heap.size, 0, none⟩ = some (.int .i64 (hiW U)) := hk28 _ _ _ ((by simp [go_sem]))
                have fl1 : w28.cell? ⟨w27.heap.size, 1, none⟩ = some (.int .u64 (loW U)) := hk28 _ _ _ ((by simp [go_sem]))
                (try clear fab); have fab : w.heap.size < w28.heap.size := World.block_lt_of_cell? w28 ⟨w.heap.size, 0, none⟩ fa0
                (try clear fbb); have fbb : w.heap.size + 1 < w28.heap.size := World.block_lt_of_cell? w28 ⟨w.heap.size + 1, 0, none⟩ fb0
                (try clear fpb); have fpb : Bp < w28.heap.size := World.block_lt_of_cell? w28 ⟨Bp, 0, none⟩ fp0
                (try clear fxb); have fxb : Bp + 1 < w28.heap.size := World.block_lt_of_cell? w28 ⟨Bp + 1, 0, none⟩ fx0
                (try clear fyb); have fyb : By < w28.heap.size := World.block_lt_of_cell? w28 ⟨By, 0, none⟩ fy0
                (try clear fwb); have fwb : w21.heap.size < w28.heap.size := World.block_lt_of_cell? w28 ⟨w21.heap.size, 0, none⟩ fw0
                (try clear fnb); have fnb : w24.heap.size < w28.heap.size := World.block_lt_of_cell? w28 ⟨w24.heap.size, 0, none⟩ fn0
                (try clear flb); have flb : w27.heap.size < w28.heap.size := World.block_lt_of_cell? w28 ⟨w27.heap.size, 0, none⟩ fl0
                clear hk28 hf28
                go_wp2_with fail
                refine useF w (l2.out _) (by go_grown) ?_; rintro e w29 rfl hB29 hk29 hf29 hs29; clear hs29
                replace fa0 : w29.cell? ⟨w.heap.size, 0, none⟩ = some (.int .i64 al) := hk29 _ _ _ (fa0)
                replace fa1 : w29.cell? ⟨w.heap.size, 1, none⟩ = some (.int .i64 ah) := hk29 _ _ _ (fa1)
                replace fb0 : w29.cell? ⟨w.heap.size + 1, 0, none⟩ = some (.int .i64 bl) := hk29 _ _ _ (fb0)
                replace fb1 : w29.cell? ⟨w.heap.size + 1, 1, none⟩ = some (.int .i64 bh) := hk29 _ _ _ (fb1)
                replace fp0 : w29.cell? ⟨Bp, 0, none⟩ = some (.int .i64 pl) := hk29 _ _ _ (fp0)
                replace fp1 : w29.cell? ⟨Bp, 1, none⟩ = some (.int .i64 ph) := hk29 _ _ _ (fp1)
                replace fx0 : w29.cell? ⟨Bp + 1, 0, none⟩ = some (.int .i64 al) := hk29 _ _ _ (fx0)
                replace fx1 : w29.cell? ⟨Bp + 1, 1, none⟩ = some (.int .i64 ah) := hk29 _ _ _ (fx1)
                replace fy0 : w29.cell? ⟨By, 0, none⟩ = some (.int .i64 bl) := hk29 _ _ _ (fy0)
                replace fy1 : w29.cell? ⟨By, 1, none⟩ = some (.int .i64 bh) := hk29 _ _ _ (fy1)
                replace fw0 : w29.cell? ⟨w21.heap.size, 0, none⟩ = some (.int .i64 (hiW V)) := hk29 _ _ _ (fw0)
                replace fw1 : w29.cell? ⟨w21.heap.size, 1, none⟩ = some (.int .u64 (loW V)) := hk29 _ _ _ (fw1)
                replace fn0 : w29.cell? ⟨w24.heap.size, 0, none⟩ = some (.int .i64 (hiW T)) := hk29 _ _ _ (fn0)
                replace fn1 : w29.cell? ⟨w24.heap.size, 1, none⟩ = some (.int .u64 (loW T)) := hk29 _ _ _ (fn1)
                replace fl0 : w29.cell? ⟨w27.heap.size, 0, none⟩ = some (.int .i64 (hiW U)) := hk29 _ _ _ (fl0)
                replace fl1 : w29.cell? ⟨w27.heap.size, 1, none⟩ = some (.int .u64 (loW U)) := hk29 _ _ _ (fl1)
                (try clear fab); have fab : w.heap.size < w29.heap.size := World.block_lt_of_cell? w29 ⟨w.heap.size, 0, none⟩ fa0
                (try clear fbb); have fbb : w.heap.size + 1 < w29.heap.size := World.block_lt_of_cell? w29 ⟨w.heap.size + 1, 0, none⟩ fb0
                (try clear fpb); have fpb : Bp < w29.heap.size := World.block_lt_of_cell? w29 ⟨Bp, 0, none⟩ fp0
                (try clear fxb); have fxb : Bp + 1 < w29.heap.size := World.block_lt_of_cell? w29 ⟨Bp + 1, 0, none⟩ fx0
                (try clear fyb); have fyb : By < w29.heap.size := World.block_lt_of_cell? w29 ⟨By, 0, none⟩ fy0
                (try clear fwb); have fwb : w21.heap.size < w29.heap.size := World.block_lt_of_cell? w29 ⟨w21.heap.size, 0, none⟩ fw0
                (try clear fnb); have fnb : w24.heap.size < w29.heap.size := World.block_lt_of_cell? w29 ⟨w24.heap.size, 0, none⟩ fn0
                (try clear flb); have flb : w27.heap.size < w29.heap.size := World.block_lt_of_cell? w29 ⟨w27.heap.size, 0, none⟩ fl0
                clear hk29 hf29
                go_wp2_with fail
                go_roundw
                case rel => exact ⟨j + 1, _, _, by go_num, rfl, rfl, by show _ = (orK _ (2 * k + j) || lowK al ah bl bh T (2 * k + j)); rw [← hl.out, e1.out]; rfl, by show _ = (orK _ (2 * k + j) || highK al ah bl bh U (2 * k + j)); rw [← hh.out, e2.out]; rfl, by omega, ⟨fa0, fa1, fb0, fb1, fp0, fp1, fx0, fx1, fy0, fy1⟩, by go_grown⟩
                case measure => first | (simp [intOf]; done) | (simp [intOf]; omega)
              · as_aux_lemma =>
                go_wp2_with fail
                refine useF w (t1.out _) (by go_grown) ?_; rintro e w21 rfl hB21 hk21 hf21 hs21; clear hs21
                replace fa0 : w21.cell? ⟨w.heap.size, 0, none⟩ = some (.int .i64 al) := hk21 _ _ _ (fa0)
                replace fa1 : w21.cell? ⟨w.heap.size, 1, none⟩ = some (.int .i64 ah) := hk21 _ _ _ (fa1)
                replace fb0 : w21.cell? ⟨w.heap.size + 1, 0, none⟩ = some (.int .i64 bl) := hk21 _ _ _ (fb0)
                replace fb1 : w21.cell? ⟨w.heap.size + 1, 1, none⟩ = some (.int .i64 bh) := hk21 _ _ _ (fb1)
                replace fp0 : w21.cell? ⟨Bp, 0, none⟩ = some (.int .i64 pl) := hk21 _ _ _ (fp0)
                replace fp1 : w21.cell? ⟨Bp, 1, none⟩ = some (.int .i64 ph) := hk21 _ _ _ (fp1)
                replace fx0 : w21.cell? ⟨Bp + 1, 0, none⟩ = some (.int .i64 al) := hk21 _ _ _ (fx0)
                replace fx1 : w21.cell? ⟨Bp + 1, 1, none⟩ = some (.int .i64 ah) := hk21 _ _ _ (fx1)
                replace fy0 : w21.cell? ⟨By, 0, none⟩ = some (.int .i64 bl) := hk21 _ _ _ (fy0)
                replace fy1 : w21.cell? ⟨By, 1, none⟩ = some (.int .i64 bh) := hk21 _ _ _ (fy1)
                (try clear fab); have fab : w.heap.size < w21.heap.size := World.block_lt_of_cell? w21 ⟨w.heap.size, 0, none⟩ fa0
                (try clear fbb); have fbb : w.heap.size + 1 < w21.heap.size := World.block_lt_of_cell? w21 ⟨w.heap.size + 1, 0, none⟩ fb0
                (try clear fpb); have fpb : Bp < w21.heap.size := World.block_lt_of_cell? w21 ⟨Bp, 0, none⟩ fp0
                (try clear fxb); have fxb : Bp + 1 < w21.heap.size := World.block_lt_of_cell? w21 ⟨Bp + 1, 0, none⟩ fx0
                (try clear fyb); have fyb : By < w21.heap.size := World.block_lt_of_cell? w21 ⟨By, 0, none⟩ fy0
                clear hk21 hf21
                go_wp2_with fail
                refine useF w (times_any pl 4294967296 _ (by omega)) (by go_grown) ?_; rintro e w22 rfl hB22 hk22 hf22 hs22; clear hs22
                replace fa0 : w22.cell? ⟨w.heap.size, 0, none⟩ = some (.int .i64 al) := hk22 _ _ _ ((keepA _ fa0))
                replace fa1 : w22.cell? ⟨w.heap.size, 1, none⟩ = some (.int .i64 ah) := hk22 _ _ _ ((keepA _ fa1))
                replace fb0 : w22.cell? ⟨w.heap.size + 1, 0, none⟩ = some (.int .i64 bl) := hk22 _ _ _ ((keepA _ fb0))
                replace fb1 : w22.cell? ⟨w.heap.size + 1, 1, none⟩ = some (.int .i64 bh) := hk22 _ _ _ ((keepA _ fb1))
                replace fp0 : w22.cell? ⟨Bp, 0, none⟩ = some (.int .i64 pl) := hk22 _ _ _ ((keepA _ fp0))
                replace fp1 : w22.cell? ⟨Bp, 1, none⟩ = some (.int .i64 ph) := hk22 _ _ _ ((keepA _ fp1))
                replace fx0 : w22.cell? ⟨Bp + 1, 0, none⟩ = some (.int .i64 al) := hk22 _ _ _ ((keepA _ fx0))
                replace fx1 : w22.cell? ⟨Bp + 1, 1, none⟩ = some (.int .i64 ah) := hk22 _ _ _ ((keepA _ fx1))
                replace fy0 : w22.cell? ⟨By, 0, none⟩ = some (.int .i64 bl) := hk22 _ _ _ ((keepA _ fy0))
                replace fy1 : w22.cell? ⟨By, 1, none⟩ = some (.int .i64 bh) := hk22 _ _ _ ((keepA _ fy1))
                have fw0 : w22.cell? ⟨w21.heap.size, 0, none⟩ = some (.int .i64 (hiW V)) := hk22 _ _ _ ((by simp [go_sem]))
                have fw1 : w22.cell? ⟨w21.heap.size, 1, none⟩ = some (.int .u64 (loW V)) := hk22 _ _ _ ((by simp [go_sem]))
                (try clear fab); have fab : w.heap.size < w22.heap.size := World.block_lt_of_cell? w22 ⟨w.heap.size, 0, none⟩ fa0
                (try clear fbb); have fbb : w.heap.size + 1 < w22.heap.size := World.block_lt_of_cell? w22 ⟨w.heap.size + 1, 0, none⟩ fb0
                (try clear fpb); have fpb : Bp < w22.heap.size := World.block_lt_of_cell? w22 ⟨Bp, 0, none⟩ fp0
                (try clear fxb); have fxb : Bp + 1 < w22.heap.size := World.block_lt_of_cell? w22 ⟨Bp + 1, 0, none⟩ fx0
                (try clear fyb); have fyb : By < w22.heap.size := World.block_lt_of_cell? w22 ⟨By, 0, none⟩ fy0
                (try clear fwb); have fwb : w21.heap.size < w22.heap.size := World.block_lt_of_cell? w22 ⟨w21.heap.size, 0, none⟩ fw0
                clear hk22 hf22
                go_wp2_with fail
                refine useF w (of_any 4294967296 _ (by omega)) (by go_grown) ?_; rintro e w23 rfl hB23 hk23 hf23 hs23; clear hs23
                replace fa0 : w23.cell? ⟨w.heap.size, 0, none⟩ = some (.int .i64 al) := hk23 _ _ _ (fa0)
                replace fa1 : w23.cell? ⟨w.heap.size, 1, none⟩ = some (.int .i64 ah) := hk23 _ _ _ (fa1)
                replace fb0 : w23.cell? ⟨w.heap.size + 1, 0, none⟩ = some (.int .i64 bl) := hk23 _ _ _ (fb0)
                replace fb1 : w23.cell? ⟨w.heap.size + 1, 1, none⟩ = some (.int .i64 bh) := hk23 _ _ _ (fb1)
                replace fp0 : w23.cell? ⟨Bp, 0, none⟩ = some (.int .i64 pl) := hk23 _ _ _ (fp0)
                replace fp1 : w23.cell? ⟨Bp, 1, none⟩ = some (.int .i64 ph) := hk23 _ _ _ (fp1)
                replace fx0 : w23.cell? ⟨Bp + 1, 0, none⟩ = some (.int .i64 al) := hk23 _ _ _ (fx0)
                replace fx1 : w23.cell? ⟨Bp + 1, 1, none⟩ = some (.int .i64 ah) := hk23 _ _ _ (fx1)
                replace fy0 : w23.cell? ⟨By, 0, none⟩ = some (.int .i64 bl) := hk23 _ _ _ (fy0)
                replace fy1 : w23.cell? ⟨By, 1, none⟩ = some (.int .i64 bh) := hk23 _ _ _ (fy1)
                replace fw0 : w23.cell? ⟨w21.heap.size, 0, none⟩ = some (.int .i64 (hiW V)) := hk23 _ _ _ (fw0)
                replace fw1 : w23.cell? ⟨w21.heap.size, 1, none⟩ = some (.int .u64 (loW V)) := hk23 _ _ _ (fw1)
                (try clear fab); have fab : w.heap.size < w23.heap.size := World.block_lt_of_cell? w23 ⟨w.heap.size, 0, none⟩ fa0
                (try clear fbb); have fbb : w.heap.size + 1 < w23.heap.size := World.block_lt_of_cell? w23 ⟨w.heap.size + 1, 0, none⟩ fb0
                (try clear fpb); have fpb : Bp < w23.heap.size := World.block_lt_of_cell? w23 ⟨Bp, 0, none⟩ fp0
                (try clear fxb); have fxb : Bp + 1 < w23.heap.size := World.block_lt_of_cell? w23 ⟨Bp + 1, 0, none⟩ fx0
                (try clear fyb); have fyb : By < w23.heap.size := World.block_lt_of_cell? w23 ⟨By, 0, none⟩ fy0
                (try clear fwb); have fwb : w21.heap.size < w23.heap.size := World.block_lt_of_cell? w23 ⟨w21.heap.size, 0, none⟩ fw0
                clear hk23 hf23
                go_wp2_with fail
                refine useF w (p1.out _) (by go_grown) ?_; rintro e w24 rfl hB24 hk24 hf24 hs24; clear hs24
                replace fa0 : w24.cell? ⟨w.heap.size, 0, none⟩ = some (.int .i64 al) := hk24 _ _ _ (fa0)
                replace fa1 : w24.cell? ⟨w.heap.size, 1, none⟩ = some (.int .i64 ah) := hk24 _ _ _ (fa1)
                replace fb0 : w24.cell? ⟨w.heap.size + 1, 0, none⟩ = some (.int .i64 bl) := hk24 _ _ _ (fb0)
                replace fb1 : w24.cell? ⟨w.heap.size + 1, 1, none⟩ = some (.int .i64 bh) := hk24 _ _ _ (fb1)
                replace fp0 : w24.cell? ⟨Bp, 0, none⟩ = some (.int .i64 pl) := hk24 _ _ _ (fp0)
                replace fp1 : w24.cell? ⟨Bp, 1, none⟩ = some (.int .i64 ph) := hk24 _ _ _ (fp1)
                replace fx0 : w24.cell? ⟨Bp + 1, 0, none⟩ = some (.int .i64 al) := hk24 _ _ _ (fx0)
                replace fx1 : w24.cell? ⟨Bp + 1, 1, none⟩ = some (.int .i64 ah) := hk24 _ _ _ (fx1)
                replace fy0 : w24.cell? ⟨By, 0, none⟩ = some (.int .i64 bl) := hk24 _ _ _ (fy0)
                replace fy1 : w24.cell? ⟨By, 1, none⟩ = some (.int .i64 bh) := hk24 _ _ _ (fy1)
                replace fw0 : w24.cell? ⟨w21.heap.size, 0, none⟩ = some (.int .i64 (hiW V)) := hk24 _ _ _ (fw0)
                replace fw1 : w24.cell? ⟨w21.heap.size, 1, none⟩ = some (.int .u64 (loW V)) := hk24 _ _ _ (fw1)
                (try clear fab); have fab : w.heap.size < w24.heap.size := World.block_lt_of_cell? w24 ⟨w.heap.size, 0, none⟩ fa0
                (try clear fbb); have fbb : w.heap.size + 1 < w24.heap.size := World.block_lt_of_cell? w24 ⟨w.heap.size + 1, 0, none⟩ fb0
                (try clear fpb); have fpb : Bp < w24.heap.size := World.block_lt_of_cell? w24 ⟨Bp, 0, none⟩ fp0
                (try clear fxb); have fxb : Bp + 1 < w24.heap.size := World.block_lt_of_cell? w24 ⟨Bp + 1, 0, none⟩ fx0
                (try clear fyb); have fyb : By < w24.heap.size := World.block_lt_of_cell? w24 ⟨By, 0, none⟩ fy0
                (try clear fwb); have fwb : w21.heap.size < w24.heap.size := World.block_lt_of_cell? w24 ⟨w21.heap.size, 0, none⟩ fw0
                clear hk24 hf24
                go_wp2_with fail
                refine useF w (times_any ph 4294967296 _ (by omega)) (by go_grown) ?_; rintro e w25 rfl hB25 hk25 hf25 hs25; clear hs25
                replace fa0 : w25.cell? ⟨w.heap.size, 0, none⟩ = some (.int .i64 al) := hk25 _ _ _ ((keepA _ fa0))
                replace fa1 : w25.cell? ⟨w.heap.size, 1, none⟩ = some (.int .i64 ah) := hk25 _ _ _ ((keepA _ fa1))
                replace fb0 : w25.cell? ⟨w.heap.size + 1, 0, none⟩ = some (.int .i64 bl) := hk25 _ _ _ ((keepA _ fb0))
                replace fb1 : w25.cell? ⟨w.heap.size + 1, 1, none⟩ = some (.int .i64 bh) := hk25 _ _ _ ((keepA _ fb1))
                replace fp0 : w25.cell? ⟨Bp, 0, none⟩ = some (.int .i64 pl) := hk25 _ _ _ ((keepA _ fp0))
                replace fp1 : w25.cell? ⟨Bp, 1, none⟩ = some (.int .i64 ph) := hk25 _ _ _ ((keepA _ fp1))
                replace fx0 : w25.cell? ⟨Bp + 1, 0, none⟩ = some (.int .i64 al) := hk25 _ _ _ ((keepA _ fx0))
                replace fx1 : w25.cell? ⟨Bp + 1, 1, none⟩ = some (.int .i64 ah) := hk25 _ _ _ ((keepA _ fx1))
                replace fy0 : w25.cell? ⟨By, 0, none⟩ = some (.int .i64 bl) := hk25 _ _ _ ((keepA _ fy0))
                replace fy1 : w25.cell? ⟨By, 1, none⟩ = some (.int .i64 bh) := hk25 _ _ _ ((keepA _ fy1))
                replace fw0 : w25.cell? ⟨w21.heap.size, 0, none⟩ = some (.int .i64 (hiW V)) := hk25 _ _ _ ((keepA _ fw0))
                replace fw1 : w25.cell? ⟨w21.heap.size, 1, none⟩ = some (.int .u64 (loW V)) := hk25 _ _ _ ((keepA _ fw1))
                have fn0 : w25.cell? ⟨w24.heap.size, 0, none⟩ = some (.int .i64 (hiW T)) := hk25 _ _ _ ((by simp [go_sem]))
                have fn1 : w25.cell? ⟨w24.heap.size, 1, none⟩ = some (.int .u64 (loW T)) := hk25 _ _ _ ((by simp [go_sem]))
                (try clear fab); have fab : w.heap.size < w25.heap.size := World.block_lt_of_cell? w25 ⟨w.heap.size, 0, none⟩ fa0
                (try clear fbb); have fbb : w.heap.size + 1 < w25.heap.size := World.block_lt_of_cell? w25 ⟨w.heap.size + 1, 0, none⟩ fb0
                (try clear fpb); have fpb : Bp < w25.heap.size := World.block_lt_of_cell? w25 ⟨Bp, 0, none⟩ fp0
                (try clear fxb); have fxb : Bp + 1 < w25.heap.size := World.block_lt_of_cell? w25 ⟨Bp + 1, 0, none⟩ fx0
                (try clear fyb); have fyb : By < w25.heap.size := World.block_lt_of_cell? w25 ⟨By, 0, none⟩ fy0
                (try clear fwb); have fwb : w21.heap.size < w25.heap.size := World.block_lt_of_cell? w25 ⟨w21.heap.size, 0, none⟩ fw0
                (try clear fnb); have fnb : w24.heap.size < w25.heap.size := World.block_lt_of_cell? w25 ⟨w24.heap.size, 0, none⟩ fn0
                clear hk25 hf25
                go_wp2_with fail
                refine useF w (of_any (-4294967296) _ (by omega)) (by go_grown) ?_; rintro e w26 rfl hB26 hk26 hf26 hs26; clear hs26
                replace fa0 : w26.cell? ⟨w.heap.size, 0, none⟩ = some (.int .i64 al) := hk26 _ _ _ (fa0)
                replace fa1 : w26.cell? ⟨w.heap.size, 1, none⟩ = some (.int .i64 ah) := hk26 _ _ _ (fa1)
                replace fb0 : w26.cell? ⟨w.heap.size + 1, 0, none⟩ = some (.int .i64 bl) := hk26 _ _ _ (fb0)
                replace fb1 : w26.cell? ⟨w.heap.size + 1, 1, none⟩ = some (.int .i64 bh) := hk26 _ _ _ (fb1)
                replace fp0 : w26.cell? ⟨Bp, 0, none⟩ = some (.int .i64 pl) := hk26 _ _ _ (fp0)
                replace fp1 : w26.cell? ⟨Bp, 1, none⟩ = some (.int .i64 ph) := hk26 _ _ _ (fp1)
                replace fx0 : w26.cell? ⟨Bp + 1, 0, none⟩ = some (.int .i64 al) := hk26 _ _ _ (fx0)
                replace fx1 : w26.cell? ⟨Bp + 1, 1, none⟩ = some (.int .i64 ah) := hk26 _ _ _ (fx1)
                replace fy0 : w26.cell? ⟨By, 0, none⟩ = some (.int .i64 bl) := hk26 _ _ _ (fy0)
                replace fy1 : w26.cell? ⟨By, 1, none⟩ = some (.int .i64 bh) := hk26 _ _ _ (fy1)
                replace fw0 : w26.cell? ⟨w21.heap.size, 0, none⟩ = some (.int .i64 (hiW V)) := hk26 _ _ _ (fw0)
                replace fw1 : w26.cell? ⟨w21.heap.size, 1, none⟩ = some (.int .u64 (loW V)) := hk26 _ _ _ (fw1)
                replace fn0 : w26.cell? ⟨w24.heap.size, 0, none⟩ = some (.int .i64 (hiW T)) := hk26 _ _ _ (fn0)
                replace fn1 : w26.cell? ⟨w24.heap.size, 1, none⟩ = some (.int .u64 (loW T)) := hk26 _ _ _ (fn1)
                (try clear fab); have fab : w.heap.size < w26.heap.size := World.block_lt_of_cell? w26 ⟨w.heap.size, 0, none⟩ fa0
                (try clear fbb); have fbb : w.heap.size + 1 < w26.heap.size := World.block_lt_of_cell? w26 ⟨w.heap.size + 1, 0, none⟩ fb0
                (try clear fpb); have fpb : Bp < w26.heap.size := World.block_lt_of_cell? w26 ⟨Bp, 0, none⟩ fp0
                (try clear fxb); have fxb : Bp + 1 < w26.heap.size := World.block_lt_of_cell? w26 ⟨Bp + 1, 0, none⟩ fx0
                (try clear fyb); have fyb : By < w26.heap.size := World.block_lt_of_cell? w26 ⟨By, 0, none⟩ fy0
                (try clear fwb); have fwb : w21.heap.size < w26.heap.size := World.block_lt_of_cell? w26 ⟨w21.heap.size, 0, none⟩ fw0
                (try clear fnb); have fnb : w24.heap.size < w26.heap.size := World.block_lt_of_cell? w26 ⟨w24.heap.size, 0, none⟩ fn0
                clear hk26 hf26
                go_wp2_with fail
                refine useF w (p2.out _) (by go_grown) ?_; rintro e w27 rfl hB27 hk27 hf27 hs27; clear hs27
                replace fa0 : w27.cell? ⟨w.heap.size, 0, none⟩ = some (.int .i64 al) := hk27 _ _ _ (fa0)
                replace fa1 : w27.cell? ⟨w.heap.size, 1, none⟩ = some (.int .i64 ah) := hk27 _ _ _ (fa1)
                replace fb0 : w27.cell? ⟨w.heap.size + 1, 0, none⟩ = some (.int .i64 bl) := hk27 _ _ _ (fb0)
                replace fb1 : w27.cell? ⟨w.heap.size + 1, 1, none⟩ = some (.int .i64 bh) := hk27 _ _ _ (fb1)
                replace fp0 : w27.cell? ⟨Bp, 0, none⟩ = some (.int .i64 pl) := hk27 _ _ _ (fp0)
                replace fp1 : w27.cell? ⟨Bp, 1, none⟩ = some (.int .i64 ph) := hk27 _ _ _ (fp1)
                replace fx0 : w27.cell? ⟨Bp + 1, 0, none⟩ = some (.int .i64 al) := hk27 _ _ _ (fx0)
                replace fx1 : w27.cell? ⟨Bp + 1, 1, none⟩ = some (.int .i64 ah) := hk27 _ _ _ (fx1)
                replace fy0 : w27.cell? ⟨By, 0, none⟩ = some (.int .i64 bl) := hk27 _ _ _ (fy0)
                replace fy1 : w27.cell? ⟨By, 1, none⟩ = some (.int .i64 bh) := hk27 _ _ _ (fy1)
                replace fw0 : w27.cell? ⟨w21.heap.size, 0, none⟩ = some (.int .i64 (hiW V)) := hk27 _ _ _ (fw0)
                replace fw1 : w27.cell? ⟨w21.heap.size, 1, none⟩ = some (.int .u64 (loW V)) := hk27 _ _ _ (fw1)
                replace fn0 : w27.cell? ⟨w24.heap.size, 0, none⟩ = some (.int .i64 (hiW T)) := hk27 _ _ _ (fn0)
                replace fn1 : w27.cell? ⟨w24.heap.size, 1, none⟩ = some (.int .u64 (loW T)) := hk27 _ _ _ (fn1)
                (try clear fab); have fab : w.heap.size < w27.heap.size := World.block_lt_of_cell? w27 ⟨w.heap.size, 0, none⟩ fa0
                (try clear fbb); have fbb : w.heap.size + 1 < w27.heap.size := World.block_lt_of_cell? w27 ⟨w.heap.size + 1, 0, none⟩ fb0
                (try clear fpb); have fpb : Bp < w27.heap.size := World.block_lt_of_cell? w27 ⟨Bp, 0, none⟩ fp0
                (try clear fxb); have fxb : Bp + 1 < w27.heap.size := World.block_lt_of_cell? w27 ⟨Bp + 1, 0, none⟩ fx0
                (try clear fyb); have fyb : By < w27.heap.size := World.block_lt_of_cell? w27 ⟨By, 0, none⟩ fy0
                (try clear fwb); have fwb : w21.heap.size < w27.heap.size := World.block_lt_of_cell? w27 ⟨w21.heap.size, 0, none⟩ fw0
                (try clear fnb); have fnb : w24.heap.size < w27.heap.size := World.block_lt_of_cell? w27 ⟨w24.heap.size, 0, none⟩ fn0
                clear hk27 hf27
                go_wp2_with fail
                refine useF w (l1.out _) (by go_grown) ?_; rintro e w28 rfl hB28 hk28 hf28 hs28; clear hs28
                replace fa0 : w28.cell? ⟨w.heap.size, 0, none⟩ = some (.int .i64 al) := hk28 _ _ _ ((keepA _ fa0))
                replace fa1 : w28.cell? ⟨w.heap.size, 1, none⟩ = some (.int .i64 ah) := hk28 _ _ _ ((keepA _ fa1))
                replace fb0 : w28.cell? ⟨w.heap.size + 1, 0, none⟩ = some (.int .i64 bl) := hk28 _ _ _ ((keepA _ fb0))
                replace fb1 : w28.cell? ⟨w.heap.size + 1, 1, none⟩ = some (.int .i64 bh) := hk28 _ _ _ ((keepA _ fb1))
                replace fp0 : w28.cell? ⟨Bp, 0, none⟩ = some (.int .i64 pl) := hk28 _ _ _ ((keepA _ fp0))
                replace fp1 : w28.cell? ⟨Bp, 1, none⟩ = some (.int .i64 ph) := hk28 _ _ _ ((keepA _ fp1))
                replace fx0 : w28.cell? ⟨Bp + 1, 0, none⟩ = some (.int .i64 al) := hk28 _ _ _ ((keepA _ fx0))
                replace fx1 : w28.cell? ⟨Bp + 1, 1, none⟩ = some (.int .i64 ah) := hk28 _ _ _ ((keepA _ fx1))
                replace fy0 : w28.cell? ⟨By, 0, none⟩ = some (.int .i64 bl) := hk28 _ _ _ ((keepA _ fy0))
                replace fy1 : w28.cell? ⟨By, 1, none⟩ = some (.int .i64 bh) := hk28 _ _ _ ((keepA _ fy1))
                replace fw0 : w28.cell? ⟨w21.heap.size, 0, none⟩ = some (.int .i64 (hiW V)) := hk28 _ _ _ ((keepA _ fw0))
                replace fw1 : w28.cell? ⟨w21.heap.size, 1, none⟩ = some (.int .u64 (loW V)) := hk28 _ _ _ ((keepA _ fw1))
                replace fn0 : w28.cell? ⟨w24.heap.size, 0, none⟩ = some (.int .i64 (hiW T)) := hk28 _ _ _ ((keepA _ fn0))
                replace fn1 : w28.cell? ⟨w24.heap.size, 1, none⟩ = some (.int .u64 (loW T)) := hk28 _ _ _ ((keepA _ fn1))
                have fl0 : w28.cell? ⟨w27.heap.size, 0, none⟩ = some (.int .i64 (hiW U)) := hk28 _ _ _ ((by simp [go_sem]))
                have fl1 : w28.cell? ⟨w27.heap.size, 1, none⟩ = some (.int .u64 (loW U)) := hk28 _ _ _ ((by simp [go_sem]))
                (try clear fab); have fab : w.heap.size < w28.heap.size := World.block_lt_of_cell? w28 ⟨w.heap.size, 0, none⟩ fa0
                (try clear fbb); have fbb : w.heap.size + 1 < w28.heap.size := World.block_lt_of_cell? w28 ⟨w.heap.size + 1, 0, none⟩ fb0
                (try clear fpb); have fpb : Bp < w28.heap.size := World.block_lt_of_cell? w28 ⟨Bp, 0, none⟩ fp0
                (try clear fxb); have fxb : Bp + 1 < w28.heap.size := World.block_lt_of_cell? w28 ⟨Bp + 1, 0, none⟩ fx0
                (try clear fyb); have fyb : By < w28.heap.size := World.block_lt_of_cell? w28 ⟨By, 0, none⟩ fy0
                (try clear fwb); have fwb : w21.heap.size < w28.heap.size := World.block_lt_of_cell? w28 ⟨w21.heap.size, 0, none⟩ fw0
                (try clear fnb); have fnb : w24.heap.size < w28.heap.size := World.block_lt_of_cell? w28 ⟨w24.heap.size, 0, none⟩ fn0
                (try clear flb); have flb : w27.heap.size < w28.heap.size := World.block_lt_of_cell? w28 ⟨w27.heap.size, 0, none⟩ fl0
                clear hk28 hf28
                go_wp2_with fail
                go_roundw
                case rel => exact ⟨j + 1, _, _, by go_num, rfl, rfl, by show _ = (orK _ (2 * k + j) || lowK al ah bl bh T (2 * k + j)); rw [← hl.out, e1.out]; rfl, by show _ = (orK _ (2 * k + j) || highK al ah bl bh U (2 * k + j)); rw [← hh.out, e2.out]; rfl, by omega, ⟨fa0, fa1, fb0, fb1, fp0, fp1, fx0, fx1, fy0, fy1⟩, by go_grown⟩
                case measure => first | (simp [intOf]; done) | (simp [intOf]; omega)
              · as_aux_lemma =>
                go_wp2_with fail
                refine useF w (t1.out _) (by go_grown) ?_; rintro e w21 rfl hB21 hk21 hf21 hs21; clear hs21
                replace fa0 : w21.cell? ⟨w.heap.size, 0, none⟩ = some (.int .i64 al) := hk21 _ _ _ (fa0)
                replace fa1 : w21.cell? ⟨w.heap.size, 1, none⟩ = some (.int .i64 ah) := hk21 _ _ _ (fa1)
                replace fb0 : w21.cell? ⟨w.heap.size + 1, 0, none⟩ = some (.int .i64 bl) := hk21 _ _ _ (fb0)
                replace fb1 : w21.cell? ⟨w.heap.size + 1, 1, none⟩ = some (.int .i64 bh) := hk21 _ _ _ (fb1)
                replace fp0 : w21.cell? ⟨Bp, 0, none⟩ = some (.int .i64 pl) := hk21 _ _ _ (fp0)
                replace fp1 : w21.cell? ⟨Bp, 1, none⟩ = some (.int .i64 ph) := hk21 _ _ _ (fp1)
                replace fx0 : w21.cell? ⟨Bp + 1, 0, none⟩ = some (.int .i64 al) := hk21 _ _ _ (fx0)
                replace fx1 : w21.cell? ⟨Bp + 1, 1, none⟩ = some (.int .i64 ah) := hk21 _ _ _ (fx1)
                replace fy0 : w21.cell? ⟨By, 0, none⟩ = some (.int .i64 bl) := hk21 _ _ _ (fy0)
                replace fy1 : w21.cell? ⟨By, 1, none⟩ = some (.int .i64 bh) := hk21 _ _ _ (fy1)
                (try clear fab); have fab : w.heap.size < w21.heap.size := World.block_lt_of_cell? w21 ⟨w.heap.size, 0, none⟩ fa0
                (try clear fbb); have fbb : w.heap.size + 1 < w21.heap.size := World.block_lt_of_cell? w21 ⟨w.heap.size + 1, 0, none⟩ fb0
                (try clear fpb); have fpb : Bp < w21.heap.size := World.block_lt_of_cell? w21 ⟨Bp, 0, none⟩ fp0
                (try clear fxb); have fxb : Bp + 1 < w21.heap.size := World.block_lt_of_cell? w21 ⟨Bp + 1, 0, none⟩ fx0
                (try clear fyb); have fyb : By < w21.heap.size := World.block_lt_of_cell? w21 ⟨By, 0, none⟩ fy0
                clear hk21 hf21
                go_wp2_with fail
                refine useF w (times_any pl 4294967296 _ (by omega)) (by go_grown) ?_; rintro e w22 rfl hB22 hk22 hf22 hs22; clear hs22
                replace fa0 : w22.cell? ⟨w.heap.size, 0, none⟩ = some (.int .i64 al) := hk22 _ _ _ ((keepA _ fa0))
                replace fa1 : w22.cell? ⟨w.heap.size, 1, none⟩ = some (.int .i64 ah) := hk22 _ _ _ ((keepA _ fa1))
                replace fb0 : w22.cell? ⟨w.heap.size + 1, 0, none⟩ = some (.int .i64 bl) := hk22 _ _ _ ((keepA _ fb0))
                replace fb1 : w22.cell? ⟨w.heap.size + 1, 1, none⟩ = some (.int .i64 bh) := hk22 _ _ _ ((keepA _ fb1))
                replace fp0 : w22.cell? ⟨Bp, 0, none⟩ = some (.int .i64 pl) := hk22 _ _ _ ((keepA _ fp0))
                replace fp1 : w22.cell? ⟨Bp, 1, none⟩ = some (.int .i64 ph) := hk22 _ _ _ ((keepA _ fp1))
                replace fx0 : w22.cell? ⟨Bp + 1, 0, none⟩ = some (.int .i64 al) := hk22 _ _ _ ((keepA _ fx0))
                replace fx1 : w22.cell? ⟨Bp + 1, 1, none⟩ = some (.int .i64 ah) := hk22 _ _ _ ((keepA _ fx1))
                replace fy0 : w22.cell? ⟨By, 0, none⟩ = some (.int .i64 bl) := hk22 _ _ _ ((keepA _ fy0))
                replace fy1 : w22.cell? ⟨By, 1, none⟩ = some (.int .i64 bh) := hk22 _ _ _ ((keepA _ fy1))
                have fw0 : w22.cell? ⟨w21.heap.size, 0, none⟩ = some (.int .i64 (hiW V)) := hk22 _ _ _ ((by simp [go_sem]))
                have fw1 : w22.cell? ⟨w21.heap.size, 1, none⟩ = some (.int .u64 (loW V)) := hk22 _ _ _ ((by simp [go_sem]))
                (try clear fab); have fab : w.heap.size < w22.heap.size := World.block_lt_of_cell? w22 ⟨w.heap.size, 0, none⟩ fa0
                (try clear fbb); have fbb : w.heap.size + 1 < w22.heap.size := World.block_lt_of_cell? w22 ⟨w.heap.size + 1, 0, none⟩ fb0
                (try clear fpb); have fpb : Bp < w22.heap.size := World.block_lt_of_cell? w22 ⟨Bp, 0, none⟩ fp0
                (try clear fxb); have fxb : Bp + 1 < w22.heap.size := World.block_lt_of_cell? w22 ⟨Bp + 1, 0, none⟩ fx0
                (try clear fyb); have fyb : By < w22.heap.size := World.block_lt_of_cell? w22 ⟨By, 0, none⟩ fy0
                (try clear fwb); have fwb : w21.heap.size < w22.heap.size := World.block_lt_of_cell? w22 ⟨w21.heap.size, 0, none⟩ fw0
                clear hk22 hf22
                go_wp2_with fail
                refine useF w (of_any 4294967296 _ (by omega)) (by go_grown) ?_; rintro e w23 rfl hB23 hk23 hf23 hs23; clear hs23
                replace fa0 : w23.cell? ⟨w.heap.size, 0, none⟩ = some (.int .i64 al) := hk23 _ _ _ (fa0)
                replace fa1 : w23.cell? ⟨w.heap.size, 1, none⟩ = some (.int .i64 ah) := hk23 _ _ _ (fa1)
                replace fb0 : w23.cell? ⟨w.heap.size + 1, 0, none⟩ = some (.int .i64 bl) := hk23 _ _ _ (fb0)
                replace fb1 : w23.cell? ⟨w.heap.size + 1, 1, none⟩ = some (.int .i64 bh) := hk23 _ _ _ (fb1)
                replace fp0 : w23.cell? ⟨Bp, 0, none⟩ = some (.int .i64 pl) := hk23 _ _ _ (fp0)
                replace fp1 : w23.cell? ⟨Bp, 1, none⟩ = some (.int .i64 ph) := hk23 _ _ _ (fp1)
                replace fx0 : w23.cell? ⟨Bp + 1, 0, none⟩ = some (.int .i64 al) := hk23 _ _ _ (fx0)
                replace fx1 : w23.cell? ⟨Bp + 1, 1, none⟩ = some (.int .i64 ah) := hk23 _ _ _ (fx1)
                replace fy0 : w23.cell? ⟨By, 0, none⟩ = some (.int .i64 bl) := hk23 _ _ _ (fy0)
                replace fy1 : w23.cell? ⟨By, 1, none⟩ = some (.int .i64 bh) := hk23 _ _ _ (fy1)
                replace fw0 : w23.cell? ⟨w21.heap.size, 0, none⟩ = some (.int .i64 (hiW V)) := hk23 _ _ _ (fw0)
                replace fw1 : w23.cell? ⟨w21.heap.size, 1, none⟩ = some (.int .u64 (loW V)) := hk23 _ _ _ (fw1)
                (try clear fab); have fab : w.heap.size < w23.heap.size := World.block_lt_of_cell? w23 ⟨w.heap.size, 0, none⟩ fa0
                (try clear fbb); have fbb : w.heap.size + 1 < w23.heap.size := World.block_lt_of_cell? w23 ⟨w.heap.size + 1, 0, none⟩ fb0
                (try clear fpb); have fpb : Bp < w23.heap.size := World.block_lt_of_cell? w23 ⟨Bp, 0, none⟩ fp0
                (try clear fxb); have fxb : Bp + 1 < w23.heap.size := World.block_lt_of_cell? w23 ⟨Bp + 1, 0, none⟩ fx0
                (try clear fyb); have fyb : By < w23.heap.size := World.block_lt_of_cell? w23 ⟨By, 0, none⟩ fy0
                (try clear fwb); have fwb : w21.heap.size < w23.heap.size := World.block_lt_of_cell? w23 ⟨w21.heap.size, 0, none⟩ fw0
                clear hk23 hf23
                go_wp2_with fail
                refine useF w (p1.out _) (by go_grown) ?_; rintro e w24 rfl hB24 hk24 hf24 hs24; clear hs24
                replace fa0 : w24.cell? ⟨w.heap.size, 0, none⟩ = some (.int .i64 al) := hk24 _ _ _ (fa0)
                replace fa1 : w24.cell? ⟨w.heap.size, 1, none⟩ = some (.int .i64 ah) := hk24 _ _ _ (fa1)
                replace fb0 : w24.cell? ⟨w.heap.size + 1, 0, none⟩ = some (.int .i64 bl) := hk24 _ _ _ (fb0)
                replace fb1 : w24.cell? ⟨w.heap.size + 1, 1, none⟩ = some (.int .i64 bh) := hk24 _ _ _ (fb1)
                replace fp0 : w24.cell? ⟨Bp, 0, none⟩ = some (.int .i64 pl) := hk24 _ _ _ (fp0)
                replace fp1 : w24.cell? ⟨Bp, 1, none⟩ = some (.int .i64 ph) := hk24 _ _ _ (fp1)
                replace fx0 : w24.cell? ⟨Bp + 1, 0, none⟩ = some (.int .i64 al) := hk24 _ _ _ (fx0)
                replace fx1 : w24.cell? ⟨Bp + 1, 1, none⟩ = some (.int .i64 ah) := hk24 _ _ _ (fx1)
                replace fy0 : w24.cell? ⟨By, 0, none⟩ = some (.int .i64 bl) := hk24 _ _ _ (fy0)
                replace fy1 : w24.cell? ⟨By, 1, none⟩ = some (.int .i64 bh) := hk24 _ _ _ (fy1)
                replace fw0 : w24.cell? ⟨w21.heap.size, 0, none⟩ = some (.int .i64 (hiW V)) := hk24 _ _ _ (fw0)
                replace fw1 : w24.cell? ⟨w21.heap.size, 1, none⟩ = some (.int .u64 (loW V)) := hk24 _ _ _ (fw1)
                (try clear fab); have fab : w.heap.size < w24.heap.size := World.block_lt_of_cell? w24 ⟨w.heap.size, 0, none⟩ fa0
                (try clear fbb); have fbb : w.heap.size + 1 < w24.heap.size := World.block_lt_of_cell? w24 ⟨w.heap.size + 1, 0, none⟩ fb0
                (try clear fpb); have fpb : Bp < w24.heap.size := World.block_lt_of_cell? w24 ⟨Bp, 0, none⟩ fp0
                (try clear fxb); have fxb : Bp + 1 < w24.heap.size := World.block_lt_of_cell? w24 ⟨Bp + 1, 0, none⟩ fx0
                (try clear fyb); have fyb : By < w24.heap.size := World.block_lt_of_cell? w24 ⟨By, 0, none⟩ fy0
                (try clear fwb); have fwb : w21.heap.size < w24.heap.size := World.block_lt_of_cell? w24 ⟨w21.heap.size, 0, none⟩ fw0
                clear hk24 hf24
                go_wp2_with fail
                refine useF w (times_any ph 4294967296 _ (by omega)) (by go_grown) ?_; rintro e w25 rfl hB25 hk25 hf25 hs25; clear hs25
                replace fa0 : w25.cell? ⟨w.heap.size, 0, none⟩ = some (.int .i64 al) := hk25 _ _ _ ((keepA _ fa0))
                replace fa1 : w25.cell? ⟨w.heap.size, 1, none⟩ = some (.int .i64 ah) := hk25 _ _ _ ((keepA _ fa1))
                replace fb0 : w25.cell? ⟨w.heap.size + 1, 0, none⟩ = some (.int .i64 bl) := hk25 _ _ _ ((keepA _ fb0))
                replace fb1 : w25.cell? ⟨w.heap.size + 1, 1, none⟩ = some (.int .i64 bh) := hk25 _ _ _ ((keepA _ fb1))
                replace fp0 : w25.cell? ⟨Bp, 0, none⟩ = some (.int .i64 pl) := hk25 _ _ _ ((keepA _ fp0))
                replace fp1 : w25.cell? ⟨Bp, 1, none⟩ = some (.int .i64 ph) := hk25 _ _ _ ((keepA _ fp1))
                replace fx0 : w25.cell? ⟨Bp + 1, 0, none⟩ = some (.int .i64 al) := hk25 _ _ _ ((keepA _ fx0))
                replace fx1 : w25.cell? ⟨Bp + 1, 1, none⟩ = some (.int .i64 ah) := hk25 _ _ _ ((keepA _ fx1))
                replace fy0 : w25.cell? ⟨By, 0, none⟩ = some (.int .i64 bl) := hk25 _ _ _ ((keepA _ fy0))
                replace fy1 : w25.cell? ⟨By, 1, none⟩ = some (.int .i64 bh) := hk25 _ _ _ ((keepA _ fy1))
                replace fw0 : w25.cell? ⟨w21.heap.size, 0, none⟩ = some (.int .i64 (hiW V)) := hk25 _ _ _ ((keepA _ fw0))
                replace fw1 : w25.cell? ⟨w21.heap.size, 1, none⟩ = some (.int .u64 (loW V)) := hk25 _ _ _ ((keepA _ fw1))
                have fn0 : w25.cell? ⟨w24.heap.size, 0, none⟩ = some (.int .i64 (hiW T)) := hk25 _ _ _ ((by simp [go_sem]))
                have fn1 : w25.cell? ⟨w24.heap.size, 1, none⟩ = some (.int .u64 (loW T)) := hk25 _ _ _ ((by simp [go_sem]))
                (try clear fab); have fab : w.heap.size < w25.heap.size := World.block_lt_of_cell? w25 ⟨w.heap.size, 0, none⟩ fa0
                (try clear fbb); have fbb : w.heap.size + 1 < w25.heap.size := World.block_lt_of_cell? w25 ⟨w.heap.size + 1, 0, none⟩ fb0
                (try clear fpb); have fpb : Bp < w25.heap.size := World.block_lt_of_cell? w25 ⟨Bp, 0, none⟩ fp0
                (try clear fxb); have fxb : Bp + 1 < w25.heap.size := World.block_lt_of_cell? w25 ⟨Bp + 1, 0, none⟩ fx0
                (try clear fyb); have fyb : By < w25.heap.size := World.block_lt_of_cell? w25 ⟨By, 0, none⟩ fy0
                (try clear fwb); have fwb : w21.heap.size < w25.heap.size := World.block_lt_of_cell? w25 ⟨w21.heap.size, 0, none⟩ fw0
                (try clear fnb); have fnb : w24.heap.size < w25.heap.size := World.block_lt_of_cell? w25 ⟨w24.heap.size, 0, none⟩ fn0
                clear hk25 hf25
                go_wp2_with fail
                refine useF w (of_any (-4294967296) _ (by omega)) (by go_grown) ?_; rintro e w26 rfl hB26 hk26 hf26 hs26; clear hs26
                replace fa0 : w26.cell? ⟨w.heap.size, 0, none⟩ = some (.int .i64 al) := hk26 _ _ _ (fa0)
                replace fa1 : w26.cell? ⟨w.heap.size, 1, none⟩ = some (.int .i64 ah) := hk26 _ _ _ (fa1)
                replace fb0 : w26.cell? ⟨w.heap.size + 1, 0, none⟩ = some (.int .i64 bl) := hk26 _ _ _ (fb0)
                replace fb1 : w26.cell? ⟨w.heap.size + 1, 1, none⟩ = some (.int .i64 bh) := hk26 _ _ _ (fb1)
                replace fp0 : w26.cell? ⟨Bp, 0, none⟩ = some (.int .i64 pl) := hk26 _ _ _ (fp0)
                replace fp1 : w26.cell? ⟨Bp, 1, none⟩ = some (.int .i64 ph) := hk26 _ _ _ (fp1)
                replace fx0 : w26.cell? ⟨Bp + 1, 0, none⟩ = some (.int .i64 al) := hk26 _ _ _ (fx0)
                replace fx1 : w26.cell? ⟨Bp + 1, 1, none⟩ = some (.int .i64 ah) := hk26 _ _ _ (fx1)
                replace fy0 : w26.cell? ⟨By, 0, none⟩ = some (.int .i64 bl) := hk26 _ _ _ (fy0)
                replace fy1 : w26.cell? ⟨By, 1, none⟩ = some (.int .i64 bh) := hk26 _ _ _ (fy1)
                replace fw0 : w26.cell? ⟨w21.heap.size, 0, none⟩ = some (.int .i64 (hiW V)) := hk26 _ _ _ (fw0)
                replace fw1 : w26.cell? ⟨w21.heap.size, 1, none⟩ = some (.int .u64 (loW V)) := hk26 _ _ _ (fw1)
                replace fn0 : w26.cell? ⟨w24.heap.size, 0, none⟩ = some (.int .i64 (hiW T)) := hk26 _ _ _ (fn0)
                replace fn1 : w26.cell? ⟨w24.heap.size, 1, none⟩ = some (.int .u64 (loW T)) := hk26 _ _ _ (fn1)
                (try clear fab); have fab : w.heap.size < w26.heap.size := World.block_lt_of_cell? w26 ⟨w.heap.size, 0, none⟩ fa0
                (try clear fbb); have fbb : w.heap.size + 1 < w26.heap.size := World.block_lt_of_cell? w26 ⟨w.heap.size + 1, 0, none⟩ fb0
                (try clear fpb); have fpb : Bp < w26.heap.size := World.block_lt_of_cell? w26 ⟨Bp, 0, none⟩ fp0
                (try clear fxb); have fxb : Bp + 1 < w26.heap.size := World.block_lt_of_cell? w26 ⟨Bp + 1, 0, none⟩ fx0
                (try clear fyb); have fyb : By < w26.heap.size := World.block_lt_of_cell? w26 ⟨By, 0, none⟩ fy0
                (try clear fwb); have fwb : w21.heap.size < w26.heap.size := World.block_lt_of_cell? w26 ⟨w21.heap.size, 0, none⟩ fw0
                (try clear fnb); have fnb : w24.heap.size < w26.heap.size := World.block_lt_of_cell? w26 ⟨w24.heap.size, 0, none⟩ fn0
                clear hk26 hf26
                go_wp2_with fail
                refine useF w (p2.out _) (by go_grown) ?_; rintro e w27 rfl hB27 hk27 hf27 hs27; clear hs27
                replace fa0 : w27.cell? ⟨w.heap.size, 0, none⟩ = some (.int .i64 al) := hk27 _ _ _ (fa0)
                replace fa1 : w27.cell? ⟨w.heap.size, 1, none⟩ = some (.int .i64 ah) := hk27 _ _ _ (fa1)
                replace fb0 : w27.cell? ⟨w.heap.size + 1, 0, none⟩ = some (.int .i64 bl) := hk27 _ _ _ (fb0)
                replace fb1 : w27.cell? ⟨w.heap.size + 1, 1, none⟩ = some (.int .i64 bh) := hk27 _ _ _ (fb1)
                replace fp0 : w27.cell? ⟨Bp, 0, none⟩ = some (.int .i64 pl) := hk27 _ _ _ (fp0)
                replace fp1 : w27.cell? ⟨Bp, 1, none⟩ = some (.int .i64 ph) := hk27 _ _ _ (fp1)
                replace fx0 : w27.cell? ⟨Bp + 1, 0, none⟩ = some (.int .i64 al) := hk27 _ _ _ (fx0)
                replace fx1 : w27.cell? ⟨Bp + 1, 1, none⟩ = some (.int .i64 ah) := hk27 _ _ _ (fx1)
                replace fy0 : w27.cell? ⟨By, 0, none⟩ = some (.int .i64 bl) := hk27 _ _ _ (fy0)
                replace fy1 : w27.cell? ⟨By, 1, none⟩ = some (.int .i64 bh) := hk27 _ _ _ (fy1)
                replace fw0 : w27.cell? ⟨w21.heap.size, 0, none⟩ = some (.int .i64 (hiW V)) := hk27 _ _ _ (fw0)
                replace fw1 : w27.cell? ⟨w21.heap.size, 1, none⟩ = some (.int .u64 (loW V)) := hk27 _ _ _ (fw1)
                replace fn0 : w27.cell? ⟨w24.heap.size, 0, none⟩ = some (.int .i64 (hiW T)) := hk27 _ _ _ (fn0)
                replace fn1 : w27.cell? ⟨w24.heap.size, 1, none⟩ = some (.int .u64 (loW T)) := hk27 _ _ _ (fn1)
                (try clear fab); have fab : w.heap.size < w27.heap.size := World.block_lt_of_cell? w27 ⟨w.heap.size, 0, none⟩ fa0
                (try clear fbb); have fbb : w.heap.size + 1 < w27.heap.size := World.block_lt_of_cell? w27 ⟨w.heap.size + 1, 0, none⟩ fb0
                (try clear fpb); have fpb : Bp < w27.heap.size := World.block_lt_of_cell? w27 ⟨Bp, 0, none⟩ fp0
                (try clear fxb); have fxb : Bp + 1 < w27.heap.size := World.block_lt_of_cell? w27 ⟨Bp + 1, 0, none⟩ fx0
                (try clear fyb); have fyb : By < w27.heap.size := World.block_lt_of_cell? w27 ⟨By, 0, none⟩ fy0
                (try clear fwb); have fwb : w21.heap.size < w27.heap.size := World.block_lt_of_cell? w27 ⟨w21.heap.size, 0, none⟩ fw0
                (try clear fnb); have fnb : w24.heap.size < w27.heap.size := World.block_lt_of_cell? w27 ⟨w24.heap.size, 0, none⟩ fn0
                clear hk27 hf27
                go_wp2_with fail
                refine useF w (l2.out _) (by go_grown) ?_; rintro e w28 rfl hB28 hk28 hf28 hs28; clear hs28
                replace fa0 : w28.cell? ⟨w.heap.size, 0, none⟩ = some (.int .i64 al) := hk28 _ _ _ ((keepA _ fa0))
                replace fa1 : w28.cell? ⟨w.heap.size, 1, none⟩ = some (.int .i64 ah) := hk28 _ _ _ ((keepA _ fa1))
                replace fb0 : w28.cell? ⟨w.heap.size + 1, 0, none⟩ = some (.int .i64 bl) := hk28 _ _ _ ((keepA _ fb0))
                replace fb1 : w28.cell? ⟨w.heap.size + 1, 1, none⟩ = some (.int .i64 bh) := hk28 _ _ _ ((keepA _ fb1))
                replace fp0 : w28.cell? ⟨Bp, 0, none⟩ = some (.int .i64 pl) := hk28 _ _ _ ((keepA _ fp0))
                replace fp1 : w28.cell? ⟨Bp, 1, none⟩ = some (.int .i64 ph) := hk28 _ _ _ ((keepA _ fp1))
                replace fx0 : w28.cell? ⟨Bp + 1, 0, none⟩ = some (.int .i64 al) := hk28 _ _ _ ((keepA _ fx0))
                replace fx1 : w28.cell? ⟨Bp + 1, 1, none⟩ = some (.int .i64 ah) := hk28 _ _ _ ((keepA _ fx1))
                replace fy0 : w28.cell? ⟨By, 0, none⟩ = some (.int .i64 bl) := hk28 _ _ _ ((keepA _ fy0))
                replace fy1 : w28.cell? ⟨By, 1, none⟩ = some (.int .i64 bh) := hk28 _ _ _ ((keepA _ fy1))
                replace fw0 : w28.cell? ⟨w21.heap.size, 0, none⟩ = some (.int .i64 (hiW V)) := hk28 _ _ _ ((keepA _ fw0))
                replace fw1 : w28.cell? ⟨w21.heap.size, 1, none⟩ = some (.int .u64 (loW V)) := hk28 _ _ _ ((keepA _ fw1))
                replace fn0 : w28.cell? ⟨w24.heap.size, 0, none⟩ = some (.int .i64 (hiW T)) := hk28 _ _ _ ((keepA _ fn0))
                replace fn1 : w28.cell? ⟨w24.heap.size, 1, none⟩ = some (.int .u64 (loW T)) := hk28 _ _ _ ((keepA _ fn1))
                have fl0 : w28.cell? ⟨w27.heap.size, 0, none⟩ = some (.int .i64 (hiW U)) := hk28 _ _ _ ((by simp [go_sem]))
                have fl1 : w28.cell? ⟨w27.heap.size, 1, none⟩ = some (.int .u64 (loW U)) := hk28 _ _ _ ((by simp [go_sem]))
                (try clear fab); have fab : w.heap.size < w28.heap.size := World.block_lt_of_cell? w28 ⟨w.heap.size, 0, none⟩ fa0
                (try clear fbb); have fbb : w.heap.size + 1 < w28.heap.size := World.block_lt_of_cell? w28 ⟨w.heap.size + 1, 0, none⟩ fb0
                (try clear fpb); have fpb : Bp < w28.heap.size := World.block_lt_of_cell? w28 ⟨Bp, 0, none⟩ fp0
                (try clear fxb); have fxb : Bp + 1 < w28.heap.size := World.block_lt_of_cell? w28 ⟨Bp + 1, 0, none⟩ fx0
                (try clear fyb); have fyb : By < w28.heap.size := World.block_lt_of_cell? w28 ⟨By, 0, none⟩ fy0
                (try clear fwb); have fwb : w21.heap.size < w28.heap.size := World.block_lt_of_cell? w28 ⟨w21.heap.size, 0, none⟩ fw0
                (try clear fnb); have fnb : w24.heap.size < w28.heap.size := World.block_lt_of_cell? w28 ⟨w24.heap.size, 0, none⟩ fn0
                (try clear flb); have flb : w27.heap.size < w28.heap.size := World.block_lt_of_cell? w28 ⟨w27.heap.size, 0, none⟩ fl0
                clear hk28 hf28
                go_wp2_with fail
                go_roundw
                case rel => exact ⟨j + 1, _, _, by go_num, rfl, rfl, by show _ = (orK _ (2 * k + j) || lowK al ah bl bh T (2 * k + j)); rw [← hl.out, e1.out]; rfl, by show _ = (orK _ (2 * k + j) || highK al ah bl bh U (2 * k + j)); rw [← hh.out, e2.out]; rfl, by omega, ⟨fa0, fa1, fb0, fb1, fp0, fp1, fx0, fx1, fy0, fy1⟩, by go_grown⟩
                case measure => first | (simp [intOf]; done) | (simp [intOf]; omega)
              · as_aux_lemma =>
                go_wp2_with fail
                refine useF w (t1.out _) (by go_grown) ?_; rintro e w21 rfl hB21 hk21 hf21 hs21; clear hs21
                replace fa0 : w21.cell? ⟨w.heap.size, 0, none⟩ = some (.int .i64 al) := hk21 _ _ _ (fa0)
                replace fa1 : w21.cell? ⟨w.heap.size, 1, none⟩ = some (.int .i64 ah) := hk21 _ _ _ (fa1)
                replace fb0 : w21.cell? ⟨w.heap.size + 1, 0, none⟩ = some (.int .i64 bl) := hk21 _ _ _ (fb0)
                replace fb1 : w21.cell? ⟨w.heap.size + 1, 1, none⟩ = some (.int .i64 bh) := hk21 _ _ _ (fb1)
                replace fp0 : w21.cell? ⟨Bp, 0, none⟩ = some (.int .i64 pl) := hk21 _ _ _ (fp0)
                replace fp1 : w21.cell? ⟨Bp, 1, none⟩ = some (.int .i64 ph) := hk21 _ _ _ (fp1)
                replace fx0 : w21.cell? ⟨Bp + 1, 0, none⟩ = some (.int .i64 al) := hk21 _ _ _ (fx0)
                replace fx1 : w21.cell? ⟨Bp + 1, 1, none⟩ = some (.int .i64 ah) := hk21 _ _ _ (fx1)
                replace fy0 : w21.cell? ⟨By, 0, none⟩ = some (.int .i64 bl) := hk21 _ _ _ (fy0)
                replace fy1 : w21.cell? ⟨By, 1, none⟩ = some (.int .i64 bh) := hk21 _ _ _ (fy1)
                (try clear fab); have fab : w.heap.size < w21.heap.size := World.block_lt_of_cell? w21 ⟨w.heap.size, 0, none⟩ fa0
                (try clear fbb); have fbb : w.heap.size + 1 < w21.heap.size := World.block_lt_of_cell? w21 ⟨w.heap.size + 1, 0, none⟩ fb0
                (try clear fpb); have fpb : Bp < w21.heap.size := World.block_lt_of_cell? w21 ⟨Bp, 0, none⟩ fp0
                (try clear fxb); have fxb : Bp + 1 < w21.heap.size := World.block_lt_of_cell? w21 ⟨Bp + 1, 0, none⟩ fx0
                (try clear fyb); have fyb : By < w21.heap.size := World.block_lt_of_cell? w21 ⟨By, 0, none⟩ fy0
                clear hk21 hf21
                go_wp2_with fail
                refine useF w (times_any pl 4294967296 _ (by omega)) (by go_grown) ?_; rintro e w22 rfl hB22 hk22 hf22 hs22; clear hs22
                replace fa0 : w22.cell? ⟨w.heap.size, 0, none⟩ = some (.int .i64 al) := hk22 _ _ _ ((keepA _ fa0))
                replace fa1 : w22.cell? ⟨w.heap.size, 1, none⟩ = some (.int .i64 ah) := hk22 _ _ _ ((keepA _ fa1))
                replace fb0 : w22.cell? ⟨w.heap.size + 1, 0, none⟩ = some (.int .i64 bl) := hk22 _ _ _ ((keepA _ fb0))
                replace fb1 : w22.cell? ⟨w.heap.size + 1, 1, none⟩ = some (.int .i64 bh) := hk22 _ _ _ ((keepA _ fb1))
                replace fp0 : w22.cell? ⟨Bp, 0, none⟩ = some (.int .i64 pl) := hk22 _ _ _ ((keepA _ fp0))
                replace fp1 : w22.cell? ⟨Bp, 1, none⟩ = some (.int .i64 ph) := hk22 _ _ _ ((keepA _ fp1))
                replace fx0 : w22.cell? ⟨Bp + 1, 0, none⟩ = some (.int .i64 al) := hk22 _ _ _ ((keepA _ fx0))
                replace fx1 : w22.cell? ⟨Bp + 1, 1, none⟩ = some (.int .i64 ah) := hk22 _ _ _ ((keepA _ fx1))
                replace fy0 : w22.cell? ⟨By, 0, none⟩ = some (.int .i64 bl) := hk22 _ _ _ ((keepA _ fy0))
                replace fy1 : w22.cell? ⟨By, 1, none⟩ = some (.int .i64 bh) := hk22 _ _ _ ((keepA _ fy1))
                have fw0 : w22.cell? ⟨w21.heap.size, 0, none⟩ = some (.int .i64 (hiW V)) := hk22 _ _ _ ((by simp [go_sem]))
                have fw1 : w22.cell? ⟨w21.heap.size, 1, none⟩ = some (.int .u64 (loW V)) := hk22 _ _ _ ((by simp [go_sem]))
                (try clear fab); have fab : w.heap.size < w22.heap.size := World.block_lt_of_cell? w22 ⟨w.heap.size, 0, none⟩ fa0
                (try clear fbb); have fbb : w.heap.size + 1 < w22.heap.size := World.block_lt_of_cell? w22 ⟨w.heap.size + 1, 0, none⟩ fb0
                (try clear fpb); have fpb : Bp < w22.heap.size := World.block_lt_of_cell? w22 ⟨Bp, 0, none⟩ fp0
                (try clear fxb); have fxb : Bp + 1 < w22.heap.size := World.block_lt_of_cell? w22 ⟨Bp + 1, 0, none⟩ fx0
                (try clear fyb); have fyb : By < w22.heap.size := World.block_lt_of_cell? w22 ⟨By, 0, none⟩ fy0
                (try clear fwb); have fwb : w21.heap.size < w22.heap.size := World.block_lt_of_cell? w22 ⟨w21.heap.size, 0, none⟩ fw0
                clear hk22 hf22
                go_wp2_with fail
                refine useF w (of_any 4294967296 _ (by omega)) (by go_grown) ?_; rintro e w23 rfl hB23 hk23 hf23 hs23; clear hs23
                replace fa0 : w23.cell? ⟨w.heap.size, 0, none⟩ = some (.int .i64 al) := hk23 _ _ _ (fa0)
                replace fa1 : w23.cell? ⟨w.heap.size, 1, none⟩ = some (.int .i64 ah) := hk23 _ _ _ (fa1)
                replace fb0 : w23.cell? ⟨w.heap.size + 1, 0, none⟩ = some (.int .i64 bl) := hk23 _ _ _ (fb0)
                replace fb1 : w23.cell? ⟨w.heap.size + 1, 1, none⟩ = some (.int .i64 bh) := hk23 _ _ _ (fb1)
                replace fp0 : w23.cell? ⟨Bp, 0, none⟩ = some (.int .i64 pl) := hk23 _ _ _ (fp0)
                replace fp1 : w23.cell? ⟨Bp, 1, none⟩ = some (.int .i64 ph) := hk23 _ _ _ (fp1)
                replace fx0 : w23.cell? ⟨Bp + 1, 0, none⟩ = some (.int .i64 al) := hk23 _ _ _ (fx0)
                replace fx1 : w23.cell? ⟨Bp + 1, 1, none⟩ = some (.int .i64 ah) := hk23 _ _ _ (fx1)
                replace fy0 : w23.cell? ⟨By, 0, none⟩ = some (.int .i64 bl) := hk23 _ _ _ (fy0)
                replace fy1 : w23.cell? ⟨By, 1, none⟩ = some (.int .i64 bh) := hk23 _ _ _ (fy1)
                replace fw0 : w23.cell? ⟨w21.heap.size, 0, none⟩ = some (.int .i64 (hiW V)) := hk23 _ _ _ (fw0)
                replace fw1 : w23.cell? ⟨w21.heap.size, 1, none⟩ = some (.int .u64 (loW V)) := hk23 _ _ _ (fw1)
                (try clear fab); have fab : w.heap.size < w23.heap.size := World.block_lt_of_cell? w23 ⟨w.heap.size, 0, none⟩ fa0
                (try clear fbb); have fbb : w.heap.size + 1 < w23.heap.size := World.block_lt_of_cell? w23 ⟨w.heap.size + 1, 0, none⟩ fb0
                (try clear fpb); have fpb : Bp < w23.heap.size := World.block_lt_of_cell? w23 ⟨Bp, 0, none⟩ fp0
                (try clear fxb); have fxb : Bp + 1 < w23.heap.size := World.block_lt_of_cell? w23 ⟨Bp + 1, 0, none⟩ fx0
                (try clear fyb); have fyb : By < w23.heap.size := World.block_lt_of_cell? w23 ⟨By, 0, none⟩ fy0
                (try clear fwb); have fwb : w21.heap.size < w23.heap.size := World.block_lt_of_cell? w23 ⟨w21.heap.size, 0, none⟩ fw0
                clear hk23 hf23
                go_wp2_with fail
                refine useF w (p1.out _) (by go_grown) ?_; rintro e w24 rfl hB24 hk24 hf24 hs24; clear hs24
                replace fa0 : w24.cell? ⟨w.heap.size, 0, none⟩ = some (.int .i64 al) := hk24 _ _ _ (fa0)
                replace fa1 : w24.cell? ⟨w.heap.size, 1, none⟩ = some (.int .i64 ah) := hk24 _ _ _ (fa1)
                replace fb0 : w24.cell? ⟨w.heap.size + 1, 0, none⟩ = some (.int .i64 bl) := hk24 _ _ _ (fb0)
                replace fb1 : w24.cell? ⟨w.heap.size + 1, 1, none⟩ = some (.int .i64 bh) := hk24 _ _ _ (fb1)
                replace fp0 : w24.cell? ⟨Bp, 0, none⟩ = some (.int .i64 pl) := hk24 _ _ _ (fp0)
                replace fp1 : w24.cell? ⟨Bp, 1, none⟩ = some (.int .i64 ph) := hk24 _ _ _ (fp1)
                replace fx0 : w24.cell? ⟨Bp + 1, 0, none⟩ = some (.int .i64 al) := hk24 _ _ _ (fx0)
                replace fx1 : w24.cell? ⟨Bp + 1, 1, none⟩ = some (.int .i64 ah) := hk24 _ _ _ (fx1)
                replace fy0 : w24.cell? ⟨By, 0, none⟩ = some (.int .i64 bl) := hk24 _ _ _ (fy0)
                replace fy1 : w24.cell? ⟨By, 1, none⟩ = some (.int .i64 bh) := hk24 _ _ _ (fy1)
                replace fw0 : w24.cell? ⟨w21.heap.size, 0, none⟩ = some (.int .i64 (hiW V)) := hk24 _ _ _ (fw0)
                replace fw1 : w24.cell? ⟨w21.heap.size, 1, none⟩ = some (.int .u64 (loW V)) := hk24 _ _ _ (fw1)
                (try clear fab); have fab : w.heap.size < w24.heap.size := World.block_lt_of_cell? w24 ⟨w.heap.size, 0, none⟩ fa0
                (try clear fbb); have fbb : w.heap.size + 1 < w24.heap.size := World.block_lt_of_cell? w24 ⟨w.heap.size + 1, 0, none⟩ fb0
                (try clear fpb); have fpb : Bp < w24.heap.size := World.block_lt_of_cell? w24 ⟨Bp, 0, none⟩ fp0
                (try clear fxb); have fxb : Bp + 1 < w24.heap.size := World.block_lt_of_cell? w24 ⟨Bp + 1, 0, none⟩ fx0
                (try clear fyb); have fyb : By < w24.heap.size := World.block_lt_of_cell? w24 ⟨By, 0, none⟩ fy0
                (try clear fwb); have fwb : w21.heap.size < w24.heap.size := World.block_lt_of_cell? w24 ⟨w21.heap.size, 0, none⟩ fw0
                clear hk24 hf24
                go_wp2_with fail
                refine useF w (times_any ph 4294967296 _ (by omega)) (by go_grown) ?_; rintro e w25 rfl hB25 hk25 hf25 hs25; clear hs25
                replace fa0 : w25.cell? ⟨w.heap.size, 0, none⟩ = some (.int .i64 al) := hk25 _ _ _ ((keepA _ fa0))
                replace fa1 : w25.cell? ⟨w.heap.size, 1, none⟩ = some (.int .i64 ah) := hk25 _ _ _ ((keepA _ fa1))
                replace fb0 : w25.cell? ⟨w.heap.size + 1, 0, none⟩ = some (.int .i64 bl) := hk25 _ _ _ ((keepA _ fb0))
                replace fb1 : w25.cell? ⟨w.heap.size + 1, 1, none⟩ = some (.int .i64 bh) := hk25 _ _ _ ((keepA _ fb1))
                replace fp0 : w25.cell? ⟨Bp, 0, none⟩ = some (.int .i64 pl) := hk25 _ _ _ ((keepA _ fp0))
                replace fp1 : w25.cell? ⟨Bp, 1, none⟩ = some (.int .i64 ph) := hk25 _ _ _ ((keepA _ fp1))
                replace fx0 : w25.cell? ⟨Bp + 1, 0, none⟩ = some (.int .i64 al) := hk25 _ _ _ ((keepA _ fx0))
                replace fx1 : w25.cell? ⟨Bp + 1, 1, none⟩ = some (.int .i64 ah) := hk25 _ _ _ ((keepA _ fx1))
                replace fy0 : w25.cell? ⟨By, 0, none⟩ = some (.int .i64 bl) := hk25 _ _ _ ((keepA _ fy0))
                replace fy1 : w25.cell? ⟨By, 1, none⟩ = some (.int .i64 bh) := hk25 _ _ _ ((keepA _ fy1))
                replace fw0 : w25.cell? ⟨w21.heap.size, 0, none⟩ = some (.int .i64 (hiW V)) := hk25 _ _ _ ((keepA _ fw0))
                replace fw1 : w25.cell? ⟨w21.heap.size, 1, none⟩ = some (.int .u64 (loW V)) := hk25 _ _ _ ((keepA _ fw1))
                have fn0 : w25.cell? ⟨w24.heap.size, 0, none⟩ = some (.int .i64 (hiW T)) := hk25 _ _ _ ((by simp [go_sem]))
                have fn1 : w25.cell? ⟨w24.heap.size, 1, none⟩ = some (.int .u64 (loW T)) := hk25 _ _ _ ((by simp [go_sem]))
                (try clear fab); have fab : w.heap.size < w25.heap.size := World.block_lt_of_cell? w25 ⟨w.heap.size, 0, none⟩ fa0
                (try clear fbb); have fbb : w.heap.size + 1 < w25.heap.size := World.block_lt_of_cell? w25 ⟨w.heap.size + 1, 0, none⟩ fb0
                (try clear fpb); have fpb : Bp < w25.heap.size := World.block_lt_of_cell? w25 ⟨Bp, 0, none⟩ fp0
                (try clear fxb); have fxb : Bp + 1 < w25.heap.size := World.block_lt_of_cell? w25 ⟨Bp + 1, 0, none⟩ fx0
                (try clear fyb); have fyb : By < w25.heap.size := World.block_lt_of_cell? w25 ⟨By, 0, none⟩ fy0
                (try clear fwb); have fwb : w21.heap.size < w25.heap.size := World.block_lt_of_cell? w25 ⟨w21.heap.size, 0, none⟩ fw0
                (try clear fnb); have fnb : w24.heap.size < w25.heap.size := World.block_lt_of_cell? w25 ⟨w24.heap.size, 0, none⟩ fn0
                clear hk25 hf25
                go_wp2_with fail
                refine useF w (of_any (-4294967296) _ (by omega)) (by go_grown) ?_; rintro e w26 rfl hB26 hk26 hf26 hs26; clear hs26
                replace fa0 : w26.cell? ⟨w.heap.size, 0, none⟩ = some (.int .i64 al) := hk26 _ _ _ (fa0)
                replace fa1 : w26.cell? ⟨w.heap.size, 1, none⟩ = some (.int .i64 ah) := hk26 _ _ _ (fa1)
                replace fb0 : w26.cell? ⟨w.heap.size + 1, 0, none⟩ = some (.int .i64 bl) := hk26 _ _ _ (fb0)
                replace fb1 : w26.cell? ⟨w.heap.size + 1, 1, none⟩ = some (.int .i64 bh) := hk26 _ _ _ (fb1)
                replace fp0 : w26.cell? ⟨Bp, 0, none⟩ = some (.int .i64 pl) := hk26 _ _ _ (fp0)
                replace fp1 : w26.cell? ⟨Bp, 1, none⟩ = some (.int .i64 ph) := hk26 _ _ _ (fp1)
                replace fx0 : w26.cell? ⟨Bp + 1, 0, none⟩ = some (.int .i64 al) := hk26 _ _ _ (fx0)
                replace fx1 : w26.cell? ⟨Bp + 1, 1, none⟩ = some (.int .i64 ah) := hk26 _ _ _ (fx1)
                replace fy0 : w26.cell? ⟨By, 0, none⟩ = some (.int .i64 bl) := hk26 _ _ _ (fy0)
                replace fy1 : w26.cell? ⟨By, 1, none⟩ = some (.int .i64 bh) := hk26 _ _ _ (fy1)
                replace fw0 : w26.cell? ⟨w21.heap.size, 0, none⟩ = some (.int .i64 (hiW V)) := hk26 _ _ _ (fw0)
                replace fw1 : w26.cell? ⟨w21.heap.size, 1, none⟩ = some (.int .u64 (loW V)) := hk26 _ _ _ (fw1)
                replace fn0 : w26.cell? ⟨w24.heap.size, 0, none⟩ = some (.int .i64 (hiW T)) := hk26 _ _ _ (fn0)
                replace fn1 : w26.cell? ⟨w24.heap.size, 1, none⟩ = some (.int .u64 (loW T)) := hk26 _ _ _ (fn1)
                (try clear fab); have fab : w.heap.size < w26.heap.size := World.block_lt_of_cell? w26 ⟨w.heap.size, 0, none⟩ fa0
                (try clear fbb); have fbb : w.heap.size + 1 < w26.heap.size := World.block_lt_of_cell? w26 ⟨w.heap.size + 1, 0, none⟩ fb0
                (try clear fpb); have fpb : Bp < w26.heap.size := World.block_lt_of_cell? w26 ⟨Bp, 0, none⟩ fp0
                (try clear fxb); have fxb : Bp + 1 < w26.heap.size := World.block_lt_of_cell? w26 ⟨Bp + 1, 0, none⟩ fx0
                (try clear fyb); have fyb : By < w26.heap.size := World.block_lt_of_cell? w26 ⟨By, 0, none⟩ fy0
                (try clear fwb); have fwb : w21.heap.size < w26.heap.size := World.block_lt_of_cell? w26 ⟨w21.heap.size, 0, none⟩ fw0
                (try clear fnb); have fnb : w24.heap.size < w26.heap.size := World.block_lt_of_cell? w26 ⟨w24.heap.size, 0, none⟩ fn0
                clear hk26 hf26
                go_wp2_with fail
                refine useF w (p2.out _) (by go_grown) ?_; rintro e w27 rfl hB27 hk27 hf27 hs27; clear hs27
                replace fa0 : w27.cell? ⟨w.heap.size, 0, none⟩ = some (.int .i64 al) := hk27 _ _ _ (fa0)
                replace fa1 : w27.cell? ⟨w.heap.size, 1, none⟩ = some (.int .i64 ah) := hk27 _ _ _ (fa1)
                replace fb0 : w27.cell? ⟨w.heap.size + 1, 0, none⟩ = some (.int .i64 bl) := hk27 _ _ _ (fb0)
                replace fb1 : w27.cell? ⟨w.heap.size + 1, 1, none⟩ = some (.int .i64 bh) := hk27 _ _ _ (fb1)
                replace fp0 : w27.cell? ⟨Bp, 0, none⟩ = some (.int .i64 pl) := hk27 _ _ _ (fp0)
                replace fp1 : w27.cell? ⟨Bp, 1, none⟩ = some (.int .i64 ph) := hk27 _ _ _ (fp1)
                replace fx0 : w27.cell? ⟨Bp + 1, 0, none⟩ = some (.int .i64 al) := hk27 _ _ _ (fx0)
                replace fx1 : w27.cell? ⟨Bp + 1, 1, none⟩ = some (.int .i64 ah) := hk27 _ _ _ (fx1)
                replace fy0 : w27.cell? ⟨By, 0, none⟩ = some (.int .i64 bl) := hk27 _ _ _ (fy0)
                replace fy1 : w27.cell? ⟨By, 1, none⟩ = some (.int .i64 bh) := hk27 _ _ _ (fy1)
                replace fw0 : w27.cell? ⟨w21.heap.size, 0, none⟩ = some (.int .i64 (hiW V)) := hk27 _ _ _ (fw0)
                replace fw1 : w27.cell? ⟨w21.heap.size, 1, none⟩ = some (.int .u64 (loW V)) := hk27 _ _ _ (fw1)
                replace fn0 : w27.cell? ⟨w24.heap.size, 0, none⟩ = some (.int .i64 (hiW T)) := hk27 _ _ _ (fn0)
                replace fn1 : w27.cell? ⟨w24.heap.size, 1, none⟩ = some (.int .u64 (loW T)) := hk27 _ _ _ (fn1)
                (try clear fab); have fab : w.heap.size < w27.heap.size := World.block_lt_of_cell? w27 ⟨w.heap.size, 0, none⟩ fa0
                (try clear fbb); have fbb : w.heap.size + 1 < w27.heap.size := World.block_lt_of_cell? w27 ⟨w.heap.size + 1, 0, none⟩ fb0
                (try clear fpb); have fpb : Bp < w27.heap.size := World.block_lt_of_cell? w27 ⟨Bp, 0, none⟩ fp0
                (try clear fxb); have fxb : Bp + 1 < w27.heap.size := World.block_lt_of_cell? w27 ⟨Bp + 1, 0, none⟩ fx0
                (try clear fyb); have fyb : By < w27.heap.size := World.block_lt_of_cell? w27 ⟨By, 0, none⟩ fy0
                (try clear fwb); have fwb : w21.heap.size < w27.heap.size := World.block_lt_of_cell? w27 ⟨w21.heap.size, 0, none⟩ fw0
                (try clear fnb); have fnb : w24.heap.size < w27.heap.size := World.block_lt_of_cell? w27 ⟨w24.heap.size, 0, none⟩ fn0
                clear hk27 hf27
                go_wp2_with fail
                go_roundw
                case rel => exact ⟨j + 1, _, _, by go_num, rfl, rfl, by show _ = (orK _ (2 * k + j) || lowK al ah bl bh T (2 * k + j)); rw [← hl.out, e1.out]; rfl, by show _ = (orK _ (2 * k + j) || highK al ah bl bh U (2 * k + j)); rw [← hh.out, e2.out]; rfl, by omega, ⟨keepA _ fa0, keepA _ fa1, keepA _ fb0, keepA _ fb1, keepA _ fp0, keepA _ fp1, keepA _ fx0, keepA _ fx1, keepA _ fy0, keepA _ fy1⟩, by go_grown⟩
                case measure => first | (simp [intOf]; done) | (simp [intOf]; omega)
        case rest =>
          obtain ⟨rfl, rfl, hA, hB⟩ := hcut
          go_wp2_with fail
          go_roundw
          case rel => exact ⟨k + 1, by go_num, rfl, rfl, by omega, hA, hB⟩
          case measure => first | (simp [intOf]; done) | (simp [intOf]; omega)
  case rest =>
    obtain ⟨rfl, rfl, hA, hbl, hB⟩ := hcut
    obtain ⟨fa0, fa1, fb0, fb1, fp0, fp1⟩ := hA
    clear hT hU hTU hlow hhigh
    have r0 := hr.1
    have r2 := hr.2.2.1
    have hrb := hid hr
    rcases hrt.out with ⟨rfl, hn, hm1, hm2⟩ | ⟨rfl, hn⟩
    · have hrr := prod_bd (x := rl + 1) (y := rl + 1) (by omega)
      have hrq := prod_bd (x := rh - 1) (y := rh - 1) (by omega)
      have t3 := hid (fun W => times_any (rl + 1) (rl + 1) W (by omega))
      have t3w := hid (fun W => times_inc rl W (by omega))
      have t3x := hid (fun W => times_inc64 rl W (by omega))
      have t4 := hid (fun W => times_any (rh - 1) (rh - 1) W (by omega))
      have t4w := hid (fun W => times_dec rh W (by omega))
      have t4x := hid (fun W => times_dec64 rh W (by omega))
      have l3 := hid (fun W => less_any (max al 0 * 4294967296) ((rl + 1) * (rl + 1)) W (by omega))
      rw [decide_eq_true hm1] at l3
      have l4 := hid (fun W => less_any ((rh - 1) * (rh - 1)) (ah * 4294967296) W (by omega))
      replace hm2 := hid hm2
      clear hm1 hrr hrq hn hrt
      go_wp2_with fail
      refine useF w (g2.out _) (by go_grown) ?_; rintro e w61 rfl hB61 hk61 hf61 hs61; clear hs61
      replace fa0 : w61.cell? ⟨w.heap.size, 0, none⟩ = some (.int .i64 al) := hk61 _ _ _ (fa0)
      replace fa1 : w61.cell? ⟨w.heap.size, 1, none⟩ = some (.int .i64 ah) := hk61 _ _ _ (fa1)
      (try clear fab); have fab : w.heap.size < w61.heap.size := World.block_lt_of_cell? w61 ⟨w.heap.size, 0, none⟩ fa0
      clear hk61 hf61
      go_wp2_with fail
      refine useF w (of_any (max al 0) _ (by omega)) (by go_grown) ?_; rintro e w62 rfl hB62 hk62 hf62 hs62; clear hs62
      replace fa0 : w62.cell? ⟨w.heap.size, 0, none⟩ = some (.int .i64 al) := hk62 _ _ _ ((keepA _ fa0))
      replace fa1 : w62.cell? ⟨w.heap.size, 1, none⟩ = some (.int .i64 ah) := hk62 _ _ _ ((keepA _ fa1))
      have fr0 : w62.cell? ⟨w61.heap.size, 0, none⟩ = some (.int .i64 rl) := hk62 _ _ _ ((by simp [go_sem]))
      have fr1 : w62.cell? ⟨w61.heap.size, 1, none⟩ = some (.int .i64 rh) := hk62 _ _ _ ((by simp [go_sem]))
      (try clear fab); have fab : w.heap.size < w62.heap.size := World.block_lt_of_cell? w62 ⟨w.heap.size, 0, none⟩ fa0
      (try clear frb); have frb : w61.heap.size < w62.heap.size := World.block_lt_of_cell? w62 ⟨w61.heap.size, 0, none⟩ fr0
      clear hk62 hf62
      go_wp2_with fail
      refine useF w (up32_any _ _) (by go_grown) ?_; rintro e w63 rfl hB63 hk63 hf63 hs63; clear hs63
      replace fa0 : w63.cell? ⟨w.heap.size, 0, none⟩ = some (.int .i64 al) := hk63 _ _ _ (fa0)
      replace fa1 : w63.cell? ⟨w.heap.size, 1, none⟩ = some (.int .i64 ah) := hk63 _ _ _ (fa1)
      replace fr0 : w63.cell? ⟨w61.heap.size, 0, none⟩ = some (.int .i64 rl) := hk63 _ _ _ (fr0)
      replace fr1 : w63.cell? ⟨w61.heap.size, 1, none⟩ = some (.int .i64 rh) := hk63 _ _ _ (fr1)
      (try clear fab); have fab : w.heap.size < w63.heap.size := World.block_lt_of_cell? w63 ⟨w.heap.size, 0, none⟩ fa0
      (try clear frb); have frb : w61.heap.size < w63.heap.size := World.block_lt_of_cell? w63 ⟨w61.heap.size, 0, none⟩ fr0
      clear hk63 hf63
      go_wp2_with fail
      refine useF w (of_any ah _ (by omega)) (by go_grown) ?_; rintro e w64 rfl hB64 hk64 hf64 hs64; clear hs64
      replace fa0 : w64.cell? ⟨w.heap.size, 0, none⟩ = some (.int .i64 al) := hk64 _ _ _ ((keepA _ fa0))
      replace fa1 : w64.cell? ⟨w.heap.size, 1, none⟩ = some (.int .i64 ah) := hk64 _ _ _ ((keepA _ fa1))
      replace fr0 : w64.cell? ⟨w61.heap.size, 0, none⟩ = some (.int .i64 rl) := hk64 _ _ _ ((keepA _ fr0))
      replace fr1 : w64.cell? ⟨w61.heap.size, 1, none⟩ = some (.int .i64 rh) := hk64 _ _ _ ((keepA _ fr1))
      have fn0 : w64.cell? ⟨w63.heap.size, 0, none⟩ = some (.int .i64 (hiW (max al 0 * 4294967296))) := hk64 _ _ _ ((by simp [go_sem]))
      have fn1 : w64.cell? ⟨w63.heap.size, 1, none⟩ = some (.int .u64 (loW (max al 0 * 4294967296))) := hk64 _ _ _ ((by simp [go_sem]))
      (try clear fab); have fab : w.heap.size < w64.heap.size := World.block_lt_of_cell? w64 ⟨w.heap.size, 0, none⟩ fa0
      (try clear frb); have frb : w61.heap.size < w64.heap.size := World.block_lt_of_cell? w64 ⟨w61.heap.size, 0, none⟩ fr0
      (try clear fnb); have fnb : w63.heap.size < w64.heap.size := World.block_lt_of_cell? w64 ⟨w63.heap.size, 0, none⟩ fn0
      clear hk64 hf64
      go_wp2_with fail
      refine useF w (up32_any _ _) (by go_grown) ?_; rintro e w65 rfl hB65 hk65 hf65 hs65; clear hs65
      replace fa0 : w65.cell? ⟨w.heap.size, 0, none⟩ = some (.int .i64 al) := hk65 _ _ _ (fa0)
      replace fa1 : w65.cell? ⟨w.heap.size, 1, none⟩ = some (.int .i64 ah) := hk65 _ _ _ (fa1)
      replace fr0 : w65.cell? ⟨w61.heap.size, 0, none⟩ = some (.int .i64 rl) := hk65 _ _ _ (fr0)
      replace fr1 : w65.cell? ⟨w61.heap.size, 1, none⟩ = some (.int .i64 rh) := hk65 _ _ _ (fr1)
      replace fn0 : w65.cell? ⟨w63.heap.size, 0, none⟩ = some (.int .i64 (hiW (max al 0 * 4294967296))) := hk65 _ _ _ (fn0)
      replace fn1 : w65.cell? ⟨w63.heap.size, 1, none⟩ = some (.int .u64 (loW (max al 0 * 4294967296))) := hk65 _ _ _ (fn1)
      (try clear fab); have fab : w.heap.size < w65.heap.size := World.block_lt_of_cell? w65 ⟨w.heap.size, 0, none⟩ fa0
      (try clear frb); have frb : w61.heap.size < w65.heap.size := World.block_lt_of_cell? w65 ⟨w61.heap.size, 0, none⟩ fr0
      (try clear fnb); have fnb : w63.heap.size < w65.heap.size := World.block_lt_of_cell? w65 ⟨w63.heap.size, 0, none⟩ fn0
      clear hk65 hf65
      go_wp2_with fail
      refine wp_region_held_drew (S := (fun w' => w'.cell? ⟨w61.heap.size, 0, none⟩ = some (.int .i64 rl) ∧ w'.cell? ⟨w61.heap.size, 1, none⟩ = some (.int .i64 rh) ∧ w'.cell? ⟨w63.heap.size, 0, none⟩ = some (.int .i64 (hiW (max al 0 * 4294967296))) ∧ w'.cell? ⟨w63.heap.size, 1, none⟩ = some (.int .u64 (loW (max al 0 * 4294967296))) ∧ w'.cell? ⟨w65.heap.size, 0, none⟩ = some (.int .i64 (hiW (ah * 4294967296))) ∧ w'.cell? ⟨w65.heap.size, 1, none⟩ = some (.int .u64 (loW (ah * 4294967296))))) (by kernel_rfl) (by (try dsimp only); (first | (exact ⟨hk1 _ _ _ (hOld.1), hk1 _ _ _ (hOld.2.1), hk1 _ _ _ (hOld.2.2.1), hk1 _ _ _ (hOld.2.2.2.1), hk1 _ _ _ (hOld.2.2.2.2.1), hk1 _ _ _ (hOld.2.2.2.2.2)⟩) | ((try simp only [World.cell?_drew, World.frozen?_drew]); (repeat' apply And.intro) <;> (first | (with_reducible assumption) | (with_reducible exact ⟨_, by assumption⟩) | (with_reducible exact ⟨_, two_other (by assumption) (by omega)⟩) | (with_reducible exact two_0 (by assumption)) | (with_reducible exact two_1 (by assumption)) | (with_reducible exact two_other (by assumption) (by omega)) | (with_reducible exact two_fz (by assumption)) | (with_reducible exact keepA _ (by assumption)) | (with_reducible exact keepA _ (keepA _ (keepA _ (by assumption)))) | (simp (maxDischargeDepth := 8) [*, go_sem, World.cell?_alloc_some, World.cell?_setCell_far]; done))) | (go_keep; done) | (simp (maxDischargeDepth := 8) [*, go_sem, World.cell?_alloc_some, World.cell?_setCell_far]; done))) (fun hHeld => ?_)
      (refine wpAnyH_take (i := 0) (oi := ⟨some 118, _, _, _, _, none⟩) (v := ?_) rfl (by kernel_rfl) (by kernel_rfl) (by kernel_rfl) (fun _ _ _ h => h) (Or.inl ⟨by rfl, ?_⟩) hHeld ?_; rotate_left; (· (intro w9 hSw; (try dsimp only at hSw); go_simp; (try with_reducible rfl))))
      (try simp only [Act.put, List.setIfInBounds_toArray, List.set_cons_zero, List.set_cons_succ])
      (refine wpAnyH_take (i := 1) (oi := ⟨some 119, _, _, _, _, none⟩) (v := ?_) rfl (by kernel_rfl) (by kernel_rfl) (by kernel_rfl) (fun _ _ _ h => h) (Or.inl ⟨by rfl, ?_⟩) hHeld ?_; rotate_left; (· (intro w9 hSw; (try dsimp only at hSw); go_simp; (try with_reducible rfl))))
      (try simp only [Act.put, List.setIfInBounds_toArray, List.set_cons_zero, List.set_cons_succ])
      (refine wpAnyH_take (i := 2) (oi := ⟨some 120, _, _, _, _, none⟩) (v := ?_) rfl (by kernel_rfl) (by kernel_rfl) (by kernel_rfl) (fun _ _ _ h => h) (Or.inl ⟨by rfl, ?_⟩) hHeld ?_; rotate_left; (· (intro w9 hSw; (try dsimp only at hSw); go_simp; (try with_reducible rfl))))
      (try simp only [Act.put, List.setIfInBounds_toArray, List.set_cons_zero, List.set_cons_succ])
      (refine wpAnyH_take (i := 3) (oi := ⟨some 121, _, _, _, _, none⟩) (v := ?_) rfl (by kernel_rfl) (by kernel_rfl) (by kernel_rfl) (fun _ _ _ h => h) (Or.inl ⟨by rfl, ?_⟩) hHeld ?_; rotate_left; (· (intro w9 hSw; (try dsimp only at hSw); go_simp; (try with_reducible rfl))))
      (try simp only [Act.put, List.setIfInBounds_toArray, List.set_cons_zero, List.set_cons_succ])
      (refine wpAnyH_take (i := 4) (oi := ⟨some 122, _, _, _, _, none⟩) (v := ?_) rfl (by kernel_rfl) (by kernel_rfl) (by kernel_rfl) (fun _ _ _ h => h) (Or.inl ⟨by rfl, ?_⟩) hHeld ?_; rotate_left; (· (intro w9 hSw; (try dsimp only at hSw); go_simp; (try with_reducible rfl))))
      (try simp only [Act.put, List.setIfInBounds_toArray, List.set_cons_zero, List.set_cons_succ])
      (refine wpAnyH_take (i := 5) (oi := ⟨some 123, _, _, _, _, none⟩) (v := ?_) rfl (by kernel_rfl) (by kernel_rfl) (by kernel_rfl) (fun _ _ _ h => h) (Or.inl ⟨by rfl, ?_⟩) hHeld ?_; rotate_left; (· (intro w9 hSw; (try dsimp only at hSw); go_simp; (try with_reducible rfl))))
      (try simp only [Act.put, List.setIfInBounds_toArray, List.set_cons_zero, List.set_cons_succ])
      (refine wpAnyH_take (i := 6) (oi := ⟨some 124, _, _, _, _, none⟩) (v := ?_) rfl (by kernel_rfl) (by kernel_rfl) (by kernel_rfl) (fun _ _ _ h => h) (Or.inl ⟨by rfl, ?_⟩) hHeld ?_; rotate_left; (· (intro w9 hSw; (try dsimp only at hSw); go_simp; (try with_reducible rfl))))
      (try simp only [Act.put, List.setIfInBounds_toArray, List.set_cons_zero, List.set_cons_succ])
      (refine wpAnyH_ready (rs := [7]) (by kernel_rfl) (by simp) ?_; refine AllReadyH.cons (o := ⟨some 125, _, _, _, _, none⟩) rfl (fun K hK => ?_) AllReadyH.nil; go_simp; (first | (go_at_call 38; ((with_reducible refine useF w (t3.out _) ?_ ?_); (· go_grown); rintro e w1 rfl hB1 hk1 hf1 hs1; have hz1 := hB1.size)) | (go_at_call 38; ((with_reducible refine useF w (t3w.out _) ?_ ?_); (· go_grown); rintro e w1 rfl hB1 hk1 hf1 hs1; have hz1 := hB1.size)) | (go_at_call 38; ((with_reducible refine useF w (t3x.out _) ?_ ?_); (· go_grown); rintro e w1 rfl hB1 hk1 hf1 hs1; have hz1 := hB1.size)) | (go_at_call 40; refine useF w (l3.out _) (by go_grown) ?_; rintro e w1 rfl hB1 hk1 hf1 hs1; have hz1 := hB1.size)); have hOld := hHeld; clear hHeld; refine hK.out _ _ ?_ (fun hHeld => ?_); (· ((try dsimp only); (first | (exact ⟨hk1 _ _ _ (hOld.1), hk1 _ _ _ (hOld.2.1), hk1 _ _ _ (hOld.2.2.1), hk1 _ _ _ (hOld.2.2.2.1), hk1 _ _ _ (hOld.2.2.2.2.1), hk1 _ _ _ (hOld.2.2.2.2.2)⟩) | ((try simp only [World.cell?_drew, World.frozen?_drew]); (repeat' apply And.intro) <;> (first | (with_reducible assumption) | (with_reducible exact ⟨_, by assumption⟩) | (with_reducible exact ⟨_, two_other (by assumption) (by omega)⟩) | (with_reducible exact two_0 (by assumption)) | (with_reducible exact two_1 (by assumption)) | (with_reducible exact two_other (by assumption) (by omega)) | (with_reducible exact two_fz (by assumption)) | (with_reducible exact keepA _ (by assumption)) | (with_reducible exact keepA _ (keepA _ (keepA _ (by assumption)))) | (simp (maxDischargeDepth := 8) [*, go_sem, World.cell?_alloc_some, World.cell?_setCell_far]; done))) | (go_keep; done) | (simp (maxDischargeDepth := 8) [*, go_sem, World.cell?_alloc_some, World.cell?_setCell_far]; done)))); clear hK K hOld; (try clear hc1 hf1); (try clear hk1 hf1))
      (try simp only [Act.put, List.setIfInBounds_toArray, List.set_cons_zero, List.set_cons_succ])
      (refine wpAnyH_ready (rs := [8]) (by kernel_rfl) (by simp) ?_; refine AllReadyH.cons (o := ⟨some 126, _, _, _, _, none⟩) rfl (fun K hK => ?_) AllReadyH.nil; go_simp; (first | (go_at_call 38; ((with_reducible refine useF w (t3.out _) ?_ ?_); (· go_grown); rintro e w1 rfl hB1 hk1 hf1 hs1; have hz1 := hB1.size)) | (go_at_call 38; ((with_reducible refine useF w (t3w.out _) ?_ ?_); (· go_grown); rintro e w1 rfl hB1 hk1 hf1 hs1; have hz1 := hB1.size)) | (go_at_call 38; ((with_reducible refine useF w (t3x.out _) ?_ ?_); (· go_grown); rintro e w1 rfl hB1 hk1 hf1 hs1; have hz1 := hB1.size)) | (go_at_call 40; refine useF w (l3.out _) (by go_grown) ?_; rintro e w1 rfl hB1 hk1 hf1 hs1; have hz1 := hB1.size)); have hOld := hHeld; clear hHeld; refine hK.out _ _ ?_ (fun hHeld => ?_); (· ((try dsimp only); (first | (exact ⟨hk1 _ _ _ (hOld.1), hk1 _ _ _ (hOld.2.1), hk1 _ _ _ (hOld.2.2.1), hk1 _ _ _ (hOld.2.2.2.1), hk1 _ _ _ (hOld.2.2.2.2.1), hk1 _ _ _ (hOld.2.2.2.2.2)⟩) | ((try simp only [World.cell?_drew, World.frozen?_drew]); (repeat' apply And.intro) <;> (first | (with_reducible assumption) | (with_reducible exact ⟨_, by assumption⟩) | (with_reducible exact ⟨_, two_other (by assumption) (by omega)⟩) | (with_reducible exact two_0 (by assumption)) | (with_reducible exact two_1 (by assumption)) | (with_reducible exact two_other (by assumption) (by omega)) | (with_reducible exact two_fz (by assumption)) | (with_reducible exact keepA _ (by assumption)) | (with_reducible exact keepA _ (keepA _ (keepA _ (by assumption)))) | (simp (maxDischargeDepth := 8) [*, go_sem, World.cell?_alloc_some, World.cell?_setCell_far]; done))) | (go_keep; done) | (simp (maxDischargeDepth := 8) [*, go_sem, World.cell?_alloc_some, World.cell?_setCell_far]; done)))); clear hK K hOld; (try clear hc1 hf1); (try clear hk1 hf1))
      (try simp only [Act.put, List.setIfInBounds_toArray, List.set_cons_zero, List.set_cons_succ])
      (refine wpAnyH_take (i := 9) (oi := ⟨some 22, _, _, _, _, none⟩) (v := ?_) rfl (by kernel_rfl) (by kernel_rfl) (by kernel_rfl) (fun _ _ _ h => h) (Or.inl ⟨by rfl, ?_⟩) hHeld ?_; rotate_left; (· (intro w9 hSw; (try dsimp only at hSw); go_simp; (try with_reducible rfl))))
      (try simp only [Act.put, List.setIfInBounds_toArray, List.set_cons_zero, List.set_cons_succ])
      refine wpAnyH_done (by kernel_rfl) ?_ _
      obtain ⟨u0, u1, n0, n1, m0, m1⟩ := hHeld
      go_wp2_with fail
      by_cases z : rh = 0
      · have zb : (rh == 0) = true := by simpa using z
        clear z
        refine wp_region_held_drew (S := (fun w' => w'.cell? ⟨w61.heap.size, 0, none⟩ = some (.int .i64 rl) ∧ w'.cell? ⟨w61.heap.size, 1, none⟩ = some (.int .i64 rh) ∧ w'.cell? ⟨w63.heap.size, 0, none⟩ = some (.int .i64 (hiW (max al 0 * 4294967296))) ∧ w'.cell? ⟨w63.heap.size, 1, none⟩ = some (.int .u64 (loW (max al 0 * 4294967296))) ∧ w'.cell? ⟨w65.heap.size, 0, none⟩ = some (.int .i64 (hiW (ah * 4294967296))) ∧ w'.cell? ⟨w65.heap.size, 1, none⟩ = some (.int .u64 (loW (ah * 4294967296))))) (by kernel_rfl) (by (try dsimp only); (first | (exact ⟨hk1 _ _ _ (hOld.1), hk1 _ _ _ (hOld.2.1), hk1 _ _ _ (hOld.2.2.1), hk1 _ _ _ (hOld.2.2.2.1), hk1 _ _ _ (hOld.2.2.2.2.1), hk1 _ _ _ (hOld.2.2.2.2.2)⟩) | ((try simp only [World.cell?_drew, World.frozen?_drew]); (repeat' apply And.intro) <;> (first | (with_reducible assumption) | (with_reducible exact ⟨_, by assumption⟩) | (with_reducible exact ⟨_, two_other (by assumption) (by omega)⟩) | (with_reducible exact two_0 (by assumption)) | (with_reducible exact two_1 (by assumption)) | (with_reducible exact two_other (by assumption) (by omega)) | (with_reducible exact two_fz (by assumption)) | (with_reducible exact keepA _ (by assumption)) | (with_reducible exact keepA _ (keepA _ (keepA _ (by assumption)))) | (simp (maxDischargeDepth := 8) [*, go_sem, World.cell?_alloc_some, World.cell?_setCell_far]; done))) | (go_keep; done) | (simp (maxDischargeDepth := 8) [*, go_sem, World.cell?_alloc_some, World.cell?_setCell_far]; done))) (fun hHeld => ?_)
        (refine wpAnyH_take (i := 0) (oi := ⟨some 127, _, _, _, _, none⟩) (v := ?_) rfl (by kernel_rfl) (by kernel_rfl) (by kernel_rfl) (fun _ _ _ h => h) (Or.inl ⟨by rfl, ?_⟩) hHeld ?_; rotate_left; (· (intro w9 hSw; (try dsimp only at hSw); go_simp; (try with_reducible rfl))))
        (try simp only [Act.put, List.setIfInBounds_toArray, List.set_cons_zero, List.set_cons_succ])
        (refine wpAnyH_take (i := 1) (oi := ⟨some 128, _, _, _, _, none⟩) (v := ?_) rfl (by kernel_rfl) (by kernel_rfl) (by kernel_rfl) (fun _ _ _ h => h) (Or.inl ⟨by rfl, ?_⟩) hHeld ?_; rotate_left; (· (intro w9 hSw; (try dsimp only at hSw); go_simp; (try with_reducible rfl))))
        (try simp only [Act.put, List.setIfInBounds_toArray, List.set_cons_zero, List.set_cons_succ])
        (refine wpAnyH_take (i := 2) (oi := ⟨some 129, _, _, _, _, none⟩) (v := ?_) rfl (by kernel_rfl) (by kernel_rfl) (by kernel_rfl) (fun _ _ _ h => h) (Or.inl ⟨by rfl, ?_⟩) hHeld ?_; rotate_left; (· (intro w9 hSw; (try dsimp only at hSw); go_simp; (try with_reducible rfl))))
        (try simp only [Act.put, List.setIfInBounds_toArray, List.set_cons_zero, List.set_cons_succ])
        (refine wpAnyH_take (i := 3) (oi := ⟨some 130, _, _, _, _, none⟩) (v := ?_) rfl (by kernel_rfl) (by kernel_rfl) (by kernel_rfl) (fun _ _ _ h => h) (Or.inl ⟨by rfl, ?_⟩) hHeld ?_; rotate_left; (· (intro w9 hSw; (try dsimp only at hSw); go_simp; (try with_reducible rfl))))
        (try simp only [Act.put, List.setIfInBounds_toArray, List.set_cons_zero, List.set_cons_succ])
        (first | (refine wpAnyH_take (i := 4) (oi := ⟨some 131, _, _, _, _, some (3, false)⟩) (v := ?_) rfl (by kernel_rfl) (by kernel_rfl) (by kernel_rfl) (fun _ _ _ h => h) (Or.inl ⟨by rfl, ?_⟩) hHeld ?_; rotate_left; (· (intro w9 hSw; (try dsimp only at hSw); go_simp; (try with_reducible rfl)))) | (refine wpAnyH_take (i := 4) (oi := ⟨some 131, _, _, _, _, some (3, false)⟩) (v := undef) rfl (by kernel_rfl) (by kernel_rfl) (by kernel_rfl) (fun _ _ _ h => h) (Or.inr ⟨by rfl, rfl⟩) hHeld ?_))
        (try simp only [Act.put, List.setIfInBounds_toArray, List.set_cons_zero, List.set_cons_succ])
        (first | (refine wpAnyH_take (i := 5) (oi := ⟨some 132, _, _, _, _, some (3, false)⟩) (v := ?_) rfl (by kernel_rfl) (by kernel_rfl) (by kernel_rfl) (fun _ _ _ h => h) (Or.inl ⟨by rfl, ?_⟩) hHeld ?_; rotate_left; (· (intro w9 hSw; (try dsimp only at hSw); go_simp; (try with_reducible rfl)))) | (refine wpAnyH_take (i := 5) (oi := ⟨some 132, _, _, _, _, some (3, false)⟩) (v := undef) rfl (by kernel_rfl) (by kernel_rfl) (by kernel_rfl) (fun _ _ _ h => h) (Or.inr ⟨by rfl, rfl⟩) hHeld ?_))
        (try simp only [Act.put, List.setIfInBounds_toArray, List.set_cons_zero, List.set_cons_succ])
        (first | (refine wpAnyH_take (i := 6) (oi := ⟨some 133, _, _, _, _, some (3, false)⟩) (v := ?_) rfl (by kernel_rfl) (by kernel_rfl) (by kernel_rfl) (fun _ _ _ h => h) (Or.inl ⟨by rfl, ?_⟩) hHeld ?_; rotate_left; (· (intro w9 hSw; (try dsimp only at hSw); go_simp; (try with_reducible rfl)))) | (refine wpAnyH_take (i := 6) (oi := ⟨some 133, _, _, _, _, some (3, false)⟩) (v := undef) rfl (by kernel_rfl) (by kernel_rfl) (by kernel_rfl) (fun _ _ _ h => h) (Or.inr ⟨by rfl, rfl⟩) hHeld ?_))
        (try simp only [Act.put, List.setIfInBounds_toArray, List.set_cons_zero, List.set_cons_succ])
        (first | (refine wpAnyH_take (i := 7) (oi := ⟨some 134, _, _, _, _, some (3, false)⟩) (v := ?_) rfl (by kernel_rfl) (by kernel_rfl) (by kernel_rfl) (fun _ _ _ h => h) (Or.inl ⟨by rfl, ?_⟩) hHeld ?_; rotate_left; (· (intro w9 hSw; (try dsimp only at hSw); go_simp; (try with_reducible rfl)))) | (refine wpAnyH_take (i := 7) (oi := ⟨some 134, _, _, _, _, some (3, false)⟩) (v := undef) rfl (by kernel_rfl) (by kernel_rfl) (by kernel_rfl) (fun _ _ _ h => h) (Or.inr ⟨by rfl, rfl⟩) hHeld ?_))
        (try simp only [Act.put, List.setIfInBounds_toArray, List.set_cons_zero, List.set_cons_succ])
        (first | (refine wpAnyH_take (i := 8) (oi := ⟨some 135, _, _, _, _, some (3, false)⟩) (v := ?_) rfl (by kernel_rfl) (by kernel_rfl) (by kernel_rfl) (fun _ _ _ h => h) (Or.inl ⟨by rfl, ?_⟩) hHeld ?_; rotate_left; (· (intro w9 hSw; (try dsimp only at hSw); go_simp; (try with_reducible rfl)))) | (refine wpAnyH_take (i := 8) (oi := ⟨some 135, _, _, _, _, some (3, false)⟩) (v := undef) rfl (by kernel_rfl) (by kernel_rfl) (by kernel_rfl) (fun _ _ _ h => h) (Or.inr ⟨by rfl, rfl⟩) hHeld ?_))
        (try simp only [Act.put, List.setIfInBounds_toArray, List.set_cons_zero, List.set_cons_succ])
        (first | (refine wpAnyH_take (i := 9) (oi := ⟨some 136, _, _, _, _, some (3, false)⟩) (v := ?_) rfl (by kernel_rfl) (by kernel_rfl) (by kernel_rfl) (fun _ _ _ h => h) (Or.inl ⟨by rfl, ?_⟩) hHeld ?_; rotate_left; (· (intro w9 hSw; (try dsimp only at hSw); go_simp; (try with_reducible rfl)))) | (refine wpAnyH_take (i := 9) (oi := ⟨some 136, _, _, _, _, some (3, false)⟩) (v := undef) rfl (by kernel_rfl) (by kernel_rfl) (by kernel_rfl) (fun _ _ _ h => h) (Or.inr ⟨by rfl, rfl⟩) hHeld ?_))
        (try simp only [Act.put, List.setIfInBounds_toArray, List.set_cons_zero, List.set_cons_succ])
        (first | (refine wpAnyH_take (i := 11) (oi := ⟨some 138, _, _, _, _, some (3, false)⟩) (v := ?_) rfl (by kernel_rfl) (by kernel_rfl) (by kernel_rfl) (fun _ _ _ h => h) (Or.inl ⟨by rfl, ?_⟩) hHeld ?_; rotate_left; (· (intro w9 hSw; (try dsimp only at hSw); go_simp; (try with_reducible rfl)))) | (refine wpAnyH_take (i := 11) (oi := ⟨some 138, _, _, _, _, some (3, false)⟩) (v := undef) rfl (by kernel_rfl) (by kernel_rfl) (by kernel_rfl) (fun _ _ _ h => h) (Or.inr ⟨by rfl, rfl⟩) hHeld ?_))
        (try simp only [Act.put, List.setIfInBounds_toArray, List.set_cons_zero, List.set_cons_succ])
        (first | (refine wpAnyH_ready (rs := [10]) (by kernel_rfl) (by simp) ?_; refine AllReadyH.cons (o := ⟨some 137, _, _, _, _, some (3, false)⟩) rfl (fun K hK => ?_) AllReadyH.nil; go_simp; (first | fail); have hOld := hHeld; clear hHeld; refine hK.out _ _ ?_ (fun hHeld => ?_); (· ((try dsimp only); (first | (exact ⟨hk1 _ _ _ (hOld.1), hk1 _ _ _ (hOld.2.1), hk1 _ _ _ (hOld.2.2.1), hk1 _ _ _ (hOld.2.2.2.1), hk1 _ _ _ (hOld.2.2.2.2.1), hk1 _ _ _ (hOld.2.2.2.2.2)⟩) | ((try simp only [World.cell?_drew, World.frozen?_drew]); (repeat' apply And.intro) <;> (first | (with_reducible assumption) | (with_reducible exact ⟨_, by assumption⟩) | (with_reducible exact ⟨_, two_other (by assumption) (by omega)⟩) | (with_reducible exact two_0 (by assumption)) | (with_reducible exact two_1 (by assumption)) | (with_reducible exact two_other (by assumption) (by omega)) | (with_reducible exact two_fz (by assumption)) | (with_reducible exact keepA _ (by assumption)) | (with_reducible exact keepA _ (keepA _ (keepA _ (by assumption)))) | (simp (maxDischargeDepth := 8) [*, go_sem, World.cell?_alloc_some, World.cell?_setCell_far]; done))) | (go_keep; done) | (simp (maxDischargeDepth := 8) [*, go_sem, World.cell?_alloc_some, World.cell?_setCell_far]; done)))); clear hK K hOld; (try clear hc1 hf1); (try clear hk1 hf1)) | (refine wpAnyH_take (i := 10) (oi := ⟨some 137, _, _, _, _, some (3, false)⟩) (v := undef) rfl (by kernel_rfl) (by kernel_rfl) (by kernel_rfl) (fun _ _ _ h => h) (Or.inr ⟨by rfl, rfl⟩) hHeld ?_))
        (try simp only [Act.put, List.setIfInBounds_toArray, List.set_cons_zero, List.set_cons_succ])
        (first | (refine wpAnyH_ready (rs := [12]) (by kernel_rfl) (by simp) ?_; refine AllReadyH.cons (o := ⟨some 139, _, _, _, _, some (3, false)⟩) rfl (fun K hK => ?_) AllReadyH.nil; go_simp; (first | fail); have hOld := hHeld; clear hHeld; refine hK.out _ _ ?_ (fun hHeld => ?_); (· ((try dsimp only); (first | (exact ⟨hk1 _ _ _ (hOld.1), hk1 _ _ _ (hOld.2.1), hk1 _ _ _ (hOld.2.2.1), hk1 _ _ _ (hOld.2.2.2.1), hk1 _ _ _ (hOld.2.2.2.2.1), hk1 _ _ _ (hOld.2.2.2.2.2)⟩) | ((try simp only [World.cell?_drew, World.frozen?_drew]); (repeat' apply And.intro) <;> (first | (with_reducible assumption) | (with_reducible exact ⟨_, by assumption⟩) | (with_reducible exact ⟨_, two_other (by assumption) (by omega)⟩) | (with_reducible exact two_0 (by assumption)) | (with_reducible exact two_1 (by assumption)) | (with_reducible exact two_other (by assumption) (by omega)) | (with_reducible exact two_fz (by assumption)) | (with_reducible exact keepA _ (by assumption)) | (with_reducible exact keepA _ (keepA _ (keepA _ (by assumption)))) | (simp (maxDischargeDepth := 8) [*, go_sem, World.cell?_alloc_some, World.cell?_setCell_far]; done))) | (go_keep; done) | (simp (maxDischargeDepth := 8) [*, go_sem, World.cell?_alloc_some, World.cell?_setCell_far]; done)))); clear hK K hOld; (try clear hc1 hf1); (try clear hk1 hf1)) | (refine wpAnyH_take (i := 12) (oi := ⟨some 139, _, _, _, _, some (3, false)⟩) (v := undef) rfl (by kernel_rfl) (by kernel_rfl) (by kernel_rfl) (fun _ _ _ h => h) (Or.inr ⟨by rfl, rfl⟩) hHeld ?_))
        (try simp only [Act.put, List.setIfInBounds_toArray, List.set_cons_zero, List.set_cons_succ])
        (refine wpAnyH_take (i := 13) (oi := ⟨some 140, _, _, _, _, none⟩) (v := ?_) rfl (by kernel_rfl) (by kernel_rfl) (by kernel_rfl) (fun _ _ _ h => h) (Or.inl ⟨by rfl, ?_⟩) hHeld ?_; rotate_left; (· (intro w9 hSw; (try dsimp only at hSw); go_simp; (try with_reducible rfl))))
        (try simp only [Act.put, List.setIfInBounds_toArray, List.set_cons_zero, List.set_cons_succ])
        (refine wpAnyH_take (i := 14) (oi := ⟨some 23, _, _, _, _, none⟩) (v := ?_) rfl (by kernel_rfl) (by kernel_rfl) (by kernel_rfl) (fun _ _ _ h => h) (Or.inl ⟨by rfl, ?_⟩) hHeld ?_; rotate_left; (· (intro w9 hSw; (try dsimp only at hSw); go_simp; (try with_reducible rfl))))
        (try simp only [Act.put, List.setIfInBounds_toArray, List.set_cons_zero, List.set_cons_succ])
        refine wpAnyH_done (by kernel_rfl) ?_ _
        go_wp2_with fail
        go_ret
        exact ⟨rfl, by go_grown⟩
      · have zb : (rh == 0) = false := by simpa using z
        rw [decide_eq_true (hm2.out.resolve_left z)] at l4
        clear z
        refine wp_region_held_drew (S := (fun w' => w'.cell? ⟨w61.heap.size, 0, none⟩ = some (.int .i64 rl) ∧ w'.cell? ⟨w61.heap.size, 1, none⟩ = some (.int .i64 rh) ∧ w'.cell? ⟨w63.heap.size, 0, none⟩ = some (.int .i64 (hiW (max al 0 * 4294967296))) ∧ w'.cell? ⟨w63.heap.size, 1, none⟩ = some (.int .u64 (loW (max al 0 * 4294967296))) ∧ w'.cell? ⟨w65.heap.size, 0, none⟩ = some (.int .i64 (hiW (ah * 4294967296))) ∧ w'.cell? ⟨w65.heap.size, 1, none⟩ = some (.int .u64 (loW (ah * 4294967296))))) (by kernel_rfl) (by (try dsimp only); (first | (exact ⟨hk1 _ _ _ (hOld.1), hk1 _ _ _ (hOld.2.1), hk1 _ _ _ (hOld.2.2.1), hk1 _ _ _ (hOld.2.2.2.1), hk1 _ _ _ (hOld.2.2.2.2.1), hk1 _ _ _ (hOld.2.2.2.2.2)⟩) | ((try simp only [World.cell?_drew, World.frozen?_drew]); (repeat' apply And.intro) <;> (first | (with_reducible assumption) | (with_reducible exact ⟨_, by assumption⟩) | (with_reducible exact ⟨_, two_other (by assumption) (by omega)⟩) | (with_reducible exact two_0 (by assumption)) | (with_reducible exact two_1 (by assumption)) | (with_reducible exact two_other (by assumption) (by omega)) | (with_reducible exact two_fz (by assumption)) | (with_reducible exact keepA _ (by assumption)) | (with_reducible exact keepA _ (keepA _ (keepA _ (by assumption)))) | (simp (maxDischargeDepth := 8) [*, go_sem, World.cell?_alloc_some, World.cell?_setCell_far]; done))) | (go_keep; done) | (simp (maxDischargeDepth := 8) [*, go_sem, World.cell?_alloc_some, World.cell?_setCell_far]; done))) (fun hHeld => ?_)
        (refine wpAnyH_take (i := 0) (oi := ⟨some 127, _, _, _, _, none⟩) (v := ?_) rfl (by kernel_rfl) (by kernel_rfl) (by kernel_rfl) (fun _ _ _ h => h) (Or.inl ⟨by rfl, ?_⟩) hHeld ?_; rotate_left; (· (intro w9 hSw; (try dsimp only at hSw); go_simp; (try with_reducible rfl))))
        (try simp only [Act.put, List.setIfInBounds_toArray, List.set_cons_zero, List.set_cons_succ])
        (refine wpAnyH_take (i := 1) (oi := ⟨some 128, _, _, _, _, none⟩) (v := ?_) rfl (by kernel_rfl) (by kernel_rfl) (by kernel_rfl) (fun _ _ _ h => h) (Or.inl ⟨by rfl, ?_⟩) hHeld ?_; rotate_left; (· (intro w9 hSw; (try dsimp only at hSw); go_simp; (try with_reducible rfl))))
        (try simp only [Act.put, List.setIfInBounds_toArray, List.set_cons_zero, List.set_cons_succ])
        (refine wpAnyH_take (i := 2) (oi := ⟨some 129, _, _, _, _, none⟩) (v := ?_) rfl (by kernel_rfl) (by kernel_rfl) (by kernel_rfl) (fun _ _ _ h => h) (Or.inl ⟨by rfl, ?_⟩) hHeld ?_; rotate_left; (· (intro w9 hSw; (try dsimp only at hSw); go_simp; (try with_reducible rfl))))
        (try simp only [Act.put, List.setIfInBounds_toArray, List.set_cons_zero, List.set_cons_succ])
        (refine wpAnyH_take (i := 3) (oi := ⟨some 130, _, _, _, _, none⟩) (v := ?_) rfl (by kernel_rfl) (by kernel_rfl) (by kernel_rfl) (fun _ _ _ h => h) (Or.inl ⟨by rfl, ?_⟩) hHeld ?_; rotate_left; (· (intro w9 hSw; (try dsimp only at hSw); go_simp; (try with_reducible rfl))))
        (try simp only [Act.put, List.setIfInBounds_toArray, List.set_cons_zero, List.set_cons_succ])
        (first | (refine wpAnyH_take (i := 4) (oi := ⟨some 131, _, _, _, _, some (3, false)⟩) (v := ?_) rfl (by kernel_rfl) (by kernel_rfl) (by kernel_rfl) (fun _ _ _ h => h) (Or.inl ⟨by rfl, ?_⟩) hHeld ?_; rotate_left; (· (intro w9 hSw; (try dsimp only at hSw); go_simp; (try with_reducible rfl)))) | (refine wpAnyH_take (i := 4) (oi := ⟨some 131, _, _, _, _, some (3, false)⟩) (v := undef) rfl (by kernel_rfl) (by kernel_rfl) (by kernel_rfl) (fun _ _ _ h => h) (Or.inr ⟨by rfl, rfl⟩) hHeld ?_))
        (try simp only [Act.put, List.setIfInBounds_toArray, List.set_cons_zero, List.set_cons_succ])
        (first | (refine wpAnyH_take (i := 5) (oi := ⟨some 132, _, _, _, _, some (3, false)⟩) (v := ?_) rfl (by kernel_rfl) (by kernel_rfl) (by kernel_rfl) (fun _ _ _ h => h) (Or.inl ⟨by rfl, ?_⟩) hHeld ?_; rotate_left; (· (intro w9 hSw; (try dsimp only at hSw); go_simp; (try with_reducible rfl)))) | (refine wpAnyH_take (i := 5) (oi := ⟨some 132, _, _, _, _, some (3, false)⟩) (v := undef) rfl (by kernel_rfl) (by kernel_rfl) (by kernel_rfl) (fun _ _ _ h => h) (Or.inr ⟨by rfl, rfl⟩) hHeld ?_))
        (try simp only [Act.put, List.setIfInBounds_toArray, List.set_cons_zero, List.set_cons_succ])
        (first | (refine wpAnyH_take (i := 6) (oi := ⟨some 133, _, _, _, _, some (3, false)⟩) (v := ?_) rfl (by kernel_rfl) (by kernel_rfl) (by kernel_rfl) (fun _ _ _ h => h) (Or.inl ⟨by rfl, ?_⟩) hHeld ?_; rotate_left; (· (intro w9 hSw; (try dsimp only at hSw); go_simp; (try with_reducible rfl)))) | (refine wpAnyH_take (i := 6) (oi := ⟨some 133, _, _, _, _, some (3, false)⟩) (v := undef) rfl (by kernel_rfl) (by kernel_rfl) (by kernel_rfl) (fun _ _ _ h => h) (Or.inr ⟨by rfl, rfl⟩) hHeld ?_))
        (try simp only [Act.put, List.setIfInBounds_toArray, List.set_cons_zero, List.set_cons_succ])
        (first | (refine wpAnyH_take (i := 7) (oi := ⟨some 134, _, _, _, _, some (3, false)⟩) (v := ?_) rfl (by kernel_rfl) (by kernel_rfl) (by kernel_rfl) (fun _ _ _ h => h) (Or.inl ⟨by rfl, ?_⟩) hHeld ?_; rotate_left; (· (intro w9 hSw; (try dsimp only at hSw); go_simp; (try with_reducible rfl)))) | (refine wpAnyH_take (i := 7) (oi := ⟨some 134, _, _, _, _, some (3, false)⟩) (v := undef) rfl (by kernel_rfl) (by kernel_rfl) (by kernel_rfl) (fun _ _ _ h => h) (Or.inr ⟨by rfl, rfl⟩) hHeld ?_))
        (try simp only [Act.put, List.setIfInBounds_toArray, List.set_cons_zero, List.set_cons_succ])
        (first | (refine wpAnyH_take (i := 8) (oi := ⟨some 135, _, _, _, _, some (3, false)⟩) (v := ?_) rfl (by kernel_rfl) (by kernel_rfl) (by kernel_rfl) (fun _ _ _ h => h) (Or.inl ⟨by rfl, ?_⟩) hHeld ?_; rotate_left; (· (intro w9 hSw; (try dsimp only at hSw); go_simp; (try with_reducible rfl)))) | (refine wpAnyH_take (i := 8) (oi := ⟨some 135, _, _, _, _, some (3, false)⟩) (v := undef) rfl (by kernel_rfl) (by kernel_rfl) (by kernel_rfl) (fun _ _ _ h => h) (Or.inr ⟨by rfl, rfl⟩) hHeld ?_))
        (try simp only [Act.put, List.setIfInBounds_toArray, List.set_cons_zero, List.set_cons_succ])
        (first | (refine wpAnyH_take (i := 9) (oi := ⟨some 136, _, _, _, _, some (3, false)⟩) (v := ?_) rfl (by kernel_rfl) (by kernel_rfl) (by kernel_rfl) (fun _ _ _ h => h) (Or.inl ⟨by rfl, ?_⟩) hHeld ?_; rotate_left; (· (intro w9 hSw; (try dsimp only at hSw); go_simp; (try with_reducible rfl)))) | (refine wpAnyH_take (i := 9) (oi := ⟨some 136, _, _, _, _, some (3, false)⟩) (v := undef) rfl (by kernel_rfl) (by kernel_rfl) (by kernel_rfl) (fun _ _ _ h => h) (Or.inr ⟨by rfl, rfl⟩) hHeld ?_))
        (try simp only [Act.put, List.setIfInBounds_toArray, List.set_cons_zero, List.set_cons_succ])
        (first | (refine wpAnyH_take (i := 11) (oi := ⟨some 138, _, _, _, _, some (3, false)⟩) (v := ?_) rfl (by kernel_rfl) (by kernel_rfl) (by kernel_rfl) (fun _ _ _ h => h) (Or.inl ⟨by rfl, ?_⟩) hHeld ?_; rotate_left; (· (intro w9 hSw; (try dsimp only at hSw); go_simp; (try with_reducible rfl)))) | (refine wpAnyH_take (i := 11) (oi := ⟨some 138, _, _, _, _, some (3, false)⟩) (v := undef) rfl (by kernel_rfl) (by kernel_rfl) (by kernel_rfl) (fun _ _ _ h => h) (Or.inr ⟨by rfl, rfl⟩) hHeld ?_))
        (try simp only [Act.put, List.setIfInBounds_toArray, List.set_cons_zero, List.set_cons_succ])
        (first | (refine wpAnyH_ready (rs := [10]) (by kernel_rfl) (by simp) ?_; refine AllReadyH.cons (o := ⟨some 137, _, _, _, _, some (3, false)⟩) rfl (fun K hK => ?_) AllReadyH.nil; go_simp; (first | (go_at_call 38; ((with_reducible refine useF w (t4.out _) ?_ ?_); (· go_grown); rintro e w1 rfl hB1 hk1 hf1 hs1; have hz1 := hB1.size)) | (go_at_call 38; ((with_reducible refine useF w (t4w.out _) ?_ ?_); (· go_grown); rintro e w1 rfl hB1 hk1 hf1 hs1; have hz1 := hB1.size)) | (go_at_call 38; ((with_reducible refine useF w (t4x.out _) ?_ ?_); (· go_grown); rintro e w1 rfl hB1 hk1 hf1 hs1; have hz1 := hB1.size)) | (go_at_call 40; refine useF w (l4.out _) (by go_grown) ?_; rintro e w1 rfl hB1 hk1 hf1 hs1; have hz1 := hB1.size)); have hOld := hHeld; clear hHeld; refine hK.out _ _ ?_ (fun hHeld => ?_); (· ((try dsimp only); (first | (exact ⟨hk1 _ _ _ (hOld.1), hk1 _ _ _ (hOld.2.1), hk1 _ _ _ (hOld.2.2.1), hk1 _ _ _ (hOld.2.2.2.1), hk1 _ _ _ (hOld.2.2.2.2.1), hk1 _ _ _ (hOld.2.2.2.2.2)⟩) | ((try simp only [World.cell?_drew, World.frozen?_drew]); (repeat' apply And.intro) <;> (first | (with_reducible assumption) | (with_reducible exact ⟨_, by assumption⟩) | (with_reducible exact ⟨_, two_other (by assumption) (by omega)⟩) | (with_reducible exact two_0 (by assumption)) | (with_reducible exact two_1 (by assumption)) | (with_reducible exact two_other (by assumption) (by omega)) | (with_reducible exact two_fz (by assumption)) | (with_reducible exact keepA _ (by assumption)) | (with_reducible exact keepA _ (keepA _ (keepA _ (by assumption)))) | (simp (maxDischargeDepth := 8) [*, go_sem, World.cell?_alloc_some, World.cell?_setCell_far]; done))) | (go_keep; done) | (simp (maxDischargeDepth := 8) [*, go_sem, World.cell?_alloc_some, World.cell?_setCell_far]; done)))); clear hK K hOld; (try clear hc1 hf1); (try clear hk1 hf1)) | (refine wpAnyH_take (i := 10) (oi := ⟨some 137, _, _, _, _, some (3, false)⟩) (v := undef) rfl (by kernel_rfl) (by kernel_rfl) (by kernel_rfl) (fun _ _ _ h => h) (Or.inr ⟨by rfl, rfl⟩) hHeld ?_))
        (try simp only [Act.put, List.setIfInBounds_toArray, List.set_cons_zero, List.set_cons_succ])
        (first | (refine wpAnyH_ready (rs := [12]) (by kernel_rfl) (by simp) ?_; refine AllReadyH.cons (o := ⟨some 139, _, _, _, _, some (3, false)⟩) rfl (fun K hK => ?_) AllReadyH.nil; go_simp; (first | (go_at_call 38; ((with_reducible refine useF w (t4.out _) ?_ ?_); (· go_grown); rintro e w1 rfl hB1 hk1 hf1 hs1; have hz1 := hB1.size)) | (go_at_call 38; ((with_reducible refine useF w (t4w.out _) ?_ ?_); (· go_grown); rintro e w1 rfl hB1 hk1 hf1 hs1; have hz1 := hB1.size)) | (go_at_call 38; ((with_reducible refine useF w (t4x.out _) ?_ ?_); (· go_grown); rintro e w1 rfl hB1 hk1 hf1 hs1; have hz1 := hB1.size)) | (go_at_call 40; refine useF w (l4.out _) (by go_grown) ?_; rintro e w1 rfl hB1 hk1 hf1 hs1; have hz1 := hB1.size)); have hOld := hHeld; clear hHeld; refine hK.out _ _ ?_ (fun hHeld => ?_); (· ((try dsimp only); (first | (exact ⟨hk1 _ _ _ (hOld.1), hk1 _ _ _ (hOld.2.1), hk1 _ _ _ (hOld.2.2.1), hk1 _ _ _ (hOld.2.2.2.1), hk1 _ _ _ (hOld.2.2.2.2.1), hk1 _ _ _ (hOld.2.2.2.2.2)⟩) | ((try simp only [World.cell?_drew, World.frozen?_drew]); (repeat' apply And.intro) <;> (first | (with_reducible assumption) | (with_reducible exact ⟨_, by assumption⟩) | (with_reducible exact ⟨_, two_other (by assumption) (by omega)⟩) | (with_reducible exact two_0 (by assumption)) | (with_reducible exact two_1 (by assumption)) | (with_reducible exact two_other (by assumption) (by omega)) | (with_reducible exact two_fz (by assumption)) | (with_reducible exact keepA _ (by assumption)) | (with_reducible exact keepA _ (keepA _ (keepA _ (by assumption)))) | (simp (maxDischargeDepth := 8) [*, go_sem, World.cell?_alloc_some, World.cell?_setCell_far]; done))) | (go_keep; done) | (simp (maxDischargeDepth := 8) [*, go_sem, World.cell?_alloc_some, World.cell?_setCell_far]; done)))); clear hK K hOld; (try clear hc1 hf1); (try clear hk1 hf1)) | (refine wpAnyH_take (i := 12) (oi := ⟨some 139, _, _, _, _, some (3, false)⟩) (v := undef) rfl (by kernel_rfl) (by kernel_rfl) (by kernel_rfl) (fun _ _ _ h => h) (Or.inr ⟨by rfl, rfl⟩) hHeld ?_))
        (try simp only [Act.put, List.setIfInBounds_toArray, List.set_cons_zero, List.set_cons_succ])
        (refine wpAnyH_take (i := 13) (oi := ⟨some 140, _, _, _, _, none⟩) (v := ?_) rfl (by kernel_rfl) (by kernel_rfl) (by kernel_rfl) (fun _ _ _ h => h) (Or.inl ⟨by rfl, ?_⟩) hHeld ?_; rotate_left; (· (intro w9 hSw; (try dsimp only at hSw); go_simp; (try with_reducible rfl))))
        (try simp only [Act.put, List.setIfInBounds_toArray, List.set_cons_zero, List.set_cons_succ])
        (refine wpAnyH_take (i := 14) (oi := ⟨some 23, _, _, _, _, none⟩) (v := ?_) rfl (by kernel_rfl) (by kernel_rfl) (by kernel_rfl) (fun _ _ _ h => h) (Or.inl ⟨by rfl, ?_⟩) hHeld ?_; rotate_left; (· (intro w9 hSw; (try dsimp only at hSw); go_simp; (try with_reducible rfl))))
        (try simp only [Act.put, List.setIfInBounds_toArray, List.set_cons_zero, List.set_cons_succ])
        refine wpAnyH_done (by kernel_rfl) ?_ _
        go_wp2_with fail
        go_ret
        exact ⟨rfl, by go_grown⟩
    · have cd : decide (ah < 0) = true := decide_eq_true hn
      clear hn hrt hrb
      go_wp2_with fail
      refine useF w (g2.out _) (by go_grown) ?_; rintro e w61 rfl hB61 hk61 hf61 hs61; clear hs61
      replace fa0 : w61.cell? ⟨w.heap.size, 0, none⟩ = some (.int .i64 al) := hk61 _ _ _ (fa0)
      replace fa1 : w61.cell? ⟨w.heap.size, 1, none⟩ = some (.int .i64 ah) := hk61 _ _ _ (fa1)
      (try clear fab); have fab : w.heap.size < w61.heap.size := World.block_lt_of_cell? w61 ⟨w.heap.size, 0, none⟩ fa0
      clear hk61 hf61
      go_wp2_with fail
      go_ret
      exact ⟨rfl, by go_grown⟩
theorem tight_err (al ah bl bh pl ph er : Int) (w : World) (he : (er != 0) = true)
    (g1 : Hid (∀ w : World, Calls Tryd.prog 34 #[.agg #[.int .i64 al, .int .i64 ah], .agg #[.int .i64 bl, .int .i64 bh]] w fun e w' => e = .returned (.tuple #[.agg #[.int .i64 pl, .int .i64 ph], .int .i64 er]) ∧ Below w.heap.size w w')) :
    Calls Tryd.prog 6 #[.agg #[.int .i64 al, .int .i64 ah], .agg #[.int .i64 bl, .int .i64 bh]] w fun e w' => e = .returned (.bool true) ∧ Below w.heap.size w w' := by
  go_enter Tryd.func6, Tryd.ntmps6
  go_wp2_with fail
  refine useK w (alive_any _) (by go_grown) ?_; rintro e w1 rfl hB1 hk1 hs1
  replace p00 : w1.cell? ⟨w.heap.size, 0, none⟩ = some (.int .i64 al) := hk1 _ _ _ (by simp [go_sem])
  replace p01 : w1.cell? ⟨w.heap.size, 1, none⟩ = some (.int .i64 ah) := hk1 _ _ _ (by simp [go_sem])
  replace p10 : w1.cell? ⟨w.heap.size + 1, 0, none⟩ = some (.int .i64 bl) := hk1 _ _ _ (by simp [go_sem])
  replace p11 : w1.cell? ⟨w.heap.size + 1, 1, none⟩ = some (.int .i64 bh) := hk1 _ _ _ (by simp [go_sem])
  have bp00 : w.heap.size < w1.heap.size := World.block_lt_of_cell? w1 ⟨w.heap.size, 0, none⟩ p00
  have bp10 : w.heap.size + 1 < w1.heap.size := World.block_lt_of_cell? w1 ⟨w.heap.size + 1, 0, none⟩ p10
  clear hk1
  go_wp2_with fail
  refine useK w (g1.out _) (by go_grown) ?_; rintro e w2 rfl hB2 hk2 hs2
  replace p00 : w2.cell? ⟨w.heap.size, 0, none⟩ = some (.int .i64 al) := hk2 _ _ _ (p00)
  replace p01 : w2.cell? ⟨w.heap.size, 1, none⟩ = some (.int .i64 ah) := hk2 _ _ _ (p01)
  replace p10 : w2.cell? ⟨w.heap.size + 1, 0, none⟩ = some (.int .i64 bl) := hk2 _ _ _ (p10)
  replace p11 : w2.cell? ⟨w.heap.size + 1, 1, none⟩ = some (.int .i64 bh) := hk2 _ _ _ (p11)
  have bp00 : w.heap.size < w2.heap.size := World.block_lt_of_cell? w2 ⟨w.heap.size, 0, none⟩ p00
  have bp10 : w.heap.size + 1 < w2.heap.size := World.block_lt_of_cell? w2 ⟨w.heap.size + 1, 0, none⟩ p10
  clear hk2
  go_wp2_with fail
  go_ret
  exact ⟨rfl, by go_grown⟩
theorem lawTight_any (al ah bl bh : Int) (w : World) (h : (-9223372036854775808 ≤ al ∧ al ≤ 9223372036854775807) ∧ (-9223372036854775808 ≤ ah ∧ ah ≤ 9223372036854775807) ∧ (-9223372036854775808 ≤ bl ∧ bl ≤ 9223372036854775807) ∧ (-9223372036854775808 ≤ bh ∧ bh ≤ 9223372036854775807)) :
    Calls Tryd.prog 6 #[.agg #[.int .i64 al, .int .i64 ah], .agg #[.int .i64 bl, .int .i64 bh]] w fun e w' => e = .returned (.bool true) ∧ Below w.heap.size w w' := by
  rcases both_cases al ah bl bh with ⟨hb, e1, e2, k1, k2, k3, k4⟩ | hb
  · obtain ⟨pl, ph, e, q, v, r⟩ := mul_cases al ah bl bh hb
    rcases r with ⟨rfl, _, r1, r2⟩ | rfl
    · obtain ⟨rl, rh, er, q6, v6, r6⟩ := root_cases al ah e1 (by omega)
      refine tight_go al ah bl bh pl ph rl rh er w h v v6 (fun w => by have := mul_any al ah bl bh w h; rw [q] at this; exact this)
        (fun w => by have := root_any al ah w (by omega); rw [q6] at this; exact this) (low_any r1) (high_any (by omega)) ?_
      rcases r6 with ⟨rfl, ⟨m1, _⟩, m2, m3⟩ | ⟨rfl, m⟩
      · exact Or.inl ⟨rfl, m1, m2, m3⟩
      · exact Or.inr ⟨rfl, m⟩
    · exact tight_err al ah bl bh pl ph 4 w rfl (fun w => by have := mul_any al ah bl bh w h; rw [q] at this; exact this)
  · have q : mulS al ah bl bh = (0, 0, 2) := if_neg (by omega)
    exact tight_err al ah bl bh 0 0 2 w rfl (fun w => by have := mul_any al ah bl bh w h; rw [q] at this; exact this)
end Go.Proofs.YtjleflfncijnpaaDoor
