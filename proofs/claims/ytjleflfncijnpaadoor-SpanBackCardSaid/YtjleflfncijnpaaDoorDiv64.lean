/- math/bits.Div64: the quotient and the rest. -/
import Derived.Test.YtjleflfncijnpaaDoorRows
import Derived.Test.YtjleflfncijnpaaDoorBase
import Derived.Test.YtjleflfncijnpaaDoorFacts
import Derived.Test.YtjleflfncijnpaaDoorTwo
import Derived.Deep.RegionHeld3
import Derived.Deep.RegionWith
import Derived.Deep.QuietTactic
import Derived.BigQuiet
import Derived.Test.YtjleflfncijnpaaDoorShelf
import Derived.Test.YtjleflfncijnpaaDoorDivMath
set_option linter.unusedVariables false
set_option linter.unusedSimpArgs false
set_option maxHeartbeats 4000000
set_option maxRecDepth 100000
namespace Go.Proofs.YtjleflfncijnpaaDoor
open Go Go.RowKit
theorem Below.drewN (w : World) (n : Nat) : Below w.heap.size w (w.drewN n) := ⟨rfl, rfl, rfl, Nat.le_refl _, fun _ _ => rfl⟩
theorem div64_any (hi lo y : Int) (w : World) (h : (0 ≤ hi ∧ hi ≤ 18446744073709551615) ∧ (0 ≤ lo ∧ lo ≤ 18446744073709551615) ∧ (0 ≤ y ∧ y ≤ 18446744073709551615)) (hy : hi < y) :
    Calls Tryd.prog 94 #[.int .u64 hi, .int .u64 lo, .int .u64 y] w fun e w' => e = .returned (.tuple #[.int .u64 ((hi * 18446744073709551616 + lo) / y), .int .u64 ((hi * 18446744073709551616 + lo) % y)]) ∧ Below w.heap.size w w' := by
  obtain ⟨⟨a1, a2⟩, ⟨b1, b2⟩, c1, c2⟩ := h
  by_cases h0 : hi = 0
  · subst h0
    go_enter Tryd.func94, Tryd.ntmps94
    go_wp2
    go_quiet (fail)
    go_wp2
    go_ret2
    exact ⟨by simp, Below.drewN _ _⟩
  · have n0 : (y == 0) = false := by simp; omega
    have n1 : (hi == 0) = false := by simp; omega
    obtain ⟨s, hs, hL, y1, y2⟩ := lz_shift y (by omega) c2
    have hp : (0 : Int) < 2 ^ s := by have := Nat.two_pow_pos s; have q3 : ((2 : Int) ^ s) = ((2 ^ s : Nat) : Int) := by simp
                                      omega
    have hi1 : hi * 2 ^ s < y * 2 ^ s := Int.mul_lt_mul_of_pos_right hy hp
    have hi0 : 0 ≤ hi * 2 ^ s := Int.mul_nonneg a1 (by omega)
    obtain ⟨u1, u2, u3, _, u5⟩ := up_word hi lo s hs a1 (by omega) b1 b2
    have hm1 : min s 64 = s := by omega
    have hm2 : min (64 - s) 64 = 64 - s := by omega
    have u5 := hid u5
    have lo0 : 0 ≤ lo * 2 ^ s := Int.mul_nonneg b1 (by omega)
    have s0 : (s : Int) ≤ 63 := by omega
    have uY : hi * 2 ^ s + lo / 2 ^ (64 - s) < y * 2 ^ s := by
      have := Int.mul_le_mul_of_nonneg_right (show hi + 1 ≤ y by omega) (Int.le_of_lt hp)
      rw [Int.add_mul, Int.one_mul] at this; omega
    have eW : IntKind.u64.wrap (lo * 2 ^ s) = lo * 2 ^ s % 18446744073709551616 := IntKind.wrap_u64 _
    have m1 := mask_low (y * 2 ^ s) (by omega) y2
    have m2 := mask_low (lo * 2 ^ s % 18446744073709551616) (by omega) (by omega)
    obtain ⟨d1, d2, d3, d4, d5, d6, d7⟩ := dig_start (y * 2 ^ s) (hi * 2 ^ s + lo / 2 ^ (64 - s)) (lo * 2 ^ s % 18446744073709551616 / 4294967296) y1 y2 (by omega) uY (by omega) (by omega)
    have d7 := hid d7
    go_enter Tryd.func94, Tryd.ntmps94
    go_wp2_with (go_at_call 113; refine (Tryd.bits_LeadingZeros64 y _ (by omega) (by omega)).mono ?_; rintro e w1 ⟨rfl, rfl⟩)
    clear u1 hL hm1 hm2 hi1 eW m1 m2
    have v5 := u5.out
    clear u5
    have v7 := d7.out
    clear d7
    have u0 : 0 ≤ hi * 2 ^ s + lo / 2 ^ (64 - s) := by omega
    have l1 : 0 ≤ lo * 2 ^ s % 18446744073709551616 := by omega
    have l2 : lo * 2 ^ s % 18446744073709551616 < 18446744073709551616 := by omega
    rw [show lo * 2 ^ s % 4294967296 = lo * 2 ^ s % 18446744073709551616 % 4294967296 from by omega]
    generalize hi * 2 ^ s + lo / 2 ^ (64 - s) = u at *
    generalize hY : y * 2 ^ s = Y at *
    generalize lo * 2 ^ s % 18446744073709551616 = L at *
    have u5 := hid v5
    clear v5
    have d7 := hid v7
    clear v7
    have HY := hid hY
    clear hY
    go_loop [15, 16] (fun a b => ∃ q r : Int, a = .int .u64 q ∧ b = .int .u64 r ∧ 0 ≤ q ∧ q ≤ 4294967297 ∧ 0 ≤ r ∧ r < 4294967296 ∧ Hid (r + q * (Y / 4294967296) = u) ∧ Hid (u * 4294967296 + L / 4294967296 < (q + 1) * Y)) (fun a _ => (intOf a).toNat)
    case atStart => exact ⟨_, _, rfl, rfl, d1, d2, d3, by omega, hid (by omega), d7⟩
    case round =>
      obtain ⟨q, r, rfl, rfl, q0, q1, r0, r1, hr, ht⟩ := hrel
      have k1 := mul_bd (x := q) (y := Y % 4294967296) (a := 4294967297) (b := 4294967295) ⟨q0, q1⟩ (by omega)
      simp only [Int.reduceMul] at k1
      clear d1 d2 d3 d4 d5 d6 d7
      by_cases hc : 4294967296 ≤ q ∨ 4294967296 * r + L / 4294967296 < q * (Y % 4294967296)
      · obtain ⟨t1, t2⟩ := dig_more Y u (L / 4294967296) q y1 y2 u0 uY (by omega) (by omega) q0 r hr.out hc
        have t1 := hid t1
        have e1 := hid (show r + Y / 4294967296 + (q - 1) * (Y / 4294967296) = u by have := hr.out; rw [Int.sub_mul, Int.one_mul]; omega)
        by_cases hb : r + Y / 4294967296 < 4294967296
        · rcases (by omega : 4294967296 ≤ q ∨ (q < 4294967296 ∧ 4294967296 * r + L / 4294967296 < q * (Y % 4294967296))) with hd | ⟨hd, he⟩
          all_goals
            clear hc
            go_wp2
            go_round
            case rel => exact ⟨_, _, rfl, rfl, by omega, by omega, by omega, hb, e1, t1⟩
            case measure => simp [intOf]; omega
        · obtain ⟨de1, de2, de3⟩ := dig_end Y u (L / 4294967296) (q - 1) y1 y2 u0 uY (by omega) (by omega) (by omega) _ e1.out (Or.inr ⟨by omega, by omega⟩)
          have tt := t1.out
          rw [Int.add_mul (q - 1), Int.one_mul] at tt
          have e21 := un_wrap u (L / 4294967296) ((q - 1) * Y) (by omega) (by omega)
          rcases (by omega : 4294967296 ≤ q ∨ (q < 4294967296 ∧ 4294967296 * r + L / 4294967296 < q * (Y % 4294967296))) with hd | ⟨hd, he⟩
          all_goals
            clear hc
            obtain ⟨g1, g2, g3, g4, g5, g6, g7⟩ := dig_start Y (u * 4294967296 + L / 4294967296 - (q - 1) * Y) (L % 4294967296) y1 y2 (by omega) (by omega) (by omega) (by omega)
            have g7 := hid g7
            go_wp2
            have e21 := hid e21
            have v0 : 0 ≤ u * 4294967296 + L / 4294967296 - (q - 1) * Y := by omega
            have v1 : u * 4294967296 + L / 4294967296 - (q - 1) * Y < Y := by omega
            clear de1 de3 tt
            generalize hv : u * 4294967296 + L / 4294967296 - (q - 1) * Y = v at *
            have Hv := hid hv
            clear hv
            go_loop [18, 16] (fun a b => ∃ q r : Int, a = .int .u64 q ∧ b = .int .u64 r ∧ 0 ≤ q ∧ q ≤ 4294967297 ∧ 0 ≤ r ∧ r < 4294967296 ∧ Hid (r + q * (Y / 4294967296) = v) ∧ Hid (v * 4294967296 + L % 4294967296 < (q + 1) * Y)) (fun a _ => (intOf a).toNat)
            case atStart => exact ⟨_, _, rfl, rfl, g1, g2, g3, by omega, hid (by omega), g7⟩
            case round =>
              obtain ⟨z, x, rfl, rfl, z0, z1, x0, x1, hx, hz⟩ := hrel
              have k2 := mul_bd (x := z) (y := Y % 4294967296) (a := 4294967297) (b := 4294967295) ⟨z0, z1⟩ (by omega)
              simp only [Int.reduceMul] at k2
              clear g1 g2 g3 g4 g5 g6 g7
              by_cases hc : 4294967296 ≤ z ∨ 4294967296 * x + L % 4294967296 < z * (Y % 4294967296)
              · obtain ⟨t1, t2⟩ := dig_more Y v (L % 4294967296) z y1 y2 v0 v1 (by omega) (by omega) z0 x hx.out hc
                have t1 := hid t1
                have e1 := hid (show x + Y / 4294967296 + (z - 1) * (Y / 4294967296) = v by have := hx.out; rw [Int.sub_mul, Int.one_mul]; omega)
                by_cases hb : x + Y / 4294967296 < 4294967296
                · rcases (by omega : 4294967296 ≤ z ∨ (z < 4294967296 ∧ 4294967296 * x + L % 4294967296 < z * (Y % 4294967296))) with hd | ⟨hd, he⟩
                  all_goals
                    clear hc
                    go_wp2
                    go_round
                    case rel => exact ⟨_, _, rfl, rfl, by omega, by omega, by omega, hb, e1, t1⟩
                    case measure => simp [intOf]; omega
                · obtain ⟨de1, de2, de3⟩ := dig_end Y v (L % 4294967296) (z - 1) y1 y2 v0 v1 (by omega) (by omega) (by omega) _ e1.out (Or.inr ⟨by omega, by omega⟩)
                  have hf := hid (div_two (hi * 18446744073709551616 + lo) y u L (q - 1) (z - 1) Y s hp (by omega) HY.out u5.out (by rw [Hv.out]; exact t1.out) (by rw [Hv.out]; exact de1))
                  have tt := t1.out
                  rw [Int.add_mul (z - 1), Int.one_mul] at tt
                  have e22 := un_wrap v (L % 4294967296) ((z - 1) * Y) (by omega) (by omega)
                  rcases (by omega : 4294967296 ≤ z ∨ (z < 4294967296 ∧ 4294967296 * x + L % 4294967296 < z * (Y % 4294967296))) with hd | ⟨hd, he⟩
                  all_goals
                    clear hc
                    go_wp2
                    go_ret2
                    refine ⟨?_, Below.refl _ _⟩
                    rw [Hv.out] at hf
                    rw [← hf.out.1, ← hf.out.2]
                    simp [e22]
              · obtain ⟨de1, de2, de3⟩ := dig_end Y v (L % 4294967296) z y1 y2 v0 v1 (by omega) (by omega) (by omega) _ hx.out (Or.inl (by omega))
                have hf := hid (div_two (hi * 18446744073709551616 + lo) y u L (q - 1) z Y s hp (by omega) HY.out u5.out (by rw [Hv.out]; exact hz.out) (by rw [Hv.out]; exact de1))
                have tt := hz.out
                rw [Int.add_mul, Int.one_mul] at tt
                have e22 := un_wrap v (L % 4294967296) (z * Y) (by omega) (by omega)
                have hd : z < 4294967296 := by omega
                have he : z * (Y % 4294967296) ≤ 4294967296 * x + L % 4294967296 := by omega
                clear hc
                go_wp2
                go_ret2
                refine ⟨?_, Below.refl _ _⟩
                rw [Hv.out] at hf
                rw [← hf.out.1, ← hf.out.2]
                simp [e22]
      · obtain ⟨de1, de2, de3⟩ := dig_end Y u (L / 4294967296) q y1 y2 u0 uY (by omega) (by omega) (by omega) _ hr.out (Or.inl (by omega))
        have tt := ht.out
        rw [Int.add_mul, Int.one_mul] at tt
        have e21 := un_wrap u (L / 4294967296) (q * Y) (by omega) (by omega)
        have hd : q < 4294967296 := by omega
        have he : q * (Y % 4294967296) ≤ 4294967296 * r + L / 4294967296 := by omega
        clear hc
        obtain ⟨g1, g2, g3, g4, g5, g6, g7⟩ := dig_start Y (u * 4294967296 + L / 4294967296 - q * Y) (L % 4294967296) y1 y2 (by omega) (by omega) (by omega) (by omega)
        have g7 := hid g7
        go_wp2
        have e21 := hid e21
        have v0 : 0 ≤ u * 4294967296 + L / 4294967296 - q * Y := by omega
        have v1 : u * 4294967296 + L / 4294967296 - q * Y < Y := by omega
        clear de1 de3 tt
        generalize hv : u * 4294967296 + L / 4294967296 - q * Y = v at *
        have Hv := hid hv
        clear hv
        go_loop [18, 16] (fun a b => ∃ q r : Int, a = .int .u64 q ∧ b = .int .u64 r ∧ 0 ≤ q ∧ q ≤ 4294967297 ∧ 0 ≤ r ∧ r < 4294967296 ∧ Hid (r + q * (Y / 4294967296) = v) ∧ Hid (v * 4294967296 + L % 4294967296 < (q + 1) * Y)) (fun a _ => (intOf a).toNat)
        case atStart => exact ⟨_, _, rfl, rfl, g1, g2, g3, by omega, hid (by omega), g7⟩
        case round =>
          obtain ⟨z, x, rfl, rfl, z0, z1, x0, x1, hx, hz⟩ := hrel
          have k2 := mul_bd (x := z) (y := Y % 4294967296) (a := 4294967297) (b := 4294967295) ⟨z0, z1⟩ (by omega)
          simp only [Int.reduceMul] at k2
          clear g1 g2 g3 g4 g5 g6 g7
          by_cases hc : 4294967296 ≤ z ∨ 4294967296 * x + L % 4294967296 < z * (Y % 4294967296)
          · obtain ⟨t1, t2⟩ := dig_more Y v (L % 4294967296) z y1 y2 v0 v1 (by omega) (by omega) z0 x hx.out hc
            have t1 := hid t1
            have e1 := hid (show x + Y / 4294967296 + (z - 1) * (Y / 4294967296) = v by have := hx.out; rw [Int.sub_mul, Int.one_mul]; omega)
            by_cases hb : x + Y / 4294967296 < 4294967296
            · rcases (by omega : 4294967296 ≤ z ∨ (z < 4294967296 ∧ 4294967296 * x + L % 4294967296 < z * (Y % 4294967296))) with hd | ⟨hd, he⟩
              all_goals
                clear hc
                go_wp2
                go_round
                case rel => exact ⟨_, _, rfl, rfl, by omega, by omega, by omega, hb, e1, t1⟩
                case measure => simp [intOf]; omega
            · obtain ⟨de1, de2, de3⟩ := dig_end Y v (L % 4294967296) (z - 1) y1 y2 v0 v1 (by omega) (by omega) (by omega) _ e1.out (Or.inr ⟨by omega, by omega⟩)
              have hf := hid (div_two (hi * 18446744073709551616 + lo) y u L q (z - 1) Y s hp (by omega) HY.out u5.out (by rw [Hv.out]; exact t1.out) (by rw [Hv.out]; exact de1))
              have tt := t1.out
              rw [Int.add_mul (z - 1), Int.one_mul] at tt
              have e22 := un_wrap v (L % 4294967296) ((z - 1) * Y) (by omega) (by omega)
              rcases (by omega : 4294967296 ≤ z ∨ (z < 4294967296 ∧ 4294967296 * x + L % 4294967296 < z * (Y % 4294967296))) with hd | ⟨hd, he⟩
              all_goals
                clear hc
                go_wp2
                go_ret2
                refine ⟨?_, Below.refl _ _⟩
                rw [Hv.out] at hf
                rw [← hf.out.1, ← hf.out.2]
                simp [e22]
          · obtain ⟨de1, de2, de3⟩ := dig_end Y v (L % 4294967296) z y1 y2 v0 v1 (by omega) (by omega) (by omega) _ hx.out (Or.inl (by omega))
            have hf := hid (div_two (hi * 18446744073709551616 + lo) y u L q z Y s hp (by omega) HY.out u5.out (by rw [Hv.out]; exact hz.out) (by rw [Hv.out]; exact de1))
            have tt := hz.out
            rw [Int.add_mul, Int.one_mul] at tt
            have e22 := un_wrap v (L % 4294967296) (z * Y) (by omega) (by omega)
            have hd : z < 4294967296 := by omega
            have he : z * (Y % 4294967296) ≤ 4294967296 * x + L % 4294967296 := by omega
            clear hc
            go_wp2
            go_ret2
            refine ⟨?_, Below.refl _ _⟩
            rw [Hv.out] at hf
            rw [← hf.out.1, ← hf.out.2]
            simp [e22]
end Go.Proofs.YtjleflfncijnpaaDoor
