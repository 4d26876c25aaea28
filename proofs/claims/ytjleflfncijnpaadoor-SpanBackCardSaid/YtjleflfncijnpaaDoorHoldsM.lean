/- Sums, differences, products, quotients, squares and roots of numbers of two spans lie in what the operations give; and nothing narrower has the products' corners. Plain numbers: nothing of the program is named here. -/
import Derived.Test.YtjleflfncijnpaaDoorRows
import Derived.Test.YtjleflfncijnpaaDoorBase
import Derived.Test.YtjleflfncijnpaaDoorFacts
import Derived.Test.YtjleflfncijnpaaDoorTwo
import Derived.Deep.RegionHeld3
import Derived.Deep.RegionWith
import Derived.Deep.QuietTactic
import Derived.BigQuiet
import Derived.Test.YtjleflfncijnpaaDoorQuo
import Derived.Test.YtjleflfncijnpaaDoorRound
import Derived.Test.YtjleflfncijnpaaDoorScaleM
import Derived.Test.YtjleflfncijnpaaDoorMul
import Derived.Test.YtjleflfncijnpaaDoorMulR
import Derived.Test.YtjleflfncijnpaaDoorRootM
import Derived.Test.YtjleflfncijnpaaDoorRootT
import Derived.Test.YtjleflfncijnpaaDoorPicks
import Derived.Test.YtjleflfncijnpaaDoorRatioR
import Derived.Test.YtjleflfncijnpaaDoorDivR
import Derived.Test.YtjleflfncijnpaaDoorSums
set_option linter.unusedVariables false
set_option linter.unusedSimpArgs false
set_option maxHeartbeats 4000000
set_option maxRecDepth 100000
namespace Go.Proofs.YtjleflfncijnpaaDoor
open Go Go.RowKit
theorem fit_cases (lo hi : Int) : (fitS lo hi = (lo, hi, 0) ∧ ((-9223372036854775807 ≤ lo ∧ lo ≤ 9223372036854775807) ∧ (-9223372036854775807 ≤ hi ∧ hi ≤ 9223372036854775807))) ∨ fitS lo hi = (0, 0, 4) := by
  unfold fitS
  split
  · exact Or.inl ⟨rfl, by omega⟩
  · exact Or.inr rfl
theorem lin_between {c u v y : Int} (h : u ≤ y ∧ y ≤ v) : min (c * u) (c * v) ≤ c * y ∧ c * y ≤ max (c * u) (c * v) := by
  by_cases hc : 0 ≤ c
  · have h1 := Int.mul_le_mul_of_nonneg_left h.1 hc
    have h2 := Int.mul_le_mul_of_nonneg_left h.2 hc
    omega
  · have h1 := Int.mul_le_mul_of_nonneg_left h.1 (show 0 ≤ -c by omega)
    have h2 := Int.mul_le_mul_of_nonneg_left h.2 (show 0 ≤ -c by omega)
    simp only [Int.neg_mul] at h1 h2
    omega
theorem pK_holds {al ah bl bh x y : Int} (hx : al ≤ x ∧ x ≤ ah) (hy : bl ≤ y ∧ y ≤ bh) : mnK (pK al ah bl bh) 4 ≤ x * y ∧ x * y ≤ mxK (pK al ah bl bh) 4 := by
  rw [mn4_val, mx4_val]
  show min (min (min (al * bl) (al * bh)) (ah * bl)) (ah * bh) ≤ x * y ∧ x * y ≤ max (max (max (al * bl) (al * bh)) (ah * bl)) (ah * bh)
  have h1 := lin_between (c := al) hy
  have h2 := lin_between (c := ah) hy
  have h3 := lin_between (c := y) hx
  rw [Int.mul_comm y al, Int.mul_comm y ah, Int.mul_comm y x] at h3
  omega
/-- A product: the result has a number if the exact one lies between. -/
def mulP (al ah bl bh lo hi : Int) : Prop := ∀ x y : Int, al ≤ x ∧ x ≤ ah → bl ≤ y ∧ y ≤ bh → lo * 4294967296 ≤ x * y ∧ x * y ≤ hi * 4294967296
theorem mul_cases (al ah bl bh : Int) (hb : bothS al ah bl bh = 0) : ∃ lo hi e, mulS al ah bl bh = (lo, hi, e) ∧ ((-9223372036854775807 ≤ lo ∧ lo ≤ 9223372036854775807) ∧ (-9223372036854775807 ≤ hi ∧ hi ≤ 9223372036854775807)) ∧ ((e = 0 ∧ mulP al ah bl bh lo hi ∧ mnK (pK al ah bl bh) 4 < lo * 4294967296 + 4294967296 ∧ hi * 4294967296 - 4294967296 < mxK (pK al ah bl bh) 4) ∨ e = 4) := by
  have hm : mulS al ah bl bh = _ := (if_pos hb).trans (mul_fit al ah bl bh)
  rcases fit_cases (mnK (pK al ah bl bh) 4 / 4294967296) (-(-mxK (pK al ah bl bh) 4 / 4294967296)) with ⟨h, hv⟩ | h
  · refine ⟨_, _, _, hm.trans h, hv, Or.inl ⟨rfl, fun x y hx hy => ?_, ?_, ?_⟩⟩
    · have := pK_holds hx hy
      constructor <;> omega
    · omega
    · omega
  · exact ⟨_, _, _, hm.trans h, by omega, Or.inr rfl⟩
theorem add_cases (al ah bl bh : Int) (hb : bothS al ah bl bh = 0) : ∃ lo hi e, addS al ah bl bh = (lo, hi, e) ∧ ((-9223372036854775807 ≤ lo ∧ lo ≤ 9223372036854775807) ∧ (-9223372036854775807 ≤ hi ∧ hi ≤ 9223372036854775807)) ∧ ((e = 0 ∧ lo = al + bl ∧ hi = ah + bh) ∨ e = 4) := by
  have hm : addS al ah bl bh = _ := if_pos hb
  rcases fit_cases (al + bl) (ah + bh) with ⟨h, hv⟩ | h
  · exact ⟨_, _, _, hm.trans h, hv, Or.inl ⟨rfl, rfl, rfl⟩⟩
  · exact ⟨_, _, _, hm.trans h, by omega, Or.inr rfl⟩
theorem sub_cases (al ah bl bh : Int) (hb : bothS al ah bl bh = 0) : ∃ lo hi e, subS al ah bl bh = (lo, hi, e) ∧ ((-9223372036854775807 ≤ lo ∧ lo ≤ 9223372036854775807) ∧ (-9223372036854775807 ≤ hi ∧ hi ≤ 9223372036854775807)) ∧ ((e = 0 ∧ lo = al - bh ∧ hi = ah - bl) ∨ e = 4) := by
  have hm : subS al ah bl bh = _ := if_pos hb
  rcases fit_cases (al - bh) (ah - bl) with ⟨h, hv⟩ | h
  · exact ⟨_, _, _, hm.trans h, hv, Or.inl ⟨rfl, rfl, rfl⟩⟩
  · exact ⟨_, _, _, hm.trans h, by omega, Or.inr rfl⟩
def squareP (al ah lo hi : Int) : Prop := ∀ x : Int, al ≤ x ∧ x ≤ ah → lo * 4294967296 ≤ x * x ∧ x * x ≤ hi * 4294967296
theorem square_cases (al ah : Int) (hb : chk al ah = 0) (h0 : -9223372036854775807 ≤ al ∧ al ≤ ah) : ∃ lo hi e, squareS al ah = (lo, hi, e) ∧ ((-9223372036854775807 ≤ lo ∧ lo ≤ 9223372036854775807) ∧ (-9223372036854775807 ≤ hi ∧ hi ≤ 9223372036854775807)) ∧ ((e = 0 ∧ squareP al ah lo hi) ∨ e = 4) := by
  have hm : squareS al ah = _ := if_pos hb
  have ha : ∀ x : Int, al ≤ x ∧ x ≤ ah → 0 ≤ (absS al ah).1 ∧ ((absS al ah).1 ≤ x ∧ x ≤ (absS al ah).2.1 ∨ (absS al ah).1 ≤ -x ∧ -x ≤ (absS al ah).2.1) := fun x hx => by
    unfold absS
    rw [if_pos hb]
    split
    · dsimp only; omega
    · split
      · dsimp only; omega
      · dsimp only; omega
  rcases fit_cases ((absS al ah).1 * (absS al ah).1 / 4294967296) (-(-((absS al ah).2.1 * (absS al ah).2.1) / 4294967296)) with ⟨h, hv⟩ | h
  · refine ⟨_, _, _, hm.trans h, hv, Or.inl ⟨rfl, fun x hx => ?_⟩⟩
    have key : (absS al ah).1 * (absS al ah).1 ≤ x * x ∧ x * x ≤ (absS al ah).2.1 * (absS al ah).2.1 := by
      obtain ⟨g0, ⟨g1, g2⟩ | ⟨g1, g2⟩⟩ := ha x hx
      · exact ⟨sq_le g0 g1, sq_le (by omega) g2⟩
      · have k1 := sq_le g0 g1
        have k2 := sq_le (show 0 ≤ -x by omega) g2
        rw [Int.neg_mul_neg] at k1 k2
        exact ⟨k1, k2⟩
    constructor <;> omega
  · exact ⟨_, _, _, hm.trans h, by omega, Or.inr rfl⟩
def divP (al ah bl bh lo hi : Int) : Prop := ∀ x y : Int, al ≤ x ∧ x ≤ ah → bl ≤ y ∧ y ≤ bh → (0 < y → lo * y ≤ x * 4294967296 ∧ x * 4294967296 ≤ hi * y) ∧ (y < 0 → hi * y ≤ x * 4294967296 ∧ x * 4294967296 ≤ lo * y) ∧ y ≠ 0
theorem dn_spec (p d : Int) (hd : d ≠ 0) : (0 < d → dnQ p d * d ≤ p) ∧ (d < 0 → p ≤ dnQ p d * d) := by
  unfold dnQ
  constructor
  · intro h
    rw [if_neg (by omega)]
    exact Int.ediv_mul_le p (by omega)
  · intro h
    rw [if_pos h]
    have := Int.ediv_mul_le (-p) (show -d ≠ 0 by omega)
    rw [Int.mul_neg] at this
    omega
theorem up_spec (p d : Int) (hd : d ≠ 0) : (0 < d → p ≤ upQ p d * d) ∧ (d < 0 → upQ p d * d ≤ p) := by
  obtain ⟨h1, h2⟩ := dn_spec (-p) d hd
  unfold upQ
  rw [Int.neg_mul]
  exact ⟨fun h => by have := h1 h; omega, fun h => by have := h2 h; omega⟩
theorem du_min (p : Nat → Int) : mnK p 4 ≤ p 0 ∧ mnK p 4 ≤ p 1 ∧ mnK p 4 ≤ p 2 ∧ mnK p 4 ≤ p 3 ∧ p 0 ≤ mxK p 4 ∧ p 1 ≤ mxK p 4 ∧ p 2 ≤ mxK p 4 ∧ p 3 ≤ mxK p 4 := by
  rw [mn4_val, mx4_val]; omega
theorem le_mul {a b d : Int} (h : a ≤ b) (hd : 0 < d) : a * d ≤ b * d := Int.mul_le_mul_of_nonneg_right h (by omega)
theorem ge_mul {a b d : Int} (h : a ≤ b) (hd : d < 0) : b * d ≤ a * d := by
  have := Int.mul_le_mul_of_nonneg_right h (show 0 ≤ -d by omega)
  simp only [Int.mul_neg] at this
  omega
theorem div_cases (al ah bl bh : Int) (hb : bothS al ah bl bh = 0) (h0 : al ≤ ah ∧ bl ≤ bh) : ∃ lo hi e, divS al ah bl bh = (lo, hi, e) ∧ ((-9223372036854775807 ≤ lo ∧ lo ≤ 9223372036854775807) ∧ (-9223372036854775807 ≤ hi ∧ hi ≤ 9223372036854775807)) ∧ ((e = 0 ∧ divP al ah bl bh lo hi) ∨ e = 4 ∨ e = 10) := by
  have hm : divS al ah bl bh = _ := if_pos hb
  by_cases c : bl ≤ 0 ∧ 0 ≤ bh
  · exact ⟨_, _, _, hm.trans (if_pos c), by omega, Or.inr (Or.inr rfl)⟩
  have hm := (hm.trans (if_neg c)).trans (div_fit al ah bl bh (by omega) (by omega))
  rcases fit_cases (mnK (dK al ah bl bh) 4) (mxK (uK al ah bl bh) 4) with ⟨h, hv⟩ | h
  · refine ⟨_, _, _, hm.trans h, hv, Or.inl ⟨rfl, fun x y hx hy => ?_⟩⟩
    obtain ⟨d0, d1, d2, d3, _⟩ := du_min (dK al ah bl bh)
    obtain ⟨_, _, _, _, u0, u1, u2, u3⟩ := du_min (uK al ah bl bh)
    generalize mnK (dK al ah bl bh) 4 = lo at *
    generalize mxK (uK al ah bl bh) 4 = hi at *
    change lo ≤ dnQ (al * 4294967296) bl at d0
    change lo ≤ dnQ (al * 4294967296) bh at d1
    change lo ≤ dnQ (ah * 4294967296) bl at d2
    change lo ≤ dnQ (ah * 4294967296) bh at d3
    change upQ (al * 4294967296) bl ≤ hi at u0
    change upQ (al * 4294967296) bh ≤ hi at u1
    change upQ (ah * 4294967296) bl ≤ hi at u2
    change upQ (ah * 4294967296) bh ≤ hi at u3
    have ly := lin_between (c := lo) hy
    have hy' := lin_between (c := hi) hy
    by_cases cy : 0 < bl
    · have a0 := (dn_spec (al * 4294967296) bl (by omega)).1 cy
      have a1 := (dn_spec (al * 4294967296) bh (by omega)).1 (by omega)
      have b2 := (up_spec (ah * 4294967296) bl (by omega)).1 cy
      have b3 := (up_spec (ah * 4294967296) bh (by omega)).1 (by omega)
      have a0' := le_mul d0 cy
      have a1' := le_mul d1 (show 0 < bh by omega)
      have b2' := le_mul u2 cy
      have b3' := le_mul u3 (show 0 < bh by omega)
      refine ⟨fun _ => ⟨?_, ?_⟩, fun _ => by omega, by omega⟩ <;> omega
    · have cy : bh < 0 := by omega
      have a2 := (dn_spec (ah * 4294967296) bl (by omega)).2 (by omega)
      have a3 := (dn_spec (ah * 4294967296) bh (by omega)).2 cy
      have b0 := (up_spec (al * 4294967296) bl (by omega)).2 (by omega)
      have b1 := (up_spec (al * 4294967296) bh (by omega)).2 cy
      have a2' := ge_mul d2 (show bl < 0 by omega)
      have a3' := ge_mul d3 cy
      have b0' := ge_mul u0 (show bl < 0 by omega)
      have b1' := ge_mul u1 cy
      refine ⟨fun _ => by omega, fun _ => ⟨?_, ?_⟩, by omega⟩ <;> omega
  · exact ⟨_, _, _, hm.trans h, by omega, Or.inr (Or.inl rfl)⟩
def rootP (al ah lo hi : Int) : Prop := 0 ≤ ah ∧ ∀ x : Int, al ≤ x ∧ x ≤ ah → 0 ≤ x → lo * lo ≤ x * 4294967296 ∧ x * 4294967296 ≤ hi * hi
theorem ru_spec {n : Int} (h : 0 ≤ n) : 0 ≤ ruI n ∧ n ≤ ruI n * ruI n ∧ (ruI n = 0 ∨ (ruI n - 1) * (ruI n - 1) < n) := by
  obtain ⟨r0, r1, r2⟩ := rt_spec h
  unfold ruI
  split
  · rename_i e
    refine ⟨r0, by omega, ?_⟩
    by_cases z : rtI n = 0
    · exact Or.inl z
    · right
      rw [show (rtI n - 1) * (rtI n - 1) = rtI n * rtI n - 2 * rtI n + 1 by simp only [Int.sub_mul, Int.mul_sub]; omega]
      omega
  · rename_i e
    refine ⟨by omega, by omega, Or.inr ?_⟩
    rw [show rtI n + 1 - 1 = rtI n by omega]
    omega
theorem root_cases (al ah : Int) (hb : chk al ah = 0) (h0 : -9223372036854775807 ≤ al ∧ al ≤ ah ∧ ah ≤ 9223372036854775807) : ∃ lo hi e, rootS al ah = (lo, hi, e) ∧ (0 ≤ lo ∧ lo ≤ 281474976710656 ∧ 0 ≤ hi ∧ hi ≤ 281474976710657) ∧
    ((e = 0 ∧ rootP al ah lo hi ∧ max al 0 * 4294967296 < (lo + 1) * (lo + 1) ∧ (hi = 0 ∨ (hi - 1) * (hi - 1) < ah * 4294967296)) ∨ (e = 4 ∧ ah < 0)) := by
  have hm : rootS al ah = _ := if_pos hb
  by_cases c : ah < 0
  · exact ⟨_, _, _, hm.trans (if_pos c), by omega, Or.inr ⟨rfl, c⟩⟩
  have hm := hm.trans (if_neg c)
  obtain ⟨r0, r1, r2⟩ := rt_spec (n := max al 0 * 4294967296) (by omega)
  obtain ⟨s0, s1, s2⟩ := ru_spec (n := ah * 4294967296) (by omega)
  have q1 : rtI (max al 0 * 4294967296) < 281474976710656 := rt_lt (by omega) (by omega) (by omega)
  have q2 : rtI (ah * 4294967296) < 281474976710656 := rt_lt (by omega) (by omega) (by omega)
  have q3 : ruI (ah * 4294967296) ≤ rtI (ah * 4294967296) + 1 := by unfold ruI; split <;> omega
  refine ⟨_, _, _, hm, by omega, Or.inl ⟨rfl, ⟨by omega, fun x hx h => ⟨?_, ?_⟩⟩, r2, s2⟩⟩ <;> omega
/-- A number of a span, by one of 64 bits. -/
def pickN (lo hi by_ : Int) : Int := lo + by_ % (hi - lo + 1)
theorem pick_bd {lo hi by_ : Int} (h : lo ≤ hi) : lo ≤ pickN lo hi by_ ∧ pickN lo hi by_ ≤ hi := by
  unfold pickN
  have h1 := Int.emod_nonneg by_ (show hi - lo + 1 ≠ 0 by omega)
  have h2 := Int.emod_lt_of_pos by_ (show 0 < hi - lo + 1 by omega)
  omega
end Go.Proofs.YtjleflfncijnpaaDoor
