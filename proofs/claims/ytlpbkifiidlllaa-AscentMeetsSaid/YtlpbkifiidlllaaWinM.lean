/- Windows and their slots: plain integers. -/
import Derived.Test.YtlpbkifiidlllaaBase
set_option linter.unusedVariables false
set_option linter.unusedSimpArgs false
namespace Go.Proofs.Ytlpbkifiidlllaa
open Go Go.RowKit
def winB (P F L : Int) : Bool := decide (1 ≤ P ∧ P ≤ 1073741824 ∧ -1073741824 ≤ F ∧ F ≤ 1073741824 ∧ 0 ≤ L ∧ L ≤ P)
theorem win_bd {P F L : Int} (h : winB P F L = true) : 1 ≤ P ∧ P ≤ 1073741824 ∧ -1073741824 ≤ F ∧ F ≤ 1073741824 ∧ 0 ≤ L ∧ L ≤ P := of_decide_eq_true h
def timB (t : Int) : Bool := decide (-1152921504606846976 ≤ t ∧ t ≤ 1152921504606846976)
/-- How long before a time a period has begun. -/
def sinc (P F t : Int) : Int := (t - F) % P
theorem sinc_bd {P F t : Int} (h : 1 ≤ P) : 0 ≤ sinc P F t ∧ sinc P F t < P :=
  ⟨Int.emod_nonneg _ (by omega), Int.emod_lt_of_pos _ (by omega)⟩
theorem tmod_bd {n P : Int} (h : 1 ≤ P) : -P < n.tmod P ∧ n.tmod P < P := by
  rcases (by omega : n < 0 ∨ 0 ≤ n) with c | c
  · have e : n.tmod P = -((-n) % P) := by
      have h1 : (-(-n)).tmod P = -((-n).tmod P) := Int.neg_tmod (-n) P
      rw [Int.neg_neg] at h1
      rw [h1, Int.tmod_eq_emod_of_nonneg (by omega)]
    have h1 := Int.emod_nonneg (-n) (show P ≠ 0 by omega)
    have h2 := Int.emod_lt_of_pos (-n) (show 0 < P by omega)
    omega
  · rw [Int.tmod_eq_emod_of_nonneg c]
    have h1 := Int.emod_nonneg n (show P ≠ 0 by omega)
    have h2 := Int.emod_lt_of_pos n (show 0 < P by omega)
    omega
theorem tmod_emod {n P : Int} (h : 1 ≤ P) : n.tmod P % P = n % P := by
  have h1 := Int.mul_tdiv_add_tmod n P
  have h2 : (P * n.tdiv P + n.tmod P) % P = n.tmod P % P := by rw [Int.add_comm]; exact Int.add_mul_emod_self_left _ _ _
  rw [← h2, h1]
/-- A remainder that is not negative. -/
theorem modulo_val {n P : Int} (h : 1 ≤ P) : (n.tmod P + P).tmod P = n % P := by
  have hb := tmod_bd (n := n) h
  rw [Int.tmod_eq_emod_of_nonneg (by omega), Int.add_emod_right, tmod_emod h]
theorem modulo_val2 {n P : Int} (h : 1 ≤ P) : (n.tmod P + P) % P = n % P := by
  rw [Int.add_emod_right, tmod_emod h]
theorem rest_val {n P : Int} (h : 1 ≤ P) : (if n.tmod P < 0 then n.tmod P + P else n.tmod P) = n % P := by
  have hb := tmod_bd (n := n) h
  have he := tmod_emod (n := n) h
  split
  · rename_i c
    rw [← he, ← Int.add_emod_right, Int.emod_eq_of_lt (by omega) (by omega)]
  · rename_i c
    rw [← he, Int.emod_eq_of_lt (by omega) (by omega)]
theorem sinc_code {P F t : Int} (h : 1 ≤ P) : (t.tmod P - F) % P = sinc P F t := by
  unfold sinc
  rw [Int.sub_emod, tmod_emod h, ← Int.sub_emod]
theorem sinc_ref {P F t : Int} (h : 1 ≤ P) : (t % P - F % P) % P = sinc P F t := by
  unfold sinc
  rw [← Int.sub_emod]
theorem sinc_less {P F t k : Int} (h : 1 ≤ P) (hk : 0 ≤ k ∧ k ≤ sinc P F t) : sinc P F (t - k) = sinc P F t - k := by
  have hb := sinc_bd (F := F) (t := t) h
  unfold sinc at *
  have e : (t - k - F) % P = ((t - F) % P - k) % P := by rw [show t - k - F = (t - F) - k by omega, ← Int.emod_sub_emod]
  rw [e, Int.emod_eq_of_lt (by omega) (by omega)]
theorem sinc_more {P F t k : Int} (h : 1 ≤ P) (hk : 0 ≤ k ∧ sinc P F t + k < P) : sinc P F (t + k) = sinc P F t + k := by
  have hb := sinc_bd (F := F) (t := t) h
  unfold sinc at *
  have e : (t + k - F) % P = ((t - F) % P + k) % P := by rw [show t + k - F = (t - F) + k by omega, ← Int.emod_add_emod]
  rw [e, Int.emod_eq_of_lt (by omega) (by omega)]
theorem sinc_next {P F t : Int} (h : 1 ≤ P) : sinc P F (t + (P - sinc P F t)) = 0 := by
  unfold sinc
  have e : (t + (P - (t - F) % P) - F) % P = ((t - F) % P + (P - (t - F) % P)) % P := by
    rw [show t + (P - (t - F) % P) - F = (t - F) + (P - (t - F) % P) by omega, ← Int.emod_add_emod]
  rw [e, show (t - F) % P + (P - (t - F) % P) = P by omega, Int.emod_self]
/-- Slots, from a beginning on. -/
def sl (P L to b : Int) : List (Int × Int) :=
  if h : b < to ∧ 1 ≤ P then (b, min (b + L) to) :: sl P L to (b + P) else []
termination_by (to - b).toNat
decreasing_by omega
theorem sl_nil {P L to b : Int} (h : to ≤ b) : sl P L to b = [] := by rw [sl, dif_neg (by omega)]
theorem sl_cons {P L to b : Int} (h : b < to) (hP : 1 ≤ P) : sl P L to b = (b, min (b + L) to) :: sl P L to (b + P) := by rw [sl, dif_pos ⟨h, hP⟩]
/-- Slots, from any time on. -/
def tl (P F L to t : Int) : List (Int × Int) :=
  if to ≤ t then [] else (if sinc P F t < L then [(t, min (t - sinc P F t + L) to)] else []) ++ sl P L to (t - sinc P F t + P)
theorem tl_nil {P F L to t : Int} (h : to ≤ t) : tl P F L to t = [] := if_pos h
theorem tl_in {P F L to t : Int} (h : t < to) (hs : sinc P F t < L) : tl P F L to t = (t, min (t - sinc P F t + L) to) :: sl P L to (t - sinc P F t + P) := by
  unfold tl; rw [if_neg (by omega), if_pos hs]; rfl
theorem tl_out {P F L to t : Int} (h : t < to) (hs : ¬ sinc P F t < L) : tl P F L to t = sl P L to (t - sinc P F t + P) := by
  unfold tl; rw [if_neg (by omega), if_neg hs]; rfl
theorem tl_begin {P F L to b : Int} (hP : 1 ≤ P) (hL : 0 < L) (h : sinc P F b = 0) : tl P F L to b = sl P L to b := by
  by_cases c : b < to
  · rw [tl_in c (by omega), sl_cons c hP, h, show b - 0 = b by omega]
  · rw [tl_nil (by omega), sl_nil (by omega)]
/-- One change further: inside a slot. -/
theorem tl_slot {P F L to t : Int} (hP : 1 ≤ P) (hL : 0 < L ∧ L < P) (h : t < to) (hs : sinc P F t < L) : tl P F L to t = (t, min (t + (L - sinc P F t)) to) :: tl P F L to (min (t + (L - sinc P F t)) to) := by
  have hb := sinc_bd (F := F) (t := t) hP
  rw [tl_in h hs, show t - sinc P F t + L = t + (L - sinc P F t) by omega]
  congr 1
  by_cases c : to ≤ t + (L - sinc P F t)
  · rw [show min (t + (L - sinc P F t)) to = to by omega, tl_nil (Int.le_refl _), sl_nil (by omega)]
  · have e := sinc_more (F := F) (t := t) (k := L - sinc P F t) hP (by omega)
    rw [show min (t + (L - sinc P F t)) to = t + (L - sinc P F t) by omega, tl_out (by omega) (by omega), e]
    congr 1; omega
/-- One change further: between slots. -/
theorem tl_gap {P F L to t : Int} (hP : 1 ≤ P) (hL : 0 < L ∧ L < P) (h : t < to) (hs : ¬ sinc P F t < L) : tl P F L to t = tl P F L to (min (t + (P - sinc P F t)) to) := by
  have hb := sinc_bd (F := F) (t := t) hP
  rw [tl_out h hs, show t - sinc P F t + P = t + (P - sinc P F t) by omega]
  by_cases c : to ≤ t + (P - sinc P F t)
  · rw [show min (t + (P - sinc P F t)) to = to by omega, tl_nil (Int.le_refl _), sl_nil (by omega)]
  · rw [show min (t + (P - sinc P F t)) to = t + (P - sinc P F t) by omega, tl_begin hP hL.1 (sinc_next hP)]
/-- What is asked for. -/
def slotsT (P F L from_ to : Int) : List (Int × Int) :=
  if L = 0 ∨ from_ = to then [] else if L = P then [(from_, to)] else tl P F L to from_
def slotsE (P F L from_ to : Int) : Int :=
  if winB P F L = true ∧ timB from_ = true ∧ timB to = true ∧ from_ ≤ to then (if 4096 < (slotsT P F L from_ to).length then 3 else 0) else 2
end Go.Proofs.Ytlpbkifiidlllaa
