/- Windows that meet: how often, and when next: plain numbers. -/
import Derived.Test.YtlpbkifiidlllaaWinM
set_option linter.unusedVariables false
set_option linter.unusedSimpArgs false
namespace Go.Proofs.Ytlpbkifiidlllaa
open Go Go.RowKit
/-- How many of the first numbers are so. -/
def cnt : Nat → (Nat → Bool) → Nat
  | 0, _ => 0
  | n + 1, p => cnt n p + (if p n then 1 else 0)
theorem cnt_congr {n : Nat} {p q : Nat → Bool} (h : ∀ t, t < n → p t = q t) : cnt n p = cnt n q := by
  induction n with
  | zero => rfl
  | succ n ih => rw [cnt, cnt, ih (fun t ht => h t (by omega)), h n (by omega)]
theorem cnt_none {n : Nat} {p : Nat → Bool} (h : ∀ t, t < n → p t = false) : cnt n p = 0 := by
  induction n with
  | zero => rfl
  | succ n ih => rw [cnt, ih (fun t ht => h t (by omega)), h n (by omega)]; rfl
theorem cnt_one {n t0 : Nat} {p : Nat → Bool} (h0 : t0 < n) (hp : p t0 = true) (hu : ∀ t, t < n → p t = true → t = t0) : cnt n p = 1 := by
  induction n with
  | zero => omega
  | succ n ih =>
    rw [cnt]
    by_cases c : t0 = n
    · subst c
      rw [cnt_none (fun t ht => by
        cases hpt : p t
        · rfl
        · have := hu t (by omega) hpt; omega), hp]; rfl
    · have hn : p n = false := by
        cases hpt : p n
        · rfl
        · have := hu n (by omega) hpt; omega
      rw [ih (by omega) (fun t ht hpt => hu t (by omega) hpt), hn]; rfl
theorem cnt_or {n : Nat} {p q r : Nat → Bool} (h : ∀ t, t < n → (if r t then 1 else 0) = (if p t then 1 else 0) + (if q t then 1 else 0)) : cnt n r = cnt n p + cnt n q := by
  induction n with
  | zero => rfl
  | succ n ih =>
    have := h n (by omega)
    rw [cnt, cnt, cnt, ih (fun t ht => h t (by omega)), this]; omega
theorem cnt_pos {n : Nat} {p : Nat → Bool} (h : 0 < cnt n p) : ∃ t, t < n ∧ p t = true := by
  induction n with
  | zero => simp [cnt] at h
  | succ n ih =>
    rw [cnt] at h
    cases hp : p n
    · rw [hp] at h
      obtain ⟨t, ht, hq⟩ := ih (by simpa using h)
      exact ⟨t, by omega, hq⟩
    · exact ⟨n, by omega, hp⟩
/-- Bezout. -/
theorem bezout : ∀ (n : Nat) (a b : Nat), b ≤ n → ∃ x y : Int, (a : Int) * x + b * y = (Nat.gcd a b : Nat)
  | n, a, 0, _ => ⟨1, 0, by simp⟩
  | 0, a, b + 1, h => by omega
  | n + 1, a, b + 1, h => by
    obtain ⟨x, y, e⟩ := bezout n (b + 1) (a % (b + 1)) (by have := Nat.mod_lt a (show 0 < b + 1 by omega); omega)
    refine ⟨y, x - (a / (b + 1) : Nat) * y, ?_⟩
    rw [Nat.gcd_comm a, Nat.gcd_rec, Nat.gcd_comm, ← e]
    have hd := Nat.div_add_mod a (b + 1)
    have hd2 : (a : Int) = ((b + 1 : Nat) : Int) * ((a / (b + 1) : Nat) : Int) + ((a % (b + 1) : Nat) : Int) := by exact_mod_cast hd.symm
    grind
/-- A number that is the same modulo both is the same modulo the least common multiple. -/
theorem both_dvd {a b : Nat} {d : Int} (ha : (a : Int) ∣ d) (hb : (b : Int) ∣ d) : ((a / Nat.gcd a b * b : Nat) : Int) ∣ d := by
  have h1 : a ∣ d.natAbs := Int.ofNat_dvd_left.mp ha
  have h2 : b ∣ d.natAbs := Int.ofNat_dvd_left.mp hb
  have h3 := Nat.lcm_dvd h1 h2
  have h4 : Nat.lcm a b = a / Nat.gcd a b * b := by
    unfold Nat.lcm
    rw [Nat.mul_comm a b, Nat.mul_div_assoc _ (Nat.gcd_dvd_left a b), Nat.mul_comm]
  rw [h4] at h3
  exact Int.ofNat_dvd_left.mpr h3
def lcmN (a b : Nat) : Nat := a / Nat.gcd a b * b
theorem lcm_pos {a b : Nat} (ha : 0 < a) (hb : 0 < b) : 0 < lcmN a b := by
  unfold lcmN
  have hg := Nat.gcd_pos_of_pos_left b ha
  have := Nat.div_pos (Nat.le_of_dvd ha (Nat.gcd_dvd_left a b)) hg
  exact Nat.mul_pos this hb
theorem dvd_lcm_left (a b : Nat) : (a : Int) ∣ ((lcmN a b : Nat) : Int) := by
  unfold lcmN
  refine Int.natCast_dvd_natCast.mpr ?_
  have h1 := Nat.gcd_dvd_right a b
  obtain ⟨k, hk⟩ := h1
  have h2 := Nat.div_mul_cancel (Nat.gcd_dvd_left a b)
  refine ⟨k, ?_⟩
  calc a / Nat.gcd a b * b = a / Nat.gcd a b * (Nat.gcd a b * k) := congrArg _ hk
    _ = a * k := by rw [← Nat.mul_assoc, h2]
theorem dvd_lcm_right (a b : Nat) : (b : Int) ∣ ((lcmN a b : Nat) : Int) := Int.natCast_dvd_natCast.mpr ⟨a / Nat.gcd a b, by unfold lcmN; rw [Nat.mul_comm]⟩
/-- One pair of remainders: at just one time, or none. -/
theorem pair_one {Pa Pb : Nat} (hPa : 0 < Pa) (hPb : 0 < Pb) (Fa Fb x y : Int) (hx : 0 ≤ x ∧ x < Pa) (hy : 0 ≤ y ∧ y < Pb) :
    cnt (lcmN Pa Pb) (fun t => decide (((t : Int) - Fa) % Pa = x ∧ ((t : Int) - Fb) % Pb = y)) = if (x + Fa - Fb - y) % (Nat.gcd Pa Pb : Nat) = 0 then 1 else 0 := by
  have hN := lcm_pos hPa hPb
  have ga : ((Nat.gcd Pa Pb : Nat) : Int) ∣ (Pa : Int) := Int.natCast_dvd_natCast.mpr (Nat.gcd_dvd_left _ _)
  have gb : ((Nat.gcd Pa Pb : Nat) : Int) ∣ (Pb : Int) := Int.natCast_dvd_natCast.mpr (Nat.gcd_dvd_right _ _)
  have dv : ∀ (z r : Int) (P : Nat), z % P = r → (P : Int) ∣ z - r := fun z r P h => by rw [← h]; exact Int.dvd_self_sub_emod
  split
  · rename_i h
    obtain ⟨k, hk⟩ := Int.dvd_of_emod_eq_zero h
    obtain ⟨u, v, e⟩ := bezout Pb Pa Pb (Nat.le_refl _)
    -- t0 = x + Fa - Pa u k
    have mk : ∀ (z r : Int) (P : Nat), 0 ≤ r → r < P → (P : Int) ∣ z - r → z % P = r := fun z r P h1 h2 h3 => by
      rw [Int.emod_eq_emod_iff_emod_sub_eq_zero.mpr (Int.emod_eq_zero_of_dvd h3), Int.emod_eq_of_lt h1 h2]
    have hNz : ((lcmN Pa Pb : Nat) : Int) ≠ 0 := by omega
    have r0 := Int.emod_nonneg (x + Fa - Pa * u * k) hNz
    have r1 := Int.emod_lt_of_pos (x + Fa - Pa * u * k) (show (0 : Int) < (lcmN Pa Pb : Nat) by omega)
    have r2 : ((lcmN Pa Pb : Nat) : Int) ∣ (x + Fa - Pa * u * k) - (x + Fa - Pa * u * k) % (lcmN Pa Pb : Nat) := Int.dvd_self_sub_emod
    generalize hT : (x + Fa - Pa * u * k) % (lcmN Pa Pb : Nat) = T at *
    obtain ⟨t0, rfl⟩ := Int.eq_ofNat_of_zero_le r0
    have q1 : (Pa : Int) ∣ ((t0 : Int) - Fa) - x := by
      obtain ⟨m, hm⟩ := Int.dvd_trans (dvd_lcm_left Pa Pb) r2
      refine ⟨-(u * k) - m, ?_⟩
      grind
    have q2 : (Pb : Int) ∣ ((t0 : Int) - Fb) - y := by
      obtain ⟨m, hm⟩ := Int.dvd_trans (dvd_lcm_right Pa Pb) r2
      refine ⟨v * k - m, ?_⟩
      grind
    refine cnt_one (t0 := t0) (by omega) (decide_eq_true ⟨mk _ _ _ hx.1 hx.2 q1, mk _ _ _ hy.1 hy.2 q2⟩) ?_
    intro t ht hp
    obtain ⟨e1, e2⟩ := of_decide_eq_true hp
    have d1 := dv _ _ _ e1
    have d2 := dv _ _ _ e2
    have s1 : (Pa : Int) ∣ (t : Int) - t0 := by have := Int.dvd_sub d1 q1; rwa [show ((t : Int) - Fa - x) - (t0 - Fa - x) = t - t0 by omega] at this
    have s2 : (Pb : Int) ∣ (t : Int) - t0 := by have := Int.dvd_sub d2 q2; rwa [show ((t : Int) - Fb - y) - (t0 - Fb - y) = t - t0 by omega] at this
    obtain ⟨m, hm⟩ := both_dvd s1 s2
    change (t : Int) - t0 = ((lcmN Pa Pb : Nat) : Int) * m at hm
    have hm0 : m = 0 := by
      rcases Int.lt_trichotomy m 0 with c | c | c
      · exfalso
        have : ((lcmN Pa Pb : Nat) : Int) * m ≤ ((lcmN Pa Pb : Nat) : Int) * (-1) := Int.mul_le_mul_of_nonneg_left (by omega) (by omega)
        omega
      · exact c
      · exfalso
        have : ((lcmN Pa Pb : Nat) : Int) * 1 ≤ ((lcmN Pa Pb : Nat) : Int) * m := Int.mul_le_mul_of_nonneg_left (by omega) (by omega)
        omega
    rw [hm0] at hm
    omega
  · rename_i h
    refine cnt_none fun t _ => decide_eq_false fun ⟨e1, e2⟩ => h ?_
    have d1 := Int.dvd_trans ga (dv _ _ _ e1)
    have d2 := Int.dvd_trans gb (dv _ _ _ e2)
    have := Int.dvd_sub d2 d1
    rw [show ((t : Int) - Fb - y) - (t - Fa - x) = x + Fa - Fb - y by omega] at this
    exact Int.emod_eq_zero_of_dvd this
/-- The times of one remainder, and of the first ones of the other window. -/
theorem row_count {Pa Pb : Nat} (hPa : 0 < Pa) (hPb : 0 < Pb) (Fa Fb x : Int) (hx : 0 ≤ x ∧ x < Pa) : ∀ n : Nat, n ≤ Pb →
    cnt (lcmN Pa Pb) (fun t => decide (((t : Int) - Fa) % Pa = x ∧ ((t : Int) - Fb) % Pb < n)) = cnt n (fun y => decide ((x + Fa - Fb - y) % (Nat.gcd Pa Pb : Nat) = 0))
  | 0, _ => by
    rw [cnt]
    refine cnt_none fun t _ => decide_eq_false fun ⟨_, h⟩ => ?_
    have := Int.emod_nonneg ((t : Int) - Fb) (show (Pb : Int) ≠ 0 by omega)
    omega
  | n + 1, hn => by
    rw [cnt, ← row_count hPa hPb Fa Fb x hx n (by omega)]
    have hp := pair_one hPa hPb Fa Fb x n hx (by omega)
    have e : (if decide ((x + Fa - Fb - (n : Int)) % (Nat.gcd Pa Pb : Nat) = 0) = true then 1 else 0) = cnt (lcmN Pa Pb) (fun t => decide (((t : Int) - Fa) % Pa = x ∧ ((t : Int) - Fb) % Pb = n)) := by
      rw [hp]; simp
    rw [e]
    refine cnt_or fun t _ => ?_
    simp only [decide_eq_true_eq]
    by_cases a : ((t : Int) - Fa) % Pa = x
    · by_cases b : ((t : Int) - Fb) % Pb = n
      · rw [if_pos ⟨a, by omega⟩, if_neg (by omega), if_pos ⟨a, b⟩]
      · by_cases c : ((t : Int) - Fb) % Pb < n
        · rw [if_pos ⟨a, by omega⟩, if_pos ⟨a, c⟩, if_neg (by omega)]
        · rw [if_neg (by omega), if_neg (by omega), if_neg (by omega)]
    · rw [if_neg (by omega), if_neg (by omega), if_neg (by omega)]
def sumN : Nat → (Nat → Nat) → Nat
  | 0, _ => 0
  | n + 1, f => sumN n f + f n
theorem all_count {Pa Pb : Nat} (hPa : 0 < Pa) (hPb : 0 < Pb) (Fa Fb : Int) (Lb : Nat) (hL : Lb ≤ Pb) : ∀ m : Nat, m ≤ Pa →
    cnt (lcmN Pa Pb) (fun t => decide (((t : Int) - Fa) % Pa < m ∧ ((t : Int) - Fb) % Pb < Lb)) = sumN m (fun x => cnt Lb (fun y => decide (((x : Int) + Fa - Fb - y) % (Nat.gcd Pa Pb : Nat) = 0)))
  | 0, _ => by
    rw [sumN]
    refine cnt_none fun t _ => decide_eq_false fun ⟨h, _⟩ => ?_
    have := Int.emod_nonneg ((t : Int) - Fa) (show (Pa : Int) ≠ 0 by omega)
    omega
  | m + 1, hm => by
    rw [sumN, ← all_count hPa hPb Fa Fb Lb hL m (by omega), ← row_count hPa hPb Fa Fb m (by omega) Lb hL]
    refine cnt_or fun t _ => ?_
    simp only [decide_eq_true_eq]
    by_cases b : ((t : Int) - Fb) % Pb < Lb
    · by_cases a : ((t : Int) - Fa) % Pa = m
      · rw [if_pos ⟨by omega, b⟩, if_neg (by omega), if_pos ⟨a, b⟩]
      · by_cases c : ((t : Int) - Fa) % Pa < m
        · rw [if_pos ⟨by omega, b⟩, if_pos ⟨c, b⟩, if_neg (by omega)]
        · rw [if_neg (by omega), if_neg (by omega), if_neg (by omega)]
    · rw [if_neg (by omega), if_neg (by omega), if_neg (by omega)]
theorem next_mod {g : Nat} (hg : 0 < g) (n : Nat) : (n % g + 1 < g ∧ (n + 1) / g = n / g ∧ (n + 1) % g = n % g + 1) ∨ (n % g + 1 = g ∧ (n + 1) / g = n / g + 1 ∧ (n + 1) % g = 0) := by
  have hd := Nat.div_add_mod n g
  have hl := Nat.mod_lt n hg
  have e : n + 1 = g * (n / g) + (n % g + 1) := by omega
  rcases Nat.lt_or_eq_of_le (show n % g + 1 ≤ g by omega) with c | c
  · refine Or.inl ⟨c, ?_, ?_⟩
    · conv => lhs; rw [e]
      rw [Nat.mul_add_div hg, Nat.div_eq_of_lt c]; rfl
    · conv => lhs; rw [e]
      rw [Nat.mul_add_mod, Nat.mod_eq_of_lt c]
  · refine Or.inr ⟨c, ?_, ?_⟩
    · conv => lhs; rw [e]
      rw [Nat.mul_add_div hg, c, Nat.div_self hg]
    · conv => lhs; rw [e]
      rw [Nat.mul_add_mod, c, Nat.mod_self]
theorem res_count {g : Nat} (hg : 0 < g) (r : Int) : ∀ n : Nat, cnt n (fun y => decide ((r - (y : Int)) % (g : Int) = 0)) = n / g + (if r % (g : Int) < ((n % g : Nat) : Int) then 1 else 0)
  | 0 => by
    have := Int.emod_nonneg r (show (g : Int) ≠ 0 by omega)
    rw [cnt, Nat.zero_div, Nat.zero_mod, if_neg (by omega)]
  | n + 1 => by
    have h0 := Int.emod_nonneg r (show (g : Int) ≠ 0 by omega)
    have h1 := Int.emod_lt_of_pos r (show (0 : Int) < g by omega)
    have e : ((r - (n : Int)) % (g : Int) = 0) ↔ r % (g : Int) = ((n % g : Nat) : Int) := by
      rw [← Int.emod_eq_emod_iff_emod_sub_eq_zero, Int.natCast_emod]
    rw [cnt, res_count hg r n]
    simp only [decide_eq_true_eq, e]
    rcases next_mod hg n with ⟨c1, c2, c3⟩ | ⟨c1, c2, c3⟩
    · rw [c2, c3]
      by_cases a : r % (g : Int) = ((n % g : Nat) : Int)
      · rw [if_neg (by omega), if_pos a, if_pos (by omega)]
      · by_cases b : r % (g : Int) < ((n % g : Nat) : Int)
        · rw [if_pos b, if_neg a, if_pos (by omega)]
        · rw [if_neg b, if_neg a, if_neg (by omega)]
    · rw [c2, c3]
      by_cases a : r % (g : Int) = ((n % g : Nat) : Int)
      · rw [if_neg (by omega), if_pos a, if_neg (by omega)]
      · rw [if_pos (by omega), if_neg a, if_neg (by omega)]
/-- How many times two slots have in common. -/
def shr (a b c d : Int) : Int := max 0 (min b d - max a c)
theorem half_count {g : Nat} (hg : 0 < g) (dl : Int) (s : Nat) (hs : s < g) : ∀ m : Nat,
    ((cnt m (fun x => decide (((x : Int) + dl) % (g : Int) < s)) : Nat) : Int) = ((m / g : Nat) : Int) * s + (shr (dl % g) (dl % g + (m % g : Nat)) 0 s + shr (dl % g) (dl % g + (m % g : Nat)) g (g + s))
  | 0 => by
    have := Int.emod_nonneg dl (show (g : Int) ≠ 0 by omega)
    rw [cnt, Nat.zero_div, Nat.zero_mod]
    unfold shr
    have e : ((0 : Nat) : Int) * (s : Int) = 0 := by simp
    rw [e]
    omega
  | m + 1 => by
    have h0 := Int.emod_nonneg dl (show (g : Int) ≠ 0 by omega)
    have h1 := Int.emod_lt_of_pos dl (show (0 : Int) < g by omega)
    have e : ((m : Int) + dl) % (g : Int) = if dl % g + (m % g : Nat) < g then dl % g + (m % g : Nat) else dl % g + (m % g : Nat) - g := by
      have hml := Nat.mod_lt m hg
      have e1 : ((m : Int) + dl) % (g : Int) = (dl % g + (m % g : Nat)) % g := by
        rw [Int.natCast_emod, Int.add_comm, ← Int.add_emod]
      rw [e1]
      split
      · rename_i c; rw [Int.emod_eq_of_lt (by omega) c]
      · rename_i c
        rw [← Int.sub_emod_right, Int.emod_eq_of_lt (by omega) (by omega)]
    rw [cnt, Int.natCast_add, half_count hg dl s hs m]
    simp only [decide_eq_true_eq, e]
    generalize dl % (g : Int) = l at *
    unfold shr
    rcases next_mod hg m with ⟨c1, c2, c3⟩ | ⟨c1, c2, c3⟩
    · rw [c2, c3]
      generalize ((m / g : Nat) : Int) * (s : Int) = Z at *
      split <;> split <;> omega
    · rw [c2, c3]
      have e2 : ((m / g + 1 : Nat) : Int) * (s : Int) = ((m / g : Nat) : Int) * s + s := by rw [Int.natCast_add, Int.add_mul]; simp
      rw [e2]
      generalize ((m / g : Nat) : Int) * (s : Int) = Z at *
      split <;> split <;> omega
theorem sum_split (k : Nat) (p : Nat → Bool) : ∀ m : Nat, sumN m (fun x => k + (if p x then 1 else 0)) = m * k + cnt m p
  | 0 => by simp [sumN, cnt]
  | m + 1 => by
    rw [sumN, cnt, sum_split k p m, Nat.add_mul]; omega
theorem sum_congr {f h : Nat → Nat} : ∀ (m : Nat), (∀ x, x < m → f x = h x) → sumN m f = sumN m h
  | 0, _ => rfl
  | m + 1, e => by rw [sumN, sumN, sum_congr m (fun x hx => e x (by omega)), e m (by omega)]
/-- How many times of a common period are in both windows. -/
theorem often_count {Pa Pb : Nat} (hPa : 0 < Pa) (hPb : 0 < Pb) (Fa Fb : Int) (La Lb : Nat) (hLa : La ≤ Pa) (hLb : Lb ≤ Pb) :
    ((cnt (lcmN Pa Pb) (fun t => decide (((t : Int) - Fa) % Pa < La ∧ ((t : Int) - Fb) % Pb < Lb)) : Nat) : Int) =
      (Nat.gcd Pa Pb : Int) * (La / Nat.gcd Pa Pb : Nat) * (Lb / Nat.gcd Pa Pb : Nat) + (La / Nat.gcd Pa Pb : Nat) * (Lb % Nat.gcd Pa Pb : Nat) + (Lb / Nat.gcd Pa Pb : Nat) * (La % Nat.gcd Pa Pb : Nat)
      + shr ((Fa - Fb) % (Nat.gcd Pa Pb : Nat)) ((Fa - Fb) % (Nat.gcd Pa Pb : Nat) + (La % Nat.gcd Pa Pb : Nat)) 0 (Lb % Nat.gcd Pa Pb : Nat)
      + shr ((Fa - Fb) % (Nat.gcd Pa Pb : Nat)) ((Fa - Fb) % (Nat.gcd Pa Pb : Nat) + (La % Nat.gcd Pa Pb : Nat)) (Nat.gcd Pa Pb : Nat) ((Nat.gcd Pa Pb : Nat) + (Lb % Nat.gcd Pa Pb : Nat)) := by
  have hg : 0 < Nat.gcd Pa Pb := Nat.gcd_pos_of_pos_left _ hPa
  rw [all_count hPa hPb Fa Fb Lb hLb La hLa]
  generalize Nat.gcd Pa Pb = g at *
  have e : sumN La (fun x => cnt Lb (fun y => decide (((x : Int) + Fa - Fb - y) % (g : Int) = 0))) = sumN La (fun x => Lb / g + (if decide (((x : Int) + (Fa - Fb)) % (g : Int) < ((Lb % g : Nat) : Int)) = true then 1 else 0)) := by
    refine sum_congr _ fun x _ => ?_
    rw [res_count hg ((x : Int) + Fa - Fb) Lb, show (x : Int) + Fa - Fb = x + (Fa - Fb) by omega]
    simp only [decide_eq_true_eq]
  rw [e, sum_split, Int.natCast_add, half_count hg (Fa - Fb) (Lb % g) (Nat.mod_lt _ hg) La]
  have hd : (La : Int) = (g : Int) * (La / g : Nat) + (La % g : Nat) := by exact_mod_cast (Nat.div_add_mod La g).symm
  have hm : ((La * (Lb / g) : Nat) : Int) = (g : Int) * (La / g : Nat) * (Lb / g : Nat) + (Lb / g : Nat) * (La % g : Nat) := by
    rw [Int.natCast_mul]
    generalize ((La / g : Nat) : Int) = A at *
    generalize ((La % g : Nat) : Int) = B at *
    generalize ((Lb / g : Nat) : Int) = C at *
    rw [hd]; grind
  rw [hm]
  omega
def upw (a b : Nat) : Nat := (a + b - 1) / b
theorem upw_ge {a b : Nat} (hb : 0 < b) : a ≤ upw a b * b := by
  unfold upw
  have h1 := Nat.div_add_mod (a + b - 1) b
  have h2 := Nat.mod_lt (a + b - 1) hb
  rw [Nat.mul_comm] at h1
  omega
theorem upw_le {a b m : Nat} (hb : 0 < b) (h : a ≤ m * b) : upw a b ≤ m := by
  unfold upw
  refine Nat.lt_succ_iff.mp ((Nat.div_lt_iff_lt_mul hb).mpr ?_)
  rw [Nat.succ_mul]
  omega
def mult (step by_ low high : Nat) : Option Nat :=
  if h : step = 0 then none
  else if upw low step * step ≤ high then some (upw low step)
  else match mult (by_ % step) step (step - high % step) (step - low % step) with
    | none => none
    | some k => some (upw (low + k * by_) step)
termination_by step
decreasing_by exact Nat.mod_lt _ (by omega)
def Good (step by_ low high n : Nat) : Prop := low ≤ n * step % by_ ∧ n * step % by_ ≤ high
theorem mult_spec : ∀ (N step by_ low high : Nat), step ≤ N → step < by_ → 0 < low → low ≤ high → high < by_ →
    (mult step by_ low high = none → ∀ n, ¬ Good step by_ low high n) ∧ (∀ n, mult step by_ low high = some n → Good step by_ low high n ∧ ∀ m, m < n → ¬ Good step by_ low high m) := by
  intro N
  induction N with
  | zero =>
    intro step by_ low high h1 h2 h3 h4 h5
    have e : step = 0 := by omega
    subst e
    rw [mult, dif_pos rfl]
    exact ⟨fun _ n hn => by unfold Good at hn; simp at hn; omega, fun n hn => by simp at hn⟩
  | succ N ih =>
    intro step by_ low high h1 h2 h3 h4 h5
    by_cases h0 : step = 0
    · subst h0
      rw [mult, dif_pos rfl]
      exact ⟨fun _ n hn => by unfold Good at hn; simp at hn; omega, fun n hn => by simp at hn⟩
    have hs : 0 < step := by omega
    rw [mult, dif_neg h0]
    have g1 := upw_ge (a := low) hs
    by_cases c : upw low step * step ≤ high
    · rw [if_pos c]
      refine ⟨fun h => by simp at h, fun n hn => ?_⟩
      have e := Option.some.inj hn
      subst e
      refine ⟨?_, fun m hm hg => ?_⟩
      · unfold Good
        rw [Nat.mod_eq_of_lt (by omega)]
        exact ⟨g1, c⟩
      · have hlt : m * step < low := by
          rcases Nat.lt_or_ge (m * step) low with x | x
          · exact x
          · have := upw_le hs x; omega
        unfold Good at hg
        rw [Nat.mod_eq_of_lt (by omega)] at hg
        omega
    · rw [if_neg c]
      -- both ends lie between two multiples of the step
      obtain ⟨Q, hQ⟩ : ∃ Q, upw low step = Q + 1 := by
        cases hu : upw low step with
        | zero => rw [hu] at g1; omega
        | succ Q => exact ⟨Q, rfl⟩
      have q1 : Q * step < low := by
        rcases Nat.lt_or_ge (Q * step) low with x | x
        · exact x
        · have := upw_le hs x; omega
      have q2 : high < Q * step + step := by rw [hQ, Nat.succ_mul] at c; omega
      obtain ⟨lq, hlq⟩ : ∃ lq, low = Q * step + lq := ⟨low - Q * step, by omega⟩
      obtain ⟨hq, hhq⟩ : ∃ hq, high = Q * step + hq := ⟨high - Q * step, by omega⟩
      have m1 : low % step = lq := by rw [hlq, Nat.add_comm, Nat.add_mul_mod_self_right, Nat.mod_eq_of_lt (by omega)]
      have m2 : high % step = hq := by rw [hhq, Nat.add_comm, Nat.add_mul_mod_self_right, Nat.mod_eq_of_lt (by omega)]
      have key : ∀ k, (∃ n, low + k * by_ ≤ n * step ∧ n * step ≤ high + k * by_) ↔ Good (by_ % step) step (step - hq) (step - lq) k := by
        intro k
        unfold Good
        rw [Nat.mul_mod_mod]
        have d := Nat.div_add_mod (k * by_) step
        have dl := Nat.mod_lt (k * by_) hs
        generalize k * by_ / step = R at *
        generalize k * by_ % step = r at *
        rw [Nat.mul_comm] at d
        constructor
        · rintro ⟨n, n1, n2⟩
          have e1 : (Q + R) * step = Q * step + R * step := Nat.add_mul _ _ _
          have e2 : (Q + R + 2) * step = Q * step + R * step + 2 * step := by rw [Nat.add_mul, e1]
          have lo : Q + R < n := by
            rcases Nat.lt_or_ge (Q + R) n with x | x
            · exact x
            · have := Nat.mul_le_mul_right step x; omega
          have hi : n < Q + R + 2 := by
            rcases Nat.lt_or_ge n (Q + R + 2) with x | x
            · exact x
            · have := Nat.mul_le_mul_right step x; omega
          have en : n = Q + R + 1 := by omega
          subst en
          rw [Nat.succ_mul, e1] at n1 n2
          omega
        · rintro ⟨n1, n2⟩
          refine ⟨Q + R + 1, ?_, ?_⟩
          · rw [Nat.succ_mul, Nat.add_mul]; omega
          · rw [Nat.succ_mul, Nat.add_mul]; omega
      have ihh := ih (by_ % step) step (step - hq) (step - lq) (by have := Nat.mod_lt by_ hs; omega) (Nat.mod_lt _ hs) (by omega) (by omega) (by omega)
      rw [m1, m2]
      have toK : ∀ n, Good step by_ low high n → low + (n * step / by_) * by_ ≤ n * step ∧ n * step ≤ high + (n * step / by_) * by_ := by
        intro n hn
        unfold Good at hn
        have d := Nat.div_add_mod (n * step) by_
        rw [Nat.mul_comm] at d
        omega
      cases hm : mult (by_ % step) step (step - hq) (step - lq) with
      | none =>
        refine ⟨fun _ n hn => ?_, fun n hn => by simp at hn⟩
        exact ihh.1 hm _ ((key _).mp ⟨n, toK n hn⟩)
      | some k =>
        obtain ⟨gk, lk⟩ := ihh.2 k hm
        refine ⟨fun h => by simp at h, fun n hn => ?_⟩
        have e := Option.some.inj hn
        subst e
        have g2 := upw_ge (a := low + k * by_) hs
        obtain ⟨n', b1, b2⟩ := (key k).mpr gk
        have b3 := Nat.mul_le_mul_right step (upw_le hs b1)
        refine ⟨?_, fun m hm2 hg => ?_⟩
        · unfold Good
          obtain ⟨z, hz⟩ : ∃ z, upw (low + k * by_) step * step = z + k * by_ := ⟨_, (Nat.sub_add_cancel (by omega)).symm⟩
          rw [hz, Nat.add_mul_mod_self_right, Nat.mod_eq_of_lt (by omega)]
          omega
        · have t1 := toK m hg
          have t2 := (key _).mp ⟨m, t1⟩
          have t3 : k ≤ m * step / by_ := by
            rcases Nat.lt_or_ge (m * step / by_) k with x | x
            · exact absurd t2 (lk _ x)
            · exact x
          have t4 := Nat.mul_le_mul_right by_ t3
          have := upw_le (a := low + k * by_) hs (show low + k * by_ ≤ m * step by omega)
          omega
/-- The least one is below the divisor. -/
theorem mult_lt {step by_ low high n : Nat} (h2 : step < by_) (h3 : 0 < low) (h4 : low ≤ high) (h5 : high < by_) (h : mult step by_ low high = some n) : n < by_ := by
  obtain ⟨g, l⟩ := (mult_spec step step by_ low high (Nat.le_refl _) h2 h3 h4 h5).2 n h
  rcases Nat.lt_or_ge n by_ with c | c
  · exact c
  · exfalso
    refine l (n - by_) (by omega) ?_
    unfold Good at *
    obtain ⟨m, rfl⟩ : ∃ m, n = m + by_ := ⟨n - by_, by omega⟩
    rw [Nat.add_sub_cancel]
    rw [Nat.add_mul, Nat.mul_comm by_ step, Nat.add_mul_mod_self_right] at g
    exact g
/-- The first time from t on with which a period begins. -/
def fst0 (P F t : Int) : Int := t + (-(sinc P F t)) % P
theorem sinc_addk {P F t k : Int} : sinc P F (t + k) = (sinc P F t + k) % P := by
  unfold sinc; rw [Int.emod_add_emod]; congr 1; omega
theorem fst0_spec {P F t : Int} (hP : 1 ≤ P) : t ≤ fst0 P F t ∧ fst0 P F t < t + P ∧ sinc P F (fst0 P F t) = 0 ∧ ∀ m, t ≤ m → sinc P F m = 0 → ∃ j : Nat, m = fst0 P F t + j * P := by
  have h0 := Int.emod_nonneg (-(sinc P F t)) (show P ≠ 0 by omega)
  have h1 := Int.emod_lt_of_pos (-(sinc P F t)) (show 0 < P by omega)
  have hz : sinc P F (fst0 P F t) = 0 := by
    unfold fst0; rw [sinc_addk, Int.add_emod_emod, show sinc P F t + -(sinc P F t) = 0 by omega]; simp
  refine ⟨by unfold fst0; omega, by unfold fst0; omega, hz, fun m hm hs => ?_⟩
  have hd : P ∣ m - fst0 P F t := by
    unfold sinc at hz hs
    have := Int.dvd_sub (Int.dvd_of_emod_eq_zero hs) (Int.dvd_of_emod_eq_zero hz)
    rwa [show m - F - (fst0 P F t - F) = m - fst0 P F t by omega] at this
  obtain ⟨k, hk⟩ := hd
  have hk0 : 0 ≤ k := by
    rcases Int.lt_or_le k 0 with c | c
    · exfalso
      have : P * k ≤ P * (-1) := Int.mul_le_mul_of_nonneg_left (by omega) (by omega)
      unfold fst0 at hk
      omega
    · exact c
  obtain ⟨j, rfl⟩ := Int.eq_ofNat_of_zero_le hk0
  exact ⟨j, by rw [Int.mul_comm] at hk; omega⟩
/-- The first time with which a period of a begins and that is in b. -/
def begN (Pa Fa Pb Fb Lb t : Int) : Option Int :=
  if sinc Pb Fb (fst0 Pa Fa t) < Lb then some (fst0 Pa Fa t)
  else match mult (Pa % Pb).toNat Pb.toNat (Pb - sinc Pb Fb (fst0 Pa Fa t)).toNat (Pb - sinc Pb Fb (fst0 Pa Fa t) + Lb - 1).toNat with
    | none => none
    | some n => some (fst0 Pa Fa t + n * Pa)
theorem begN_spec {Pa Fa Pb Fb Lb t : Int} (hPa : 1 ≤ Pa) (hPb : 1 ≤ Pb) (hLb : 1 ≤ Lb) (hL2 : Lb ≤ Pb) :
    (begN Pa Fa Pb Fb Lb t = none → ∀ m, t ≤ m → sinc Pa Fa m = 0 → ¬ sinc Pb Fb m < Lb) ∧
    (∀ n, begN Pa Fa Pb Fb Lb t = some n → t ≤ n ∧ n ≤ t + Pa + Pb * Pa ∧ sinc Pa Fa n = 0 ∧ sinc Pb Fb n < Lb ∧ ∀ m, t ≤ m → m < n → sinc Pa Fa m = 0 → ¬ sinc Pb Fb m < Lb) := by
  obtain ⟨f1, f2, f3, f4⟩ := fst0_spec (F := Fa) (t := t) hPa
  have s1 : 0 ≤ sinc Pb Fb (fst0 Pa Fa t) := Int.emod_nonneg _ (by omega)
  have s2 : sinc Pb Fb (fst0 Pa Fa t) < Pb := Int.emod_lt_of_pos _ (by omega)
  have sA : ∀ j : Nat, sinc Pa Fa (fst0 Pa Fa t + j * Pa) = 0 := fun j => by rw [sinc_addk, f3, Int.zero_add, Int.mul_emod_left]
  have sB : ∀ j : Nat, sinc Pb Fb (fst0 Pa Fa t + j * Pa) = (sinc Pb Fb (fst0 Pa Fa t) + (j * Pa) % Pb) % Pb := fun j => by rw [sinc_addk, Int.add_emod_emod]
  unfold begN
  generalize fst0 Pa Fa t = f at *
  have hpp : 0 ≤ Pb * Pa := Int.mul_nonneg (by omega) (by omega)
  generalize hl : sinc Pb Fb f = l at *
  by_cases c : l < Lb
  · rw [if_pos c]
    refine ⟨fun h => by simp at h, fun n hn => ?_⟩
    have e := Option.some.inj hn
    subst e
    refine ⟨f1, by omega, f3, by omega, fun m hm hlt hs => ?_⟩
    obtain ⟨j, hj⟩ := f4 m hm hs
    have : (0 : Int) ≤ (j : Int) * Pa := Int.mul_nonneg (by omega) (by omega)
    omega
  · rw [if_neg c]
    have g : ∀ j : Nat, sinc Pb Fb (f + j * Pa) < Lb ↔ Good (Pa % Pb).toNat Pb.toNat (Pb - l).toNat (Pb - l + Lb - 1).toNat j := by
      intro j
      rw [sB]
      unfold Good
      have r0 := Int.emod_nonneg ((j : Int) * Pa) (show Pb ≠ 0 by omega)
      have r1 := Int.emod_lt_of_pos ((j : Int) * Pa) (show 0 < Pb by omega)
      have e : ((j * (Pa % Pb).toNat % Pb.toNat : Nat) : Int) = ((j : Int) * Pa) % Pb := by
        rw [Int.natCast_emod, Int.natCast_mul, Int.toNat_of_nonneg (Int.emod_nonneg _ (by omega)), Int.toNat_of_nonneg (by omega), Int.mul_emod (j : Int) (Pa % Pb), Int.emod_emod, ← Int.mul_emod]
      have e2 : (l + (j : Int) * Pa % Pb) % Pb = if l + (j : Int) * Pa % Pb < Pb then l + (j : Int) * Pa % Pb else l + (j : Int) * Pa % Pb - Pb := by
        split
        · rename_i x; rw [Int.emod_eq_of_lt (by omega) x]
        · rename_i x; rw [← Int.sub_emod_right, Int.emod_eq_of_lt (by omega) (by omega)]
      rw [e2]
      generalize (j : Int) * Pa % Pb = r at *
      generalize j * (Pa % Pb).toNat % Pb.toNat = z at *
      split <;> omega
    have hm1 := Int.emod_lt_of_pos Pa (show 0 < Pb by omega)
    have hm0 := Int.emod_nonneg Pa (show Pb ≠ 0 by omega)
    have hc1 : (Pa % Pb).toNat < Pb.toNat := by omega
    obtain ⟨n1, n2⟩ := mult_spec (Pa % Pb).toNat (Pa % Pb).toNat Pb.toNat (Pb - l).toNat (Pb - l + Lb - 1).toNat (Nat.le_refl _) hc1 (by omega) (by omega) (by omega)
    cases hm : mult (Pa % Pb).toNat Pb.toNat (Pb - l).toNat (Pb - l + Lb - 1).toNat with
    | none =>
      refine ⟨fun _ m hm2 hs hb => ?_, fun n hn => by simp at hn⟩
      obtain ⟨j, rfl⟩ := f4 m hm2 hs
      exact n1 hm j ((g j).mp hb)
    | some k =>
      obtain ⟨gk, lk⟩ := n2 k hm
      have hk := mult_lt hc1 (by omega) (by omega) (by omega) hm
      refine ⟨fun h => by simp at h, fun n hn => ?_⟩
      have e := Option.some.inj hn
      subst e
      have h1 : (0 : Int) ≤ (k : Int) * Pa := Int.mul_nonneg (by omega) (by omega)
      have h2 : (k : Int) * Pa ≤ Pb * Pa := Int.mul_le_mul_of_nonneg_right (by omega) (by omega)
      refine ⟨by omega, by omega, sA k, (g k).mpr gk, fun m hm2 hlt hs hb => ?_⟩
      obtain ⟨j, rfl⟩ := f4 m hm2 hs
      refine lk j ?_ ((g j).mp hb)
      rcases Nat.lt_or_ge j k with x | x
      · exact x
      · exfalso
        have := Int.mul_le_mul_of_nonneg_right (show (k : Int) ≤ j by omega) (show 0 ≤ Pa by omega)
        omega
def bothB (Pa Fa La Pb Fb Lb t : Int) : Bool := decide (sinc Pa Fa t < La) && decide (sinc Pb Fb t < Lb)
/-- The first time in both, found by the beginnings. -/
def nxtN (Pa Fa La Pb Fb Lb t : Int) : Int :=
  if bothB Pa Fa La Pb Fb Lb t then t
  else match begN Pa Fa Pb Fb Lb t, begN Pb Fb Pa Fa La t with
    | some m, some n => if n < m then n else m
    | some m, none => m
    | none, some n => n
    | none, none => 0
theorem sinc_pred {P F t : Int} (hP : 1 ≤ P) (h : sinc P F t ≠ 0) : sinc P F (t - 1) = sinc P F t - 1 := by
  have h0 : 0 ≤ sinc P F t := Int.emod_nonneg _ (by omega)
  have h1 : sinc P F t < P := Int.emod_lt_of_pos _ (by omega)
  rw [show t - 1 = t + (-1) by omega, sinc_addk, Int.emod_eq_of_lt (by omega) (by omega)]
  omega
theorem nxt_spec {Pa Fa La Pb Fb Lb t m : Int} (hPa : 1 ≤ Pa) (hPb : 1 ≤ Pb) (hLa : 1 ≤ La) (hLa2 : La ≤ Pa) (hLb : 1 ≤ Lb) (hLb2 : Lb ≤ Pb) (hm : t ≤ m) (hb : bothB Pa Fa La Pb Fb Lb m = true) (hl : ∀ k, t ≤ k → k < m → bothB Pa Fa La Pb Fb Lb k = false) :
    nxtN Pa Fa La Pb Fb Lb t = m := by
  unfold nxtN
  by_cases c : bothB Pa Fa La Pb Fb Lb t = true
  · rw [if_pos c]
    rcases Int.lt_or_eq_of_le hm with x | x
    · rw [hl t (Int.le_refl _) x] at c; simp at c
    · exact x
  · rw [if_neg c]
    have hmt : t < m := by
      rcases Int.lt_or_eq_of_le hm with x | x
      · exact x
      · subst x; exact absurd hb c
    have both : ∀ k, bothB Pa Fa La Pb Fb Lb k = true ↔ (sinc Pa Fa k < La ∧ sinc Pb Fb k < Lb) := fun k => by unfold bothB; simp
    have hb2 := (both m).mp hb
    have hbeg : sinc Pa Fa m = 0 ∨ sinc Pb Fb m = 0 := by
      by_cases a : sinc Pa Fa m = 0
      · exact Or.inl a
      · by_cases b : sinc Pb Fb m = 0
        · exact Or.inr b
        · exfalso
          have e1 := sinc_pred hPa a
          have e2 := sinc_pred hPb b
          have := hl (m - 1) (by omega) (by omega)
          have h3 : bothB Pa Fa La Pb Fb Lb (m - 1) = true := (both _).mpr (by omega)
          rw [h3] at this; simp at this
    obtain ⟨a1, a2⟩ := begN_spec (Fa := Fa) (Fb := Fb) (t := t) hPa hPb hLb hLb2
    obtain ⟨b1, b2⟩ := begN_spec (Fa := Fb) (Fb := Fa) (t := t) hPb hPa hLa hLa2
    have geA : ∀ n, begN Pa Fa Pb Fb Lb t = some n → m ≤ n := fun n hn => by
      obtain ⟨x1, _, x2, x3, _⟩ := a2 n hn
      rcases Int.lt_or_le n m with y | y
      · have := hl n x1 y
        have h3 : bothB Pa Fa La Pb Fb Lb n = true := (both _).mpr (by omega)
        rw [h3] at this; simp at this
      · exact y
    have geB : ∀ n, begN Pb Fb Pa Fa La t = some n → m ≤ n := fun n hn => by
      obtain ⟨x1, _, x2, x3, _⟩ := b2 n hn
      rcases Int.lt_or_le n m with y | y
      · have := hl n x1 y
        have h3 : bothB Pa Fa La Pb Fb Lb n = true := (both _).mpr (by omega)
        rw [h3] at this; simp at this
      · exact y
    have eqA : sinc Pa Fa m = 0 → begN Pa Fa Pb Fb Lb t = some m := fun h => by
      cases hn : begN Pa Fa Pb Fb Lb t with
      | none => exact absurd hb2.2 (a1 hn m hm h)
      | some n =>
        obtain ⟨_, _, _, _, x⟩ := a2 n hn
        have := geA n hn
        rcases Int.lt_or_eq_of_le this with y | y
        · exact absurd hb2.2 (x m hm y h)
        · rw [y]
    have eqB : sinc Pb Fb m = 0 → begN Pb Fb Pa Fa La t = some m := fun h => by
      cases hn : begN Pb Fb Pa Fa La t with
      | none => exact absurd hb2.1 (b1 hn m hm h)
      | some n =>
        obtain ⟨_, _, _, _, x⟩ := b2 n hn
        have := geB n hn
        rcases Int.lt_or_eq_of_le this with y | y
        · exact absurd hb2.1 (x m hm y h)
        · rw [y]
    rcases hbeg with h | h
    · rw [eqA h]
      cases hn : begN Pb Fb Pa Fa La t with
      | none => rfl
      | some n => have := geB n hn; show (if n < m then n else m) = m; rw [if_neg (by omega)]
    · rw [eqB h]
      cases hn : begN Pa Fa Pb Fb Lb t with
      | none => rfl
      | some n =>
        have := geA n hn
        show (if m < n then m else n) = m
        split
        · rfl
        · omega
end Go.Proofs.Ytlpbkifiidlllaa
