/- AscentMeets: the numbers, and the walk. -/
import Derived.Deep.DeepCutAuto
import Derived.Test.YtlpbkifiidlllaaRows
import Derived.Test.YtlpbkifiidlllaaBase
import Derived.Test.YtlpbkifiidlllaaFacts
import Derived.Test.YtlpbkifiidlllaaTwo
import Derived.Deep.RegionHeld3
import Derived.Deep.RegionWith
import Derived.Deep.QuietTactic
import Derived.BigQuiet
import Derived.Test.YtlpbkifiidlllaaSeq
import Derived.Test.YtlpbkifiidlllaaWinM
import Derived.Test.YtlpbkifiidlllaaWinF
import Derived.Test.YtlpbkifiidlllaaMeetM
import Derived.Test.YtlpbkifiidlllaaMeetF
import Derived.Test.YtlpbkifiidlllaaMeetB
import Derived.Test.YtlpbkifiidlllaaMeetO
import Derived.Test.YtlpbkifiidlllaaMeetC
import Derived.Test.YtlpbkifiidlllaaMeetR
set_option linter.unusedVariables false
set_option linter.unusedSimpArgs false
set_option maxHeartbeats 4000000
set_option maxRecDepth 100000
namespace Go.Proofs.Ytlpbkifiidlllaa
open Go Go.RowKit
theorem oft_cnt {p q la lb : Nat} {Fa Fb : Int} (hp : 0 < p) (hq : 0 < q) (h1 : la ≤ p) (h2 : lb ≤ q) : ((cnt (lcmN p q) (fun t => bothB p Fa la q Fb lb t) : Nat) : Int) = oftN p q la lb Fa Fb := by
  have e := often_count hp hq Fa Fb la lb h1 h2
  have e2 : cnt (lcmN p q) (fun t => bothB p Fa la q Fb lb t) = cnt (lcmN p q) (fun t => decide (((t : Int) - Fa) % p < la ∧ ((t : Int) - Fb) % q < lb)) := cnt_congr fun t _ => by
    unfold bothB sinc
    rw [Bool.decide_and]
  rw [e2, e]
  rfl
theorem sinc_per {P F z N : Int} (h : P ∣ N) : sinc P F (z % N) = sinc P F z := by
  unfold sinc
  obtain ⟨k, rfl⟩ := h
  have e : z = z % (P * k) + P * k * (z / (P * k)) := (Int.emod_add_mul_ediv z (P * k)).symm
  conv => rhs; rw [e]
  rw [show z % (P * k) + P * k * (z / (P * k)) - F = (z % (P * k) - F) + P * (k * (z / (P * k))) by rw [Int.mul_assoc]; omega, Int.add_mul_emod_self_left]
theorem both_per {p q la lb : Nat} {Fa Fb z : Int} : bothB p Fa la q Fb lb (z % (lcmN p q : Nat)) = bothB p Fa la q Fb lb z := by
  unfold bothB
  rw [sinc_per (dvd_lcm_left p q), sinc_per (dvd_lcm_right p q)]
theorem cnt_zero_all {n : Nat} {P : Nat → Bool} (h : cnt n P = 0) : ∀ t, t < n → P t = false := by
  induction n with
  | zero => intro t ht; omega
  | succ n ih =>
    rw [cnt] at h
    intro t ht
    cases hp : P n
    · rcases Nat.lt_or_eq_of_le (Nat.lt_succ_iff.mp ht) with c | rfl
      · exact ih (by omega) t c
      · exact hp
    · rw [hp] at h; simp at h
theorem none_all {p q la lb : Nat} {Fa Fb : Int} (hp : 0 < p) (hq : 0 < q) (h : cnt (lcmN p q) (fun t => bothB p Fa la q Fb lb t) = 0) (z : Int) : bothB p Fa la q Fb lb z = false := by
  have hN := lcm_pos hp hq
  have r0 := Int.emod_nonneg z (show ((lcmN p q : Nat) : Int) ≠ 0 by omega)
  have r1 := Int.emod_lt_of_pos z (show (0 : Int) < (lcmN p q : Nat) by omega)
  rw [← both_per]
  obtain ⟨n, hn⟩ := Int.eq_ofNat_of_zero_le r0
  rw [hn]
  exact cnt_zero_all h n (by omega)
theorem some_at {p q la lb : Nat} {Fa Fb : Int} (hp : 0 < p) (hq : 0 < q) (h : cnt (lcmN p q) (fun t => bothB p Fa la q Fb lb t) ≠ 0) (t : Int) : ∃ i : Nat, i < lcmN p q ∧ bothB p Fa la q Fb lb (t + i) = true := by
  have hN := lcm_pos hp hq
  obtain ⟨t0, h0, h1⟩ := cnt_pos (Nat.pos_of_ne_zero h)
  have r0 := Int.emod_nonneg ((t0 : Int) - t) (show ((lcmN p q : Nat) : Int) ≠ 0 by omega)
  have r1 := Int.emod_lt_of_pos ((t0 : Int) - t) (show (0 : Int) < (lcmN p q : Nat) by omega)
  obtain ⟨i, hi⟩ := Int.eq_ofNat_of_zero_le r0
  refine ⟨i, by omega, ?_⟩
  rw [← both_per, ← hi, Int.add_emod_emod, show t + ((t0 : Int) - t) = t0 by omega, both_per]
  exact h1
theorem least_nat {P : Nat → Bool} : ∀ n, P n = true → ∃ m, m ≤ n ∧ P m = true ∧ ∀ j, j < m → P j = false := by
  intro n
  induction n using Nat.strongRecOn with
  | _ n ih =>
    intro hn
    by_cases c : ∃ j, j < n ∧ P j = true
    · obtain ⟨j, hj, hp⟩ := c
      obtain ⟨m, h1, h2, h3⟩ := ih j hj hp
      exact ⟨m, by omega, h2, h3⟩
    · exact ⟨n, Nat.le_refl _, hn, fun j hj => by
        cases hp : P j
        · rfl
        · exact absurd ⟨j, hj, hp⟩ c⟩
theorem both_len {p q la lb : Nat} {Fa Fb z : Int} (hp : 0 < p) (hq : 0 < q) (h : bothB p Fa la q Fb lb z = true) : 1 ≤ la ∧ 1 ≤ lb := by
  unfold bothB sinc at h
  simp at h
  have := Int.emod_nonneg (z - Fa) (show (p : Int) ≠ 0 by omega)
  have := Int.emod_nonneg (z - Fb) (show (q : Int) ≠ 0 by omega)
  omega
def nxtR (p q la lb : Nat) (Fa Fb t : Int) : Int := if cnt (lcmN p q) (fun t => bothB p Fa la q Fb lb t) = 0 then 0 else nxtN p Fa la q Fb lb t
def nxtE (p q la lb : Nat) (Fa Fb : Int) : Int := if cnt (lcmN p q) (fun t => bothB p Fa la q Fb lb t) = 0 then 7 else 0
theorem nxt_doc {p q la lb : Nat} {Fa Fb t : Int} (hp : 0 < p) (hq : 0 < q) (h1 : la ≤ p) (h2 : lb ≤ q) :
    (∀ i : Nat, i < lcmN p q → bothB p Fa la q Fb lb (t + i) = true → (∀ j : Nat, j < i → bothB p Fa la q Fb lb (t + j) = false) → nxtR p q la lb Fa Fb t = t + i ∧ nxtE p q la lb Fa Fb = 0) ∧ ((∀ j : Nat, j < lcmN p q → bothB p Fa la q Fb lb (t + j) = false) → nxtR p q la lb Fa Fb t = 0 ∧ nxtE p q la lb Fa Fb = 7) := by
  unfold nxtR nxtE
  constructor
  · intro i hi hb hl
    have hc : cnt (lcmN p q) (fun t => bothB p Fa la q Fb lb t) ≠ 0 := fun h => by
      rw [none_all hp hq h] at hb; simp at hb
    rw [if_neg hc, if_neg hc]
    obtain ⟨a1, a2⟩ := both_len hp hq hb
    refine ⟨nxt_spec (by omega) (by omega) (by omega) (by omega) (by omega) (by omega) (by omega) hb ?_, rfl⟩
    intro k k1 k2
    obtain ⟨j, hj⟩ := Int.eq_ofNat_of_zero_le (show 0 ≤ k - t by omega)
    have := hl j (by omega)
    rwa [show t + (j : Int) = k by omega] at this
  · intro h
    have hc : cnt (lcmN p q) (fun t => bothB p Fa la q Fb lb t) = 0 := by
      rcases Nat.eq_zero_or_pos (cnt (lcmN p q) (fun t => bothB p Fa la q Fb lb t)) with c | c
      · exact c
      · obtain ⟨i, hi, hb⟩ := some_at hp hq (Nat.ne_of_gt c) t
        rw [h i hi] at hb; simp at hb
    rw [if_pos hc, if_pos hc]
    exact ⟨rfl, rfl⟩
theorem cnext_ok (p q la lb : Nat) (Fa Fb t : Int) (w : World) (ca : winB p Fa la = true) (cb : winB q Fb lb = true) (cc : timB t = true) :
    Calls Try.prog 15 #[.agg #[.int .i64 p, .int .i64 Fa, .int .i64 la], .agg #[.int .i64 q, .int .i64 Fb, .int .i64 lb], .int .i64 t] w fun e w' => e = .returned (.tuple #[.int .i64 (nxtR p q la lb Fa Fb t), .int .i64 (nxtE p q la lb Fa Fb)]) ∧ Below w.heap.size w w' := by
  obtain ⟨p1, p2, f1, f2, l1, l2⟩ := win_bd ca
  obtain ⟨q1, q2, g1, g2, m1, m2⟩ := win_bd cb
  have ho := oft_cnt (Fa := Fa) (Fb := Fb) (show 0 < p by omega) (show 0 < q by omega) (show la ≤ p by omega) (show lb ≤ q by omega)
  by_cases hc : cnt (lcmN p q) (fun t => bothB p Fa la q Fb lb t) = 0
  · have e1 : nxtR p q la lb Fa Fb t = 0 := if_pos hc
    have e2 : nxtE p q la lb Fa Fb = 7 := if_pos hc
    rw [e1, e2]
    exact cnext_none p q la lb Fa Fb t w ca cb cc (by rw [← ho, hc]; rfl)
  · have e1 : nxtR p q la lb Fa Fb t = nxtN p Fa la q Fb lb t := if_neg hc
    have e2 : nxtE p q la lb Fa Fb = 0 := if_neg hc
    rw [e1, e2]
    obtain ⟨i, hi, hb⟩ := some_at (show 0 < p by omega) (show 0 < q by omega) hc t
    obtain ⟨m, hm, hbm, hlm⟩ := least_nat (P := fun i => bothB p Fa la q Fb lb (t + (i : Int))) i hb
    obtain ⟨a1, a2⟩ := both_len (show 0 < p by omega) (show 0 < q by omega) hb
    refine cnext_some p q la lb Fa Fb t w ca cb cc (by rw [← ho]; omega) a1 a2 fun hnt => ?_
    rcases nxt_beg (t := t) (m := t + m) (show (1 : Int) ≤ p by omega) (show (1 : Int) ≤ q by omega) (show (1 : Int) ≤ la by omega) l2 (show (1 : Int) ≤ lb by omega) m2 (by omega) hbm (fun k k1 k2 => by
      obtain ⟨j, hj⟩ := Int.eq_ofNat_of_zero_le (show 0 ≤ k - t by omega)
      have := hlm j (by omega)
      rwa [show t + (j : Int) = k by omega] at this) with h | h | h
    · exact Or.inl h
    · exact Or.inr h
    · rw [h] at hbm; exact absurd hbm hnt
theorem lawMeets_ok (p q la lb : Nat) (Fa Fb t : Int) (w : World) (ht : (-9223372036854775808 ≤ t ∧ t ≤ 9223372036854775807)) (ca : winB p Fa la = true) (cb : winB q Fb lb = true) :
    Calls Try.prog 4 #[.agg #[.int .i64 p, .int .i64 Fa, .int .i64 la], .agg #[.int .i64 q, .int .i64 Fb, .int .i64 lb], .int .i64 t] w fun e w' => e = .returned (.bool true) ∧ Below w.heap.size w w' := by
  obtain ⟨p1, p2, f1, f2, l1, l2⟩ := win_bd ca
  obtain ⟨q1, q2, g1, g2, m1, m2⟩ := win_bd cb
  have k0 := hid (fun W => rbrief_ok p q la lb Fa Fb W ca cb)
  by_cases hN : lcmN p q ≤ 20000
  · rw [decide_eq_true (show ((lcmN p q : Nat) : Int) ≤ 20000 by omega)] at k0
    have k1 := hid (fun W => coften_ok p q la lb Fa Fb W ca cb)
    have k2 := hid (fun W => roften_ok p q la lb Fa Fb W ca cb hN)
    rw [oft_cnt (show 0 < p by omega) (show 0 < q by omega) (show la ≤ p by omega) (show lb ≤ q by omega)] at k2
    generalize oftN p q la lb Fa Fb = V at *
    cases cc : timB t
    · have k3 := hid (fun W => cnext_bad p Fa la q Fb lb t W (by omega) (by omega) ht (by rw [cc]; simp))
      have k4 := hid (fun W => rnext_bad p Fa la q Fb lb t W (by omega) (by omega) ht (by rw [cc]; simp))
      clear ca cb cc
      go_enter Try.func4, Try.ntmps4
      go_wp2_with fail
      refine useK w (k0.out _) (by go_grown) ?_; rintro e w1 rfl hB1 hk1 hs1
      replace p00 : w1.cell? ⟨w.heap.size, 0, none⟩ = some (.int .i64 p) := hk1 _ _ _ (by simp [go_sem])
      replace p01 : w1.cell? ⟨w.heap.size, 1, none⟩ = some (.int .i64 Fa) := hk1 _ _ _ (by simp [go_sem])
      replace p02 : w1.cell? ⟨w.heap.size, 2, none⟩ = some (.int .i64 la) := hk1 _ _ _ (by simp [go_sem])
      replace p10 : w1.cell? ⟨w.heap.size + 1, 0, none⟩ = some (.int .i64 q) := hk1 _ _ _ (by simp [go_sem])
      replace p11 : w1.cell? ⟨w.heap.size + 1, 1, none⟩ = some (.int .i64 Fb) := hk1 _ _ _ (by simp [go_sem])
      replace p12 : w1.cell? ⟨w.heap.size + 1, 2, none⟩ = some (.int .i64 lb) := hk1 _ _ _ (by simp [go_sem])
      have bp00 : w.heap.size < w1.heap.size := World.block_lt_of_cell? w1 ⟨w.heap.size, 0, none⟩ p00
      have bp10 : w.heap.size + 1 < w1.heap.size := World.block_lt_of_cell? w1 ⟨w.heap.size + 1, 0, none⟩ p10
      clear hk1
      go_wp2_with fail
      refine useK w (k1.out _) (by go_grown) ?_; rintro e w2 rfl hB2 hk2 hs2
      replace p00 : w2.cell? ⟨w.heap.size, 0, none⟩ = some (.int .i64 p) := hk2 _ _ _ (p00)
      replace p01 : w2.cell? ⟨w.heap.size, 1, none⟩ = some (.int .i64 Fa) := hk2 _ _ _ (p01)
      replace p02 : w2.cell? ⟨w.heap.size, 2, none⟩ = some (.int .i64 la) := hk2 _ _ _ (p02)
      replace p10 : w2.cell? ⟨w.heap.size + 1, 0, none⟩ = some (.int .i64 q) := hk2 _ _ _ (p10)
      replace p11 : w2.cell? ⟨w.heap.size + 1, 1, none⟩ = some (.int .i64 Fb) := hk2 _ _ _ (p11)
      replace p12 : w2.cell? ⟨w.heap.size + 1, 2, none⟩ = some (.int .i64 lb) := hk2 _ _ _ (p12)
      have bp00 : w.heap.size < w2.heap.size := World.block_lt_of_cell? w2 ⟨w.heap.size, 0, none⟩ p00
      have bp10 : w.heap.size + 1 < w2.heap.size := World.block_lt_of_cell? w2 ⟨w.heap.size + 1, 0, none⟩ p10
      clear hk2
      go_wp2_with fail
      refine useK w (k2.out _) (by go_grown) ?_; rintro e w3 rfl hB3 hk3 hs3
      replace p00 : w3.cell? ⟨w.heap.size, 0, none⟩ = some (.int .i64 p) := hk3 _ _ _ (p00)
      replace p01 : w3.cell? ⟨w.heap.size, 1, none⟩ = some (.int .i64 Fa) := hk3 _ _ _ (p01)
      replace p02 : w3.cell? ⟨w.heap.size, 2, none⟩ = some (.int .i64 la) := hk3 _ _ _ (p02)
      replace p10 : w3.cell? ⟨w.heap.size + 1, 0, none⟩ = some (.int .i64 q) := hk3 _ _ _ (p10)
      replace p11 : w3.cell? ⟨w.heap.size + 1, 1, none⟩ = some (.int .i64 Fb) := hk3 _ _ _ (p11)
      replace p12 : w3.cell? ⟨w.heap.size + 1, 2, none⟩ = some (.int .i64 lb) := hk3 _ _ _ (p12)
      have bp00 : w.heap.size < w3.heap.size := World.block_lt_of_cell? w3 ⟨w.heap.size, 0, none⟩ p00
      have bp10 : w.heap.size + 1 < w3.heap.size := World.block_lt_of_cell? w3 ⟨w.heap.size + 1, 0, none⟩ p10
      clear hk3
      go_wp2_with fail
      refine useK w (k3.out _) (by go_grown) ?_; rintro e w4 rfl hB4 hk4 hs4
      replace p00 : w4.cell? ⟨w.heap.size, 0, none⟩ = some (.int .i64 p) := hk4 _ _ _ (p00)
      replace p01 : w4.cell? ⟨w.heap.size, 1, none⟩ = some (.int .i64 Fa) := hk4 _ _ _ (p01)
      replace p02 : w4.cell? ⟨w.heap.size, 2, none⟩ = some (.int .i64 la) := hk4 _ _ _ (p02)
      replace p10 : w4.cell? ⟨w.heap.size + 1, 0, none⟩ = some (.int .i64 q) := hk4 _ _ _ (p10)
      replace p11 : w4.cell? ⟨w.heap.size + 1, 1, none⟩ = some (.int .i64 Fb) := hk4 _ _ _ (p11)
      replace p12 : w4.cell? ⟨w.heap.size + 1, 2, none⟩ = some (.int .i64 lb) := hk4 _ _ _ (p12)
      have bp00 : w.heap.size < w4.heap.size := World.block_lt_of_cell? w4 ⟨w.heap.size, 0, none⟩ p00
      have bp10 : w.heap.size + 1 < w4.heap.size := World.block_lt_of_cell? w4 ⟨w.heap.size + 1, 0, none⟩ p10
      clear hk4
      go_wp2_with fail
      refine useK w (k4.out _) (by go_grown) ?_; rintro e w5 rfl hB5 hk5 hs5
      replace p00 : w5.cell? ⟨w.heap.size, 0, none⟩ = some (.int .i64 p) := hk5 _ _ _ (p00)
      replace p01 : w5.cell? ⟨w.heap.size, 1, none⟩ = some (.int .i64 Fa) := hk5 _ _ _ (p01)
      replace p02 : w5.cell? ⟨w.heap.size, 2, none⟩ = some (.int .i64 la) := hk5 _ _ _ (p02)
      replace p10 : w5.cell? ⟨w.heap.size + 1, 0, none⟩ = some (.int .i64 q) := hk5 _ _ _ (p10)
      replace p11 : w5.cell? ⟨w.heap.size + 1, 1, none⟩ = some (.int .i64 Fb) := hk5 _ _ _ (p11)
      replace p12 : w5.cell? ⟨w.heap.size + 1, 2, none⟩ = some (.int .i64 lb) := hk5 _ _ _ (p12)
      have bp00 : w.heap.size < w5.heap.size := World.block_lt_of_cell? w5 ⟨w.heap.size, 0, none⟩ p00
      have bp10 : w.heap.size + 1 < w5.heap.size := World.block_lt_of_cell? w5 ⟨w.heap.size + 1, 0, none⟩ p10
      clear hk5
      go_wp2_with fail
      go_ret
      exact ⟨rfl, by go_grown⟩
    · have k3 := hid (fun W => cnext_ok p q la lb Fa Fb t W ca cb cc)
      have k4 := hid (fun W => rnext_ok p q la lb Fa Fb t _ _ W ca cb cc hN (nxt_doc (show 0 < p by omega) (show 0 < q by omega) (show la ≤ p by omega) (show lb ≤ q by omega)))
      generalize nxtR p q la lb Fa Fb t = R at *
      generalize nxtE p q la lb Fa Fb = E at *
      clear ca cb cc
      go_enter Try.func4, Try.ntmps4
      go_wp2_with fail
      refine useK w (k0.out _) (by go_grown) ?_; rintro e w1 rfl hB1 hk1 hs1
      replace p00 : w1.cell? ⟨w.heap.size, 0, none⟩ = some (.int .i64 p) := hk1 _ _ _ (by simp [go_sem])
      replace p01 : w1.cell? ⟨w.heap.size, 1, none⟩ = some (.int .i64 Fa) := hk1 _ _ _ (by simp [go_sem])
      replace p02 : w1.cell? ⟨w.heap.size, 2, none⟩ = some (.int .i64 la) := hk1 _ _ _ (by simp [go_sem])
      replace p10 : w1.cell? ⟨w.heap.size + 1, 0, none⟩ = some (.int .i64 q) := hk1 _ _ _ (by simp [go_sem])
      replace p11 : w1.cell? ⟨w.heap.size + 1, 1, none⟩ = some (.int .i64 Fb) := hk1 _ _ _ (by simp [go_sem])
      replace p12 : w1.cell? ⟨w.heap.size + 1, 2, none⟩ = some (.int .i64 lb) := hk1 _ _ _ (by simp [go_sem])
      have bp00 : w.heap.size < w1.heap.size := World.block_lt_of_cell? w1 ⟨w.heap.size, 0, none⟩ p00
      have bp10 : w.heap.size + 1 < w1.heap.size := World.block_lt_of_cell? w1 ⟨w.heap.size + 1, 0, none⟩ p10
      clear hk1
      go_wp2_with fail
      refine useK w (k1.out _) (by go_grown) ?_; rintro e w2 rfl hB2 hk2 hs2
      replace p00 : w2.cell? ⟨w.heap.size, 0, none⟩ = some (.int .i64 p) := hk2 _ _ _ (p00)
      replace p01 : w2.cell? ⟨w.heap.size, 1, none⟩ = some (.int .i64 Fa) := hk2 _ _ _ (p01)
      replace p02 : w2.cell? ⟨w.heap.size, 2, none⟩ = some (.int .i64 la) := hk2 _ _ _ (p02)
      replace p10 : w2.cell? ⟨w.heap.size + 1, 0, none⟩ = some (.int .i64 q) := hk2 _ _ _ (p10)
      replace p11 : w2.cell? ⟨w.heap.size + 1, 1, none⟩ = some (.int .i64 Fb) := hk2 _ _ _ (p11)
      replace p12 : w2.cell? ⟨w.heap.size + 1, 2, none⟩ = some (.int .i64 lb) := hk2 _ _ _ (p12)
      have bp00 : w.heap.size < w2.heap.size := World.block_lt_of_cell? w2 ⟨w.heap.size, 0, none⟩ p00
      have bp10 : w.heap.size + 1 < w2.heap.size := World.block_lt_of_cell? w2 ⟨w.heap.size + 1, 0, none⟩ p10
      clear hk2
      go_wp2_with fail
      refine useK w (k2.out _) (by go_grown) ?_; rintro e w3 rfl hB3 hk3 hs3
      replace p00 : w3.cell? ⟨w.heap.size, 0, none⟩ = some (.int .i64 p) := hk3 _ _ _ (p00)
      replace p01 : w3.cell? ⟨w.heap.size, 1, none⟩ = some (.int .i64 Fa) := hk3 _ _ _ (p01)
      replace p02 : w3.cell? ⟨w.heap.size, 2, none⟩ = some (.int .i64 la) := hk3 _ _ _ (p02)
      replace p10 : w3.cell? ⟨w.heap.size + 1, 0, none⟩ = some (.int .i64 q) := hk3 _ _ _ (p10)
      replace p11 : w3.cell? ⟨w.heap.size + 1, 1, none⟩ = some (.int .i64 Fb) := hk3 _ _ _ (p11)
      replace p12 : w3.cell? ⟨w.heap.size + 1, 2, none⟩ = some (.int .i64 lb) := hk3 _ _ _ (p12)
      have bp00 : w.heap.size < w3.heap.size := World.block_lt_of_cell? w3 ⟨w.heap.size, 0, none⟩ p00
      have bp10 : w.heap.size + 1 < w3.heap.size := World.block_lt_of_cell? w3 ⟨w.heap.size + 1, 0, none⟩ p10
      clear hk3
      go_wp2_with fail
      refine useK w (k3.out _) (by go_grown) ?_; rintro e w4 rfl hB4 hk4 hs4
      replace p00 : w4.cell? ⟨w.heap.size, 0, none⟩ = some (.int .i64 p) := hk4 _ _ _ (p00)
      replace p01 : w4.cell? ⟨w.heap.size, 1, none⟩ = some (.int .i64 Fa) := hk4 _ _ _ (p01)
      replace p02 : w4.cell? ⟨w.heap.size, 2, none⟩ = some (.int .i64 la) := hk4 _ _ _ (p02)
      replace p10 : w4.cell? ⟨w.heap.size + 1, 0, none⟩ = some (.int .i64 q) := hk4 _ _ _ (p10)
      replace p11 : w4.cell? ⟨w.heap.size + 1, 1, none⟩ = some (.int .i64 Fb) := hk4 _ _ _ (p11)
      replace p12 : w4.cell? ⟨w.heap.size + 1, 2, none⟩ = some (.int .i64 lb) := hk4 _ _ _ (p12)
      have bp00 : w.heap.size < w4.heap.size := World.block_lt_of_cell? w4 ⟨w.heap.size, 0, none⟩ p00
      have bp10 : w.heap.size + 1 < w4.heap.size := World.block_lt_of_cell? w4 ⟨w.heap.size + 1, 0, none⟩ p10
      clear hk4
      go_wp2_with fail
      refine useK w (k4.out _) (by go_grown) ?_; rintro e w5 rfl hB5 hk5 hs5
      replace p00 : w5.cell? ⟨w.heap.size, 0, none⟩ = some (.int .i64 p) := hk5 _ _ _ (p00)
      replace p01 : w5.cell? ⟨w.heap.size, 1, none⟩ = some (.int .i64 Fa) := hk5 _ _ _ (p01)
      replace p02 : w5.cell? ⟨w.heap.size, 2, none⟩ = some (.int .i64 la) := hk5 _ _ _ (p02)
      replace p10 : w5.cell? ⟨w.heap.size + 1, 0, none⟩ = some (.int .i64 q) := hk5 _ _ _ (p10)
      replace p11 : w5.cell? ⟨w.heap.size + 1, 1, none⟩ = some (.int .i64 Fb) := hk5 _ _ _ (p11)
      replace p12 : w5.cell? ⟨w.heap.size + 1, 2, none⟩ = some (.int .i64 lb) := hk5 _ _ _ (p12)
      have bp00 : w.heap.size < w5.heap.size := World.block_lt_of_cell? w5 ⟨w.heap.size, 0, none⟩ p00
      have bp10 : w.heap.size + 1 < w5.heap.size := World.block_lt_of_cell? w5 ⟨w.heap.size + 1, 0, none⟩ p10
      clear hk5
      go_wp2_with fail
      go_ret
      exact ⟨rfl, by go_grown⟩
  · rw [decide_eq_false (show ¬ ((lcmN p q : Nat) : Int) ≤ 20000 by omega)] at k0
    clear ca cb
    go_enter Try.func4, Try.ntmps4
    go_wp2_with fail
    refine useK w (k0.out _) (by go_grown) ?_; rintro e w1 rfl hB1 hk1 hs1
    replace p00 : w1.cell? ⟨w.heap.size, 0, none⟩ = some (.int .i64 p) := hk1 _ _ _ (by simp [go_sem])
    replace p01 : w1.cell? ⟨w.heap.size, 1, none⟩ = some (.int .i64 Fa) := hk1 _ _ _ (by simp [go_sem])
    replace p02 : w1.cell? ⟨w.heap.size, 2, none⟩ = some (.int .i64 la) := hk1 _ _ _ (by simp [go_sem])
    replace p10 : w1.cell? ⟨w.heap.size + 1, 0, none⟩ = some (.int .i64 q) := hk1 _ _ _ (by simp [go_sem])
    replace p11 : w1.cell? ⟨w.heap.size + 1, 1, none⟩ = some (.int .i64 Fb) := hk1 _ _ _ (by simp [go_sem])
    replace p12 : w1.cell? ⟨w.heap.size + 1, 2, none⟩ = some (.int .i64 lb) := hk1 _ _ _ (by simp [go_sem])
    have bp00 : w.heap.size < w1.heap.size := World.block_lt_of_cell? w1 ⟨w.heap.size, 0, none⟩ p00
    have bp10 : w.heap.size + 1 < w1.heap.size := World.block_lt_of_cell? w1 ⟨w.heap.size + 1, 0, none⟩ p10
    clear hk1
    go_wp2_with fail
    go_ret
    exact ⟨rfl, by go_grown⟩
theorem lawMeets_any (P Fa La Q Fb Lb t : Int) (w : World) (h1 : (-9223372036854775808 ≤ P ∧ P ≤ 9223372036854775807) ∧ (-9223372036854775808 ≤ Fa ∧ Fa ≤ 9223372036854775807) ∧ (-9223372036854775808 ≤ La ∧ La ≤ 9223372036854775807)) (h2 : (-9223372036854775808 ≤ Q ∧ Q ≤ 9223372036854775807) ∧ (-9223372036854775808 ≤ Fb ∧ Fb ≤ 9223372036854775807) ∧ (-9223372036854775808 ≤ Lb ∧ Lb ≤ 9223372036854775807)) (ht : (-9223372036854775808 ≤ t ∧ t ≤ 9223372036854775807)) :
    Calls Try.prog 4 #[.agg #[.int .i64 P, .int .i64 Fa, .int .i64 La], .agg #[.int .i64 Q, .int .i64 Fb, .int .i64 Lb], .int .i64 t] w fun e w' => e = .returned (.bool true) ∧ Below w.heap.size w w' := by
  by_cases h : winB P Fa La = true ∧ winB Q Fb Lb = true
  · obtain ⟨p1, p2, f1, f2, l1, l2⟩ := win_bd h.1
    obtain ⟨q1, q2, g1, g2, m1, m2⟩ := win_bd h.2
    obtain ⟨p, rfl⟩ := Int.eq_ofNat_of_zero_le (show 0 ≤ P by omega)
    obtain ⟨q, rfl⟩ := Int.eq_ofNat_of_zero_le (show 0 ≤ Q by omega)
    obtain ⟨la, rfl⟩ := Int.eq_ofNat_of_zero_le l1
    obtain ⟨lb, rfl⟩ := Int.eq_ofNat_of_zero_le m1
    exact lawMeets_ok p q la lb Fa Fb t w ht h.1 h.2
  · have k0 := hid (fun W => rbrief_bad P Fa La Q Fb Lb W h1 h2 h)
    have k1 := hid (fun W => coften_bad P Fa La Q Fb Lb W h1 h2 h)
    have k2 := hid (fun W => roften_bad P Fa La Q Fb Lb W h1 h2 h)
    have k3 := hid (fun W => cnext_bad P Fa La Q Fb Lb t W h1 h2 ht (fun x => h ⟨x.1, x.2.1⟩))
    have k4 := hid (fun W => rnext_bad P Fa La Q Fb Lb t W h1 h2 ht (fun x => h ⟨x.1, x.2.1⟩))
    clear h h1 h2 ht
    go_enter Try.func4, Try.ntmps4
    go_wp2_with fail
    refine useK w (k0.out _) (by go_grown) ?_; rintro e w1 rfl hB1 hk1 hs1
    replace p00 : w1.cell? ⟨w.heap.size, 0, none⟩ = some (.int .i64 P) := hk1 _ _ _ (by simp [go_sem])
    replace p01 : w1.cell? ⟨w.heap.size, 1, none⟩ = some (.int .i64 Fa) := hk1 _ _ _ (by simp [go_sem])
    replace p02 : w1.cell? ⟨w.heap.size, 2, none⟩ = some (.int .i64 La) := hk1 _ _ _ (by simp [go_sem])
    replace p10 : w1.cell? ⟨w.heap.size + 1, 0, none⟩ = some (.int .i64 Q) := hk1 _ _ _ (by simp [go_sem])
    replace p11 : w1.cell? ⟨w.heap.size + 1, 1, none⟩ = some (.int .i64 Fb) := hk1 _ _ _ (by simp [go_sem])
    replace p12 : w1.cell? ⟨w.heap.size + 1, 2, none⟩ = some (.int .i64 Lb) := hk1 _ _ _ (by simp [go_sem])
    have bp00 : w.heap.size < w1.heap.size := World.block_lt_of_cell? w1 ⟨w.heap.size, 0, none⟩ p00
    have bp10 : w.heap.size + 1 < w1.heap.size := World.block_lt_of_cell? w1 ⟨w.heap.size + 1, 0, none⟩ p10
    clear hk1
    go_wp2_with fail
    refine useK w (k1.out _) (by go_grown) ?_; rintro e w2 rfl hB2 hk2 hs2
    replace p00 : w2.cell? ⟨w.heap.size, 0, none⟩ = some (.int .i64 P) := hk2 _ _ _ (p00)
    replace p01 : w2.cell? ⟨w.heap.size, 1, none⟩ = some (.int .i64 Fa) := hk2 _ _ _ (p01)
    replace p02 : w2.cell? ⟨w.heap.size, 2, none⟩ = some (.int .i64 La) := hk2 _ _ _ (p02)
    replace p10 : w2.cell? ⟨w.heap.size + 1, 0, none⟩ = some (.int .i64 Q) := hk2 _ _ _ (p10)
    replace p11 : w2.cell? ⟨w.heap.size + 1, 1, none⟩ = some (.int .i64 Fb) := hk2 _ _ _ (p11)
    replace p12 : w2.cell? ⟨w.heap.size + 1, 2, none⟩ = some (.int .i64 Lb) := hk2 _ _ _ (p12)
    have bp00 : w.heap.size < w2.heap.size := World.block_lt_of_cell? w2 ⟨w.heap.size, 0, none⟩ p00
    have bp10 : w.heap.size + 1 < w2.heap.size := World.block_lt_of_cell? w2 ⟨w.heap.size + 1, 0, none⟩ p10
    clear hk2
    go_wp2_with fail
    refine useK w (k2.out _) (by go_grown) ?_; rintro e w3 rfl hB3 hk3 hs3
    replace p00 : w3.cell? ⟨w.heap.size, 0, none⟩ = some (.int .i64 P) := hk3 _ _ _ (p00)
    replace p01 : w3.cell? ⟨w.heap.size, 1, none⟩ = some (.int .i64 Fa) := hk3 _ _ _ (p01)
    replace p02 : w3.cell? ⟨w.heap.size, 2, none⟩ = some (.int .i64 La) := hk3 _ _ _ (p02)
    replace p10 : w3.cell? ⟨w.heap.size + 1, 0, none⟩ = some (.int .i64 Q) := hk3 _ _ _ (p10)
    replace p11 : w3.cell? ⟨w.heap.size + 1, 1, none⟩ = some (.int .i64 Fb) := hk3 _ _ _ (p11)
    replace p12 : w3.cell? ⟨w.heap.size + 1, 2, none⟩ = some (.int .i64 Lb) := hk3 _ _ _ (p12)
    have bp00 : w.heap.size < w3.heap.size := World.block_lt_of_cell? w3 ⟨w.heap.size, 0, none⟩ p00
    have bp10 : w.heap.size + 1 < w3.heap.size := World.block_lt_of_cell? w3 ⟨w.heap.size + 1, 0, none⟩ p10
    clear hk3
    go_wp2_with fail
    refine useK w (k3.out _) (by go_grown) ?_; rintro e w4 rfl hB4 hk4 hs4
    replace p00 : w4.cell? ⟨w.heap.size, 0, none⟩ = some (.int .i64 P) := hk4 _ _ _ (p00)
    replace p01 : w4.cell? ⟨w.heap.size, 1, none⟩ = some (.int .i64 Fa) := hk4 _ _ _ (p01)
    replace p02 : w4.cell? ⟨w.heap.size, 2, none⟩ = some (.int .i64 La) := hk4 _ _ _ (p02)
    replace p10 : w4.cell? ⟨w.heap.size + 1, 0, none⟩ = some (.int .i64 Q) := hk4 _ _ _ (p10)
    replace p11 : w4.cell? ⟨w.heap.size + 1, 1, none⟩ = some (.int .i64 Fb) := hk4 _ _ _ (p11)
    replace p12 : w4.cell? ⟨w.heap.size + 1, 2, none⟩ = some (.int .i64 Lb) := hk4 _ _ _ (p12)
    have bp00 : w.heap.size < w4.heap.size := World.block_lt_of_cell? w4 ⟨w.heap.size, 0, none⟩ p00
    have bp10 : w.heap.size + 1 < w4.heap.size := World.block_lt_of_cell? w4 ⟨w.heap.size + 1, 0, none⟩ p10
    clear hk4
    go_wp2_with fail
    refine useK w (k4.out _) (by go_grown) ?_; rintro e w5 rfl hB5 hk5 hs5
    replace p00 : w5.cell? ⟨w.heap.size, 0, none⟩ = some (.int .i64 P) := hk5 _ _ _ (p00)
    replace p01 : w5.cell? ⟨w.heap.size, 1, none⟩ = some (.int .i64 Fa) := hk5 _ _ _ (p01)
    replace p02 : w5.cell? ⟨w.heap.size, 2, none⟩ = some (.int .i64 La) := hk5 _ _ _ (p02)
    replace p10 : w5.cell? ⟨w.heap.size + 1, 0, none⟩ = some (.int .i64 Q) := hk5 _ _ _ (p10)
    replace p11 : w5.cell? ⟨w.heap.size + 1, 1, none⟩ = some (.int .i64 Fb) := hk5 _ _ _ (p11)
    replace p12 : w5.cell? ⟨w.heap.size + 1, 2, none⟩ = some (.int .i64 Lb) := hk5 _ _ _ (p12)
    have bp00 : w.heap.size < w5.heap.size := World.block_lt_of_cell? w5 ⟨w.heap.size, 0, none⟩ p00
    have bp10 : w.heap.size + 1 < w5.heap.size := World.block_lt_of_cell? w5 ⟨w.heap.size + 1, 0, none⟩ p10
    clear hk5
    go_wp2_with fail
    go_ret
    exact ⟨rfl, by go_grown⟩
end Go.Proofs.Ytlpbkifiidlllaa
