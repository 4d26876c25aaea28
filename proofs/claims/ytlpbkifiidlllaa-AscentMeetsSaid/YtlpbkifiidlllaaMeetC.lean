/- How often windows meet, and when next, by package ascent. -/
import Derived.Deep.DeepCutAuto
import Derived.Test.YtlpbkifiidlllaaRows
import Derived.Test.YtlpbkifiidlllaaBase
import Derived.Test.YtlpbkifiidlllaaFacts
import Derived.Test.YtlpbkifiidlllaaTwo
import Derived.Deep.RegionHeld3
import Derived.Deep.RegionWith
import Derived.Deep.QuietTactic
import Derived.BigQuiet
import Derived.Test.YtlpbkifiidlllaaSeq
import Derived.Test.YtlpbkifiidlllaaWinM
import Derived.Test.YtlpbkifiidlllaaWinF
import Derived.Test.YtlpbkifiidlllaaMeetM
import Derived.Test.YtlpbkifiidlllaaMeetF
import Derived.Test.YtlpbkifiidlllaaMeetB
import Derived.Test.YtlpbkifiidlllaaMeetO
set_option linter.unusedVariables false
set_option linter.unusedSimpArgs false
set_option maxHeartbeats 4000000
set_option maxRecDepth 100000
namespace Go.Proofs.Ytlpbkifiidlllaa
open Go Go.RowKit
def oftN (p q la lb : Nat) (Fa Fb : Int) : Int := oftV (Nat.gcd p q : Nat) (la / Nat.gcd p q : Nat) (la % Nat.gcd p q : Nat) (lb / Nat.gcd p q : Nat) (lb % Nat.gcd p q : Nat) ((Fa - Fb) % (Nat.gcd p q : Nat))
theorem coften_ok (p q la lb : Nat) (Fa Fb : Int) (w : World) (ca : winB p Fa la = true) (cb : winB q Fb lb = true) :
    Calls Try.prog 13 #[.agg #[.int .i64 p, .int .i64 Fa, .int .i64 la], .agg #[.int .i64 q, .int .i64 Fb, .int .i64 lb]] w fun e w' => e = .returned (.tuple #[.int .i64 (oftN p q la lb Fa Fb), .int .i64 0]) ∧ Below w.heap.size w w' := by
  obtain ⟨p1, p2, f1, f2, l1, l2⟩ := win_bd ca
  obtain ⟨q1, q2, g1, g2, m1, m2⟩ := win_bd cb
  have k1 := hid (fun W => iswin_any p Fa la W (by omega))
  have k2 := hid (fun W => iswin_any q Fb lb W (by omega))
  have k3 : Hid (∀ W : World, Calls Try.prog 28 #[.agg #[.int .i64 p, .int .i64 Fa, .int .i64 la], .agg #[.int .i64 q, .int .i64 Fb, .int .i64 lb]] W fun e w' => e = .returned (.int .i64 (oftN p q la lb Fa Fb)) ∧ Below W.heap.size W w') := hid fun W => often_any p q la lb Fa Fb W ca cb
  rw [ca] at k1
  rw [cb] at k2
  generalize oftN p q la lb Fa Fb = V at *
  clear ca cb
  go_enter Try.func13, Try.ntmps13
  go_wp2_with fail
  refine useK w (k1.out _) (by go_grown) ?_; rintro e w1 rfl hB1 hk1 hs1
  replace p00 : w1.cell? ⟨w.heap.size, 0, none⟩ = some (.int .i64 p) := hk1 _ _ _ (by simp [go_sem])
  replace p01 : w1.cell? ⟨w.heap.size, 1, none⟩ = some (.int .i64 Fa) := hk1 _ _ _ (by simp [go_sem])
  replace p02 : w1.cell? ⟨w.heap.size, 2, none⟩ = some (.int .i64 la) := hk1 _ _ _ (by simp [go_sem])
  replace p10 : w1.cell? ⟨w.heap.size + 1, 0, none⟩ = some (.int .i64 q) := hk1 _ _ _ (by simp [go_sem])
  replace p11 : w1.cell? ⟨w.heap.size + 1, 1, none⟩ = some (.int .i64 Fb) := hk1 _ _ _ (by simp [go_sem])
  replace p12 : w1.cell? ⟨w.heap.size + 1, 2, none⟩ = some (.int .i64 lb) := hk1 _ _ _ (by simp [go_sem])
  have bp00 : w.heap.size < w1.heap.size := World.block_lt_of_cell? w1 ⟨w.heap.size, 0, none⟩ p00
  have bp10 : w.heap.size + 1 < w1.heap.size := World.block_lt_of_cell? w1 ⟨w.heap.size + 1, 0, none⟩ p10
  clear hk1
  go_wp2_with fail
  refine useK w (k2.out _) (by go_grown) ?_; rintro e w2 rfl hB2 hk2 hs2
  replace p00 : w2.cell? ⟨w.heap.size, 0, none⟩ = some (.int .i64 p) := hk2 _ _ _ (p00)
  replace p01 : w2.cell? ⟨w.heap.size, 1, none⟩ = some (.int .i64 Fa) := hk2 _ _ _ (p01)
  replace p02 : w2.cell? ⟨w.heap.size, 2, none⟩ = some (.int .i64 la) := hk2 _ _ _ (p02)
  replace p10 : w2.cell? ⟨w.heap.size + 1, 0, none⟩ = some (.int .i64 q) := hk2 _ _ _ (p10)
  replace p11 : w2.cell? ⟨w.heap.size + 1, 1, none⟩ = some (.int .i64 Fb) := hk2 _ _ _ (p11)
  replace p12 : w2.cell? ⟨w.heap.size + 1, 2, none⟩ = some (.int .i64 lb) := hk2 _ _ _ (p12)
  have bp00 : w.heap.size < w2.heap.size := World.block_lt_of_cell? w2 ⟨w.heap.size, 0, none⟩ p00
  have bp10 : w.heap.size + 1 < w2.heap.size := World.block_lt_of_cell? w2 ⟨w.heap.size + 1, 0, none⟩ p10
  clear hk2
  go_wp2_with fail
  refine useK w (k3.out _) (by go_grown) ?_; rintro e w3 rfl hB3 hk3 hs3
  replace p00 : w3.cell? ⟨w.heap.size, 0, none⟩ = some (.int .i64 p) := hk3 _ _ _ (p00)
  replace p01 : w3.cell? ⟨w.heap.size, 1, none⟩ = some (.int .i64 Fa) := hk3 _ _ _ (p01)
  replace p02 : w3.cell? ⟨w.heap.size, 2, none⟩ = some (.int .i64 la) := hk3 _ _ _ (p02)
  replace p10 : w3.cell? ⟨w.heap.size + 1, 0, none⟩ = some (.int .i64 q) := hk3 _ _ _ (p10)
  replace p11 : w3.cell? ⟨w.heap.size + 1, 1, none⟩ = some (.int .i64 Fb) := hk3 _ _ _ (p11)
  replace p12 : w3.cell? ⟨w.heap.size + 1, 2, none⟩ = some (.int .i64 lb) := hk3 _ _ _ (p12)
  have bp00 : w.heap.size < w3.heap.size := World.block_lt_of_cell? w3 ⟨w.heap.size, 0, none⟩ p00
  have bp10 : w.heap.size + 1 < w3.heap.size := World.block_lt_of_cell? w3 ⟨w.heap.size + 1, 0, none⟩ p10
  clear hk3
  go_wp2_with fail
  go_ret2
  exact ⟨rfl, by go_grown⟩
theorem coften_bad (P Fa La Q Fb Lb : Int) (w : World) (h1 : (-9223372036854775808 ≤ P ∧ P ≤ 9223372036854775807) ∧ (-9223372036854775808 ≤ Fa ∧ Fa ≤ 9223372036854775807) ∧ (-9223372036854775808 ≤ La ∧ La ≤ 9223372036854775807)) (h2 : (-9223372036854775808 ≤ Q ∧ Q ≤ 9223372036854775807) ∧ (-9223372036854775808 ≤ Fb ∧ Fb ≤ 9223372036854775807) ∧ (-9223372036854775808 ≤ Lb ∧ Lb ≤ 9223372036854775807)) (h : ¬ (winB P Fa La = true ∧ winB Q Fb Lb = true)) :
    Calls Try.prog 13 #[.agg #[.int .i64 P, .int .i64 Fa, .int .i64 La], .agg #[.int .i64 Q, .int .i64 Fb, .int .i64 Lb]] w fun e w' => e = .returned (.tuple #[.int .i64 0, .int .i64 2]) ∧ Below w.heap.size w w' := by
  have k1 := hid (fun W => iswin_any P Fa La W h1)
  have k2 := hid (fun W => iswin_any Q Fb Lb W h2)
  cases ca : winB P Fa La
  · rw [ca] at k1
    clear h h1 h2 k2
    go_enter Try.func13, Try.ntmps13
    go_wp2_with fail
    refine useK w (k1.out _) (by go_grown) ?_; rintro e w1 rfl hB1 hk1 hs1
    replace p00 : w1.cell? ⟨w.heap.size, 0, none⟩ = some (.int .i64 P) := hk1 _ _ _ (by simp [go_sem])
    replace p01 : w1.cell? ⟨w.heap.size, 1, none⟩ = some (.int .i64 Fa) := hk1 _ _ _ (by simp [go_sem])
    replace p02 : w1.cell? ⟨w.heap.size, 2, none⟩ = some (.int .i64 La) := hk1 _ _ _ (by simp [go_sem])
    replace p10 : w1.cell? ⟨w.heap.size + 1, 0, none⟩ = some (.int .i64 Q) := hk1 _ _ _ (by simp [go_sem])
    replace p11 : w1.cell? ⟨w.heap.size + 1, 1, none⟩ = some (.int .i64 Fb) := hk1 _ _ _ (by simp [go_sem])
    replace p12 : w1.cell? ⟨w.heap.size + 1, 2, none⟩ = some (.int .i64 Lb) := hk1 _ _ _ (by simp [go_sem])
    have bp00 : w.heap.size < w1.heap.size := World.block_lt_of_cell? w1 ⟨w.heap.size, 0, none⟩ p00
    have bp10 : w.heap.size + 1 < w1.heap.size := World.block_lt_of_cell? w1 ⟨w.heap.size + 1, 0, none⟩ p10
    clear hk1
    go_wp2_with fail
    go_ret2
    exact ⟨rfl, by go_grown⟩
  · have cb : winB Q Fb Lb = false := by
      cases cb : winB Q Fb Lb
      · rfl
      · exact absurd ⟨ca, cb⟩ h
    rw [ca] at k1
    rw [cb] at k2
    clear h h1 h2
    go_enter Try.func13, Try.ntmps13
    go_wp2_with fail
    refine useK w (k1.out _) (by go_grown) ?_; rintro e w1 rfl hB1 hk1 hs1
    replace p00 : w1.cell? ⟨w.heap.size, 0, none⟩ = some (.int .i64 P) := hk1 _ _ _ (by simp [go_sem])
    replace p01 : w1.cell? ⟨w.heap.size, 1, none⟩ = some (.int .i64 Fa) := hk1 _ _ _ (by simp [go_sem])
    replace p02 : w1.cell? ⟨w.heap.size, 2, none⟩ = some (.int .i64 La) := hk1 _ _ _ (by simp [go_sem])
    replace p10 : w1.cell? ⟨w.heap.size + 1, 0, none⟩ = some (.int .i64 Q) := hk1 _ _ _ (by simp [go_sem])
    replace p11 : w1.cell? ⟨w.heap.size + 1, 1, none⟩ = some (.int .i64 Fb) := hk1 _ _ _ (by simp [go_sem])
    replace p12 : w1.cell? ⟨w.heap.size + 1, 2, none⟩ = some (.int .i64 Lb) := hk1 _ _ _ (by simp [go_sem])
    have bp00 : w.heap.size < w1.heap.size := World.block_lt_of_cell? w1 ⟨w.heap.size, 0, none⟩ p00
    have bp10 : w.heap.size + 1 < w1.heap.size := World.block_lt_of_cell? w1 ⟨w.heap.size + 1, 0, none⟩ p10
    clear hk1
    go_wp2_with fail
    refine useK w (k2.out _) (by go_grown) ?_; rintro e w2 rfl hB2 hk2 hs2
    replace p00 : w2.cell? ⟨w.heap.size, 0, none⟩ = some (.int .i64 P) := hk2 _ _ _ (p00)
    replace p01 : w2.cell? ⟨w.heap.size, 1, none⟩ = some (.int .i64 Fa) := hk2 _ _ _ (p01)
    replace p02 : w2.cell? ⟨w.heap.size, 2, none⟩ = some (.int .i64 La) := hk2 _ _ _ (p02)
    replace p10 : w2.cell? ⟨w.heap.size + 1, 0, none⟩ = some (.int .i64 Q) := hk2 _ _ _ (p10)
    replace p11 : w2.cell? ⟨w.heap.size + 1, 1, none⟩ = some (.int .i64 Fb) := hk2 _ _ _ (p11)
    replace p12 : w2.cell? ⟨w.heap.size + 1, 2, none⟩ = some (.int .i64 Lb) := hk2 _ _ _ (p12)
    have bp00 : w.heap.size < w2.heap.size := World.block_lt_of_cell? w2 ⟨w.heap.size, 0, none⟩ p00
    have bp10 : w.heap.size + 1 < w2.heap.size := World.block_lt_of_cell? w2 ⟨w.heap.size + 1, 0, none⟩ p10
    clear hk2
    go_wp2_with fail
    go_ret2
    exact ⟨rfl, by go_grown⟩
theorem cnext_bad (P Fa La Q Fb Lb t : Int) (w : World) (h1 : (-9223372036854775808 ≤ P ∧ P ≤ 9223372036854775807) ∧ (-9223372036854775808 ≤ Fa ∧ Fa ≤ 9223372036854775807) ∧ (-9223372036854775808 ≤ La ∧ La ≤ 9223372036854775807)) (h2 : (-9223372036854775808 ≤ Q ∧ Q ≤ 9223372036854775807) ∧ (-9223372036854775808 ≤ Fb ∧ Fb ≤ 9223372036854775807) ∧ (-9223372036854775808 ≤ Lb ∧ Lb ≤ 9223372036854775807)) (h3 : (-9223372036854775808 ≤ t ∧ t ≤ 9223372036854775807)) (h : ¬ (winB P Fa La = true ∧ winB Q Fb Lb = true ∧ timB t = true)) :
    Calls Try.prog 15 #[.agg #[.int .i64 P, .int .i64 Fa, .int .i64 La], .agg #[.int .i64 Q, .int .i64 Fb, .int .i64 Lb], .int .i64 t] w fun e w' => e = .returned (.tuple #[.int .i64 0, .int .i64 2]) ∧ Below w.heap.size w w' := by
  have k1 := hid (fun W => iswin_any P Fa La W h1)
  have k2 := hid (fun W => iswin_any Q Fb Lb W h2)
  have k3 := hid (fun W => isinst_any t W h3)
  cases ca : winB P Fa La
  · rw [ca] at k1
    clear h h1 h2 h3 k2 k3
    go_enter Try.func15, Try.ntmps15
    go_wp2_with fail
    refine useK w (k1.out _) (by go_grown) ?_; rintro e w1 rfl hB1 hk1 hs1
    replace p00 : w1.cell? ⟨w.heap.size, 0, none⟩ = some (.int .i64 P) := hk1 _ _ _ (by simp [go_sem])
    replace p01 : w1.cell? ⟨w.heap.size, 1, none⟩ = some (.int .i64 Fa) := hk1 _ _ _ (by simp [go_sem])
    replace p02 : w1.cell? ⟨w.heap.size, 2, none⟩ = some (.int .i64 La) := hk1 _ _ _ (by simp [go_sem])
    replace p10 : w1.cell? ⟨w.heap.size + 1, 0, none⟩ = some (.int .i64 Q) := hk1 _ _ _ (by simp [go_sem])
    replace p11 : w1.cell? ⟨w.heap.size + 1, 1, none⟩ = some (.int .i64 Fb) := hk1 _ _ _ (by simp [go_sem])
    replace p12 : w1.cell? ⟨w.heap.size + 1, 2, none⟩ = some (.int .i64 Lb) := hk1 _ _ _ (by simp [go_sem])
    have bp00 : w.heap.size < w1.heap.size := World.block_lt_of_cell? w1 ⟨w.heap.size, 0, none⟩ p00
    have bp10 : w.heap.size + 1 < w1.heap.size := World.block_lt_of_cell? w1 ⟨w.heap.size + 1, 0, none⟩ p10
    clear hk1
    go_wp2_with fail
    go_ret2
    exact ⟨rfl, by go_grown⟩
  cases cb : winB Q Fb Lb
  · rw [ca] at k1
    rw [cb] at k2
    clear h h1 h2 h3 k3
    go_enter Try.func15, Try.ntmps15
    go_wp2_with fail
    refine useK w (k1.out _) (by go_grown) ?_; rintro e w1 rfl hB1 hk1 hs1
    replace p00 : w1.cell? ⟨w.heap.size, 0, none⟩ = some (.int .i64 P) := hk1 _ _ _ (by simp [go_sem])
    replace p01 : w1.cell? ⟨w.heap.size, 1, none⟩ = some (.int .i64 Fa) := hk1 _ _ _ (by simp [go_sem])
    replace p02 : w1.cell? ⟨w.heap.size, 2, none⟩ = some (.int .i64 La) := hk1 _ _ _ (by simp [go_sem])
    replace p10 : w1.cell? ⟨w.heap.size + 1, 0, none⟩ = some (.int .i64 Q) := hk1 _ _ _ (by simp [go_sem])
    replace p11 : w1.cell? ⟨w.heap.size + 1, 1, none⟩ = some (.int .i64 Fb) := hk1 _ _ _ (by simp [go_sem])
    replace p12 : w1.cell? ⟨w.heap.size + 1, 2, none⟩ = some (.int .i64 Lb) := hk1 _ _ _ (by simp [go_sem])
    have bp00 : w.heap.size < w1.heap.size := World.block_lt_of_cell? w1 ⟨w.heap.size, 0, none⟩ p00
    have bp10 : w.heap.size + 1 < w1.heap.size := World.block_lt_of_cell? w1 ⟨w.heap.size + 1, 0, none⟩ p10
    clear hk1
    go_wp2_with fail
    refine useK w (k2.out _) (by go_grown) ?_; rintro e w2 rfl hB2 hk2 hs2
    replace p00 : w2.cell? ⟨w.heap.size, 0, none⟩ = some (.int .i64 P) := hk2 _ _ _ (p00)
    replace p01 : w2.cell? ⟨w.heap.size, 1, none⟩ = some (.int .i64 Fa) := hk2 _ _ _ (p01)
    replace p02 : w2.cell? ⟨w.heap.size, 2, none⟩ = some (.int .i64 La) := hk2 _ _ _ (p02)
    replace p10 : w2.cell? ⟨w.heap.size + 1, 0, none⟩ = some (.int .i64 Q) := hk2 _ _ _ (p10)
    replace p11 : w2.cell? ⟨w.heap.size + 1, 1, none⟩ = some (.int .i64 Fb) := hk2 _ _ _ (p11)
    replace p12 : w2.cell? ⟨w.heap.size + 1, 2, none⟩ = some (.int .i64 Lb) := hk2 _ _ _ (p12)
    have bp00 : w.heap.size < w2.heap.size := World.block_lt_of_cell? w2 ⟨w.heap.size, 0, none⟩ p00
    have bp10 : w.heap.size + 1 < w2.heap.size := World.block_lt_of_cell? w2 ⟨w.heap.size + 1, 0, none⟩ p10
    clear hk2
    go_wp2_with fail
    go_ret2
    exact ⟨rfl, by go_grown⟩
  · have cc : timB t = false := by
      cases cc : timB t
      · rfl
      · exact absurd ⟨ca, cb, cc⟩ h
    rw [ca] at k1
    rw [cb] at k2
    rw [cc] at k3
    clear h h1 h2 h3
    go_enter Try.func15, Try.ntmps15
    go_wp2_with fail
    refine useK w (k1.out _) (by go_grown) ?_; rintro e w1 rfl hB1 hk1 hs1
    replace p00 : w1.cell? ⟨w.heap.size, 0, none⟩ = some (.int .i64 P) := hk1 _ _ _ (by simp [go_sem])
    replace p01 : w1.cell? ⟨w.heap.size, 1, none⟩ = some (.int .i64 Fa) := hk1 _ _ _ (by simp [go_sem])
    replace p02 : w1.cell? ⟨w.heap.size, 2, none⟩ = some (.int .i64 La) := hk1 _ _ _ (by simp [go_sem])
    replace p10 : w1.cell? ⟨w.heap.size + 1, 0, none⟩ = some (.int .i64 Q) := hk1 _ _ _ (by simp [go_sem])
    replace p11 : w1.cell? ⟨w.heap.size + 1, 1, none⟩ = some (.int .i64 Fb) := hk1 _ _ _ (by simp [go_sem])
    replace p12 : w1.cell? ⟨w.heap.size + 1, 2, none⟩ = some (.int .i64 Lb) := hk1 _ _ _ (by simp [go_sem])
    have bp00 : w.heap.size < w1.heap.size := World.block_lt_of_cell? w1 ⟨w.heap.size, 0, none⟩ p00
    have bp10 : w.heap.size + 1 < w1.heap.size := World.block_lt_of_cell? w1 ⟨w.heap.size + 1, 0, none⟩ p10
    clear hk1
    go_wp2_with fail
    refine useK w (k2.out _) (by go_grown) ?_; rintro e w2 rfl hB2 hk2 hs2
    replace p00 : w2.cell? ⟨w.heap.size, 0, none⟩ = some (.int .i64 P) := hk2 _ _ _ (p00)
    replace p01 : w2.cell? ⟨w.heap.size, 1, none⟩ = some (.int .i64 Fa) := hk2 _ _ _ (p01)
    replace p02 : w2.cell? ⟨w.heap.size, 2, none⟩ = some (.int .i64 La) := hk2 _ _ _ (p02)
    replace p10 : w2.cell? ⟨w.heap.size + 1, 0, none⟩ = some (.int .i64 Q) := hk2 _ _ _ (p10)
    replace p11 : w2.cell? ⟨w.heap.size + 1, 1, none⟩ = some (.int .i64 Fb) := hk2 _ _ _ (p11)
    replace p12 : w2.cell? ⟨w.heap.size + 1, 2, none⟩ = some (.int .i64 Lb) := hk2 _ _ _ (p12)
    have bp00 : w.heap.size < w2.heap.size := World.block_lt_of_cell? w2 ⟨w.heap.size, 0, none⟩ p00
    have bp10 : w.heap.size + 1 < w2.heap.size := World.block_lt_of_cell? w2 ⟨w.heap.size + 1, 0, none⟩ p10
    clear hk2
    go_wp2_with fail
    refine useK w (k3.out _) (by go_grown) ?_; rintro e w3 rfl hB3 hk3 hs3
    replace p00 : w3.cell? ⟨w.heap.size, 0, none⟩ = some (.int .i64 P) := hk3 _ _ _ (p00)
    replace p01 : w3.cell? ⟨w.heap.size, 1, none⟩ = some (.int .i64 Fa) := hk3 _ _ _ (p01)
    replace p02 : w3.cell? ⟨w.heap.size, 2, none⟩ = some (.int .i64 La) := hk3 _ _ _ (p02)
    replace p10 : w3.cell? ⟨w.heap.size + 1, 0, none⟩ = some (.int .i64 Q) := hk3 _ _ _ (p10)
    replace p11 : w3.cell? ⟨w.heap.size + 1, 1, none⟩ = some (.int .i64 Fb) := hk3 _ _ _ (p11)
    replace p12 : w3.cell? ⟨w.heap.size + 1, 2, none⟩ = some (.int .i64 Lb) := hk3 _ _ _ (p12)
    have bp00 : w.heap.size < w3.heap.size := World.block_lt_of_cell? w3 ⟨w.heap.size, 0, none⟩ p00
    have bp10 : w.heap.size + 1 < w3.heap.size := World.block_lt_of_cell? w3 ⟨w.heap.size + 1, 0, none⟩ p10
    clear hk3
    go_wp2_with fail
    go_ret2
    exact ⟨rfl, by go_grown⟩
theorem cnext_none (p q la lb : Nat) (Fa Fb t : Int) (w : World) (ca : winB p Fa la = true) (cb : winB q Fb lb = true) (cc : timB t = true) (hV : oftN p q la lb Fa Fb = 0) :
    Calls Try.prog 15 #[.agg #[.int .i64 p, .int .i64 Fa, .int .i64 la], .agg #[.int .i64 q, .int .i64 Fb, .int .i64 lb], .int .i64 t] w fun e w' => e = .returned (.tuple #[.int .i64 0, .int .i64 7]) ∧ Below w.heap.size w w' := by
  obtain ⟨p1, p2, f1, f2, l1, l2⟩ := win_bd ca
  obtain ⟨q1, q2, g1, g2, m1, m2⟩ := win_bd cb
  have hb := of_decide_eq_true cc
  obtain ⟨t1, t2⟩ := hb
  have k1 := hid (fun W => iswin_any p Fa la W (by omega))
  have k2 := hid (fun W => iswin_any q Fb lb W (by omega))
  have k3 := hid (fun W => isinst_any t W (by omega))
  have k4 : Hid (∀ W : World, Calls Try.prog 28 #[.agg #[.int .i64 p, .int .i64 Fa, .int .i64 la], .agg #[.int .i64 q, .int .i64 Fb, .int .i64 lb]] W fun e w' => e = .returned (.int .i64 (oftN p q la lb Fa Fb)) ∧ Below W.heap.size W w') := hid fun W => often_any p q la lb Fa Fb W ca cb
  rw [ca] at k1
  rw [cb] at k2
  rw [cc] at k3
  rw [hV] at k4
  clear ca cb cc hV
  go_enter Try.func15, Try.ntmps15
  go_wp2_with fail
  refine useK w (k1.out _) (by go_grown) ?_; rintro e w1 rfl hB1 hk1 hs1
  replace p00 : w1.cell? ⟨w.heap.size, 0, none⟩ = some (.int .i64 p) := hk1 _ _ _ (by simp [go_sem])
  replace p01 : w1.cell? ⟨w.heap.size, 1, none⟩ = some (.int .i64 Fa) := hk1 _ _ _ (by simp [go_sem])
  replace p02 : w1.cell? ⟨w.heap.size, 2, none⟩ = some (.int .i64 la) := hk1 _ _ _ (by simp [go_sem])
  replace p10 : w1.cell? ⟨w.heap.size + 1, 0, none⟩ = some (.int .i64 q) := hk1 _ _ _ (by simp [go_sem])
  replace p11 : w1.cell? ⟨w.heap.size + 1, 1, none⟩ = some (.int .i64 Fb) := hk1 _ _ _ (by simp [go_sem])
  replace p12 : w1.cell? ⟨w.heap.size + 1, 2, none⟩ = some (.int .i64 lb) := hk1 _ _ _ (by simp [go_sem])
  have bp00 : w.heap.size < w1.heap.size := World.block_lt_of_cell? w1 ⟨w.heap.size, 0, none⟩ p00
  have bp10 : w.heap.size + 1 < w1.heap.size := World.block_lt_of_cell? w1 ⟨w.heap.size + 1, 0, none⟩ p10
  clear hk1
  go_wp2_with fail
  refine useK w (k2.out _) (by go_grown) ?_; rintro e w2 rfl hB2 hk2 hs2
  replace p00 : w2.cell? ⟨w.heap.size, 0, none⟩ = some (.int .i64 p) := hk2 _ _ _ (p00)
  replace p01 : w2.cell? ⟨w.heap.size, 1, none⟩ = some (.int .i64 Fa) := hk2 _ _ _ (p01)
  replace p02 : w2.cell? ⟨w.heap.size, 2, none⟩ = some (.int .i64 la) := hk2 _ _ _ (p02)
  replace p10 : w2.cell? ⟨w.heap.size + 1, 0, none⟩ = some (.int .i64 q) := hk2 _ _ _ (p10)
  replace p11 : w2.cell? ⟨w.heap.size + 1, 1, none⟩ = some (.int .i64 Fb) := hk2 _ _ _ (p11)
  replace p12 : w2.cell? ⟨w.heap.size + 1, 2, none⟩ = some (.int .i64 lb) := hk2 _ _ _ (p12)
  have bp00 : w.heap.size < w2.heap.size := World.block_lt_of_cell? w2 ⟨w.heap.size, 0, none⟩ p00
  have bp10 : w.heap.size + 1 < w2.heap.size := World.block_lt_of_cell? w2 ⟨w.heap.size + 1, 0, none⟩ p10
  clear hk2
  go_wp2_with fail
  refine useK w (k3.out _) (by go_grown) ?_; rintro e w3 rfl hB3 hk3 hs3
  replace p00 : w3.cell? ⟨w.heap.size, 0, none⟩ = some (.int .i64 p) := hk3 _ _ _ (p00)
  replace p01 : w3.cell? ⟨w.heap.size, 1, none⟩ = some (.int .i64 Fa) := hk3 _ _ _ (p01)
  replace p02 : w3.cell? ⟨w.heap.size, 2, none⟩ = some (.int .i64 la) := hk3 _ _ _ (p02)
  replace p10 : w3.cell? ⟨w.heap.size + 1, 0, none⟩ = some (.int .i64 q) := hk3 _ _ _ (p10)
  replace p11 : w3.cell? ⟨w.heap.size + 1, 1, none⟩ = some (.int .i64 Fb) := hk3 _ _ _ (p11)
  replace p12 : w3.cell? ⟨w.heap.size + 1, 2, none⟩ = some (.int .i64 lb) := hk3 _ _ _ (p12)
  have bp00 : w.heap.size < w3.heap.size := World.block_lt_of_cell? w3 ⟨w.heap.size, 0, none⟩ p00
  have bp10 : w.heap.size + 1 < w3.heap.size := World.block_lt_of_cell? w3 ⟨w.heap.size + 1, 0, none⟩ p10
  clear hk3
  go_wp2_with fail
  refine useK w (k4.out _) (by go_grown) ?_; rintro e w4 rfl hB4 hk4 hs4
  replace p00 : w4.cell? ⟨w.heap.size, 0, none⟩ = some (.int .i64 p) := hk4 _ _ _ (p00)
  replace p01 : w4.cell? ⟨w.heap.size, 1, none⟩ = some (.int .i64 Fa) := hk4 _ _ _ (p01)
  replace p02 : w4.cell? ⟨w.heap.size, 2, none⟩ = some (.int .i64 la) := hk4 _ _ _ (p02)
  replace p10 : w4.cell? ⟨w.heap.size + 1, 0, none⟩ = some (.int .i64 q) := hk4 _ _ _ (p10)
  replace p11 : w4.cell? ⟨w.heap.size + 1, 1, none⟩ = some (.int .i64 Fb) := hk4 _ _ _ (p11)
  replace p12 : w4.cell? ⟨w.heap.size + 1, 2, none⟩ = some (.int .i64 lb) := hk4 _ _ _ (p12)
  have bp00 : w.heap.size < w4.heap.size := World.block_lt_of_cell? w4 ⟨w.heap.size, 0, none⟩ p00
  have bp10 : w.heap.size + 1 < w4.heap.size := World.block_lt_of_cell? w4 ⟨w.heap.size + 1, 0, none⟩ p10
  clear hk4
  go_wp2_with fail
  go_ret2
  exact ⟨rfl, by go_grown⟩
theorem nxt_beg {Pa Fa La Pb Fb Lb t m : Int} (hPa : 1 ≤ Pa) (hPb : 1 ≤ Pb) (hLa : 1 ≤ La) (hLa2 : La ≤ Pa) (hLb : 1 ≤ Lb) (hLb2 : Lb ≤ Pb) (hm : t ≤ m) (hb : bothB Pa Fa La Pb Fb Lb m = true) (hl : ∀ k, t ≤ k → k < m → bothB Pa Fa La Pb Fb Lb k = false) :
    begN Pa Fa Pb Fb Lb t ≠ none ∨ begN Pb Fb Pa Fa La t ≠ none ∨ m = t := by
  have both : ∀ k, bothB Pa Fa La Pb Fb Lb k = true ↔ (sinc Pa Fa k < La ∧ sinc Pb Fb k < Lb) := fun k => by unfold bothB; simp
  have hb2 := (both m).mp hb
  rcases Int.lt_or_eq_of_le hm with x | x
  · by_cases a : sinc Pa Fa m = 0
    · exact Or.inl fun hn => absurd hb2.2 ((begN_spec (Fa := Fa) (Fb := Fb) (t := t) hPa hPb hLb hLb2).1 hn m hm a)
    · by_cases b : sinc Pb Fb m = 0
      · exact Or.inr (Or.inl fun hn => absurd hb2.1 ((begN_spec (Fa := Fb) (Fb := Fa) (t := t) hPb hPa hLa hLa2).1 hn m hm b))
      · exfalso
        have e1 := sinc_pred hPa a
        have e2 := sinc_pred hPb b
        have := hl (m - 1) (by omega) (by omega)
        have h3 : bothB Pa Fa La Pb Fb Lb (m - 1) = true := (both _).mpr (by omega)
        rw [h3] at this; simp at this
  · exact Or.inr (Or.inr x.symm)
theorem cnext_some (p q la lb : Nat) (Fa Fb t : Int) (w : World) (ca : winB p Fa la = true) (cb : winB q Fb lb = true) (cc : timB t = true) (hV : oftN p q la lb Fa Fb ≠ 0) (hla : 1 ≤ la) (hlb : 1 ≤ lb) (hs : ¬ bothB p Fa la q Fb lb t = true → begN p Fa q Fb lb t ≠ none ∨ begN q Fb p Fa la t ≠ none) :
    Calls Try.prog 15 #[.agg #[.int .i64 p, .int .i64 Fa, .int .i64 la], .agg #[.int .i64 q, .int .i64 Fb, .int .i64 lb], .int .i64 t] w fun e w' => e = .returned (.tuple #[.int .i64 (nxtN p Fa la q Fb lb t), .int .i64 0]) ∧ Below w.heap.size w w' := by
  obtain ⟨p1, p2, f1, f2, l1, l2⟩ := win_bd ca
  obtain ⟨q1, q2, g1, g2, m1, m2⟩ := win_bd cb
  have hb := of_decide_eq_true cc
  obtain ⟨t1, t2⟩ := hb
  have k1 := hid (fun W => iswin_any p Fa la W (by omega))
  have k2 := hid (fun W => iswin_any q Fb lb W (by omega))
  have k3 := hid (fun W => isinst_any t W (by omega))
  have k4 : Hid (∀ W : World, Calls Try.prog 28 #[.agg #[.int .i64 p, .int .i64 Fa, .int .i64 la], .agg #[.int .i64 q, .int .i64 Fb, .int .i64 lb]] W fun e w' => e = .returned (.int .i64 (oftN p q la lb Fa Fb)) ∧ Below W.heap.size W w') := hid fun W => often_any p q la lb Fa Fb W ca cb
  have k5 := hid (fun W => contains_any p Fa la t W (by omega))
  have k6 := hid (fun W => contains_any q Fb lb t W (by omega))
  have k7 := hid (fun W => beginning_any p q Fa la Fb lb t W ca cb (by omega) cc)
  have k8 := hid (fun W => beginning_any q p Fb lb Fa la t W cb ca (by omega) cc)
  have z1 : (oftN p q la lb Fa Fb == 0) = false := by rw [beq_eq_false_iff_ne]; exact hV
  have e5 : contB p Fa la t = decide (sinc p Fa t < la) := by unfold contB; rw [ca]; rfl
  have e6 : contB q Fb lb t = decide (sinc q Fb t < lb) := by unfold contB; rw [cb]; rfl
  rw [ca] at k1
  rw [cb] at k2
  rw [cc] at k3
  have hN := hid (show nxtN p Fa la q Fb lb t = if bothB p Fa la q Fb lb t then t else match begN p Fa q Fb lb t, begN q Fb p Fa la t with
    | some m, some n => if n < m then n else m
    | some m, none => m
    | none, some n => n
    | none, none => 0 from rfl)
  have hB : bothB p Fa la q Fb lb t = (contB p Fa la t && contB q Fb lb t) := by rw [e5, e6]; rfl
  rw [hB] at hN hs
  have b7 := hid (show begV p Fa q Fb lb t = match begN p Fa q Fb lb t with | some n => n | none => fst0 p Fa t from rfl)
  have b8 := hid (show begV q Fb p Fa la t = match begN q Fb p Fa la t with | some n => n | none => fst0 q Fb t from rfl)
  generalize oftN p q la lb Fa Fb = V at *
  generalize nxtN p Fa la q Fb lb t = R at *
  generalize contB p Fa la t = x at *
  generalize contB q Fb lb t = y at *
  generalize begV p Fa q Fb lb t = v7 at *
  generalize begV q Fb p Fa la t = v8 at *
  generalize begN p Fa q Fb lb t = o7 at *
  generalize begN q Fb p Fa la t = o8 at *
  clear ca cb cc e5 e6 hB hV
  cases x
  · have hs2 := hs (by simp)
    cases o7 with
    | none =>
      cases o8 with
      | none => simp at hs2
      | some n =>
        have hR := hid (show R = n from hN.out)
        have h8 : v8 = n := b8.out
        subst h8
        clear hs hs2 hN b7 b8 k6
        go_enter Try.func15, Try.ntmps15
        go_wp2_with fail
        refine useK w (k1.out _) (by go_grown) ?_; rintro e w1 rfl hB1 hk1 hs1
        replace p00 : w1.cell? ⟨w.heap.size, 0, none⟩ = some (.int .i64 p) := hk1 _ _ _ (by simp [go_sem])
        replace p01 : w1.cell? ⟨w.heap.size, 1, none⟩ = some (.int .i64 Fa) := hk1 _ _ _ (by simp [go_sem])
        replace p02 : w1.cell? ⟨w.heap.size, 2, none⟩ = some (.int .i64 la) := hk1 _ _ _ (by simp [go_sem])
        replace p10 : w1.cell? ⟨w.heap.size + 1, 0, none⟩ = some (.int .i64 q) := hk1 _ _ _ (by simp [go_sem])
        replace p11 : w1.cell? ⟨w.heap.size + 1, 1, none⟩ = some (.int .i64 Fb) := hk1 _ _ _ (by simp [go_sem])
        replace p12 : w1.cell? ⟨w.heap.size + 1, 2, none⟩ = some (.int .i64 lb) := hk1 _ _ _ (by simp [go_sem])
        have bp00 : w.heap.size < w1.heap.size := World.block_lt_of_cell? w1 ⟨w.heap.size, 0, none⟩ p00
        have bp10 : w.heap.size + 1 < w1.heap.size := World.block_lt_of_cell? w1 ⟨w.heap.size + 1, 0, none⟩ p10
        clear hk1
        go_wp2_with fail
        refine useK w (k2.out _) (by go_grown) ?_; rintro e w2 rfl hB2 hk2 hs2
        replace p00 : w2.cell? ⟨w.heap.size, 0, none⟩ = some (.int .i64 p) := hk2 _ _ _ (p00)
        replace p01 : w2.cell? ⟨w.heap.size, 1, none⟩ = some (.int .i64 Fa) := hk2 _ _ _ (p01)
        replace p02 : w2.cell? ⟨w.heap.size, 2, none⟩ = some (.int .i64 la) := hk2 _ _ _ (p02)
        replace p10 : w2.cell? ⟨w.heap.size + 1, 0, none⟩ = some (.int .i64 q) := hk2 _ _ _ (p10)
        replace p11 : w2.cell? ⟨w.heap.size + 1, 1, none⟩ = some (.int .i64 Fb) := hk2 _ _ _ (p11)
        replace p12 : w2.cell? ⟨w.heap.size + 1, 2, none⟩ = some (.int .i64 lb) := hk2 _ _ _ (p12)
        have bp00 : w.heap.size < w2.heap.size := World.block_lt_of_cell? w2 ⟨w.heap.size, 0, none⟩ p00
        have bp10 : w.heap.size + 1 < w2.heap.size := World.block_lt_of_cell? w2 ⟨w.heap.size + 1, 0, none⟩ p10
        clear hk2
        go_wp2_with fail
        refine useK w (k3.out _) (by go_grown) ?_; rintro e w3 rfl hB3 hk3 hs3
        replace p00 : w3.cell? ⟨w.heap.size, 0, none⟩ = some (.int .i64 p) := hk3 _ _ _ (p00)
        replace p01 : w3.cell? ⟨w.heap.size, 1, none⟩ = some (.int .i64 Fa) := hk3 _ _ _ (p01)
        replace p02 : w3.cell? ⟨w.heap.size, 2, none⟩ = some (.int .i64 la) := hk3 _ _ _ (p02)
        replace p10 : w3.cell? ⟨w.heap.size + 1, 0, none⟩ = some (.int .i64 q) := hk3 _ _ _ (p10)
        replace p11 : w3.cell? ⟨w.heap.size + 1, 1, none⟩ = some (.int .i64 Fb) := hk3 _ _ _ (p11)
        replace p12 : w3.cell? ⟨w.heap.size + 1, 2, none⟩ = some (.int .i64 lb) := hk3 _ _ _ (p12)
        have bp00 : w.heap.size < w3.heap.size := World.block_lt_of_cell? w3 ⟨w.heap.size, 0, none⟩ p00
        have bp10 : w.heap.size + 1 < w3.heap.size := World.block_lt_of_cell? w3 ⟨w.heap.size + 1, 0, none⟩ p10
        clear hk3
        go_wp2_with fail
        refine useK w (k4.out _) (by go_grown) ?_; rintro e w4 rfl hB4 hk4 hs4
        replace p00 : w4.cell? ⟨w.heap.size, 0, none⟩ = some (.int .i64 p) := hk4 _ _ _ (p00)
        replace p01 : w4.cell? ⟨w.heap.size, 1, none⟩ = some (.int .i64 Fa) := hk4 _ _ _ (p01)
        replace p02 : w4.cell? ⟨w.heap.size, 2, none⟩ = some (.int .i64 la) := hk4 _ _ _ (p02)
        replace p10 : w4.cell? ⟨w.heap.size + 1, 0, none⟩ = some (.int .i64 q) := hk4 _ _ _ (p10)
        replace p11 : w4.cell? ⟨w.heap.size + 1, 1, none⟩ = some (.int .i64 Fb) := hk4 _ _ _ (p11)
        replace p12 : w4.cell? ⟨w.heap.size + 1, 2, none⟩ = some (.int .i64 lb) := hk4 _ _ _ (p12)
        have bp00 : w.heap.size < w4.heap.size := World.block_lt_of_cell? w4 ⟨w.heap.size, 0, none⟩ p00
        have bp10 : w.heap.size + 1 < w4.heap.size := World.block_lt_of_cell? w4 ⟨w.heap.size + 1, 0, none⟩ p10
        clear hk4
        go_wp2_with fail
        refine useK w (k5.out _) (by go_grown) ?_; rintro e w5 rfl hB5 hk5 hs5
        replace p00 : w5.cell? ⟨w.heap.size, 0, none⟩ = some (.int .i64 p) := hk5 _ _ _ (p00)
        replace p01 : w5.cell? ⟨w.heap.size, 1, none⟩ = some (.int .i64 Fa) := hk5 _ _ _ (p01)
        replace p02 : w5.cell? ⟨w.heap.size, 2, none⟩ = some (.int .i64 la) := hk5 _ _ _ (p02)
        replace p10 : w5.cell? ⟨w.heap.size + 1, 0, none⟩ = some (.int .i64 q) := hk5 _ _ _ (p10)
        replace p11 : w5.cell? ⟨w.heap.size + 1, 1, none⟩ = some (.int .i64 Fb) := hk5 _ _ _ (p11)
        replace p12 : w5.cell? ⟨w.heap.size + 1, 2, none⟩ = some (.int .i64 lb) := hk5 _ _ _ (p12)
        have bp00 : w.heap.size < w5.heap.size := World.block_lt_of_cell? w5 ⟨w.heap.size, 0, none⟩ p00
        have bp10 : w.heap.size + 1 < w5.heap.size := World.block_lt_of_cell? w5 ⟨w.heap.size + 1, 0, none⟩ p10
        clear hk5
        go_wp2_with fail
        refine useK w (k7.out _) (by go_grown) ?_; rintro e w6 rfl hB6 hk6 hs6
        replace p00 : w6.cell? ⟨w.heap.size, 0, none⟩ = some (.int .i64 p) := hk6 _ _ _ (p00)
        replace p01 : w6.cell? ⟨w.heap.size, 1, none⟩ = some (.int .i64 Fa) := hk6 _ _ _ (p01)
        replace p02 : w6.cell? ⟨w.heap.size, 2, none⟩ = some (.int .i64 la) := hk6 _ _ _ (p02)
        replace p10 : w6.cell? ⟨w.heap.size + 1, 0, none⟩ = some (.int .i64 q) := hk6 _ _ _ (p10)
        replace p11 : w6.cell? ⟨w.heap.size + 1, 1, none⟩ = some (.int .i64 Fb) := hk6 _ _ _ (p11)
        replace p12 : w6.cell? ⟨w.heap.size + 1, 2, none⟩ = some (.int .i64 lb) := hk6 _ _ _ (p12)
        have bp00 : w.heap.size < w6.heap.size := World.block_lt_of_cell? w6 ⟨w.heap.size, 0, none⟩ p00
        have bp10 : w.heap.size + 1 < w6.heap.size := World.block_lt_of_cell? w6 ⟨w.heap.size + 1, 0, none⟩ p10
        clear hk6
        go_wp2_with fail
        refine useK w (k8.out _) (by go_grown) ?_; rintro e w7 rfl hB7 hk7 hs7
        replace p00 : w7.cell? ⟨w.heap.size, 0, none⟩ = some (.int .i64 p) := hk7 _ _ _ (p00)
        replace p01 : w7.cell? ⟨w.heap.size, 1, none⟩ = some (.int .i64 Fa) := hk7 _ _ _ (p01)
        replace p02 : w7.cell? ⟨w.heap.size, 2, none⟩ = some (.int .i64 la) := hk7 _ _ _ (p02)
        replace p10 : w7.cell? ⟨w.heap.size + 1, 0, none⟩ = some (.int .i64 q) := hk7 _ _ _ (p10)
        replace p11 : w7.cell? ⟨w.heap.size + 1, 1, none⟩ = some (.int .i64 Fb) := hk7 _ _ _ (p11)
        replace p12 : w7.cell? ⟨w.heap.size + 1, 2, none⟩ = some (.int .i64 lb) := hk7 _ _ _ (p12)
        have bp00 : w.heap.size < w7.heap.size := World.block_lt_of_cell? w7 ⟨w.heap.size, 0, none⟩ p00
        have bp10 : w.heap.size + 1 < w7.heap.size := World.block_lt_of_cell? w7 ⟨w.heap.size + 1, 0, none⟩ p10
        clear hk7
        go_wp2_with fail
        go_ret2
        exact ⟨by rw [hR.out]; rfl, by go_grown⟩
    | some m =>
      have h7 : v7 = m := b7.out
      subst h7
      cases o8 with
      | none =>
        have hR := hid (show R = v7 from hN.out)
        clear hs hs2 hN b7 b8 k6
        go_enter Try.func15, Try.ntmps15
        go_wp2_with fail
        refine useK w (k1.out _) (by go_grown) ?_; rintro e w1 rfl hB1 hk1 hs1
        replace p00 : w1.cell? ⟨w.heap.size, 0, none⟩ = some (.int .i64 p) := hk1 _ _ _ (by simp [go_sem])
        replace p01 : w1.cell? ⟨w.heap.size, 1, none⟩ = some (.int .i64 Fa) := hk1 _ _ _ (by simp [go_sem])
        replace p02 : w1.cell? ⟨w.heap.size, 2, none⟩ = some (.int .i64 la) := hk1 _ _ _ (by simp [go_sem])
        replace p10 : w1.cell? ⟨w.heap.size + 1, 0, none⟩ = some (.int .i64 q) := hk1 _ _ _ (by simp [go_sem])
        replace p11 : w1.cell? ⟨w.heap.size + 1, 1, none⟩ = some (.int .i64 Fb) := hk1 _ _ _ (by simp [go_sem])
        replace p12 : w1.cell? ⟨w.heap.size + 1, 2, none⟩ = some (.int .i64 lb) := hk1 _ _ _ (by simp [go_sem])
        have bp00 : w.heap.size < w1.heap.size := World.block_lt_of_cell? w1 ⟨w.heap.size, 0, none⟩ p00
        have bp10 : w.heap.size + 1 < w1.heap.size := World.block_lt_of_cell? w1 ⟨w.heap.size + 1, 0, none⟩ p10
        clear hk1
        go_wp2_with fail
        refine useK w (k2.out _) (by go_grown) ?_; rintro e w2 rfl hB2 hk2 hs2
        replace p00 : w2.cell? ⟨w.heap.size, 0, none⟩ = some (.int .i64 p) := hk2 _ _ _ (p00)
        replace p01 : w2.cell? ⟨w.heap.size, 1, none⟩ = some (.int .i64 Fa) := hk2 _ _ _ (p01)
        replace p02 : w2.cell? ⟨w.heap.size, 2, none⟩ = some (.int .i64 la) := hk2 _ _ _ (p02)
        replace p10 : w2.cell? ⟨w.heap.size + 1, 0, none⟩ = some (.int .i64 q) := hk2 _ _ _ (p10)
        replace p11 : w2.cell? ⟨w.heap.size + 1, 1, none⟩ = some (.int .i64 Fb) := hk2 _ _ _ (p11)
        replace p12 : w2.cell? ⟨w.heap.size + 1, 2, none⟩ = some (.int .i64 lb) := hk2 _ _ _ (p12)
        have bp00 : w.heap.size < w2.heap.size := World.block_lt_of_cell? w2 ⟨w.heap.size, 0, none⟩ p00
        have bp10 : w.heap.size + 1 < w2.heap.size := World.block_lt_of_cell? w2 ⟨w.heap.size + 1, 0, none⟩ p10
        clear hk2
        go_wp2_with fail
        refine useK w (k3.out _) (by go_grown) ?_; rintro e w3 rfl hB3 hk3 hs3
        replace p00 : w3.cell? ⟨w.heap.size, 0, none⟩ = some (.int .i64 p) := hk3 _ _ _ (p00)
        replace p01 : w3.cell? ⟨w.heap.size, 1, none⟩ = some (.int .i64 Fa) := hk3 _ _ _ (p01)
        replace p02 : w3.cell? ⟨w.heap.size, 2, none⟩ = some (.int .i64 la) := hk3 _ _ _ (p02)
        replace p10 : w3.cell? ⟨w.heap.size + 1, 0, none⟩ = some (.int .i64 q) := hk3 _ _ _ (p10)
        replace p11 : w3.cell? ⟨w.heap.size + 1, 1, none⟩ = some (.int .i64 Fb) := hk3 _ _ _ (p11)
        replace p12 : w3.cell? ⟨w.heap.size + 1, 2, none⟩ = some (.int .i64 lb) := hk3 _ _ _ (p12)
        have bp00 : w.heap.size < w3.heap.size := World.block_lt_of_cell? w3 ⟨w.heap.size, 0, none⟩ p00
        have bp10 : w.heap.size + 1 < w3.heap.size := World.block_lt_of_cell? w3 ⟨w.heap.size + 1, 0, none⟩ p10
        clear hk3
        go_wp2_with fail
        refine useK w (k4.out _) (by go_grown) ?_; rintro e w4 rfl hB4 hk4 hs4
        replace p00 : w4.cell? ⟨w.heap.size, 0, none⟩ = some (.int .i64 p) := hk4 _ _ _ (p00)
        replace p01 : w4.cell? ⟨w.heap.size, 1, none⟩ = some (.int .i64 Fa) := hk4 _ _ _ (p01)
        replace p02 : w4.cell? ⟨w.heap.size, 2, none⟩ = some (.int .i64 la) := hk4 _ _ _ (p02)
        replace p10 : w4.cell? ⟨w.heap.size + 1, 0, none⟩ = some (.int .i64 q) := hk4 _ _ _ (p10)
        replace p11 : w4.cell? ⟨w.heap.size + 1, 1, none⟩ = some (.int .i64 Fb) := hk4 _ _ _ (p11)
        replace p12 : w4.cell? ⟨w.heap.size + 1, 2, none⟩ = some (.int .i64 lb) := hk4 _ _ _ (p12)
        have bp00 : w.heap.size < w4.heap.size := World.block_lt_of_cell? w4 ⟨w.heap.size, 0, none⟩ p00
        have bp10 : w.heap.size + 1 < w4.heap.size := World.block_lt_of_cell? w4 ⟨w.heap.size + 1, 0, none⟩ p10
        clear hk4
        go_wp2_with fail
        refine useK w (k5.out _) (by go_grown) ?_; rintro e w5 rfl hB5 hk5 hs5
        replace p00 : w5.cell? ⟨w.heap.size, 0, none⟩ = some (.int .i64 p) := hk5 _ _ _ (p00)
        replace p01 : w5.cell? ⟨w.heap.size, 1, none⟩ = some (.int .i64 Fa) := hk5 _ _ _ (p01)
        replace p02 : w5.cell? ⟨w.heap.size, 2, none⟩ = some (.int .i64 la) := hk5 _ _ _ (p02)
        replace p10 : w5.cell? ⟨w.heap.size + 1, 0, none⟩ = some (.int .i64 q) := hk5 _ _ _ (p10)
        replace p11 : w5.cell? ⟨w.heap.size + 1, 1, none⟩ = some (.int .i64 Fb) := hk5 _ _ _ (p11)
        replace p12 : w5.cell? ⟨w.heap.size + 1, 2, none⟩ = some (.int .i64 lb) := hk5 _ _ _ (p12)
        have bp00 : w.heap.size < w5.heap.size := World.block_lt_of_cell? w5 ⟨w.heap.size, 0, none⟩ p00
        have bp10 : w.heap.size + 1 < w5.heap.size := World.block_lt_of_cell? w5 ⟨w.heap.size + 1, 0, none⟩ p10
        clear hk5
        go_wp2_with fail
        refine useK w (k7.out _) (by go_grown) ?_; rintro e w6 rfl hB6 hk6 hs6
        replace p00 : w6.cell? ⟨w.heap.size, 0, none⟩ = some (.int .i64 p) := hk6 _ _ _ (p00)
        replace p01 : w6.cell? ⟨w.heap.size, 1, none⟩ = some (.int .i64 Fa) := hk6 _ _ _ (p01)
        replace p02 : w6.cell? ⟨w.heap.size, 2, none⟩ = some (.int .i64 la) := hk6 _ _ _ (p02)
        replace p10 : w6.cell? ⟨w.heap.size + 1, 0, none⟩ = some (.int .i64 q) := hk6 _ _ _ (p10)
        replace p11 : w6.cell? ⟨w.heap.size + 1, 1, none⟩ = some (.int .i64 Fb) := hk6 _ _ _ (p11)
        replace p12 : w6.cell? ⟨w.heap.size + 1, 2, none⟩ = some (.int .i64 lb) := hk6 _ _ _ (p12)
        have bp00 : w.heap.size < w6.heap.size := World.block_lt_of_cell? w6 ⟨w.heap.size, 0, none⟩ p00
        have bp10 : w.heap.size + 1 < w6.heap.size := World.block_lt_of_cell? w6 ⟨w.heap.size + 1, 0, none⟩ p10
        clear hk6
        go_wp2_with fail
        refine useK w (k8.out _) (by go_grown) ?_; rintro e w7 rfl hB7 hk7 hs7
        replace p00 : w7.cell? ⟨w.heap.size, 0, none⟩ = some (.int .i64 p) := hk7 _ _ _ (p00)
        replace p01 : w7.cell? ⟨w.heap.size, 1, none⟩ = some (.int .i64 Fa) := hk7 _ _ _ (p01)
        replace p02 : w7.cell? ⟨w.heap.size, 2, none⟩ = some (.int .i64 la) := hk7 _ _ _ (p02)
        replace p10 : w7.cell? ⟨w.heap.size + 1, 0, none⟩ = some (.int .i64 q) := hk7 _ _ _ (p10)
        replace p11 : w7.cell? ⟨w.heap.size + 1, 1, none⟩ = some (.int .i64 Fb) := hk7 _ _ _ (p11)
        replace p12 : w7.cell? ⟨w.heap.size + 1, 2, none⟩ = some (.int .i64 lb) := hk7 _ _ _ (p12)
        have bp00 : w.heap.size < w7.heap.size := World.block_lt_of_cell? w7 ⟨w.heap.size, 0, none⟩ p00
        have bp10 : w.heap.size + 1 < w7.heap.size := World.block_lt_of_cell? w7 ⟨w.heap.size + 1, 0, none⟩ p10
        clear hk7
        go_wp2_with fail
        go_ret2
        exact ⟨by rw [hR.out]; rfl, by go_grown⟩
      | some n =>
        have h8 : v8 = n := b8.out
        subst h8
        have hR0 : R = if v8 < v7 then v8 else v7 := hN.out
        by_cases c : v8 < v7
        · rw [if_pos c] at hR0
          have hR := hid hR0
          clear hs hs2 hN b7 b8 k6 hR0
          go_enter Try.func15, Try.ntmps15
          go_wp2_with fail
          refine useK w (k1.out _) (by go_grown) ?_; rintro e w1 rfl hB1 hk1 hs1
          replace p00 : w1.cell? ⟨w.heap.size, 0, none⟩ = some (.int .i64 p) := hk1 _ _ _ (by simp [go_sem])
          replace p01 : w1.cell? ⟨w.heap.size, 1, none⟩ = some (.int .i64 Fa) := hk1 _ _ _ (by simp [go_sem])
          replace p02 : w1.cell? ⟨w.heap.size, 2, none⟩ = some (.int .i64 la) := hk1 _ _ _ (by simp [go_sem])
          replace p10 : w1.cell? ⟨w.heap.size + 1, 0, none⟩ = some (.int .i64 q) := hk1 _ _ _ (by simp [go_sem])
          replace p11 : w1.cell? ⟨w.heap.size + 1, 1, none⟩ = some (.int .i64 Fb) := hk1 _ _ _ (by simp [go_sem])
          replace p12 : w1.cell? ⟨w.heap.size + 1, 2, none⟩ = some (.int .i64 lb) := hk1 _ _ _ (by simp [go_sem])
          have bp00 : w.heap.size < w1.heap.size := World.block_lt_of_cell? w1 ⟨w.heap.size, 0, none⟩ p00
          have bp10 : w.heap.size + 1 < w1.heap.size := World.block_lt_of_cell? w1 ⟨w.heap.size + 1, 0, none⟩ p10
          clear hk1
          go_wp2_with fail
          refine useK w (k2.out _) (by go_grown) ?_; rintro e w2 rfl hB2 hk2 hs2
          replace p00 : w2.cell? ⟨w.heap.size, 0, none⟩ = some (.int .i64 p) := hk2 _ _ _ (p00)
          replace p01 : w2.cell? ⟨w.heap.size, 1, none⟩ = some (.int .i64 Fa) := hk2 _ _ _ (p01)
          replace p02 : w2.cell? ⟨w.heap.size, 2, none⟩ = some (.int .i64 la) := hk2 _ _ _ (p02)
          replace p10 : w2.cell? ⟨w.heap.size + 1, 0, none⟩ = some (.int .i64 q) := hk2 _ _ _ (p10)
          replace p11 : w2.cell? ⟨w.heap.size + 1, 1, none⟩ = some (.int .i64 Fb) := hk2 _ _ _ (p11)
          replace p12 : w2.cell? ⟨w.heap.size + 1, 2, none⟩ = some (.int .i64 lb) := hk2 _ _ _ (p12)
          have bp00 : w.heap.size < w2.heap.size := World.block_lt_of_cell? w2 ⟨w.heap.size, 0, none⟩ p00
          have bp10 : w.heap.size + 1 < w2.heap.size := World.block_lt_of_cell? w2 ⟨w.heap.size + 1, 0, none⟩ p10
          clear hk2
          go_wp2_with fail
          refine useK w (k3.out _) (by go_grown) ?_; rintro e w3 rfl hB3 hk3 hs3
          replace p00 : w3.cell? ⟨w.heap.size, 0, none⟩ = some (.int .i64 p) := hk3 _ _ _ (p00)
          replace p01 : w3.cell? ⟨w.heap.size, 1, none⟩ = some (.int .i64 Fa) := hk3 _ _ _ (p01)
          replace p02 : w3.cell? ⟨w.heap.size, 2, none⟩ = some (.int .i64 la) := hk3 _ _ _ (p02)
          replace p10 : w3.cell? ⟨w.heap.size + 1, 0, none⟩ = some (.int .i64 q) := hk3 _ _ _ (p10)
          replace p11 : w3.cell? ⟨w.heap.size + 1, 1, none⟩ = some (.int .i64 Fb) := hk3 _ _ _ (p11)
          replace p12 : w3.cell? ⟨w.heap.size + 1, 2, none⟩ = some (.int .i64 lb) := hk3 _ _ _ (p12)
          have bp00 : w.heap.size < w3.heap.size := World.block_lt_of_cell? w3 ⟨w.heap.size, 0, none⟩ p00
          have bp10 : w.heap.size + 1 < w3.heap.size := World.block_lt_of_cell? w3 ⟨w.heap.size + 1, 0, none⟩ p10
          clear hk3
          go_wp2_with fail
          refine useK w (k4.out _) (by go_grown) ?_; rintro e w4 rfl hB4 hk4 hs4
          replace p00 : w4.cell? ⟨w.heap.size, 0, none⟩ = some (.int .i64 p) := hk4 _ _ _ (p00)
          replace p01 : w4.cell? ⟨w.heap.size, 1, none⟩ = some (.int .i64 Fa) := hk4 _ _ _ (p01)
          replace p02 : w4.cell? ⟨w.heap.size, 2, none⟩ = some (.int .i64 la) := hk4 _ _ _ (p02)
          replace p10 : w4.cell? ⟨w.heap.size + 1, 0, none⟩ = some (.int .i64 q) := hk4 _ _ _ (p10)
          replace p11 : w4.cell? ⟨w.heap.size + 1, 1, none⟩ = some (.int .i64 Fb) := hk4 _ _ _ (p11)
          replace p12 : w4.cell? ⟨w.heap.size + 1, 2, none⟩ = some (.int .i64 lb) := hk4 _ _ _ (p12)
          have bp00 : w.heap.size < w4.heap.size := World.block_lt_of_cell? w4 ⟨w.heap.size, 0, none⟩ p00
          have bp10 : w.heap.size + 1 < w4.heap.size := World.block_lt_of_cell? w4 ⟨w.heap.size + 1, 0, none⟩ p10
          clear hk4
          go_wp2_with fail
          refine useK w (k5.out _) (by go_grown) ?_; rintro e w5 rfl hB5 hk5 hs5
          replace p00 : w5.cell? ⟨w.heap.size, 0, none⟩ = some (.int .i64 p) := hk5 _ _ _ (p00)
          replace p01 : w5.cell? ⟨w.heap.size, 1, none⟩ = some (.int .i64 Fa) := hk5 _ _ _ (p01)
          replace p02 : w5.cell? ⟨w.heap.size, 2, none⟩ = some (.int .i64 la) := hk5 _ _ _ (p02)
          replace p10 : w5.cell? ⟨w.heap.size + 1, 0, none⟩ = some (.int .i64 q) := hk5 _ _ _ (p10)
          replace p11 : w5.cell? ⟨w.heap.size + 1, 1, none⟩ = some (.int .i64 Fb) := hk5 _ _ _ (p11)
          replace p12 : w5.cell? ⟨w.heap.size + 1, 2, none⟩ = some (.int .i64 lb) := hk5 _ _ _ (p12)
          have bp00 : w.heap.size < w5.heap.size := World.block_lt_of_cell? w5 ⟨w.heap.size, 0, none⟩ p00
          have bp10 : w.heap.size + 1 < w5.heap.size := World.block_lt_of_cell? w5 ⟨w.heap.size + 1, 0, none⟩ p10
          clear hk5
          go_wp2_with fail
          refine useK w (k7.out _) (by go_grown) ?_; rintro e w6 rfl hB6 hk6 hs6
          replace p00 : w6.cell? ⟨w.heap.size, 0, none⟩ = some (.int .i64 p) := hk6 _ _ _ (p00)
          replace p01 : w6.cell? ⟨w.heap.size, 1, none⟩ = some (.int .i64 Fa) := hk6 _ _ _ (p01)
          replace p02 : w6.cell? ⟨w.heap.size, 2, none⟩ = some (.int .i64 la) := hk6 _ _ _ (p02)
          replace p10 : w6.cell? ⟨w.heap.size + 1, 0, none⟩ = some (.int .i64 q) := hk6 _ _ _ (p10)
          replace p11 : w6.cell? ⟨w.heap.size + 1, 1, none⟩ = some (.int .i64 Fb) := hk6 _ _ _ (p11)
          replace p12 : w6.cell? ⟨w.heap.size + 1, 2, none⟩ = some (.int .i64 lb) := hk6 _ _ _ (p12)
          have bp00 : w.heap.size < w6.heap.size := World.block_lt_of_cell? w6 ⟨w.heap.size, 0, none⟩ p00
          have bp10 : w.heap.size + 1 < w6.heap.size := World.block_lt_of_cell? w6 ⟨w.heap.size + 1, 0, none⟩ p10
          clear hk6
          go_wp2_with fail
          refine useK w (k8.out _) (by go_grown) ?_; rintro e w7 rfl hB7 hk7 hs7
          replace p00 : w7.cell? ⟨w.heap.size, 0, none⟩ = some (.int .i64 p) := hk7 _ _ _ (p00)
          replace p01 : w7.cell? ⟨w.heap.size, 1, none⟩ = some (.int .i64 Fa) := hk7 _ _ _ (p01)
          replace p02 : w7.cell? ⟨w.heap.size, 2, none⟩ = some (.int .i64 la) := hk7 _ _ _ (p02)
          replace p10 : w7.cell? ⟨w.heap.size + 1, 0, none⟩ = some (.int .i64 q) := hk7 _ _ _ (p10)
          replace p11 : w7.cell? ⟨w.heap.size + 1, 1, none⟩ = some (.int .i64 Fb) := hk7 _ _ _ (p11)
          replace p12 : w7.cell? ⟨w.heap.size + 1, 2, none⟩ = some (.int .i64 lb) := hk7 _ _ _ (p12)
          have bp00 : w.heap.size < w7.heap.size := World.block_lt_of_cell? w7 ⟨w.heap.size, 0, none⟩ p00
          have bp10 : w.heap.size + 1 < w7.heap.size := World.block_lt_of_cell? w7 ⟨w.heap.size + 1, 0, none⟩ p10
          clear hk7
          go_wp2_with fail
          go_ret2
          exact ⟨by rw [hR.out]; rfl, by go_grown⟩
        · rw [if_neg c] at hR0
          have hR := hid hR0
          clear hs hs2 hN b7 b8 k6 hR0
          go_enter Try.func15, Try.ntmps15
          go_wp2_with fail
          refine useK w (k1.out _) (by go_grown) ?_; rintro e w1 rfl hB1 hk1 hs1
          replace p00 : w1.cell? ⟨w.heap.size, 0, none⟩ = some (.int .i64 p) := hk1 _ _ _ (by simp [go_sem])
          replace p01 : w1.cell? ⟨w.heap.size, 1, none⟩ = some (.int .i64 Fa) := hk1 _ _ _ (by simp [go_sem])
          replace p02 : w1.cell? ⟨w.heap.size, 2, none⟩ = some (.int .i64 la) := hk1 _ _ _ (by simp [go_sem])
          replace p10 : w1.cell? ⟨w.heap.size + 1, 0, none⟩ = some (.int .i64 q) := hk1 _ _ _ (by simp [go_sem])
          replace p11 : w1.cell? ⟨w.heap.size + 1, 1, none⟩ = some (.int .i64 Fb) := hk1 _ _ _ (by simp [go_sem])
          replace p12 : w1.cell? ⟨w.heap.size + 1, 2, none⟩ = some (.int .i64 lb) := hk1 _ _ _ (by simp [go_sem])
          have bp00 : w.heap.size < w1.heap.size := World.block_lt_of_cell? w1 ⟨w.heap.size, 0, none⟩ p00
          have bp10 : w.heap.size + 1 < w1.heap.size := World.block_lt_of_cell? w1 ⟨w.heap.size + 1, 0, none⟩ p10
          clear hk1
          go_wp2_with fail
          refine useK w (k2.out _) (by go_grown) ?_; rintro e w2 rfl hB2 hk2 hs2
          replace p00 : w2.cell? ⟨w.heap.size, 0, none⟩ = some (.int .i64 p) := hk2 _ _ _ (p00)
          replace p01 : w2.cell? ⟨w.heap.size, 1, none⟩ = some (.int .i64 Fa) := hk2 _ _ _ (p01)
          replace p02 : w2.cell? ⟨w.heap.size, 2, none⟩ = some (.int .i64 la) := hk2 _ _ _ (p02)
          replace p10 : w2.cell? ⟨w.heap.size + 1, 0, none⟩ = some (.int .i64 q) := hk2 _ _ _ (p10)
          replace p11 : w2.cell? ⟨w.heap.size + 1, 1, none⟩ = some (.int .i64 Fb) := hk2 _ _ _ (p11)
          replace p12 : w2.cell? ⟨w.heap.size + 1, 2, none⟩ = some (.int .i64 lb) := hk2 _ _ _ (p12)
          have bp00 : w.heap.size < w2.heap.size := World.block_lt_of_cell? w2 ⟨w.heap.size, 0, none⟩ p00
          have bp10 : w.heap.size + 1 < w2.heap.size := World.block_lt_of_cell? w2 ⟨w.heap.size + 1, 0, none⟩ p10
          clear hk2
          go_wp2_with fail
          refine useK w (k3.out _) (by go_grown) ?_; rintro e w3 rfl hB3 hk3 hs3
          replace p00 : w3.cell? ⟨w.heap.size, 0, none⟩ = some (.int .i64 p) := hk3 _ _ _ (p00)
          replace p01 : w3.cell? ⟨w.heap.size, 1, none⟩ = some (.int .i64 Fa) := hk3 _ _ _ (p01)
          replace p02 : w3.cell? ⟨w.heap.size, 2, none⟩ = some (.int .i64 la) := hk3 _ _ _ (p02)
          replace p10 : w3.cell? ⟨w.heap.size + 1, 0, none⟩ = some (.int .i64 q) := hk3 _ _ _ (p10)
          replace p11 : w3.cell? ⟨w.heap.size + 1, 1, none⟩ = some (.int .i64 Fb) := hk3 _ _ _ (p11)
          replace p12 : w3.cell? ⟨w.heap.size + 1, 2, none⟩ = some (.int .i64 lb) := hk3 _ _ _ (p12)
          have bp00 : w.heap.size < w3.heap.size := World.block_lt_of_cell? w3 ⟨w.heap.size, 0, none⟩ p00
          have bp10 : w.heap.size + 1 < w3.heap.size := World.block_lt_of_cell? w3 ⟨w.heap.size + 1, 0, none⟩ p10
          clear hk3
          go_wp2_with fail
          refine useK w (k4.out _) (by go_grown) ?_; rintro e w4 rfl hB4 hk4 hs4
          replace p00 : w4.cell? ⟨w.heap.size, 0, none⟩ = some (.int .i64 p) := hk4 _ _ _ (p00)
          replace p01 : w4.cell? ⟨w.heap.size, 1, none⟩ = some (.int .i64 Fa) := hk4 _ _ _ (p01)
          replace p02 : w4.cell? ⟨w.heap.size, 2, none⟩ = some (.int .i64 la) := hk4 _ _ _ (p02)
          replace p10 : w4.cell? ⟨w.heap.size + 1, 0, none⟩ = some (.int .i64 q) := hk4 _ _ _ (p10)
          replace p11 : w4.cell? ⟨w.heap.size + 1, 1, none⟩ = some (.int .i64 Fb) := hk4 _ _ _ (p11)
          replace p12 : w4.cell? ⟨w.heap.size + 1, 2, none⟩ = some (.int .i64 lb) := hk4 _ _ _ (p12)
          have bp00 : w.heap.size < w4.heap.size := World.block_lt_of_cell? w4 ⟨w.heap.size, 0, none⟩ p00
          have bp10 : w.heap.size + 1 < w4.heap.size := World.block_lt_of_cell? w4 ⟨w.heap.size + 1, 0, none⟩ p10
          clear hk4
          go_wp2_with fail
          refine useK w (k5.out _) (by go_grown) ?_; rintro e w5 rfl hB5 hk5 hs5
          replace p00 : w5.cell? ⟨w.heap.size, 0, none⟩ = some (.int .i64 p) := hk5 _ _ _ (p00)
          replace p01 : w5.cell? ⟨w.heap.size, 1, none⟩ = some (.int .i64 Fa) := hk5 _ _ _ (p01)
          replace p02 : w5.cell? ⟨w.heap.size, 2, none⟩ = some (.int .i64 la) := hk5 _ _ _ (p02)
          replace p10 : w5.cell? ⟨w.heap.size + 1, 0, none⟩ = some (.int .i64 q) := hk5 _ _ _ (p10)
          replace p11 : w5.cell? ⟨w.heap.size + 1, 1, none⟩ = some (.int .i64 Fb) := hk5 _ _ _ (p11)
          replace p12 : w5.cell? ⟨w.heap.size + 1, 2, none⟩ = some (.int .i64 lb) := hk5 _ _ _ (p12)
          have bp00 : w.heap.size < w5.heap.size := World.block_lt_of_cell? w5 ⟨w.heap.size, 0, none⟩ p00
          have bp10 : w.heap.size + 1 < w5.heap.size := World.block_lt_of_cell? w5 ⟨w.heap.size + 1, 0, none⟩ p10
          clear hk5
          go_wp2_with fail
          refine useK w (k7.out _) (by go_grown) ?_; rintro e w6 rfl hB6 hk6 hs6
          replace p00 : w6.cell? ⟨w.heap.size, 0, none⟩ = some (.int .i64 p) := hk6 _ _ _ (p00)
          replace p01 : w6.cell? ⟨w.heap.size, 1, none⟩ = some (.int .i64 Fa) := hk6 _ _ _ (p01)
          replace p02 : w6.cell? ⟨w.heap.size, 2, none⟩ = some (.int .i64 la) := hk6 _ _ _ (p02)
          replace p10 : w6.cell? ⟨w.heap.size + 1, 0, none⟩ = some (.int .i64 q) := hk6 _ _ _ (p10)
          replace p11 : w6.cell? ⟨w.heap.size + 1, 1, none⟩ = some (.int .i64 Fb) := hk6 _ _ _ (p11)
          replace p12 : w6.cell? ⟨w.heap.size + 1, 2, none⟩ = some (.int .i64 lb) := hk6 _ _ _ (p12)
          have bp00 : w.heap.size < w6.heap.size := World.block_lt_of_cell? w6 ⟨w.heap.size, 0, none⟩ p00
          have bp10 : w.heap.size + 1 < w6.heap.size := World.block_lt_of_cell? w6 ⟨w.heap.size + 1, 0, none⟩ p10
          clear hk6
          go_wp2_with fail
          refine useK w (k8.out _) (by go_grown) ?_; rintro e w7 rfl hB7 hk7 hs7
          replace p00 : w7.cell? ⟨w.heap.size, 0, none⟩ = some (.int .i64 p) := hk7 _ _ _ (p00)
          replace p01 : w7.cell? ⟨w.heap.size, 1, none⟩ = some (.int .i64 Fa) := hk7 _ _ _ (p01)
          replace p02 : w7.cell? ⟨w.heap.size, 2, none⟩ = some (.int .i64 la) := hk7 _ _ _ (p02)
          replace p10 : w7.cell? ⟨w.heap.size + 1, 0, none⟩ = some (.int .i64 q) := hk7 _ _ _ (p10)
          replace p11 : w7.cell? ⟨w.heap.size + 1, 1, none⟩ = some (.int .i64 Fb) := hk7 _ _ _ (p11)
          replace p12 : w7.cell? ⟨w.heap.size + 1, 2, none⟩ = some (.int .i64 lb) := hk7 _ _ _ (p12)
          have bp00 : w.heap.size < w7.heap.size := World.block_lt_of_cell? w7 ⟨w.heap.size, 0, none⟩ p00
          have bp10 : w.heap.size + 1 < w7.heap.size := World.block_lt_of_cell? w7 ⟨w.heap.size + 1, 0, none⟩ p10
          clear hk7
          go_wp2_with fail
          go_ret2
          exact ⟨by rw [hR.out]; rfl, by go_grown⟩
  cases y
  · have hs2 := hs (by simp)
    cases o7 with
    | none =>
      cases o8 with
      | none => simp at hs2
      | some n =>
        have hR := hid (show R = n from hN.out)
        have h8 : v8 = n := b8.out
        subst h8
        clear hs hs2 hN b7 b8
        go_enter Try.func15, Try.ntmps15
        go_wp2_with fail
        refine useK w (k1.out _) (by go_grown) ?_; rintro e w1 rfl hB1 hk1 hs1
        replace p00 : w1.cell? ⟨w.heap.size, 0, none⟩ = some (.int .i64 p) := hk1 _ _ _ (by simp [go_sem])
        replace p01 : w1.cell? ⟨w.heap.size, 1, none⟩ = some (.int .i64 Fa) := hk1 _ _ _ (by simp [go_sem])
        replace p02 : w1.cell? ⟨w.heap.size, 2, none⟩ = some (.int .i64 la) := hk1 _ _ _ (by simp [go_sem])
        replace p10 : w1.cell? ⟨w.heap.size + 1, 0, none⟩ = some (.int .i64 q) := hk1 _ _ _ (by simp [go_sem])
        replace p11 : w1.cell? ⟨w.heap.size + 1, 1, none⟩ = some (.int .i64 Fb) := hk1 _ _ _ (by simp [go_sem])
        replace p12 : w1.cell? ⟨w.heap.size + 1, 2, none⟩ = some (.int .i64 lb) := hk1 _ _ _ (by simp [go_sem])
        have bp00 : w.heap.size < w1.heap.size := World.block_lt_of_cell? w1 ⟨w.heap.size, 0, none⟩ p00
        have bp10 : w.heap.size + 1 < w1.heap.size := World.block_lt_of_cell? w1 ⟨w.heap.size + 1, 0, none⟩ p10
        clear hk1
        go_wp2_with fail
        refine useK w (k2.out _) (by go_grown) ?_; rintro e w2 rfl hB2 hk2 hs2
        replace p00 : w2.cell? ⟨w.heap.size, 0, none⟩ = some (.int .i64 p) := hk2 _ _ _ (p00)
        replace p01 : w2.cell? ⟨w.heap.size, 1, none⟩ = some (.int .i64 Fa) := hk2 _ _ _ (p01)
        replace p02 : w2.cell? ⟨w.heap.size, 2, none⟩ = some (.int .i64 la) := hk2 _ _ _ (p02)
        replace p10 : w2.cell? ⟨w.heap.size + 1, 0, none⟩ = some (.int .i64 q) := hk2 _ _ _ (p10)
        replace p11 : w2.cell? ⟨w.heap.size + 1, 1, none⟩ = some (.int .i64 Fb) := hk2 _ _ _ (p11)
        replace p12 : w2.cell? ⟨w.heap.size + 1, 2, none⟩ = some (.int .i64 lb) := hk2 _ _ _ (p12)
        have bp00 : w.heap.size < w2.heap.size := World.block_lt_of_cell? w2 ⟨w.heap.size, 0, none⟩ p00
        have bp10 : w.heap.size + 1 < w2.heap.size := World.block_lt_of_cell? w2 ⟨w.heap.size + 1, 0, none⟩ p10
        clear hk2
        go_wp2_with fail
        refine useK w (k3.out _) (by go_grown) ?_; rintro e w3 rfl hB3 hk3 hs3
        replace p00 : w3.cell? ⟨w.heap.size, 0, none⟩ = some (.int .i64 p) := hk3 _ _ _ (p00)
        replace p01 : w3.cell? ⟨w.heap.size, 1, none⟩ = some (.int .i64 Fa) := hk3 _ _ _ (p01)
        replace p02 : w3.cell? ⟨w.heap.size, 2, none⟩ = some (.int .i64 la) := hk3 _ _ _ (p02)
        replace p10 : w3.cell? ⟨w.heap.size + 1, 0, none⟩ = some (.int .i64 q) := hk3 _ _ _ (p10)
        replace p11 : w3.cell? ⟨w.heap.size + 1, 1, none⟩ = some (.int .i64 Fb) := hk3 _ _ _ (p11)
        replace p12 : w3.cell? ⟨w.heap.size + 1, 2, none⟩ = some (.int .i64 lb) := hk3 _ _ _ (p12)
        have bp00 : w.heap.size < w3.heap.size := World.block_lt_of_cell? w3 ⟨w.heap.size, 0, none⟩ p00
        have bp10 : w.heap.size + 1 < w3.heap.size := World.block_lt_of_cell? w3 ⟨w.heap.size + 1, 0, none⟩ p10
        clear hk3
        go_wp2_with fail
        refine useK w (k4.out _) (by go_grown) ?_; rintro e w4 rfl hB4 hk4 hs4
        replace p00 : w4.cell? ⟨w.heap.size, 0, none⟩ = some (.int .i64 p) := hk4 _ _ _ (p00)
        replace p01 : w4.cell? ⟨w.heap.size, 1, none⟩ = some (.int .i64 Fa) := hk4 _ _ _ (p01)
        replace p02 : w4.cell? ⟨w.heap.size, 2, none⟩ = some (.int .i64 la) := hk4 _ _ _ (p02)
        replace p10 : w4.cell? ⟨w.heap.size + 1, 0, none⟩ = some (.int .i64 q) := hk4 _ _ _ (p10)
        replace p11 : w4.cell? ⟨w.heap.size + 1, 1, none⟩ = some (.int .i64 Fb) := hk4 _ _ _ (p11)
        replace p12 : w4.cell? ⟨w.heap.size + 1, 2, none⟩ = some (.int .i64 lb) := hk4 _ _ _ (p12)
        have bp00 : w.heap.size < w4.heap.size := World.block_lt_of_cell? w4 ⟨w.heap.size, 0, none⟩ p00
        have bp10 : w.heap.size + 1 < w4.heap.size := World.block_lt_of_cell? w4 ⟨w.heap.size + 1, 0, none⟩ p10
        clear hk4
        go_wp2_with fail
        refine useK w (k5.out _) (by go_grown) ?_; rintro e w5 rfl hB5 hk5 hs5
        replace p00 : w5.cell? ⟨w.heap.size, 0, none⟩ = some (.int .i64 p) := hk5 _ _ _ (p00)
        replace p01 : w5.cell? ⟨w.heap.size, 1, none⟩ = some (.int .i64 Fa) := hk5 _ _ _ (p01)
        replace p02 : w5.cell? ⟨w.heap.size, 2, none⟩ = some (.int .i64 la) := hk5 _ _ _ (p02)
        replace p10 : w5.cell? ⟨w.heap.size + 1, 0, none⟩ = some (.int .i64 q) := hk5 _ _ _ (p10)
        replace p11 : w5.cell? ⟨w.heap.size + 1, 1, none⟩ = some (.int .i64 Fb) := hk5 _ _ _ (p11)
        replace p12 : w5.cell? ⟨w.heap.size + 1, 2, none⟩ = some (.int .i64 lb) := hk5 _ _ _ (p12)
        have bp00 : w.heap.size < w5.heap.size := World.block_lt_of_cell? w5 ⟨w.heap.size, 0, none⟩ p00
        have bp10 : w.heap.size + 1 < w5.heap.size := World.block_lt_of_cell? w5 ⟨w.heap.size + 1, 0, none⟩ p10
        clear hk5
        go_wp2_with fail
        refine useK w (k6.out _) (by go_grown) ?_; rintro e w6 rfl hB6 hk6 hs6
        replace p00 : w6.cell? ⟨w.heap.size, 0, none⟩ = some (.int .i64 p) := hk6 _ _ _ (p00)
        replace p01 : w6.cell? ⟨w.heap.size, 1, none⟩ = some (.int .i64 Fa) := hk6 _ _ _ (p01)
        replace p02 : w6.cell? ⟨w.heap.size, 2, none⟩ = some (.int .i64 la) := hk6 _ _ _ (p02)
        replace p10 : w6.cell? ⟨w.heap.size + 1, 0, none⟩ = some (.int .i64 q) := hk6 _ _ _ (p10)
        replace p11 : w6.cell? ⟨w.heap.size + 1, 1, none⟩ = some (.int .i64 Fb) := hk6 _ _ _ (p11)
        replace p12 : w6.cell? ⟨w.heap.size + 1, 2, none⟩ = some (.int .i64 lb) := hk6 _ _ _ (p12)
        have bp00 : w.heap.size < w6.heap.size := World.block_lt_of_cell? w6 ⟨w.heap.size, 0, none⟩ p00
        have bp10 : w.heap.size + 1 < w6.heap.size := World.block_lt_of_cell? w6 ⟨w.heap.size + 1, 0, none⟩ p10
        clear hk6
        go_wp2_with fail
        refine useK w (k7.out _) (by go_grown) ?_; rintro e w7 rfl hB7 hk7 hs7
        replace p00 : w7.cell? ⟨w.heap.size, 0, none⟩ = some (.int .i64 p) := hk7 _ _ _ (p00)
        replace p01 : w7.cell? ⟨w.heap.size, 1, none⟩ = some (.int .i64 Fa) := hk7 _ _ _ (p01)
        replace p02 : w7.cell? ⟨w.heap.size, 2, none⟩ = some (.int .i64 la) := hk7 _ _ _ (p02)
        replace p10 : w7.cell? ⟨w.heap.size + 1, 0, none⟩ = some (.int .i64 q) := hk7 _ _ _ (p10)
        replace p11 : w7.cell? ⟨w.heap.size + 1, 1, none⟩ = some (.int .i64 Fb) := hk7 _ _ _ (p11)
        replace p12 : w7.cell? ⟨w.heap.size + 1, 2, none⟩ = some (.int .i64 lb) := hk7 _ _ _ (p12)
        have bp00 : w.heap.size < w7.heap.size := World.block_lt_of_cell? w7 ⟨w.heap.size, 0, none⟩ p00
        have bp10 : w.heap.size + 1 < w7.heap.size := World.block_lt_of_cell? w7 ⟨w.heap.size + 1, 0, none⟩ p10
        clear hk7
        go_wp2_with fail
        refine useK w (k8.out _) (by go_grown) ?_; rintro e w8 rfl hB8 hk8 hs8
        replace p00 : w8.cell? ⟨w.heap.size, 0, none⟩ = some (.int .i64 p) := hk8 _ _ _ (p00)
        replace p01 : w8.cell? ⟨w.heap.size, 1, none⟩ = some (.int .i64 Fa) := hk8 _ _ _ (p01)
        replace p02 : w8.cell? ⟨w.heap.size, 2, none⟩ = some (.int .i64 la) := hk8 _ _ _ (p02)
        replace p10 : w8.cell? ⟨w.heap.size + 1, 0, none⟩ = some (.int .i64 q) := hk8 _ _ _ (p10)
        replace p11 : w8.cell? ⟨w.heap.size + 1, 1, none⟩ = some (.int .i64 Fb) := hk8 _ _ _ (p11)
        replace p12 : w8.cell? ⟨w.heap.size + 1, 2, none⟩ = some (.int .i64 lb) := hk8 _ _ _ (p12)
        have bp00 : w.heap.size < w8.heap.size := World.block_lt_of_cell? w8 ⟨w.heap.size, 0, none⟩ p00
        have bp10 : w.heap.size + 1 < w8.heap.size := World.block_lt_of_cell? w8 ⟨w.heap.size + 1, 0, none⟩ p10
        clear hk8
        go_wp2_with fail
        go_ret2
        exact ⟨by rw [hR.out]; rfl, by go_grown⟩
    | some m =>
      have h7 : v7 = m := b7.out
      subst h7
      cases o8 with
      | none =>
        have hR := hid (show R = v7 from hN.out)
        clear hs hs2 hN b7 b8
        go_enter Try.func15, Try.ntmps15
        go_wp2_with fail
        refine useK w (k1.out _) (by go_grown) ?_; rintro e w1 rfl hB1 hk1 hs1
        replace p00 : w1.cell? ⟨w.heap.size, 0, none⟩ = some (.int .i64 p) := hk1 _ _ _ (by simp [go_sem])
        replace p01 : w1.cell? ⟨w.heap.size, 1, none⟩ = some (.int .i64 Fa) := hk1 _ _ _ (by simp [go_sem])
        replace p02 : w1.cell? ⟨w.heap.size, 2, none⟩ = some (.int .i64 la) := hk1 _ _ _ (by simp [go_sem])
        replace p10 : w1.cell? ⟨w.heap.size + 1, 0, none⟩ = some (.int .i64 q) := hk1 _ _ _ (by simp [go_sem])
        replace p11 : w1.cell? ⟨w.heap.size + 1, 1, none⟩ = some (.int .i64 Fb) := hk1 _ _ _ (by simp [go_sem])
        replace p12 : w1.cell? ⟨w.heap.size + 1, 2, none⟩ = some (.int .i64 lb) := hk1 _ _ _ (by simp [go_sem])
        have bp00 : w.heap.size < w1.heap.size := World.block_lt_of_cell? w1 ⟨w.heap.size, 0, none⟩ p00
        have bp10 : w.heap.size + 1 < w1.heap.size := World.block_lt_of_cell? w1 ⟨w.heap.size + 1, 0, none⟩ p10
        clear hk1
        go_wp2_with fail
        refine useK w (k2.out _) (by go_grown) ?_; rintro e w2 rfl hB2 hk2 hs2
        replace p00 : w2.cell? ⟨w.heap.size, 0, none⟩ = some (.int .i64 p) := hk2 _ _ _ (p00)
        replace p01 : w2.cell? ⟨w.heap.size, 1, none⟩ = some (.int .i64 Fa) := hk2 _ _ _ (p01)
        replace p02 : w2.cell? ⟨w.heap.size, 2, none⟩ = some (.int .i64 la) := hk2 _ _ _ (p02)
        replace p10 : w2.cell? ⟨w.heap.size + 1, 0, none⟩ = some (.int .i64 q) := hk2 _ _ _ (p10)
        replace p11 : w2.cell? ⟨w.heap.size + 1, 1, none⟩ = some (.int .i64 Fb) := hk2 _ _ _ (p11)
        replace p12 : w2.cell? ⟨w.heap.size + 1, 2, none⟩ = some (.int .i64 lb) := hk2 _ _ _ (p12)
        have bp00 : w.heap.size < w2.heap.size := World.block_lt_of_cell? w2 ⟨w.heap.size, 0, none⟩ p00
        have bp10 : w.heap.size + 1 < w2.heap.size := World.block_lt_of_cell? w2 ⟨w.heap.size + 1, 0, none⟩ p10
        clear hk2
        go_wp2_with fail
        refine useK w (k3.out _) (by go_grown) ?_; rintro e w3 rfl hB3 hk3 hs3
        replace p00 : w3.cell? ⟨w.heap.size, 0, none⟩ = some (.int .i64 p) := hk3 _ _ _ (p00)
        replace p01 : w3.cell? ⟨w.heap.size, 1, none⟩ = some (.int .i64 Fa) := hk3 _ _ _ (p01)
        replace p02 : w3.cell? ⟨w.heap.size, 2, none⟩ = some (.int .i64 la) := hk3 _ _ _ (p02)
        replace p10 : w3.cell? ⟨w.heap.size + 1, 0, none⟩ = some (.int .i64 q) := hk3 _ _ _ (p10)
        replace p11 : w3.cell? ⟨w.heap.size + 1, 1, none⟩ = some (.int .i64 Fb) := hk3 _ _ _ (p11)
        replace p12 : w3.cell? ⟨w.heap.size + 1, 2, none⟩ = some (.int .i64 lb) := hk3 _ _ _ (p12)
        have bp00 : w.heap.size < w3.heap.size := World.block_lt_of_cell? w3 ⟨w.heap.size, 0, none⟩ p00
        have bp10 : w.heap.size + 1 < w3.heap.size := World.block_lt_of_cell? w3 ⟨w.heap.size + 1, 0, none⟩ p10
        clear hk3
        go_wp2_with fail
        refine useK w (k4.out _) (by go_grown) ?_; rintro e w4 rfl hB4 hk4 hs4
        replace p00 : w4.cell? ⟨w.heap.size, 0, none⟩ = some (.int .i64 p) := hk4 _ _ _ (p00)
        replace p01 : w4.cell? ⟨w.heap.size, 1, none⟩ = some (.int .i64 Fa) := hk4 _ _ _ (p01)
        replace p02 : w4.cell? ⟨w.heap.size, 2, none⟩ = some (.int .i64 la) := hk4 _ _ _ (p02)
        replace p10 : w4.cell? ⟨w.heap.size + 1, 0, none⟩ = some (.int .i64 q) := hk4 _ _ _ (p10)
        replace p11 : w4.cell? ⟨w.heap.size + 1, 1, none⟩ = some (.int .i64 Fb) := hk4 _ _ _ (p11)
        replace p12 : w4.cell? ⟨w.heap.size + 1, 2, none⟩ = some (.int .i64 lb) := hk4 _ _ _ (p12)
        have bp00 : w.heap.size < w4.heap.size := World.block_lt_of_cell? w4 ⟨w.heap.size, 0, none⟩ p00
        have bp10 : w.heap.size + 1 < w4.heap.size := World.block_lt_of_cell? w4 ⟨w.heap.size + 1, 0, none⟩ p10
        clear hk4
        go_wp2_with fail
        refine useK w (k5.out _) (by go_grown) ?_; rintro e w5 rfl hB5 hk5 hs5
        replace p00 : w5.cell? ⟨w.heap.size, 0, none⟩ = some (.int .i64 p) := hk5 _ _ _ (p00)
        replace p01 : w5.cell? ⟨w.heap.size, 1, none⟩ = some (.int .i64 Fa) := hk5 _ _ _ (p01)
        replace p02 : w5.cell? ⟨w.heap.size, 2, none⟩ = some (.int .i64 la) := hk5 _ _ _ (p02)
        replace p10 : w5.cell? ⟨w.heap.size + 1, 0, none⟩ = some (.int .i64 q) := hk5 _ _ _ (p10)
        replace p11 : w5.cell? ⟨w.heap.size + 1, 1, none⟩ = some (.int .i64 Fb) := hk5 _ _ _ (p11)
        replace p12 : w5.cell? ⟨w.heap.size + 1, 2, none⟩ = some (.int .i64 lb) := hk5 _ _ _ (p12)
        have bp00 : w.heap.size < w5.heap.size := World.block_lt_of_cell? w5 ⟨w.heap.size, 0, none⟩ p00
        have bp10 : w.heap.size + 1 < w5.heap.size := World.block_lt_of_cell? w5 ⟨w.heap.size + 1, 0, none⟩ p10
        clear hk5
        go_wp2_with fail
        refine useK w (k6.out _) (by go_grown) ?_; rintro e w6 rfl hB6 hk6 hs6
        replace p00 : w6.cell? ⟨w.heap.size, 0, none⟩ = some (.int .i64 p) := hk6 _ _ _ (p00)
        replace p01 : w6.cell? ⟨w.heap.size, 1, none⟩ = some (.int .i64 Fa) := hk6 _ _ _ (p01)
        replace p02 : w6.cell? ⟨w.heap.size, 2, none⟩ = some (.int .i64 la) := hk6 _ _ _ (p02)
        replace p10 : w6.cell? ⟨w.heap.size + 1, 0, none⟩ = some (.int .i64 q) := hk6 _ _ _ (p10)
        replace p11 : w6.cell? ⟨w.heap.size + 1, 1, none⟩ = some (.int .i64 Fb) := hk6 _ _ _ (p11)
        replace p12 : w6.cell? ⟨w.heap.size + 1, 2, none⟩ = some (.int .i64 lb) := hk6 _ _ _ (p12)
        have bp00 : w.heap.size < w6.heap.size := World.block_lt_of_cell? w6 ⟨w.heap.size, 0, none⟩ p00
        have bp10 : w.heap.size + 1 < w6.heap.size := World.block_lt_of_cell? w6 ⟨w.heap.size + 1, 0, none⟩ p10
        clear hk6
        go_wp2_with fail
        refine useK w (k7.out _) (by go_grown) ?_; rintro e w7 rfl hB7 hk7 hs7
        replace p00 : w7.cell? ⟨w.heap.size, 0, none⟩ = some (.int .i64 p) := hk7 _ _ _ (p00)
        replace p01 : w7.cell? ⟨w.heap.size, 1, none⟩ = some (.int .i64 Fa) := hk7 _ _ _ (p01)
        replace p02 : w7.cell? ⟨w.heap.size, 2, none⟩ = some (.int .i64 la) := hk7 _ _ _ (p02)
        replace p10 : w7.cell? ⟨w.heap.size + 1, 0, none⟩ = some (.int .i64 q) := hk7 _ _ _ (p10)
        replace p11 : w7.cell? ⟨w.heap.size + 1, 1, none⟩ = some (.int .i64 Fb) := hk7 _ _ _ (p11)
        replace p12 : w7.cell? ⟨w.heap.size + 1, 2, none⟩ = some (.int .i64 lb) := hk7 _ _ _ (p12)
        have bp00 : w.heap.size < w7.heap.size := World.block_lt_of_cell? w7 ⟨w.heap.size, 0, none⟩ p00
        have bp10 : w.heap.size + 1 < w7.heap.size := World.block_lt_of_cell? w7 ⟨w.heap.size + 1, 0, none⟩ p10
        clear hk7
        go_wp2_with fail
        refine useK w (k8.out _) (by go_grown) ?_; rintro e w8 rfl hB8 hk8 hs8
        replace p00 : w8.cell? ⟨w.heap.size, 0, none⟩ = some (.int .i64 p) := hk8 _ _ _ (p00)
        replace p01 : w8.cell? ⟨w.heap.size, 1, none⟩ = some (.int .i64 Fa) := hk8 _ _ _ (p01)
        replace p02 : w8.cell? ⟨w.heap.size, 2, none⟩ = some (.int .i64 la) := hk8 _ _ _ (p02)
        replace p10 : w8.cell? ⟨w.heap.size + 1, 0, none⟩ = some (.int .i64 q) := hk8 _ _ _ (p10)
        replace p11 : w8.cell? ⟨w.heap.size + 1, 1, none⟩ = some (.int .i64 Fb) := hk8 _ _ _ (p11)
        replace p12 : w8.cell? ⟨w.heap.size + 1, 2, none⟩ = some (.int .i64 lb) := hk8 _ _ _ (p12)
        have bp00 : w.heap.size < w8.heap.size := World.block_lt_of_cell? w8 ⟨w.heap.size, 0, none⟩ p00
        have bp10 : w.heap.size + 1 < w8.heap.size := World.block_lt_of_cell? w8 ⟨w.heap.size + 1, 0, none⟩ p10
        clear hk8
        go_wp2_with fail
        go_ret2
        exact ⟨by rw [hR.out]; rfl, by go_grown⟩
      | some n =>
        have h8 : v8 = n := b8.out
        subst h8
        have hR0 : R = if v8 < v7 then v8 else v7 := hN.out
        by_cases c : v8 < v7
        · rw [if_pos c] at hR0
          have hR := hid hR0
          clear hs hs2 hN b7 b8 hR0
          go_enter Try.func15, Try.ntmps15
          go_wp2_with fail
          refine useK w (k1.out _) (by go_grown) ?_; rintro e w1 rfl hB1 hk1 hs1
          replace p00 : w1.cell? ⟨w.heap.size, 0, none⟩ = some (.int .i64 p) := hk1 _ _ _ (by simp [go_sem])
          replace p01 : w1.cell? ⟨w.heap.size, 1, none⟩ = some (.int .i64 Fa) := hk1 _ _ _ (by simp [go_sem])
          replace p02 : w1.cell? ⟨w.heap.size, 2, none⟩ = some (.int .i64 la) := hk1 _ _ _ (by simp [go_sem])
          replace p10 : w1.cell? ⟨w.heap.size + 1, 0, none⟩ = some (.int .i64 q) := hk1 _ _ _ (by simp [go_sem])
          replace p11 : w1.cell? ⟨w.heap.size + 1, 1, none⟩ = some (.int .i64 Fb) := hk1 _ _ _ (by simp [go_sem])
          replace p12 : w1.cell? ⟨w.heap.size + 1, 2, none⟩ = some (.int .i64 lb) := hk1 _ _ _ (by simp [go_sem])
          have bp00 : w.heap.size < w1.heap.size := World.block_lt_of_cell? w1 ⟨w.heap.size, 0, none⟩ p00
          have bp10 : w.heap.size + 1 < w1.heap.size := World.block_lt_of_cell? w1 ⟨w.heap.size + 1, 0, none⟩ p10
          clear hk1
          go_wp2_with fail
          refine useK w (k2.out _) (by go_grown) ?_; rintro e w2 rfl hB2 hk2 hs2
          replace p00 : w2.cell? ⟨w.heap.size, 0, none⟩ = some (.int .i64 p) := hk2 _ _ _ (p00)
          replace p01 : w2.cell? ⟨w.heap.size, 1, none⟩ = some (.int .i64 Fa) := hk2 _ _ _ (p01)
          replace p02 : w2.cell? ⟨w.heap.size, 2, none⟩ = some (.int .i64 la) := hk2 _ _ _ (p02)
          replace p10 : w2.cell? ⟨w.heap.size + 1, 0, none⟩ = some (.int .i64 q) := hk2 _ _ _ (p10)
          replace p11 : w2.cell? ⟨w.heap.size + 1, 1, none⟩ = some (.int .i64 Fb) := hk2 _ _ _ (p11)
          replace p12 : w2.cell? ⟨w.heap.size + 1, 2, none⟩ = some (.int .i64 lb) := hk2 _ _ _ (p12)
          have bp00 : w.heap.size < w2.heap.size := World.block_lt_of_cell? w2 ⟨w.heap.size, 0, none⟩ p00
          have bp10 : w.heap.size + 1 < w2.heap.size := World.block_lt_of_cell? w2 ⟨w.heap.size + 1, 0, none⟩ p10
          clear hk2
          go_wp2_with fail
          refine useK w (k3.out _) (by go_grown) ?_; rintro e w3 rfl hB3 hk3 hs3
          replace p00 : w3.cell? ⟨w.heap.size, 0, none⟩ = some (.int .i64 p) := hk3 _ _ _ (p00)
          replace p01 : w3.cell? ⟨w.heap.size, 1, none⟩ = some (.int .i64 Fa) := hk3 _ _ _ (p01)
          replace p02 : w3.cell? ⟨w.heap.size, 2, none⟩ = some (.int .i64 la) := hk3 _ _ _ (p02)
          replace p10 : w3.cell? ⟨w.heap.size + 1, 0, none⟩ = some (.int .i64 q) := hk3 _ _ _ (p10)
          replace p11 : w3.cell? ⟨w.heap.size + 1, 1, none⟩ = some (.int .i64 Fb) := hk3 _ _ _ (p11)
          replace p12 : w3.cell? ⟨w.heap.size + 1, 2, none⟩ = some (.int .i64 lb) := hk3 _ _ _ (p12)
          have bp00 : w.heap.size < w3.heap.size := World.block_lt_of_cell? w3 ⟨w.heap.size, 0, none⟩ p00
          have bp10 : w.heap.size + 1 < w3.heap.size := World.block_lt_of_cell? w3 ⟨w.heap.size + 1, 0, none⟩ p10
          clear hk3
          go_wp2_with fail
          refine useK w (k4.out _) (by go_grown) ?_; rintro e w4 rfl hB4 hk4 hs4
          replace p00 : w4.cell? ⟨w.heap.size, 0, none⟩ = some (.int .i64 p) := hk4 _ _ _ (p00)
          replace p01 : w4.cell? ⟨w.heap.size, 1, none⟩ = some (.int .i64 Fa) := hk4 _ _ _ (p01)
          replace p02 : w4.cell? ⟨w.heap.size, 2, none⟩ = some (.int .i64 la) := hk4 _ _ _ (p02)
          replace p10 : w4.cell? ⟨w.heap.size + 1, 0, none⟩ = some (.int .i64 q) := hk4 _ _ _ (p10)
          replace p11 : w4.cell? ⟨w.heap.size + 1, 1, none⟩ = some (.int .i64 Fb) := hk4 _ _ _ (p11)
          replace p12 : w4.cell? ⟨w.heap.size + 1, 2, none⟩ = some (.int .i64 lb) := hk4 _ _ _ (p12)
          have bp00 : w.heap.size < w4.heap.size := World.block_lt_of_cell? w4 ⟨w.heap.size, 0, none⟩ p00
          have bp10 : w.heap.size + 1 < w4.heap.size := World.block_lt_of_cell? w4 ⟨w.heap.size + 1, 0, none⟩ p10
          clear hk4
          go_wp2_with fail
          refine useK w (k5.out _) (by go_grown) ?_; rintro e w5 rfl hB5 hk5 hs5
          replace p00 : w5.cell? ⟨w.heap.size, 0, none⟩ = some (.int .i64 p) := hk5 _ _ _ (p00)
          replace p01 : w5.cell? ⟨w.heap.size, 1, none⟩ = some (.int .i64 Fa) := hk5 _ _ _ (p01)
          replace p02 : w5.cell? ⟨w.heap.size, 2, none⟩ = some (.int .i64 la) := hk5 _ _ _ (p02)
          replace p10 : w5.cell? ⟨w.heap.size + 1, 0, none⟩ = some (.int .i64 q) := hk5 _ _ _ (p10)
          replace p11 : w5.cell? ⟨w.heap.size + 1, 1, none⟩ = some (.int .i64 Fb) := hk5 _ _ _ (p11)
          replace p12 : w5.cell? ⟨w.heap.size + 1, 2, none⟩ = some (.int .i64 lb) := hk5 _ _ _ (p12)
          have bp00 : w.heap.size < w5.heap.size := World.block_lt_of_cell? w5 ⟨w.heap.size, 0, none⟩ p00
          have bp10 : w.heap.size + 1 < w5.heap.size := World.block_lt_of_cell? w5 ⟨w.heap.size + 1, 0, none⟩ p10
          clear hk5
          go_wp2_with fail
          refine useK w (k6.out _) (by go_grown) ?_; rintro e w6 rfl hB6 hk6 hs6
          replace p00 : w6.cell? ⟨w.heap.size, 0, none⟩ = some (.int .i64 p) := hk6 _ _ _ (p00)
          replace p01 : w6.cell? ⟨w.heap.size, 1, none⟩ = some (.int .i64 Fa) := hk6 _ _ _ (p01)
          replace p02 : w6.cell? ⟨w.heap.size, 2, none⟩ = some (.int .i64 la) := hk6 _ _ _ (p02)
          replace p10 : w6.cell? ⟨w.heap.size + 1, 0, none⟩ = some (.int .i64 q) := hk6 _ _ _ (p10)
          replace p11 : w6.cell? ⟨w.heap.size + 1, 1, none⟩ = some (.int .i64 Fb) := hk6 _ _ _ (p11)
          replace p12 : w6.cell? ⟨w.heap.size + 1, 2, none⟩ = some (.int .i64 lb) := hk6 _ _ _ (p12)
          have bp00 : w.heap.size < w6.heap.size := World.block_lt_of_cell? w6 ⟨w.heap.size, 0, none⟩ p00
          have bp10 : w.heap.size + 1 < w6.heap.size := World.block_lt_of_cell? w6 ⟨w.heap.size + 1, 0, none⟩ p10
          clear hk6
          go_wp2_with fail
          refine useK w (k7.out _) (by go_grown) ?_; rintro e w7 rfl hB7 hk7 hs7
          replace p00 : w7.cell? ⟨w.heap.size, 0, none⟩ = some (.int .i64 p) := hk7 _ _ _ (p00)
          replace p01 : w7.cell? ⟨w.heap.size, 1, none⟩ = some (.int .i64 Fa) := hk7 _ _ _ (p01)
          replace p02 : w7.cell? ⟨w.heap.size, 2, none⟩ = some (.int .i64 la) := hk7 _ _ _ (p02)
          replace p10 : w7.cell? ⟨w.heap.size + 1, 0, none⟩ = some (.int .i64 q) := hk7 _ _ _ (p10)
          replace p11 : w7.cell? ⟨w.heap.size + 1, 1, none⟩ = some (.int .i64 Fb) := hk7 _ _ _ (p11)
          replace p12 : w7.cell? ⟨w.heap.size + 1, 2, none⟩ = some (.int .i64 lb) := hk7 _ _ _ (p12)
          have bp00 : w.heap.size < w7.heap.size := World.block_lt_of_cell? w7 ⟨w.heap.size, 0, none⟩ p00
          have bp10 : w.heap.size + 1 < w7.heap.size := World.block_lt_of_cell? w7 ⟨w.heap.size + 1, 0, none⟩ p10
          clear hk7
          go_wp2_with fail
          refine useK w (k8.out _) (by go_grown) ?_; rintro e w8 rfl hB8 hk8 hs8
          replace p00 : w8.cell? ⟨w.heap.size, 0, none⟩ = some (.int .i64 p) := hk8 _ _ _ (p00)
          replace p01 : w8.cell? ⟨w.heap.size, 1, none⟩ = some (.int .i64 Fa) := hk8 _ _ _ (p01)
          replace p02 : w8.cell? ⟨w.heap.size, 2, none⟩ = some (.int .i64 la) := hk8 _ _ _ (p02)
          replace p10 : w8.cell? ⟨w.heap.size + 1, 0, none⟩ = some (.int .i64 q) := hk8 _ _ _ (p10)
          replace p11 : w8.cell? ⟨w.heap.size + 1, 1, none⟩ = some (.int .i64 Fb) := hk8 _ _ _ (p11)
          replace p12 : w8.cell? ⟨w.heap.size + 1, 2, none⟩ = some (.int .i64 lb) := hk8 _ _ _ (p12)
          have bp00 : w.heap.size < w8.heap.size := World.block_lt_of_cell? w8 ⟨w.heap.size, 0, none⟩ p00
          have bp10 : w.heap.size + 1 < w8.heap.size := World.block_lt_of_cell? w8 ⟨w.heap.size + 1, 0, none⟩ p10
          clear hk8
          go_wp2_with fail
          go_ret2
          exact ⟨by rw [hR.out]; rfl, by go_grown⟩
        · rw [if_neg c] at hR0
          have hR := hid hR0
          clear hs hs2 hN b7 b8 hR0
          go_enter Try.func15, Try.ntmps15
          go_wp2_with fail
          refine useK w (k1.out _) (by go_grown) ?_; rintro e w1 rfl hB1 hk1 hs1
          replace p00 : w1.cell? ⟨w.heap.size, 0, none⟩ = some (.int .i64 p) := hk1 _ _ _ (by simp [go_sem])
          replace p01 : w1.cell? ⟨w.heap.size, 1, none⟩ = some (.int .i64 Fa) := hk1 _ _ _ (by simp [go_sem])
          replace p02 : w1.cell? ⟨w.heap.size, 2, none⟩ = some (.int .i64 la) := hk1 _ _ _ (by simp [go_sem])
          replace p10 : w1.cell? ⟨w.heap.size + 1, 0, none⟩ = some (.int .i64 q) := hk1 _ _ _ (by simp [go_sem])
          replace p11 : w1.cell? ⟨w.heap.size + 1, 1, none⟩ = some (.int .i64 Fb) := hk1 _ _ _ (by simp [go_sem])
          replace p12 : w1.cell? ⟨w.heap.size + 1, 2, none⟩ = some (.int .i64 lb) := hk1 _ _ _ (by simp [go_sem])
          have bp00 : w.heap.size < w1.heap.size := World.block_lt_of_cell? w1 ⟨w.heap.size, 0, none⟩ p00
          have bp10 : w.heap.size + 1 < w1.heap.size := World.block_lt_of_cell? w1 ⟨w.heap.size + 1, 0, none⟩ p10
          clear hk1
          go_wp2_with fail
          refine useK w (k2.out _) (by go_grown) ?_; rintro e w2 rfl hB2 hk2 hs2
          replace p00 : w2.cell? ⟨w.heap.size, 0, none⟩ = some (.int .i64 p) := hk2 _ _ _ (p00)
          replace p01 : w2.cell? ⟨w.heap.size, 1, none⟩ = some (.int .i64 Fa) := hk2 _ _ _ (p01)
          replace p02 : w2.cell? ⟨w.heap.size, 2, none⟩ = some (.int .i64 la) := hk2 _ _ _ (p02)
          replace p10 : w2.cell? ⟨w.heap.size + 1, 0, none⟩ = some (.int .i64 q) := hk2 _ _ _ (p10)
          replace p11 : w2.cell? ⟨w.heap.size + 1, 1, none⟩ = some (.int .i64 Fb) := hk2 _ _ _ (p11)
          replace p12 : w2.cell? ⟨w.heap.size + 1, 2, none⟩ = some (.int .i64 lb) := hk2 _ _ _ (p12)
          have bp00 : w.heap.size < w2.heap.size := World.block_lt_of_cell? w2 ⟨w.heap.size, 0, none⟩ p00
          have bp10 : w.heap.size + 1 < w2.heap.size := World.block_lt_of_cell? w2 ⟨w.heap.size + 1, 0, none⟩ p10
          clear hk2
          go_wp2_with fail
          refine useK w (k3.out _) (by go_grown) ?_; rintro e w3 rfl hB3 hk3 hs3
          replace p00 : w3.cell? ⟨w.heap.size, 0, none⟩ = some (.int .i64 p) := hk3 _ _ _ (p00)
          replace p01 : w3.cell? ⟨w.heap.size, 1, none⟩ = some (.int .i64 Fa) := hk3 _ _ _ (p01)
          replace p02 : w3.cell? ⟨w.heap.size, 2, none⟩ = some (.int .i64 la) := hk3 _ _ _ (p02)
          replace p10 : w3.cell? ⟨w.heap.size + 1, 0, none⟩ = some (.int .i64 q) := hk3 _ _ _ (p10)
          replace p11 : w3.cell? ⟨w.heap.size + 1, 1, none⟩ = some (.int .i64 Fb) := hk3 _ _ _ (p11)
          replace p12 : w3.cell? ⟨w.heap.size + 1, 2, none⟩ = some (.int .i64 lb) := hk3 _ _ _ (p12)
          have bp00 : w.heap.size < w3.heap.size := World.block_lt_of_cell? w3 ⟨w.heap.size, 0, none⟩ p00
          have bp10 : w.heap.size + 1 < w3.heap.size := World.block_lt_of_cell? w3 ⟨w.heap.size + 1, 0, none⟩ p10
          clear hk3
          go_wp2_with fail
          refine useK w (k4.out _) (by go_grown) ?_; rintro e w4 rfl hB4 hk4 hs4
          replace p00 : w4.cell? ⟨w.heap.size, 0, none⟩ = some (.int .i64 p) := hk4 _ _ _ (p00)
          replace p01 : w4.cell? ⟨w.heap.size, 1, none⟩ = some (.int .i64 Fa) := hk4 _ _ _ (p01)
          replace p02 : w4.cell? ⟨w.heap.size, 2, none⟩ = some (.int .i64 la) := hk4 _ _ _ (p02)
          replace p10 : w4.cell? ⟨w.heap.size + 1, 0, none⟩ = some (.int .i64 q) := hk4 _ _ _ (p10)
          replace p11 : w4.cell? ⟨w.heap.size + 1, 1, none⟩ = some (.int .i64 Fb) := hk4 _ _ _ (p11)
          replace p12 : w4.cell? ⟨w.heap.size + 1, 2, none⟩ = some (.int .i64 lb) := hk4 _ _ _ (p12)
          have bp00 : w.heap.size < w4.heap.size := World.block_lt_of_cell? w4 ⟨w.heap.size, 0, none⟩ p00
          have bp10 : w.heap.size + 1 < w4.heap.size := World.block_lt_of_cell? w4 ⟨w.heap.size + 1, 0, none⟩ p10
          clear hk4
          go_wp2_with fail
          refine useK w (k5.out _) (by go_grown) ?_; rintro e w5 rfl hB5 hk5 hs5
          replace p00 : w5.cell? ⟨w.heap.size, 0, none⟩ = some (.int .i64 p) := hk5 _ _ _ (p00)
          replace p01 : w5.cell? ⟨w.heap.size, 1, none⟩ = some (.int .i64 Fa) := hk5 _ _ _ (p01)
          replace p02 : w5.cell? ⟨w.heap.size, 2, none⟩ = some (.int .i64 la) := hk5 _ _ _ (p02)
          replace p10 : w5.cell? ⟨w.heap.size + 1, 0, none⟩ = some (.int .i64 q) := hk5 _ _ _ (p10)
          replace p11 : w5.cell? ⟨w.heap.size + 1, 1, none⟩ = some (.int .i64 Fb) := hk5 _ _ _ (p11)
          replace p12 : w5.cell? ⟨w.heap.size + 1, 2, none⟩ = some (.int .i64 lb) := hk5 _ _ _ (p12)
          have bp00 : w.heap.size < w5.heap.size := World.block_lt_of_cell? w5 ⟨w.heap.size, 0, none⟩ p00
          have bp10 : w.heap.size + 1 < w5.heap.size := World.block_lt_of_cell? w5 ⟨w.heap.size + 1, 0, none⟩ p10
          clear hk5
          go_wp2_with fail
          refine useK w (k6.out _) (by go_grown) ?_; rintro e w6 rfl hB6 hk6 hs6
          replace p00 : w6.cell? ⟨w.heap.size, 0, none⟩ = some (.int .i64 p) := hk6 _ _ _ (p00)
          replace p01 : w6.cell? ⟨w.heap.size, 1, none⟩ = some (.int .i64 Fa) := hk6 _ _ _ (p01)
          replace p02 : w6.cell? ⟨w.heap.size, 2, none⟩ = some (.int .i64 la) := hk6 _ _ _ (p02)
          replace p10 : w6.cell? ⟨w.heap.size + 1, 0, none⟩ = some (.int .i64 q) := hk6 _ _ _ (p10)
          replace p11 : w6.cell? ⟨w.heap.size + 1, 1, none⟩ = some (.int .i64 Fb) := hk6 _ _ _ (p11)
          replace p12 : w6.cell? ⟨w.heap.size + 1, 2, none⟩ = some (.int .i64 lb) := hk6 _ _ _ (p12)
          have bp00 : w.heap.size < w6.heap.size := World.block_lt_of_cell? w6 ⟨w.heap.size, 0, none⟩ p00
          have bp10 : w.heap.size + 1 < w6.heap.size := World.block_lt_of_cell? w6 ⟨w.heap.size + 1, 0, none⟩ p10
          clear hk6
          go_wp2_with fail
          refine useK w (k7.out _) (by go_grown) ?_; rintro e w7 rfl hB7 hk7 hs7
          replace p00 : w7.cell? ⟨w.heap.size, 0, none⟩ = some (.int .i64 p) := hk7 _ _ _ (p00)
          replace p01 : w7.cell? ⟨w.heap.size, 1, none⟩ = some (.int .i64 Fa) := hk7 _ _ _ (p01)
          replace p02 : w7.cell? ⟨w.heap.size, 2, none⟩ = some (.int .i64 la) := hk7 _ _ _ (p02)
          replace p10 : w7.cell? ⟨w.heap.size + 1, 0, none⟩ = some (.int .i64 q) := hk7 _ _ _ (p10)
          replace p11 : w7.cell? ⟨w.heap.size + 1, 1, none⟩ = some (.int .i64 Fb) := hk7 _ _ _ (p11)
          replace p12 : w7.cell? ⟨w.heap.size + 1, 2, none⟩ = some (.int .i64 lb) := hk7 _ _ _ (p12)
          have bp00 : w.heap.size < w7.heap.size := World.block_lt_of_cell? w7 ⟨w.heap.size, 0, none⟩ p00
          have bp10 : w.heap.size + 1 < w7.heap.size := World.block_lt_of_cell? w7 ⟨w.heap.size + 1, 0, none⟩ p10
          clear hk7
          go_wp2_with fail
          refine useK w (k8.out _) (by go_grown) ?_; rintro e w8 rfl hB8 hk8 hs8
          replace p00 : w8.cell? ⟨w.heap.size, 0, none⟩ = some (.int .i64 p) := hk8 _ _ _ (p00)
          replace p01 : w8.cell? ⟨w.heap.size, 1, none⟩ = some (.int .i64 Fa) := hk8 _ _ _ (p01)
          replace p02 : w8.cell? ⟨w.heap.size, 2, none⟩ = some (.int .i64 la) := hk8 _ _ _ (p02)
          replace p10 : w8.cell? ⟨w.heap.size + 1, 0, none⟩ = some (.int .i64 q) := hk8 _ _ _ (p10)
          replace p11 : w8.cell? ⟨w.heap.size + 1, 1, none⟩ = some (.int .i64 Fb) := hk8 _ _ _ (p11)
          replace p12 : w8.cell? ⟨w.heap.size + 1, 2, none⟩ = some (.int .i64 lb) := hk8 _ _ _ (p12)
          have bp00 : w.heap.size < w8.heap.size := World.block_lt_of_cell? w8 ⟨w.heap.size, 0, none⟩ p00
          have bp10 : w.heap.size + 1 < w8.heap.size := World.block_lt_of_cell? w8 ⟨w.heap.size + 1, 0, none⟩ p10
          clear hk8
          go_wp2_with fail
          go_ret2
          exact ⟨by rw [hR.out]; rfl, by go_grown⟩
  have hR := hid (show R = t from hN.out)
  clear hs hN b7 b8 k7 k8
  go_enter Try.func15, Try.ntmps15
  go_wp2_with fail
  refine useK w (k1.out _) (by go_grown) ?_; rintro e w1 rfl hB1 hk1 hs1
  replace p00 : w1.cell? ⟨w.heap.size, 0, none⟩ = some (.int .i64 p) := hk1 _ _ _ (by simp [go_sem])
  replace p01 : w1.cell? ⟨w.heap.size, 1, none⟩ = some (.int .i64 Fa) := hk1 _ _ _ (by simp [go_sem])
  replace p02 : w1.cell? ⟨w.heap.size, 2, none⟩ = some (.int .i64 la) := hk1 _ _ _ (by simp [go_sem])
  replace p10 : w1.cell? ⟨w.heap.size + 1, 0, none⟩ = some (.int .i64 q) := hk1 _ _ _ (by simp [go_sem])
  replace p11 : w1.cell? ⟨w.heap.size + 1, 1, none⟩ = some (.int .i64 Fb) := hk1 _ _ _ (by simp [go_sem])
  replace p12 : w1.cell? ⟨w.heap.size + 1, 2, none⟩ = some (.int .i64 lb) := hk1 _ _ _ (by simp [go_sem])
  have bp00 : w.heap.size < w1.heap.size := World.block_lt_of_cell? w1 ⟨w.heap.size, 0, none⟩ p00
  have bp10 : w.heap.size + 1 < w1.heap.size := World.block_lt_of_cell? w1 ⟨w.heap.size + 1, 0, none⟩ p10
  clear hk1
  go_wp2_with fail
  refine useK w (k2.out _) (by go_grown) ?_; rintro e w2 rfl hB2 hk2 hs2
  replace p00 : w2.cell? ⟨w.heap.size, 0, none⟩ = some (.int .i64 p) := hk2 _ _ _ (p00)
  replace p01 : w2.cell? ⟨w.heap.size, 1, none⟩ = some (.int .i64 Fa) := hk2 _ _ _ (p01)
  replace p02 : w2.cell? ⟨w.heap.size, 2, none⟩ = some (.int .i64 la) := hk2 _ _ _ (p02)
  replace p10 : w2.cell? ⟨w.heap.size + 1, 0, none⟩ = some (.int .i64 q) := hk2 _ _ _ (p10)
  replace p11 : w2.cell? ⟨w.heap.size + 1, 1, none⟩ = some (.int .i64 Fb) := hk2 _ _ _ (p11)
  replace p12 : w2.cell? ⟨w.heap.size + 1, 2, none⟩ = some (.int .i64 lb) := hk2 _ _ _ (p12)
  have bp00 : w.heap.size < w2.heap.size := World.block_lt_of_cell? w2 ⟨w.heap.size, 0, none⟩ p00
  have bp10 : w.heap.size + 1 < w2.heap.size := World.block_lt_of_cell? w2 ⟨w.heap.size + 1, 0, none⟩ p10
  clear hk2
  go_wp2_with fail
  refine useK w (k3.out _) (by go_grown) ?_; rintro e w3 rfl hB3 hk3 hs3
  replace p00 : w3.cell? ⟨w.heap.size, 0, none⟩ = some (.int .i64 p) := hk3 _ _ _ (p00)
  replace p01 : w3.cell? ⟨w.heap.size, 1, none⟩ = some (.int .i64 Fa) := hk3 _ _ _ (p01)
  replace p02 : w3.cell? ⟨w.heap.size, 2, none⟩ = some (.int .i64 la) := hk3 _ _ _ (p02)
  replace p10 : w3.cell? ⟨w.heap.size + 1, 0, none⟩ = some (.int .i64 q) := hk3 _ _ _ (p10)
  replace p11 : w3.cell? ⟨w.heap.size + 1, 1, none⟩ = some (.int .i64 Fb) := hk3 _ _ _ (p11)
  replace p12 : w3.cell? ⟨w.heap.size + 1, 2, none⟩ = some (.int .i64 lb) := hk3 _ _ _ (p12)
  have bp00 : w.heap.size < w3.heap.size := World.block_lt_of_cell? w3 ⟨w.heap.size, 0, none⟩ p00
  have bp10 : w.heap.size + 1 < w3.heap.size := World.block_lt_of_cell? w3 ⟨w.heap.size + 1, 0, none⟩ p10
  clear hk3
  go_wp2_with fail
  refine useK w (k4.out _) (by go_grown) ?_; rintro e w4 rfl hB4 hk4 hs4
  replace p00 : w4.cell? ⟨w.heap.size, 0, none⟩ = some (.int .i64 p) := hk4 _ _ _ (p00)
  replace p01 : w4.cell? ⟨w.heap.size, 1, none⟩ = some (.int .i64 Fa) := hk4 _ _ _ (p01)
  replace p02 : w4.cell? ⟨w.heap.size, 2, none⟩ = some (.int .i64 la) := hk4 _ _ _ (p02)
  replace p10 : w4.cell? ⟨w.heap.size + 1, 0, none⟩ = some (.int .i64 q) := hk4 _ _ _ (p10)
  replace p11 : w4.cell? ⟨w.heap.size + 1, 1, none⟩ = some (.int .i64 Fb) := hk4 _ _ _ (p11)
  replace p12 : w4.cell? ⟨w.heap.size + 1, 2, none⟩ = some (.int .i64 lb) := hk4 _ _ _ (p12)
  have bp00 : w.heap.size < w4.heap.size := World.block_lt_of_cell? w4 ⟨w.heap.size, 0, none⟩ p00
  have bp10 : w.heap.size + 1 < w4.heap.size := World.block_lt_of_cell? w4 ⟨w.heap.size + 1, 0, none⟩ p10
  clear hk4
  go_wp2_with fail
  refine useK w (k5.out _) (by go_grown) ?_; rintro e w5 rfl hB5 hk5 hs5
  replace p00 : w5.cell? ⟨w.heap.size, 0, none⟩ = some (.int .i64 p) := hk5 _ _ _ (p00)
  replace p01 : w5.cell? ⟨w.heap.size, 1, none⟩ = some (.int .i64 Fa) := hk5 _ _ _ (p01)
  replace p02 : w5.cell? ⟨w.heap.size, 2, none⟩ = some (.int .i64 la) := hk5 _ _ _ (p02)
  replace p10 : w5.cell? ⟨w.heap.size + 1, 0, none⟩ = some (.int .i64 q) := hk5 _ _ _ (p10)
  replace p11 : w5.cell? ⟨w.heap.size + 1, 1, none⟩ = some (.int .i64 Fb) := hk5 _ _ _ (p11)
  replace p12 : w5.cell? ⟨w.heap.size + 1, 2, none⟩ = some (.int .i64 lb) := hk5 _ _ _ (p12)
  have bp00 : w.heap.size < w5.heap.size := World.block_lt_of_cell? w5 ⟨w.heap.size, 0, none⟩ p00
  have bp10 : w.heap.size + 1 < w5.heap.size := World.block_lt_of_cell? w5 ⟨w.heap.size + 1, 0, none⟩ p10
  clear hk5
  go_wp2_with fail
  refine useK w (k6.out _) (by go_grown) ?_; rintro e w6 rfl hB6 hk6 hs6
  replace p00 : w6.cell? ⟨w.heap.size, 0, none⟩ = some (.int .i64 p) := hk6 _ _ _ (p00)
  replace p01 : w6.cell? ⟨w.heap.size, 1, none⟩ = some (.int .i64 Fa) := hk6 _ _ _ (p01)
  replace p02 : w6.cell? ⟨w.heap.size, 2, none⟩ = some (.int .i64 la) := hk6 _ _ _ (p02)
  replace p10 : w6.cell? ⟨w.heap.size + 1, 0, none⟩ = some (.int .i64 q) := hk6 _ _ _ (p10)
  replace p11 : w6.cell? ⟨w.heap.size + 1, 1, none⟩ = some (.int .i64 Fb) := hk6 _ _ _ (p11)
  replace p12 : w6.cell? ⟨w.heap.size + 1, 2, none⟩ = some (.int .i64 lb) := hk6 _ _ _ (p12)
  have bp00 : w.heap.size < w6.heap.size := World.block_lt_of_cell? w6 ⟨w.heap.size, 0, none⟩ p00
  have bp10 : w.heap.size + 1 < w6.heap.size := World.block_lt_of_cell? w6 ⟨w.heap.size + 1, 0, none⟩ p10
  clear hk6
  go_wp2_with fail
  go_ret2
  exact ⟨by rw [hR.out]; rfl, by go_grown⟩
end Go.Proofs.Ytlpbkifiidlllaa
