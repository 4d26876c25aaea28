/- How often windows meet, and when next, as the document says. -/
import Derived.Deep.DeepCutAuto
import Derived.Test.YtlpbkifiidlllaaRows
import Derived.Test.YtlpbkifiidlllaaBase
import Derived.Test.YtlpbkifiidlllaaFacts
import Derived.Test.YtlpbkifiidlllaaTwo
import Derived.Deep.RegionHeld3
import Derived.Deep.RegionWith
import Derived.Deep.QuietTactic
import Derived.BigQuiet
import Derived.Test.YtlpbkifiidlllaaSeq
import Derived.Test.YtlpbkifiidlllaaWinM
import Derived.Test.YtlpbkifiidlllaaWinF
import Derived.Test.YtlpbkifiidlllaaMeetM
import Derived.Test.YtlpbkifiidlllaaMeetF
set_option linter.unusedVariables false
set_option linter.unusedSimpArgs false
set_option maxHeartbeats 4000000
set_option maxRecDepth 100000
namespace Go.Proofs.Ytlpbkifiidlllaa
open Go Go.RowKit
/-- The least common multiple, by the gcd. -/
theorem lcm_parts {p q : Nat} (hp : 1 ≤ (p : Int) ∧ (p : Int) ≤ 1073741824) (hq : 1 ≤ (q : Int) ∧ (q : Int) ≤ 1073741824) : ∃ g d N : Nat, Nat.gcd p q = g ∧ p / g = d ∧ lcmN p q = N ∧ d * q = N ∧ 0 < g ∧ g ≤ 1073741824 ∧ d ≤ 1073741824 ∧ N ≤ 1152921504606846976 ∧ 0 < N := by
  have hg : 0 < Nat.gcd p q := Nat.gcd_pos_of_pos_left _ (by omega)
  have hgp : Nat.gcd p q ≤ p := Nat.le_of_dvd (by omega) (Nat.gcd_dvd_left p q)
  have hd : p / Nat.gcd p q ≤ p := Nat.div_le_self _ _
  have hN : p / Nat.gcd p q * q ≤ 1073741824 * 1073741824 := Nat.mul_le_mul (by omega) (by omega)
  exact ⟨_, _, _, rfl, rfl, rfl, rfl, hg, by omega, by omega, hN, lcm_pos (by omega) (by omega)⟩
theorem rbrief_ok (p q la lb : Nat) (Fa Fb : Int) (w : World) (ca : winB p Fa la = true) (cb : winB q Fb lb = true) :
    Calls Try.prog 12 #[.agg #[.int .i64 p, .int .i64 Fa, .int .i64 la], .agg #[.int .i64 q, .int .i64 Fb, .int .i64 lb]] w fun e w' => e = .returned (.bool (decide (((lcmN p q : Nat) : Int) ≤ 20000))) ∧ Below w.heap.size w w' := by
  obtain ⟨p1, p2, f1, f2, l1, l2⟩ := win_bd ca
  obtain ⟨q1, q2, g1, g2, m1, m2⟩ := win_bd cb
  have k1 := hid (fun W => rwin_any p Fa la W (by omega))
  have k2 := hid (fun W => rwin_any q Fb lb W (by omega))
  have k3 := hid (fun W => rgcd_any p q W (by omega) (by omega))
  obtain ⟨g, d, N, h1, h2, h3, h4, h5, h6, h7, h8, h9⟩ := lcm_parts ⟨p1, p2⟩ ⟨q1, q2⟩
  rw [h1] at k3
  rw [h3]
  rw [ca] at k1
  rw [cb] at k2
  have e1 : ((p : Int).tdiv (g : Int)) = (d : Int) := by rw [Int.tdiv_eq_ediv_of_nonneg (by omega), ← Int.natCast_ediv, h2]
  have e2 : ((p : Int) / (g : Int)) = (d : Int) := by rw [← Int.natCast_ediv, h2]
  have zg : ¬ (g : Int) = 0 := by omega
  have zg1 : ((g : Int) == 0) = false := by rw [beq_eq_false_iff_ne]; exact zg
  have zg2 : ¬ g = 0 := by omega
  have w0 : IntKind.i64.wrap (d : Int) = (d : Int) := by rw [IntKind.wrap_i64]; omega
  have w1 : IntKind.i64.wrap ((d : Int) * (q : Int)) = (N : Int) := by rw [← Int.natCast_mul, h4, IntKind.wrap_i64]; omega
  have w2 : ((d : Int) * (q : Int)) = (N : Int) := by rw [← Int.natCast_mul, h4]
  have w3 : IntKind.i64.wrap (N : Int) = (N : Int) := by rw [IntKind.wrap_i64]; omega
  clear ca cb h1 h2 h3 h4
  go_enter Try.func12, Try.ntmps12
  go_wp2_with fail
  refine useK w (k1.out _) (by go_grown) ?_; rintro e w1 rfl hB1 hk1 hs1
  replace p00 : w1.cell? ⟨w.heap.size, 0, none⟩ = some (.int .i64 p) := hk1 _ _ _ (by simp [go_sem])
  replace p01 : w1.cell? ⟨w.heap.size, 1, none⟩ = some (.int .i64 Fa) := hk1 _ _ _ (by simp [go_sem])
  replace p02 : w1.cell? ⟨w.heap.size, 2, none⟩ = some (.int .i64 la) := hk1 _ _ _ (by simp [go_sem])
  replace p10 : w1.cell? ⟨w.heap.size + 1, 0, none⟩ = some (.int .i64 q) := hk1 _ _ _ (by simp [go_sem])
  replace p11 : w1.cell? ⟨w.heap.size + 1, 1, none⟩ = some (.int .i64 Fb) := hk1 _ _ _ (by simp [go_sem])
  replace p12 : w1.cell? ⟨w.heap.size + 1, 2, none⟩ = some (.int .i64 lb) := hk1 _ _ _ (by simp [go_sem])
  have bp00 : w.heap.size < w1.heap.size := World.block_lt_of_cell? w1 ⟨w.heap.size, 0, none⟩ p00
  have bp10 : w.heap.size + 1 < w1.heap.size := World.block_lt_of_cell? w1 ⟨w.heap.size + 1, 0, none⟩ p10
  clear hk1
  go_wp2_with fail
  refine useK w (k2.out _) (by go_grown) ?_; rintro e w2 rfl hB2 hk2 hs2
  replace p00 : w2.cell? ⟨w.heap.size, 0, none⟩ = some (.int .i64 p) := hk2 _ _ _ (p00)
  replace p01 : w2.cell? ⟨w.heap.size, 1, none⟩ = some (.int .i64 Fa) := hk2 _ _ _ (p01)
  replace p02 : w2.cell? ⟨w.heap.size, 2, none⟩ = some (.int .i64 la) := hk2 _ _ _ (p02)
  replace p10 : w2.cell? ⟨w.heap.size + 1, 0, none⟩ = some (.int .i64 q) := hk2 _ _ _ (p10)
  replace p11 : w2.cell? ⟨w.heap.size + 1, 1, none⟩ = some (.int .i64 Fb) := hk2 _ _ _ (p11)
  replace p12 : w2.cell? ⟨w.heap.size + 1, 2, none⟩ = some (.int .i64 lb) := hk2 _ _ _ (p12)
  have bp00 : w.heap.size < w2.heap.size := World.block_lt_of_cell? w2 ⟨w.heap.size, 0, none⟩ p00
  have bp10 : w.heap.size + 1 < w2.heap.size := World.block_lt_of_cell? w2 ⟨w.heap.size + 1, 0, none⟩ p10
  clear hk2
  go_wp2_with fail
  refine wp_region_held_drew (S := (fun w' => w'.cell? ⟨w.heap.size, 0, none⟩ = some (.int .i64 p) ∧ w'.cell? ⟨w.heap.size, 1, none⟩ = some (.int .i64 Fa) ∧ w'.cell? ⟨w.heap.size, 2, none⟩ = some (.int .i64 la) ∧ w'.cell? ⟨w.heap.size + 1, 0, none⟩ = some (.int .i64 q) ∧ w'.cell? ⟨w.heap.size + 1, 1, none⟩ = some (.int .i64 Fb) ∧ w'.cell? ⟨w.heap.size + 1, 2, none⟩ = some (.int .i64 lb))) (by kernel_rfl) (by (try dsimp only); (first | (exact ⟨hk1 _ _ _ (hOld.1), hk1 _ _ _ (hOld.2.1), hk1 _ _ _ (hOld.2.2.1), hk1 _ _ _ (hOld.2.2.2.1), hk1 _ _ _ (hOld.2.2.2.2.1), hk1 _ _ _ (hOld.2.2.2.2.2)⟩) | ((try simp only [World.cell?_drew, World.frozen?_drew]); (repeat' apply And.intro) <;> (first | (with_reducible assumption) | (with_reducible exact ⟨_, by assumption⟩) | (with_reducible exact ⟨_, two_other (by assumption) (by omega)⟩) | (with_reducible exact two_0 (by assumption)) | (with_reducible exact two_1 (by assumption)) | (with_reducible exact two_other (by assumption) (by omega)) | (with_reducible exact two_fz (by assumption)) | (with_reducible exact keepA _ (by assumption)) | (with_reducible exact keepA _ (keepA _ (keepA _ (by assumption)))) | (simp (maxDischargeDepth := 8) [*, go_sem, World.cell?_alloc_some, World.cell?_setCell_far]; done))) | (go_keep; done) | (simp (maxDischargeDepth := 8) [*, go_sem, World.cell?_alloc_some, World.cell?_setCell_far]; done))) (fun hHeld => ?_)
  (refine wpAnyH_take (i := 0) (oi := ⟨some 17, _, _, _, _, none⟩) (v := ?_) rfl (by kernel_rfl) (by kernel_rfl) (by kernel_rfl) (fun _ _ _ h => h) (Or.inl ⟨by rfl, ?_⟩) hHeld ?_; rotate_left; (· (intro w9 hSw; (try dsimp only at hSw); go_simp; (try with_reducible rfl))))
  (try simp only [Act.put, List.setIfInBounds_toArray, List.set_cons_zero, List.set_cons_succ])
  (refine wpAnyH_take (i := 1) (oi := ⟨some 18, _, _, _, _, none⟩) (v := ?_) rfl (by kernel_rfl) (by kernel_rfl) (by kernel_rfl) (fun _ _ _ h => h) (Or.inl ⟨by rfl, ?_⟩) hHeld ?_; rotate_left; (· (intro w9 hSw; (try dsimp only at hSw); go_simp; (try with_reducible rfl))))
  (try simp only [Act.put, List.setIfInBounds_toArray, List.set_cons_zero, List.set_cons_succ])
  (refine wpAnyH_take (i := 2) (oi := ⟨some 19, _, _, _, _, none⟩) (v := ?_) rfl (by kernel_rfl) (by kernel_rfl) (by kernel_rfl) (fun _ _ _ h => h) (Or.inl ⟨by rfl, ?_⟩) hHeld ?_; rotate_left; (· (intro w9 hSw; (try dsimp only at hSw); go_simp; (try with_reducible rfl))))
  (try simp only [Act.put, List.setIfInBounds_toArray, List.set_cons_zero, List.set_cons_succ])
  (refine wpAnyH_take (i := 3) (oi := ⟨some 20, _, _, _, _, none⟩) (v := ?_) rfl (by kernel_rfl) (by kernel_rfl) (by kernel_rfl) (fun _ _ _ h => h) (Or.inl ⟨by rfl, ?_⟩) hHeld ?_; rotate_left; (· (intro w9 hSw; (try dsimp only at hSw); go_simp; (try with_reducible rfl))))
  (try simp only [Act.put, List.setIfInBounds_toArray, List.set_cons_zero, List.set_cons_succ])
  (refine wpAnyH_take (i := 4) (oi := ⟨some 21, _, _, _, _, none⟩) (v := ?_) rfl (by kernel_rfl) (by kernel_rfl) (by kernel_rfl) (fun _ _ _ h => h) (Or.inl ⟨by rfl, ?_⟩) hHeld ?_; rotate_left; (· (intro w9 hSw; (try dsimp only at hSw); go_simp; (try with_reducible rfl))))
  (try simp only [Act.put, List.setIfInBounds_toArray, List.set_cons_zero, List.set_cons_succ])
  (refine wpAnyH_take (i := 5) (oi := ⟨some 22, _, _, _, _, none⟩) (v := ?_) rfl (by kernel_rfl) (by kernel_rfl) (by kernel_rfl) (fun _ _ _ h => h) (Or.inl ⟨by rfl, ?_⟩) hHeld ?_; rotate_left; (· (intro w9 hSw; (try dsimp only at hSw); go_simp; (try with_reducible rfl))))
  (try simp only [Act.put, List.setIfInBounds_toArray, List.set_cons_zero, List.set_cons_succ])
  (refine wpAnyH_take (i := 8) (oi := ⟨some 25, _, _, _, _, none⟩) (v := ?_) rfl (by kernel_rfl) (by kernel_rfl) (by kernel_rfl) (fun _ _ _ h => h) (Or.inl ⟨by rfl, ?_⟩) hHeld ?_; rotate_left; (· (intro w9 hSw; (try dsimp only at hSw); go_simp; (try with_reducible rfl))))
  (try simp only [Act.put, List.setIfInBounds_toArray, List.set_cons_zero, List.set_cons_succ])
  (refine wpAnyH_take (i := 9) (oi := ⟨some 26, _, _, _, _, none⟩) (v := ?_) rfl (by kernel_rfl) (by kernel_rfl) (by kernel_rfl) (fun _ _ _ h => h) (Or.inl ⟨by rfl, ?_⟩) hHeld ?_; rotate_left; (· (intro w9 hSw; (try dsimp only at hSw); go_simp; (try with_reducible rfl))))
  (try simp only [Act.put, List.setIfInBounds_toArray, List.set_cons_zero, List.set_cons_succ])
  (refine wpAnyH_ready (rs := [6]) (by kernel_rfl) (by simp) ?_; refine AllReadyH.cons (o := ⟨some 23, _, _, _, _, none⟩) rfl (fun K hK => ?_) AllReadyH.nil; go_simp; (first | (go_at_call 26; ((with_reducible refine useF w (k3.out _) ?_ ?_); (· go_grown); rintro e w1 rfl hB1 hk1 hf1 hs1; have hz1 := hB1.size))); have hOld := hHeld; clear hHeld; refine hK.out _ _ ?_ (fun hHeld => ?_); (· ((try dsimp only); (first | (exact ⟨hk1 _ _ _ (hOld.1), hk1 _ _ _ (hOld.2.1), hk1 _ _ _ (hOld.2.2.1), hk1 _ _ _ (hOld.2.2.2.1), hk1 _ _ _ (hOld.2.2.2.2.1), hk1 _ _ _ (hOld.2.2.2.2.2)⟩) | ((try simp only [World.cell?_drew, World.frozen?_drew]); (repeat' apply And.intro) <;> (first | (with_reducible assumption) | (with_reducible exact ⟨_, by assumption⟩) | (with_reducible exact ⟨_, two_other (by assumption) (by omega)⟩) | (with_reducible exact two_0 (by assumption)) | (with_reducible exact two_1 (by assumption)) | (with_reducible exact two_other (by assumption) (by omega)) | (with_reducible exact two_fz (by assumption)) | (with_reducible exact keepA _ (by assumption)) | (with_reducible exact keepA _ (keepA _ (keepA _ (by assumption)))) | (simp (maxDischargeDepth := 8) [*, go_sem, World.cell?_alloc_some, World.cell?_setCell_far]; done))) | (go_keep; done) | (simp (maxDischargeDepth := 8) [*, go_sem, World.cell?_alloc_some, World.cell?_setCell_far]; done)))); clear hK K hOld; (try clear hc1 hf1); (try clear hk1 hf1))
  (try simp only [Act.put, List.setIfInBounds_toArray, List.set_cons_zero, List.set_cons_succ])
  (refine wpAnyH_take (i := 7) (oi := ⟨some 24, _, _, _, _, none⟩) (v := ?_) rfl (by kernel_rfl) (by kernel_rfl) (by kernel_rfl) (fun _ _ _ h => h) (Or.inl ⟨by rfl, ?_⟩) hHeld ?_; rotate_left; (· (intro w9 hSw; (try dsimp only at hSw); go_simp; (try with_reducible rfl))))
  (try simp only [Act.put, List.setIfInBounds_toArray, List.set_cons_zero, List.set_cons_succ])
  (refine wpAnyH_take (i := 10) (oi := ⟨some 27, _, _, _, _, none⟩) (v := ?_) rfl (by kernel_rfl) (by kernel_rfl) (by kernel_rfl) (fun _ _ _ h => h) (Or.inl ⟨by rfl, ?_⟩) hHeld ?_; rotate_left; (· (intro w9 hSw; (try dsimp only at hSw); go_simp; (try with_reducible rfl))))
  (try simp only [Act.put, List.setIfInBounds_toArray, List.set_cons_zero, List.set_cons_succ])
  (refine wpAnyH_take (i := 11) (oi := ⟨some 28, _, _, _, _, none⟩) (v := ?_) rfl (by kernel_rfl) (by kernel_rfl) (by kernel_rfl) (fun _ _ _ h => h) (Or.inl ⟨by rfl, ?_⟩) hHeld ?_; rotate_left; (· (intro w9 hSw; (try dsimp only at hSw); go_simp; (try with_reducible rfl))))
  (try simp only [Act.put, List.setIfInBounds_toArray, List.set_cons_zero, List.set_cons_succ])
  (refine wpAnyH_take (i := 12) (oi := ⟨some 4, _, _, _, _, none⟩) (v := ?_) rfl (by kernel_rfl) (by kernel_rfl) (by kernel_rfl) (fun _ _ _ h => h) (Or.inl ⟨by rfl, ?_⟩) hHeld ?_; rotate_left; (· (intro w9 hSw; (try dsimp only at hSw); go_simp; (try with_reducible rfl))))
  (try simp only [Act.put, List.setIfInBounds_toArray, List.set_cons_zero, List.set_cons_succ])
  refine wpAnyH_done (by kernel_rfl) ?_ _
  go_wp2_with fail
  go_ret
  exact ⟨rfl, by go_grown⟩
theorem cnt_succ {n : Nat} {P : Nat → Bool} {b : Bool} (h : P n = b) : cnt (n + 1) P = cnt n P + (if b then 1 else 0) := by rw [cnt, h]
theorem roften_ok (p q la lb : Nat) (Fa Fb : Int) (w : World) (ca : winB p Fa la = true) (cb : winB q Fb lb = true) (hN : lcmN p q ≤ 20000) :
    Calls Try.prog 14 #[.agg #[.int .i64 p, .int .i64 Fa, .int .i64 la], .agg #[.int .i64 q, .int .i64 Fb, .int .i64 lb]] w fun e w' => e = .returned (.tuple #[.int .i64 ((cnt (lcmN p q) (fun t => bothB p Fa la q Fb lb t) : Nat)), .int .i64 0]) ∧ Below w.heap.size w w' := by
  obtain ⟨p1, p2, f1, f2, l1, l2⟩ := win_bd ca
  obtain ⟨q1, q2, g1, g2, m1, m2⟩ := win_bd cb
  have k1 := hid (fun W => rwin_any p Fa la W (by omega))
  have k2 := hid (fun W => rwin_any q Fb lb W (by omega))
  have k3 := hid (fun W => rgcd_any p q W (by omega) (by omega))
  have k4 := hid (fun (t : Int) W (h : (-9223372036854775808 ≤ t ∧ t ≤ 9223372036854775807)) => rhas_any p Fa la t W h ca)
  have k5 := hid (fun (t : Int) W (h : (-9223372036854775808 ≤ t ∧ t ≤ 9223372036854775807)) => rhas_any q Fb lb t W h cb)
  obtain ⟨g, d, N, h1, h2, h3, h4, h5, h6, h7, h8, h9⟩ := lcm_parts ⟨p1, p2⟩ ⟨q1, q2⟩
  rw [h1] at k3
  rw [h3] at hN ⊢
  rw [ca] at k1
  rw [cb] at k2
  have e1 : ((p : Int).tdiv (g : Int)) = (d : Int) := by rw [Int.tdiv_eq_ediv_of_nonneg (by omega), ← Int.natCast_ediv, h2]
  have e2 : ((p : Int) / (g : Int)) = (d : Int) := by rw [← Int.natCast_ediv, h2]
  have zg : ¬ (g : Int) = 0 := by omega
  have zg1 : ((g : Int) == 0) = false := by rw [beq_eq_false_iff_ne]; exact zg
  have zg2 : ¬ g = 0 := by omega
  have w0 : IntKind.i64.wrap (d : Int) = (d : Int) := by rw [IntKind.wrap_i64]; omega
  have w1 : IntKind.i64.wrap ((d : Int) * (q : Int)) = (N : Int) := by rw [← Int.natCast_mul, h4, IntKind.wrap_i64]; omega
  have w2 : ((d : Int) * (q : Int)) = (N : Int) := by rw [← Int.natCast_mul, h4]
  have w3 : IntKind.i64.wrap (N : Int) = (N : Int) := by rw [IntKind.wrap_i64]; omega
  have hC : Hid (∀ n, cnt n (fun t => bothB p Fa la q Fb lb (t : Int)) ≤ n) := hid fun n => by
    induction n with
    | zero => simp [cnt]
    | succ n ih => rw [cnt]; split <;> omega
  clear ca cb h1 h2 h3 h4 h8
  go_enter Try.func14, Try.ntmps14
  go_wp2_with fail
  refine useK w (k1.out _) (by go_grown) ?_; rintro e w1 rfl hB1 hk1 hs1
  replace p00 : w1.cell? ⟨w.heap.size, 0, none⟩ = some (.int .i64 p) := hk1 _ _ _ (by simp [go_sem])
  replace p01 : w1.cell? ⟨w.heap.size, 1, none⟩ = some (.int .i64 Fa) := hk1 _ _ _ (by simp [go_sem])
  replace p02 : w1.cell? ⟨w.heap.size, 2, none⟩ = some (.int .i64 la) := hk1 _ _ _ (by simp [go_sem])
  replace p10 : w1.cell? ⟨w.heap.size + 1, 0, none⟩ = some (.int .i64 q) := hk1 _ _ _ (by simp [go_sem])
  replace p11 : w1.cell? ⟨w.heap.size + 1, 1, none⟩ = some (.int .i64 Fb) := hk1 _ _ _ (by simp [go_sem])
  replace p12 : w1.cell? ⟨w.heap.size + 1, 2, none⟩ = some (.int .i64 lb) := hk1 _ _ _ (by simp [go_sem])
  have bp00 : w.heap.size < w1.heap.size := World.block_lt_of_cell? w1 ⟨w.heap.size, 0, none⟩ p00
  have bp10 : w.heap.size + 1 < w1.heap.size := World.block_lt_of_cell? w1 ⟨w.heap.size + 1, 0, none⟩ p10
  clear hk1
  go_wp2_with fail
  refine useK w (k2.out _) (by go_grown) ?_; rintro e w2 rfl hB2 hk2 hs2
  replace p00 : w2.cell? ⟨w.heap.size, 0, none⟩ = some (.int .i64 p) := hk2 _ _ _ (p00)
  replace p01 : w2.cell? ⟨w.heap.size, 1, none⟩ = some (.int .i64 Fa) := hk2 _ _ _ (p01)
  replace p02 : w2.cell? ⟨w.heap.size, 2, none⟩ = some (.int .i64 la) := hk2 _ _ _ (p02)
  replace p10 : w2.cell? ⟨w.heap.size + 1, 0, none⟩ = some (.int .i64 q) := hk2 _ _ _ (p10)
  replace p11 : w2.cell? ⟨w.heap.size + 1, 1, none⟩ = some (.int .i64 Fb) := hk2 _ _ _ (p11)
  replace p12 : w2.cell? ⟨w.heap.size + 1, 2, none⟩ = some (.int .i64 lb) := hk2 _ _ _ (p12)
  have bp00 : w.heap.size < w2.heap.size := World.block_lt_of_cell? w2 ⟨w.heap.size, 0, none⟩ p00
  have bp10 : w.heap.size + 1 < w2.heap.size := World.block_lt_of_cell? w2 ⟨w.heap.size + 1, 0, none⟩ p10
  clear hk2
  go_wp2_with fail
  refine wp_region_held_drew (S := (fun w' => w'.cell? ⟨w.heap.size, 0, none⟩ = some (.int .i64 p) ∧ w'.cell? ⟨w.heap.size, 1, none⟩ = some (.int .i64 Fa) ∧ w'.cell? ⟨w.heap.size, 2, none⟩ = some (.int .i64 la) ∧ w'.cell? ⟨w.heap.size + 1, 0, none⟩ = some (.int .i64 q) ∧ w'.cell? ⟨w.heap.size + 1, 1, none⟩ = some (.int .i64 Fb) ∧ w'.cell? ⟨w.heap.size + 1, 2, none⟩ = some (.int .i64 lb))) (by kernel_rfl) (by (try dsimp only); (first | (exact ⟨hk1 _ _ _ (hOld.1), hk1 _ _ _ (hOld.2.1), hk1 _ _ _ (hOld.2.2.1), hk1 _ _ _ (hOld.2.2.2.1), hk1 _ _ _ (hOld.2.2.2.2.1), hk1 _ _ _ (hOld.2.2.2.2.2)⟩) | ((try simp only [World.cell?_drew, World.frozen?_drew]); (repeat' apply And.intro) <;> (first | (with_reducible assumption) | (with_reducible exact ⟨_, by assumption⟩) | (with_reducible exact ⟨_, two_other (by assumption) (by omega)⟩) | (with_reducible exact two_0 (by assumption)) | (with_reducible exact two_1 (by assumption)) | (with_reducible exact two_other (by assumption) (by omega)) | (with_reducible exact two_fz (by assumption)) | (with_reducible exact keepA _ (by assumption)) | (with_reducible exact keepA _ (keepA _ (keepA _ (by assumption)))) | (simp (maxDischargeDepth := 8) [*, go_sem, World.cell?_alloc_some, World.cell?_setCell_far]; done))) | (go_keep; done) | (simp (maxDischargeDepth := 8) [*, go_sem, World.cell?_alloc_some, World.cell?_setCell_far]; done))) (fun hHeld => ?_)
  (refine wpAnyH_take (i := 0) (oi := ⟨some 23, _, _, _, _, none⟩) (v := ?_) rfl (by kernel_rfl) (by kernel_rfl) (by kernel_rfl) (fun _ _ _ h => h) (Or.inl ⟨by rfl, ?_⟩) hHeld ?_; rotate_left; (· (intro w9 hSw; (try dsimp only at hSw); go_simp; (try with_reducible rfl))))
  (try simp only [Act.put, List.setIfInBounds_toArray, List.set_cons_zero, List.set_cons_succ])
  (refine wpAnyH_take (i := 1) (oi := ⟨some 24, _, _, _, _, none⟩) (v := ?_) rfl (by kernel_rfl) (by kernel_rfl) (by kernel_rfl) (fun _ _ _ h => h) (Or.inl ⟨by rfl, ?_⟩) hHeld ?_; rotate_left; (· (intro w9 hSw; (try dsimp only at hSw); go_simp; (try with_reducible rfl))))
  (try simp only [Act.put, List.setIfInBounds_toArray, List.set_cons_zero, List.set_cons_succ])
  (refine wpAnyH_take (i := 2) (oi := ⟨some 25, _, _, _, _, none⟩) (v := ?_) rfl (by kernel_rfl) (by kernel_rfl) (by kernel_rfl) (fun _ _ _ h => h) (Or.inl ⟨by rfl, ?_⟩) hHeld ?_; rotate_left; (· (intro w9 hSw; (try dsimp only at hSw); go_simp; (try with_reducible rfl))))
  (try simp only [Act.put, List.setIfInBounds_toArray, List.set_cons_zero, List.set_cons_succ])
  (refine wpAnyH_take (i := 3) (oi := ⟨some 26, _, _, _, _, none⟩) (v := ?_) rfl (by kernel_rfl) (by kernel_rfl) (by kernel_rfl) (fun _ _ _ h => h) (Or.inl ⟨by rfl, ?_⟩) hHeld ?_; rotate_left; (· (intro w9 hSw; (try dsimp only at hSw); go_simp; (try with_reducible rfl))))
  (try simp only [Act.put, List.setIfInBounds_toArray, List.set_cons_zero, List.set_cons_succ])
  (refine wpAnyH_take (i := 4) (oi := ⟨some 27, _, _, _, _, none⟩) (v := ?_) rfl (by kernel_rfl) (by kernel_rfl) (by kernel_rfl) (fun _ _ _ h => h) (Or.inl ⟨by rfl, ?_⟩) hHeld ?_; rotate_left; (· (intro w9 hSw; (try dsimp only at hSw); go_simp; (try with_reducible rfl))))
  (try simp only [Act.put, List.setIfInBounds_toArray, List.set_cons_zero, List.set_cons_succ])
  (refine wpAnyH_take (i := 5) (oi := ⟨some 28, _, _, _, _, none⟩) (v := ?_) rfl (by kernel_rfl) (by kernel_rfl) (by kernel_rfl) (fun _ _ _ h => h) (Or.inl ⟨by rfl, ?_⟩) hHeld ?_; rotate_left; (· (intro w9 hSw; (try dsimp only at hSw); go_simp; (try with_reducible rfl))))
  (try simp only [Act.put, List.setIfInBounds_toArray, List.set_cons_zero, List.set_cons_succ])
  (refine wpAnyH_take (i := 8) (oi := ⟨some 31, _, _, _, _, none⟩) (v := ?_) rfl (by kernel_rfl) (by kernel_rfl) (by kernel_rfl) (fun _ _ _ h => h) (Or.inl ⟨by rfl, ?_⟩) hHeld ?_; rotate_left; (· (intro w9 hSw; (try dsimp only at hSw); go_simp; (try with_reducible rfl))))
  (try simp only [Act.put, List.setIfInBounds_toArray, List.set_cons_zero, List.set_cons_succ])
  (refine wpAnyH_take (i := 9) (oi := ⟨some 32, _, _, _, _, none⟩) (v := ?_) rfl (by kernel_rfl) (by kernel_rfl) (by kernel_rfl) (fun _ _ _ h => h) (Or.inl ⟨by rfl, ?_⟩) hHeld ?_; rotate_left; (· (intro w9 hSw; (try dsimp only at hSw); go_simp; (try with_reducible rfl))))
  (try simp only [Act.put, List.setIfInBounds_toArray, List.set_cons_zero, List.set_cons_succ])
  (refine wpAnyH_ready (rs := [6]) (by kernel_rfl) (by simp) ?_; refine AllReadyH.cons (o := ⟨some 29, _, _, _, _, none⟩) rfl (fun K hK => ?_) AllReadyH.nil; go_simp; (first | (go_at_call 26; ((with_reducible refine useF w (k3.out _) ?_ ?_); (· go_grown); rintro e w1 rfl hB1 hk1 hf1 hs1; have hz1 := hB1.size))); have hOld := hHeld; clear hHeld; refine hK.out _ _ ?_ (fun hHeld => ?_); (· ((try dsimp only); (first | (exact ⟨hk1 _ _ _ (hOld.1), hk1 _ _ _ (hOld.2.1), hk1 _ _ _ (hOld.2.2.1), hk1 _ _ _ (hOld.2.2.2.1), hk1 _ _ _ (hOld.2.2.2.2.1), hk1 _ _ _ (hOld.2.2.2.2.2)⟩) | ((try simp only [World.cell?_drew, World.frozen?_drew]); (repeat' apply And.intro) <;> (first | (with_reducible assumption) | (with_reducible exact ⟨_, by assumption⟩) | (with_reducible exact ⟨_, two_other (by assumption) (by omega)⟩) | (with_reducible exact two_0 (by assumption)) | (with_reducible exact two_1 (by assumption)) | (with_reducible exact two_other (by assumption) (by omega)) | (with_reducible exact two_fz (by assumption)) | (with_reducible exact keepA _ (by assumption)) | (with_reducible exact keepA _ (keepA _ (keepA _ (by assumption)))) | (simp (maxDischargeDepth := 8) [*, go_sem, World.cell?_alloc_some, World.cell?_setCell_far]; done))) | (go_keep; done) | (simp (maxDischargeDepth := 8) [*, go_sem, World.cell?_alloc_some, World.cell?_setCell_far]; done)))); clear hK K hOld; (try clear hc1 hf1); (try clear hk1 hf1))
  (try simp only [Act.put, List.setIfInBounds_toArray, List.set_cons_zero, List.set_cons_succ])
  (refine wpAnyH_take (i := 7) (oi := ⟨some 30, _, _, _, _, none⟩) (v := ?_) rfl (by kernel_rfl) (by kernel_rfl) (by kernel_rfl) (fun _ _ _ h => h) (Or.inl ⟨by rfl, ?_⟩) hHeld ?_; rotate_left; (· (intro w9 hSw; (try dsimp only at hSw); go_simp; (try with_reducible rfl))))
  (try simp only [Act.put, List.setIfInBounds_toArray, List.set_cons_zero, List.set_cons_succ])
  (refine wpAnyH_take (i := 10) (oi := ⟨some 33, _, _, _, _, none⟩) (v := ?_) rfl (by kernel_rfl) (by kernel_rfl) (by kernel_rfl) (fun _ _ _ h => h) (Or.inl ⟨by rfl, ?_⟩) hHeld ?_; rotate_left; (· (intro w9 hSw; (try dsimp only at hSw); go_simp; (try with_reducible rfl))))
  (try simp only [Act.put, List.setIfInBounds_toArray, List.set_cons_zero, List.set_cons_succ])
  (refine wpAnyH_take (i := 11) (oi := ⟨some 8, _, _, _, _, none⟩) (v := ?_) rfl (by kernel_rfl) (by kernel_rfl) (by kernel_rfl) (fun _ _ _ h => h) (Or.inl ⟨by rfl, ?_⟩) hHeld ?_; rotate_left; (· (intro w9 hSw; (try dsimp only at hSw); go_simp; (try with_reducible rfl))))
  (try simp only [Act.put, List.setIfInBounds_toArray, List.set_cons_zero, List.set_cons_succ])
  refine wpAnyH_done (by kernel_rfl) ?_ _
  clear p00 p01 p02 p10 p11 p12
  go_wp2_with fail
  go_loopw [10, 9, 11, 12] (fun s n _ _ wx => ∃ k : Nat, s = .int .i64 k ∧ k ≤ N ∧ n = .int .i64 (cnt k (fun t => bothB p Fa la q Fb lb (t : Int)) : Nat) ∧ (wx.cell? ⟨w.heap.size, 0, none⟩ = some (.int .i64 p) ∧ wx.cell? ⟨w.heap.size, 1, none⟩ = some (.int .i64 Fa) ∧ wx.cell? ⟨w.heap.size, 2, none⟩ = some (.int .i64 la) ∧ wx.cell? ⟨w.heap.size + 1, 0, none⟩ = some (.int .i64 q) ∧ wx.cell? ⟨w.heap.size + 1, 1, none⟩ = some (.int .i64 Fb) ∧ wx.cell? ⟨w.heap.size + 1, 2, none⟩ = some (.int .i64 lb)) ∧ Below w.heap.size w wx) (fun s _ _ _ _ => (N - intOf s).toNat)
  case atStart => exact ⟨0, rfl, Nat.zero_le _, rfl, hHeld, by go_grown⟩
  case round =>
    clear hHeld
    obtain ⟨k, rfl, hk, rfl, ⟨p00, p01, p02, p10, p11, p12⟩, hB⟩ := hrel
    have hz := hB.size
    have hz4 : w.heap.size < wr.heap.size := World.block_lt_of_cell? _ ⟨w.heap.size, 0, none⟩ p00
    by_cases c : k = N
    · subst c
      have c1 : ¬ (k : Int) < k := by omega
      clear p00 p01 p02 p10 p11 p12
      go_wp2_with fail
      go_ret2
      exact ⟨rfl, by go_grown⟩
    · have c1 : (k : Int) < N := by omega
      have hcb := hC.out k
      obtain ⟨x, hx⟩ : ∃ x, decide (sinc p Fa ((k : Int)) < (la : Int)) = x := ⟨_, rfl⟩
      obtain ⟨y, hy⟩ : ∃ y, decide (sinc q Fb ((k : Int)) < (lb : Int)) = y := ⟨_, rfl⟩
      have j4 := hid (fun W => k4.out ((k : Int)) W (by omega))
      have j5 := hid (fun W => k5.out ((k : Int)) W (by omega))
      rw [hx] at j4
      rw [hy] at j5
      have hb : bothB p Fa la q Fb lb (k : Int) = (x && y) := by rw [← hx, ← hy]; rfl
      have hs := hid (cnt_succ (n := k) (P := fun t => bothB p Fa la q Fb lb (t : Int)) hb)
      generalize cnt k (fun t => bothB p Fa la q Fb lb (t : Int)) = C at *
      clear hx hy hb
      cases x
      all_goals
        cases y
        all_goals
          have hs2 := hid hs.out
          simp only [Bool.and_self, Bool.and_true, Bool.and_false, Bool.false_and, Bool.true_and, if_true, Bool.false_eq_true, if_false, Nat.add_zero] at hs2
          go_wp2_with fail
          refine useK w (j4.out _) (by go_grown) ?_; rintro e w8 rfl hB8 hk8 hs8
          replace p00 := hk8 _ _ _ p00; replace p01 := hk8 _ _ _ p01; replace p02 := hk8 _ _ _ p02; replace p10 := hk8 _ _ _ p10; replace p11 := hk8 _ _ _ p11; replace p12 := hk8 _ _ _ p12
          have hz8 := hB8.size
          clear hk8
          go_wp2_with fail
          refine useK w (j5.out _) (by go_grown) ?_; rintro e w9 rfl hB9 hk9 hs9
          replace p00 := hk9 _ _ _ p00; replace p01 := hk9 _ _ _ p01; replace p02 := hk9 _ _ _ p02; replace p10 := hk9 _ _ _ p10; replace p11 := hk9 _ _ _ p11; replace p12 := hk9 _ _ _ p12
          have hz9 := hB9.size
          clear hk9
          go_wp2_with fail
          exact ⟨⟨k + 1, by simp, by omega, by rw [hs2.out]; try (first | rfl | simp), ⟨p00, p01, p02, p10, p11, p12⟩, hB9⟩, by first | (simp [intOf]; done) | (simp [intOf]; omega)⟩
theorem rnext_ok (p q la lb : Nat) (Fa Fb t : Int) (R E : Int) (w : World) (ca : winB p Fa la = true) (cb : winB q Fb lb = true) (cc : timB t = true) (hN : lcmN p q ≤ 20000)
    (hR : (∀ i : Nat, i < lcmN p q → bothB p Fa la q Fb lb (t + i) = true → (∀ j : Nat, j < i → bothB p Fa la q Fb lb (t + j) = false) → R = t + i ∧ E = 0) ∧ ((∀ j : Nat, j < lcmN p q → bothB p Fa la q Fb lb (t + j) = false) → R = 0 ∧ E = 7)) :
    Calls Try.prog 16 #[.agg #[.int .i64 p, .int .i64 Fa, .int .i64 la], .agg #[.int .i64 q, .int .i64 Fb, .int .i64 lb], .int .i64 t] w fun e w' => e = .returned (.tuple #[.int .i64 R, .int .i64 E]) ∧ Below w.heap.size w w' := by
  obtain ⟨p1, p2, f1, f2, l1, l2⟩ := win_bd ca
  obtain ⟨q1, q2, g1, g2, m1, m2⟩ := win_bd cb
  have k1 := hid (fun W => rwin_any p Fa la W (by omega))
  have k2 := hid (fun W => rwin_any q Fb lb W (by omega))
  have k3 := hid (fun W => rgcd_any p q W (by omega) (by omega))
  have hb := of_decide_eq_true cc
  obtain ⟨t1, t2⟩ := hb
  have kt := hid (fun W => rtime_any t W (by omega))
  rw [cc] at kt
  have k4 := hid (fun (t : Int) W (h : (-9223372036854775808 ≤ t ∧ t ≤ 9223372036854775807)) => rhas_any p Fa la t W h ca)
  have k5 := hid (fun (t : Int) W (h : (-9223372036854775808 ≤ t ∧ t ≤ 9223372036854775807)) => rhas_any q Fb lb t W h cb)
  obtain ⟨g, d, N, h1, h2, h3, h4, h5, h6, h7, h8, h9⟩ := lcm_parts ⟨p1, p2⟩ ⟨q1, q2⟩
  rw [h1] at k3
  rw [h3] at hN hR
  rw [ca] at k1
  rw [cb] at k2
  have e1 : ((p : Int).tdiv (g : Int)) = (d : Int) := by rw [Int.tdiv_eq_ediv_of_nonneg (by omega), ← Int.natCast_ediv, h2]
  have e2 : ((p : Int) / (g : Int)) = (d : Int) := by rw [← Int.natCast_ediv, h2]
  have zg : ¬ (g : Int) = 0 := by omega
  have zg1 : ((g : Int) == 0) = false := by rw [beq_eq_false_iff_ne]; exact zg
  have zg2 : ¬ g = 0 := by omega
  have w0 : IntKind.i64.wrap (d : Int) = (d : Int) := by rw [IntKind.wrap_i64]; omega
  have w1 : IntKind.i64.wrap ((d : Int) * (q : Int)) = (N : Int) := by rw [← Int.natCast_mul, h4, IntKind.wrap_i64]; omega
  have w2 : ((d : Int) * (q : Int)) = (N : Int) := by rw [← Int.natCast_mul, h4]
  have w3 : IntKind.i64.wrap (N : Int) = (N : Int) := by rw [IntKind.wrap_i64]; omega
  replace hR := hid hR
  clear ca cb cc h1 h2 h3 h4 h8
  go_enter Try.func16, Try.ntmps16
  go_wp2_with fail
  refine useK w (k1.out _) (by go_grown) ?_; rintro e w1 rfl hB1 hk1 hs1
  replace p00 : w1.cell? ⟨w.heap.size, 0, none⟩ = some (.int .i64 p) := hk1 _ _ _ (by simp [go_sem])
  replace p01 : w1.cell? ⟨w.heap.size, 1, none⟩ = some (.int .i64 Fa) := hk1 _ _ _ (by simp [go_sem])
  replace p02 : w1.cell? ⟨w.heap.size, 2, none⟩ = some (.int .i64 la) := hk1 _ _ _ (by simp [go_sem])
  replace p10 : w1.cell? ⟨w.heap.size + 1, 0, none⟩ = some (.int .i64 q) := hk1 _ _ _ (by simp [go_sem])
  replace p11 : w1.cell? ⟨w.heap.size + 1, 1, none⟩ = some (.int .i64 Fb) := hk1 _ _ _ (by simp [go_sem])
  replace p12 : w1.cell? ⟨w.heap.size + 1, 2, none⟩ = some (.int .i64 lb) := hk1 _ _ _ (by simp [go_sem])
  have bp00 : w.heap.size < w1.heap.size := World.block_lt_of_cell? w1 ⟨w.heap.size, 0, none⟩ p00
  have bp10 : w.heap.size + 1 < w1.heap.size := World.block_lt_of_cell? w1 ⟨w.heap.size + 1, 0, none⟩ p10
  clear hk1
  go_wp2_with fail
  refine useK w (k2.out _) (by go_grown) ?_; rintro e w2 rfl hB2 hk2 hs2
  replace p00 : w2.cell? ⟨w.heap.size, 0, none⟩ = some (.int .i64 p) := hk2 _ _ _ (p00)
  replace p01 : w2.cell? ⟨w.heap.size, 1, none⟩ = some (.int .i64 Fa) := hk2 _ _ _ (p01)
  replace p02 : w2.cell? ⟨w.heap.size, 2, none⟩ = some (.int .i64 la) := hk2 _ _ _ (p02)
  replace p10 : w2.cell? ⟨w.heap.size + 1, 0, none⟩ = some (.int .i64 q) := hk2 _ _ _ (p10)
  replace p11 : w2.cell? ⟨w.heap.size + 1, 1, none⟩ = some (.int .i64 Fb) := hk2 _ _ _ (p11)
  replace p12 : w2.cell? ⟨w.heap.size + 1, 2, none⟩ = some (.int .i64 lb) := hk2 _ _ _ (p12)
  have bp00 : w.heap.size < w2.heap.size := World.block_lt_of_cell? w2 ⟨w.heap.size, 0, none⟩ p00
  have bp10 : w.heap.size + 1 < w2.heap.size := World.block_lt_of_cell? w2 ⟨w.heap.size + 1, 0, none⟩ p10
  clear hk2
  go_wp2_with fail
  refine useK w (kt.out _) (by go_grown) ?_; rintro e w3 rfl hB3 hk3 hs3
  replace p00 : w3.cell? ⟨w.heap.size, 0, none⟩ = some (.int .i64 p) := hk3 _ _ _ (p00)
  replace p01 : w3.cell? ⟨w.heap.size, 1, none⟩ = some (.int .i64 Fa) := hk3 _ _ _ (p01)
  replace p02 : w3.cell? ⟨w.heap.size, 2, none⟩ = some (.int .i64 la) := hk3 _ _ _ (p02)
  replace p10 : w3.cell? ⟨w.heap.size + 1, 0, none⟩ = some (.int .i64 q) := hk3 _ _ _ (p10)
  replace p11 : w3.cell? ⟨w.heap.size + 1, 1, none⟩ = some (.int .i64 Fb) := hk3 _ _ _ (p11)
  replace p12 : w3.cell? ⟨w.heap.size + 1, 2, none⟩ = some (.int .i64 lb) := hk3 _ _ _ (p12)
  have bp00 : w.heap.size < w3.heap.size := World.block_lt_of_cell? w3 ⟨w.heap.size, 0, none⟩ p00
  have bp10 : w.heap.size + 1 < w3.heap.size := World.block_lt_of_cell? w3 ⟨w.heap.size + 1, 0, none⟩ p10
  clear hk3
  go_wp2_with fail
  refine wp_region_held_drew (S := (fun w' => w'.cell? ⟨w.heap.size, 0, none⟩ = some (.int .i64 p) ∧ w'.cell? ⟨w.heap.size, 1, none⟩ = some (.int .i64 Fa) ∧ w'.cell? ⟨w.heap.size, 2, none⟩ = some (.int .i64 la) ∧ w'.cell? ⟨w.heap.size + 1, 0, none⟩ = some (.int .i64 q) ∧ w'.cell? ⟨w.heap.size + 1, 1, none⟩ = some (.int .i64 Fb) ∧ w'.cell? ⟨w.heap.size + 1, 2, none⟩ = some (.int .i64 lb))) (by kernel_rfl) (by (try dsimp only); (first | (exact ⟨hk1 _ _ _ (hOld.1), hk1 _ _ _ (hOld.2.1), hk1 _ _ _ (hOld.2.2.1), hk1 _ _ _ (hOld.2.2.2.1), hk1 _ _ _ (hOld.2.2.2.2.1), hk1 _ _ _ (hOld.2.2.2.2.2)⟩) | ((try simp only [World.cell?_drew, World.frozen?_drew]); (repeat' apply And.intro) <;> (first | (with_reducible assumption) | (with_reducible exact ⟨_, by assumption⟩) | (with_reducible exact ⟨_, two_other (by assumption) (by omega)⟩) | (with_reducible exact two_0 (by assumption)) | (with_reducible exact two_1 (by assumption)) | (with_reducible exact two_other (by assumption) (by omega)) | (with_reducible exact two_fz (by assumption)) | (with_reducible exact keepA _ (by assumption)) | (with_reducible exact keepA _ (keepA _ (keepA _ (by assumption)))) | (simp (maxDischargeDepth := 8) [*, go_sem, World.cell?_alloc_some, World.cell?_setCell_far]; done))) | (go_keep; done) | (simp (maxDischargeDepth := 8) [*, go_sem, World.cell?_alloc_some, World.cell?_setCell_far]; done))) (fun hHeld => ?_)
  (refine wpAnyH_take (i := 0) (oi := ⟨some 31, _, _, _, _, none⟩) (v := ?_) rfl (by kernel_rfl) (by kernel_rfl) (by kernel_rfl) (fun _ _ _ h => h) (Or.inl ⟨by rfl, ?_⟩) hHeld ?_; rotate_left; (· (intro w9 hSw; (try dsimp only at hSw); go_simp; (try with_reducible rfl))))
  (try simp only [Act.put, List.setIfInBounds_toArray, List.set_cons_zero, List.set_cons_succ])
  (refine wpAnyH_take (i := 1) (oi := ⟨some 32, _, _, _, _, none⟩) (v := ?_) rfl (by kernel_rfl) (by kernel_rfl) (by kernel_rfl) (fun _ _ _ h => h) (Or.inl ⟨by rfl, ?_⟩) hHeld ?_; rotate_left; (· (intro w9 hSw; (try dsimp only at hSw); go_simp; (try with_reducible rfl))))
  (try simp only [Act.put, List.setIfInBounds_toArray, List.set_cons_zero, List.set_cons_succ])
  (refine wpAnyH_take (i := 2) (oi := ⟨some 33, _, _, _, _, none⟩) (v := ?_) rfl (by kernel_rfl) (by kernel_rfl) (by kernel_rfl) (fun _ _ _ h => h) (Or.inl ⟨by rfl, ?_⟩) hHeld ?_; rotate_left; (· (intro w9 hSw; (try dsimp only at hSw); go_simp; (try with_reducible rfl))))
  (try simp only [Act.put, List.setIfInBounds_toArray, List.set_cons_zero, List.set_cons_succ])
  (refine wpAnyH_take (i := 3) (oi := ⟨some 34, _, _, _, _, none⟩) (v := ?_) rfl (by kernel_rfl) (by kernel_rfl) (by kernel_rfl) (fun _ _ _ h => h) (Or.inl ⟨by rfl, ?_⟩) hHeld ?_; rotate_left; (· (intro w9 hSw; (try dsimp only at hSw); go_simp; (try with_reducible rfl))))
  (try simp only [Act.put, List.setIfInBounds_toArray, List.set_cons_zero, List.set_cons_succ])
  (refine wpAnyH_take (i := 4) (oi := ⟨some 35, _, _, _, _, none⟩) (v := ?_) rfl (by kernel_rfl) (by kernel_rfl) (by kernel_rfl) (fun _ _ _ h => h) (Or.inl ⟨by rfl, ?_⟩) hHeld ?_; rotate_left; (· (intro w9 hSw; (try dsimp only at hSw); go_simp; (try with_reducible rfl))))
  (try simp only [Act.put, List.setIfInBounds_toArray, List.set_cons_zero, List.set_cons_succ])
  (refine wpAnyH_take (i := 5) (oi := ⟨some 36, _, _, _, _, none⟩) (v := ?_) rfl (by kernel_rfl) (by kernel_rfl) (by kernel_rfl) (fun _ _ _ h => h) (Or.inl ⟨by rfl, ?_⟩) hHeld ?_; rotate_left; (· (intro w9 hSw; (try dsimp only at hSw); go_simp; (try with_reducible rfl))))
  (try simp only [Act.put, List.setIfInBounds_toArray, List.set_cons_zero, List.set_cons_succ])
  (refine wpAnyH_take (i := 8) (oi := ⟨some 39, _, _, _, _, none⟩) (v := ?_) rfl (by kernel_rfl) (by kernel_rfl) (by kernel_rfl) (fun _ _ _ h => h) (Or.inl ⟨by rfl, ?_⟩) hHeld ?_; rotate_left; (· (intro w9 hSw; (try dsimp only at hSw); go_simp; (try with_reducible rfl))))
  (try simp only [Act.put, List.setIfInBounds_toArray, List.set_cons_zero, List.set_cons_succ])
  (refine wpAnyH_take (i := 9) (oi := ⟨some 40, _, _, _, _, none⟩) (v := ?_) rfl (by kernel_rfl) (by kernel_rfl) (by kernel_rfl) (fun _ _ _ h => h) (Or.inl ⟨by rfl, ?_⟩) hHeld ?_; rotate_left; (· (intro w9 hSw; (try dsimp only at hSw); go_simp; (try with_reducible rfl))))
  (try simp only [Act.put, List.setIfInBounds_toArray, List.set_cons_zero, List.set_cons_succ])
  (refine wpAnyH_ready (rs := [6]) (by kernel_rfl) (by simp) ?_; refine AllReadyH.cons (o := ⟨some 37, _, _, _, _, none⟩) rfl (fun K hK => ?_) AllReadyH.nil; go_simp; (first | (go_at_call 26; ((with_reducible refine useF w (k3.out _) ?_ ?_); (· go_grown); rintro e w1 rfl hB1 hk1 hf1 hs1; have hz1 := hB1.size))); have hOld := hHeld; clear hHeld; refine hK.out _ _ ?_ (fun hHeld => ?_); (· ((try dsimp only); (first | (exact ⟨hk1 _ _ _ (hOld.1), hk1 _ _ _ (hOld.2.1), hk1 _ _ _ (hOld.2.2.1), hk1 _ _ _ (hOld.2.2.2.1), hk1 _ _ _ (hOld.2.2.2.2.1), hk1 _ _ _ (hOld.2.2.2.2.2)⟩) | ((try simp only [World.cell?_drew, World.frozen?_drew]); (repeat' apply And.intro) <;> (first | (with_reducible assumption) | (with_reducible exact ⟨_, by assumption⟩) | (with_reducible exact ⟨_, two_other (by assumption) (by omega)⟩) | (with_reducible exact two_0 (by assumption)) | (with_reducible exact two_1 (by assumption)) | (with_reducible exact two_other (by assumption) (by omega)) | (with_reducible exact two_fz (by assumption)) | (with_reducible exact keepA _ (by assumption)) | (with_reducible exact keepA _ (keepA _ (keepA _ (by assumption)))) | (simp (maxDischargeDepth := 8) [*, go_sem, World.cell?_alloc_some, World.cell?_setCell_far]; done))) | (go_keep; done) | (simp (maxDischargeDepth := 8) [*, go_sem, World.cell?_alloc_some, World.cell?_setCell_far]; done)))); clear hK K hOld; (try clear hc1 hf1); (try clear hk1 hf1))
  (try simp only [Act.put, List.setIfInBounds_toArray, List.set_cons_zero, List.set_cons_succ])
  (refine wpAnyH_take (i := 7) (oi := ⟨some 38, _, _, _, _, none⟩) (v := ?_) rfl (by kernel_rfl) (by kernel_rfl) (by kernel_rfl) (fun _ _ _ h => h) (Or.inl ⟨by rfl, ?_⟩) hHeld ?_; rotate_left; (· (intro w9 hSw; (try dsimp only at hSw); go_simp; (try with_reducible rfl))))
  (try simp only [Act.put, List.setIfInBounds_toArray, List.set_cons_zero, List.set_cons_succ])
  (refine wpAnyH_take (i := 10) (oi := ⟨some 41, _, _, _, _, none⟩) (v := ?_) rfl (by kernel_rfl) (by kernel_rfl) (by kernel_rfl) (fun _ _ _ h => h) (Or.inl ⟨by rfl, ?_⟩) hHeld ?_; rotate_left; (· (intro w9 hSw; (try dsimp only at hSw); go_simp; (try with_reducible rfl))))
  (try simp only [Act.put, List.setIfInBounds_toArray, List.set_cons_zero, List.set_cons_succ])
  (refine wpAnyH_take (i := 11) (oi := ⟨some 11, _, _, _, _, none⟩) (v := ?_) rfl (by kernel_rfl) (by kernel_rfl) (by kernel_rfl) (fun _ _ _ h => h) (Or.inl ⟨by rfl, ?_⟩) hHeld ?_; rotate_left; (· (intro w9 hSw; (try dsimp only at hSw); go_simp; (try with_reducible rfl))))
  (try simp only [Act.put, List.setIfInBounds_toArray, List.set_cons_zero, List.set_cons_succ])
  refine wpAnyH_done (by kernel_rfl) ?_ _
  clear p00 p01 p02 p10 p11 p12
  go_wp2_with fail
  go_loopw [12, 13, 14] (fun s _ _ wx => ∃ k : Nat, s = .int .i64 k ∧ k ≤ N ∧ Hid (∀ j : Nat, j < k → bothB p Fa la q Fb lb (t + j) = false) ∧ (wx.cell? ⟨w.heap.size, 0, none⟩ = some (.int .i64 p) ∧ wx.cell? ⟨w.heap.size, 1, none⟩ = some (.int .i64 Fa) ∧ wx.cell? ⟨w.heap.size, 2, none⟩ = some (.int .i64 la) ∧ wx.cell? ⟨w.heap.size + 1, 0, none⟩ = some (.int .i64 q) ∧ wx.cell? ⟨w.heap.size + 1, 1, none⟩ = some (.int .i64 Fb) ∧ wx.cell? ⟨w.heap.size + 1, 2, none⟩ = some (.int .i64 lb)) ∧ Below w.heap.size w wx) (fun s _ _ _ => (N - intOf s).toNat)
  case atStart => exact ⟨0, rfl, Nat.zero_le _, hid (fun j hj => absurd hj (by omega)), hHeld, by go_grown⟩
  case round =>
    clear hHeld
    obtain ⟨k, rfl, hk, hJ, ⟨p00, p01, p02, p10, p11, p12⟩, hB⟩ := hrel
    have hz := hB.size
    have hz4 : w.heap.size < wr.heap.size := World.block_lt_of_cell? _ ⟨w.heap.size, 0, none⟩ p00
    by_cases c : k = N
    · subst c
      have c1 : ¬ (k : Int) < k := by omega
      have hE := hid (hR.out.2 hJ.out)
      clear p00 p01 p02 p10 p11 p12 hR hJ
      go_wp2_with fail
      go_ret2
      exact ⟨by rw [hE.out.1, hE.out.2]; rfl, by go_grown⟩
    · have c1 : (k : Int) < N := by omega
      have wk : IntKind.i64.wrap (t + (k : Int)) = t + k := by rw [IntKind.wrap_i64]; omega
      obtain ⟨x, hx⟩ : ∃ x, decide (sinc p Fa (t + (k : Int)) < (la : Int)) = x := ⟨_, rfl⟩
      obtain ⟨y, hy⟩ : ∃ y, decide (sinc q Fb (t + (k : Int)) < (lb : Int)) = y := ⟨_, rfl⟩
      have j4 := hid (fun W => k4.out (t + (k : Int)) W (by omega))
      have j5 := hid (fun W => k5.out (t + (k : Int)) W (by omega))
      rw [hx] at j4
      rw [hy] at j5
      have hb : bothB p Fa la q Fb lb (t + k) = (x && y) := by rw [← hx, ← hy]; rfl
      have hY := hid (fun h => hR.out.1 k (by omega) h hJ.out)
      have hM : bothB p Fa la q Fb lb (t + k) = false → Hid (∀ j : Nat, j < k + 1 → bothB p Fa la q Fb lb (t + j) = false) := fun h => hid fun j hj => by
        rcases Nat.lt_or_eq_of_le (Nat.lt_succ_iff.mp hj) with z | rfl
        · exact hJ.out j z
        · exact h
      clear hx hy hJ
      cases x
      all_goals
        cases y
        all_goals
          first
            | (have hM2 := hM hb; clear hM hY hb hR)
            | (have hY2 := hid (hY.out hb); clear hM hY hb hR)
          go_wp2_with fail
          refine useK w (j4.out _) (by go_grown) ?_; rintro e w8 rfl hB8 hk8 hs8
          replace p00 := hk8 _ _ _ p00; replace p01 := hk8 _ _ _ p01; replace p02 := hk8 _ _ _ p02; replace p10 := hk8 _ _ _ p10; replace p11 := hk8 _ _ _ p11; replace p12 := hk8 _ _ _ p12
          have hz8 := hB8.size
          clear hk8
          go_wp2_with fail
          refine useK w (j5.out _) (by go_grown) ?_; rintro e w9 rfl hB9 hk9 hs9
          replace p00 := hk9 _ _ _ p00; replace p01 := hk9 _ _ _ p01; replace p02 := hk9 _ _ _ p02; replace p10 := hk9 _ _ _ p10; replace p11 := hk9 _ _ _ p11; replace p12 := hk9 _ _ _ p12
          have hz9 := hB9.size
          clear hk9
          go_wp2_with fail
          first
            | (exact ⟨⟨k + 1, by simp, by omega, hM2, ⟨p00, p01, p02, p10, p11, p12⟩, hB9⟩, by first | (simp [intOf]; done) | (simp [intOf]; omega)⟩)
            | (go_ret2; exact ⟨by rw [hY2.out.1, hY2.out.2]; rfl, by go_grown⟩)
theorem rbrief_bad (P Fa La Q Fb Lb : Int) (w : World) (h1 : (-9223372036854775808 ≤ P ∧ P ≤ 9223372036854775807) ∧ (-9223372036854775808 ≤ Fa ∧ Fa ≤ 9223372036854775807) ∧ (-9223372036854775808 ≤ La ∧ La ≤ 9223372036854775807)) (h2 : (-9223372036854775808 ≤ Q ∧ Q ≤ 9223372036854775807) ∧ (-9223372036854775808 ≤ Fb ∧ Fb ≤ 9223372036854775807) ∧ (-9223372036854775808 ≤ Lb ∧ Lb ≤ 9223372036854775807)) (h : ¬ (winB P Fa La = true ∧ winB Q Fb Lb = true)) :
    Calls Try.prog 12 #[.agg #[.int .i64 P, .int .i64 Fa, .int .i64 La], .agg #[.int .i64 Q, .int .i64 Fb, .int .i64 Lb]] w fun e w' => e = .returned (.bool true) ∧ Below w.heap.size w w' := by
  have k1 := hid (fun W => rwin_any P Fa La W h1)
  have k2 := hid (fun W => rwin_any Q Fb Lb W h2)
  cases ca : winB P Fa La
  all_goals
    cases cb : winB Q Fb Lb
    all_goals
      first | (exfalso; apply h; refine ⟨?_, ?_⟩ <;> assumption) | skip
      try
        rw [ca] at k1
        rw [cb] at k2
        clear h h1 h2 ca cb
        go_enter Try.func12, Try.ntmps12
        go_wp2_with fail
        refine useK w (k1.out _) (by go_grown) ?_; rintro e w1 rfl hB1 hk1 hs1
        replace p00 : w1.cell? ⟨w.heap.size, 0, none⟩ = some (.int .i64 P) := hk1 _ _ _ (by simp [go_sem])
        replace p01 : w1.cell? ⟨w.heap.size, 1, none⟩ = some (.int .i64 Fa) := hk1 _ _ _ (by simp [go_sem])
        replace p02 : w1.cell? ⟨w.heap.size, 2, none⟩ = some (.int .i64 La) := hk1 _ _ _ (by simp [go_sem])
        replace p10 : w1.cell? ⟨w.heap.size + 1, 0, none⟩ = some (.int .i64 Q) := hk1 _ _ _ (by simp [go_sem])
        replace p11 : w1.cell? ⟨w.heap.size + 1, 1, none⟩ = some (.int .i64 Fb) := hk1 _ _ _ (by simp [go_sem])
        replace p12 : w1.cell? ⟨w.heap.size + 1, 2, none⟩ = some (.int .i64 Lb) := hk1 _ _ _ (by simp [go_sem])
        have bp00 : w.heap.size < w1.heap.size := World.block_lt_of_cell? w1 ⟨w.heap.size, 0, none⟩ p00
        have bp10 : w.heap.size + 1 < w1.heap.size := World.block_lt_of_cell? w1 ⟨w.heap.size + 1, 0, none⟩ p10
        clear hk1
        go_wp2_with fail
        refine useK w (k2.out _) (by go_grown) ?_; rintro e w2 rfl hB2 hk2 hs2
        replace p00 : w2.cell? ⟨w.heap.size, 0, none⟩ = some (.int .i64 P) := hk2 _ _ _ (p00)
        replace p01 : w2.cell? ⟨w.heap.size, 1, none⟩ = some (.int .i64 Fa) := hk2 _ _ _ (p01)
        replace p02 : w2.cell? ⟨w.heap.size, 2, none⟩ = some (.int .i64 La) := hk2 _ _ _ (p02)
        replace p10 : w2.cell? ⟨w.heap.size + 1, 0, none⟩ = some (.int .i64 Q) := hk2 _ _ _ (p10)
        replace p11 : w2.cell? ⟨w.heap.size + 1, 1, none⟩ = some (.int .i64 Fb) := hk2 _ _ _ (p11)
        replace p12 : w2.cell? ⟨w.heap.size + 1, 2, none⟩ = some (.int .i64 Lb) := hk2 _ _ _ (p12)
        have bp00 : w.heap.size < w2.heap.size := World.block_lt_of_cell? w2 ⟨w.heap.size, 0, none⟩ p00
        have bp10 : w.heap.size + 1 < w2.heap.size := World.block_lt_of_cell? w2 ⟨w.heap.size + 1, 0, none⟩ p10
        clear hk2
        go_wp2_with fail
        go_ret
        exact ⟨rfl, by go_grown⟩
theorem roften_bad (P Fa La Q Fb Lb : Int) (w : World) (h1 : (-9223372036854775808 ≤ P ∧ P ≤ 9223372036854775807) ∧ (-9223372036854775808 ≤ Fa ∧ Fa ≤ 9223372036854775807) ∧ (-9223372036854775808 ≤ La ∧ La ≤ 9223372036854775807)) (h2 : (-9223372036854775808 ≤ Q ∧ Q ≤ 9223372036854775807) ∧ (-9223372036854775808 ≤ Fb ∧ Fb ≤ 9223372036854775807) ∧ (-9223372036854775808 ≤ Lb ∧ Lb ≤ 9223372036854775807)) (h : ¬ (winB P Fa La = true ∧ winB Q Fb Lb = true)) :
    Calls Try.prog 14 #[.agg #[.int .i64 P, .int .i64 Fa, .int .i64 La], .agg #[.int .i64 Q, .int .i64 Fb, .int .i64 Lb]] w fun e w' => e = .returned (.tuple #[.int .i64 0, .int .i64 2]) ∧ Below w.heap.size w w' := by
  have k1 := hid (fun W => rwin_any P Fa La W h1)
  have k2 := hid (fun W => rwin_any Q Fb Lb W h2)
  cases ca : winB P Fa La
  all_goals
    cases cb : winB Q Fb Lb
    all_goals
      first | (exfalso; apply h; refine ⟨?_, ?_⟩ <;> assumption) | skip
      try
        rw [ca] at k1
        rw [cb] at k2
        clear h h1 h2 ca cb
        go_enter Try.func14, Try.ntmps14
        go_wp2_with fail
        refine useK w (k1.out _) (by go_grown) ?_; rintro e w1 rfl hB1 hk1 hs1
        replace p00 : w1.cell? ⟨w.heap.size, 0, none⟩ = some (.int .i64 P) := hk1 _ _ _ (by simp [go_sem])
        replace p01 : w1.cell? ⟨w.heap.size, 1, none⟩ = some (.int .i64 Fa) := hk1 _ _ _ (by simp [go_sem])
        replace p02 : w1.cell? ⟨w.heap.size, 2, none⟩ = some (.int .i64 La) := hk1 _ _ _ (by simp [go_sem])
        replace p10 : w1.cell? ⟨w.heap.size + 1, 0, none⟩ = some (.int .i64 Q) := hk1 _ _ _ (by simp [go_sem])
        replace p11 : w1.cell? ⟨w.heap.size + 1, 1, none⟩ = some (.int .i64 Fb) := hk1 _ _ _ (by simp [go_sem])
        replace p12 : w1.cell? ⟨w.heap.size + 1, 2, none⟩ = some (.int .i64 Lb) := hk1 _ _ _ (by simp [go_sem])
        have bp00 : w.heap.size < w1.heap.size := World.block_lt_of_cell? w1 ⟨w.heap.size, 0, none⟩ p00
        have bp10 : w.heap.size + 1 < w1.heap.size := World.block_lt_of_cell? w1 ⟨w.heap.size + 1, 0, none⟩ p10
        clear hk1
        go_wp2_with fail
        refine useK w (k2.out _) (by go_grown) ?_; rintro e w2 rfl hB2 hk2 hs2
        replace p00 : w2.cell? ⟨w.heap.size, 0, none⟩ = some (.int .i64 P) := hk2 _ _ _ (p00)
        replace p01 : w2.cell? ⟨w.heap.size, 1, none⟩ = some (.int .i64 Fa) := hk2 _ _ _ (p01)
        replace p02 : w2.cell? ⟨w.heap.size, 2, none⟩ = some (.int .i64 La) := hk2 _ _ _ (p02)
        replace p10 : w2.cell? ⟨w.heap.size + 1, 0, none⟩ = some (.int .i64 Q) := hk2 _ _ _ (p10)
        replace p11 : w2.cell? ⟨w.heap.size + 1, 1, none⟩ = some (.int .i64 Fb) := hk2 _ _ _ (p11)
        replace p12 : w2.cell? ⟨w.heap.size + 1, 2, none⟩ = some (.int .i64 Lb) := hk2 _ _ _ (p12)
        have bp00 : w.heap.size < w2.heap.size := World.block_lt_of_cell? w2 ⟨w.heap.size, 0, none⟩ p00
        have bp10 : w.heap.size + 1 < w2.heap.size := World.block_lt_of_cell? w2 ⟨w.heap.size + 1, 0, none⟩ p10
        clear hk2
        go_wp2_with fail
        go_ret2
        exact ⟨rfl, by go_grown⟩
theorem rnext_bad (P Fa La Q Fb Lb t : Int) (w : World) (h1 : (-9223372036854775808 ≤ P ∧ P ≤ 9223372036854775807) ∧ (-9223372036854775808 ≤ Fa ∧ Fa ≤ 9223372036854775807) ∧ (-9223372036854775808 ≤ La ∧ La ≤ 9223372036854775807)) (h2 : (-9223372036854775808 ≤ Q ∧ Q ≤ 9223372036854775807) ∧ (-9223372036854775808 ≤ Fb ∧ Fb ≤ 9223372036854775807) ∧ (-9223372036854775808 ≤ Lb ∧ Lb ≤ 9223372036854775807)) (h3 : (-9223372036854775808 ≤ t ∧ t ≤ 9223372036854775807)) (h : ¬ (winB P Fa La = true ∧ winB Q Fb Lb = true ∧ timB t = true)) :
    Calls Try.prog 16 #[.agg #[.int .i64 P, .int .i64 Fa, .int .i64 La], .agg #[.int .i64 Q, .int .i64 Fb, .int .i64 Lb], .int .i64 t] w fun e w' => e = .returned (.tuple #[.int .i64 0, .int .i64 2]) ∧ Below w.heap.size w w' := by
  have k1 := hid (fun W => rwin_any P Fa La W h1)
  have k2 := hid (fun W => rwin_any Q Fb Lb W h2)
  have k3 := hid (fun W => rtime_any t W h3)
  cases ca : winB P Fa La
  all_goals
    cases cb : winB Q Fb Lb
    all_goals
      cases cc : timB t
      all_goals
        first | (exfalso; apply h; refine ⟨?_, ?_, ?_⟩ <;> assumption) | skip
        try
          rw [ca] at k1
          rw [cb] at k2
          rw [cc] at k3
          clear h h1 h2 h3 ca cb cc
          go_enter Try.func16, Try.ntmps16
          go_wp2_with fail
          refine useK w (k1.out _) (by go_grown) ?_; rintro e w1 rfl hB1 hk1 hs1
          replace p00 : w1.cell? ⟨w.heap.size, 0, none⟩ = some (.int .i64 P) := hk1 _ _ _ (by simp [go_sem])
          replace p01 : w1.cell? ⟨w.heap.size, 1, none⟩ = some (.int .i64 Fa) := hk1 _ _ _ (by simp [go_sem])
          replace p02 : w1.cell? ⟨w.heap.size, 2, none⟩ = some (.int .i64 La) := hk1 _ _ _ (by simp [go_sem])
          replace p10 : w1.cell? ⟨w.heap.size + 1, 0, none⟩ = some (.int .i64 Q) := hk1 _ _ _ (by simp [go_sem])
          replace p11 : w1.cell? ⟨w.heap.size + 1, 1, none⟩ = some (.int .i64 Fb) := hk1 _ _ _ (by simp [go_sem])
          replace p12 : w1.cell? ⟨w.heap.size + 1, 2, none⟩ = some (.int .i64 Lb) := hk1 _ _ _ (by simp [go_sem])
          have bp00 : w.heap.size < w1.heap.size := World.block_lt_of_cell? w1 ⟨w.heap.size, 0, none⟩ p00
          have bp10 : w.heap.size + 1 < w1.heap.size := World.block_lt_of_cell? w1 ⟨w.heap.size + 1, 0, none⟩ p10
          clear hk1
          go_wp2_with fail
          refine useK w (k2.out _) (by go_grown) ?_; rintro e w2 rfl hB2 hk2 hs2
          replace p00 : w2.cell? ⟨w.heap.size, 0, none⟩ = some (.int .i64 P) := hk2 _ _ _ (p00)
          replace p01 : w2.cell? ⟨w.heap.size, 1, none⟩ = some (.int .i64 Fa) := hk2 _ _ _ (p01)
          replace p02 : w2.cell? ⟨w.heap.size, 2, none⟩ = some (.int .i64 La) := hk2 _ _ _ (p02)
          replace p10 : w2.cell? ⟨w.heap.size + 1, 0, none⟩ = some (.int .i64 Q) := hk2 _ _ _ (p10)
          replace p11 : w2.cell? ⟨w.heap.size + 1, 1, none⟩ = some (.int .i64 Fb) := hk2 _ _ _ (p11)
          replace p12 : w2.cell? ⟨w.heap.size + 1, 2, none⟩ = some (.int .i64 Lb) := hk2 _ _ _ (p12)
          have bp00 : w.heap.size < w2.heap.size := World.block_lt_of_cell? w2 ⟨w.heap.size, 0, none⟩ p00
          have bp10 : w.heap.size + 1 < w2.heap.size := World.block_lt_of_cell? w2 ⟨w.heap.size + 1, 0, none⟩ p10
          clear hk2
          go_wp2_with fail
          refine useK w (k3.out _) (by go_grown) ?_; rintro e w3 rfl hB3 hk3 hs3
          replace p00 : w3.cell? ⟨w.heap.size, 0, none⟩ = some (.int .i64 P) := hk3 _ _ _ (p00)
          replace p01 : w3.cell? ⟨w.heap.size, 1, none⟩ = some (.int .i64 Fa) := hk3 _ _ _ (p01)
          replace p02 : w3.cell? ⟨w.heap.size, 2, none⟩ = some (.int .i64 La) := hk3 _ _ _ (p02)
          replace p10 : w3.cell? ⟨w.heap.size + 1, 0, none⟩ = some (.int .i64 Q) := hk3 _ _ _ (p10)
          replace p11 : w3.cell? ⟨w.heap.size + 1, 1, none⟩ = some (.int .i64 Fb) := hk3 _ _ _ (p11)
          replace p12 : w3.cell? ⟨w.heap.size + 1, 2, none⟩ = some (.int .i64 Lb) := hk3 _ _ _ (p12)
          have bp00 : w.heap.size < w3.heap.size := World.block_lt_of_cell? w3 ⟨w.heap.size, 0, none⟩ p00
          have bp10 : w.heap.size + 1 < w3.heap.size := World.block_lt_of_cell? w3 ⟨w.heap.size + 1, 0, none⟩ p10
          clear hk3
          go_wp2_with fail
          go_ret2
          exact ⟨rfl, by go_grown⟩
end Go.Proofs.Ytlpbkifiidlllaa
