/- How many times of a common period are in both windows. -/
import Derived.Deep.DeepCutAuto
import Derived.Test.YtlpbkifiidlllaaRows
import Derived.Test.YtlpbkifiidlllaaBase
import Derived.Test.YtlpbkifiidlllaaFacts
import Derived.Test.YtlpbkifiidlllaaTwo
import Derived.Deep.RegionHeld3
import Derived.Deep.RegionWith
import Derived.Deep.QuietTactic
import Derived.BigQuiet
import Derived.Test.YtlpbkifiidlllaaSeq
import Derived.Test.YtlpbkifiidlllaaWinM
import Derived.Test.YtlpbkifiidlllaaWinF
import Derived.Test.YtlpbkifiidlllaaMeetM
import Derived.Test.YtlpbkifiidlllaaMeetF
set_option linter.unusedVariables false
set_option linter.unusedSimpArgs false
set_option maxHeartbeats 4000000
set_option maxRecDepth 100000
namespace Go.Proofs.Ytlpbkifiidlllaa
open Go Go.RowKit
/-- What the code reckons. -/
def oftV (g ra sa rb sb late : Int) : Int := g * ra * rb + ra * sb + rb * sa + shr late (late + sa) 0 sb + shr late (late + sa) g (g + sb)
theorem shr_bd {a b c d : Int} (h1 : 0 ≤ a) (h2 : b ≤ 8589934592) (h3 : 0 ≤ c) (h4 : 0 ≤ d) : 0 ≤ shr a b c d ∧ shr a b c d ≤ 8589934592 := by unfold shr; omega
theorem often_any (p q la lb : Nat) (Fa Fb : Int) (w : World) (ca : winB p Fa la = true) (cb : winB q Fb lb = true) :
    Calls Try.prog 28 #[.agg #[.int .i64 p, .int .i64 Fa, .int .i64 la], .agg #[.int .i64 q, .int .i64 Fb, .int .i64 lb]] w fun e w' => e = .returned (.int .i64 (oftV (Nat.gcd p q : Nat) (la / Nat.gcd p q : Nat) (la % Nat.gcd p q : Nat) (lb / Nat.gcd p q : Nat) (lb % Nat.gcd p q : Nat) ((Fa - Fb) % (Nat.gcd p q : Nat)))) ∧ Below w.heap.size w w' := by
  obtain ⟨p1, p2, f1, f2, l1, l2⟩ := win_bd ca
  obtain ⟨q1, q2, g1, g2, m1, m2⟩ := win_bd cb
  have k1 := hid (fun W => divisor_any p q W (by omega) (by omega))
  have hg : 0 < Nat.gcd p q := Nat.gcd_pos_of_pos_left _ (by omega)
  have hgp : Nat.gcd p q ≤ p := Nat.le_of_dvd (by omega) (Nat.gcd_dvd_left p q)
  have hda := Nat.div_add_mod la (Nat.gcd p q)
  have hdb := Nat.div_add_mod lb (Nat.gcd p q)
  have hsa := Nat.mod_lt la hg
  have hsb := Nat.mod_lt lb hg
  have hra : la / Nat.gcd p q ≤ la := Nat.div_le_self _ _
  have hrb : lb / Nat.gcd p q ≤ lb := Nat.div_le_self _ _
  generalize Nat.gcd p q = g at *
  have ea : ((la : Int).tdiv (g : Int)) = ((la / g : Nat) : Int) := by rw [Int.tdiv_eq_ediv_of_nonneg (by omega), Int.natCast_ediv]
  have ea2 : ((la : Int).tmod (g : Int)) = ((la % g : Nat) : Int) := by rw [Int.tmod_eq_emod_of_nonneg (by omega), Int.natCast_emod]
  have eb : ((lb : Int).tdiv (g : Int)) = ((lb / g : Nat) : Int) := by rw [Int.tdiv_eq_ediv_of_nonneg (by omega), Int.natCast_ediv]
  have eb2 : ((lb : Int).tmod (g : Int)) = ((lb % g : Nat) : Int) := by rw [Int.tmod_eq_emod_of_nonneg (by omega), Int.natCast_emod]
  have ea3 : ((la : Int) / (g : Int)) = ((la / g : Nat) : Int) := by rw [Int.natCast_ediv]
  have ea4 : ((la : Int) % (g : Int)) = ((la % g : Nat) : Int) := by rw [Int.natCast_emod]
  have eb3 : ((lb : Int) / (g : Int)) = ((lb / g : Nat) : Int) := by rw [Int.natCast_ediv]
  have eb4 : ((lb : Int) % (g : Int)) = ((lb % g : Nat) : Int) := by rw [Int.natCast_emod]
  generalize la / g = ra at *
  generalize la % g = sa at *
  generalize lb / g = rb at *
  generalize lb % g = sb at *
  have zg : ¬ (g : Int) = 0 := by omega
  have zg1 : ((g : Int) == 0) = false := by rw [beq_eq_false_iff_ne]; exact zg
  have zg2 : ¬ g = 0 := by omega
  have k2 := hid (fun W => modulo_any (Fa - Fb) g W (by omega) ⟨by omega, by omega⟩)
  have d0 := Int.emod_nonneg (Fa - Fb) (show (g : Int) ≠ 0 by omega)
  have d1 := Int.emod_lt_of_pos (Fa - Fb) (show (0 : Int) < g by omega)
  have wd : IntKind.i64.wrap (Fa - Fb) = Fa - Fb := by rw [IntKind.wrap_i64]; omega
  generalize (Fa - Fb) % (g : Int) = D at *
  have k3 := hid (fun W => shared_any D (D + sa) 0 sb W (by omega) (by omega) (by omega) (by omega))
  have k4 := hid (fun W => shared_any D (D + sa) g (g + sb) W (by omega) (by omega) (by omega) (by omega))
  obtain ⟨u1, u2⟩ := shr_bd (a := D) (b := D + sa) (c := 0) (d := sb) (by omega) (by omega) (by omega) (by omega)
  obtain ⟨v1, v2⟩ := shr_bd (a := D) (b := D + sa) (c := g) (d := g + sb) (by omega) (by omega) (by omega) (by omega)
  have n1 : g * ra ≤ 1073741824 := by omega
  have n2 : g * ra * rb ≤ 1073741824 * 1073741824 := Nat.mul_le_mul n1 (by omega)
  have n3 : ra * sb ≤ 1073741824 * 1073741824 := Nat.mul_le_mul (by omega) (by omega)
  have n4 : rb * sa ≤ 1073741824 * 1073741824 := Nat.mul_le_mul (by omega) (by omega)
  have hv := hid (show oftV g ra sa rb sb D = ((g * ra * rb : Nat) : Int) + ((ra * sb : Nat) : Int) + ((rb * sa : Nat) : Int) + shr D (D + sa) 0 sb + shr D (D + sa) g (g + sb) by unfold oftV; simp only [Int.natCast_mul])
  have x1 : IntKind.i64.wrap ((g : Int) * (ra : Int)) = ((g * ra : Nat) : Int) := by rw [← Int.natCast_mul, IntKind.wrap_i64]; omega
  have x1' : ((g : Int) * (ra : Int)) = ((g * ra : Nat) : Int) := (Int.natCast_mul _ _).symm
  generalize hX : g * ra = X at *
  have x2 : IntKind.i64.wrap ((X : Int) * (rb : Int)) = ((X * rb : Nat) : Int) := by rw [← Int.natCast_mul, IntKind.wrap_i64]; omega
  have x2' : ((X : Int) * (rb : Int)) = ((X * rb : Nat) : Int) := (Int.natCast_mul _ _).symm
  have x3 : IntKind.i64.wrap ((ra : Int) * (sb : Int)) = ((ra * sb : Nat) : Int) := by rw [← Int.natCast_mul, IntKind.wrap_i64]; omega
  have x3' : ((ra : Int) * (sb : Int)) = ((ra * sb : Nat) : Int) := (Int.natCast_mul _ _).symm
  have x4 : IntKind.i64.wrap ((rb : Int) * (sa : Int)) = ((rb * sa : Nat) : Int) := by rw [← Int.natCast_mul, IntKind.wrap_i64]; omega
  have x4' : ((rb : Int) * (sa : Int)) = ((rb * sa : Nat) : Int) := (Int.natCast_mul _ _).symm
  generalize X * rb = Y1 at *
  generalize ra * sb = Y2 at *
  generalize rb * sa = Y3 at *
  generalize shr D (D + sa) 0 sb = Z1 at *
  generalize shr D (D + sa) g (g + sb) = Z2 at *
  replace hX := hid hX
  replace hda := hid hda
  replace hdb := hid hdb
  clear ca cb
  go_enter Try.func28, Try.ntmps28
  go_wp2_with fail
  refine useK w (k1.out _) (by go_grown) ?_; rintro e w1 rfl hB1 hk1 hs1
  replace p00 : w1.cell? ⟨w.heap.size, 0, none⟩ = some (.int .i64 p) := hk1 _ _ _ (by simp [go_sem])
  replace p01 : w1.cell? ⟨w.heap.size, 1, none⟩ = some (.int .i64 Fa) := hk1 _ _ _ (by simp [go_sem])
  replace p02 : w1.cell? ⟨w.heap.size, 2, none⟩ = some (.int .i64 la) := hk1 _ _ _ (by simp [go_sem])
  replace p10 : w1.cell? ⟨w.heap.size + 1, 0, none⟩ = some (.int .i64 q) := hk1 _ _ _ (by simp [go_sem])
  replace p11 : w1.cell? ⟨w.heap.size + 1, 1, none⟩ = some (.int .i64 Fb) := hk1 _ _ _ (by simp [go_sem])
  replace p12 : w1.cell? ⟨w.heap.size + 1, 2, none⟩ = some (.int .i64 lb) := hk1 _ _ _ (by simp [go_sem])
  have bp00 : w.heap.size < w1.heap.size := World.block_lt_of_cell? w1 ⟨w.heap.size, 0, none⟩ p00
  have bp10 : w.heap.size + 1 < w1.heap.size := World.block_lt_of_cell? w1 ⟨w.heap.size + 1, 0, none⟩ p10
  clear hk1
  go_wp2_with fail
  refine wp_region_held_drew (S := (fun w' => w'.cell? ⟨w.heap.size, 0, none⟩ = some (.int .i64 p) ∧ w'.cell? ⟨w.heap.size, 1, none⟩ = some (.int .i64 Fa) ∧ w'.cell? ⟨w.heap.size, 2, none⟩ = some (.int .i64 la) ∧ w'.cell? ⟨w.heap.size + 1, 0, none⟩ = some (.int .i64 q) ∧ w'.cell? ⟨w.heap.size + 1, 1, none⟩ = some (.int .i64 Fb) ∧ w'.cell? ⟨w.heap.size + 1, 2, none⟩ = some (.int .i64 lb))) (by kernel_rfl) (by (try dsimp only); (first | (exact ⟨hk1 _ _ _ (hOld.1), hk1 _ _ _ (hOld.2.1), hk1 _ _ _ (hOld.2.2.1), hk1 _ _ _ (hOld.2.2.2.1), hk1 _ _ _ (hOld.2.2.2.2.1), hk1 _ _ _ (hOld.2.2.2.2.2)⟩) | ((try simp only [World.cell?_drew, World.frozen?_drew]); (repeat' apply And.intro) <;> (first | (with_reducible assumption) | (with_reducible exact ⟨_, by assumption⟩) | (with_reducible exact ⟨_, two_other (by assumption) (by omega)⟩) | (with_reducible exact two_0 (by assumption)) | (with_reducible exact two_1 (by assumption)) | (with_reducible exact two_other (by assumption) (by omega)) | (with_reducible exact two_fz (by assumption)) | (with_reducible exact keepA _ (by assumption)) | (with_reducible exact keepA _ (keepA _ (keepA _ (by assumption)))) | (simp (maxDischargeDepth := 8) [*, go_sem, World.cell?_alloc_some, World.cell?_setCell_far]; done))) | (go_keep; done) | (simp (maxDischargeDepth := 8) [*, go_sem, World.cell?_alloc_some, World.cell?_setCell_far]; done))) (fun hHeld => ?_)
  (refine wpAnyH_take (i := 0) (oi := ⟨some 17, _, _, _, _, none⟩) (v := ?_) rfl (by kernel_rfl) (by kernel_rfl) (by kernel_rfl) (fun _ _ _ h => h) (Or.inl ⟨by rfl, ?_⟩) hHeld ?_; rotate_left; (· (intro w9 hSw; (try dsimp only at hSw); go_simp; (try with_reducible rfl))))
  (try simp only [Act.put, List.setIfInBounds_toArray, List.set_cons_zero, List.set_cons_succ])
  (refine wpAnyH_take (i := 1) (oi := ⟨some 18, _, _, _, _, none⟩) (v := ?_) rfl (by kernel_rfl) (by kernel_rfl) (by kernel_rfl) (fun _ _ _ h => h) (Or.inl ⟨by rfl, ?_⟩) hHeld ?_; rotate_left; (· (intro w9 hSw; (try dsimp only at hSw); go_simp; (try with_reducible rfl))))
  (try simp only [Act.put, List.setIfInBounds_toArray, List.set_cons_zero, List.set_cons_succ])
  (refine wpAnyH_take (i := 2) (oi := ⟨some 19, _, _, _, _, none⟩) (v := ?_) rfl (by kernel_rfl) (by kernel_rfl) (by kernel_rfl) (fun _ _ _ h => h) (Or.inl ⟨by rfl, ?_⟩) hHeld ?_; rotate_left; (· (intro w9 hSw; (try dsimp only at hSw); go_simp; (try with_reducible rfl))))
  (try simp only [Act.put, List.setIfInBounds_toArray, List.set_cons_zero, List.set_cons_succ])
  (refine wpAnyH_take (i := 3) (oi := ⟨some 20, _, _, _, _, none⟩) (v := ?_) rfl (by kernel_rfl) (by kernel_rfl) (by kernel_rfl) (fun _ _ _ h => h) (Or.inl ⟨by rfl, ?_⟩) hHeld ?_; rotate_left; (· (intro w9 hSw; (try dsimp only at hSw); go_simp; (try with_reducible rfl))))
  (try simp only [Act.put, List.setIfInBounds_toArray, List.set_cons_zero, List.set_cons_succ])
  (refine wpAnyH_take (i := 4) (oi := ⟨some 21, _, _, _, _, none⟩) (v := ?_) rfl (by kernel_rfl) (by kernel_rfl) (by kernel_rfl) (fun _ _ _ h => h) (Or.inl ⟨by rfl, ?_⟩) hHeld ?_; rotate_left; (· (intro w9 hSw; (try dsimp only at hSw); go_simp; (try with_reducible rfl))))
  (try simp only [Act.put, List.setIfInBounds_toArray, List.set_cons_zero, List.set_cons_succ])
  (refine wpAnyH_take (i := 5) (oi := ⟨some 22, _, _, _, _, none⟩) (v := ?_) rfl (by kernel_rfl) (by kernel_rfl) (by kernel_rfl) (fun _ _ _ h => h) (Or.inl ⟨by rfl, ?_⟩) hHeld ?_; rotate_left; (· (intro w9 hSw; (try dsimp only at hSw); go_simp; (try with_reducible rfl))))
  (try simp only [Act.put, List.setIfInBounds_toArray, List.set_cons_zero, List.set_cons_succ])
  (refine wpAnyH_take (i := 6) (oi := ⟨some 23, _, _, _, _, none⟩) (v := ?_) rfl (by kernel_rfl) (by kernel_rfl) (by kernel_rfl) (fun _ _ _ h => h) (Or.inl ⟨by rfl, ?_⟩) hHeld ?_; rotate_left; (· (intro w9 hSw; (try dsimp only at hSw); go_simp; (try with_reducible rfl))))
  (try simp only [Act.put, List.setIfInBounds_toArray, List.set_cons_zero, List.set_cons_succ])
  (refine wpAnyH_take (i := 7) (oi := ⟨some 24, _, _, _, _, none⟩) (v := ?_) rfl (by kernel_rfl) (by kernel_rfl) (by kernel_rfl) (fun _ _ _ h => h) (Or.inl ⟨by rfl, ?_⟩) hHeld ?_; rotate_left; (· (intro w9 hSw; (try dsimp only at hSw); go_simp; (try with_reducible rfl))))
  (try simp only [Act.put, List.setIfInBounds_toArray, List.set_cons_zero, List.set_cons_succ])
  (refine wpAnyH_take (i := 8) (oi := ⟨some 6, _, _, _, _, none⟩) (v := ?_) rfl (by kernel_rfl) (by kernel_rfl) (by kernel_rfl) (fun _ _ _ h => h) (Or.inl ⟨by rfl, ?_⟩) hHeld ?_; rotate_left; (· (intro w9 hSw; (try dsimp only at hSw); go_simp; (try with_reducible rfl))))
  (try simp only [Act.put, List.setIfInBounds_toArray, List.set_cons_zero, List.set_cons_succ])
  (refine wpAnyH_take (i := 9) (oi := ⟨some 7, _, _, _, _, none⟩) (v := ?_) rfl (by kernel_rfl) (by kernel_rfl) (by kernel_rfl) (fun _ _ _ h => h) (Or.inl ⟨by rfl, ?_⟩) hHeld ?_; rotate_left; (· (intro w9 hSw; (try dsimp only at hSw); go_simp; (try with_reducible rfl))))
  (try simp only [Act.put, List.setIfInBounds_toArray, List.set_cons_zero, List.set_cons_succ])
  refine wpAnyH_done (by kernel_rfl) ?_ _
  clear p00 p01 p02 p10 p11 p12
  obtain ⟨p00, p01, p02, p10, p11, p12⟩ := hHeld
  go_wp2_with fail
  refine wp_region_held_drew (S := (fun w' => w'.cell? ⟨w.heap.size, 0, none⟩ = some (.int .i64 p) ∧ w'.cell? ⟨w.heap.size, 1, none⟩ = some (.int .i64 Fa) ∧ w'.cell? ⟨w.heap.size, 2, none⟩ = some (.int .i64 la) ∧ w'.cell? ⟨w.heap.size + 1, 0, none⟩ = some (.int .i64 q) ∧ w'.cell? ⟨w.heap.size + 1, 1, none⟩ = some (.int .i64 Fb) ∧ w'.cell? ⟨w.heap.size + 1, 2, none⟩ = some (.int .i64 lb))) (by kernel_rfl) (by (try dsimp only); (first | (exact ⟨hk1 _ _ _ (hOld.1), hk1 _ _ _ (hOld.2.1), hk1 _ _ _ (hOld.2.2.1), hk1 _ _ _ (hOld.2.2.2.1), hk1 _ _ _ (hOld.2.2.2.2.1), hk1 _ _ _ (hOld.2.2.2.2.2)⟩) | ((try simp only [World.cell?_drew, World.frozen?_drew]); (repeat' apply And.intro) <;> (first | (with_reducible assumption) | (with_reducible exact ⟨_, by assumption⟩) | (with_reducible exact ⟨_, two_other (by assumption) (by omega)⟩) | (with_reducible exact two_0 (by assumption)) | (with_reducible exact two_1 (by assumption)) | (with_reducible exact two_other (by assumption) (by omega)) | (with_reducible exact two_fz (by assumption)) | (with_reducible exact keepA _ (by assumption)) | (with_reducible exact keepA _ (keepA _ (keepA _ (by assumption)))) | (simp (maxDischargeDepth := 8) [*, go_sem, World.cell?_alloc_some, World.cell?_setCell_far]; done))) | (go_keep; done) | (simp (maxDischargeDepth := 8) [*, go_sem, World.cell?_alloc_some, World.cell?_setCell_far]; done))) (fun hHeld => ?_)
  (refine wpAnyH_take (i := 0) (oi := ⟨some 25, _, _, _, _, none⟩) (v := ?_) rfl (by kernel_rfl) (by kernel_rfl) (by kernel_rfl) (fun _ _ _ h => h) (Or.inl ⟨by rfl, ?_⟩) hHeld ?_; rotate_left; (· (intro w9 hSw; (try dsimp only at hSw); go_simp; (try with_reducible rfl))))
  (try simp only [Act.put, List.setIfInBounds_toArray, List.set_cons_zero, List.set_cons_succ])
  (refine wpAnyH_take (i := 1) (oi := ⟨some 26, _, _, _, _, none⟩) (v := ?_) rfl (by kernel_rfl) (by kernel_rfl) (by kernel_rfl) (fun _ _ _ h => h) (Or.inl ⟨by rfl, ?_⟩) hHeld ?_; rotate_left; (· (intro w9 hSw; (try dsimp only at hSw); go_simp; (try with_reducible rfl))))
  (try simp only [Act.put, List.setIfInBounds_toArray, List.set_cons_zero, List.set_cons_succ])
  (refine wpAnyH_take (i := 2) (oi := ⟨some 27, _, _, _, _, none⟩) (v := ?_) rfl (by kernel_rfl) (by kernel_rfl) (by kernel_rfl) (fun _ _ _ h => h) (Or.inl ⟨by rfl, ?_⟩) hHeld ?_; rotate_left; (· (intro w9 hSw; (try dsimp only at hSw); go_simp; (try with_reducible rfl))))
  (try simp only [Act.put, List.setIfInBounds_toArray, List.set_cons_zero, List.set_cons_succ])
  (refine wpAnyH_take (i := 3) (oi := ⟨some 28, _, _, _, _, none⟩) (v := ?_) rfl (by kernel_rfl) (by kernel_rfl) (by kernel_rfl) (fun _ _ _ h => h) (Or.inl ⟨by rfl, ?_⟩) hHeld ?_; rotate_left; (· (intro w9 hSw; (try dsimp only at hSw); go_simp; (try with_reducible rfl))))
  (try simp only [Act.put, List.setIfInBounds_toArray, List.set_cons_zero, List.set_cons_succ])
  (refine wpAnyH_take (i := 4) (oi := ⟨some 29, _, _, _, _, none⟩) (v := ?_) rfl (by kernel_rfl) (by kernel_rfl) (by kernel_rfl) (fun _ _ _ h => h) (Or.inl ⟨by rfl, ?_⟩) hHeld ?_; rotate_left; (· (intro w9 hSw; (try dsimp only at hSw); go_simp; (try with_reducible rfl))))
  (try simp only [Act.put, List.setIfInBounds_toArray, List.set_cons_zero, List.set_cons_succ])
  (refine wpAnyH_take (i := 5) (oi := ⟨some 30, _, _, _, _, none⟩) (v := ?_) rfl (by kernel_rfl) (by kernel_rfl) (by kernel_rfl) (fun _ _ _ h => h) (Or.inl ⟨by rfl, ?_⟩) hHeld ?_; rotate_left; (· (intro w9 hSw; (try dsimp only at hSw); go_simp; (try with_reducible rfl))))
  (try simp only [Act.put, List.setIfInBounds_toArray, List.set_cons_zero, List.set_cons_succ])
  (refine wpAnyH_take (i := 6) (oi := ⟨some 31, _, _, _, _, none⟩) (v := ?_) rfl (by kernel_rfl) (by kernel_rfl) (by kernel_rfl) (fun _ _ _ h => h) (Or.inl ⟨by rfl, ?_⟩) hHeld ?_; rotate_left; (· (intro w9 hSw; (try dsimp only at hSw); go_simp; (try with_reducible rfl))))
  (try simp only [Act.put, List.setIfInBounds_toArray, List.set_cons_zero, List.set_cons_succ])
  (refine wpAnyH_take (i := 7) (oi := ⟨some 32, _, _, _, _, none⟩) (v := ?_) rfl (by kernel_rfl) (by kernel_rfl) (by kernel_rfl) (fun _ _ _ h => h) (Or.inl ⟨by rfl, ?_⟩) hHeld ?_; rotate_left; (· (intro w9 hSw; (try dsimp only at hSw); go_simp; (try with_reducible rfl))))
  (try simp only [Act.put, List.setIfInBounds_toArray, List.set_cons_zero, List.set_cons_succ])
  (refine wpAnyH_take (i := 8) (oi := ⟨some 8, _, _, _, _, none⟩) (v := ?_) rfl (by kernel_rfl) (by kernel_rfl) (by kernel_rfl) (fun _ _ _ h => h) (Or.inl ⟨by rfl, ?_⟩) hHeld ?_; rotate_left; (· (intro w9 hSw; (try dsimp only at hSw); go_simp; (try with_reducible rfl))))
  (try simp only [Act.put, List.setIfInBounds_toArray, List.set_cons_zero, List.set_cons_succ])
  (refine wpAnyH_take (i := 9) (oi := ⟨some 9, _, _, _, _, none⟩) (v := ?_) rfl (by kernel_rfl) (by kernel_rfl) (by kernel_rfl) (fun _ _ _ h => h) (Or.inl ⟨by rfl, ?_⟩) hHeld ?_; rotate_left; (· (intro w9 hSw; (try dsimp only at hSw); go_simp; (try with_reducible rfl))))
  (try simp only [Act.put, List.setIfInBounds_toArray, List.set_cons_zero, List.set_cons_succ])
  refine wpAnyH_done (by kernel_rfl) ?_ _
  clear p00 p01 p02 p10 p11 p12
  obtain ⟨p00, p01, p02, p10, p11, p12⟩ := hHeld
  go_wp2_with fail
  refine useK w (k2.out _) (by go_grown) ?_; rintro e w5 rfl hB5 hk5 hs5
  have hz5 := hB5.size
  clear hk5 p00 p01 p02 p10 p11 p12
  go_wp2_with fail
  refine useK w (k3.out _) (by go_grown) ?_; rintro e w6 rfl hB6 hk6 hs6
  have hz6 := hB6.size
  clear hk6
  go_wp2_with fail
  refine useK w (k4.out _) (by go_grown) ?_; rintro e w7 rfl hB7 hk7 hs7
  have hz7 := hB7.size
  clear hk7
  go_wp2_with fail
  go_ret
  exact ⟨by rw [hv.out]; rfl, by go_grown⟩
end Go.Proofs.Ytlpbkifiidlllaa
