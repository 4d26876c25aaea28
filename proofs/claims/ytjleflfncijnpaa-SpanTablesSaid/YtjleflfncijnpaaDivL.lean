/- A division bit by bit: the long way. -/
import Derived.Deep.DeepCutAuto
import Derived.Deep.CutBlock
import Derived.Deep.LoopGhost
import Derived.Test.YtjleflfncijnpaaRows
import Derived.Test.YtjleflfncijnpaaBase
import Derived.Test.YtjleflfncijnpaaFacts
import Derived.Test.YtjleflfncijnpaaTwo
import Derived.Deep.RegionHeld3
import Derived.Deep.RegionWith
import Derived.Deep.QuietTactic
import Derived.BigQuiet
import Derived.Test.YtjleflfncijnpaaW
import Derived.Test.YtjleflfncijnpaaAsks
import Derived.Test.YtjleflfncijnpaaOut
import Derived.Test.YtjleflfncijnpaaSeq
import Derived.Test.YtjleflfncijnpaaTwo
import Derived.Test.YtjleflfncijnpaaBit
import Derived.Test.YtjleflfncijnpaaDivM
set_option linter.unusedVariables false
set_option linter.unusedSimpArgs false
set_option maxHeartbeats 4000000
set_option maxRecDepth 100000
namespace Go.Proofs.Ytjleflfncijnpaa
open Go Go.RowKit
theorem bitN_any (N : Int) (n k : Nat) (w : World) (hN : Hid (N = n)) (h : Hid (n < 170141183460469231731687303715884105728)) (hk : k ≤ 127) :
    Calls Try.prog 140 #[.agg #[.int .i64 (hiW N), .int .u64 (loW N)], .int .i64 k] w fun e w' => e = .returned (.bool (bitB n k)) ∧ Below w.heap.size w w' := by
  have h := h.out
  have h' := bit_any (n : Int) k w ⟨by omega, by omega⟩ hk
  rw [Int.toNat_natCast] at h'
  rw [hN.out]
  exact h'
/-- The cells of divide's parameters and results. -/
def D4 (w wr : World) (N M : Int) : Prop := (fun w' => w'.cell? ⟨w.heap.size, 0, none⟩ = some (.int .i64 (hiW N)) ∧ w'.cell? ⟨w.heap.size, 1, none⟩ = some (.int .u64 (loW N)) ∧ w'.cell? ⟨w.heap.size + 1, 0, none⟩ = some (.int .i64 (hiW M)) ∧ w'.cell? ⟨w.heap.size + 1, 1, none⟩ = some (.int .u64 (loW M)) ∧ w'.cell? ⟨w.heap.size + 1 + 1, 0, none⟩ = some (.int .i64 0) ∧ w'.cell? ⟨w.heap.size + 1 + 1, 1, none⟩ = some (.int .u64 0) ∧ w'.frozen? ⟨w.heap.size + 1 + 1, 0, none⟩ = false ∧ w'.frozen? ⟨w.heap.size + 1 + 1, 1, none⟩ = false ∧ w'.cell? ⟨w.heap.size + 1 + 1 + 1, 0, none⟩ = some (.int .i64 0) ∧ w'.cell? ⟨w.heap.size + 1 + 1 + 1, 1, none⟩ = some (.int .u64 0) ∧ w'.frozen? ⟨w.heap.size + 1 + 1 + 1, 0, none⟩ = false ∧ w'.frozen? ⟨w.heap.size + 1 + 1 + 1, 1, none⟩ = false) wr
/-- Those of the quotient and the rest, in two blocks in a row. -/
def D2 (B : Nat) (wr : World) (Q R : Int) : Prop := (fun w' => w'.cell? ⟨B, 0, none⟩ = some (.int .i64 (hiW Q)) ∧ w'.cell? ⟨B, 1, none⟩ = some (.int .u64 (loW Q)) ∧ w'.frozen? ⟨B, 0, none⟩ = false ∧ w'.frozen? ⟨B, 1, none⟩ = false ∧ w'.cell? ⟨B + 1, 0, none⟩ = some (.int .i64 (hiW R)) ∧ w'.cell? ⟨B + 1, 1, none⟩ = some (.int .u64 (loW R)) ∧ w'.frozen? ⟨B + 1, 0, none⟩ = false ∧ w'.frozen? ⟨B + 1, 1, none⟩ = false) wr
theorem divide_l (N M : Int) (n m : Nat) (w : World) (hN : Hid (N = n)) (hM : Hid (M = m)) (hn : Hid (n < 170141183460469231731687303715884105728)) (hm : Hid (0 < m ∧ m < 85070591730234615865843651857942052864)) (hg : (hiW N == 0 && hiW M == 0) = false) :
    Calls Try.prog 134 #[.agg #[.int .i64 (hiW N), .int .u64 (loW N)], .agg #[.int .i64 (hiW M), .int .u64 (loW M)]] w fun e w' => e = .returned (.tuple #[.agg #[.int .i64 (hiW (qJ n m 0)), .int .u64 (loW (qJ n m 0))], .agg #[.int .i64 (hiW (rJ n m 0)), .int .u64 (loW (rJ n m 0))] ]) ∧ Below w.heap.size w w' := by
  have hg2 := hid hg
  clear hg
  go_enter Try.func134, Try.ntmps134
  go_upto_region 1 with fail
  go_cut [17] (fun s wx => s = .bool false ∧ D4 w wx N M ∧ Below w.heap.size w wx)
  case first =>
    by_cases c : hiW N = 0
    · have c2 : (hiW M == 0) = false := by have := hg2.out; rw [c] at this; simpa using this
      go_wp2_with fail
      go_meet
      exact ⟨rfl, by unfold D4; simp [go_sem, c], by go_grown⟩
    · have c2 : (hiW N == 0) = false := by simpa using c
      clear c
      go_wp2_with fail
      go_meet
      exact ⟨rfl, by unfold D4; simp [go_sem], by go_grown⟩
  case rest =>
    obtain ⟨rfl, h4, hB⟩ := hcut
    go_upto_block 0 with fail
    go_cut [6] (fun s wx => ∃ k : Nat, s = .int .i64 k ∧ k ≤ 127 ∧ Hid (n < 2 ^ (k + 1)) ∧ D4 w wx N M ∧ Below w.heap.size w wx)
    case first =>
      go_wp2_with fail
      go_loopw [6] (fun s wx => ∃ k : Nat, s = .int .i64 k ∧ k ≤ 127 ∧ Hid (n < 2 ^ (k + 1)) ∧ D4 w wx N M ∧ Below w.heap.size w wx) (fun s _ => (intOf s).toNat)
      case atStart => exact ⟨127, rfl, by omega, hid (Nat.lt_of_lt_of_le hn.out (by decide)), h4, hB⟩
      case round =>
        obtain ⟨k, rfl, hk, ht, h4, hB⟩ := hrel
        by_cases k0 : k = 0
        · subst k0
          go_wp2_with fail
          go_meet
          exact ⟨0, rfl, by omega, ht, h4, hB⟩
        · have hkp : 0 < k := by omega
          have hki : (0 : Int) < k := by omega
          obtain ⟨a0, a1, b0, b1, z0, z1, zf0, zf1, y0, y1, yf0, yf1⟩ := h4
          cases hb : bitB n k
          · have hb2 := hid (bit_none ht.out hb)
            go_wp2_with fail
            refine useF w (bitN_any _ n _ _ hN hn (by omega)) (by go_grown) ?_; rintro e w122 rfl hB122 hk122 hf122 hs122; clear hs122
            replace a0 : w122.cell? ⟨w.heap.size, 0, none⟩ = some (.int .i64 (hiW N)) := hk122 _ _ _ (a0)
            replace a1 : w122.cell? ⟨w.heap.size, 1, none⟩ = some (.int .u64 (loW N)) := hk122 _ _ _ (a1)
            replace b0 : w122.cell? ⟨w.heap.size + 1, 0, none⟩ = some (.int .i64 (hiW M)) := hk122 _ _ _ (b0)
            replace b1 : w122.cell? ⟨w.heap.size + 1, 1, none⟩ = some (.int .u64 (loW M)) := hk122 _ _ _ (b1)
            replace zf0 : w122.frozen? ⟨w.heap.size + 1 + 1, 0, none⟩ = false := hf122 _ _ (.int .i64 0) (z0) (zf0)
            replace z0 : w122.cell? ⟨w.heap.size + 1 + 1, 0, none⟩ = some (.int .i64 0) := hk122 _ _ _ (z0)
            replace zf1 : w122.frozen? ⟨w.heap.size + 1 + 1, 1, none⟩ = false := hf122 _ _ (.int .u64 0) (z1) (zf1)
            replace z1 : w122.cell? ⟨w.heap.size + 1 + 1, 1, none⟩ = some (.int .u64 0) := hk122 _ _ _ (z1)
            replace yf0 : w122.frozen? ⟨w.heap.size + 1 + 1 + 1, 0, none⟩ = false := hf122 _ _ (.int .i64 0) (y0) (yf0)
            replace y0 : w122.cell? ⟨w.heap.size + 1 + 1 + 1, 0, none⟩ = some (.int .i64 0) := hk122 _ _ _ (y0)
            replace yf1 : w122.frozen? ⟨w.heap.size + 1 + 1 + 1, 1, none⟩ = false := hf122 _ _ (.int .u64 0) (y1) (yf1)
            replace y1 : w122.cell? ⟨w.heap.size + 1 + 1 + 1, 1, none⟩ = some (.int .u64 0) := hk122 _ _ _ (y1)
            (try clear ab); have ab : w.heap.size < w122.heap.size := World.block_lt_of_cell? w122 ⟨w.heap.size, 0, none⟩ a0
            (try clear bb); have bb : w.heap.size + 1 < w122.heap.size := World.block_lt_of_cell? w122 ⟨w.heap.size + 1, 0, none⟩ b0
            (try clear zb); have zb : w.heap.size + 1 + 1 < w122.heap.size := World.block_lt_of_cell? w122 ⟨w.heap.size + 1 + 1, 0, none⟩ z0
            (try clear yb); have yb : w.heap.size + 1 + 1 + 1 < w122.heap.size := World.block_lt_of_cell? w122 ⟨w.heap.size + 1 + 1 + 1, 0, none⟩ y0
            clear hk122 hf122
            go_wp2_with fail
            go_roundw
            case rel => exact ⟨k - 1, by go_num, by omega, hid (by rw [show k - 1 + 1 = k by omega]; exact hb2.out), ⟨a0, a1, b0, b1, z0, z1, zf0, zf1, y0, y1, yf0, yf1⟩, by assumption⟩
            case measure => simp [intOf]; omega
          · go_wp2_with fail
            refine useF w (bitN_any _ n _ _ hN hn (by omega)) (by go_grown) ?_; rintro e w121 rfl hB121 hk121 hf121 hs121; clear hs121
            replace a0 : w121.cell? ⟨w.heap.size, 0, none⟩ = some (.int .i64 (hiW N)) := hk121 _ _ _ (a0)
            replace a1 : w121.cell? ⟨w.heap.size, 1, none⟩ = some (.int .u64 (loW N)) := hk121 _ _ _ (a1)
            replace b0 : w121.cell? ⟨w.heap.size + 1, 0, none⟩ = some (.int .i64 (hiW M)) := hk121 _ _ _ (b0)
            replace b1 : w121.cell? ⟨w.heap.size + 1, 1, none⟩ = some (.int .u64 (loW M)) := hk121 _ _ _ (b1)
            replace zf0 : w121.frozen? ⟨w.heap.size + 1 + 1, 0, none⟩ = false := hf121 _ _ (.int .i64 0) (z0) (zf0)
            replace z0 : w121.cell? ⟨w.heap.size + 1 + 1, 0, none⟩ = some (.int .i64 0) := hk121 _ _ _ (z0)
            replace zf1 : w121.frozen? ⟨w.heap.size + 1 + 1, 1, none⟩ = false := hf121 _ _ (.int .u64 0) (z1) (zf1)
            replace z1 : w121.cell? ⟨w.heap.size + 1 + 1, 1, none⟩ = some (.int .u64 0) := hk121 _ _ _ (z1)
            replace yf0 : w121.frozen? ⟨w.heap.size + 1 + 1 + 1, 0, none⟩ = false := hf121 _ _ (.int .i64 0) (y0) (yf0)
            replace y0 : w121.cell? ⟨w.heap.size + 1 + 1 + 1, 0, none⟩ = some (.int .i64 0) := hk121 _ _ _ (y0)
            replace yf1 : w121.frozen? ⟨w.heap.size + 1 + 1 + 1, 1, none⟩ = false := hf121 _ _ (.int .u64 0) (y1) (yf1)
            replace y1 : w121.cell? ⟨w.heap.size + 1 + 1 + 1, 1, none⟩ = some (.int .u64 0) := hk121 _ _ _ (y1)
            (try clear ab); have ab : w.heap.size < w121.heap.size := World.block_lt_of_cell? w121 ⟨w.heap.size, 0, none⟩ a0
            (try clear bb); have bb : w.heap.size + 1 < w121.heap.size := World.block_lt_of_cell? w121 ⟨w.heap.size + 1, 0, none⟩ b0
            (try clear zb); have zb : w.heap.size + 1 + 1 < w121.heap.size := World.block_lt_of_cell? w121 ⟨w.heap.size + 1 + 1, 0, none⟩ z0
            (try clear yb); have yb : w.heap.size + 1 + 1 + 1 < w121.heap.size := World.block_lt_of_cell? w121 ⟨w.heap.size + 1 + 1 + 1, 0, none⟩ y0
            clear hk121 hf121
            go_wp2_with fail
            go_meet
            exact ⟨k, rfl, hk, ht, ⟨a0, a1, b0, b1, z0, z1, zf0, zf1, y0, y1, yf0, yf1⟩, by assumption⟩
    case rest =>
      obtain ⟨k, rfl, hk, ht, h4, hB⟩ := hcut
      obtain ⟨t1, t2⟩ := rq_top (m := m) ht.out
      obtain ⟨a0, a1, b0, b1, z0, z1, zf0, zf1, y0, y1, yf0, yf1⟩ := h4
      have hlt := World.block_lt_of_cell? _ _ y0
      go_wp2_with fail
      go_loopw [9] (fun s wx => ∃ j : Nat, s = .int .i64 ((j : Int) - 1) ∧ j ≤ 128 ∧ D4 w wx N M ∧ D2 wc.heap.size wx (qJ n m j) (rJ n m j) ∧ Below w.heap.size w wx) (fun s _ => (intOf s + 1).toNat)
      case atStart => exact ⟨k + 1, by go_num, by omega, ⟨keepA _ (keepA _ a0), keepA _ (keepA _ a1), keepA _ (keepA _ b0), keepA _ (keepA _ b1), keepA _ (keepA _ z0), keepA _ (keepA _ z1), keepAF _ (keepA _ z0) (keepAF _ z0 zf0), keepAF _ (keepA _ z1) (keepAF _ z1 zf1), keepA _ (keepA _ y0), keepA _ (keepA _ y1), keepAF _ (keepA _ y0) (keepAF _ y0 yf0), keepAF _ (keepA _ y1) (keepAF _ y1 yf1)⟩, by rw [t1, t2]; unfold D2; simp [go_sem, hiW, loW], by go_grown⟩
      case round =>
        clear a0 a1 b0 b1 z0 z1 zf0 zf1 y0 y1 yf0 yf1 t1 t2 ht
        obtain ⟨j, rfl, hj, h4, h2, hB⟩ := hrel
        obtain ⟨a0, a1, b0, b1, z0, z1, zf0, zf1, y0, y1, yf0, yf1⟩ := h4
        obtain ⟨q0, q1, qf0, qf1, r0, r1, rf0, rf1⟩ := h2
        generalize wc.heap.size = B at *
        cases j with
        | zero =>
          go_wp2_with fail
          have ne0_1 : w.heap.size + 1 + 1 ≠ w.heap.size + 1 + 1 + 1 := (by omega); have ne0_2 : w.heap.size + 1 + 1 ≠ B := (by omega); have ne0_3 : w.heap.size + 1 + 1 ≠ B + 1 := (by omega); have ne1_0 : w.heap.size + 1 + 1 + 1 ≠ w.heap.size + 1 + 1 := (by omega); have ne1_2 : w.heap.size + 1 + 1 + 1 ≠ B := (by omega); have ne1_3 : w.heap.size + 1 + 1 + 1 ≠ B + 1 := (by omega)
          refine wp_region_held_drew (S := (fun w' => w'.frozen? ⟨w.heap.size + 1 + 1, 0, none⟩ = false ∧ w'.frozen? ⟨w.heap.size + 1 + 1, 1, none⟩ = false ∧ w'.frozen? ⟨w.heap.size + 1 + 1 + 1, 0, none⟩ = false ∧ w'.frozen? ⟨w.heap.size + 1 + 1 + 1, 1, none⟩ = false ∧ w'.cell? ⟨B, 0, none⟩ = some (.int .i64 (hiW (qJ n m 0))) ∧ w'.cell? ⟨B, 1, none⟩ = some (.int .u64 (loW (qJ n m 0))) ∧ w'.cell? ⟨B + 1, 0, none⟩ = some (.int .i64 (hiW (rJ n m 0))) ∧ w'.cell? ⟨B + 1, 1, none⟩ = some (.int .u64 (loW (rJ n m 0))) ∧ (∃ u, w'.cell? ⟨w.heap.size + 1 + 1, 0, none⟩ = some u) ∧ (∃ u, w'.cell? ⟨w.heap.size + 1 + 1, 1, none⟩ = some u) ∧ (∃ u, w'.cell? ⟨w.heap.size + 1 + 1 + 1, 0, none⟩ = some u) ∧ (∃ u, w'.cell? ⟨w.heap.size + 1 + 1 + 1, 1, none⟩ = some u))) (by kernel_rfl) (by (try dsimp only); (first | (exact ⟨(hOld.2.2.2.2.2.2.2.2.1).elim fun u hu => hf1 _ _ u hu (hOld.1), (hOld.2.2.2.2.2.2.2.2.2.1).elim fun u hu => hf1 _ _ u hu (hOld.2.1), (hOld.2.2.2.2.2.2.2.2.2.2.1).elim fun u hu => hf1 _ _ u hu (hOld.2.2.1), (hOld.2.2.2.2.2.2.2.2.2.2.2).elim fun u hu => hf1 _ _ u hu (hOld.2.2.2.1), hk1 _ _ _ (hOld.2.2.2.2.1), hk1 _ _ _ (hOld.2.2.2.2.2.1), hk1 _ _ _ (hOld.2.2.2.2.2.2.1), hk1 _ _ _ (hOld.2.2.2.2.2.2.2.1), (hOld.2.2.2.2.2.2.2.2.1).elim fun u hu => ⟨u, hk1 _ _ _ hu⟩, (hOld.2.2.2.2.2.2.2.2.2.1).elim fun u hu => ⟨u, hk1 _ _ _ hu⟩, (hOld.2.2.2.2.2.2.2.2.2.2.1).elim fun u hu => ⟨u, hk1 _ _ _ hu⟩, (hOld.2.2.2.2.2.2.2.2.2.2.2).elim fun u hu => ⟨u, hk1 _ _ _ hu⟩⟩) | ((try simp only [World.cell?_drew, World.frozen?_drew]); (repeat' apply And.intro) <;> (first | (with_reducible assumption) | (with_reducible exact ⟨_, by assumption⟩) | (with_reducible exact ⟨_, two_other (by assumption) (by omega)⟩) | (with_reducible exact two_0 (by assumption)) | (with_reducible exact two_1 (by assumption)) | (with_reducible exact two_other (by assumption) (by omega)) | (with_reducible exact two_fz (by assumption)) | (with_reducible exact keepA _ (by assumption)) | (with_reducible exact keepA _ (keepA _ (keepA _ (by assumption)))) | (simp (maxDischargeDepth := 8) [*, go_sem, World.cell?_alloc_some, World.cell?_setCell_far]; done))) | (go_keep; done) | (simp (maxDischargeDepth := 8) [*, go_sem, World.cell?_alloc_some, World.cell?_setCell_far]; done))) (fun hHeld => ?_)
          (refine wpAnyH_take (i := 0) (oi := ⟨some 68, _, _, _, _, none⟩) (v := ?_) rfl (by kernel_rfl) (by kernel_rfl) (by kernel_rfl) (fun _ _ _ h => h) (Or.inl ⟨by rfl, ?_⟩) hHeld ?_; rotate_left; (· (intro w9 hSw; (try dsimp only at hSw); go_simp; (try with_reducible rfl))))
          (try simp only [Act.put, List.setIfInBounds_toArray, List.set_cons_zero, List.set_cons_succ])
          (refine wpAnyH_take (i := 1) (oi := ⟨some 69, _, _, _, _, none⟩) (v := ?_) rfl (by kernel_rfl) (by kernel_rfl) (by kernel_rfl) (fun _ _ _ h => h) (Or.inl ⟨by rfl, ?_⟩) hHeld ?_; rotate_left; (· (intro w9 hSw; (try dsimp only at hSw); go_simp; (try with_reducible rfl))))
          (try simp only [Act.put, List.setIfInBounds_toArray, List.set_cons_zero, List.set_cons_succ])
          (refine wpAnyH_ready (rs := [2]) (by kernel_rfl) (by simp) ?_; refine AllReadyH.cons (o := ⟨none, _, _, _, _, none⟩) rfl (fun K hK => ?_) AllReadyH.nil; (try dsimp only at hHeld); have g0 := hHeld.1; have g1 := hHeld.2.1; have g2 := hHeld.2.2.1; have g3 := hHeld.2.2.2.1; have g4 := hHeld.2.2.2.2.1; have g5 := hHeld.2.2.2.2.2.1; have g6 := hHeld.2.2.2.2.2.2.1; have g7 := hHeld.2.2.2.2.2.2.2.1; refine ex_elim (hHeld.2.2.2.2.2.2.2.2.1) (fun u0 hu0 => ?_); refine ex_elim (hHeld.2.2.2.2.2.2.2.2.2.1) (fun u1 hu1 => ?_); refine ex_elim (hHeld.2.2.2.2.2.2.2.2.2.2.1) (fun u2 hu2 => ?_); refine ex_elim (hHeld.2.2.2.2.2.2.2.2.2.2.2) (fun u3 hu3 => ?_); clear hHeld; go_simp; refine hK.out _ _ ?_ (fun hHeld => ?_); (· ((try dsimp only); (first | ((try simp only [World.cell?_drew, World.frozen?_drew]); (try simp only [World.cell?_drew, World.frozen?_drew] at g0 g1 g2 g3 g4 g5 g6 g7 hu0 hu1 hu2 hu3); exact ⟨(by with_reducible exact two_fz g0), (by with_reducible exact two_fz g1), (by with_reducible exact two_fz g2), (by with_reducible exact two_fz g3), (by first | (with_reducible exact two_other g4 ne0_2) | (with_reducible exact two_other g4 ne1_2) | (with_reducible exact two_0 g4) | (with_reducible exact two_1 g4)), (by first | (with_reducible exact two_other g5 ne0_2) | (with_reducible exact two_other g5 ne1_2) | (with_reducible exact two_0 g5) | (with_reducible exact two_1 g5)), (by first | (with_reducible exact two_other g6 ne0_3) | (with_reducible exact two_other g6 ne1_3) | (with_reducible exact two_0 g6) | (with_reducible exact two_1 g6)), (by first | (with_reducible exact two_other g7 ne0_3) | (with_reducible exact two_other g7 ne1_3) | (with_reducible exact two_0 g7) | (with_reducible exact two_1 g7)), (by first | (with_reducible exact ⟨_, two_other hu0 ne1_0⟩) | (with_reducible exact ⟨_, two_0 hu0⟩) | (with_reducible exact ⟨_, two_1 hu0⟩)), (by first | (with_reducible exact ⟨_, two_other hu1 ne1_0⟩) | (with_reducible exact ⟨_, two_0 hu1⟩) | (with_reducible exact ⟨_, two_1 hu1⟩)), (by first | (with_reducible exact ⟨_, two_other hu2 ne0_1⟩) | (with_reducible exact ⟨_, two_0 hu2⟩) | (with_reducible exact ⟨_, two_1 hu2⟩)), (by first | (with_reducible exact ⟨_, two_other hu3 ne0_1⟩) | (with_reducible exact ⟨_, two_0 hu3⟩) | (with_reducible exact ⟨_, two_1 hu3⟩))⟩) | (first | (exact ⟨(hOld.2.2.2.2.2.2.2.2.1).elim fun u hu => hf1 _ _ u hu (hOld.1), (hOld.2.2.2.2.2.2.2.2.2.1).elim fun u hu => hf1 _ _ u hu (hOld.2.1), (hOld.2.2.2.2.2.2.2.2.2.2.1).elim fun u hu => hf1 _ _ u hu (hOld.2.2.1), (hOld.2.2.2.2.2.2.2.2.2.2.2).elim fun u hu => hf1 _ _ u hu (hOld.2.2.2.1), hk1 _ _ _ (hOld.2.2.2.2.1), hk1 _ _ _ (hOld.2.2.2.2.2.1), hk1 _ _ _ (hOld.2.2.2.2.2.2.1), hk1 _ _ _ (hOld.2.2.2.2.2.2.2.1), (hOld.2.2.2.2.2.2.2.2.1).elim fun u hu => ⟨u, hk1 _ _ _ hu⟩, (hOld.2.2.2.2.2.2.2.2.2.1).elim fun u hu => ⟨u, hk1 _ _ _ hu⟩, (hOld.2.2.2.2.2.2.2.2.2.2.1).elim fun u hu => ⟨u, hk1 _ _ _ hu⟩, (hOld.2.2.2.2.2.2.2.2.2.2.2).elim fun u hu => ⟨u, hk1 _ _ _ hu⟩⟩) | ((try simp only [World.cell?_drew, World.frozen?_drew]); (repeat' apply And.intro) <;> (first | (with_reducible assumption) | (with_reducible exact ⟨_, by assumption⟩) | (with_reducible exact ⟨_, two_other (by assumption) (by omega)⟩) | (with_reducible exact two_0 (by assumption)) | (with_reducible exact two_1 (by assumption)) | (with_reducible exact two_other (by assumption) (by omega)) | (with_reducible exact two_fz (by assumption)) | (with_reducible exact keepA _ (by assumption)) | (with_reducible exact keepA _ (keepA _ (keepA _ (by assumption)))) | (simp (maxDischargeDepth := 8) [*, go_sem, World.cell?_alloc_some, World.cell?_setCell_far]; done))) | (go_keep; done) | (simp (maxDischargeDepth := 8) [*, go_sem, World.cell?_alloc_some, World.cell?_setCell_far]; done))))); clear hK K)
          (try simp only [Act.put, List.setIfInBounds_toArray, List.set_cons_zero, List.set_cons_succ])
          (refine wpAnyH_ready (rs := [3]) (by kernel_rfl) (by simp) ?_; refine AllReadyH.cons (o := ⟨none, _, _, _, _, none⟩) rfl (fun K hK => ?_) AllReadyH.nil; (try dsimp only at hHeld); have g0 := hHeld.1; have g1 := hHeld.2.1; have g2 := hHeld.2.2.1; have g3 := hHeld.2.2.2.1; have g4 := hHeld.2.2.2.2.1; have g5 := hHeld.2.2.2.2.2.1; have g6 := hHeld.2.2.2.2.2.2.1; have g7 := hHeld.2.2.2.2.2.2.2.1; refine ex_elim (hHeld.2.2.2.2.2.2.2.2.1) (fun u0 hu0 => ?_); refine ex_elim (hHeld.2.2.2.2.2.2.2.2.2.1) (fun u1 hu1 => ?_); refine ex_elim (hHeld.2.2.2.2.2.2.2.2.2.2.1) (fun u2 hu2 => ?_); refine ex_elim (hHeld.2.2.2.2.2.2.2.2.2.2.2) (fun u3 hu3 => ?_); clear hHeld; go_simp; refine hK.out _ _ ?_ (fun hHeld => ?_); (· ((try dsimp only); (first | ((try simp only [World.cell?_drew, World.frozen?_drew]); (try simp only [World.cell?_drew, World.frozen?_drew] at g0 g1 g2 g3 g4 g5 g6 g7 hu0 hu1 hu2 hu3); exact ⟨(by with_reducible exact two_fz g0), (by with_reducible exact two_fz g1), (by with_reducible exact two_fz g2), (by with_reducible exact two_fz g3), (by first | (with_reducible exact two_other g4 ne0_2) | (with_reducible exact two_other g4 ne1_2) | (with_reducible exact two_0 g4) | (with_reducible exact two_1 g4)), (by first | (with_reducible exact two_other g5 ne0_2) | (with_reducible exact two_other g5 ne1_2) | (with_reducible exact two_0 g5) | (with_reducible exact two_1 g5)), (by first | (with_reducible exact two_other g6 ne0_3) | (with_reducible exact two_other g6 ne1_3) | (with_reducible exact two_0 g6) | (with_reducible exact two_1 g6)), (by first | (with_reducible exact two_other g7 ne0_3) | (with_reducible exact two_other g7 ne1_3) | (with_reducible exact two_0 g7) | (with_reducible exact two_1 g7)), (by first | (with_reducible exact ⟨_, two_other hu0 ne1_0⟩) | (with_reducible exact ⟨_, two_0 hu0⟩) | (with_reducible exact ⟨_, two_1 hu0⟩)), (by first | (with_reducible exact ⟨_, two_other hu1 ne1_0⟩) | (with_reducible exact ⟨_, two_0 hu1⟩) | (with_reducible exact ⟨_, two_1 hu1⟩)), (by first | (with_reducible exact ⟨_, two_other hu2 ne0_1⟩) | (with_reducible exact ⟨_, two_0 hu2⟩) | (with_reducible exact ⟨_, two_1 hu2⟩)), (by first | (with_reducible exact ⟨_, two_other hu3 ne0_1⟩) | (with_reducible exact ⟨_, two_0 hu3⟩) | (with_reducible exact ⟨_, two_1 hu3⟩))⟩) | (first | (exact ⟨(hOld.2.2.2.2.2.2.2.2.1).elim fun u hu => hf1 _ _ u hu (hOld.1), (hOld.2.2.2.2.2.2.2.2.2.1).elim fun u hu => hf1 _ _ u hu (hOld.2.1), (hOld.2.2.2.2.2.2.2.2.2.2.1).elim fun u hu => hf1 _ _ u hu (hOld.2.2.1), (hOld.2.2.2.2.2.2.2.2.2.2.2).elim fun u hu => hf1 _ _ u hu (hOld.2.2.2.1), hk1 _ _ _ (hOld.2.2.2.2.1), hk1 _ _ _ (hOld.2.2.2.2.2.1), hk1 _ _ _ (hOld.2.2.2.2.2.2.1), hk1 _ _ _ (hOld.2.2.2.2.2.2.2.1), (hOld.2.2.2.2.2.2.2.2.1).elim fun u hu => ⟨u, hk1 _ _ _ hu⟩, (hOld.2.2.2.2.2.2.2.2.2.1).elim fun u hu => ⟨u, hk1 _ _ _ hu⟩, (hOld.2.2.2.2.2.2.2.2.2.2.1).elim fun u hu => ⟨u, hk1 _ _ _ hu⟩, (hOld.2.2.2.2.2.2.2.2.2.2.2).elim fun u hu => ⟨u, hk1 _ _ _ hu⟩⟩) | ((try simp only [World.cell?_drew, World.frozen?_drew]); (repeat' apply And.intro) <;> (first | (with_reducible assumption) | (with_reducible exact ⟨_, by assumption⟩) | (with_reducible exact ⟨_, two_other (by assumption) (by omega)⟩) | (with_reducible exact two_0 (by assumption)) | (with_reducible exact two_1 (by assumption)) | (with_reducible exact two_other (by assumption) (by omega)) | (with_reducible exact two_fz (by assumption)) | (with_reducible exact keepA _ (by assumption)) | (with_reducible exact keepA _ (keepA _ (keepA _ (by assumption)))) | (simp (maxDischargeDepth := 8) [*, go_sem, World.cell?_alloc_some, World.cell?_setCell_far]; done))) | (go_keep; done) | (simp (maxDischargeDepth := 8) [*, go_sem, World.cell?_alloc_some, World.cell?_setCell_far]; done))))); clear hK K)
          (try simp only [Act.put, List.setIfInBounds_toArray, List.set_cons_zero, List.set_cons_succ])
          refine wpAnyH_done (by kernel_rfl) ?_ _
          go_wp2_with fail
          all_goals (refine' bodyPost_ret (res_st_st rfl isA_W isS_W isA_W isS_W rfl rfl ?_ ?_ ?_ ?_) rfl ?_; rotate_left 4; (· first | ((try simp only [World.cell?_drew]); with_reducible exact two_other (two_0 (by assumption)) (by simp)) | ((try simp only [World.cell?_drew]); first | (with_reducible exact two_0 (by assumption)) | (with_reducible exact two_1 (by assumption)) | (with_reducible exact two_other (two_0 (by assumption)) (by simp)) | (with_reducible exact two_other (two_1 (by assumption)) (by simp)) | (with_reducible exact two_0 (two_other (by assumption) (by simp))) | (with_reducible exact two_1 (two_other (by assumption) (by simp))) | (simp (maxDischargeDepth := 8) [go_sem, hHeld]; rfl) | (simp (maxDischargeDepth := 8) [go_sem, *]; rfl) | (simp (maxDischargeDepth := 8) [go_sem, *]; done))); (· first | ((try simp only [World.cell?_drew]); with_reducible exact two_other (two_1 (by assumption)) (by simp)) | ((try simp only [World.cell?_drew]); first | (with_reducible exact two_0 (by assumption)) | (with_reducible exact two_1 (by assumption)) | (with_reducible exact two_other (two_0 (by assumption)) (by simp)) | (with_reducible exact two_other (two_1 (by assumption)) (by simp)) | (with_reducible exact two_0 (two_other (by assumption) (by simp))) | (with_reducible exact two_1 (two_other (by assumption) (by simp))) | (simp (maxDischargeDepth := 8) [go_sem, hHeld]; rfl) | (simp (maxDischargeDepth := 8) [go_sem, *]; rfl) | (simp (maxDischargeDepth := 8) [go_sem, *]; done))); (· first | ((try simp only [World.cell?_drew]); with_reducible exact two_0 (two_other (by assumption) (by simp))) | ((try simp only [World.cell?_drew]); first | (with_reducible exact two_0 (by assumption)) | (with_reducible exact two_1 (by assumption)) | (with_reducible exact two_other (two_0 (by assumption)) (by simp)) | (with_reducible exact two_other (two_1 (by assumption)) (by simp)) | (with_reducible exact two_0 (two_other (by assumption) (by simp))) | (with_reducible exact two_1 (two_other (by assumption) (by simp))) | (simp (maxDischargeDepth := 8) [go_sem, hHeld]; rfl) | (simp (maxDischargeDepth := 8) [go_sem, *]; rfl) | (simp (maxDischargeDepth := 8) [go_sem, *]; done))); (· first | ((try simp only [World.cell?_drew]); with_reducible exact two_1 (two_other (by assumption) (by simp))) | ((try simp only [World.cell?_drew]); first | (with_reducible exact two_0 (by assumption)) | (with_reducible exact two_1 (by assumption)) | (with_reducible exact two_other (two_0 (by assumption)) (by simp)) | (with_reducible exact two_other (two_1 (by assumption)) (by simp)) | (with_reducible exact two_0 (two_other (by assumption) (by simp))) | (with_reducible exact two_1 (two_other (by assumption) (by simp))) | (simp (maxDischargeDepth := 8) [go_sem, hHeld]; rfl) | (simp (maxDischargeDepth := 8) [go_sem, *]; rfl) | (simp (maxDischargeDepth := 8) [go_sem, *]; done))); refine ⟨ret_ww ?_ ?_ ?_ ?_, by go_grown⟩ <;> (first | rfl | ((try simp only [hiW, loW, wrap64, IntKind.wrap_u64, IntKind.wrap_i64] at *); omega)))
        | succ j =>
          rw [show ((j + 1 : Nat) : Int) - 1 = (j : Int) by omega]
          have hj0 : (0 : Int) ≤ j := by omega
          have hjm : (j : Int) ≤ 128 := by omega
          have rb := rJ_bd n m (j + 1) hm.out.1
          have hmm := hm.out.2
          have hMM := hM.out
          cases hb : bitB n j
          · obtain ⟨s1, s2⟩ := step_n hm.out.1 hb
            rw [← hM.out] at s1 s2
            have hw := hid (show (-170141183460469231731687303715884105728 ≤ rJ n m (j + 1) + rJ n m (j + 1) ∧ rJ n m (j + 1) + rJ n m (j + 1) < 170141183460469231731687303715884105728) ∧ (-170141183460469231731687303715884105728 ≤ M ∧ M < 170141183460469231731687303715884105728) by omega)
            clear rb hmm hMM
            by_cases hd : rJ n m (j + 1) + rJ n m (j + 1) < M
            · have hq := hid (s1 hd).2
              have hr := hid (s1 hd).1
              have hdd : decide (rJ n m (j + 1) + rJ n m (j + 1) < M) = true := decide_eq_true hd
              clear s1 s2 hd
              go_wp2_with fail
              refine useF w (twice_any _ _) (by go_grown) ?_; rintro e w117 rfl hB117 hk117 hf117 hs117; clear hs117
              replace a0 : w117.cell? ⟨w.heap.size, 0, none⟩ = some (.int .i64 (hiW N)) := hk117 _ _ _ (a0)
              replace a1 : w117.cell? ⟨w.heap.size, 1, none⟩ = some (.int .u64 (loW N)) := hk117 _ _ _ (a1)
              replace b0 : w117.cell? ⟨w.heap.size + 1, 0, none⟩ = some (.int .i64 (hiW M)) := hk117 _ _ _ (b0)
              replace b1 : w117.cell? ⟨w.heap.size + 1, 1, none⟩ = some (.int .u64 (loW M)) := hk117 _ _ _ (b1)
              replace zf0 : w117.frozen? ⟨w.heap.size + 1 + 1, 0, none⟩ = false := hf117 _ _ (.int .i64 0) (z0) (zf0)
              replace z0 : w117.cell? ⟨w.heap.size + 1 + 1, 0, none⟩ = some (.int .i64 0) := hk117 _ _ _ (z0)
              replace zf1 : w117.frozen? ⟨w.heap.size + 1 + 1, 1, none⟩ = false := hf117 _ _ (.int .u64 0) (z1) (zf1)
              replace z1 : w117.cell? ⟨w.heap.size + 1 + 1, 1, none⟩ = some (.int .u64 0) := hk117 _ _ _ (z1)
              replace yf0 : w117.frozen? ⟨w.heap.size + 1 + 1 + 1, 0, none⟩ = false := hf117 _ _ (.int .i64 0) (y0) (yf0)
              replace y0 : w117.cell? ⟨w.heap.size + 1 + 1 + 1, 0, none⟩ = some (.int .i64 0) := hk117 _ _ _ (y0)
              replace yf1 : w117.frozen? ⟨w.heap.size + 1 + 1 + 1, 1, none⟩ = false := hf117 _ _ (.int .u64 0) (y1) (yf1)
              replace y1 : w117.cell? ⟨w.heap.size + 1 + 1 + 1, 1, none⟩ = some (.int .u64 0) := hk117 _ _ _ (y1)
              replace qf0 : w117.frozen? ⟨B, 0, none⟩ = false := hf117 _ _ (.int .i64 (hiW (qJ n m (j + 1)))) (q0) (qf0)
              replace q0 : w117.cell? ⟨B, 0, none⟩ = some (.int .i64 (hiW (qJ n m (j + 1)))) := hk117 _ _ _ (q0)
              replace qf1 : w117.frozen? ⟨B, 1, none⟩ = false := hf117 _ _ (.int .u64 (loW (qJ n m (j + 1)))) (q1) (qf1)
              replace q1 : w117.cell? ⟨B, 1, none⟩ = some (.int .u64 (loW (qJ n m (j + 1)))) := hk117 _ _ _ (q1)
              replace rf0 : w117.frozen? ⟨B + 1, 0, none⟩ = false := hf117 _ _ (.int .i64 (hiW (rJ n m (j + 1)))) (r0) (rf0)
              replace r0 : w117.cell? ⟨B + 1, 0, none⟩ = some (.int .i64 (hiW (rJ n m (j + 1)))) := hk117 _ _ _ (r0)
              replace rf1 : w117.frozen? ⟨B + 1, 1, none⟩ = false := hf117 _ _ (.int .u64 (loW (rJ n m (j + 1)))) (r1) (rf1)
              replace r1 : w117.cell? ⟨B + 1, 1, none⟩ = some (.int .u64 (loW (rJ n m (j + 1)))) := hk117 _ _ _ (r1)
              (try clear ab); have ab : w.heap.size < w117.heap.size := World.block_lt_of_cell? w117 ⟨w.heap.size, 0, none⟩ a0
              (try clear bb); have bb : w.heap.size + 1 < w117.heap.size := World.block_lt_of_cell? w117 ⟨w.heap.size + 1, 0, none⟩ b0
              (try clear zb); have zb : w.heap.size + 1 + 1 < w117.heap.size := World.block_lt_of_cell? w117 ⟨w.heap.size + 1 + 1, 0, none⟩ z0
              (try clear yb); have yb : w.heap.size + 1 + 1 + 1 < w117.heap.size := World.block_lt_of_cell? w117 ⟨w.heap.size + 1 + 1 + 1, 0, none⟩ y0
              (try clear qb); have qb : B < w117.heap.size := World.block_lt_of_cell? w117 ⟨B, 0, none⟩ q0
              (try clear rb); have rb : B + 1 < w117.heap.size := World.block_lt_of_cell? w117 ⟨B + 1, 0, none⟩ r0
              clear hk117 hf117
              go_wp2_with fail
              refine useF w (bitN_any _ n _ _ hN hn (by omega)) (by go_grown) ?_; rintro e w118 rfl hB118 hk118 hf118 hs118; clear hs118
              replace a0 : w118.cell? ⟨w.heap.size, 0, none⟩ = some (.int .i64 (hiW N)) := hk118 _ _ _ (two_other a0 (by omega))
              replace a1 : w118.cell? ⟨w.heap.size, 1, none⟩ = some (.int .u64 (loW N)) := hk118 _ _ _ (two_other a1 (by omega))
              replace b0 : w118.cell? ⟨w.heap.size + 1, 0, none⟩ = some (.int .i64 (hiW M)) := hk118 _ _ _ (two_other b0 (by omega))
              replace b1 : w118.cell? ⟨w.heap.size + 1, 1, none⟩ = some (.int .u64 (loW M)) := hk118 _ _ _ (two_other b1 (by omega))
              replace zf0 : w118.frozen? ⟨w.heap.size + 1 + 1, 0, none⟩ = false := hf118 _ _ (.int .i64 0) (two_other z0 (by omega)) (two_fz zf0)
              replace z0 : w118.cell? ⟨w.heap.size + 1 + 1, 0, none⟩ = some (.int .i64 0) := hk118 _ _ _ (two_other z0 (by omega))
              replace zf1 : w118.frozen? ⟨w.heap.size + 1 + 1, 1, none⟩ = false := hf118 _ _ (.int .u64 0) (two_other z1 (by omega)) (two_fz zf1)
              replace z1 : w118.cell? ⟨w.heap.size + 1 + 1, 1, none⟩ = some (.int .u64 0) := hk118 _ _ _ (two_other z1 (by omega))
              replace yf0 : w118.frozen? ⟨w.heap.size + 1 + 1 + 1, 0, none⟩ = false := hf118 _ _ (.int .i64 0) (two_other y0 (by omega)) (two_fz yf0)
              replace y0 : w118.cell? ⟨w.heap.size + 1 + 1 + 1, 0, none⟩ = some (.int .i64 0) := hk118 _ _ _ (two_other y0 (by omega))
              replace yf1 : w118.frozen? ⟨w.heap.size + 1 + 1 + 1, 1, none⟩ = false := hf118 _ _ (.int .u64 0) (two_other y1 (by omega)) (two_fz yf1)
              replace y1 : w118.cell? ⟨w.heap.size + 1 + 1 + 1, 1, none⟩ = some (.int .u64 0) := hk118 _ _ _ (two_other y1 (by omega))
              replace qf0 : w118.frozen? ⟨B, 0, none⟩ = false := hf118 _ _ (.int .i64 (hiW (qJ n m (j + 1)))) (two_other q0 (by omega)) (two_fz qf0)
              replace q0 : w118.cell? ⟨B, 0, none⟩ = some (.int .i64 (hiW (qJ n m (j + 1)))) := hk118 _ _ _ (two_other q0 (by omega))
              replace qf1 : w118.frozen? ⟨B, 1, none⟩ = false := hf118 _ _ (.int .u64 (loW (qJ n m (j + 1)))) (two_other q1 (by omega)) (two_fz qf1)
              replace q1 : w118.cell? ⟨B, 1, none⟩ = some (.int .u64 (loW (qJ n m (j + 1)))) := hk118 _ _ _ (two_other q1 (by omega))
              replace rf0 : w118.frozen? ⟨B + 1, 0, none⟩ = false := hf118 _ _ (.int .i64 (hiW (rJ n m (j + 1) + rJ n m (j + 1)))) (two_0 r0) (two_fz rf0)
              replace r0 : w118.cell? ⟨B + 1, 0, none⟩ = some (.int .i64 (hiW (rJ n m (j + 1) + rJ n m (j + 1)))) := hk118 _ _ _ (two_0 r0)
              replace rf1 : w118.frozen? ⟨B + 1, 1, none⟩ = false := hf118 _ _ (.int .u64 (loW (rJ n m (j + 1) + rJ n m (j + 1)))) (two_1 r1) (two_fz rf1)
              replace r1 : w118.cell? ⟨B + 1, 1, none⟩ = some (.int .u64 (loW (rJ n m (j + 1) + rJ n m (j + 1)))) := hk118 _ _ _ (two_1 r1)
              (try clear ab); have ab : w.heap.size < w118.heap.size := World.block_lt_of_cell? w118 ⟨w.heap.size, 0, none⟩ a0
              (try clear bb); have bb : w.heap.size + 1 < w118.heap.size := World.block_lt_of_cell? w118 ⟨w.heap.size + 1, 0, none⟩ b0
              (try clear zb); have zb : w.heap.size + 1 + 1 < w118.heap.size := World.block_lt_of_cell? w118 ⟨w.heap.size + 1 + 1, 0, none⟩ z0
              (try clear yb); have yb : w.heap.size + 1 + 1 + 1 < w118.heap.size := World.block_lt_of_cell? w118 ⟨w.heap.size + 1 + 1 + 1, 0, none⟩ y0
              (try clear qb); have qb : B < w118.heap.size := World.block_lt_of_cell? w118 ⟨B, 0, none⟩ q0
              (try clear rb); have rb : B + 1 < w118.heap.size := World.block_lt_of_cell? w118 ⟨B + 1, 0, none⟩ r0
              clear hk118 hf118
              go_wp2_with fail
              refine useF w (twice_any _ _) (by go_grown) ?_; rintro e w119 rfl hB119 hk119 hf119 hs119; clear hs119
              replace a0 : w119.cell? ⟨w.heap.size, 0, none⟩ = some (.int .i64 (hiW N)) := hk119 _ _ _ (a0)
              replace a1 : w119.cell? ⟨w.heap.size, 1, none⟩ = some (.int .u64 (loW N)) := hk119 _ _ _ (a1)
              replace b0 : w119.cell? ⟨w.heap.size + 1, 0, none⟩ = some (.int .i64 (hiW M)) := hk119 _ _ _ (b0)
              replace b1 : w119.cell? ⟨w.heap.size + 1, 1, none⟩ = some (.int .u64 (loW M)) := hk119 _ _ _ (b1)
              replace zf0 : w119.frozen? ⟨w.heap.size + 1 + 1, 0, none⟩ = false := hf119 _ _ (.int .i64 0) (z0) (zf0)
              replace z0 : w119.cell? ⟨w.heap.size + 1 + 1, 0, none⟩ = some (.int .i64 0) := hk119 _ _ _ (z0)
              replace zf1 : w119.frozen? ⟨w.heap.size + 1 + 1, 1, none⟩ = false := hf119 _ _ (.int .u64 0) (z1) (zf1)
              replace z1 : w119.cell? ⟨w.heap.size + 1 + 1, 1, none⟩ = some (.int .u64 0) := hk119 _ _ _ (z1)
              replace yf0 : w119.frozen? ⟨w.heap.size + 1 + 1 + 1, 0, none⟩ = false := hf119 _ _ (.int .i64 0) (y0) (yf0)
              replace y0 : w119.cell? ⟨w.heap.size + 1 + 1 + 1, 0, none⟩ = some (.int .i64 0) := hk119 _ _ _ (y0)
              replace yf1 : w119.frozen? ⟨w.heap.size + 1 + 1 + 1, 1, none⟩ = false := hf119 _ _ (.int .u64 0) (y1) (yf1)
              replace y1 : w119.cell? ⟨w.heap.size + 1 + 1 + 1, 1, none⟩ = some (.int .u64 0) := hk119 _ _ _ (y1)
              replace qf0 : w119.frozen? ⟨B, 0, none⟩ = false := hf119 _ _ (.int .i64 (hiW (qJ n m (j + 1)))) (q0) (qf0)
              replace q0 : w119.cell? ⟨B, 0, none⟩ = some (.int .i64 (hiW (qJ n m (j + 1)))) := hk119 _ _ _ (q0)
              replace qf1 : w119.frozen? ⟨B, 1, none⟩ = false := hf119 _ _ (.int .u64 (loW (qJ n m (j + 1)))) (q1) (qf1)
              replace q1 : w119.cell? ⟨B, 1, none⟩ = some (.int .u64 (loW (qJ n m (j + 1)))) := hk119 _ _ _ (q1)
              replace rf0 : w119.frozen? ⟨B + 1, 0, none⟩ = false := hf119 _ _ (.int .i64 (hiW (rJ n m (j + 1) + rJ n m (j + 1)))) (r0) (rf0)
              replace r0 : w119.cell? ⟨B + 1, 0, none⟩ = some (.int .i64 (hiW (rJ n m (j + 1) + rJ n m (j + 1)))) := hk119 _ _ _ (r0)
              replace rf1 : w119.frozen? ⟨B + 1, 1, none⟩ = false := hf119 _ _ (.int .u64 (loW (rJ n m (j + 1) + rJ n m (j + 1)))) (r1) (rf1)
              replace r1 : w119.cell? ⟨B + 1, 1, none⟩ = some (.int .u64 (loW (rJ n m (j + 1) + rJ n m (j + 1)))) := hk119 _ _ _ (r1)
              (try clear ab); have ab : w.heap.size < w119.heap.size := World.block_lt_of_cell? w119 ⟨w.heap.size, 0, none⟩ a0
              (try clear bb); have bb : w.heap.size + 1 < w119.heap.size := World.block_lt_of_cell? w119 ⟨w.heap.size + 1, 0, none⟩ b0
              (try clear zb); have zb : w.heap.size + 1 + 1 < w119.heap.size := World.block_lt_of_cell? w119 ⟨w.heap.size + 1 + 1, 0, none⟩ z0
              (try clear yb); have yb : w.heap.size + 1 + 1 + 1 < w119.heap.size := World.block_lt_of_cell? w119 ⟨w.heap.size + 1 + 1 + 1, 0, none⟩ y0
              (try clear qb); have qb : B < w119.heap.size := World.block_lt_of_cell? w119 ⟨B, 0, none⟩ q0
              (try clear rb); have rb : B + 1 < w119.heap.size := World.block_lt_of_cell? w119 ⟨B + 1, 0, none⟩ r0
              clear hk119 hf119
              go_wp2_with fail
              refine useF w (less_any _ _ _ hw.out) (by go_grown) ?_; rintro e w120 rfl hB120 hk120 hf120 hs120; clear hs120
              replace a0 : w120.cell? ⟨w.heap.size, 0, none⟩ = some (.int .i64 (hiW N)) := hk120 _ _ _ (two_other a0 (by omega))
              replace a1 : w120.cell? ⟨w.heap.size, 1, none⟩ = some (.int .u64 (loW N)) := hk120 _ _ _ (two_other a1 (by omega))
              replace b0 : w120.cell? ⟨w.heap.size + 1, 0, none⟩ = some (.int .i64 (hiW M)) := hk120 _ _ _ (two_other b0 (by omega))
              replace b1 : w120.cell? ⟨w.heap.size + 1, 1, none⟩ = some (.int .u64 (loW M)) := hk120 _ _ _ (two_other b1 (by omega))
              replace zf0 : w120.frozen? ⟨w.heap.size + 1 + 1, 0, none⟩ = false := hf120 _ _ (.int .i64 0) (two_other z0 (by omega)) (two_fz zf0)
              replace z0 : w120.cell? ⟨w.heap.size + 1 + 1, 0, none⟩ = some (.int .i64 0) := hk120 _ _ _ (two_other z0 (by omega))
              replace zf1 : w120.frozen? ⟨w.heap.size + 1 + 1, 1, none⟩ = false := hf120 _ _ (.int .u64 0) (two_other z1 (by omega)) (two_fz zf1)
              replace z1 : w120.cell? ⟨w.heap.size + 1 + 1, 1, none⟩ = some (.int .u64 0) := hk120 _ _ _ (two_other z1 (by omega))
              replace yf0 : w120.frozen? ⟨w.heap.size + 1 + 1 + 1, 0, none⟩ = false := hf120 _ _ (.int .i64 0) (two_other y0 (by omega)) (two_fz yf0)
              replace y0 : w120.cell? ⟨w.heap.size + 1 + 1 + 1, 0, none⟩ = some (.int .i64 0) := hk120 _ _ _ (two_other y0 (by omega))
              replace yf1 : w120.frozen? ⟨w.heap.size + 1 + 1 + 1, 1, none⟩ = false := hf120 _ _ (.int .u64 0) (two_other y1 (by omega)) (two_fz yf1)
              replace y1 : w120.cell? ⟨w.heap.size + 1 + 1 + 1, 1, none⟩ = some (.int .u64 0) := hk120 _ _ _ (two_other y1 (by omega))
              replace qf0 : w120.frozen? ⟨B, 0, none⟩ = false := hf120 _ _ (.int .i64 (hiW (qJ n m (j + 1) + qJ n m (j + 1)))) (two_0 q0) (two_fz qf0)
              replace q0 : w120.cell? ⟨B, 0, none⟩ = some (.int .i64 (hiW (qJ n m (j + 1) + qJ n m (j + 1)))) := hk120 _ _ _ (two_0 q0)
              replace qf1 : w120.frozen? ⟨B, 1, none⟩ = false := hf120 _ _ (.int .u64 (loW (qJ n m (j + 1) + qJ n m (j + 1)))) (two_1 q1) (two_fz qf1)
              replace q1 : w120.cell? ⟨B, 1, none⟩ = some (.int .u64 (loW (qJ n m (j + 1) + qJ n m (j + 1)))) := hk120 _ _ _ (two_1 q1)
              replace rf0 : w120.frozen? ⟨B + 1, 0, none⟩ = false := hf120 _ _ (.int .i64 (hiW (rJ n m (j + 1) + rJ n m (j + 1)))) (two_other r0 (by omega)) (two_fz rf0)
              replace r0 : w120.cell? ⟨B + 1, 0, none⟩ = some (.int .i64 (hiW (rJ n m (j + 1) + rJ n m (j + 1)))) := hk120 _ _ _ (two_other r0 (by omega))
              replace rf1 : w120.frozen? ⟨B + 1, 1, none⟩ = false := hf120 _ _ (.int .u64 (loW (rJ n m (j + 1) + rJ n m (j + 1)))) (two_other r1 (by omega)) (two_fz rf1)
              replace r1 : w120.cell? ⟨B + 1, 1, none⟩ = some (.int .u64 (loW (rJ n m (j + 1) + rJ n m (j + 1)))) := hk120 _ _ _ (two_other r1 (by omega))
              (try clear ab); have ab : w.heap.size < w120.heap.size := World.block_lt_of_cell? w120 ⟨w.heap.size, 0, none⟩ a0
              (try clear bb); have bb : w.heap.size + 1 < w120.heap.size := World.block_lt_of_cell? w120 ⟨w.heap.size + 1, 0, none⟩ b0
              (try clear zb); have zb : w.heap.size + 1 + 1 < w120.heap.size := World.block_lt_of_cell? w120 ⟨w.heap.size + 1 + 1, 0, none⟩ z0
              (try clear yb); have yb : w.heap.size + 1 + 1 + 1 < w120.heap.size := World.block_lt_of_cell? w120 ⟨w.heap.size + 1 + 1 + 1, 0, none⟩ y0
              (try clear qb); have qb : B < w120.heap.size := World.block_lt_of_cell? w120 ⟨B, 0, none⟩ q0
              (try clear rb); have rb : B + 1 < w120.heap.size := World.block_lt_of_cell? w120 ⟨B + 1, 0, none⟩ r0
              clear hk120 hf120
              go_wp2_with fail
              go_roundw
              case rel => exact ⟨j, rfl, by omega, ⟨a0, a1, b0, b1, z0, z1, zf0, zf1, y0, y1, yf0, yf1⟩, by rw [hq.out, hr.out]; exact ⟨q0, q1, qf0, qf1, r0, r1, rf0, rf1⟩, by assumption⟩
              case measure => first | (simp [intOf]; done) | (simp [intOf]; omega)
            · have hq := hid (s2 hd).2
              have hr := hid (s2 hd).1
              have hdd : decide (rJ n m (j + 1) + rJ n m (j + 1) < M) = false := decide_eq_false hd
              clear s1 s2 hd
              go_wp2_with fail
              refine useF w (twice_any _ _) (by go_grown) ?_; rintro e w113 rfl hB113 hk113 hf113 hs113; clear hs113
              replace a0 : w113.cell? ⟨w.heap.size, 0, none⟩ = some (.int .i64 (hiW N)) := hk113 _ _ _ (a0)
              replace a1 : w113.cell? ⟨w.heap.size, 1, none⟩ = some (.int .u64 (loW N)) := hk113 _ _ _ (a1)
              replace b0 : w113.cell? ⟨w.heap.size + 1, 0, none⟩ = some (.int .i64 (hiW M)) := hk113 _ _ _ (b0)
              replace b1 : w113.cell? ⟨w.heap.size + 1, 1, none⟩ = some (.int .u64 (loW M)) := hk113 _ _ _ (b1)
              replace zf0 : w113.frozen? ⟨w.heap.size + 1 + 1, 0, none⟩ = false := hf113 _ _ (.int .i64 0) (z0) (zf0)
              replace z0 : w113.cell? ⟨w.heap.size + 1 + 1, 0, none⟩ = some (.int .i64 0) := hk113 _ _ _ (z0)
              replace zf1 : w113.frozen? ⟨w.heap.size + 1 + 1, 1, none⟩ = false := hf113 _ _ (.int .u64 0) (z1) (zf1)
              replace z1 : w113.cell? ⟨w.heap.size + 1 + 1, 1, none⟩ = some (.int .u64 0) := hk113 _ _ _ (z1)
              replace yf0 : w113.frozen? ⟨w.heap.size + 1 + 1 + 1, 0, none⟩ = false := hf113 _ _ (.int .i64 0) (y0) (yf0)
              replace y0 : w113.cell? ⟨w.heap.size + 1 + 1 + 1, 0, none⟩ = some (.int .i64 0) := hk113 _ _ _ (y0)
              replace yf1 : w113.frozen? ⟨w.heap.size + 1 + 1 + 1, 1, none⟩ = false := hf113 _ _ (.int .u64 0) (y1) (yf1)
              replace y1 : w113.cell? ⟨w.heap.size + 1 + 1 + 1, 1, none⟩ = some (.int .u64 0) := hk113 _ _ _ (y1)
              replace qf0 : w113.frozen? ⟨B, 0, none⟩ = false := hf113 _ _ (.int .i64 (hiW (qJ n m (j + 1)))) (q0) (qf0)
              replace q0 : w113.cell? ⟨B, 0, none⟩ = some (.int .i64 (hiW (qJ n m (j + 1)))) := hk113 _ _ _ (q0)
              replace qf1 : w113.frozen? ⟨B, 1, none⟩ = false := hf113 _ _ (.int .u64 (loW (qJ n m (j + 1)))) (q1) (qf1)
              replace q1 : w113.cell? ⟨B, 1, none⟩ = some (.int .u64 (loW (qJ n m (j + 1)))) := hk113 _ _ _ (q1)
              replace rf0 : w113.frozen? ⟨B + 1, 0, none⟩ = false := hf113 _ _ (.int .i64 (hiW (rJ n m (j + 1)))) (r0) (rf0)
              replace r0 : w113.cell? ⟨B + 1, 0, none⟩ = some (.int .i64 (hiW (rJ n m (j + 1)))) := hk113 _ _ _ (r0)
              replace rf1 : w113.frozen? ⟨B + 1, 1, none⟩ = false := hf113 _ _ (.int .u64 (loW (rJ n m (j + 1)))) (r1) (rf1)
              replace r1 : w113.cell? ⟨B + 1, 1, none⟩ = some (.int .u64 (loW (rJ n m (j + 1)))) := hk113 _ _ _ (r1)
              (try clear ab); have ab : w.heap.size < w113.heap.size := World.block_lt_of_cell? w113 ⟨w.heap.size, 0, none⟩ a0
              (try clear bb); have bb : w.heap.size + 1 < w113.heap.size := World.block_lt_of_cell? w113 ⟨w.heap.size + 1, 0, none⟩ b0
              (try clear zb); have zb : w.heap.size + 1 + 1 < w113.heap.size := World.block_lt_of_cell? w113 ⟨w.heap.size + 1 + 1, 0, none⟩ z0
              (try clear yb); have yb : w.heap.size + 1 + 1 + 1 < w113.heap.size := World.block_lt_of_cell? w113 ⟨w.heap.size + 1 + 1 + 1, 0, none⟩ y0
              (try clear qb); have qb : B < w113.heap.size := World.block_lt_of_cell? w113 ⟨B, 0, none⟩ q0
              (try clear rb); have rb : B + 1 < w113.heap.size := World.block_lt_of_cell? w113 ⟨B + 1, 0, none⟩ r0
              clear hk113 hf113
              go_wp2_with fail
              refine useF w (bitN_any _ n _ _ hN hn (by omega)) (by go_grown) ?_; rintro e w114 rfl hB114 hk114 hf114 hs114; clear hs114
              replace a0 : w114.cell? ⟨w.heap.size, 0, none⟩ = some (.int .i64 (hiW N)) := hk114 _ _ _ (two_other a0 (by omega))
              replace a1 : w114.cell? ⟨w.heap.size, 1, none⟩ = some (.int .u64 (loW N)) := hk114 _ _ _ (two_other a1 (by omega))
              replace b0 : w114.cell? ⟨w.heap.size + 1, 0, none⟩ = some (.int .i64 (hiW M)) := hk114 _ _ _ (two_other b0 (by omega))
              replace b1 : w114.cell? ⟨w.heap.size + 1, 1, none⟩ = some (.int .u64 (loW M)) := hk114 _ _ _ (two_other b1 (by omega))
              replace zf0 : w114.frozen? ⟨w.heap.size + 1 + 1, 0, none⟩ = false := hf114 _ _ (.int .i64 0) (two_other z0 (by omega)) (two_fz zf0)
              replace z0 : w114.cell? ⟨w.heap.size + 1 + 1, 0, none⟩ = some (.int .i64 0) := hk114 _ _ _ (two_other z0 (by omega))
              replace zf1 : w114.frozen? ⟨w.heap.size + 1 + 1, 1, none⟩ = false := hf114 _ _ (.int .u64 0) (two_other z1 (by omega)) (two_fz zf1)
              replace z1 : w114.cell? ⟨w.heap.size + 1 + 1, 1, none⟩ = some (.int .u64 0) := hk114 _ _ _ (two_other z1 (by omega))
              replace yf0 : w114.frozen? ⟨w.heap.size + 1 + 1 + 1, 0, none⟩ = false := hf114 _ _ (.int .i64 0) (two_other y0 (by omega)) (two_fz yf0)
              replace y0 : w114.cell? ⟨w.heap.size + 1 + 1 + 1, 0, none⟩ = some (.int .i64 0) := hk114 _ _ _ (two_other y0 (by omega))
              replace yf1 : w114.frozen? ⟨w.heap.size + 1 + 1 + 1, 1, none⟩ = false := hf114 _ _ (.int .u64 0) (two_other y1 (by omega)) (two_fz yf1)
              replace y1 : w114.cell? ⟨w.heap.size + 1 + 1 + 1, 1, none⟩ = some (.int .u64 0) := hk114 _ _ _ (two_other y1 (by omega))
              replace qf0 : w114.frozen? ⟨B, 0, none⟩ = false := hf114 _ _ (.int .i64 (hiW (qJ n m (j + 1)))) (two_other q0 (by omega)) (two_fz qf0)
              replace q0 : w114.cell? ⟨B, 0, none⟩ = some (.int .i64 (hiW (qJ n m (j + 1)))) := hk114 _ _ _ (two_other q0 (by omega))
              replace qf1 : w114.frozen? ⟨B, 1, none⟩ = false := hf114 _ _ (.int .u64 (loW (qJ n m (j + 1)))) (two_other q1 (by omega)) (two_fz qf1)
              replace q1 : w114.cell? ⟨B, 1, none⟩ = some (.int .u64 (loW (qJ n m (j + 1)))) := hk114 _ _ _ (two_other q1 (by omega))
              replace rf0 : w114.frozen? ⟨B + 1, 0, none⟩ = false := hf114 _ _ (.int .i64 (hiW (rJ n m (j + 1) + rJ n m (j + 1)))) (two_0 r0) (two_fz rf0)
              replace r0 : w114.cell? ⟨B + 1, 0, none⟩ = some (.int .i64 (hiW (rJ n m (j + 1) + rJ n m (j + 1)))) := hk114 _ _ _ (two_0 r0)
              replace rf1 : w114.frozen? ⟨B + 1, 1, none⟩ = false := hf114 _ _ (.int .u64 (loW (rJ n m (j + 1) + rJ n m (j + 1)))) (two_1 r1) (two_fz rf1)
              replace r1 : w114.cell? ⟨B + 1, 1, none⟩ = some (.int .u64 (loW (rJ n m (j + 1) + rJ n m (j + 1)))) := hk114 _ _ _ (two_1 r1)
              (try clear ab); have ab : w.heap.size < w114.heap.size := World.block_lt_of_cell? w114 ⟨w.heap.size, 0, none⟩ a0
              (try clear bb); have bb : w.heap.size + 1 < w114.heap.size := World.block_lt_of_cell? w114 ⟨w.heap.size + 1, 0, none⟩ b0
              (try clear zb); have zb : w.heap.size + 1 + 1 < w114.heap.size := World.block_lt_of_cell? w114 ⟨w.heap.size + 1 + 1, 0, none⟩ z0
              (try clear yb); have yb : w.heap.size + 1 + 1 + 1 < w114.heap.size := World.block_lt_of_cell? w114 ⟨w.heap.size + 1 + 1 + 1, 0, none⟩ y0
              (try clear qb); have qb : B < w114.heap.size := World.block_lt_of_cell? w114 ⟨B, 0, none⟩ q0
              (try clear rb); have rb : B + 1 < w114.heap.size := World.block_lt_of_cell? w114 ⟨B + 1, 0, none⟩ r0
              clear hk114 hf114
              go_wp2_with fail
              refine useF w (twice_any _ _) (by go_grown) ?_; rintro e w115 rfl hB115 hk115 hf115 hs115; clear hs115
              replace a0 : w115.cell? ⟨w.heap.size, 0, none⟩ = some (.int .i64 (hiW N)) := hk115 _ _ _ (a0)
              replace a1 : w115.cell? ⟨w.heap.size, 1, none⟩ = some (.int .u64 (loW N)) := hk115 _ _ _ (a1)
              replace b0 : w115.cell? ⟨w.heap.size + 1, 0, none⟩ = some (.int .i64 (hiW M)) := hk115 _ _ _ (b0)
              replace b1 : w115.cell? ⟨w.heap.size + 1, 1, none⟩ = some (.int .u64 (loW M)) := hk115 _ _ _ (b1)
              replace zf0 : w115.frozen? ⟨w.heap.size + 1 + 1, 0, none⟩ = false := hf115 _ _ (.int .i64 0) (z0) (zf0)
              replace z0 : w115.cell? ⟨w.heap.size + 1 + 1, 0, none⟩ = some (.int .i64 0) := hk115 _ _ _ (z0)
              replace zf1 : w115.frozen? ⟨w.heap.size + 1 + 1, 1, none⟩ = false := hf115 _ _ (.int .u64 0) (z1) (zf1)
              replace z1 : w115.cell? ⟨w.heap.size + 1 + 1, 1, none⟩ = some (.int .u64 0) := hk115 _ _ _ (z1)
              replace yf0 : w115.frozen? ⟨w.heap.size + 1 + 1 + 1, 0, none⟩ = false := hf115 _ _ (.int .i64 0) (y0) (yf0)
              replace y0 : w115.cell? ⟨w.heap.size + 1 + 1 + 1, 0, none⟩ = some (.int .i64 0) := hk115 _ _ _ (y0)
              replace yf1 : w115.frozen? ⟨w.heap.size + 1 + 1 + 1, 1, none⟩ = false := hf115 _ _ (.int .u64 0) (y1) (yf1)
              replace y1 : w115.cell? ⟨w.heap.size + 1 + 1 + 1, 1, none⟩ = some (.int .u64 0) := hk115 _ _ _ (y1)
              replace qf0 : w115.frozen? ⟨B, 0, none⟩ = false := hf115 _ _ (.int .i64 (hiW (qJ n m (j + 1)))) (q0) (qf0)
              replace q0 : w115.cell? ⟨B, 0, none⟩ = some (.int .i64 (hiW (qJ n m (j + 1)))) := hk115 _ _ _ (q0)
              replace qf1 : w115.frozen? ⟨B, 1, none⟩ = false := hf115 _ _ (.int .u64 (loW (qJ n m (j + 1)))) (q1) (qf1)
              replace q1 : w115.cell? ⟨B, 1, none⟩ = some (.int .u64 (loW (qJ n m (j + 1)))) := hk115 _ _ _ (q1)
              replace rf0 : w115.frozen? ⟨B + 1, 0, none⟩ = false := hf115 _ _ (.int .i64 (hiW (rJ n m (j + 1) + rJ n m (j + 1)))) (r0) (rf0)
              replace r0 : w115.cell? ⟨B + 1, 0, none⟩ = some (.int .i64 (hiW (rJ n m (j + 1) + rJ n m (j + 1)))) := hk115 _ _ _ (r0)
              replace rf1 : w115.frozen? ⟨B + 1, 1, none⟩ = false := hf115 _ _ (.int .u64 (loW (rJ n m (j + 1) + rJ n m (j + 1)))) (r1) (rf1)
              replace r1 : w115.cell? ⟨B + 1, 1, none⟩ = some (.int .u64 (loW (rJ n m (j + 1) + rJ n m (j + 1)))) := hk115 _ _ _ (r1)
              (try clear ab); have ab : w.heap.size < w115.heap.size := World.block_lt_of_cell? w115 ⟨w.heap.size, 0, none⟩ a0
              (try clear bb); have bb : w.heap.size + 1 < w115.heap.size := World.block_lt_of_cell? w115 ⟨w.heap.size + 1, 0, none⟩ b0
              (try clear zb); have zb : w.heap.size + 1 + 1 < w115.heap.size := World.block_lt_of_cell? w115 ⟨w.heap.size + 1 + 1, 0, none⟩ z0
              (try clear yb); have yb : w.heap.size + 1 + 1 + 1 < w115.heap.size := World.block_lt_of_cell? w115 ⟨w.heap.size + 1 + 1 + 1, 0, none⟩ y0
              (try clear qb); have qb : B < w115.heap.size := World.block_lt_of_cell? w115 ⟨B, 0, none⟩ q0
              (try clear rb); have rb : B + 1 < w115.heap.size := World.block_lt_of_cell? w115 ⟨B + 1, 0, none⟩ r0
              clear hk115 hf115
              go_wp2_with fail
              refine useF w (less_any _ _ _ hw.out) (by go_grown) ?_; rintro e w116 rfl hB116 hk116 hf116 hs116; clear hs116
              replace a0 : w116.cell? ⟨w.heap.size, 0, none⟩ = some (.int .i64 (hiW N)) := hk116 _ _ _ (two_other a0 (by omega))
              replace a1 : w116.cell? ⟨w.heap.size, 1, none⟩ = some (.int .u64 (loW N)) := hk116 _ _ _ (two_other a1 (by omega))
              replace b0 : w116.cell? ⟨w.heap.size + 1, 0, none⟩ = some (.int .i64 (hiW M)) := hk116 _ _ _ (two_other b0 (by omega))
              replace b1 : w116.cell? ⟨w.heap.size + 1, 1, none⟩ = some (.int .u64 (loW M)) := hk116 _ _ _ (two_other b1 (by omega))
              replace zf0 : w116.frozen? ⟨w.heap.size + 1 + 1, 0, none⟩ = false := hf116 _ _ (.int .i64 0) (two_other z0 (by omega)) (two_fz zf0)
              replace z0 : w116.cell? ⟨w.heap.size + 1 + 1, 0, none⟩ = some (.int .i64 0) := hk116 _ _ _ (two_other z0 (by omega))
              replace zf1 : w116.frozen? ⟨w.heap.size + 1 + 1, 1, none⟩ = false := hf116 _ _ (.int .u64 0) (two_other z1 (by omega)) (two_fz zf1)
              replace z1 : w116.cell? ⟨w.heap.size + 1 + 1, 1, none⟩ = some (.int .u64 0) := hk116 _ _ _ (two_other z1 (by omega))
              replace yf0 : w116.frozen? ⟨w.heap.size + 1 + 1 + 1, 0, none⟩ = false := hf116 _ _ (.int .i64 0) (two_other y0 (by omega)) (two_fz yf0)
              replace y0 : w116.cell? ⟨w.heap.size + 1 + 1 + 1, 0, none⟩ = some (.int .i64 0) := hk116 _ _ _ (two_other y0 (by omega))
              replace yf1 : w116.frozen? ⟨w.heap.size + 1 + 1 + 1, 1, none⟩ = false := hf116 _ _ (.int .u64 0) (two_other y1 (by omega)) (two_fz yf1)
              replace y1 : w116.cell? ⟨w.heap.size + 1 + 1 + 1, 1, none⟩ = some (.int .u64 0) := hk116 _ _ _ (two_other y1 (by omega))
              replace qf0 : w116.frozen? ⟨B, 0, none⟩ = false := hf116 _ _ (.int .i64 (hiW (qJ n m (j + 1) + qJ n m (j + 1)))) (two_0 q0) (two_fz qf0)
              replace q0 : w116.cell? ⟨B, 0, none⟩ = some (.int .i64 (hiW (qJ n m (j + 1) + qJ n m (j + 1)))) := hk116 _ _ _ (two_0 q0)
              replace qf1 : w116.frozen? ⟨B, 1, none⟩ = false := hf116 _ _ (.int .u64 (loW (qJ n m (j + 1) + qJ n m (j + 1)))) (two_1 q1) (two_fz qf1)
              replace q1 : w116.cell? ⟨B, 1, none⟩ = some (.int .u64 (loW (qJ n m (j + 1) + qJ n m (j + 1)))) := hk116 _ _ _ (two_1 q1)
              replace rf0 : w116.frozen? ⟨B + 1, 0, none⟩ = false := hf116 _ _ (.int .i64 (hiW (rJ n m (j + 1) + rJ n m (j + 1)))) (two_other r0 (by omega)) (two_fz rf0)
              replace r0 : w116.cell? ⟨B + 1, 0, none⟩ = some (.int .i64 (hiW (rJ n m (j + 1) + rJ n m (j + 1)))) := hk116 _ _ _ (two_other r0 (by omega))
              replace rf1 : w116.frozen? ⟨B + 1, 1, none⟩ = false := hf116 _ _ (.int .u64 (loW (rJ n m (j + 1) + rJ n m (j + 1)))) (two_other r1 (by omega)) (two_fz rf1)
              replace r1 : w116.cell? ⟨B + 1, 1, none⟩ = some (.int .u64 (loW (rJ n m (j + 1) + rJ n m (j + 1)))) := hk116 _ _ _ (two_other r1 (by omega))
              (try clear ab); have ab : w.heap.size < w116.heap.size := World.block_lt_of_cell? w116 ⟨w.heap.size, 0, none⟩ a0
              (try clear bb); have bb : w.heap.size + 1 < w116.heap.size := World.block_lt_of_cell? w116 ⟨w.heap.size + 1, 0, none⟩ b0
              (try clear zb); have zb : w.heap.size + 1 + 1 < w116.heap.size := World.block_lt_of_cell? w116 ⟨w.heap.size + 1 + 1, 0, none⟩ z0
              (try clear yb); have yb : w.heap.size + 1 + 1 + 1 < w116.heap.size := World.block_lt_of_cell? w116 ⟨w.heap.size + 1 + 1 + 1, 0, none⟩ y0
              (try clear qb); have qb : B < w116.heap.size := World.block_lt_of_cell? w116 ⟨B, 0, none⟩ q0
              (try clear rb); have rb : B + 1 < w116.heap.size := World.block_lt_of_cell? w116 ⟨B + 1, 0, none⟩ r0
              clear hk116 hf116
              go_wp2_with fail
              go_cut [] (fun wx => D4 w wx N M ∧ D2 B wx (qJ n m (j + 1) + qJ n m (j + 1)) (rJ n m (j + 1) + rJ n m (j + 1) + -M) ∧ Below w.heap.size w wx)
              case first =>
                go_region_with (first | (go_at_call 96; refine useF w (minus_any _ _) (by go_grown) ?_; rintro e w1 rfl hB1 hk1 hf1 hs1; have a0 := hk1 _ _ _ a0; have a1 := hk1 _ _ _ a1; have ab := World.block_lt_of_cell? _ _ a0; have b0 := hk1 _ _ _ b0; have b1 := hk1 _ _ _ b1; have bb := World.block_lt_of_cell? _ _ b0; have zf0 := hf1 _ _ _ z0 zf0; have z0 := hk1 _ _ _ z0; have zf1 := hf1 _ _ _ z1 zf1; have z1 := hk1 _ _ _ z1; have zb := World.block_lt_of_cell? _ _ z0; have yf0 := hf1 _ _ _ y0 yf0; have y0 := hk1 _ _ _ y0; have yf1 := hf1 _ _ _ y1 yf1; have y1 := hk1 _ _ _ y1; have yb := World.block_lt_of_cell? _ _ y0; have qf0 := hf1 _ _ _ q0 qf0; have q0 := hk1 _ _ _ q0; have qf1 := hf1 _ _ _ q1 qf1; have q1 := hk1 _ _ _ q1; have qb := World.block_lt_of_cell? _ _ q0; have rf0 := hf1 _ _ _ r0 rf0; have r0 := hk1 _ _ _ r0; have rf1 := hf1 _ _ _ r1 rf1; have r1 := hk1 _ _ _ r1; have rb := World.block_lt_of_cell? _ _ r0; clear hk1 hf1) | (go_at_call 85; refine useF w (plus_any _ _ _) (by go_grown) ?_; rintro e w1 rfl hB1 hk1 hf1 hs1; have a0 := hk1 _ _ _ a0; have a1 := hk1 _ _ _ a1; have ab := World.block_lt_of_cell? _ _ a0; have b0 := hk1 _ _ _ b0; have b1 := hk1 _ _ _ b1; have bb := World.block_lt_of_cell? _ _ b0; have zf0 := hf1 _ _ _ z0 zf0; have z0 := hk1 _ _ _ z0; have zf1 := hf1 _ _ _ z1 zf1; have z1 := hk1 _ _ _ z1; have zb := World.block_lt_of_cell? _ _ z0; have yf0 := hf1 _ _ _ y0 yf0; have y0 := hk1 _ _ _ y0; have yf1 := hf1 _ _ _ y1 yf1; have y1 := hk1 _ _ _ y1; have yb := World.block_lt_of_cell? _ _ y0; have qf0 := hf1 _ _ _ q0 qf0; have q0 := hk1 _ _ _ q0; have qf1 := hf1 _ _ _ q1 qf1; have q1 := hk1 _ _ _ q1; have qb := World.block_lt_of_cell? _ _ q0; have rf0 := hf1 _ _ _ r0 rf0; have r0 := hk1 _ _ _ r0; have rf1 := hf1 _ _ _ r1 rf1; have r1 := hk1 _ _ _ r1; have rb := World.block_lt_of_cell? _ _ r0; clear hk1 hf1))
                all_goals (go_wp2_with fail)
                all_goals go_meet
                all_goals exact ⟨⟨two_other a0 (by omega), two_other a1 (by omega), two_other b0 (by omega), two_other b1 (by omega), two_other z0 (by omega), two_other z1 (by omega), two_fz zf0, two_fz zf1, two_other y0 (by omega), two_other y1 (by omega), two_fz yf0, two_fz yf1⟩, ⟨two_other q0 (by omega), two_other q1 (by omega), two_fz qf0, two_fz qf1, two_0 r0, two_1 r1, two_fz rf0, two_fz rf1⟩, by go_grown⟩
              case rest =>
                obtain ⟨h4, h2, hB⟩ := hcut
                obtain ⟨a0, a1, b0, b1, z0, z1, zf0, zf1, y0, y1, yf0, yf1⟩ := h4
                obtain ⟨q0, q1, qf0, qf1, r0, r1, rf0, rf1⟩ := h2
                go_wp2_with fail
                refine useF w (plus_of (qJ n m (j + 1) + qJ n m (j + 1)) 1 _ ⟨rfl, rfl, rfl, rfl⟩) (by go_grown) ?_; rintro e w112 rfl hB112 hk112 hf112 hs112; clear hs112
                replace a0 : w112.cell? ⟨w.heap.size, 0, none⟩ = some (.int .i64 (hiW N)) := hk112 _ _ _ (a0)
                replace a1 : w112.cell? ⟨w.heap.size, 1, none⟩ = some (.int .u64 (loW N)) := hk112 _ _ _ (a1)
                replace b0 : w112.cell? ⟨w.heap.size + 1, 0, none⟩ = some (.int .i64 (hiW M)) := hk112 _ _ _ (b0)
                replace b1 : w112.cell? ⟨w.heap.size + 1, 1, none⟩ = some (.int .u64 (loW M)) := hk112 _ _ _ (b1)
                replace zf0 : w112.frozen? ⟨w.heap.size + 1 + 1, 0, none⟩ = false := hf112 _ _ (.int .i64 0) (z0) (zf0)
                replace z0 : w112.cell? ⟨w.heap.size + 1 + 1, 0, none⟩ = some (.int .i64 0) := hk112 _ _ _ (z0)
                replace zf1 : w112.frozen? ⟨w.heap.size + 1 + 1, 1, none⟩ = false := hf112 _ _ (.int .u64 0) (z1) (zf1)
                replace z1 : w112.cell? ⟨w.heap.size + 1 + 1, 1, none⟩ = some (.int .u64 0) := hk112 _ _ _ (z1)
                replace yf0 : w112.frozen? ⟨w.heap.size + 1 + 1 + 1, 0, none⟩ = false := hf112 _ _ (.int .i64 0) (y0) (yf0)
                replace y0 : w112.cell? ⟨w.heap.size + 1 + 1 + 1, 0, none⟩ = some (.int .i64 0) := hk112 _ _ _ (y0)
                replace yf1 : w112.frozen? ⟨w.heap.size + 1 + 1 + 1, 1, none⟩ = false := hf112 _ _ (.int .u64 0) (y1) (yf1)
                replace y1 : w112.cell? ⟨w.heap.size + 1 + 1 + 1, 1, none⟩ = some (.int .u64 0) := hk112 _ _ _ (y1)
                replace qf0 : w112.frozen? ⟨B, 0, none⟩ = false := hf112 _ _ (.int .i64 (hiW (qJ n m (j + 1) + qJ n m (j + 1)))) (q0) (qf0)
                replace q0 : w112.cell? ⟨B, 0, none⟩ = some (.int .i64 (hiW (qJ n m (j + 1) + qJ n m (j + 1)))) := hk112 _ _ _ (q0)
                replace qf1 : w112.frozen? ⟨B, 1, none⟩ = false := hf112 _ _ (.int .u64 (loW (qJ n m (j + 1) + qJ n m (j + 1)))) (q1) (qf1)
                replace q1 : w112.cell? ⟨B, 1, none⟩ = some (.int .u64 (loW (qJ n m (j + 1) + qJ n m (j + 1)))) := hk112 _ _ _ (q1)
                replace rf0 : w112.frozen? ⟨B + 1, 0, none⟩ = false := hf112 _ _ (.int .i64 (hiW (rJ n m (j + 1) + rJ n m (j + 1) + -M))) (r0) (rf0)
                replace r0 : w112.cell? ⟨B + 1, 0, none⟩ = some (.int .i64 (hiW (rJ n m (j + 1) + rJ n m (j + 1) + -M))) := hk112 _ _ _ (r0)
                replace rf1 : w112.frozen? ⟨B + 1, 1, none⟩ = false := hf112 _ _ (.int .u64 (loW (rJ n m (j + 1) + rJ n m (j + 1) + -M))) (r1) (rf1)
                replace r1 : w112.cell? ⟨B + 1, 1, none⟩ = some (.int .u64 (loW (rJ n m (j + 1) + rJ n m (j + 1) + -M))) := hk112 _ _ _ (r1)
                (try clear ab); have ab : w.heap.size < w112.heap.size := World.block_lt_of_cell? w112 ⟨w.heap.size, 0, none⟩ a0
                (try clear bb); have bb : w.heap.size + 1 < w112.heap.size := World.block_lt_of_cell? w112 ⟨w.heap.size + 1, 0, none⟩ b0
                (try clear zb); have zb : w.heap.size + 1 + 1 < w112.heap.size := World.block_lt_of_cell? w112 ⟨w.heap.size + 1 + 1, 0, none⟩ z0
                (try clear yb); have yb : w.heap.size + 1 + 1 + 1 < w112.heap.size := World.block_lt_of_cell? w112 ⟨w.heap.size + 1 + 1 + 1, 0, none⟩ y0
                (try clear qb); have qb : B < w112.heap.size := World.block_lt_of_cell? w112 ⟨B, 0, none⟩ q0
                (try clear rb); have rb : B + 1 < w112.heap.size := World.block_lt_of_cell? w112 ⟨B + 1, 0, none⟩ r0
                clear hk112 hf112
                go_wp2_with fail
                have hBs : Below w.heap.size w ((w112.setCell ⟨B, 0, none⟩ (.int .i64 (hiW (qJ n m (j + 1) + qJ n m (j + 1) + 1)))).setCell ⟨B, 1, none⟩ (.int .u64 (loW (qJ n m (j + 1) + qJ n m (j + 1) + 1)))) := by go_grown
                replace a0 : ((w112.setCell ⟨B, 0, none⟩ (.int .i64 (hiW (qJ n m (j + 1) + qJ n m (j + 1) + 1)))).setCell ⟨B, 1, none⟩ (.int .u64 (loW (qJ n m (j + 1) + qJ n m (j + 1) + 1)))).cell? ⟨w.heap.size, 0, none⟩ = some (.int .i64 (hiW N)) := two_other a0 (by omega)
                replace a1 : ((w112.setCell ⟨B, 0, none⟩ (.int .i64 (hiW (qJ n m (j + 1) + qJ n m (j + 1) + 1)))).setCell ⟨B, 1, none⟩ (.int .u64 (loW (qJ n m (j + 1) + qJ n m (j + 1) + 1)))).cell? ⟨w.heap.size, 1, none⟩ = some (.int .u64 (loW N)) := two_other a1 (by omega)
                replace b0 : ((w112.setCell ⟨B, 0, none⟩ (.int .i64 (hiW (qJ n m (j + 1) + qJ n m (j + 1) + 1)))).setCell ⟨B, 1, none⟩ (.int .u64 (loW (qJ n m (j + 1) + qJ n m (j + 1) + 1)))).cell? ⟨w.heap.size + 1, 0, none⟩ = some (.int .i64 (hiW M)) := two_other b0 (by omega)
                replace b1 : ((w112.setCell ⟨B, 0, none⟩ (.int .i64 (hiW (qJ n m (j + 1) + qJ n m (j + 1) + 1)))).setCell ⟨B, 1, none⟩ (.int .u64 (loW (qJ n m (j + 1) + qJ n m (j + 1) + 1)))).cell? ⟨w.heap.size + 1, 1, none⟩ = some (.int .u64 (loW M)) := two_other b1 (by omega)
                replace zf0 : ((w112.setCell ⟨B, 0, none⟩ (.int .i64 (hiW (qJ n m (j + 1) + qJ n m (j + 1) + 1)))).setCell ⟨B, 1, none⟩ (.int .u64 (loW (qJ n m (j + 1) + qJ n m (j + 1) + 1)))).frozen? ⟨w.heap.size + 1 + 1, 0, none⟩ = false := two_fz zf0
                replace z0 : ((w112.setCell ⟨B, 0, none⟩ (.int .i64 (hiW (qJ n m (j + 1) + qJ n m (j + 1) + 1)))).setCell ⟨B, 1, none⟩ (.int .u64 (loW (qJ n m (j + 1) + qJ n m (j + 1) + 1)))).cell? ⟨w.heap.size + 1 + 1, 0, none⟩ = some (.int .i64 0) := two_other z0 (by omega)
                replace zf1 : ((w112.setCell ⟨B, 0, none⟩ (.int .i64 (hiW (qJ n m (j + 1) + qJ n m (j + 1) + 1)))).setCell ⟨B, 1, none⟩ (.int .u64 (loW (qJ n m (j + 1) + qJ n m (j + 1) + 1)))).frozen? ⟨w.heap.size + 1 + 1, 1, none⟩ = false := two_fz zf1
                replace z1 : ((w112.setCell ⟨B, 0, none⟩ (.int .i64 (hiW (qJ n m (j + 1) + qJ n m (j + 1) + 1)))).setCell ⟨B, 1, none⟩ (.int .u64 (loW (qJ n m (j + 1) + qJ n m (j + 1) + 1)))).cell? ⟨w.heap.size + 1 + 1, 1, none⟩ = some (.int .u64 0) := two_other z1 (by omega)
                replace yf0 : ((w112.setCell ⟨B, 0, none⟩ (.int .i64 (hiW (qJ n m (j + 1) + qJ n m (j + 1) + 1)))).setCell ⟨B, 1, none⟩ (.int .u64 (loW (qJ n m (j + 1) + qJ n m (j + 1) + 1)))).frozen? ⟨w.heap.size + 1 + 1 + 1, 0, none⟩ = false := two_fz yf0
                replace y0 : ((w112.setCell ⟨B, 0, none⟩ (.int .i64 (hiW (qJ n m (j + 1) + qJ n m (j + 1) + 1)))).setCell ⟨B, 1, none⟩ (.int .u64 (loW (qJ n m (j + 1) + qJ n m (j + 1) + 1)))).cell? ⟨w.heap.size + 1 + 1 + 1, 0, none⟩ = some (.int .i64 0) := two_other y0 (by omega)
                replace yf1 : ((w112.setCell ⟨B, 0, none⟩ (.int .i64 (hiW (qJ n m (j + 1) + qJ n m (j + 1) + 1)))).setCell ⟨B, 1, none⟩ (.int .u64 (loW (qJ n m (j + 1) + qJ n m (j + 1) + 1)))).frozen? ⟨w.heap.size + 1 + 1 + 1, 1, none⟩ = false := two_fz yf1
                replace y1 : ((w112.setCell ⟨B, 0, none⟩ (.int .i64 (hiW (qJ n m (j + 1) + qJ n m (j + 1) + 1)))).setCell ⟨B, 1, none⟩ (.int .u64 (loW (qJ n m (j + 1) + qJ n m (j + 1) + 1)))).cell? ⟨w.heap.size + 1 + 1 + 1, 1, none⟩ = some (.int .u64 0) := two_other y1 (by omega)
                replace qf0 : ((w112.setCell ⟨B, 0, none⟩ (.int .i64 (hiW (qJ n m (j + 1) + qJ n m (j + 1) + 1)))).setCell ⟨B, 1, none⟩ (.int .u64 (loW (qJ n m (j + 1) + qJ n m (j + 1) + 1)))).frozen? ⟨B, 0, none⟩ = false := two_fz qf0
                replace q0 : ((w112.setCell ⟨B, 0, none⟩ (.int .i64 (hiW (qJ n m (j + 1) + qJ n m (j + 1) + 1)))).setCell ⟨B, 1, none⟩ (.int .u64 (loW (qJ n m (j + 1) + qJ n m (j + 1) + 1)))).cell? ⟨B, 0, none⟩ = some (.int .i64 (hiW (qJ n m (j + 1) + qJ n m (j + 1) + 1))) := two_0 q0
                replace qf1 : ((w112.setCell ⟨B, 0, none⟩ (.int .i64 (hiW (qJ n m (j + 1) + qJ n m (j + 1) + 1)))).setCell ⟨B, 1, none⟩ (.int .u64 (loW (qJ n m (j + 1) + qJ n m (j + 1) + 1)))).frozen? ⟨B, 1, none⟩ = false := two_fz qf1
                replace q1 : ((w112.setCell ⟨B, 0, none⟩ (.int .i64 (hiW (qJ n m (j + 1) + qJ n m (j + 1) + 1)))).setCell ⟨B, 1, none⟩ (.int .u64 (loW (qJ n m (j + 1) + qJ n m (j + 1) + 1)))).cell? ⟨B, 1, none⟩ = some (.int .u64 (loW (qJ n m (j + 1) + qJ n m (j + 1) + 1))) := two_1 q1
                replace rf0 : ((w112.setCell ⟨B, 0, none⟩ (.int .i64 (hiW (qJ n m (j + 1) + qJ n m (j + 1) + 1)))).setCell ⟨B, 1, none⟩ (.int .u64 (loW (qJ n m (j + 1) + qJ n m (j + 1) + 1)))).frozen? ⟨B + 1, 0, none⟩ = false := two_fz rf0
                replace r0 : ((w112.setCell ⟨B, 0, none⟩ (.int .i64 (hiW (qJ n m (j + 1) + qJ n m (j + 1) + 1)))).setCell ⟨B, 1, none⟩ (.int .u64 (loW (qJ n m (j + 1) + qJ n m (j + 1) + 1)))).cell? ⟨B + 1, 0, none⟩ = some (.int .i64 (hiW (rJ n m (j + 1) + rJ n m (j + 1) + -M))) := two_other r0 (by omega)
                replace rf1 : ((w112.setCell ⟨B, 0, none⟩ (.int .i64 (hiW (qJ n m (j + 1) + qJ n m (j + 1) + 1)))).setCell ⟨B, 1, none⟩ (.int .u64 (loW (qJ n m (j + 1) + qJ n m (j + 1) + 1)))).frozen? ⟨B + 1, 1, none⟩ = false := two_fz rf1
                replace r1 : ((w112.setCell ⟨B, 0, none⟩ (.int .i64 (hiW (qJ n m (j + 1) + qJ n m (j + 1) + 1)))).setCell ⟨B, 1, none⟩ (.int .u64 (loW (qJ n m (j + 1) + qJ n m (j + 1) + 1)))).cell? ⟨B + 1, 1, none⟩ = some (.int .u64 (loW (rJ n m (j + 1) + rJ n m (j + 1) + -M))) := two_other r1 (by omega)
                generalize ((w112.setCell ⟨B, 0, none⟩ (.int .i64 (hiW (qJ n m (j + 1) + qJ n m (j + 1) + 1)))).setCell ⟨B, 1, none⟩ (.int .u64 (loW (qJ n m (j + 1) + qJ n m (j + 1) + 1)))) = wS at *
                go_roundw
                case rel => exact ⟨j, rfl, by omega, ⟨a0, a1, b0, b1, z0, z1, zf0, zf1, y0, y1, yf0, yf1⟩, by rw [hq.out, hr.out]; exact ⟨q0, q1, qf0, qf1, r0, r1, rf0, rf1⟩, by assumption⟩
                case measure => first | (simp [intOf]; done) | (simp [intOf]; omega)
          · obtain ⟨s1, s2⟩ := step_b hm.out.1 hb
            rw [← hM.out] at s1 s2
            have hw := hid (show (-170141183460469231731687303715884105728 ≤ rJ n m (j + 1) + rJ n m (j + 1) + 1 ∧ rJ n m (j + 1) + rJ n m (j + 1) + 1 < 170141183460469231731687303715884105728) ∧ (-170141183460469231731687303715884105728 ≤ M ∧ M < 170141183460469231731687303715884105728) by omega)
            clear rb hmm hMM
            by_cases hd : rJ n m (j + 1) + rJ n m (j + 1) + 1 < M
            · have hq := hid (s1 hd).2
              have hr := hid (s1 hd).1
              have hdd : decide (rJ n m (j + 1) + rJ n m (j + 1) + 1 < M) = true := decide_eq_true hd
              clear s1 s2 hd
              go_wp2_with fail
              refine useF w (twice_any _ _) (by go_grown) ?_; rintro e w107 rfl hB107 hk107 hf107 hs107; clear hs107
              replace a0 : w107.cell? ⟨w.heap.size, 0, none⟩ = some (.int .i64 (hiW N)) := hk107 _ _ _ (a0)
              replace a1 : w107.cell? ⟨w.heap.size, 1, none⟩ = some (.int .u64 (loW N)) := hk107 _ _ _ (a1)
              replace b0 : w107.cell? ⟨w.heap.size + 1, 0, none⟩ = some (.int .i64 (hiW M)) := hk107 _ _ _ (b0)
              replace b1 : w107.cell? ⟨w.heap.size + 1, 1, none⟩ = some (.int .u64 (loW M)) := hk107 _ _ _ (b1)
              replace zf0 : w107.frozen? ⟨w.heap.size + 1 + 1, 0, none⟩ = false := hf107 _ _ (.int .i64 0) (z0) (zf0)
              replace z0 : w107.cell? ⟨w.heap.size + 1 + 1, 0, none⟩ = some (.int .i64 0) := hk107 _ _ _ (z0)
              replace zf1 : w107.frozen? ⟨w.heap.size + 1 + 1, 1, none⟩ = false := hf107 _ _ (.int .u64 0) (z1) (zf1)
              replace z1 : w107.cell? ⟨w.heap.size + 1 + 1, 1, none⟩ = some (.int .u64 0) := hk107 _ _ _ (z1)
              replace yf0 : w107.frozen? ⟨w.heap.size + 1 + 1 + 1, 0, none⟩ = false := hf107 _ _ (.int .i64 0) (y0) (yf0)
              replace y0 : w107.cell? ⟨w.heap.size + 1 + 1 + 1, 0, none⟩ = some (.int .i64 0) := hk107 _ _ _ (y0)
              replace yf1 : w107.frozen? ⟨w.heap.size + 1 + 1 + 1, 1, none⟩ = false := hf107 _ _ (.int .u64 0) (y1) (yf1)
              replace y1 : w107.cell? ⟨w.heap.size + 1 + 1 + 1, 1, none⟩ = some (.int .u64 0) := hk107 _ _ _ (y1)
              replace qf0 : w107.frozen? ⟨B, 0, none⟩ = false := hf107 _ _ (.int .i64 (hiW (qJ n m (j + 1)))) (q0) (qf0)
              replace q0 : w107.cell? ⟨B, 0, none⟩ = some (.int .i64 (hiW (qJ n m (j + 1)))) := hk107 _ _ _ (q0)
              replace qf1 : w107.frozen? ⟨B, 1, none⟩ = false := hf107 _ _ (.int .u64 (loW (qJ n m (j + 1)))) (q1) (qf1)
              replace q1 : w107.cell? ⟨B, 1, none⟩ = some (.int .u64 (loW (qJ n m (j + 1)))) := hk107 _ _ _ (q1)
              replace rf0 : w107.frozen? ⟨B + 1, 0, none⟩ = false := hf107 _ _ (.int .i64 (hiW (rJ n m (j + 1)))) (r0) (rf0)
              replace r0 : w107.cell? ⟨B + 1, 0, none⟩ = some (.int .i64 (hiW (rJ n m (j + 1)))) := hk107 _ _ _ (r0)
              replace rf1 : w107.frozen? ⟨B + 1, 1, none⟩ = false := hf107 _ _ (.int .u64 (loW (rJ n m (j + 1)))) (r1) (rf1)
              replace r1 : w107.cell? ⟨B + 1, 1, none⟩ = some (.int .u64 (loW (rJ n m (j + 1)))) := hk107 _ _ _ (r1)
              (try clear ab); have ab : w.heap.size < w107.heap.size := World.block_lt_of_cell? w107 ⟨w.heap.size, 0, none⟩ a0
              (try clear bb); have bb : w.heap.size + 1 < w107.heap.size := World.block_lt_of_cell? w107 ⟨w.heap.size + 1, 0, none⟩ b0
              (try clear zb); have zb : w.heap.size + 1 + 1 < w107.heap.size := World.block_lt_of_cell? w107 ⟨w.heap.size + 1 + 1, 0, none⟩ z0
              (try clear yb); have yb : w.heap.size + 1 + 1 + 1 < w107.heap.size := World.block_lt_of_cell? w107 ⟨w.heap.size + 1 + 1 + 1, 0, none⟩ y0
              (try clear qb); have qb : B < w107.heap.size := World.block_lt_of_cell? w107 ⟨B, 0, none⟩ q0
              (try clear rb); have rb : B + 1 < w107.heap.size := World.block_lt_of_cell? w107 ⟨B + 1, 0, none⟩ r0
              clear hk107 hf107
              go_wp2_with fail
              refine useF w (bitN_any _ n _ _ hN hn (by omega)) (by go_grown) ?_; rintro e w108 rfl hB108 hk108 hf108 hs108; clear hs108
              replace a0 : w108.cell? ⟨w.heap.size, 0, none⟩ = some (.int .i64 (hiW N)) := hk108 _ _ _ (two_other a0 (by omega))
              replace a1 : w108.cell? ⟨w.heap.size, 1, none⟩ = some (.int .u64 (loW N)) := hk108 _ _ _ (two_other a1 (by omega))
              replace b0 : w108.cell? ⟨w.heap.size + 1, 0, none⟩ = some (.int .i64 (hiW M)) := hk108 _ _ _ (two_other b0 (by omega))
              replace b1 : w108.cell? ⟨w.heap.size + 1, 1, none⟩ = some (.int .u64 (loW M)) := hk108 _ _ _ (two_other b1 (by omega))
              replace zf0 : w108.frozen? ⟨w.heap.size + 1 + 1, 0, none⟩ = false := hf108 _ _ (.int .i64 0) (two_other z0 (by omega)) (two_fz zf0)
              replace z0 : w108.cell? ⟨w.heap.size + 1 + 1, 0, none⟩ = some (.int .i64 0) := hk108 _ _ _ (two_other z0 (by omega))
              replace zf1 : w108.frozen? ⟨w.heap.size + 1 + 1, 1, none⟩ = false := hf108 _ _ (.int .u64 0) (two_other z1 (by omega)) (two_fz zf1)
              replace z1 : w108.cell? ⟨w.heap.size + 1 + 1, 1, none⟩ = some (.int .u64 0) := hk108 _ _ _ (two_other z1 (by omega))
              replace yf0 : w108.frozen? ⟨w.heap.size + 1 + 1 + 1, 0, none⟩ = false := hf108 _ _ (.int .i64 0) (two_other y0 (by omega)) (two_fz yf0)
              replace y0 : w108.cell? ⟨w.heap.size + 1 + 1 + 1, 0, none⟩ = some (.int .i64 0) := hk108 _ _ _ (two_other y0 (by omega))
              replace yf1 : w108.frozen? ⟨w.heap.size + 1 + 1 + 1, 1, none⟩ = false := hf108 _ _ (.int .u64 0) (two_other y1 (by omega)) (two_fz yf1)
              replace y1 : w108.cell? ⟨w.heap.size + 1 + 1 + 1, 1, none⟩ = some (.int .u64 0) := hk108 _ _ _ (two_other y1 (by omega))
              replace qf0 : w108.frozen? ⟨B, 0, none⟩ = false := hf108 _ _ (.int .i64 (hiW (qJ n m (j + 1)))) (two_other q0 (by omega)) (two_fz qf0)
              replace q0 : w108.cell? ⟨B, 0, none⟩ = some (.int .i64 (hiW (qJ n m (j + 1)))) := hk108 _ _ _ (two_other q0 (by omega))
              replace qf1 : w108.frozen? ⟨B, 1, none⟩ = false := hf108 _ _ (.int .u64 (loW (qJ n m (j + 1)))) (two_other q1 (by omega)) (two_fz qf1)
              replace q1 : w108.cell? ⟨B, 1, none⟩ = some (.int .u64 (loW (qJ n m (j + 1)))) := hk108 _ _ _ (two_other q1 (by omega))
              replace rf0 : w108.frozen? ⟨B + 1, 0, none⟩ = false := hf108 _ _ (.int .i64 (hiW (rJ n m (j + 1) + rJ n m (j + 1)))) (two_0 r0) (two_fz rf0)
              replace r0 : w108.cell? ⟨B + 1, 0, none⟩ = some (.int .i64 (hiW (rJ n m (j + 1) + rJ n m (j + 1)))) := hk108 _ _ _ (two_0 r0)
              replace rf1 : w108.frozen? ⟨B + 1, 1, none⟩ = false := hf108 _ _ (.int .u64 (loW (rJ n m (j + 1) + rJ n m (j + 1)))) (two_1 r1) (two_fz rf1)
              replace r1 : w108.cell? ⟨B + 1, 1, none⟩ = some (.int .u64 (loW (rJ n m (j + 1) + rJ n m (j + 1)))) := hk108 _ _ _ (two_1 r1)
              (try clear ab); have ab : w.heap.size < w108.heap.size := World.block_lt_of_cell? w108 ⟨w.heap.size, 0, none⟩ a0
              (try clear bb); have bb : w.heap.size + 1 < w108.heap.size := World.block_lt_of_cell? w108 ⟨w.heap.size + 1, 0, none⟩ b0
              (try clear zb); have zb : w.heap.size + 1 + 1 < w108.heap.size := World.block_lt_of_cell? w108 ⟨w.heap.size + 1 + 1, 0, none⟩ z0
              (try clear yb); have yb : w.heap.size + 1 + 1 + 1 < w108.heap.size := World.block_lt_of_cell? w108 ⟨w.heap.size + 1 + 1 + 1, 0, none⟩ y0
              (try clear qb); have qb : B < w108.heap.size := World.block_lt_of_cell? w108 ⟨B, 0, none⟩ q0
              (try clear rb); have rb : B + 1 < w108.heap.size := World.block_lt_of_cell? w108 ⟨B + 1, 0, none⟩ r0
              clear hk108 hf108
              go_wp2_with fail
              refine useF w (plus_of (rJ n m (j + 1) + rJ n m (j + 1)) 1 _ ⟨rfl, rfl, rfl, rfl⟩) (by go_grown) ?_; rintro e w109 rfl hB109 hk109 hf109 hs109; clear hs109
              replace a0 : w109.cell? ⟨w.heap.size, 0, none⟩ = some (.int .i64 (hiW N)) := hk109 _ _ _ (a0)
              replace a1 : w109.cell? ⟨w.heap.size, 1, none⟩ = some (.int .u64 (loW N)) := hk109 _ _ _ (a1)
              replace b0 : w109.cell? ⟨w.heap.size + 1, 0, none⟩ = some (.int .i64 (hiW M)) := hk109 _ _ _ (b0)
              replace b1 : w109.cell? ⟨w.heap.size + 1, 1, none⟩ = some (.int .u64 (loW M)) := hk109 _ _ _ (b1)
              replace zf0 : w109.frozen? ⟨w.heap.size + 1 + 1, 0, none⟩ = false := hf109 _ _ (.int .i64 0) (z0) (zf0)
              replace z0 : w109.cell? ⟨w.heap.size + 1 + 1, 0, none⟩ = some (.int .i64 0) := hk109 _ _ _ (z0)
              replace zf1 : w109.frozen? ⟨w.heap.size + 1 + 1, 1, none⟩ = false := hf109 _ _ (.int .u64 0) (z1) (zf1)
              replace z1 : w109.cell? ⟨w.heap.size + 1 + 1, 1, none⟩ = some (.int .u64 0) := hk109 _ _ _ (z1)
              replace yf0 : w109.frozen? ⟨w.heap.size + 1 + 1 + 1, 0, none⟩ = false := hf109 _ _ (.int .i64 0) (y0) (yf0)
              replace y0 : w109.cell? ⟨w.heap.size + 1 + 1 + 1, 0, none⟩ = some (.int .i64 0) := hk109 _ _ _ (y0)
              replace yf1 : w109.frozen? ⟨w.heap.size + 1 + 1 + 1, 1, none⟩ = false := hf109 _ _ (.int .u64 0) (y1) (yf1)
              replace y1 : w109.cell? ⟨w.heap.size + 1 + 1 + 1, 1, none⟩ = some (.int .u64 0) := hk109 _ _ _ (y1)
              replace qf0 : w109.frozen? ⟨B, 0, none⟩ = false := hf109 _ _ (.int .i64 (hiW (qJ n m (j + 1)))) (q0) (qf0)
              replace q0 : w109.cell? ⟨B, 0, none⟩ = some (.int .i64 (hiW (qJ n m (j + 1)))) := hk109 _ _ _ (q0)
              replace qf1 : w109.frozen? ⟨B, 1, none⟩ = false := hf109 _ _ (.int .u64 (loW (qJ n m (j + 1)))) (q1) (qf1)
              replace q1 : w109.cell? ⟨B, 1, none⟩ = some (.int .u64 (loW (qJ n m (j + 1)))) := hk109 _ _ _ (q1)
              replace rf0 : w109.frozen? ⟨B + 1, 0, none⟩ = false := hf109 _ _ (.int .i64 (hiW (rJ n m (j + 1) + rJ n m (j + 1)))) (r0) (rf0)
              replace r0 : w109.cell? ⟨B + 1, 0, none⟩ = some (.int .i64 (hiW (rJ n m (j + 1) + rJ n m (j + 1)))) := hk109 _ _ _ (r0)
              replace rf1 : w109.frozen? ⟨B + 1, 1, none⟩ = false := hf109 _ _ (.int .u64 (loW (rJ n m (j + 1) + rJ n m (j + 1)))) (r1) (rf1)
              replace r1 : w109.cell? ⟨B + 1, 1, none⟩ = some (.int .u64 (loW (rJ n m (j + 1) + rJ n m (j + 1)))) := hk109 _ _ _ (r1)
              (try clear ab); have ab : w.heap.size < w109.heap.size := World.block_lt_of_cell? w109 ⟨w.heap.size, 0, none⟩ a0
              (try clear bb); have bb : w.heap.size + 1 < w109.heap.size := World.block_lt_of_cell? w109 ⟨w.heap.size + 1, 0, none⟩ b0
              (try clear zb); have zb : w.heap.size + 1 + 1 < w109.heap.size := World.block_lt_of_cell? w109 ⟨w.heap.size + 1 + 1, 0, none⟩ z0
              (try clear yb); have yb : w.heap.size + 1 + 1 + 1 < w109.heap.size := World.block_lt_of_cell? w109 ⟨w.heap.size + 1 + 1 + 1, 0, none⟩ y0
              (try clear qb); have qb : B < w109.heap.size := World.block_lt_of_cell? w109 ⟨B, 0, none⟩ q0
              (try clear rb); have rb : B + 1 < w109.heap.size := World.block_lt_of_cell? w109 ⟨B + 1, 0, none⟩ r0
              clear hk109 hf109
              go_wp2_with fail
              refine useF w (twice_any _ _) (by go_grown) ?_; rintro e w110 rfl hB110 hk110 hf110 hs110; clear hs110
              replace a0 : w110.cell? ⟨w.heap.size, 0, none⟩ = some (.int .i64 (hiW N)) := hk110 _ _ _ (two_other a0 (by omega))
              replace a1 : w110.cell? ⟨w.heap.size, 1, none⟩ = some (.int .u64 (loW N)) := hk110 _ _ _ (two_other a1 (by omega))
              replace b0 : w110.cell? ⟨w.heap.size + 1, 0, none⟩ = some (.int .i64 (hiW M)) := hk110 _ _ _ (two_other b0 (by omega))
              replace b1 : w110.cell? ⟨w.heap.size + 1, 1, none⟩ = some (.int .u64 (loW M)) := hk110 _ _ _ (two_other b1 (by omega))
              replace zf0 : w110.frozen? ⟨w.heap.size + 1 + 1, 0, none⟩ = false := hf110 _ _ (.int .i64 0) (two_other z0 (by omega)) (two_fz zf0)
              replace z0 : w110.cell? ⟨w.heap.size + 1 + 1, 0, none⟩ = some (.int .i64 0) := hk110 _ _ _ (two_other z0 (by omega))
              replace zf1 : w110.frozen? ⟨w.heap.size + 1 + 1, 1, none⟩ = false := hf110 _ _ (.int .u64 0) (two_other z1 (by omega)) (two_fz zf1)
              replace z1 : w110.cell? ⟨w.heap.size + 1 + 1, 1, none⟩ = some (.int .u64 0) := hk110 _ _ _ (two_other z1 (by omega))
              replace yf0 : w110.frozen? ⟨w.heap.size + 1 + 1 + 1, 0, none⟩ = false := hf110 _ _ (.int .i64 0) (two_other y0 (by omega)) (two_fz yf0)
              replace y0 : w110.cell? ⟨w.heap.size + 1 + 1 + 1, 0, none⟩ = some (.int .i64 0) := hk110 _ _ _ (two_other y0 (by omega))
              replace yf1 : w110.frozen? ⟨w.heap.size + 1 + 1 + 1, 1, none⟩ = false := hf110 _ _ (.int .u64 0) (two_other y1 (by omega)) (two_fz yf1)
              replace y1 : w110.cell? ⟨w.heap.size + 1 + 1 + 1, 1, none⟩ = some (.int .u64 0) := hk110 _ _ _ (two_other y1 (by omega))
              replace qf0 : w110.frozen? ⟨B, 0, none⟩ = false := hf110 _ _ (.int .i64 (hiW (qJ n m (j + 1)))) (two_other q0 (by omega)) (two_fz qf0)
              replace q0 : w110.cell? ⟨B, 0, none⟩ = some (.int .i64 (hiW (qJ n m (j + 1)))) := hk110 _ _ _ (two_other q0 (by omega))
              replace qf1 : w110.frozen? ⟨B, 1, none⟩ = false := hf110 _ _ (.int .u64 (loW (qJ n m (j + 1)))) (two_other q1 (by omega)) (two_fz qf1)
              replace q1 : w110.cell? ⟨B, 1, none⟩ = some (.int .u64 (loW (qJ n m (j + 1)))) := hk110 _ _ _ (two_other q1 (by omega))
              replace rf0 : w110.frozen? ⟨B + 1, 0, none⟩ = false := hf110 _ _ (.int .i64 (hiW (rJ n m (j + 1) + rJ n m (j + 1) + 1))) (two_0 r0) (two_fz rf0)
              replace r0 : w110.cell? ⟨B + 1, 0, none⟩ = some (.int .i64 (hiW (rJ n m (j + 1) + rJ n m (j + 1) + 1))) := hk110 _ _ _ (two_0 r0)
              replace rf1 : w110.frozen? ⟨B + 1, 1, none⟩ = false := hf110 _ _ (.int .u64 (loW (rJ n m (j + 1) + rJ n m (j + 1) + 1))) (two_1 r1) (two_fz rf1)
              replace r1 : w110.cell? ⟨B + 1, 1, none⟩ = some (.int .u64 (loW (rJ n m (j + 1) + rJ n m (j + 1) + 1))) := hk110 _ _ _ (two_1 r1)
              (try clear ab); have ab : w.heap.size < w110.heap.size := World.block_lt_of_cell? w110 ⟨w.heap.size, 0, none⟩ a0
              (try clear bb); have bb : w.heap.size + 1 < w110.heap.size := World.block_lt_of_cell? w110 ⟨w.heap.size + 1, 0, none⟩ b0
              (try clear zb); have zb : w.heap.size + 1 + 1 < w110.heap.size := World.block_lt_of_cell? w110 ⟨w.heap.size + 1 + 1, 0, none⟩ z0
              (try clear yb); have yb : w.heap.size + 1 + 1 + 1 < w110.heap.size := World.block_lt_of_cell? w110 ⟨w.heap.size + 1 + 1 + 1, 0, none⟩ y0
              (try clear qb); have qb : B < w110.heap.size := World.block_lt_of_cell? w110 ⟨B, 0, none⟩ q0
              (try clear rb); have rb : B + 1 < w110.heap.size := World.block_lt_of_cell? w110 ⟨B + 1, 0, none⟩ r0
              clear hk110 hf110
              go_wp2_with fail
              refine useF w (less_any _ _ _ hw.out) (by go_grown) ?_; rintro e w111 rfl hB111 hk111 hf111 hs111; clear hs111
              replace a0 : w111.cell? ⟨w.heap.size, 0, none⟩ = some (.int .i64 (hiW N)) := hk111 _ _ _ (two_other a0 (by omega))
              replace a1 : w111.cell? ⟨w.heap.size, 1, none⟩ = some (.int .u64 (loW N)) := hk111 _ _ _ (two_other a1 (by omega))
              replace b0 : w111.cell? ⟨w.heap.size + 1, 0, none⟩ = some (.int .i64 (hiW M)) := hk111 _ _ _ (two_other b0 (by omega))
              replace b1 : w111.cell? ⟨w.heap.size + 1, 1, none⟩ = some (.int .u64 (loW M)) := hk111 _ _ _ (two_other b1 (by omega))
              replace zf0 : w111.frozen? ⟨w.heap.size + 1 + 1, 0, none⟩ = false := hf111 _ _ (.int .i64 0) (two_other z0 (by omega)) (two_fz zf0)
              replace z0 : w111.cell? ⟨w.heap.size + 1 + 1, 0, none⟩ = some (.int .i64 0) := hk111 _ _ _ (two_other z0 (by omega))
              replace zf1 : w111.frozen? ⟨w.heap.size + 1 + 1, 1, none⟩ = false := hf111 _ _ (.int .u64 0) (two_other z1 (by omega)) (two_fz zf1)
              replace z1 : w111.cell? ⟨w.heap.size + 1 + 1, 1, none⟩ = some (.int .u64 0) := hk111 _ _ _ (two_other z1 (by omega))
              replace yf0 : w111.frozen? ⟨w.heap.size + 1 + 1 + 1, 0, none⟩ = false := hf111 _ _ (.int .i64 0) (two_other y0 (by omega)) (two_fz yf0)
              replace y0 : w111.cell? ⟨w.heap.size + 1 + 1 + 1, 0, none⟩ = some (.int .i64 0) := hk111 _ _ _ (two_other y0 (by omega))
              replace yf1 : w111.frozen? ⟨w.heap.size + 1 + 1 + 1, 1, none⟩ = false := hf111 _ _ (.int .u64 0) (two_other y1 (by omega)) (two_fz yf1)
              replace y1 : w111.cell? ⟨w.heap.size + 1 + 1 + 1, 1, none⟩ = some (.int .u64 0) := hk111 _ _ _ (two_other y1 (by omega))
              replace qf0 : w111.frozen? ⟨B, 0, none⟩ = false := hf111 _ _ (.int .i64 (hiW (qJ n m (j + 1) + qJ n m (j + 1)))) (two_0 q0) (two_fz qf0)
              replace q0 : w111.cell? ⟨B, 0, none⟩ = some (.int .i64 (hiW (qJ n m (j + 1) + qJ n m (j + 1)))) := hk111 _ _ _ (two_0 q0)
              replace qf1 : w111.frozen? ⟨B, 1, none⟩ = false := hf111 _ _ (.int .u64 (loW (qJ n m (j + 1) + qJ n m (j + 1)))) (two_1 q1) (two_fz qf1)
              replace q1 : w111.cell? ⟨B, 1, none⟩ = some (.int .u64 (loW (qJ n m (j + 1) + qJ n m (j + 1)))) := hk111 _ _ _ (two_1 q1)
              replace rf0 : w111.frozen? ⟨B + 1, 0, none⟩ = false := hf111 _ _ (.int .i64 (hiW (rJ n m (j + 1) + rJ n m (j + 1) + 1))) (two_other r0 (by omega)) (two_fz rf0)
              replace r0 : w111.cell? ⟨B + 1, 0, none⟩ = some (.int .i64 (hiW (rJ n m (j + 1) + rJ n m (j + 1) + 1))) := hk111 _ _ _ (two_other r0 (by omega))
              replace rf1 : w111.frozen? ⟨B + 1, 1, none⟩ = false := hf111 _ _ (.int .u64 (loW (rJ n m (j + 1) + rJ n m (j + 1) + 1))) (two_other r1 (by omega)) (two_fz rf1)
              replace r1 : w111.cell? ⟨B + 1, 1, none⟩ = some (.int .u64 (loW (rJ n m (j + 1) + rJ n m (j + 1) + 1))) := hk111 _ _ _ (two_other r1 (by omega))
              (try clear ab); have ab : w.heap.size < w111.heap.size := World.block_lt_of_cell? w111 ⟨w.heap.size, 0, none⟩ a0
              (try clear bb); have bb : w.heap.size + 1 < w111.heap.size := World.block_lt_of_cell? w111 ⟨w.heap.size + 1, 0, none⟩ b0
              (try clear zb); have zb : w.heap.size + 1 + 1 < w111.heap.size := World.block_lt_of_cell? w111 ⟨w.heap.size + 1 + 1, 0, none⟩ z0
              (try clear yb); have yb : w.heap.size + 1 + 1 + 1 < w111.heap.size := World.block_lt_of_cell? w111 ⟨w.heap.size + 1 + 1 + 1, 0, none⟩ y0
              (try clear qb); have qb : B < w111.heap.size := World.block_lt_of_cell? w111 ⟨B, 0, none⟩ q0
              (try clear rb); have rb : B + 1 < w111.heap.size := World.block_lt_of_cell? w111 ⟨B + 1, 0, none⟩ r0
              clear hk111 hf111
              go_wp2_with fail
              go_roundw
              case rel => exact ⟨j, rfl, by omega, ⟨a0, a1, b0, b1, z0, z1, zf0, zf1, y0, y1, yf0, yf1⟩, by rw [hq.out, hr.out]; exact ⟨q0, q1, qf0, qf1, r0, r1, rf0, rf1⟩, by assumption⟩
              case measure => first | (simp [intOf]; done) | (simp [intOf]; omega)
            · have hq := hid (s2 hd).2
              have hr := hid (s2 hd).1
              have hdd : decide (rJ n m (j + 1) + rJ n m (j + 1) + 1 < M) = false := decide_eq_false hd
              clear s1 s2 hd
              go_wp2_with fail
              refine useF w (twice_any _ _) (by go_grown) ?_; rintro e w102 rfl hB102 hk102 hf102 hs102; clear hs102
              replace a0 : w102.cell? ⟨w.heap.size, 0, none⟩ = some (.int .i64 (hiW N)) := hk102 _ _ _ (a0)
              replace a1 : w102.cell? ⟨w.heap.size, 1, none⟩ = some (.int .u64 (loW N)) := hk102 _ _ _ (a1)
              replace b0 : w102.cell? ⟨w.heap.size + 1, 0, none⟩ = some (.int .i64 (hiW M)) := hk102 _ _ _ (b0)
              replace b1 : w102.cell? ⟨w.heap.size + 1, 1, none⟩ = some (.int .u64 (loW M)) := hk102 _ _ _ (b1)
              replace zf0 : w102.frozen? ⟨w.heap.size + 1 + 1, 0, none⟩ = false := hf102 _ _ (.int .i64 0) (z0) (zf0)
              replace z0 : w102.cell? ⟨w.heap.size + 1 + 1, 0, none⟩ = some (.int .i64 0) := hk102 _ _ _ (z0)
              replace zf1 : w102.frozen? ⟨w.heap.size + 1 + 1, 1, none⟩ = false := hf102 _ _ (.int .u64 0) (z1) (zf1)
              replace z1 : w102.cell? ⟨w.heap.size + 1 + 1, 1, none⟩ = some (.int .u64 0) := hk102 _ _ _ (z1)
              replace yf0 : w102.frozen? ⟨w.heap.size + 1 + 1 + 1, 0, none⟩ = false := hf102 _ _ (.int .i64 0) (y0) (yf0)
              replace y0 : w102.cell? ⟨w.heap.size + 1 + 1 + 1, 0, none⟩ = some (.int .i64 0) := hk102 _ _ _ (y0)
              replace yf1 : w102.frozen? ⟨w.heap.size + 1 + 1 + 1, 1, none⟩ = false := hf102 _ _ (.int .u64 0) (y1) (yf1)
              replace y1 : w102.cell? ⟨w.heap.size + 1 + 1 + 1, 1, none⟩ = some (.int .u64 0) := hk102 _ _ _ (y1)
              replace qf0 : w102.frozen? ⟨B, 0, none⟩ = false := hf102 _ _ (.int .i64 (hiW (qJ n m (j + 1)))) (q0) (qf0)
              replace q0 : w102.cell? ⟨B, 0, none⟩ = some (.int .i64 (hiW (qJ n m (j + 1)))) := hk102 _ _ _ (q0)
              replace qf1 : w102.frozen? ⟨B, 1, none⟩ = false := hf102 _ _ (.int .u64 (loW (qJ n m (j + 1)))) (q1) (qf1)
              replace q1 : w102.cell? ⟨B, 1, none⟩ = some (.int .u64 (loW (qJ n m (j + 1)))) := hk102 _ _ _ (q1)
              replace rf0 : w102.frozen? ⟨B + 1, 0, none⟩ = false := hf102 _ _ (.int .i64 (hiW (rJ n m (j + 1)))) (r0) (rf0)
              replace r0 : w102.cell? ⟨B + 1, 0, none⟩ = some (.int .i64 (hiW (rJ n m (j + 1)))) := hk102 _ _ _ (r0)
              replace rf1 : w102.frozen? ⟨B + 1, 1, none⟩ = false := hf102 _ _ (.int .u64 (loW (rJ n m (j + 1)))) (r1) (rf1)
              replace r1 : w102.cell? ⟨B + 1, 1, none⟩ = some (.int .u64 (loW (rJ n m (j + 1)))) := hk102 _ _ _ (r1)
              (try clear ab); have ab : w.heap.size < w102.heap.size := World.block_lt_of_cell? w102 ⟨w.heap.size, 0, none⟩ a0
              (try clear bb); have bb : w.heap.size + 1 < w102.heap.size := World.block_lt_of_cell? w102 ⟨w.heap.size + 1, 0, none⟩ b0
              (try clear zb); have zb : w.heap.size + 1 + 1 < w102.heap.size := World.block_lt_of_cell? w102 ⟨w.heap.size + 1 + 1, 0, none⟩ z0
              (try clear yb); have yb : w.heap.size + 1 + 1 + 1 < w102.heap.size := World.block_lt_of_cell? w102 ⟨w.heap.size + 1 + 1 + 1, 0, none⟩ y0
              (try clear qb); have qb : B < w102.heap.size := World.block_lt_of_cell? w102 ⟨B, 0, none⟩ q0
              (try clear rb); have rb : B + 1 < w102.heap.size := World.block_lt_of_cell? w102 ⟨B + 1, 0, none⟩ r0
              clear hk102 hf102
              go_wp2_with fail
              refine useF w (bitN_any _ n _ _ hN hn (by omega)) (by go_grown) ?_; rintro e w103 rfl hB103 hk103 hf103 hs103; clear hs103
              replace a0 : w103.cell? ⟨w.heap.size, 0, none⟩ = some (.int .i64 (hiW N)) := hk103 _ _ _ (two_other a0 (by omega))
              replace a1 : w103.cell? ⟨w.heap.size, 1, none⟩ = some (.int .u64 (loW N)) := hk103 _ _ _ (two_other a1 (by omega))
              replace b0 : w103.cell? ⟨w.heap.size + 1, 0, none⟩ = some (.int .i64 (hiW M)) := hk103 _ _ _ (two_other b0 (by omega))
              replace b1 : w103.cell? ⟨w.heap.size + 1, 1, none⟩ = some (.int .u64 (loW M)) := hk103 _ _ _ (two_other b1 (by omega))
              replace zf0 : w103.frozen? ⟨w.heap.size + 1 + 1, 0, none⟩ = false := hf103 _ _ (.int .i64 0) (two_other z0 (by omega)) (two_fz zf0)
              replace z0 : w103.cell? ⟨w.heap.size + 1 + 1, 0, none⟩ = some (.int .i64 0) := hk103 _ _ _ (two_other z0 (by omega))
              replace zf1 : w103.frozen? ⟨w.heap.size + 1 + 1, 1, none⟩ = false := hf103 _ _ (.int .u64 0) (two_other z1 (by omega)) (two_fz zf1)
              replace z1 : w103.cell? ⟨w.heap.size + 1 + 1, 1, none⟩ = some (.int .u64 0) := hk103 _ _ _ (two_other z1 (by omega))
              replace yf0 : w103.frozen? ⟨w.heap.size + 1 + 1 + 1, 0, none⟩ = false := hf103 _ _ (.int .i64 0) (two_other y0 (by omega)) (two_fz yf0)
              replace y0 : w103.cell? ⟨w.heap.size + 1 + 1 + 1, 0, none⟩ = some (.int .i64 0) := hk103 _ _ _ (two_other y0 (by omega))
              replace yf1 : w103.frozen? ⟨w.heap.size + 1 + 1 + 1, 1, none⟩ = false := hf103 _ _ (.int .u64 0) (two_other y1 (by omega)) (two_fz yf1)
              replace y1 : w103.cell? ⟨w.heap.size + 1 + 1 + 1, 1, none⟩ = some (.int .u64 0) := hk103 _ _ _ (two_other y1 (by omega))
              replace qf0 : w103.frozen? ⟨B, 0, none⟩ = false := hf103 _ _ (.int .i64 (hiW (qJ n m (j + 1)))) (two_other q0 (by omega)) (two_fz qf0)
              replace q0 : w103.cell? ⟨B, 0, none⟩ = some (.int .i64 (hiW (qJ n m (j + 1)))) := hk103 _ _ _ (two_other q0 (by omega))
              replace qf1 : w103.frozen? ⟨B, 1, none⟩ = false := hf103 _ _ (.int .u64 (loW (qJ n m (j + 1)))) (two_other q1 (by omega)) (two_fz qf1)
              replace q1 : w103.cell? ⟨B, 1, none⟩ = some (.int .u64 (loW (qJ n m (j + 1)))) := hk103 _ _ _ (two_other q1 (by omega))
              replace rf0 : w103.frozen? ⟨B + 1, 0, none⟩ = false := hf103 _ _ (.int .i64 (hiW (rJ n m (j + 1) + rJ n m (j + 1)))) (two_0 r0) (two_fz rf0)
              replace r0 : w103.cell? ⟨B + 1, 0, none⟩ = some (.int .i64 (hiW (rJ n m (j + 1) + rJ n m (j + 1)))) := hk103 _ _ _ (two_0 r0)
              replace rf1 : w103.frozen? ⟨B + 1, 1, none⟩ = false := hf103 _ _ (.int .u64 (loW (rJ n m (j + 1) + rJ n m (j + 1)))) (two_1 r1) (two_fz rf1)
              replace r1 : w103.cell? ⟨B + 1, 1, none⟩ = some (.int .u64 (loW (rJ n m (j + 1) + rJ n m (j + 1)))) := hk103 _ _ _ (two_1 r1)
              (try clear ab); have ab : w.heap.size < w103.heap.size := World.block_lt_of_cell? w103 ⟨w.heap.size, 0, none⟩ a0
              (try clear bb); have bb : w.heap.size + 1 < w103.heap.size := World.block_lt_of_cell? w103 ⟨w.heap.size + 1, 0, none⟩ b0
              (try clear zb); have zb : w.heap.size + 1 + 1 < w103.heap.size := World.block_lt_of_cell? w103 ⟨w.heap.size + 1 + 1, 0, none⟩ z0
              (try clear yb); have yb : w.heap.size + 1 + 1 + 1 < w103.heap.size := World.block_lt_of_cell? w103 ⟨w.heap.size + 1 + 1 + 1, 0, none⟩ y0
              (try clear qb); have qb : B < w103.heap.size := World.block_lt_of_cell? w103 ⟨B, 0, none⟩ q0
              (try clear rb); have rb : B + 1 < w103.heap.size := World.block_lt_of_cell? w103 ⟨B + 1, 0, none⟩ r0
              clear hk103 hf103
              go_wp2_with fail
              refine useF w (plus_of (rJ n m (j + 1) + rJ n m (j + 1)) 1 _ ⟨rfl, rfl, rfl, rfl⟩) (by go_grown) ?_; rintro e w104 rfl hB104 hk104 hf104 hs104; clear hs104
              replace a0 : w104.cell? ⟨w.heap.size, 0, none⟩ = some (.int .i64 (hiW N)) := hk104 _ _ _ (a0)
              replace a1 : w104.cell? ⟨w.heap.size, 1, none⟩ = some (.int .u64 (loW N)) := hk104 _ _ _ (a1)
              replace b0 : w104.cell? ⟨w.heap.size + 1, 0, none⟩ = some (.int .i64 (hiW M)) := hk104 _ _ _ (b0)
              replace b1 : w104.cell? ⟨w.heap.size + 1, 1, none⟩ = some (.int .u64 (loW M)) := hk104 _ _ _ (b1)
              replace zf0 : w104.frozen? ⟨w.heap.size + 1 + 1, 0, none⟩ = false := hf104 _ _ (.int .i64 0) (z0) (zf0)
              replace z0 : w104.cell? ⟨w.heap.size + 1 + 1, 0, none⟩ = some (.int .i64 0) := hk104 _ _ _ (z0)
              replace zf1 : w104.frozen? ⟨w.heap.size + 1 + 1, 1, none⟩ = false := hf104 _ _ (.int .u64 0) (z1) (zf1)
              replace z1 : w104.cell? ⟨w.heap.size + 1 + 1, 1, none⟩ = some (.int .u64 0) := hk104 _ _ _ (z1)
              replace yf0 : w104.frozen? ⟨w.heap.size + 1 + 1 + 1, 0, none⟩ = false := hf104 _ _ (.int .i64 0) (y0) (yf0)
              replace y0 : w104.cell? ⟨w.heap.size + 1 + 1 + 1, 0, none⟩ = some (.int .i64 0) := hk104 _ _ _ (y0)
              replace yf1 : w104.frozen? ⟨w.heap.size + 1 + 1 + 1, 1, none⟩ = false := hf104 _ _ (.int .u64 0) (y1) (yf1)
              replace y1 : w104.cell? ⟨w.heap.size + 1 + 1 + 1, 1, none⟩ = some (.int .u64 0) := hk104 _ _ _ (y1)
              replace qf0 : w104.frozen? ⟨B, 0, none⟩ = false := hf104 _ _ (.int .i64 (hiW (qJ n m (j + 1)))) (q0) (qf0)
              replace q0 : w104.cell? ⟨B, 0, none⟩ = some (.int .i64 (hiW (qJ n m (j + 1)))) := hk104 _ _ _ (q0)
              replace qf1 : w104.frozen? ⟨B, 1, none⟩ = false := hf104 _ _ (.int .u64 (loW (qJ n m (j + 1)))) (q1) (qf1)
              replace q1 : w104.cell? ⟨B, 1, none⟩ = some (.int .u64 (loW (qJ n m (j + 1)))) := hk104 _ _ _ (q1)
              replace rf0 : w104.frozen? ⟨B + 1, 0, none⟩ = false := hf104 _ _ (.int .i64 (hiW (rJ n m (j + 1) + rJ n m (j + 1)))) (r0) (rf0)
              replace r0 : w104.cell? ⟨B + 1, 0, none⟩ = some (.int .i64 (hiW (rJ n m (j + 1) + rJ n m (j + 1)))) := hk104 _ _ _ (r0)
              replace rf1 : w104.frozen? ⟨B + 1, 1, none⟩ = false := hf104 _ _ (.int .u64 (loW (rJ n m (j + 1) + rJ n m (j + 1)))) (r1) (rf1)
              replace r1 : w104.cell? ⟨B + 1, 1, none⟩ = some (.int .u64 (loW (rJ n m (j + 1) + rJ n m (j + 1)))) := hk104 _ _ _ (r1)
              (try clear ab); have ab : w.heap.size < w104.heap.size := World.block_lt_of_cell? w104 ⟨w.heap.size, 0, none⟩ a0
              (try clear bb); have bb : w.heap.size + 1 < w104.heap.size := World.block_lt_of_cell? w104 ⟨w.heap.size + 1, 0, none⟩ b0
              (try clear zb); have zb : w.heap.size + 1 + 1 < w104.heap.size := World.block_lt_of_cell? w104 ⟨w.heap.size + 1 + 1, 0, none⟩ z0
              (try clear yb); have yb : w.heap.size + 1 + 1 + 1 < w104.heap.size := World.block_lt_of_cell? w104 ⟨w.heap.size + 1 + 1 + 1, 0, none⟩ y0
              (try clear qb); have qb : B < w104.heap.size := World.block_lt_of_cell? w104 ⟨B, 0, none⟩ q0
              (try clear rb); have rb : B + 1 < w104.heap.size := World.block_lt_of_cell? w104 ⟨B + 1, 0, none⟩ r0
              clear hk104 hf104
              go_wp2_with fail
              refine useF w (twice_any _ _) (by go_grown) ?_; rintro e w105 rfl hB105 hk105 hf105 hs105; clear hs105
              replace a0 : w105.cell? ⟨w.heap.size, 0, none⟩ = some (.int .i64 (hiW N)) := hk105 _ _ _ (two_other a0 (by omega))
              replace a1 : w105.cell? ⟨w.heap.size, 1, none⟩ = some (.int .u64 (loW N)) := hk105 _ _ _ (two_other a1 (by omega))
              replace b0 : w105.cell? ⟨w.heap.size + 1, 0, none⟩ = some (.int .i64 (hiW M)) := hk105 _ _ _ (two_other b0 (by omega))
              replace b1 : w105.cell? ⟨w.heap.size + 1, 1, none⟩ = some (.int .u64 (loW M)) := hk105 _ _ _ (two_other b1 (by omega))
              replace zf0 : w105.frozen? ⟨w.heap.size + 1 + 1, 0, none⟩ = false := hf105 _ _ (.int .i64 0) (two_other z0 (by omega)) (two_fz zf0)
              replace z0 : w105.cell? ⟨w.heap.size + 1 + 1, 0, none⟩ = some (.int .i64 0) := hk105 _ _ _ (two_other z0 (by omega))
              replace zf1 : w105.frozen? ⟨w.heap.size + 1 + 1, 1, none⟩ = false := hf105 _ _ (.int .u64 0) (two_other z1 (by omega)) (two_fz zf1)
              replace z1 : w105.cell? ⟨w.heap.size + 1 + 1, 1, none⟩ = some (.int .u64 0) := hk105 _ _ _ (two_other z1 (by omega))
              replace yf0 : w105.frozen? ⟨w.heap.size + 1 + 1 + 1, 0, none⟩ = false := hf105 _ _ (.int .i64 0) (two_other y0 (by omega)) (two_fz yf0)
              replace y0 : w105.cell? ⟨w.heap.size + 1 + 1 + 1, 0, none⟩ = some (.int .i64 0) := hk105 _ _ _ (two_other y0 (by omega))
              replace yf1 : w105.frozen? ⟨w.heap.size + 1 + 1 + 1, 1, none⟩ = false := hf105 _ _ (.int .u64 0) (two_other y1 (by omega)) (two_fz yf1)
              replace y1 : w105.cell? ⟨w.heap.size + 1 + 1 + 1, 1, none⟩ = some (.int .u64 0) := hk105 _ _ _ (two_other y1 (by omega))
              replace qf0 : w105.frozen? ⟨B, 0, none⟩ = false := hf105 _ _ (.int .i64 (hiW (qJ n m (j + 1)))) (two_other q0 (by omega)) (two_fz qf0)
              replace q0 : w105.cell? ⟨B, 0, none⟩ = some (.int .i64 (hiW (qJ n m (j + 1)))) := hk105 _ _ _ (two_other q0 (by omega))
              replace qf1 : w105.frozen? ⟨B, 1, none⟩ = false := hf105 _ _ (.int .u64 (loW (qJ n m (j + 1)))) (two_other q1 (by omega)) (two_fz qf1)
              replace q1 : w105.cell? ⟨B, 1, none⟩ = some (.int .u64 (loW (qJ n m (j + 1)))) := hk105 _ _ _ (two_other q1 (by omega))
              replace rf0 : w105.frozen? ⟨B + 1, 0, none⟩ = false := hf105 _ _ (.int .i64 (hiW (rJ n m (j + 1) + rJ n m (j + 1) + 1))) (two_0 r0) (two_fz rf0)
              replace r0 : w105.cell? ⟨B + 1, 0, none⟩ = some (.int .i64 (hiW (rJ n m (j + 1) + rJ n m (j + 1) + 1))) := hk105 _ _ _ (two_0 r0)
              replace rf1 : w105.frozen? ⟨B + 1, 1, none⟩ = false := hf105 _ _ (.int .u64 (loW (rJ n m (j + 1) + rJ n m (j + 1) + 1))) (two_1 r1) (two_fz rf1)
              replace r1 : w105.cell? ⟨B + 1, 1, none⟩ = some (.int .u64 (loW (rJ n m (j + 1) + rJ n m (j + 1) + 1))) := hk105 _ _ _ (two_1 r1)
              (try clear ab); have ab : w.heap.size < w105.heap.size := World.block_lt_of_cell? w105 ⟨w.heap.size, 0, none⟩ a0
              (try clear bb); have bb : w.heap.size + 1 < w105.heap.size := World.block_lt_of_cell? w105 ⟨w.heap.size + 1, 0, none⟩ b0
              (try clear zb); have zb : w.heap.size + 1 + 1 < w105.heap.size := World.block_lt_of_cell? w105 ⟨w.heap.size + 1 + 1, 0, none⟩ z0
              (try clear yb); have yb : w.heap.size + 1 + 1 + 1 < w105.heap.size := World.block_lt_of_cell? w105 ⟨w.heap.size + 1 + 1 + 1, 0, none⟩ y0
              (try clear qb); have qb : B < w105.heap.size := World.block_lt_of_cell? w105 ⟨B, 0, none⟩ q0
              (try clear rb); have rb : B + 1 < w105.heap.size := World.block_lt_of_cell? w105 ⟨B + 1, 0, none⟩ r0
              clear hk105 hf105
              go_wp2_with fail
              refine useF w (less_any _ _ _ hw.out) (by go_grown) ?_; rintro e w106 rfl hB106 hk106 hf106 hs106; clear hs106
              replace a0 : w106.cell? ⟨w.heap.size, 0, none⟩ = some (.int .i64 (hiW N)) := hk106 _ _ _ (two_other a0 (by omega))
              replace a1 : w106.cell? ⟨w.heap.size, 1, none⟩ = some (.int .u64 (loW N)) := hk106 _ _ _ (two_other a1 (by omega))
              replace b0 : w106.cell? ⟨w.heap.size + 1, 0, none⟩ = some (.int .i64 (hiW M)) := hk106 _ _ _ (two_other b0 (by omega))
              replace b1 : w106.cell? ⟨w.heap.size + 1, 1, none⟩ = some (.int .u64 (loW M)) := hk106 _ _ _ (two_other b1 (by omega))
              replace zf0 : w106.frozen? ⟨w.heap.size + 1 + 1, 0, none⟩ = false := hf106 _ _ (.int .i64 0) (two_other z0 (by omega)) (two_fz zf0)
              replace z0 : w106.cell? ⟨w.heap.size + 1 + 1, 0, none⟩ = some (.int .i64 0) := hk106 _ _ _ (two_other z0 (by omega))
              replace zf1 : w106.frozen? ⟨w.heap.size + 1 + 1, 1, none⟩ = false := hf106 _ _ (.int .u64 0) (two_other z1 (by omega)) (two_fz zf1)
              replace z1 : w106.cell? ⟨w.heap.size + 1 + 1, 1, none⟩ = some (.int .u64 0) := hk106 _ _ _ (two_other z1 (by omega))
              replace yf0 : w106.frozen? ⟨w.heap.size + 1 + 1 + 1, 0, none⟩ = false := hf106 _ _ (.int .i64 0) (two_other y0 (by omega)) (two_fz yf0)
              replace y0 : w106.cell? ⟨w.heap.size + 1 + 1 + 1, 0, none⟩ = some (.int .i64 0) := hk106 _ _ _ (two_other y0 (by omega))
              replace yf1 : w106.frozen? ⟨w.heap.size + 1 + 1 + 1, 1, none⟩ = false := hf106 _ _ (.int .u64 0) (two_other y1 (by omega)) (two_fz yf1)
              replace y1 : w106.cell? ⟨w.heap.size + 1 + 1 + 1, 1, none⟩ = some (.int .u64 0) := hk106 _ _ _ (two_other y1 (by omega))
              replace qf0 : w106.frozen? ⟨B, 0, none⟩ = false := hf106 _ _ (.int .i64 (hiW (qJ n m (j + 1) + qJ n m (j + 1)))) (two_0 q0) (two_fz qf0)
              replace q0 : w106.cell? ⟨B, 0, none⟩ = some (.int .i64 (hiW (qJ n m (j + 1) + qJ n m (j + 1)))) := hk106 _ _ _ (two_0 q0)
              replace qf1 : w106.frozen? ⟨B, 1, none⟩ = false := hf106 _ _ (.int .u64 (loW (qJ n m (j + 1) + qJ n m (j + 1)))) (two_1 q1) (two_fz qf1)
              replace q1 : w106.cell? ⟨B, 1, none⟩ = some (.int .u64 (loW (qJ n m (j + 1) + qJ n m (j + 1)))) := hk106 _ _ _ (two_1 q1)
              replace rf0 : w106.frozen? ⟨B + 1, 0, none⟩ = false := hf106 _ _ (.int .i64 (hiW (rJ n m (j + 1) + rJ n m (j + 1) + 1))) (two_other r0 (by omega)) (two_fz rf0)
              replace r0 : w106.cell? ⟨B + 1, 0, none⟩ = some (.int .i64 (hiW (rJ n m (j + 1) + rJ n m (j + 1) + 1))) := hk106 _ _ _ (two_other r0 (by omega))
              replace rf1 : w106.frozen? ⟨B + 1, 1, none⟩ = false := hf106 _ _ (.int .u64 (loW (rJ n m (j + 1) + rJ n m (j + 1) + 1))) (two_other r1 (by omega)) (two_fz rf1)
              replace r1 : w106.cell? ⟨B + 1, 1, none⟩ = some (.int .u64 (loW (rJ n m (j + 1) + rJ n m (j + 1) + 1))) := hk106 _ _ _ (two_other r1 (by omega))
              (try clear ab); have ab : w.heap.size < w106.heap.size := World.block_lt_of_cell? w106 ⟨w.heap.size, 0, none⟩ a0
              (try clear bb); have bb : w.heap.size + 1 < w106.heap.size := World.block_lt_of_cell? w106 ⟨w.heap.size + 1, 0, none⟩ b0
              (try clear zb); have zb : w.heap.size + 1 + 1 < w106.heap.size := World.block_lt_of_cell? w106 ⟨w.heap.size + 1 + 1, 0, none⟩ z0
              (try clear yb); have yb : w.heap.size + 1 + 1 + 1 < w106.heap.size := World.block_lt_of_cell? w106 ⟨w.heap.size + 1 + 1 + 1, 0, none⟩ y0
              (try clear qb); have qb : B < w106.heap.size := World.block_lt_of_cell? w106 ⟨B, 0, none⟩ q0
              (try clear rb); have rb : B + 1 < w106.heap.size := World.block_lt_of_cell? w106 ⟨B + 1, 0, none⟩ r0
              clear hk106 hf106
              go_wp2_with fail
              go_cut [] (fun wx => D4 w wx N M ∧ D2 B wx (qJ n m (j + 1) + qJ n m (j + 1)) (rJ n m (j + 1) + rJ n m (j + 1) + 1 + -M) ∧ Below w.heap.size w wx)
              case first =>
                go_region_with (first | (go_at_call 96; refine useF w (minus_any _ _) (by go_grown) ?_; rintro e w1 rfl hB1 hk1 hf1 hs1; have a0 := hk1 _ _ _ a0; have a1 := hk1 _ _ _ a1; have ab := World.block_lt_of_cell? _ _ a0; have b0 := hk1 _ _ _ b0; have b1 := hk1 _ _ _ b1; have bb := World.block_lt_of_cell? _ _ b0; have zf0 := hf1 _ _ _ z0 zf0; have z0 := hk1 _ _ _ z0; have zf1 := hf1 _ _ _ z1 zf1; have z1 := hk1 _ _ _ z1; have zb := World.block_lt_of_cell? _ _ z0; have yf0 := hf1 _ _ _ y0 yf0; have y0 := hk1 _ _ _ y0; have yf1 := hf1 _ _ _ y1 yf1; have y1 := hk1 _ _ _ y1; have yb := World.block_lt_of_cell? _ _ y0; have qf0 := hf1 _ _ _ q0 qf0; have q0 := hk1 _ _ _ q0; have qf1 := hf1 _ _ _ q1 qf1; have q1 := hk1 _ _ _ q1; have qb := World.block_lt_of_cell? _ _ q0; have rf0 := hf1 _ _ _ r0 rf0; have r0 := hk1 _ _ _ r0; have rf1 := hf1 _ _ _ r1 rf1; have r1 := hk1 _ _ _ r1; have rb := World.block_lt_of_cell? _ _ r0; clear hk1 hf1) | (go_at_call 85; refine useF w (plus_any _ _ _) (by go_grown) ?_; rintro e w1 rfl hB1 hk1 hf1 hs1; have a0 := hk1 _ _ _ a0; have a1 := hk1 _ _ _ a1; have ab := World.block_lt_of_cell? _ _ a0; have b0 := hk1 _ _ _ b0; have b1 := hk1 _ _ _ b1; have bb := World.block_lt_of_cell? _ _ b0; have zf0 := hf1 _ _ _ z0 zf0; have z0 := hk1 _ _ _ z0; have zf1 := hf1 _ _ _ z1 zf1; have z1 := hk1 _ _ _ z1; have zb := World.block_lt_of_cell? _ _ z0; have yf0 := hf1 _ _ _ y0 yf0; have y0 := hk1 _ _ _ y0; have yf1 := hf1 _ _ _ y1 yf1; have y1 := hk1 _ _ _ y1; have yb := World.block_lt_of_cell? _ _ y0; have qf0 := hf1 _ _ _ q0 qf0; have q0 := hk1 _ _ _ q0; have qf1 := hf1 _ _ _ q1 qf1; have q1 := hk1 _ _ _ q1; have qb := World.block_lt_of_cell? _ _ q0; have rf0 := hf1 _ _ _ r0 rf0; have r0 := hk1 _ _ _ r0; have rf1 := hf1 _ _ _ r1 rf1; have r1 := hk1 _ _ _ r1; have rb := World.block_lt_of_cell? _ _ r0; clear hk1 hf1))
                all_goals (go_wp2_with fail)
                all_goals go_meet
                all_goals exact ⟨⟨two_other a0 (by omega), two_other a1 (by omega), two_other b0 (by omega), two_other b1 (by omega), two_other z0 (by omega), two_other z1 (by omega), two_fz zf0, two_fz zf1, two_other y0 (by omega), two_other y1 (by omega), two_fz yf0, two_fz yf1⟩, ⟨two_other q0 (by omega), two_other q1 (by omega), two_fz qf0, two_fz qf1, two_0 r0, two_1 r1, two_fz rf0, two_fz rf1⟩, by go_grown⟩
              case rest =>
                obtain ⟨h4, h2, hB⟩ := hcut
                obtain ⟨a0, a1, b0, b1, z0, z1, zf0, zf1, y0, y1, yf0, yf1⟩ := h4
                obtain ⟨q0, q1, qf0, qf1, r0, r1, rf0, rf1⟩ := h2
                go_wp2_with fail
                refine useF w (plus_of (qJ n m (j + 1) + qJ n m (j + 1)) 1 _ ⟨rfl, rfl, rfl, rfl⟩) (by go_grown) ?_; rintro e w101 rfl hB101 hk101 hf101 hs101; clear hs101
                replace a0 : w101.cell? ⟨w.heap.size, 0, none⟩ = some (.int .i64 (hiW N)) := hk101 _ _ _ (a0)
                replace a1 : w101.cell? ⟨w.heap.size, 1, none⟩ = some (.int .u64 (loW N)) := hk101 _ _ _ (a1)
                replace b0 : w101.cell? ⟨w.heap.size + 1, 0, none⟩ = some (.int .i64 (hiW M)) := hk101 _ _ _ (b0)
                replace b1 : w101.cell? ⟨w.heap.size + 1, 1, none⟩ = some (.int .u64 (loW M)) := hk101 _ _ _ (b1)
                replace zf0 : w101.frozen? ⟨w.heap.size + 1 + 1, 0, none⟩ = false := hf101 _ _ (.int .i64 0) (z0) (zf0)
                replace z0 : w101.cell? ⟨w.heap.size + 1 + 1, 0, none⟩ = some (.int .i64 0) := hk101 _ _ _ (z0)
                replace zf1 : w101.frozen? ⟨w.heap.size + 1 + 1, 1, none⟩ = false := hf101 _ _ (.int .u64 0) (z1) (zf1)
                replace z1 : w101.cell? ⟨w.heap.size + 1 + 1, 1, none⟩ = some (.int .u64 0) := hk101 _ _ _ (z1)
                replace yf0 : w101.frozen? ⟨w.heap.size + 1 + 1 + 1, 0, none⟩ = false := hf101 _ _ (.int .i64 0) (y0) (yf0)
                replace y0 : w101.cell? ⟨w.heap.size + 1 + 1 + 1, 0, none⟩ = some (.int .i64 0) := hk101 _ _ _ (y0)
                replace yf1 : w101.frozen? ⟨w.heap.size + 1 + 1 + 1, 1, none⟩ = false := hf101 _ _ (.int .u64 0) (y1) (yf1)
                replace y1 : w101.cell? ⟨w.heap.size + 1 + 1 + 1, 1, none⟩ = some (.int .u64 0) := hk101 _ _ _ (y1)
                replace qf0 : w101.frozen? ⟨B, 0, none⟩ = false := hf101 _ _ (.int .i64 (hiW (qJ n m (j + 1) + qJ n m (j + 1)))) (q0) (qf0)
                replace q0 : w101.cell? ⟨B, 0, none⟩ = some (.int .i64 (hiW (qJ n m (j + 1) + qJ n m (j + 1)))) := hk101 _ _ _ (q0)
                replace qf1 : w101.frozen? ⟨B, 1, none⟩ = false := hf101 _ _ (.int .u64 (loW (qJ n m (j + 1) + qJ n m (j + 1)))) (q1) (qf1)
                replace q1 : w101.cell? ⟨B, 1, none⟩ = some (.int .u64 (loW (qJ n m (j + 1) + qJ n m (j + 1)))) := hk101 _ _ _ (q1)
                replace rf0 : w101.frozen? ⟨B + 1, 0, none⟩ = false := hf101 _ _ (.int .i64 (hiW (rJ n m (j + 1) + rJ n m (j + 1) + 1 + -M))) (r0) (rf0)
                replace r0 : w101.cell? ⟨B + 1, 0, none⟩ = some (.int .i64 (hiW (rJ n m (j + 1) + rJ n m (j + 1) + 1 + -M))) := hk101 _ _ _ (r0)
                replace rf1 : w101.frozen? ⟨B + 1, 1, none⟩ = false := hf101 _ _ (.int .u64 (loW (rJ n m (j + 1) + rJ n m (j + 1) + 1 + -M))) (r1) (rf1)
                replace r1 : w101.cell? ⟨B + 1, 1, none⟩ = some (.int .u64 (loW (rJ n m (j + 1) + rJ n m (j + 1) + 1 + -M))) := hk101 _ _ _ (r1)
                (try clear ab); have ab : w.heap.size < w101.heap.size := World.block_lt_of_cell? w101 ⟨w.heap.size, 0, none⟩ a0
                (try clear bb); have bb : w.heap.size + 1 < w101.heap.size := World.block_lt_of_cell? w101 ⟨w.heap.size + 1, 0, none⟩ b0
                (try clear zb); have zb : w.heap.size + 1 + 1 < w101.heap.size := World.block_lt_of_cell? w101 ⟨w.heap.size + 1 + 1, 0, none⟩ z0
                (try clear yb); have yb : w.heap.size + 1 + 1 + 1 < w101.heap.size := World.block_lt_of_cell? w101 ⟨w.heap.size + 1 + 1 + 1, 0, none⟩ y0
                (try clear qb); have qb : B < w101.heap.size := World.block_lt_of_cell? w101 ⟨B, 0, none⟩ q0
                (try clear rb); have rb : B + 1 < w101.heap.size := World.block_lt_of_cell? w101 ⟨B + 1, 0, none⟩ r0
                clear hk101 hf101
                go_wp2_with fail
                have hBs : Below w.heap.size w ((w101.setCell ⟨B, 0, none⟩ (.int .i64 (hiW (qJ n m (j + 1) + qJ n m (j + 1) + 1)))).setCell ⟨B, 1, none⟩ (.int .u64 (loW (qJ n m (j + 1) + qJ n m (j + 1) + 1)))) := by go_grown
                replace a0 : ((w101.setCell ⟨B, 0, none⟩ (.int .i64 (hiW (qJ n m (j + 1) + qJ n m (j + 1) + 1)))).setCell ⟨B, 1, none⟩ (.int .u64 (loW (qJ n m (j + 1) + qJ n m (j + 1) + 1)))).cell? ⟨w.heap.size, 0, none⟩ = some (.int .i64 (hiW N)) := two_other a0 (by omega)
                replace a1 : ((w101.setCell ⟨B, 0, none⟩ (.int .i64 (hiW (qJ n m (j + 1) + qJ n m (j + 1) + 1)))).setCell ⟨B, 1, none⟩ (.int .u64 (loW (qJ n m (j + 1) + qJ n m (j + 1) + 1)))).cell? ⟨w.heap.size, 1, none⟩ = some (.int .u64 (loW N)) := two_other a1 (by omega)
                replace b0 : ((w101.setCell ⟨B, 0, none⟩ (.int .i64 (hiW (qJ n m (j + 1) + qJ n m (j + 1) + 1)))).setCell ⟨B, 1, none⟩ (.int .u64 (loW (qJ n m (j + 1) + qJ n m (j + 1) + 1)))).cell? ⟨w.heap.size + 1, 0, none⟩ = some (.int .i64 (hiW M)) := two_other b0 (by omega)
                replace b1 : ((w101.setCell ⟨B, 0, none⟩ (.int .i64 (hiW (qJ n m (j + 1) + qJ n m (j + 1) + 1)))).setCell ⟨B, 1, none⟩ (.int .u64 (loW (qJ n m (j + 1) + qJ n m (j + 1) + 1)))).cell? ⟨w.heap.size + 1, 1, none⟩ = some (.int .u64 (loW M)) := two_other b1 (by omega)
                replace zf0 : ((w101.setCell ⟨B, 0, none⟩ (.int .i64 (hiW (qJ n m (j + 1) + qJ n m (j + 1) + 1)))).setCell ⟨B, 1, none⟩ (.int .u64 (loW (qJ n m (j + 1) + qJ n m (j + 1) + 1)))).frozen? ⟨w.heap.size + 1 + 1, 0, none⟩ = false := two_fz zf0
                replace z0 : ((w101.setCell ⟨B, 0, none⟩ (.int .i64 (hiW (qJ n m (j + 1) + qJ n m (j + 1) + 1)))).setCell ⟨B, 1, none⟩ (.int .u64 (loW (qJ n m (j + 1) + qJ n m (j + 1) + 1)))).cell? ⟨w.heap.size + 1 + 1, 0, none⟩ = some (.int .i64 0) := two_other z0 (by omega)
                replace zf1 : ((w101.setCell ⟨B, 0, none⟩ (.int .i64 (hiW (qJ n m (j + 1) + qJ n m (j + 1) + 1)))).setCell ⟨B, 1, none⟩ (.int .u64 (loW (qJ n m (j + 1) + qJ n m (j + 1) + 1)))).frozen? ⟨w.heap.size + 1 + 1, 1, none⟩ = false := two_fz zf1
                replace z1 : ((w101.setCell ⟨B, 0, none⟩ (.int .i64 (hiW (qJ n m (j + 1) + qJ n m (j + 1) + 1)))).setCell ⟨B, 1, none⟩ (.int .u64 (loW (qJ n m (j + 1) + qJ n m (j + 1) + 1)))).cell? ⟨w.heap.size + 1 + 1, 1, none⟩ = some (.int .u64 0) := two_other z1 (by omega)
                replace yf0 : ((w101.setCell ⟨B, 0, none⟩ (.int .i64 (hiW (qJ n m (j + 1) + qJ n m (j + 1) + 1)))).setCell ⟨B, 1, none⟩ (.int .u64 (loW (qJ n m (j + 1) + qJ n m (j + 1) + 1)))).frozen? ⟨w.heap.size + 1 + 1 + 1, 0, none⟩ = false := two_fz yf0
                replace y0 : ((w101.setCell ⟨B, 0, none⟩ (.int .i64 (hiW (qJ n m (j + 1) + qJ n m (j + 1) + 1)))).setCell ⟨B, 1, none⟩ (.int .u64 (loW (qJ n m (j + 1) + qJ n m (j + 1) + 1)))).cell? ⟨w.heap.size + 1 + 1 + 1, 0, none⟩ = some (.int .i64 0) := two_other y0 (by omega)
                replace yf1 : ((w101.setCell ⟨B, 0, none⟩ (.int .i64 (hiW (qJ n m (j + 1) + qJ n m (j + 1) + 1)))).setCell ⟨B, 1, none⟩ (.int .u64 (loW (qJ n m (j + 1) + qJ n m (j + 1) + 1)))).frozen? ⟨w.heap.size + 1 + 1 + 1, 1, none⟩ = false := two_fz yf1
                replace y1 : ((w101.setCell ⟨B, 0, none⟩ (.int .i64 (hiW (qJ n m (j + 1) + qJ n m (j + 1) + 1)))).setCell ⟨B, 1, none⟩ (.int .u64 (loW (qJ n m (j + 1) + qJ n m (j + 1) + 1)))).cell? ⟨w.heap.size + 1 + 1 + 1, 1, none⟩ = some (.int .u64 0) := two_other y1 (by omega)
                replace qf0 : ((w101.setCell ⟨B, 0, none⟩ (.int .i64 (hiW (qJ n m (j + 1) + qJ n m (j + 1) + 1)))).setCell ⟨B, 1, none⟩ (.int .u64 (loW (qJ n m (j + 1) + qJ n m (j + 1) + 1)))).frozen? ⟨B, 0, none⟩ = false := two_fz qf0
                replace q0 : ((w101.setCell ⟨B, 0, none⟩ (.int .i64 (hiW (qJ n m (j + 1) + qJ n m (j + 1) + 1)))).setCell ⟨B, 1, none⟩ (.int .u64 (loW (qJ n m (j + 1) + qJ n m (j + 1) + 1)))).cell? ⟨B, 0, none⟩ = some (.int .i64 (hiW (qJ n m (j + 1) + qJ n m (j + 1) + 1))) := two_0 q0
                replace qf1 : ((w101.setCell ⟨B, 0, none⟩ (.int .i64 (hiW (qJ n m (j + 1) + qJ n m (j + 1) + 1)))).setCell ⟨B, 1, none⟩ (.int .u64 (loW (qJ n m (j + 1) + qJ n m (j + 1) + 1)))).frozen? ⟨B, 1, none⟩ = false := two_fz qf1
                replace q1 : ((w101.setCell ⟨B, 0, none⟩ (.int .i64 (hiW (qJ n m (j + 1) + qJ n m (j + 1) + 1)))).setCell ⟨B, 1, none⟩ (.int .u64 (loW (qJ n m (j + 1) + qJ n m (j + 1) + 1)))).cell? ⟨B, 1, none⟩ = some (.int .u64 (loW (qJ n m (j + 1) + qJ n m (j + 1) + 1))) := two_1 q1
                replace rf0 : ((w101.setCell ⟨B, 0, none⟩ (.int .i64 (hiW (qJ n m (j + 1) + qJ n m (j + 1) + 1)))).setCell ⟨B, 1, none⟩ (.int .u64 (loW (qJ n m (j + 1) + qJ n m (j + 1) + 1)))).frozen? ⟨B + 1, 0, none⟩ = false := two_fz rf0
                replace r0 : ((w101.setCell ⟨B, 0, none⟩ (.int .i64 (hiW (qJ n m (j + 1) + qJ n m (j + 1) + 1)))).setCell ⟨B, 1, none⟩ (.int .u64 (loW (qJ n m (j + 1) + qJ n m (j + 1) + 1)))).cell? ⟨B + 1, 0, none⟩ = some (.int .i64 (hiW (rJ n m (j + 1) + rJ n m (j + 1) + 1 + -M))) := two_other r0 (by omega)
                replace rf1 : ((w101.setCell ⟨B, 0, none⟩ (.int .i64 (hiW (qJ n m (j + 1) + qJ n m (j + 1) + 1)))).setCell ⟨B, 1, none⟩ (.int .u64 (loW (qJ n m (j + 1) + qJ n m (j + 1) + 1)))).frozen? ⟨B + 1, 1, none⟩ = false := two_fz rf1
                replace r1 : ((w101.setCell ⟨B, 0, none⟩ (.int .i64 (hiW (qJ n m (j + 1) + qJ n m (j + 1) + 1)))).setCell ⟨B, 1, none⟩ (.int .u64 (loW (qJ n m (j + 1) + qJ n m (j + 1) + 1)))).cell? ⟨B + 1, 1, none⟩ = some (.int .u64 (loW (rJ n m (j + 1) + rJ n m (j + 1) + 1 + -M))) := two_other r1 (by omega)
                generalize ((w101.setCell ⟨B, 0, none⟩ (.int .i64 (hiW (qJ n m (j + 1) + qJ n m (j + 1) + 1)))).setCell ⟨B, 1, none⟩ (.int .u64 (loW (qJ n m (j + 1) + qJ n m (j + 1) + 1)))) = wS at *
                go_roundw
                case rel => exact ⟨j, rfl, by omega, ⟨a0, a1, b0, b1, z0, z1, zf0, zf1, y0, y1, yf0, yf1⟩, by rw [hq.out, hr.out]; exact ⟨q0, q1, qf0, qf1, r0, r1, rf0, rf1⟩, by assumption⟩
                case measure => first | (simp [intOf]; done) | (simp [intOf]; omega)
theorem divide_long (x k : Int) (w : World) (hx : 0 ≤ x ∧ x < 170141183460469231731687303715884105728) (hk : 0 < k ∧ k < 85070591730234615865843651857942052864) (hb : 18446744073709551616 ≤ x ∨ 18446744073709551616 ≤ k) :
    Calls Try.prog 134 #[.agg #[.int .i64 (hiW x), .int .u64 (loW x)], .agg #[.int .i64 (hiW k), .int .u64 (loW k)]] w fun e w' => e = .returned (.tuple #[.agg #[.int .i64 (hiW (x / k)), .int .u64 (loW (x / k))], .agg #[.int .i64 (hiW (x % k)), .int .u64 (loW (x % k))] ]) ∧ Below w.heap.size w w' := by
  obtain ⟨n, hn⟩ := Int.eq_ofNat_of_zero_le hx.1
  obtain ⟨m, hm⟩ := Int.eq_ofNat_of_zero_le (Int.le_of_lt hk.1)
  have h := divide_l x k n m w (hid hn) (hid hm) (hid (by omega)) (hid ⟨by omega, by omega⟩) (by
    rw [Bool.and_eq_false_iff]
    rcases hb with h | h
    · left; rw [beq_eq_false_iff_ne]; unfold hiW; omega
    · right; rw [beq_eq_false_iff_ne]; unfold hiW; omega)
  rw [(rq_0 n m).1, (rq_0 n m).2, ← hn, ← hm] at h
  exact h
end Go.Proofs.Ytjleflfncijnpaa
