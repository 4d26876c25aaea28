/- SpanInside: the walk. -/
import Derived.Deep.DeepCutAuto
import Derived.Deep.CutBlock
import Derived.Test.YtjleflfncijnpaaDoorRows
import Derived.Test.YtjleflfncijnpaaDoorBase
import Derived.Test.YtjleflfncijnpaaDoorFacts
import Derived.Test.YtjleflfncijnpaaDoorTwo
import Derived.Deep.RegionHeld3
import Derived.Deep.RegionWith
import Derived.Deep.QuietTactic
import Derived.BigQuiet
import Derived.Test.YtjleflfncijnpaaDoorW
import Derived.Test.YtjleflfncijnpaaDoorAsks
import Derived.Test.YtjleflfncijnpaaDoorOut
import Derived.Test.YtjleflfncijnpaaDoorSeq
import Derived.Test.YtjleflfncijnpaaDoorTwo
import Derived.Test.YtjleflfncijnpaaDoorQuo
import Derived.Test.YtjleflfncijnpaaDoorHoldsM
import Derived.Test.YtjleflfncijnpaaDoorLawHolds
import Derived.Test.YtjleflfncijnpaaDoorInsideM
import Derived.Test.YtjleflfncijnpaaDoorInsideA
import Derived.Test.YtjleflfncijnpaaDoorAlive
set_option linter.unusedVariables false
set_option linter.unusedSimpArgs false
set_option maxHeartbeats 4000000
set_option maxRecDepth 100000
namespace Go.Proofs.YtjleflfncijnpaaDoor
open Go Go.RowKit
/-- What one operation gives of the parts and of the wholes, and that one is within the other. -/
def Op2 (f : FuncId) (al ah bl bh xl xh yl yh : Int) : Prop := ∃ p1 p2 pe q1 q2 qe : Int,
  (∀ w : World, Calls Tryd.prog f #[.agg #[.int .i64 xl, .int .i64 xh], .agg #[.int .i64 yl, .int .i64 yh]] w fun e w' => e = .returned (.tuple #[.agg #[.int .i64 p1, .int .i64 p2], .int .i64 pe]) ∧ Below w.heap.size w w') ∧
  (∀ w : World, Calls Tryd.prog f #[.agg #[.int .i64 al, .int .i64 ah], .agg #[.int .i64 bl, .int .i64 bh]] w fun e w' => e = .returned (.tuple #[.agg #[.int .i64 q1, .int .i64 q2], .int .i64 qe]) ∧ Below w.heap.size w w') ∧
  ∀ w : World, Calls Tryd.prog 45 #[.agg #[.int .i64 p1, .int .i64 p2], .int .i64 pe, .agg #[.int .i64 q1, .int .i64 q2], .int .i64 qe] w fun e w' => e = .returned (.bool true) ∧ Below w.heap.size w w'
def Op1 (f : FuncId) (al ah xl xh : Int) : Prop := ∃ p1 p2 pe q1 q2 qe : Int,
  (∀ w : World, Calls Tryd.prog f #[.agg #[.int .i64 xl, .int .i64 xh]] w fun e w' => e = .returned (.tuple #[.agg #[.int .i64 p1, .int .i64 p2], .int .i64 pe]) ∧ Below w.heap.size w w') ∧
  (∀ w : World, Calls Tryd.prog f #[.agg #[.int .i64 al, .int .i64 ah]] w fun e w' => e = .returned (.tuple #[.agg #[.int .i64 q1, .int .i64 q2], .int .i64 qe]) ∧ Below w.heap.size w w') ∧
  ∀ w : World, Calls Tryd.prog 45 #[.agg #[.int .i64 p1, .int .i64 p2], .int .i64 pe, .agg #[.int .i64 q1, .int .i64 q2], .int .i64 qe] w fun e w' => e = .returned (.bool true) ∧ Below w.heap.size w w'
def TP (B Bx By : Nat) (al ah bl bh xl xh yl yh : Int) : World → Prop := (fun w' => w'.cell? ⟨B, 0, none⟩ = some (.int .i64 al) ∧ w'.cell? ⟨B, 1, none⟩ = some (.int .i64 ah) ∧ w'.cell? ⟨B + 1, 0, none⟩ = some (.int .i64 bl) ∧ w'.cell? ⟨B + 1, 1, none⟩ = some (.int .i64 bh) ∧ w'.cell? ⟨Bx, 0, none⟩ = some (.int .i64 xl) ∧ w'.cell? ⟨Bx, 1, none⟩ = some (.int .i64 xh) ∧ w'.cell? ⟨By, 0, none⟩ = some (.int .i64 yl) ∧ w'.cell? ⟨By, 1, none⟩ = some (.int .i64 yh))
def TF (B Bx By Bf : Nat) (al ah bl bh xl xh yl yh : Int) : World → Prop := (fun w' => w'.cell? ⟨B, 0, none⟩ = some (.int .i64 al) ∧ w'.cell? ⟨B, 1, none⟩ = some (.int .i64 ah) ∧ w'.cell? ⟨B + 1, 0, none⟩ = some (.int .i64 bl) ∧ w'.cell? ⟨B + 1, 1, none⟩ = some (.int .i64 bh) ∧ w'.cell? ⟨Bx, 0, none⟩ = some (.int .i64 xl) ∧ w'.cell? ⟨Bx, 1, none⟩ = some (.int .i64 xh) ∧ w'.cell? ⟨By, 0, none⟩ = some (.int .i64 yl) ∧ w'.cell? ⟨By, 1, none⟩ = some (.int .i64 yh) ∧ w'.cell? ⟨Bf, 0, none⟩ = some (.func (.func 28) #[] #[]) ∧ w'.cell? ⟨Bf, 1, none⟩ = some (.func (.func 33) #[] #[]) ∧ w'.cell? ⟨Bf, 2, none⟩ = some (.func (.func 34) #[] #[]) ∧ w'.cell? ⟨Bf, 3, none⟩ = some (.func (.func 19) #[] #[]) ∧ w'.cell? ⟨Bf, 4, none⟩ = some (.func (.func 42) #[] #[]) ∧ w'.cell? ⟨Bf, 5, none⟩ = some (.func (.func 43) #[] #[]) ∧ w'.cell? ⟨Bf, 6, none⟩ = some (.func (.func 44) #[] #[]))
def TG (B Bx By Bf : Nat) (al ah bl bh xl xh yl yh : Int) : World → Prop := (fun w' => w'.cell? ⟨B, 0, none⟩ = some (.int .i64 al) ∧ w'.cell? ⟨B, 1, none⟩ = some (.int .i64 ah) ∧ w'.cell? ⟨B + 1, 0, none⟩ = some (.int .i64 bl) ∧ w'.cell? ⟨B + 1, 1, none⟩ = some (.int .i64 bh) ∧ w'.cell? ⟨Bx, 0, none⟩ = some (.int .i64 xl) ∧ w'.cell? ⟨Bx, 1, none⟩ = some (.int .i64 xh) ∧ w'.cell? ⟨By, 0, none⟩ = some (.int .i64 yl) ∧ w'.cell? ⟨By, 1, none⟩ = some (.int .i64 yh) ∧ w'.cell? ⟨Bf, 0, none⟩ = some (.func (.func 46) #[] #[]) ∧ w'.cell? ⟨Bf, 1, none⟩ = some (.func (.func 20) #[] #[]) ∧ w'.cell? ⟨Bf, 2, none⟩ = some (.func (.func 47) #[] #[]))
theorem inside_go (al ah bl bh xl xh yl yh n0 n1 n2 n3 c1 c2 c3 c4 ce d1 d2 d3 d4 de : Int) (w : World)
    (k1 : Hid (∀ w : World, Calls Tryd.prog 31 #[.agg #[.int .i64 al, .int .i64 ah]] w fun e w' => e = .returned (.int .i64 0) ∧ Below w.heap.size w w'))
    (k2 : Hid (∀ w : World, Calls Tryd.prog 31 #[.agg #[.int .i64 bl, .int .i64 bh]] w fun e w' => e = .returned (.int .i64 0) ∧ Below w.heap.size w w'))
    (i1 : Hid (∀ w : World, Calls Tryd.prog 41 #[.agg #[.int .i64 al, .int .i64 ah], .agg #[.int .u64 n0, .int .u64 n1]] w fun e w' => e = .returned (.agg #[.int .i64 xl, .int .i64 xh]) ∧ Below w.heap.size w w'))
    (i2 : Hid (∀ w : World, Calls Tryd.prog 41 #[.agg #[.int .i64 bl, .int .i64 bh], .agg #[.int .u64 n2, .int .u64 n3]] w fun e w' => e = .returned (.agg #[.int .i64 yl, .int .i64 yh]) ∧ Below w.heap.size w w'))
    (o0 : Hid (Op2 28 al ah bl bh xl xh yl yh))
    (o1 : Hid (Op2 33 al ah bl bh xl xh yl yh))
    (o2 : Hid (Op2 34 al ah bl bh xl xh yl yh))
    (o3 : Hid (Op2 19 al ah bl bh xl xh yl yh))
    (o4 : Hid (Op2 42 al ah bl bh xl xh yl yh))
    (o5 : Hid (Op2 43 al ah bl bh xl xh yl yh))
    (o6 : Hid (Op2 44 al ah bl bh xl xh yl yh))
    (v0 : Hid (Op1 46 al ah xl xh))
    (v1 : Hid (Op1 20 al ah xl xh))
    (v2 : Hid (Op1 47 al ah xl xh))
    (t1 : Hid (∀ w : World, Calls Tryd.prog 24 #[.agg #[.int .i64 xl, .int .i64 xh]] w fun e w' => e = .returned (.tuple #[.agg #[.int .i64 c1, .int .i64 c2], .agg #[.int .i64 c3, .int .i64 c4], .int .i64 ce]) ∧ Below w.heap.size w w'))
    (t2 : Hid (∀ w : World, Calls Tryd.prog 24 #[.agg #[.int .i64 al, .int .i64 ah]] w fun e w' => e = .returned (.tuple #[.agg #[.int .i64 d1, .int .i64 d2], .agg #[.int .i64 d3, .int .i64 d4], .int .i64 de]) ∧ Below w.heap.size w w'))
    (z1 : Hid (∀ w : World, Calls Tryd.prog 45 #[.agg #[.int .i64 c1, .int .i64 c2], .int .i64 ce, .agg #[.int .i64 d1, .int .i64 d2], .int .i64 de] w fun e w' => e = .returned (.bool true) ∧ Below w.heap.size w w'))
    (z2 : Hid (∀ w : World, Calls Tryd.prog 45 #[.agg #[.int .i64 c3, .int .i64 c4], .int .i64 ce, .agg #[.int .i64 d3, .int .i64 d4], .int .i64 de] w fun e w' => e = .returned (.bool true) ∧ Below w.heap.size w w')) :
    Calls Tryd.prog 7 #[.agg #[.int .i64 al, .int .i64 ah], .agg #[.int .i64 bl, .int .i64 bh], .agg #[.int .u64 n0, .int .u64 n1, .int .u64 n2, .int .u64 n3]] w fun e w' => e = .returned (.bool true) ∧ Below w.heap.size w w' := by
  go_enter Tryd.func7, Tryd.ntmps7
  go_wp2_with fail
  refine useK w (alive_any _) (by go_grown) ?_; rintro e w1 rfl hB1 hk1 hs1
  replace p00 : w1.cell? ⟨w.heap.size, 0, none⟩ = some (.int .i64 al) := hk1 _ _ _ (by simp [go_sem])
  replace p01 : w1.cell? ⟨w.heap.size, 1, none⟩ = some (.int .i64 ah) := hk1 _ _ _ (by simp [go_sem])
  replace p10 : w1.cell? ⟨w.heap.size + 1, 0, none⟩ = some (.int .i64 bl) := hk1 _ _ _ (by simp [go_sem])
  replace p11 : w1.cell? ⟨w.heap.size + 1, 1, none⟩ = some (.int .i64 bh) := hk1 _ _ _ (by simp [go_sem])
  replace p20 : w1.cell? ⟨w.heap.size + 1 + 1, 0, none⟩ = some (.int .u64 n0) := hk1 _ _ _ (by simp [go_sem])
  replace p21 : w1.cell? ⟨w.heap.size + 1 + 1, 1, none⟩ = some (.int .u64 n1) := hk1 _ _ _ (by simp [go_sem])
  replace p22 : w1.cell? ⟨w.heap.size + 1 + 1, 2, none⟩ = some (.int .u64 n2) := hk1 _ _ _ (by simp [go_sem])
  replace p23 : w1.cell? ⟨w.heap.size + 1 + 1, 3, none⟩ = some (.int .u64 n3) := hk1 _ _ _ (by simp [go_sem])
  have bp00 : w.heap.size < w1.heap.size := World.block_lt_of_cell? w1 ⟨w.heap.size, 0, none⟩ p00
  have bp10 : w.heap.size + 1 < w1.heap.size := World.block_lt_of_cell? w1 ⟨w.heap.size + 1, 0, none⟩ p10
  have bp20 : w.heap.size + 1 + 1 < w1.heap.size := World.block_lt_of_cell? w1 ⟨w.heap.size + 1 + 1, 0, none⟩ p20
  clear hk1
  go_wp2_with fail
  refine useK w (k1.out _) (by go_grown) ?_; rintro e w2 rfl hB2 hk2 hs2
  replace p00 : w2.cell? ⟨w.heap.size, 0, none⟩ = some (.int .i64 al) := hk2 _ _ _ (p00)
  replace p01 : w2.cell? ⟨w.heap.size, 1, none⟩ = some (.int .i64 ah) := hk2 _ _ _ (p01)
  replace p10 : w2.cell? ⟨w.heap.size + 1, 0, none⟩ = some (.int .i64 bl) := hk2 _ _ _ (p10)
  replace p11 : w2.cell? ⟨w.heap.size + 1, 1, none⟩ = some (.int .i64 bh) := hk2 _ _ _ (p11)
  replace p20 : w2.cell? ⟨w.heap.size + 1 + 1, 0, none⟩ = some (.int .u64 n0) := hk2 _ _ _ (p20)
  replace p21 : w2.cell? ⟨w.heap.size + 1 + 1, 1, none⟩ = some (.int .u64 n1) := hk2 _ _ _ (p21)
  replace p22 : w2.cell? ⟨w.heap.size + 1 + 1, 2, none⟩ = some (.int .u64 n2) := hk2 _ _ _ (p22)
  replace p23 : w2.cell? ⟨w.heap.size + 1 + 1, 3, none⟩ = some (.int .u64 n3) := hk2 _ _ _ (p23)
  have bp00 : w.heap.size < w2.heap.size := World.block_lt_of_cell? w2 ⟨w.heap.size, 0, none⟩ p00
  have bp10 : w.heap.size + 1 < w2.heap.size := World.block_lt_of_cell? w2 ⟨w.heap.size + 1, 0, none⟩ p10
  have bp20 : w.heap.size + 1 + 1 < w2.heap.size := World.block_lt_of_cell? w2 ⟨w.heap.size + 1 + 1, 0, none⟩ p20
  clear hk2
  go_wp2_with fail
  refine useK w (k2.out _) (by go_grown) ?_; rintro e w3 rfl hB3 hk3 hs3
  replace p00 : w3.cell? ⟨w.heap.size, 0, none⟩ = some (.int .i64 al) := hk3 _ _ _ (p00)
  replace p01 : w3.cell? ⟨w.heap.size, 1, none⟩ = some (.int .i64 ah) := hk3 _ _ _ (p01)
  replace p10 : w3.cell? ⟨w.heap.size + 1, 0, none⟩ = some (.int .i64 bl) := hk3 _ _ _ (p10)
  replace p11 : w3.cell? ⟨w.heap.size + 1, 1, none⟩ = some (.int .i64 bh) := hk3 _ _ _ (p11)
  replace p20 : w3.cell? ⟨w.heap.size + 1 + 1, 0, none⟩ = some (.int .u64 n0) := hk3 _ _ _ (p20)
  replace p21 : w3.cell? ⟨w.heap.size + 1 + 1, 1, none⟩ = some (.int .u64 n1) := hk3 _ _ _ (p21)
  replace p22 : w3.cell? ⟨w.heap.size + 1 + 1, 2, none⟩ = some (.int .u64 n2) := hk3 _ _ _ (p22)
  replace p23 : w3.cell? ⟨w.heap.size + 1 + 1, 3, none⟩ = some (.int .u64 n3) := hk3 _ _ _ (p23)
  have bp00 : w.heap.size < w3.heap.size := World.block_lt_of_cell? w3 ⟨w.heap.size, 0, none⟩ p00
  have bp10 : w.heap.size + 1 < w3.heap.size := World.block_lt_of_cell? w3 ⟨w.heap.size + 1, 0, none⟩ p10
  have bp20 : w.heap.size + 1 + 1 < w3.heap.size := World.block_lt_of_cell? w3 ⟨w.heap.size + 1 + 1, 0, none⟩ p20
  clear hk3
  go_wp2_with fail
  go_cut [8, 9] (fun p q wx => ∃ Bx By : Nat, p = .pointer (some ⟨Bx, 0, none⟩) ∧ q = .pointer (some ⟨By, 0, none⟩) ∧ TP w.heap.size Bx By al ah bl bh xl xh yl yh wx ∧ Below w.heap.size w wx)
  case first => as_aux_lemma =>
    refine wp_region_held_drew (S := (fun w' => w'.cell? ⟨w.heap.size, 0, none⟩ = some (.int .i64 al) ∧ w'.cell? ⟨w.heap.size, 1, none⟩ = some (.int .i64 ah) ∧ w'.cell? ⟨w.heap.size + 1, 0, none⟩ = some (.int .i64 bl) ∧ w'.cell? ⟨w.heap.size + 1, 1, none⟩ = some (.int .i64 bh) ∧ w'.cell? ⟨w.heap.size + 1 + 1, 0, none⟩ = some (.int .u64 n0) ∧ w'.cell? ⟨w.heap.size + 1 + 1, 1, none⟩ = some (.int .u64 n1) ∧ w'.cell? ⟨w.heap.size + 1 + 1, 2, none⟩ = some (.int .u64 n2) ∧ w'.cell? ⟨w.heap.size + 1 + 1, 3, none⟩ = some (.int .u64 n3))) (by kernel_rfl) (by (try dsimp only); simp only [World.cell?_drew, World.frozen?_drew]; exact ⟨p00, p01, p10, p11, p20, p21, p22, p23⟩) (fun hHeld => ?_)
    have hBq0 : Below w.heap.size w w3.drew := by go_grown
    (try dsimp only at hHeld)
    clear p00 p01 p10 p11 p20 p21 p22 p23
    generalize w3.drew = wq0 at *
    have hzq0 : w.heap.size ≤ wq0.heap.size := hBq0.size
    (refine wpAnyH_take (i := 0) (oi := ⟨some 42, _, _, _, _, none⟩) (v := ?_) rfl (by kernel_rfl) (by kernel_rfl) (by kernel_rfl) (fun _ _ _ h => h) (Or.inl ⟨by rfl, ?_⟩) hHeld ?_; rotate_left; (· (intro w9 hSw; (try dsimp only at hSw); go_simp; (try with_reducible rfl))))
    (try simp only [Act.put, List.setIfInBounds_toArray, List.set_cons_zero, List.set_cons_succ])
    (refine wpAnyH_take (i := 1) (oi := ⟨some 43, _, _, _, _, none⟩) (v := ?_) rfl (by kernel_rfl) (by kernel_rfl) (by kernel_rfl) (fun _ _ _ h => h) (Or.inl ⟨by rfl, ?_⟩) hHeld ?_; rotate_left; (· (intro w9 hSw; (try dsimp only at hSw); go_simp; (try with_reducible rfl))))
    (try simp only [Act.put, List.setIfInBounds_toArray, List.set_cons_zero, List.set_cons_succ])
    (refine wpAnyH_take (i := 2) (oi := ⟨some 44, _, _, _, _, none⟩) (v := ?_) rfl (by kernel_rfl) (by kernel_rfl) (by kernel_rfl) (fun _ _ _ h => h) (Or.inl ⟨by rfl, ?_⟩) hHeld ?_; rotate_left; (· (intro w9 hSw; (try dsimp only at hSw); go_simp; (try with_reducible rfl))))
    (try simp only [Act.put, List.setIfInBounds_toArray, List.set_cons_zero, List.set_cons_succ])
    (refine wpAnyH_take (i := 3) (oi := ⟨some 45, _, _, _, _, none⟩) (v := ?_) rfl (by kernel_rfl) (by kernel_rfl) (by kernel_rfl) (fun _ _ _ h => h) (Or.inl ⟨by rfl, ?_⟩) hHeld ?_; rotate_left; (· (intro w9 hSw; (try dsimp only at hSw); go_simp; (try with_reducible rfl))))
    (try simp only [Act.put, List.setIfInBounds_toArray, List.set_cons_zero, List.set_cons_succ])
    (refine wpAnyH_take (i := 4) (oi := ⟨some 46, _, _, _, _, none⟩) (v := ?_) rfl (by kernel_rfl) (by kernel_rfl) (by kernel_rfl) (fun _ _ _ h => h) (Or.inl ⟨by rfl, ?_⟩) hHeld ?_; rotate_left; (· (intro w9 hSw; (try dsimp only at hSw); go_simp; (try with_reducible rfl))))
    (try simp only [Act.put, List.setIfInBounds_toArray, List.set_cons_zero, List.set_cons_succ])
    (refine wpAnyH_take (i := 5) (oi := ⟨some 47, _, _, _, _, none⟩) (v := ?_) rfl (by kernel_rfl) (by kernel_rfl) (by kernel_rfl) (fun _ _ _ h => h) (Or.inl ⟨by rfl, ?_⟩) hHeld ?_; rotate_left; (· (intro w9 hSw; (try dsimp only at hSw); go_simp; (try with_reducible rfl))))
    (try simp only [Act.put, List.setIfInBounds_toArray, List.set_cons_zero, List.set_cons_succ])
    (refine wpAnyH_take (i := 7) (oi := ⟨some 49, _, _, _, _, none⟩) (v := ?_) rfl (by kernel_rfl) (by kernel_rfl) (by kernel_rfl) (fun _ _ _ h => h) (Or.inl ⟨by rfl, ?_⟩) hHeld ?_; rotate_left; (· (intro w9 hSw; (try dsimp only at hSw); go_simp; (try with_reducible rfl))))
    (try simp only [Act.put, List.setIfInBounds_toArray, List.set_cons_zero, List.set_cons_succ])
    (refine wpAnyH_take (i := 8) (oi := ⟨some 50, _, _, _, _, none⟩) (v := ?_) rfl (by kernel_rfl) (by kernel_rfl) (by kernel_rfl) (fun _ _ _ h => h) (Or.inl ⟨by rfl, ?_⟩) hHeld ?_; rotate_left; (· (intro w9 hSw; (try dsimp only at hSw); go_simp; (try with_reducible rfl))))
    (try simp only [Act.put, List.setIfInBounds_toArray, List.set_cons_zero, List.set_cons_succ])
    (refine wpAnyH_take (i := 9) (oi := ⟨some 51, _, _, _, _, none⟩) (v := ?_) rfl (by kernel_rfl) (by kernel_rfl) (by kernel_rfl) (fun _ _ _ h => h) (Or.inl ⟨by rfl, ?_⟩) hHeld ?_; rotate_left; (· (intro w9 hSw; (try dsimp only at hSw); go_simp; (try with_reducible rfl))))
    (try simp only [Act.put, List.setIfInBounds_toArray, List.set_cons_zero, List.set_cons_succ])
    (refine wpAnyH_take (i := 10) (oi := ⟨some 52, _, _, _, _, none⟩) (v := ?_) rfl (by kernel_rfl) (by kernel_rfl) (by kernel_rfl) (fun _ _ _ h => h) (Or.inl ⟨by rfl, ?_⟩) hHeld ?_; rotate_left; (· (intro w9 hSw; (try dsimp only at hSw); go_simp; (try with_reducible rfl))))
    (try simp only [Act.put, List.setIfInBounds_toArray, List.set_cons_zero, List.set_cons_succ])
    (refine wpAnyH_take (i := 11) (oi := ⟨some 53, _, _, _, _, none⟩) (v := ?_) rfl (by kernel_rfl) (by kernel_rfl) (by kernel_rfl) (fun _ _ _ h => h) (Or.inl ⟨by rfl, ?_⟩) hHeld ?_; rotate_left; (· (intro w9 hSw; (try dsimp only at hSw); go_simp; (try with_reducible rfl))))
    (try simp only [Act.put, List.setIfInBounds_toArray, List.set_cons_zero, List.set_cons_succ])
    (refine wpAnyH_take (i := 12) (oi := ⟨some 54, _, _, _, _, none⟩) (v := ?_) rfl (by kernel_rfl) (by kernel_rfl) (by kernel_rfl) (fun _ _ _ h => h) (Or.inl ⟨by rfl, ?_⟩) hHeld ?_; rotate_left; (· (intro w9 hSw; (try dsimp only at hSw); go_simp; (try with_reducible rfl))))
    (try simp only [Act.put, List.setIfInBounds_toArray, List.set_cons_zero, List.set_cons_succ])
    refine wpAnyH_ready (rs := [6, 14, 15]) (by kernel_rfl) (by simp) ?_
    refine AllReadyH.cons (o := ⟨some 48, _, _, _, _, none⟩) rfl (fun K hK => ?_) (AllReadyH.cons (o := ⟨some 8, _, _, _, _, none⟩) rfl (fun K hK => ?_) (AllReadyH.cons (o := ⟨some 9, _, _, _, _, none⟩) rfl (fun K hK => ?_) (AllReadyH.nil)))
    ·
     go_simp
     (go_at_call 41; refine useF w ((by first | (with_reducible exact i1.out _) | (with_reducible exact i2.out _))) (by go_grown) ?_; rintro e wq1 rfl hBq1 hkq1 hfq1 hsq1)
     have hOld := hHeld; clear hHeld; refine hK.out _ _ ?_ (fun hHeld => ?_)
     · exact ⟨hkq1 _ _ _ (hOld.1), hkq1 _ _ _ (hOld.2.1), hkq1 _ _ _ (hOld.2.2.1), hkq1 _ _ _ (hOld.2.2.2.1), hkq1 _ _ _ (hOld.2.2.2.2.1), hkq1 _ _ _ (hOld.2.2.2.2.2.1), hkq1 _ _ _ (hOld.2.2.2.2.2.2.1), hkq1 _ _ _ (hOld.2.2.2.2.2.2.2)⟩
     clear hK K hOld
     clear hkq1 hfq1 hsq1
     have hzq1 : w.heap.size ≤ wq1.heap.size := hBq1.size
     (try simp only [Act.put, List.setIfInBounds_toArray, List.set_cons_zero, List.set_cons_succ])
     refine wpAnyH_ready (rs := [13, 14, 15]) (by kernel_rfl) (by simp) ?_
     refine AllReadyH.cons (o := ⟨some 55, _, _, _, _, none⟩) rfl (fun K hK => ?_) (AllReadyH.cons (o := ⟨some 8, _, _, _, _, none⟩) rfl (fun K hK => ?_) (AllReadyH.cons (o := ⟨some 9, _, _, _, _, none⟩) rfl (fun K hK => ?_) (AllReadyH.nil)))
     ·
      go_simp
      (go_at_call 41; refine useF w ((by first | (with_reducible exact i1.out _) | (with_reducible exact i2.out _))) (by go_grown) ?_; rintro e wq2 rfl hBq2 hkq2 hfq2 hsq2)
      have hOld := hHeld; clear hHeld; refine hK.out _ _ ?_ (fun hHeld => ?_)
      · exact ⟨hkq2 _ _ _ (hOld.1), hkq2 _ _ _ (hOld.2.1), hkq2 _ _ _ (hOld.2.2.1), hkq2 _ _ _ (hOld.2.2.2.1), hkq2 _ _ _ (hOld.2.2.2.2.1), hkq2 _ _ _ (hOld.2.2.2.2.2.1), hkq2 _ _ _ (hOld.2.2.2.2.2.2.1), hkq2 _ _ _ (hOld.2.2.2.2.2.2.2)⟩
      clear hK K hOld
      clear hkq2 hfq2 hsq2
      have hzq2 : w.heap.size ≤ wq2.heap.size := hBq2.size
      (try simp only [Act.put, List.setIfInBounds_toArray, List.set_cons_zero, List.set_cons_succ])
      refine wpAnyH_ready (rs := [14, 15]) (by kernel_rfl) (by simp) ?_
      refine AllReadyH.cons (o := ⟨some 8, _, _, _, _, none⟩) rfl (fun K hK => ?_) (AllReadyH.cons (o := ⟨some 9, _, _, _, _, none⟩) rfl (fun K hK => ?_) (AllReadyH.nil))
      ·
       (try dsimp only at hHeld)
       have hBq3 : Below w.heap.size w (wq2.alloc (Obj.cells #[.int .i64 0, .int .i64 0] 24)) := by go_grown
       have nn140 : (wq2.alloc (Obj.cells #[.int .i64 0, .int .i64 0] 24)).cell? ⟨wq2.heap.size, 0, none⟩ = some (.int .i64 0) := by simp [go_sem]
       have nn14f0 : (wq2.alloc (Obj.cells #[.int .i64 0, .int .i64 0] 24)).frozen? ⟨wq2.heap.size, 0, none⟩ = false := by simp [go_sem]
       have nn141 : (wq2.alloc (Obj.cells #[.int .i64 0, .int .i64 0] 24)).cell? ⟨wq2.heap.size, 1, none⟩ = some (.int .i64 0) := by simp [go_sem]
       have nn14f1 : (wq2.alloc (Obj.cells #[.int .i64 0, .int .i64 0] 24)).frozen? ⟨wq2.heap.size, 1, none⟩ = false := by simp [go_sem]
       have nn14l0 : w.heap.size < wq2.heap.size := World.block_lt_of_cell? _ ⟨w.heap.size, 0, none⟩ (hHeld.1)
       have nn14l1 : w.heap.size + 1 < wq2.heap.size := World.block_lt_of_cell? _ ⟨w.heap.size + 1, 0, none⟩ (hHeld.2.2.1)
       have nn14l2 : w.heap.size + 1 + 1 < wq2.heap.size := World.block_lt_of_cell? _ ⟨w.heap.size + 1 + 1, 0, none⟩ (hHeld.2.2.2.2.1)
       have hOld := hHeld; clear hHeld; go_simp; refine hK.out _ _ ?_ (fun hHeld => ?_)
       · exact ⟨keepA _ (hOld.1), keepA _ (hOld.2.1), keepA _ (hOld.2.2.1), keepA _ (hOld.2.2.2.1), keepA _ (hOld.2.2.2.2.1), keepA _ (hOld.2.2.2.2.2.1), keepA _ (hOld.2.2.2.2.2.2.1), keepA _ (hOld.2.2.2.2.2.2.2)⟩
       clear hK K hOld
       (try dsimp only at hHeld)
       generalize (wq2.alloc (Obj.cells #[.int .i64 0, .int .i64 0] 24)) = wq3 at *
       have hzq3 : w.heap.size ≤ wq3.heap.size := hBq3.size
       (try simp only [Act.put, List.setIfInBounds_toArray, List.set_cons_zero, List.set_cons_succ])
       refine wpAnyH_ready (rs := [15]) (by kernel_rfl) (by simp) ?_
       refine AllReadyH.cons (o := ⟨some 9, _, _, _, _, none⟩) rfl (fun K hK => ?_) (AllReadyH.nil)
       (try dsimp only at hHeld)
       have hBq4 : Below w.heap.size w (wq3.alloc (Obj.cells #[.int .i64 0, .int .i64 0] 24)) := by go_grown
       have nn150 : (wq3.alloc (Obj.cells #[.int .i64 0, .int .i64 0] 24)).cell? ⟨wq3.heap.size, 0, none⟩ = some (.int .i64 0) := by simp [go_sem]
       have nn15f0 : (wq3.alloc (Obj.cells #[.int .i64 0, .int .i64 0] 24)).frozen? ⟨wq3.heap.size, 0, none⟩ = false := by simp [go_sem]
       have nn151 : (wq3.alloc (Obj.cells #[.int .i64 0, .int .i64 0] 24)).cell? ⟨wq3.heap.size, 1, none⟩ = some (.int .i64 0) := by simp [go_sem]
       have nn15f1 : (wq3.alloc (Obj.cells #[.int .i64 0, .int .i64 0] 24)).frozen? ⟨wq3.heap.size, 1, none⟩ = false := by simp [go_sem]
       have nn15l0 : w.heap.size < wq3.heap.size := World.block_lt_of_cell? _ ⟨w.heap.size, 0, none⟩ (hHeld.1)
       have nn15l1 : w.heap.size + 1 < wq3.heap.size := World.block_lt_of_cell? _ ⟨w.heap.size + 1, 0, none⟩ (hHeld.2.2.1)
       have nn15l2 : w.heap.size + 1 + 1 < wq3.heap.size := World.block_lt_of_cell? _ ⟨w.heap.size + 1 + 1, 0, none⟩ (hHeld.2.2.2.2.1)
       have nn15m14 : wq2.heap.size < wq3.heap.size := World.block_lt_of_cell? _ ⟨wq2.heap.size, 0, none⟩ nn140
       replace nn14f0 := keepAF (Obj.cells #[.int .i64 0, .int .i64 0] 24) nn140 nn14f0
       replace nn140 := keepA (Obj.cells #[.int .i64 0, .int .i64 0] 24) nn140
       replace nn14f1 := keepAF (Obj.cells #[.int .i64 0, .int .i64 0] 24) nn141 nn14f1
       replace nn141 := keepA (Obj.cells #[.int .i64 0, .int .i64 0] 24) nn141
       have hOld := hHeld; clear hHeld; go_simp; refine hK.out _ _ ?_ (fun hHeld => ?_)
       · exact ⟨keepA _ (hOld.1), keepA _ (hOld.2.1), keepA _ (hOld.2.2.1), keepA _ (hOld.2.2.2.1), keepA _ (hOld.2.2.2.2.1), keepA _ (hOld.2.2.2.2.2.1), keepA _ (hOld.2.2.2.2.2.2.1), keepA _ (hOld.2.2.2.2.2.2.2)⟩
       clear hK K hOld
       (try dsimp only at hHeld)
       generalize (wq3.alloc (Obj.cells #[.int .i64 0, .int .i64 0] 24)) = wq4 at *
       have hzq4 : w.heap.size ≤ wq4.heap.size := hBq4.size
       (try simp only [Act.put, List.setIfInBounds_toArray, List.set_cons_zero, List.set_cons_succ])
       refine wpAnyH_ready (rs := [16]) (by kernel_rfl) (by simp) ?_
       refine AllReadyH.cons (o := ⟨none, _, _, _, _, none⟩) rfl (fun K hK => ?_) (AllReadyH.nil)
       (try dsimp only at hHeld)
       have hBq5 : Below w.heap.size w ((wq4.setCell ⟨wq2.heap.size, 0, none⟩ (.int .i64 xl)).setCell ⟨wq2.heap.size, 1, none⟩ (.int .i64 xh)) := by go_grown
       have hOld := hHeld; clear hHeld; go_simp; refine hK.out _ _ ?_ (fun hHeld => ?_)
       · exact ⟨two_other (hOld.1) (Nat.ne_of_gt nn14l0), two_other (hOld.2.1) (Nat.ne_of_gt nn14l0), two_other (hOld.2.2.1) (Nat.ne_of_gt nn14l1), two_other (hOld.2.2.2.1) (Nat.ne_of_gt nn14l1), two_other (hOld.2.2.2.2.1) (Nat.ne_of_gt nn14l2), two_other (hOld.2.2.2.2.2.1) (Nat.ne_of_gt nn14l2), two_other (hOld.2.2.2.2.2.2.1) (Nat.ne_of_gt nn14l2), two_other (hOld.2.2.2.2.2.2.2) (Nat.ne_of_gt nn14l2)⟩
       clear hK K hOld
       (try dsimp only at hHeld)
       replace nn14f0 := two_fz (b := wq2.heap.size) (x := .int .i64 xl) (y := .int .i64 xh) nn14f0
       replace nn140 := two_0 (x := .int .i64 xl) (y := .int .i64 xh) nn140
       replace nn14f1 := two_fz (b := wq2.heap.size) (x := .int .i64 xl) (y := .int .i64 xh) nn14f1
       replace nn141 := two_1 (x := .int .i64 xl) (y := .int .i64 xh) nn141
       replace nn15f0 := two_fz (b := wq2.heap.size) (x := .int .i64 xl) (y := .int .i64 xh) nn15f0
       replace nn150 := two_other (b := wq2.heap.size) (x := .int .i64 xl) (y := .int .i64 xh) nn150 (by omega)
       replace nn15f1 := two_fz (b := wq2.heap.size) (x := .int .i64 xl) (y := .int .i64 xh) nn15f1
       replace nn151 := two_other (b := wq2.heap.size) (x := .int .i64 xl) (y := .int .i64 xh) nn151 (by omega)
       generalize ((wq4.setCell ⟨wq2.heap.size, 0, none⟩ (.int .i64 xl)).setCell ⟨wq2.heap.size, 1, none⟩ (.int .i64 xh)) = wq5 at *
       have hzq5 : w.heap.size ≤ wq5.heap.size := hBq5.size
       (try simp only [Act.put, List.setIfInBounds_toArray, List.set_cons_zero, List.set_cons_succ])
       refine wpAnyH_ready (rs := [17]) (by kernel_rfl) (by simp) ?_
       refine AllReadyH.cons (o := ⟨none, _, _, _, _, none⟩) rfl (fun K hK => ?_) (AllReadyH.nil)
       (try dsimp only at hHeld)
       have hBq6 : Below w.heap.size w ((wq5.setCell ⟨wq3.heap.size, 0, none⟩ (.int .i64 yl)).setCell ⟨wq3.heap.size, 1, none⟩ (.int .i64 yh)) := by go_grown
       have hOld := hHeld; clear hHeld; go_simp; refine hK.out _ _ ?_ (fun hHeld => ?_)
       · exact ⟨two_other (hOld.1) (Nat.ne_of_gt nn15l0), two_other (hOld.2.1) (Nat.ne_of_gt nn15l0), two_other (hOld.2.2.1) (Nat.ne_of_gt nn15l1), two_other (hOld.2.2.2.1) (Nat.ne_of_gt nn15l1), two_other (hOld.2.2.2.2.1) (Nat.ne_of_gt nn15l2), two_other (hOld.2.2.2.2.2.1) (Nat.ne_of_gt nn15l2), two_other (hOld.2.2.2.2.2.2.1) (Nat.ne_of_gt nn15l2), two_other (hOld.2.2.2.2.2.2.2) (Nat.ne_of_gt nn15l2)⟩
       clear hK K hOld
       (try dsimp only at hHeld)
       replace nn14f0 := two_fz (b := wq3.heap.size) (x := .int .i64 yl) (y := .int .i64 yh) nn14f0
       replace nn140 := two_other (b := wq3.heap.size) (x := .int .i64 yl) (y := .int .i64 yh) nn140 (by omega)
       replace nn14f1 := two_fz (b := wq3.heap.size) (x := .int .i64 yl) (y := .int .i64 yh) nn14f1
       replace nn141 := two_other (b := wq3.heap.size) (x := .int .i64 yl) (y := .int .i64 yh) nn141 (by omega)
       replace nn15f0 := two_fz (b := wq3.heap.size) (x := .int .i64 yl) (y := .int .i64 yh) nn15f0
       replace nn150 := two_0 (x := .int .i64 yl) (y := .int .i64 yh) nn150
       replace nn15f1 := two_fz (b := wq3.heap.size) (x := .int .i64 yl) (y := .int .i64 yh) nn15f1
       replace nn151 := two_1 (x := .int .i64 yl) (y := .int .i64 yh) nn151
       generalize ((wq5.setCell ⟨wq3.heap.size, 0, none⟩ (.int .i64 yl)).setCell ⟨wq3.heap.size, 1, none⟩ (.int .i64 yh)) = wq6 at *
       have hzq6 : w.heap.size ≤ wq6.heap.size := hBq6.size
       (try simp only [Act.put, List.setIfInBounds_toArray, List.set_cons_zero, List.set_cons_succ])
       refine wpAnyH_done (by kernel_rfl) ?_ _
       go_wp2_with fail
       go_meet
       obtain ⟨p00, p01, p10, p11, _, _, _, _⟩ := hHeld
       exact ⟨_, _, rfl, rfl, ⟨p00, p01, p10, p11, nn140, nn141, nn150, nn151⟩, by assumption⟩
      ·
       (try dsimp only at hHeld)
       have hBq3 : Below w.heap.size w (wq2.alloc (Obj.cells #[.int .i64 0, .int .i64 0] 24)) := by go_grown
       have nn150 : (wq2.alloc (Obj.cells #[.int .i64 0, .int .i64 0] 24)).cell? ⟨wq2.heap.size, 0, none⟩ = some (.int .i64 0) := by simp [go_sem]
       have nn15f0 : (wq2.alloc (Obj.cells #[.int .i64 0, .int .i64 0] 24)).frozen? ⟨wq2.heap.size, 0, none⟩ = false := by simp [go_sem]
       have nn151 : (wq2.alloc (Obj.cells #[.int .i64 0, .int .i64 0] 24)).cell? ⟨wq2.heap.size, 1, none⟩ = some (.int .i64 0) := by simp [go_sem]
       have nn15f1 : (wq2.alloc (Obj.cells #[.int .i64 0, .int .i64 0] 24)).frozen? ⟨wq2.heap.size, 1, none⟩ = false := by simp [go_sem]
       have nn15l0 : w.heap.size < wq2.heap.size := World.block_lt_of_cell? _ ⟨w.heap.size, 0, none⟩ (hHeld.1)
       have nn15l1 : w.heap.size + 1 < wq2.heap.size := World.block_lt_of_cell? _ ⟨w.heap.size + 1, 0, none⟩ (hHeld.2.2.1)
       have nn15l2 : w.heap.size + 1 + 1 < wq2.heap.size := World.block_lt_of_cell? _ ⟨w.heap.size + 1 + 1, 0, none⟩ (hHeld.2.2.2.2.1)
       have hOld := hHeld; clear hHeld; go_simp; refine hK.out _ _ ?_ (fun hHeld => ?_)
       · exact ⟨keepA _ (hOld.1), keepA _ (hOld.2.1), keepA _ (hOld.2.2.1), keepA _ (hOld.2.2.2.1), keepA _ (hOld.2.2.2.2.1), keepA _ (hOld.2.2.2.2.2.1), keepA _ (hOld.2.2.2.2.2.2.1), keepA _ (hOld.2.2.2.2.2.2.2)⟩
       clear hK K hOld
       (try dsimp only at hHeld)
       generalize (wq2.alloc (Obj.cells #[.int .i64 0, .int .i64 0] 24)) = wq3 at *
       have hzq3 : w.heap.size ≤ wq3.heap.size := hBq3.size
       (try simp only [Act.put, List.setIfInBounds_toArray, List.set_cons_zero, List.set_cons_succ])
       refine wpAnyH_ready (rs := [14]) (by kernel_rfl) (by simp) ?_
       refine AllReadyH.cons (o := ⟨some 8, _, _, _, _, none⟩) rfl (fun K hK => ?_) (AllReadyH.nil)
       (try dsimp only at hHeld)
       have hBq4 : Below w.heap.size w (wq3.alloc (Obj.cells #[.int .i64 0, .int .i64 0] 24)) := by go_grown
       have nn140 : (wq3.alloc (Obj.cells #[.int .i64 0, .int .i64 0] 24)).cell? ⟨wq3.heap.size, 0, none⟩ = some (.int .i64 0) := by simp [go_sem]
       have nn14f0 : (wq3.alloc (Obj.cells #[.int .i64 0, .int .i64 0] 24)).frozen? ⟨wq3.heap.size, 0, none⟩ = false := by simp [go_sem]
       have nn141 : (wq3.alloc (Obj.cells #[.int .i64 0, .int .i64 0] 24)).cell? ⟨wq3.heap.size, 1, none⟩ = some (.int .i64 0) := by simp [go_sem]
       have nn14f1 : (wq3.alloc (Obj.cells #[.int .i64 0, .int .i64 0] 24)).frozen? ⟨wq3.heap.size, 1, none⟩ = false := by simp [go_sem]
       have nn14l0 : w.heap.size < wq3.heap.size := World.block_lt_of_cell? _ ⟨w.heap.size, 0, none⟩ (hHeld.1)
       have nn14l1 : w.heap.size + 1 < wq3.heap.size := World.block_lt_of_cell? _ ⟨w.heap.size + 1, 0, none⟩ (hHeld.2.2.1)
       have nn14l2 : w.heap.size + 1 + 1 < wq3.heap.size := World.block_lt_of_cell? _ ⟨w.heap.size + 1 + 1, 0, none⟩ (hHeld.2.2.2.2.1)
       have nn14m15 : wq2.heap.size < wq3.heap.size := World.block_lt_of_cell? _ ⟨wq2.heap.size, 0, none⟩ nn150
       replace nn15f0 := keepAF (Obj.cells #[.int .i64 0, .int .i64 0] 24) nn150 nn15f0
       replace nn150 := keepA (Obj.cells #[.int .i64 0, .int .i64 0] 24) nn150
       replace nn15f1 := keepAF (Obj.cells #[.int .i64 0, .int .i64 0] 24) nn151 nn15f1
       replace nn151 := keepA (Obj.cells #[.int .i64 0, .int .i64 0] 24) nn151
       have hOld := hHeld; clear hHeld; go_simp; refine hK.out _ _ ?_ (fun hHeld => ?_)
       · exact ⟨keepA _ (hOld.1), keepA _ (hOld.2.1), keepA _ (hOld.2.2.1), keepA _ (hOld.2.2.2.1), keepA _ (hOld.2.2.2.2.1), keepA _ (hOld.2.2.2.2.2.1), keepA _ (hOld.2.2.2.2.2.2.1), keepA _ (hOld.2.2.2.2.2.2.2)⟩
       clear hK K hOld
       (try dsimp only at hHeld)
       generalize (wq3.alloc (Obj.cells #[.int .i64 0, .int .i64 0] 24)) = wq4 at *
       have hzq4 : w.heap.size ≤ wq4.heap.size := hBq4.size
       (try simp only [Act.put, List.setIfInBounds_toArray, List.set_cons_zero, List.set_cons_succ])
       refine wpAnyH_ready (rs := [16]) (by kernel_rfl) (by simp) ?_
       refine AllReadyH.cons (o := ⟨none, _, _, _, _, none⟩) rfl (fun K hK => ?_) (AllReadyH.nil)
       (try dsimp only at hHeld)
       have hBq5 : Below w.heap.size w ((wq4.setCell ⟨wq3.heap.size, 0, none⟩ (.int .i64 xl)).setCell ⟨wq3.heap.size, 1, none⟩ (.int .i64 xh)) := by go_grown
       have hOld := hHeld; clear hHeld; go_simp; refine hK.out _ _ ?_ (fun hHeld => ?_)
       · exact ⟨two_other (hOld.1) (Nat.ne_of_gt nn14l0), two_other (hOld.2.1) (Nat.ne_of_gt nn14l0), two_other (hOld.2.2.1) (Nat.ne_of_gt nn14l1), two_other (hOld.2.2.2.1) (Nat.ne_of_gt nn14l1), two_other (hOld.2.2.2.2.1) (Nat.ne_of_gt nn14l2), two_other (hOld.2.2.2.2.2.1) (Nat.ne_of_gt nn14l2), two_other (hOld.2.2.2.2.2.2.1) (Nat.ne_of_gt nn14l2), two_other (hOld.2.2.2.2.2.2.2) (Nat.ne_of_gt nn14l2)⟩
       clear hK K hOld
       (try dsimp only at hHeld)
       replace nn15f0 := two_fz (b := wq3.heap.size) (x := .int .i64 xl) (y := .int .i64 xh) nn15f0
       replace nn150 := two_other (b := wq3.heap.size) (x := .int .i64 xl) (y := .int .i64 xh) nn150 (by omega)
       replace nn15f1 := two_fz (b := wq3.heap.size) (x := .int .i64 xl) (y := .int .i64 xh) nn15f1
       replace nn151 := two_other (b := wq3.heap.size) (x := .int .i64 xl) (y := .int .i64 xh) nn151 (by omega)
       replace nn14f0 := two_fz (b := wq3.heap.size) (x := .int .i64 xl) (y := .int .i64 xh) nn14f0
       replace nn140 := two_0 (x := .int .i64 xl) (y := .int .i64 xh) nn140
       replace nn14f1 := two_fz (b := wq3.heap.size) (x := .int .i64 xl) (y := .int .i64 xh) nn14f1
       replace nn141 := two_1 (x := .int .i64 xl) (y := .int .i64 xh) nn141
       generalize ((wq4.setCell ⟨wq3.heap.size, 0, none⟩ (.int .i64 xl)).setCell ⟨wq3.heap.size, 1, none⟩ (.int .i64 xh)) = wq5 at *
       have hzq5 : w.heap.size ≤ wq5.heap.size := hBq5.size
       (try simp only [Act.put, List.setIfInBounds_toArray, List.set_cons_zero, List.set_cons_succ])
       refine wpAnyH_ready (rs := [17]) (by kernel_rfl) (by simp) ?_
       refine AllReadyH.cons (o := ⟨none, _, _, _, _, none⟩) rfl (fun K hK => ?_) (AllReadyH.nil)
       (try dsimp only at hHeld)
       have hBq6 : Below w.heap.size w ((wq5.setCell ⟨wq2.heap.size, 0, none⟩ (.int .i64 yl)).setCell ⟨wq2.heap.size, 1, none⟩ (.int .i64 yh)) := by go_grown
       have hOld := hHeld; clear hHeld; go_simp; refine hK.out _ _ ?_ (fun hHeld => ?_)
       · exact ⟨two_other (hOld.1) (Nat.ne_of_gt nn15l0), two_other (hOld.2.1) (Nat.ne_of_gt nn15l0), two_other (hOld.2.2.1) (Nat.ne_of_gt nn15l1), two_other (hOld.2.2.2.1) (Nat.ne_of_gt nn15l1), two_other (hOld.2.2.2.2.1) (Nat.ne_of_gt nn15l2), two_other (hOld.2.2.2.2.2.1) (Nat.ne_of_gt nn15l2), two_other (hOld.2.2.2.2.2.2.1) (Nat.ne_of_gt nn15l2), two_other (hOld.2.2.2.2.2.2.2) (Nat.ne_of_gt nn15l2)⟩
       clear hK K hOld
       (try dsimp only at hHeld)
       replace nn15f0 := two_fz (b := wq2.heap.size) (x := .int .i64 yl) (y := .int .i64 yh) nn15f0
       replace nn150 := two_0 (x := .int .i64 yl) (y := .int .i64 yh) nn150
       replace nn15f1 := two_fz (b := wq2.heap.size) (x := .int .i64 yl) (y := .int .i64 yh) nn15f1
       replace nn151 := two_1 (x := .int .i64 yl) (y := .int .i64 yh) nn151
       replace nn14f0 := two_fz (b := wq2.heap.size) (x := .int .i64 yl) (y := .int .i64 yh) nn14f0
       replace nn140 := two_other (b := wq2.heap.size) (x := .int .i64 yl) (y := .int .i64 yh) nn140 (by omega)
       replace nn14f1 := two_fz (b := wq2.heap.size) (x := .int .i64 yl) (y := .int .i64 yh) nn14f1
       replace nn141 := two_other (b := wq2.heap.size) (x := .int .i64 yl) (y := .int .i64 yh) nn141 (by omega)
       generalize ((wq5.setCell ⟨wq2.heap.size, 0, none⟩ (.int .i64 yl)).setCell ⟨wq2.heap.size, 1, none⟩ (.int .i64 yh)) = wq6 at *
       have hzq6 : w.heap.size ≤ wq6.heap.size := hBq6.size
       (try simp only [Act.put, List.setIfInBounds_toArray, List.set_cons_zero, List.set_cons_succ])
       refine wpAnyH_done (by kernel_rfl) ?_ _
       go_wp2_with fail
       go_meet
       obtain ⟨p00, p01, p10, p11, _, _, _, _⟩ := hHeld
       exact ⟨_, _, rfl, rfl, ⟨p00, p01, p10, p11, nn140, nn141, nn150, nn151⟩, by assumption⟩
     ·
      (try dsimp only at hHeld)
      have hBq2 : Below w.heap.size w (wq1.alloc (Obj.cells #[.int .i64 0, .int .i64 0] 24)) := by go_grown
      have nn140 : (wq1.alloc (Obj.cells #[.int .i64 0, .int .i64 0] 24)).cell? ⟨wq1.heap.size, 0, none⟩ = some (.int .i64 0) := by simp [go_sem]
      have nn14f0 : (wq1.alloc (Obj.cells #[.int .i64 0, .int .i64 0] 24)).frozen? ⟨wq1.heap.size, 0, none⟩ = false := by simp [go_sem]
      have nn141 : (wq1.alloc (Obj.cells #[.int .i64 0, .int .i64 0] 24)).cell? ⟨wq1.heap.size, 1, none⟩ = some (.int .i64 0) := by simp [go_sem]
      have nn14f1 : (wq1.alloc (Obj.cells #[.int .i64 0, .int .i64 0] 24)).frozen? ⟨wq1.heap.size, 1, none⟩ = false := by simp [go_sem]
      have nn14l0 : w.heap.size < wq1.heap.size := World.block_lt_of_cell? _ ⟨w.heap.size, 0, none⟩ (hHeld.1)
      have nn14l1 : w.heap.size + 1 < wq1.heap.size := World.block_lt_of_cell? _ ⟨w.heap.size + 1, 0, none⟩ (hHeld.2.2.1)
      have nn14l2 : w.heap.size + 1 + 1 < wq1.heap.size := World.block_lt_of_cell? _ ⟨w.heap.size + 1 + 1, 0, none⟩ (hHeld.2.2.2.2.1)
      have hOld := hHeld; clear hHeld; go_simp; refine hK.out _ _ ?_ (fun hHeld => ?_)
      · exact ⟨keepA _ (hOld.1), keepA _ (hOld.2.1), keepA _ (hOld.2.2.1), keepA _ (hOld.2.2.2.1), keepA _ (hOld.2.2.2.2.1), keepA _ (hOld.2.2.2.2.2.1), keepA _ (hOld.2.2.2.2.2.2.1), keepA _ (hOld.2.2.2.2.2.2.2)⟩
      clear hK K hOld
      (try dsimp only at hHeld)
      generalize (wq1.alloc (Obj.cells #[.int .i64 0, .int .i64 0] 24)) = wq2 at *
      have hzq2 : w.heap.size ≤ wq2.heap.size := hBq2.size
      (try simp only [Act.put, List.setIfInBounds_toArray, List.set_cons_zero, List.set_cons_succ])
      refine wpAnyH_ready (rs := [13, 15]) (by kernel_rfl) (by simp) ?_
      refine AllReadyH.cons (o := ⟨some 55, _, _, _, _, none⟩) rfl (fun K hK => ?_) (AllReadyH.cons (o := ⟨some 9, _, _, _, _, none⟩) rfl (fun K hK => ?_) (AllReadyH.nil))
      ·
       go_simp
       (go_at_call 41; refine useF w ((by first | (with_reducible exact i1.out _) | (with_reducible exact i2.out _))) (by go_grown) ?_; rintro e wq3 rfl hBq3 hkq3 hfq3 hsq3)
       have hOld := hHeld; clear hHeld; refine hK.out _ _ ?_ (fun hHeld => ?_)
       · exact ⟨hkq3 _ _ _ (hOld.1), hkq3 _ _ _ (hOld.2.1), hkq3 _ _ _ (hOld.2.2.1), hkq3 _ _ _ (hOld.2.2.2.1), hkq3 _ _ _ (hOld.2.2.2.2.1), hkq3 _ _ _ (hOld.2.2.2.2.2.1), hkq3 _ _ _ (hOld.2.2.2.2.2.2.1), hkq3 _ _ _ (hOld.2.2.2.2.2.2.2)⟩
       clear hK K hOld
       replace nn14f0 := hfq3 _ _ _ nn140 nn14f0
       replace nn140 := hkq3 _ _ _ nn140
       replace nn14f1 := hfq3 _ _ _ nn141 nn14f1
       replace nn141 := hkq3 _ _ _ nn141
       clear hkq3 hfq3 hsq3
       have hzq3 : w.heap.size ≤ wq3.heap.size := hBq3.size
       (try simp only [Act.put, List.setIfInBounds_toArray, List.set_cons_zero, List.set_cons_succ])
       refine wpAnyH_ready (rs := [15]) (by kernel_rfl) (by simp) ?_
       refine AllReadyH.cons (o := ⟨some 9, _, _, _, _, none⟩) rfl (fun K hK => ?_) (AllReadyH.nil)
       (try dsimp only at hHeld)
       have hBq4 : Below w.heap.size w (wq3.alloc (Obj.cells #[.int .i64 0, .int .i64 0] 24)) := by go_grown
       have nn150 : (wq3.alloc (Obj.cells #[.int .i64 0, .int .i64 0] 24)).cell? ⟨wq3.heap.size, 0, none⟩ = some (.int .i64 0) := by simp [go_sem]
       have nn15f0 : (wq3.alloc (Obj.cells #[.int .i64 0, .int .i64 0] 24)).frozen? ⟨wq3.heap.size, 0, none⟩ = false := by simp [go_sem]
       have nn151 : (wq3.alloc (Obj.cells #[.int .i64 0, .int .i64 0] 24)).cell? ⟨wq3.heap.size, 1, none⟩ = some (.int .i64 0) := by simp [go_sem]
       have nn15f1 : (wq3.alloc (Obj.cells #[.int .i64 0, .int .i64 0] 24)).frozen? ⟨wq3.heap.size, 1, none⟩ = false := by simp [go_sem]
       have nn15l0 : w.heap.size < wq3.heap.size := World.block_lt_of_cell? _ ⟨w.heap.size, 0, none⟩ (hHeld.1)
       have nn15l1 : w.heap.size + 1 < wq3.heap.size := World.block_lt_of_cell? _ ⟨w.heap.size + 1, 0, none⟩ (hHeld.2.2.1)
       have nn15l2 : w.heap.size + 1 + 1 < wq3.heap.size := World.block_lt_of_cell? _ ⟨w.heap.size + 1 + 1, 0, none⟩ (hHeld.2.2.2.2.1)
       have nn15m14 : wq1.heap.size < wq3.heap.size := World.block_lt_of_cell? _ ⟨wq1.heap.size, 0, none⟩ nn140
       replace nn14f0 := keepAF (Obj.cells #[.int .i64 0, .int .i64 0] 24) nn140 nn14f0
       replace nn140 := keepA (Obj.cells #[.int .i64 0, .int .i64 0] 24) nn140
       replace nn14f1 := keepAF (Obj.cells #[.int .i64 0, .int .i64 0] 24) nn141 nn14f1
       replace nn141 := keepA (Obj.cells #[.int .i64 0, .int .i64 0] 24) nn141
       have hOld := hHeld; clear hHeld; go_simp; refine hK.out _ _ ?_ (fun hHeld => ?_)
       · exact ⟨keepA _ (hOld.1), keepA _ (hOld.2.1), keepA _ (hOld.2.2.1), keepA _ (hOld.2.2.2.1), keepA _ (hOld.2.2.2.2.1), keepA _ (hOld.2.2.2.2.2.1), keepA _ (hOld.2.2.2.2.2.2.1), keepA _ (hOld.2.2.2.2.2.2.2)⟩
       clear hK K hOld
       (try dsimp only at hHeld)
       generalize (wq3.alloc (Obj.cells #[.int .i64 0, .int .i64 0] 24)) = wq4 at *
       have hzq4 : w.heap.size ≤ wq4.heap.size := hBq4.size
       (try simp only [Act.put, List.setIfInBounds_toArray, List.set_cons_zero, List.set_cons_succ])
       refine wpAnyH_ready (rs := [16]) (by kernel_rfl) (by simp) ?_
       refine AllReadyH.cons (o := ⟨none, _, _, _, _, none⟩) rfl (fun K hK => ?_) (AllReadyH.nil)
       (try dsimp only at hHeld)
       have hBq5 : Below w.heap.size w ((wq4.setCell ⟨wq1.heap.size, 0, none⟩ (.int .i64 xl)).setCell ⟨wq1.heap.size, 1, none⟩ (.int .i64 xh)) := by go_grown
       have hOld := hHeld; clear hHeld; go_simp; refine hK.out _ _ ?_ (fun hHeld => ?_)
       · exact ⟨two_other (hOld.1) (Nat.ne_of_gt nn14l0), two_other (hOld.2.1) (Nat.ne_of_gt nn14l0), two_other (hOld.2.2.1) (Nat.ne_of_gt nn14l1), two_other (hOld.2.2.2.1) (Nat.ne_of_gt nn14l1), two_other (hOld.2.2.2.2.1) (Nat.ne_of_gt nn14l2), two_other (hOld.2.2.2.2.2.1) (Nat.ne_of_gt nn14l2), two_other (hOld.2.2.2.2.2.2.1) (Nat.ne_of_gt nn14l2), two_other (hOld.2.2.2.2.2.2.2) (Nat.ne_of_gt nn14l2)⟩
       clear hK K hOld
       (try dsimp only at hHeld)
       replace nn14f0 := two_fz (b := wq1.heap.size) (x := .int .i64 xl) (y := .int .i64 xh) nn14f0
       replace nn140 := two_0 (x := .int .i64 xl) (y := .int .i64 xh) nn140
       replace nn14f1 := two_fz (b := wq1.heap.size) (x := .int .i64 xl) (y := .int .i64 xh) nn14f1
       replace nn141 := two_1 (x := .int .i64 xl) (y := .int .i64 xh) nn141
       replace nn15f0 := two_fz (b := wq1.heap.size) (x := .int .i64 xl) (y := .int .i64 xh) nn15f0
       replace nn150 := two_other (b := wq1.heap.size) (x := .int .i64 xl) (y := .int .i64 xh) nn150 (by omega)
       replace nn15f1 := two_fz (b := wq1.heap.size) (x := .int .i64 xl) (y := .int .i64 xh) nn15f1
       replace nn151 := two_other (b := wq1.heap.size) (x := .int .i64 xl) (y := .int .i64 xh) nn151 (by omega)
       generalize ((wq4.setCell ⟨wq1.heap.size, 0, none⟩ (.int .i64 xl)).setCell ⟨wq1.heap.size, 1, none⟩ (.int .i64 xh)) = wq5 at *
       have hzq5 : w.heap.size ≤ wq5.heap.size := hBq5.size
       (try simp only [Act.put, List.setIfInBounds_toArray, List.set_cons_zero, List.set_cons_succ])
       refine wpAnyH_ready (rs := [17]) (by kernel_rfl) (by simp) ?_
       refine AllReadyH.cons (o := ⟨none, _, _, _, _, none⟩) rfl (fun K hK => ?_) (AllReadyH.nil)
       (try dsimp only at hHeld)
       have hBq6 : Below w.heap.size w ((wq5.setCell ⟨wq3.heap.size, 0, none⟩ (.int .i64 yl)).setCell ⟨wq3.heap.size, 1, none⟩ (.int .i64 yh)) := by go_grown
       have hOld := hHeld; clear hHeld; go_simp; refine hK.out _ _ ?_ (fun hHeld => ?_)
       · exact ⟨two_other (hOld.1) (Nat.ne_of_gt nn15l0), two_other (hOld.2.1) (Nat.ne_of_gt nn15l0), two_other (hOld.2.2.1) (Nat.ne_of_gt nn15l1), two_other (hOld.2.2.2.1) (Nat.ne_of_gt nn15l1), two_other (hOld.2.2.2.2.1) (Nat.ne_of_gt nn15l2), two_other (hOld.2.2.2.2.2.1) (Nat.ne_of_gt nn15l2), two_other (hOld.2.2.2.2.2.2.1) (Nat.ne_of_gt nn15l2), two_other (hOld.2.2.2.2.2.2.2) (Nat.ne_of_gt nn15l2)⟩
       clear hK K hOld
       (try dsimp only at hHeld)
       replace nn14f0 := two_fz (b := wq3.heap.size) (x := .int .i64 yl) (y := .int .i64 yh) nn14f0
       replace nn140 := two_other (b := wq3.heap.size) (x := .int .i64 yl) (y := .int .i64 yh) nn140 (by omega)
       replace nn14f1 := two_fz (b := wq3.heap.size) (x := .int .i64 yl) (y := .int .i64 yh) nn14f1
       replace nn141 := two_other (b := wq3.heap.size) (x := .int .i64 yl) (y := .int .i64 yh) nn141 (by omega)
       replace nn15f0 := two_fz (b := wq3.heap.size) (x := .int .i64 yl) (y := .int .i64 yh) nn15f0
       replace nn150 := two_0 (x := .int .i64 yl) (y := .int .i64 yh) nn150
       replace nn15f1 := two_fz (b := wq3.heap.size) (x := .int .i64 yl) (y := .int .i64 yh) nn15f1
       replace nn151 := two_1 (x := .int .i64 yl) (y := .int .i64 yh) nn151
       generalize ((wq5.setCell ⟨wq3.heap.size, 0, none⟩ (.int .i64 yl)).setCell ⟨wq3.heap.size, 1, none⟩ (.int .i64 yh)) = wq6 at *
       have hzq6 : w.heap.size ≤ wq6.heap.size := hBq6.size
       (try simp only [Act.put, List.setIfInBounds_toArray, List.set_cons_zero, List.set_cons_succ])
       refine wpAnyH_done (by kernel_rfl) ?_ _
       go_wp2_with fail
       go_meet
       obtain ⟨p00, p01, p10, p11, _, _, _, _⟩ := hHeld
       exact ⟨_, _, rfl, rfl, ⟨p00, p01, p10, p11, nn140, nn141, nn150, nn151⟩, by assumption⟩
      ·
       (try dsimp only at hHeld)
       have hBq3 : Below w.heap.size w (wq2.alloc (Obj.cells #[.int .i64 0, .int .i64 0] 24)) := by go_grown
       have nn150 : (wq2.alloc (Obj.cells #[.int .i64 0, .int .i64 0] 24)).cell? ⟨wq2.heap.size, 0, none⟩ = some (.int .i64 0) := by simp [go_sem]
       have nn15f0 : (wq2.alloc (Obj.cells #[.int .i64 0, .int .i64 0] 24)).frozen? ⟨wq2.heap.size, 0, none⟩ = false := by simp [go_sem]
       have nn151 : (wq2.alloc (Obj.cells #[.int .i64 0, .int .i64 0] 24)).cell? ⟨wq2.heap.size, 1, none⟩ = some (.int .i64 0) := by simp [go_sem]
       have nn15f1 : (wq2.alloc (Obj.cells #[.int .i64 0, .int .i64 0] 24)).frozen? ⟨wq2.heap.size, 1, none⟩ = false := by simp [go_sem]
       have nn15l0 : w.heap.size < wq2.heap.size := World.block_lt_of_cell? _ ⟨w.heap.size, 0, none⟩ (hHeld.1)
       have nn15l1 : w.heap.size + 1 < wq2.heap.size := World.block_lt_of_cell? _ ⟨w.heap.size + 1, 0, none⟩ (hHeld.2.2.1)
       have nn15l2 : w.heap.size + 1 + 1 < wq2.heap.size := World.block_lt_of_cell? _ ⟨w.heap.size + 1 + 1, 0, none⟩ (hHeld.2.2.2.2.1)
       have nn15m14 : wq1.heap.size < wq2.heap.size := World.block_lt_of_cell? _ ⟨wq1.heap.size, 0, none⟩ nn140
       replace nn14f0 := keepAF (Obj.cells #[.int .i64 0, .int .i64 0] 24) nn140 nn14f0
       replace nn140 := keepA (Obj.cells #[.int .i64 0, .int .i64 0] 24) nn140
       replace nn14f1 := keepAF (Obj.cells #[.int .i64 0, .int .i64 0] 24) nn141 nn14f1
       replace nn141 := keepA (Obj.cells #[.int .i64 0, .int .i64 0] 24) nn141
       have hOld := hHeld; clear hHeld; go_simp; refine hK.out _ _ ?_ (fun hHeld => ?_)
       · exact ⟨keepA _ (hOld.1), keepA _ (hOld.2.1), keepA _ (hOld.2.2.1), keepA _ (hOld.2.2.2.1), keepA _ (hOld.2.2.2.2.1), keepA _ (hOld.2.2.2.2.2.1), keepA _ (hOld.2.2.2.2.2.2.1), keepA _ (hOld.2.2.2.2.2.2.2)⟩
       clear hK K hOld
       (try dsimp only at hHeld)
       generalize (wq2.alloc (Obj.cells #[.int .i64 0, .int .i64 0] 24)) = wq3 at *
       have hzq3 : w.heap.size ≤ wq3.heap.size := hBq3.size
       (try simp only [Act.put, List.setIfInBounds_toArray, List.set_cons_zero, List.set_cons_succ])
       refine wpAnyH_ready (rs := [13]) (by kernel_rfl) (by simp) ?_
       refine AllReadyH.cons (o := ⟨some 55, _, _, _, _, none⟩) rfl (fun K hK => ?_) (AllReadyH.nil)
       go_simp
       (go_at_call 41; refine useF w ((by first | (with_reducible exact i1.out _) | (with_reducible exact i2.out _))) (by go_grown) ?_; rintro e wq4 rfl hBq4 hkq4 hfq4 hsq4)
       have hOld := hHeld; clear hHeld; refine hK.out _ _ ?_ (fun hHeld => ?_)
       · exact ⟨hkq4 _ _ _ (hOld.1), hkq4 _ _ _ (hOld.2.1), hkq4 _ _ _ (hOld.2.2.1), hkq4 _ _ _ (hOld.2.2.2.1), hkq4 _ _ _ (hOld.2.2.2.2.1), hkq4 _ _ _ (hOld.2.2.2.2.2.1), hkq4 _ _ _ (hOld.2.2.2.2.2.2.1), hkq4 _ _ _ (hOld.2.2.2.2.2.2.2)⟩
       clear hK K hOld
       replace nn14f0 := hfq4 _ _ _ nn140 nn14f0
       replace nn140 := hkq4 _ _ _ nn140
       replace nn14f1 := hfq4 _ _ _ nn141 nn14f1
       replace nn141 := hkq4 _ _ _ nn141
       replace nn15f0 := hfq4 _ _ _ nn150 nn15f0
       replace nn150 := hkq4 _ _ _ nn150
       replace nn15f1 := hfq4 _ _ _ nn151 nn15f1
       replace nn151 := hkq4 _ _ _ nn151
       clear hkq4 hfq4 hsq4
       have hzq4 : w.heap.size ≤ wq4.heap.size := hBq4.size
       (try simp only [Act.put, List.setIfInBounds_toArray, List.set_cons_zero, List.set_cons_succ])
       refine wpAnyH_ready (rs := [16]) (by kernel_rfl) (by simp) ?_
       refine AllReadyH.cons (o := ⟨none, _, _, _, _, none⟩) rfl (fun K hK => ?_) (AllReadyH.nil)
       (try dsimp only at hHeld)
       have hBq5 : Below w.heap.size w ((wq4.setCell ⟨wq1.heap.size, 0, none⟩ (.int .i64 xl)).setCell ⟨wq1.heap.size, 1, none⟩ (.int .i64 xh)) := by go_grown
       have hOld := hHeld; clear hHeld; go_simp; refine hK.out _ _ ?_ (fun hHeld => ?_)
       · exact ⟨two_other (hOld.1) (Nat.ne_of_gt nn14l0), two_other (hOld.2.1) (Nat.ne_of_gt nn14l0), two_other (hOld.2.2.1) (Nat.ne_of_gt nn14l1), two_other (hOld.2.2.2.1) (Nat.ne_of_gt nn14l1), two_other (hOld.2.2.2.2.1) (Nat.ne_of_gt nn14l2), two_other (hOld.2.2.2.2.2.1) (Nat.ne_of_gt nn14l2), two_other (hOld.2.2.2.2.2.2.1) (Nat.ne_of_gt nn14l2), two_other (hOld.2.2.2.2.2.2.2) (Nat.ne_of_gt nn14l2)⟩
       clear hK K hOld
       (try dsimp only at hHeld)
       replace nn14f0 := two_fz (b := wq1.heap.size) (x := .int .i64 xl) (y := .int .i64 xh) nn14f0
       replace nn140 := two_0 (x := .int .i64 xl) (y := .int .i64 xh) nn140
       replace nn14f1 := two_fz (b := wq1.heap.size) (x := .int .i64 xl) (y := .int .i64 xh) nn14f1
       replace nn141 := two_1 (x := .int .i64 xl) (y := .int .i64 xh) nn141
       replace nn15f0 := two_fz (b := wq1.heap.size) (x := .int .i64 xl) (y := .int .i64 xh) nn15f0
       replace nn150 := two_other (b := wq1.heap.size) (x := .int .i64 xl) (y := .int .i64 xh) nn150 (by omega)
       replace nn15f1 := two_fz (b := wq1.heap.size) (x := .int .i64 xl) (y := .int .i64 xh) nn15f1
       replace nn151 := two_other (b := wq1.heap.size) (x := .int .i64 xl) (y := .int .i64 xh) nn151 (by omega)
       generalize ((wq4.setCell ⟨wq1.heap.size, 0, none⟩ (.int .i64 xl)).setCell ⟨wq1.heap.size, 1, none⟩ (.int .i64 xh)) = wq5 at *
       have hzq5 : w.heap.size ≤ wq5.heap.size := hBq5.size
       (try simp only [Act.put, List.setIfInBounds_toArray, List.set_cons_zero, List.set_cons_succ])
       refine wpAnyH_ready (rs := [17]) (by kernel_rfl) (by simp) ?_
       refine AllReadyH.cons (o := ⟨none, _, _, _, _, none⟩) rfl (fun K hK => ?_) (AllReadyH.nil)
       (try dsimp only at hHeld)
       have hBq6 : Below w.heap.size w ((wq5.setCell ⟨wq2.heap.size, 0, none⟩ (.int .i64 yl)).setCell ⟨wq2.heap.size, 1, none⟩ (.int .i64 yh)) := by go_grown
       have hOld := hHeld; clear hHeld; go_simp; refine hK.out _ _ ?_ (fun hHeld => ?_)
       · exact ⟨two_other (hOld.1) (Nat.ne_of_gt nn15l0), two_other (hOld.2.1) (Nat.ne_of_gt nn15l0), two_other (hOld.2.2.1) (Nat.ne_of_gt nn15l1), two_other (hOld.2.2.2.1) (Nat.ne_of_gt nn15l1), two_other (hOld.2.2.2.2.1) (Nat.ne_of_gt nn15l2), two_other (hOld.2.2.2.2.2.1) (Nat.ne_of_gt nn15l2), two_other (hOld.2.2.2.2.2.2.1) (Nat.ne_of_gt nn15l2), two_other (hOld.2.2.2.2.2.2.2) (Nat.ne_of_gt nn15l2)⟩
       clear hK K hOld
       (try dsimp only at hHeld)
       replace nn14f0 := two_fz (b := wq2.heap.size) (x := .int .i64 yl) (y := .int .i64 yh) nn14f0
       replace nn140 := two_other (b := wq2.heap.size) (x := .int .i64 yl) (y := .int .i64 yh) nn140 (by omega)
       replace nn14f1 := two_fz (b := wq2.heap.size) (x := .int .i64 yl) (y := .int .i64 yh) nn14f1
       replace nn141 := two_other (b := wq2.heap.size) (x := .int .i64 yl) (y := .int .i64 yh) nn141 (by omega)
       replace nn15f0 := two_fz (b := wq2.heap.size) (x := .int .i64 yl) (y := .int .i64 yh) nn15f0
       replace nn150 := two_0 (x := .int .i64 yl) (y := .int .i64 yh) nn150
       replace nn15f1 := two_fz (b := wq2.heap.size) (x := .int .i64 yl) (y := .int .i64 yh) nn15f1
       replace nn151 := two_1 (x := .int .i64 yl) (y := .int .i64 yh) nn151
       generalize ((wq5.setCell ⟨wq2.heap.size, 0, none⟩ (.int .i64 yl)).setCell ⟨wq2.heap.size, 1, none⟩ (.int .i64 yh)) = wq6 at *
       have hzq6 : w.heap.size ≤ wq6.heap.size := hBq6.size
       (try simp only [Act.put, List.setIfInBounds_toArray, List.set_cons_zero, List.set_cons_succ])
       refine wpAnyH_done (by kernel_rfl) ?_ _
       go_wp2_with fail
       go_meet
       obtain ⟨p00, p01, p10, p11, _, _, _, _⟩ := hHeld
       exact ⟨_, _, rfl, rfl, ⟨p00, p01, p10, p11, nn140, nn141, nn150, nn151⟩, by assumption⟩
     ·
      (try dsimp only at hHeld)
      have hBq2 : Below w.heap.size w (wq1.alloc (Obj.cells #[.int .i64 0, .int .i64 0] 24)) := by go_grown
      have nn150 : (wq1.alloc (Obj.cells #[.int .i64 0, .int .i64 0] 24)).cell? ⟨wq1.heap.size, 0, none⟩ = some (.int .i64 0) := by simp [go_sem]
      have nn15f0 : (wq1.alloc (Obj.cells #[.int .i64 0, .int .i64 0] 24)).frozen? ⟨wq1.heap.size, 0, none⟩ = false := by simp [go_sem]
      have nn151 : (wq1.alloc (Obj.cells #[.int .i64 0, .int .i64 0] 24)).cell? ⟨wq1.heap.size, 1, none⟩ = some (.int .i64 0) := by simp [go_sem]
      have nn15f1 : (wq1.alloc (Obj.cells #[.int .i64 0, .int .i64 0] 24)).frozen? ⟨wq1.heap.size, 1, none⟩ = false := by simp [go_sem]
      have nn15l0 : w.heap.size < wq1.heap.size := World.block_lt_of_cell? _ ⟨w.heap.size, 0, none⟩ (hHeld.1)
      have nn15l1 : w.heap.size + 1 < wq1.heap.size := World.block_lt_of_cell? _ ⟨w.heap.size + 1, 0, none⟩ (hHeld.2.2.1)
      have nn15l2 : w.heap.size + 1 + 1 < wq1.heap.size := World.block_lt_of_cell? _ ⟨w.heap.size + 1 + 1, 0, none⟩ (hHeld.2.2.2.2.1)
      have hOld := hHeld; clear hHeld; go_simp; refine hK.out _ _ ?_ (fun hHeld => ?_)
      · exact ⟨keepA _ (hOld.1), keepA _ (hOld.2.1), keepA _ (hOld.2.2.1), keepA _ (hOld.2.2.2.1), keepA _ (hOld.2.2.2.2.1), keepA _ (hOld.2.2.2.2.2.1), keepA _ (hOld.2.2.2.2.2.2.1), keepA _ (hOld.2.2.2.2.2.2.2)⟩
      clear hK K hOld
      (try dsimp only at hHeld)
      generalize (wq1.alloc (Obj.cells #[.int .i64 0, .int .i64 0] 24)) = wq2 at *
      have hzq2 : w.heap.size ≤ wq2.heap.size := hBq2.size
      (try simp only [Act.put, List.setIfInBounds_toArray, List.set_cons_zero, List.set_cons_succ])
      refine wpAnyH_ready (rs := [13, 14]) (by kernel_rfl) (by simp) ?_
      refine AllReadyH.cons (o := ⟨some 55, _, _, _, _, none⟩) rfl (fun K hK => ?_) (AllReadyH.cons (o := ⟨some 8, _, _, _, _, none⟩) rfl (fun K hK => ?_) (AllReadyH.nil))
      ·
       go_simp
       (go_at_call 41; refine useF w ((by first | (with_reducible exact i1.out _) | (with_reducible exact i2.out _))) (by go_grown) ?_; rintro e wq3 rfl hBq3 hkq3 hfq3 hsq3)
       have hOld := hHeld; clear hHeld; refine hK.out _ _ ?_ (fun hHeld => ?_)
       · exact ⟨hkq3 _ _ _ (hOld.1), hkq3 _ _ _ (hOld.2.1), hkq3 _ _ _ (hOld.2.2.1), hkq3 _ _ _ (hOld.2.2.2.1), hkq3 _ _ _ (hOld.2.2.2.2.1), hkq3 _ _ _ (hOld.2.2.2.2.2.1), hkq3 _ _ _ (hOld.2.2.2.2.2.2.1), hkq3 _ _ _ (hOld.2.2.2.2.2.2.2)⟩
       clear hK K hOld
       replace nn15f0 := hfq3 _ _ _ nn150 nn15f0
       replace nn150 := hkq3 _ _ _ nn150
       replace nn15f1 := hfq3 _ _ _ nn151 nn15f1
       replace nn151 := hkq3 _ _ _ nn151
       clear hkq3 hfq3 hsq3
       have hzq3 : w.heap.size ≤ wq3.heap.size := hBq3.size
       (try simp only [Act.put, List.setIfInBounds_toArray, List.set_cons_zero, List.set_cons_succ])
       refine wpAnyH_ready (rs := [14]) (by kernel_rfl) (by simp) ?_
       refine AllReadyH.cons (o := ⟨some 8, _, _, _, _, none⟩) rfl (fun K hK => ?_) (AllReadyH.nil)
       (try dsimp only at hHeld)
       have hBq4 : Below w.heap.size w (wq3.alloc (Obj.cells #[.int .i64 0, .int .i64 0] 24)) := by go_grown
       have nn140 : (wq3.alloc (Obj.cells #[.int .i64 0, .int .i64 0] 24)).cell? ⟨wq3.heap.size, 0, none⟩ = some (.int .i64 0) := by simp [go_sem]
       have nn14f0 : (wq3.alloc (Obj.cells #[.int .i64 0, .int .i64 0] 24)).frozen? ⟨wq3.heap.size, 0, none⟩ = false := by simp [go_sem]
       have nn141 : (wq3.alloc (Obj.cells #[.int .i64 0, .int .i64 0] 24)).cell? ⟨wq3.heap.size, 1, none⟩ = some (.int .i64 0) := by simp [go_sem]
       have nn14f1 : (wq3.alloc (Obj.cells #[.int .i64 0, .int .i64 0] 24)).frozen? ⟨wq3.heap.size, 1, none⟩ = false := by simp [go_sem]
       have nn14l0 : w.heap.size < wq3.heap.size := World.block_lt_of_cell? _ ⟨w.heap.size, 0, none⟩ (hHeld.1)
       have nn14l1 : w.heap.size + 1 < wq3.heap.size := World.block_lt_of_cell? _ ⟨w.heap.size + 1, 0, none⟩ (hHeld.2.2.1)
       have nn14l2 : w.heap.size + 1 + 1 < wq3.heap.size := World.block_lt_of_cell? _ ⟨w.heap.size + 1 + 1, 0, none⟩ (hHeld.2.2.2.2.1)
       have nn14m15 : wq1.heap.size < wq3.heap.size := World.block_lt_of_cell? _ ⟨wq1.heap.size, 0, none⟩ nn150
       replace nn15f0 := keepAF (Obj.cells #[.int .i64 0, .int .i64 0] 24) nn150 nn15f0
       replace nn150 := keepA (Obj.cells #[.int .i64 0, .int .i64 0] 24) nn150
       replace nn15f1 := keepAF (Obj.cells #[.int .i64 0, .int .i64 0] 24) nn151 nn15f1
       replace nn151 := keepA (Obj.cells #[.int .i64 0, .int .i64 0] 24) nn151
       have hOld := hHeld; clear hHeld; go_simp; refine hK.out _ _ ?_ (fun hHeld => ?_)
       · exact ⟨keepA _ (hOld.1), keepA _ (hOld.2.1), keepA _ (hOld.2.2.1), keepA _ (hOld.2.2.2.1), keepA _ (hOld.2.2.2.2.1), keepA _ (hOld.2.2.2.2.2.1), keepA _ (hOld.2.2.2.2.2.2.1), keepA _ (hOld.2.2.2.2.2.2.2)⟩
       clear hK K hOld
       (try dsimp only at hHeld)
       generalize (wq3.alloc (Obj.cells #[.int .i64 0, .int .i64 0] 24)) = wq4 at *
       have hzq4 : w.heap.size ≤ wq4.heap.size := hBq4.size
       (try simp only [Act.put, List.setIfInBounds_toArray, List.set_cons_zero, List.set_cons_succ])
       refine wpAnyH_ready (rs := [16]) (by kernel_rfl) (by simp) ?_
       refine AllReadyH.cons (o := ⟨none, _, _, _, _, none⟩) rfl (fun K hK => ?_) (AllReadyH.nil)
       (try dsimp only at hHeld)
       have hBq5 : Below w.heap.size w ((wq4.setCell ⟨wq3.heap.size, 0, none⟩ (.int .i64 xl)).setCell ⟨wq3.heap.size, 1, none⟩ (.int .i64 xh)) := by go_grown
       have hOld := hHeld; clear hHeld; go_simp; refine hK.out _ _ ?_ (fun hHeld => ?_)
       · exact ⟨two_other (hOld.1) (Nat.ne_of_gt nn14l0), two_other (hOld.2.1) (Nat.ne_of_gt nn14l0), two_other (hOld.2.2.1) (Nat.ne_of_gt nn14l1), two_other (hOld.2.2.2.1) (Nat.ne_of_gt nn14l1), two_other (hOld.2.2.2.2.1) (Nat.ne_of_gt nn14l2), two_other (hOld.2.2.2.2.2.1) (Nat.ne_of_gt nn14l2), two_other (hOld.2.2.2.2.2.2.1) (Nat.ne_of_gt nn14l2), two_other (hOld.2.2.2.2.2.2.2) (Nat.ne_of_gt nn14l2)⟩
       clear hK K hOld
       (try dsimp only at hHeld)
       replace nn15f0 := two_fz (b := wq3.heap.size) (x := .int .i64 xl) (y := .int .i64 xh) nn15f0
       replace nn150 := two_other (b := wq3.heap.size) (x := .int .i64 xl) (y := .int .i64 xh) nn150 (by omega)
       replace nn15f1 := two_fz (b := wq3.heap.size) (x := .int .i64 xl) (y := .int .i64 xh) nn15f1
       replace nn151 := two_other (b := wq3.heap.size) (x := .int .i64 xl) (y := .int .i64 xh) nn151 (by omega)
       replace nn14f0 := two_fz (b := wq3.heap.size) (x := .int .i64 xl) (y := .int .i64 xh) nn14f0
       replace nn140 := two_0 (x := .int .i64 xl) (y := .int .i64 xh) nn140
       replace nn14f1 := two_fz (b := wq3.heap.size) (x := .int .i64 xl) (y := .int .i64 xh) nn14f1
       replace nn141 := two_1 (x := .int .i64 xl) (y := .int .i64 xh) nn141
       generalize ((wq4.setCell ⟨wq3.heap.size, 0, none⟩ (.int .i64 xl)).setCell ⟨wq3.heap.size, 1, none⟩ (.int .i64 xh)) = wq5 at *
       have hzq5 : w.heap.size ≤ wq5.heap.size := hBq5.size
       (try simp only [Act.put, List.setIfInBounds_toArray, List.set_cons_zero, List.set_cons_succ])
       refine wpAnyH_ready (rs := [17]) (by kernel_rfl) (by simp) ?_
       refine AllReadyH.cons (o := ⟨none, _, _, _, _, none⟩) rfl (fun K hK => ?_) (AllReadyH.nil)
       (try dsimp only at hHeld)
       have hBq6 : Below w.heap.size w ((wq5.setCell ⟨wq1.heap.size, 0, none⟩ (.int .i64 yl)).setCell ⟨wq1.heap.size, 1, none⟩ (.int .i64 yh)) := by go_grown
       have hOld := hHeld; clear hHeld; go_simp; refine hK.out _ _ ?_ (fun hHeld => ?_)
       · exact ⟨two_other (hOld.1) (Nat.ne_of_gt nn15l0), two_other (hOld.2.1) (Nat.ne_of_gt nn15l0), two_other (hOld.2.2.1) (Nat.ne_of_gt nn15l1), two_other (hOld.2.2.2.1) (Nat.ne_of_gt nn15l1), two_other (hOld.2.2.2.2.1) (Nat.ne_of_gt nn15l2), two_other (hOld.2.2.2.2.2.1) (Nat.ne_of_gt nn15l2), two_other (hOld.2.2.2.2.2.2.1) (Nat.ne_of_gt nn15l2), two_other (hOld.2.2.2.2.2.2.2) (Nat.ne_of_gt nn15l2)⟩
       clear hK K hOld
       (try dsimp only at hHeld)
       replace nn15f0 := two_fz (b := wq1.heap.size) (x := .int .i64 yl) (y := .int .i64 yh) nn15f0
       replace nn150 := two_0 (x := .int .i64 yl) (y := .int .i64 yh) nn150
       replace nn15f1 := two_fz (b := wq1.heap.size) (x := .int .i64 yl) (y := .int .i64 yh) nn15f1
       replace nn151 := two_1 (x := .int .i64 yl) (y := .int .i64 yh) nn151
       replace nn14f0 := two_fz (b := wq1.heap.size) (x := .int .i64 yl) (y := .int .i64 yh) nn14f0
       replace nn140 := two_other (b := wq1.heap.size) (x := .int .i64 yl) (y := .int .i64 yh) nn140 (by omega)
       replace nn14f1 := two_fz (b := wq1.heap.size) (x := .int .i64 yl) (y := .int .i64 yh) nn14f1
       replace nn141 := two_other (b := wq1.heap.size) (x := .int .i64 yl) (y := .int .i64 yh) nn141 (by omega)
       generalize ((wq5.setCell ⟨wq1.heap.size, 0, none⟩ (.int .i64 yl)).setCell ⟨wq1.heap.size, 1, none⟩ (.int .i64 yh)) = wq6 at *
       have hzq6 : w.heap.size ≤ wq6.heap.size := hBq6.size
       (try simp only [Act.put, List.setIfInBounds_toArray, List.set_cons_zero, List.set_cons_succ])
       refine wpAnyH_done (by kernel_rfl) ?_ _
       go_wp2_with fail
       go_meet
       obtain ⟨p00, p01, p10, p11, _, _, _, _⟩ := hHeld
       exact ⟨_, _, rfl, rfl, ⟨p00, p01, p10, p11, nn140, nn141, nn150, nn151⟩, by assumption⟩
      ·
       (try dsimp only at hHeld)
       have hBq3 : Below w.heap.size w (wq2.alloc (Obj.cells #[.int .i64 0, .int .i64 0] 24)) := by go_grown
       have nn140 : (wq2.alloc (Obj.cells #[.int .i64 0, .int .i64 0] 24)).cell? ⟨wq2.heap.size, 0, none⟩ = some (.int .i64 0) := by simp [go_sem]
       have nn14f0 : (wq2.alloc (Obj.cells #[.int .i64 0, .int .i64 0] 24)).frozen? ⟨wq2.heap.size, 0, none⟩ = false := by simp [go_sem]
       have nn141 : (wq2.alloc (Obj.cells #[.int .i64 0, .int .i64 0] 24)).cell? ⟨wq2.heap.size, 1, none⟩ = some (.int .i64 0) := by simp [go_sem]
       have nn14f1 : (wq2.alloc (Obj.cells #[.int .i64 0, .int .i64 0] 24)).frozen? ⟨wq2.heap.size, 1, none⟩ = false := by simp [go_sem]
       have nn14l0 : w.heap.size < wq2.heap.size := World.block_lt_of_cell? _ ⟨w.heap.size, 0, none⟩ (hHeld.1)
       have nn14l1 : w.heap.size + 1 < wq2.heap.size := World.block_lt_of_cell? _ ⟨w.heap.size + 1, 0, none⟩ (hHeld.2.2.1)
       have nn14l2 : w.heap.size + 1 + 1 < wq2.heap.size := World.block_lt_of_cell? _ ⟨w.heap.size + 1 + 1, 0, none⟩ (hHeld.2.2.2.2.1)
       have nn14m15 : wq1.heap.size < wq2.heap.size := World.block_lt_of_cell? _ ⟨wq1.heap.size, 0, none⟩ nn150
       replace nn15f0 := keepAF (Obj.cells #[.int .i64 0, .int .i64 0] 24) nn150 nn15f0
       replace nn150 := keepA (Obj.cells #[.int .i64 0, .int .i64 0] 24) nn150
       replace nn15f1 := keepAF (Obj.cells #[.int .i64 0, .int .i64 0] 24) nn151 nn15f1
       replace nn151 := keepA (Obj.cells #[.int .i64 0, .int .i64 0] 24) nn151
       have hOld := hHeld; clear hHeld; go_simp; refine hK.out _ _ ?_ (fun hHeld => ?_)
       · exact ⟨keepA _ (hOld.1), keepA _ (hOld.2.1), keepA _ (hOld.2.2.1), keepA _ (hOld.2.2.2.1), keepA _ (hOld.2.2.2.2.1), keepA _ (hOld.2.2.2.2.2.1), keepA _ (hOld.2.2.2.2.2.2.1), keepA _ (hOld.2.2.2.2.2.2.2)⟩
       clear hK K hOld
       (try dsimp only at hHeld)
       generalize (wq2.alloc (Obj.cells #[.int .i64 0, .int .i64 0] 24)) = wq3 at *
       have hzq3 : w.heap.size ≤ wq3.heap.size := hBq3.size
       (try simp only [Act.put, List.setIfInBounds_toArray, List.set_cons_zero, List.set_cons_succ])
       refine wpAnyH_ready (rs := [13]) (by kernel_rfl) (by simp) ?_
       refine AllReadyH.cons (o := ⟨some 55, _, _, _, _, none⟩) rfl (fun K hK => ?_) (AllReadyH.nil)
       go_simp
       (go_at_call 41; refine useF w ((by first | (with_reducible exact i1.out _) | (with_reducible exact i2.out _))) (by go_grown) ?_; rintro e wq4 rfl hBq4 hkq4 hfq4 hsq4)
       have hOld := hHeld; clear hHeld; refine hK.out _ _ ?_ (fun hHeld => ?_)
       · exact ⟨hkq4 _ _ _ (hOld.1), hkq4 _ _ _ (hOld.2.1), hkq4 _ _ _ (hOld.2.2.1), hkq4 _ _ _ (hOld.2.2.2.1), hkq4 _ _ _ (hOld.2.2.2.2.1), hkq4 _ _ _ (hOld.2.2.2.2.2.1), hkq4 _ _ _ (hOld.2.2.2.2.2.2.1), hkq4 _ _ _ (hOld.2.2.2.2.2.2.2)⟩
       clear hK K hOld
       replace nn15f0 := hfq4 _ _ _ nn150 nn15f0
       replace nn150 := hkq4 _ _ _ nn150
       replace nn15f1 := hfq4 _ _ _ nn151 nn15f1
       replace nn151 := hkq4 _ _ _ nn151
       replace nn14f0 := hfq4 _ _ _ nn140 nn14f0
       replace nn140 := hkq4 _ _ _ nn140
       replace nn14f1 := hfq4 _ _ _ nn141 nn14f1
       replace nn141 := hkq4 _ _ _ nn141
       clear hkq4 hfq4 hsq4
       have hzq4 : w.heap.size ≤ wq4.heap.size := hBq4.size
       (try simp only [Act.put, List.setIfInBounds_toArray, List.set_cons_zero, List.set_cons_succ])
       refine wpAnyH_ready (rs := [16]) (by kernel_rfl) (by simp) ?_
       refine AllReadyH.cons (o := ⟨none, _, _, _, _, none⟩) rfl (fun K hK => ?_) (AllReadyH.nil)
       (try dsimp only at hHeld)
       have hBq5 : Below w.heap.size w ((wq4.setCell ⟨wq2.heap.size, 0, none⟩ (.int .i64 xl)).setCell ⟨wq2.heap.size, 1, none⟩ (.int .i64 xh)) := by go_grown
       have hOld := hHeld; clear hHeld; go_simp; refine hK.out _ _ ?_ (fun hHeld => ?_)
       · exact ⟨two_other (hOld.1) (Nat.ne_of_gt nn14l0), two_other (hOld.2.1) (Nat.ne_of_gt nn14l0), two_other (hOld.2.2.1) (Nat.ne_of_gt nn14l1), two_other (hOld.2.2.2.1) (Nat.ne_of_gt nn14l1), two_other (hOld.2.2.2.2.1) (Nat.ne_of_gt nn14l2), two_other (hOld.2.2.2.2.2.1) (Nat.ne_of_gt nn14l2), two_other (hOld.2.2.2.2.2.2.1) (Nat.ne_of_gt nn14l2), two_other (hOld.2.2.2.2.2.2.2) (Nat.ne_of_gt nn14l2)⟩
       clear hK K hOld
       (try dsimp only at hHeld)
       replace nn15f0 := two_fz (b := wq2.heap.size) (x := .int .i64 xl) (y := .int .i64 xh) nn15f0
       replace nn150 := two_other (b := wq2.heap.size) (x := .int .i64 xl) (y := .int .i64 xh) nn150 (by omega)
       replace nn15f1 := two_fz (b := wq2.heap.size) (x := .int .i64 xl) (y := .int .i64 xh) nn15f1
       replace nn151 := two_other (b := wq2.heap.size) (x := .int .i64 xl) (y := .int .i64 xh) nn151 (by omega)
       replace nn14f0 := two_fz (b := wq2.heap.size) (x := .int .i64 xl) (y := .int .i64 xh) nn14f0
       replace nn140 := two_0 (x := .int .i64 xl) (y := .int .i64 xh) nn140
       replace nn14f1 := two_fz (b := wq2.heap.size) (x := .int .i64 xl) (y := .int .i64 xh) nn14f1
       replace nn141 := two_1 (x := .int .i64 xl) (y := .int .i64 xh) nn141
       generalize ((wq4.setCell ⟨wq2.heap.size, 0, none⟩ (.int .i64 xl)).setCell ⟨wq2.heap.size, 1, none⟩ (.int .i64 xh)) = wq5 at *
       have hzq5 : w.heap.size ≤ wq5.heap.size := hBq5.size
       (try simp only [Act.put, List.setIfInBounds_toArray, List.set_cons_zero, List.set_cons_succ])
       refine wpAnyH_ready (rs := [17]) (by kernel_rfl) (by simp) ?_
       refine AllReadyH.cons (o := ⟨none, _, _, _, _, none⟩) rfl (fun K hK => ?_) (AllReadyH.nil)
       (try dsimp only at hHeld)
       have hBq6 : Below w.heap.size w ((wq5.setCell ⟨wq1.heap.size, 0, none⟩ (.int .i64 yl)).setCell ⟨wq1.heap.size, 1, none⟩ (.int .i64 yh)) := by go_grown
       have hOld := hHeld; clear hHeld; go_simp; refine hK.out _ _ ?_ (fun hHeld => ?_)
       · exact ⟨two_other (hOld.1) (Nat.ne_of_gt nn15l0), two_other (hOld.2.1) (Nat.ne_of_gt nn15l0), two_other (hOld.2.2.1) (Nat.ne_of_gt nn15l1), two_other (hOld.2.2.2.1) (Nat.ne_of_gt nn15l1), two_other (hOld.2.2.2.2.1) (Nat.ne_of_gt nn15l2), two_other (hOld.2.2.2.2.2.1) (Nat.ne_of_gt nn15l2), two_other (hOld.2.2.2.2.2.2.1) (Nat.ne_of_gt nn15l2), two_other (hOld.2.2.2.2.2.2.2) (Nat.ne_of_gt nn15l2)⟩
       clear hK K hOld
       (try dsimp only at hHeld)
       replace nn15f0 := two_fz (b := wq1.heap.size) (x := .int .i64 yl) (y := .int .i64 yh) nn15f0
       replace nn150 := two_0 (x := .int .i64 yl) (y := .int .i64 yh) nn150
       replace nn15f1 := two_fz (b := wq1.heap.size) (x := .int .i64 yl) (y := .int .i64 yh) nn15f1
       replace nn151 := two_1 (x := .int .i64 yl) (y := .int .i64 yh) nn151
       replace nn14f0 := two_fz (b := wq1.heap.size) (x := .int .i64 yl) (y := .int .i64 yh) nn14f0
       replace nn140 := two_other (b := wq1.heap.size) (x := .int .i64 yl) (y := .int .i64 yh) nn140 (by omega)
       replace nn14f1 := two_fz (b := wq1.heap.size) (x := .int .i64 yl) (y := .int .i64 yh) nn14f1
       replace nn141 := two_other (b := wq1.heap.size) (x := .int .i64 yl) (y := .int .i64 yh) nn141 (by omega)
       generalize ((wq5.setCell ⟨wq1.heap.size, 0, none⟩ (.int .i64 yl)).setCell ⟨wq1.heap.size, 1, none⟩ (.int .i64 yh)) = wq6 at *
       have hzq6 : w.heap.size ≤ wq6.heap.size := hBq6.size
       (try simp only [Act.put, List.setIfInBounds_toArray, List.set_cons_zero, List.set_cons_succ])
       refine wpAnyH_done (by kernel_rfl) ?_ _
       go_wp2_with fail
       go_meet
       obtain ⟨p00, p01, p10, p11, _, _, _, _⟩ := hHeld
       exact ⟨_, _, rfl, rfl, ⟨p00, p01, p10, p11, nn140, nn141, nn150, nn151⟩, by assumption⟩
    ·
     (try dsimp only at hHeld)
     have hBq1 : Below w.heap.size w (wq0.alloc (Obj.cells #[.int .i64 0, .int .i64 0] 24)) := by go_grown
     have nn140 : (wq0.alloc (Obj.cells #[.int .i64 0, .int .i64 0] 24)).cell? ⟨wq0.heap.size, 0, none⟩ = some (.int .i64 0) := by simp [go_sem]
     have nn14f0 : (wq0.alloc (Obj.cells #[.int .i64 0, .int .i64 0] 24)).frozen? ⟨wq0.heap.size, 0, none⟩ = false := by simp [go_sem]
     have nn141 : (wq0.alloc (Obj.cells #[.int .i64 0, .int .i64 0] 24)).cell? ⟨wq0.heap.size, 1, none⟩ = some (.int .i64 0) := by simp [go_sem]
     have nn14f1 : (wq0.alloc (Obj.cells #[.int .i64 0, .int .i64 0] 24)).frozen? ⟨wq0.heap.size, 1, none⟩ = false := by simp [go_sem]
     have nn14l0 : w.heap.size < wq0.heap.size := World.block_lt_of_cell? _ ⟨w.heap.size, 0, none⟩ (hHeld.1)
     have nn14l1 : w.heap.size + 1 < wq0.heap.size := World.block_lt_of_cell? _ ⟨w.heap.size + 1, 0, none⟩ (hHeld.2.2.1)
     have nn14l2 : w.heap.size + 1 + 1 < wq0.heap.size := World.block_lt_of_cell? _ ⟨w.heap.size + 1 + 1, 0, none⟩ (hHeld.2.2.2.2.1)
     have hOld := hHeld; clear hHeld; go_simp; refine hK.out _ _ ?_ (fun hHeld => ?_)
     · exact ⟨keepA _ (hOld.1), keepA _ (hOld.2.1), keepA _ (hOld.2.2.1), keepA _ (hOld.2.2.2.1), keepA _ (hOld.2.2.2.2.1), keepA _ (hOld.2.2.2.2.2.1), keepA _ (hOld.2.2.2.2.2.2.1), keepA _ (hOld.2.2.2.2.2.2.2)⟩
     clear hK K hOld
     (try dsimp only at hHeld)
     generalize (wq0.alloc (Obj.cells #[.int .i64 0, .int .i64 0] 24)) = wq1 at *
     have hzq1 : w.heap.size ≤ wq1.heap.size := hBq1.size
     (try simp only [Act.put, List.setIfInBounds_toArray, List.set_cons_zero, List.set_cons_succ])
     refine wpAnyH_ready (rs := [6, 15]) (by kernel_rfl) (by simp) ?_
     refine AllReadyH.cons (o := ⟨some 48, _, _, _, _, none⟩) rfl (fun K hK => ?_) (AllReadyH.cons (o := ⟨some 9, _, _, _, _, none⟩) rfl (fun K hK => ?_) (AllReadyH.nil))
     ·
      go_simp
      (go_at_call 41; refine useF w ((by first | (with_reducible exact i1.out _) | (with_reducible exact i2.out _))) (by go_grown) ?_; rintro e wq2 rfl hBq2 hkq2 hfq2 hsq2)
      have hOld := hHeld; clear hHeld; refine hK.out _ _ ?_ (fun hHeld => ?_)
      · exact ⟨hkq2 _ _ _ (hOld.1), hkq2 _ _ _ (hOld.2.1), hkq2 _ _ _ (hOld.2.2.1), hkq2 _ _ _ (hOld.2.2.2.1), hkq2 _ _ _ (hOld.2.2.2.2.1), hkq2 _ _ _ (hOld.2.2.2.2.2.1), hkq2 _ _ _ (hOld.2.2.2.2.2.2.1), hkq2 _ _ _ (hOld.2.2.2.2.2.2.2)⟩
      clear hK K hOld
      replace nn14f0 := hfq2 _ _ _ nn140 nn14f0
      replace nn140 := hkq2 _ _ _ nn140
      replace nn14f1 := hfq2 _ _ _ nn141 nn14f1
      replace nn141 := hkq2 _ _ _ nn141
      clear hkq2 hfq2 hsq2
      have hzq2 : w.heap.size ≤ wq2.heap.size := hBq2.size
      (try simp only [Act.put, List.setIfInBounds_toArray, List.set_cons_zero, List.set_cons_succ])
      refine wpAnyH_ready (rs := [13, 15]) (by kernel_rfl) (by simp) ?_
      refine AllReadyH.cons (o := ⟨some 55, _, _, _, _, none⟩) rfl (fun K hK => ?_) (AllReadyH.cons (o := ⟨some 9, _, _, _, _, none⟩) rfl (fun K hK => ?_) (AllReadyH.nil))
      ·
       go_simp
       (go_at_call 41; refine useF w ((by first | (with_reducible exact i1.out _) | (with_reducible exact i2.out _))) (by go_grown) ?_; rintro e wq3 rfl hBq3 hkq3 hfq3 hsq3)
       have hOld := hHeld; clear hHeld; refine hK.out _ _ ?_ (fun hHeld => ?_)
       · exact ⟨hkq3 _ _ _ (hOld.1), hkq3 _ _ _ (hOld.2.1), hkq3 _ _ _ (hOld.2.2.1), hkq3 _ _ _ (hOld.2.2.2.1), hkq3 _ _ _ (hOld.2.2.2.2.1), hkq3 _ _ _ (hOld.2.2.2.2.2.1), hkq3 _ _ _ (hOld.2.2.2.2.2.2.1), hkq3 _ _ _ (hOld.2.2.2.2.2.2.2)⟩
       clear hK K hOld
       replace nn14f0 := hfq3 _ _ _ nn140 nn14f0
       replace nn140 := hkq3 _ _ _ nn140
       replace nn14f1 := hfq3 _ _ _ nn141 nn14f1
       replace nn141 := hkq3 _ _ _ nn141
       clear hkq3 hfq3 hsq3
       have hzq3 : w.heap.size ≤ wq3.heap.size := hBq3.size
       (try simp only [Act.put, List.setIfInBounds_toArray, List.set_cons_zero, List.set_cons_succ])
       refine wpAnyH_ready (rs := [15]) (by kernel_rfl) (by simp) ?_
       refine AllReadyH.cons (o := ⟨some 9, _, _, _, _, none⟩) rfl (fun K hK => ?_) (AllReadyH.nil)
       (try dsimp only at hHeld)
       have hBq4 : Below w.heap.size w (wq3.alloc (Obj.cells #[.int .i64 0, .int .i64 0] 24)) := by go_grown
       have nn150 : (wq3.alloc (Obj.cells #[.int .i64 0, .int .i64 0] 24)).cell? ⟨wq3.heap.size, 0, none⟩ = some (.int .i64 0) := by simp [go_sem]
       have nn15f0 : (wq3.alloc (Obj.cells #[.int .i64 0, .int .i64 0] 24)).frozen? ⟨wq3.heap.size, 0, none⟩ = false := by simp [go_sem]
       have nn151 : (wq3.alloc (Obj.cells #[.int .i64 0, .int .i64 0] 24)).cell? ⟨wq3.heap.size, 1, none⟩ = some (.int .i64 0) := by simp [go_sem]
       have nn15f1 : (wq3.alloc (Obj.cells #[.int .i64 0, .int .i64 0] 24)).frozen? ⟨wq3.heap.size, 1, none⟩ = false := by simp [go_sem]
       have nn15l0 : w.heap.size < wq3.heap.size := World.block_lt_of_cell? _ ⟨w.heap.size, 0, none⟩ (hHeld.1)
       have nn15l1 : w.heap.size + 1 < wq3.heap.size := World.block_lt_of_cell? _ ⟨w.heap.size + 1, 0, none⟩ (hHeld.2.2.1)
       have nn15l2 : w.heap.size + 1 + 1 < wq3.heap.size := World.block_lt_of_cell? _ ⟨w.heap.size + 1 + 1, 0, none⟩ (hHeld.2.2.2.2.1)
       have nn15m14 : wq0.heap.size < wq3.heap.size := World.block_lt_of_cell? _ ⟨wq0.heap.size, 0, none⟩ nn140
       replace nn14f0 := keepAF (Obj.cells #[.int .i64 0, .int .i64 0] 24) nn140 nn14f0
       replace nn140 := keepA (Obj.cells #[.int .i64 0, .int .i64 0] 24) nn140
       replace nn14f1 := keepAF (Obj.cells #[.int .i64 0, .int .i64 0] 24) nn141 nn14f1
       replace nn141 := keepA (Obj.cells #[.int .i64 0, .int .i64 0] 24) nn141
       have hOld := hHeld; clear hHeld; go_simp; refine hK.out _ _ ?_ (fun hHeld => ?_)
       · exact ⟨keepA _ (hOld.1), keepA _ (hOld.2.1), keepA _ (hOld.2.2.1), keepA _ (hOld.2.2.2.1), keepA _ (hOld.2.2.2.2.1), keepA _ (hOld.2.2.2.2.2.1), keepA _ (hOld.2.2.2.2.2.2.1), keepA _ (hOld.2.2.2.2.2.2.2)⟩
       clear hK K hOld
       (try dsimp only at hHeld)
       generalize (wq3.alloc (Obj.cells #[.int .i64 0, .int .i64 0] 24)) = wq4 at *
       have hzq4 : w.heap.size ≤ wq4.heap.size := hBq4.size
       (try simp only [Act.put, List.setIfInBounds_toArray, List.set_cons_zero, List.set_cons_succ])
       refine wpAnyH_ready (rs := [16]) (by kernel_rfl) (by simp) ?_
       refine AllReadyH.cons (o := ⟨none, _, _, _, _, none⟩) rfl (fun K hK => ?_) (AllReadyH.nil)
       (try dsimp only at hHeld)
       have hBq5 : Below w.heap.size w ((wq4.setCell ⟨wq0.heap.size, 0, none⟩ (.int .i64 xl)).setCell ⟨wq0.heap.size, 1, none⟩ (.int .i64 xh)) := by go_grown
       have hOld := hHeld; clear hHeld; go_simp; refine hK.out _ _ ?_ (fun hHeld => ?_)
       · exact ⟨two_other (hOld.1) (Nat.ne_of_gt nn14l0), two_other (hOld.2.1) (Nat.ne_of_gt nn14l0), two_other (hOld.2.2.1) (Nat.ne_of_gt nn14l1), two_other (hOld.2.2.2.1) (Nat.ne_of_gt nn14l1), two_other (hOld.2.2.2.2.1) (Nat.ne_of_gt nn14l2), two_other (hOld.2.2.2.2.2.1) (Nat.ne_of_gt nn14l2), two_other (hOld.2.2.2.2.2.2.1) (Nat.ne_of_gt nn14l2), two_other (hOld.2.2.2.2.2.2.2) (Nat.ne_of_gt nn14l2)⟩
       clear hK K hOld
       (try dsimp only at hHeld)
       replace nn14f0 := two_fz (b := wq0.heap.size) (x := .int .i64 xl) (y := .int .i64 xh) nn14f0
       replace nn140 := two_0 (x := .int .i64 xl) (y := .int .i64 xh) nn140
       replace nn14f1 := two_fz (b := wq0.heap.size) (x := .int .i64 xl) (y := .int .i64 xh) nn14f1
       replace nn141 := two_1 (x := .int .i64 xl) (y := .int .i64 xh) nn141
       replace nn15f0 := two_fz (b := wq0.heap.size) (x := .int .i64 xl) (y := .int .i64 xh) nn15f0
       replace nn150 := two_other (b := wq0.heap.size) (x := .int .i64 xl) (y := .int .i64 xh) nn150 (by omega)
       replace nn15f1 := two_fz (b := wq0.heap.size) (x := .int .i64 xl) (y := .int .i64 xh) nn15f1
       replace nn151 := two_other (b := wq0.heap.size) (x := .int .i64 xl) (y := .int .i64 xh) nn151 (by omega)
       generalize ((wq4.setCell ⟨wq0.heap.size, 0, none⟩ (.int .i64 xl)).setCell ⟨wq0.heap.size, 1, none⟩ (.int .i64 xh)) = wq5 at *
       have hzq5 : w.heap.size ≤ wq5.heap.size := hBq5.size
       (try simp only [Act.put, List.setIfInBounds_toArray, List.set_cons_zero, List.set_cons_succ])
       refine wpAnyH_ready (rs := [17]) (by kernel_rfl) (by simp) ?_
       refine AllReadyH.cons (o := ⟨none, _, _, _, _, none⟩) rfl (fun K hK => ?_) (AllReadyH.nil)
       (try dsimp only at hHeld)
       have hBq6 : Below w.heap.size w ((wq5.setCell ⟨wq3.heap.size, 0, none⟩ (.int .i64 yl)).setCell ⟨wq3.heap.size, 1, none⟩ (.int .i64 yh)) := by go_grown
       have hOld := hHeld; clear hHeld; go_simp; refine hK.out _ _ ?_ (fun hHeld => ?_)
       · exact ⟨two_other (hOld.1) (Nat.ne_of_gt nn15l0), two_other (hOld.2.1) (Nat.ne_of_gt nn15l0), two_other (hOld.2.2.1) (Nat.ne_of_gt nn15l1), two_other (hOld.2.2.2.1) (Nat.ne_of_gt nn15l1), two_other (hOld.2.2.2.2.1) (Nat.ne_of_gt nn15l2), two_other (hOld.2.2.2.2.2.1) (Nat.ne_of_gt nn15l2), two_other (hOld.2.2.2.2.2.2.1) (Nat.ne_of_gt nn15l2), two_other (hOld.2.2.2.2.2.2.2) (Nat.ne_of_gt nn15l2)⟩
       clear hK K hOld
       (try dsimp only at hHeld)
       replace nn14f0 := two_fz (b := wq3.heap.size) (x := .int .i64 yl) (y := .int .i64 yh) nn14f0
       replace nn140 := two_other (b := wq3.heap.size) (x := .int .i64 yl) (y := .int .i64 yh) nn140 (by omega)
       replace nn14f1 := two_fz (b := wq3.heap.size) (x := .int .i64 yl) (y := .int .i64 yh) nn14f1
       replace nn141 := two_other (b := wq3.heap.size) (x := .int .i64 yl) (y := .int .i64 yh) nn141 (by omega)
       replace nn15f0 := two_fz (b := wq3.heap.size) (x := .int .i64 yl) (y := .int .i64 yh) nn15f0
       replace nn150 := two_0 (x := .int .i64 yl) (y := .int .i64 yh) nn150
       replace nn15f1 := two_fz (b := wq3.heap.size) (x := .int .i64 yl) (y := .int .i64 yh) nn15f1
       replace nn151 := two_1 (x := .int .i64 yl) (y := .int .i64 yh) nn151
       generalize ((wq5.setCell ⟨wq3.heap.size, 0, none⟩ (.int .i64 yl)).setCell ⟨wq3.heap.size, 1, none⟩ (.int .i64 yh)) = wq6 at *
       have hzq6 : w.heap.size ≤ wq6.heap.size := hBq6.size
       (try simp only [Act.put, List.setIfInBounds_toArray, List.set_cons_zero, List.set_cons_succ])
       refine wpAnyH_done (by kernel_rfl) ?_ _
       go_wp2_with fail
       go_meet
       obtain ⟨p00, p01, p10, p11, _, _, _, _⟩ := hHeld
       exact ⟨_, _, rfl, rfl, ⟨p00, p01, p10, p11, nn140, nn141, nn150, nn151⟩, by assumption⟩
      ·
       (try dsimp only at hHeld)
       have hBq3 : Below w.heap.size w (wq2.alloc (Obj.cells #[.int .i64 0, .int .i64 0] 24)) := by go_grown
       have nn150 : (wq2.alloc (Obj.cells #[.int .i64 0, .int .i64 0] 24)).cell? ⟨wq2.heap.size, 0, none⟩ = some (.int .i64 0) := by simp [go_sem]
       have nn15f0 : (wq2.alloc (Obj.cells #[.int .i64 0, .int .i64 0] 24)).frozen? ⟨wq2.heap.size, 0, none⟩ = false := by simp [go_sem]
       have nn151 : (wq2.alloc (Obj.cells #[.int .i64 0, .int .i64 0] 24)).cell? ⟨wq2.heap.size, 1, none⟩ = some (.int .i64 0) := by simp [go_sem]
       have nn15f1 : (wq2.alloc (Obj.cells #[.int .i64 0, .int .i64 0] 24)).frozen? ⟨wq2.heap.size, 1, none⟩ = false := by simp [go_sem]
       have nn15l0 : w.heap.size < wq2.heap.size := World.block_lt_of_cell? _ ⟨w.heap.size, 0, none⟩ (hHeld.1)
       have nn15l1 : w.heap.size + 1 < wq2.heap.size := World.block_lt_of_cell? _ ⟨w.heap.size + 1, 0, none⟩ (hHeld.2.2.1)
       have nn15l2 : w.heap.size + 1 + 1 < wq2.heap.size := World.block_lt_of_cell? _ ⟨w.heap.size + 1 + 1, 0, none⟩ (hHeld.2.2.2.2.1)
       have nn15m14 : wq0.heap.size < wq2.heap.size := World.block_lt_of_cell? _ ⟨wq0.heap.size, 0, none⟩ nn140
       replace nn14f0 := keepAF (Obj.cells #[.int .i64 0, .int .i64 0] 24) nn140 nn14f0
       replace nn140 := keepA (Obj.cells #[.int .i64 0, .int .i64 0] 24) nn140
       replace nn14f1 := keepAF (Obj.cells #[.int .i64 0, .int .i64 0] 24) nn141 nn14f1
       replace nn141 := keepA (Obj.cells #[.int .i64 0, .int .i64 0] 24) nn141
       have hOld := hHeld; clear hHeld; go_simp; refine hK.out _ _ ?_ (fun hHeld => ?_)
       · exact ⟨keepA _ (hOld.1), keepA _ (hOld.2.1), keepA _ (hOld.2.2.1), keepA _ (hOld.2.2.2.1), keepA _ (hOld.2.2.2.2.1), keepA _ (hOld.2.2.2.2.2.1), keepA _ (hOld.2.2.2.2.2.2.1), keepA _ (hOld.2.2.2.2.2.2.2)⟩
       clear hK K hOld
       (try dsimp only at hHeld)
       generalize (wq2.alloc (Obj.cells #[.int .i64 0, .int .i64 0] 24)) = wq3 at *
       have hzq3 : w.heap.size ≤ wq3.heap.size := hBq3.size
       (try simp only [Act.put, List.setIfInBounds_toArray, List.set_cons_zero, List.set_cons_succ])
       refine wpAnyH_ready (rs := [13]) (by kernel_rfl) (by simp) ?_
       refine AllReadyH.cons (o := ⟨some 55, _, _, _, _, none⟩) rfl (fun K hK => ?_) (AllReadyH.nil)
       go_simp
       (go_at_call 41; refine useF w ((by first | (with_reducible exact i1.out _) | (with_reducible exact i2.out _))) (by go_grown) ?_; rintro e wq4 rfl hBq4 hkq4 hfq4 hsq4)
       have hOld := hHeld; clear hHeld; refine hK.out _ _ ?_ (fun hHeld => ?_)
       · exact ⟨hkq4 _ _ _ (hOld.1), hkq4 _ _ _ (hOld.2.1), hkq4 _ _ _ (hOld.2.2.1), hkq4 _ _ _ (hOld.2.2.2.1), hkq4 _ _ _ (hOld.2.2.2.2.1), hkq4 _ _ _ (hOld.2.2.2.2.2.1), hkq4 _ _ _ (hOld.2.2.2.2.2.2.1), hkq4 _ _ _ (hOld.2.2.2.2.2.2.2)⟩
       clear hK K hOld
       replace nn14f0 := hfq4 _ _ _ nn140 nn14f0
       replace nn140 := hkq4 _ _ _ nn140
       replace nn14f1 := hfq4 _ _ _ nn141 nn14f1
       replace nn141 := hkq4 _ _ _ nn141
       replace nn15f0 := hfq4 _ _ _ nn150 nn15f0
       replace nn150 := hkq4 _ _ _ nn150
       replace nn15f1 := hfq4 _ _ _ nn151 nn15f1
       replace nn151 := hkq4 _ _ _ nn151
       clear hkq4 hfq4 hsq4
       have hzq4 : w.heap.size ≤ wq4.heap.size := hBq4.size
       (try simp only [Act.put, List.setIfInBounds_toArray, List.set_cons_zero, List.set_cons_succ])
       refine wpAnyH_ready (rs := [16]) (by kernel_rfl) (by simp) ?_
       refine AllReadyH.cons (o := ⟨none, _, _, _, _, none⟩) rfl (fun K hK => ?_) (AllReadyH.nil)
       (try dsimp only at hHeld)
       have hBq5 : Below w.heap.size w ((wq4.setCell ⟨wq0.heap.size, 0, none⟩ (.int .i64 xl)).setCell ⟨wq0.heap.size, 1, none⟩ (.int .i64 xh)) := by go_grown
       have hOld := hHeld; clear hHeld; go_simp; refine hK.out _ _ ?_ (fun hHeld => ?_)
       · exact ⟨two_other (hOld.1) (Nat.ne_of_gt nn14l0), two_other (hOld.2.1) (Nat.ne_of_gt nn14l0), two_other (hOld.2.2.1) (Nat.ne_of_gt nn14l1), two_other (hOld.2.2.2.1) (Nat.ne_of_gt nn14l1), two_other (hOld.2.2.2.2.1) (Nat.ne_of_gt nn14l2), two_other (hOld.2.2.2.2.2.1) (Nat.ne_of_gt nn14l2), two_other (hOld.2.2.2.2.2.2.1) (Nat.ne_of_gt nn14l2), two_other (hOld.2.2.2.2.2.2.2) (Nat.ne_of_gt nn14l2)⟩
       clear hK K hOld
       (try dsimp only at hHeld)
       replace nn14f0 := two_fz (b := wq0.heap.size) (x := .int .i64 xl) (y := .int .i64 xh) nn14f0
       replace nn140 := two_0 (x := .int .i64 xl) (y := .int .i64 xh) nn140
       replace nn14f1 := two_fz (b := wq0.heap.size) (x := .int .i64 xl) (y := .int .i64 xh) nn14f1
       replace nn141 := two_1 (x := .int .i64 xl) (y := .int .i64 xh) nn141
       replace nn15f0 := two_fz (b := wq0.heap.size) (x := .int .i64 xl) (y := .int .i64 xh) nn15f0
       replace nn150 := two_other (b := wq0.heap.size) (x := .int .i64 xl) (y := .int .i64 xh) nn150 (by omega)
       replace nn15f1 := two_fz (b := wq0.heap.size) (x := .int .i64 xl) (y := .int .i64 xh) nn15f1
       replace nn151 := two_other (b := wq0.heap.size) (x := .int .i64 xl) (y := .int .i64 xh) nn151 (by omega)
       generalize ((wq4.setCell ⟨wq0.heap.size, 0, none⟩ (.int .i64 xl)).setCell ⟨wq0.heap.size, 1, none⟩ (.int .i64 xh)) = wq5 at *
       have hzq5 : w.heap.size ≤ wq5.heap.size := hBq5.size
       (try simp only [Act.put, List.setIfInBounds_toArray, List.set_cons_zero, List.set_cons_succ])
       refine wpAnyH_ready (rs := [17]) (by kernel_rfl) (by simp) ?_
       refine AllReadyH.cons (o := ⟨none, _, _, _, _, none⟩) rfl (fun K hK => ?_) (AllReadyH.nil)
       (try dsimp only at hHeld)
       have hBq6 : Below w.heap.size w ((wq5.setCell ⟨wq2.heap.size, 0, none⟩ (.int .i64 yl)).setCell ⟨wq2.heap.size, 1, none⟩ (.int .i64 yh)) := by go_grown
       have hOld := hHeld; clear hHeld; go_simp; refine hK.out _ _ ?_ (fun hHeld => ?_)
       · exact ⟨two_other (hOld.1) (Nat.ne_of_gt nn15l0), two_other (hOld.2.1) (Nat.ne_of_gt nn15l0), two_other (hOld.2.2.1) (Nat.ne_of_gt nn15l1), two_other (hOld.2.2.2.1) (Nat.ne_of_gt nn15l1), two_other (hOld.2.2.2.2.1) (Nat.ne_of_gt nn15l2), two_other (hOld.2.2.2.2.2.1) (Nat.ne_of_gt nn15l2), two_other (hOld.2.2.2.2.2.2.1) (Nat.ne_of_gt nn15l2), two_other (hOld.2.2.2.2.2.2.2) (Nat.ne_of_gt nn15l2)⟩
       clear hK K hOld
       (try dsimp only at hHeld)
       replace nn14f0 := two_fz (b := wq2.heap.size) (x := .int .i64 yl) (y := .int .i64 yh) nn14f0
       replace nn140 := two_other (b := wq2.heap.size) (x := .int .i64 yl) (y := .int .i64 yh) nn140 (by omega)
       replace nn14f1 := two_fz (b := wq2.heap.size) (x := .int .i64 yl) (y := .int .i64 yh) nn14f1
       replace nn141 := two_other (b := wq2.heap.size) (x := .int .i64 yl) (y := .int .i64 yh) nn141 (by omega)
       replace nn15f0 := two_fz (b := wq2.heap.size) (x := .int .i64 yl) (y := .int .i64 yh) nn15f0
       replace nn150 := two_0 (x := .int .i64 yl) (y := .int .i64 yh) nn150
       replace nn15f1 := two_fz (b := wq2.heap.size) (x := .int .i64 yl) (y := .int .i64 yh) nn15f1
       replace nn151 := two_1 (x := .int .i64 yl) (y := .int .i64 yh) nn151
       generalize ((wq5.setCell ⟨wq2.heap.size, 0, none⟩ (.int .i64 yl)).setCell ⟨wq2.heap.size, 1, none⟩ (.int .i64 yh)) = wq6 at *
       have hzq6 : w.heap.size ≤ wq6.heap.size := hBq6.size
       (try simp only [Act.put, List.setIfInBounds_toArray, List.set_cons_zero, List.set_cons_succ])
       refine wpAnyH_done (by kernel_rfl) ?_ _
       go_wp2_with fail
       go_meet
       obtain ⟨p00, p01, p10, p11, _, _, _, _⟩ := hHeld
       exact ⟨_, _, rfl, rfl, ⟨p00, p01, p10, p11, nn140, nn141, nn150, nn151⟩, by assumption⟩
     ·
      (try dsimp only at hHeld)
      have hBq2 : Below w.heap.size w (wq1.alloc (Obj.cells #[.int .i64 0, .int .i64 0] 24)) := by go_grown
      have nn150 : (wq1.alloc (Obj.cells #[.int .i64 0, .int .i64 0] 24)).cell? ⟨wq1.heap.size, 0, none⟩ = some (.int .i64 0) := by simp [go_sem]
      have nn15f0 : (wq1.alloc (Obj.cells #[.int .i64 0, .int .i64 0] 24)).frozen? ⟨wq1.heap.size, 0, none⟩ = false := by simp [go_sem]
      have nn151 : (wq1.alloc (Obj.cells #[.int .i64 0, .int .i64 0] 24)).cell? ⟨wq1.heap.size, 1, none⟩ = some (.int .i64 0) := by simp [go_sem]
      have nn15f1 : (wq1.alloc (Obj.cells #[.int .i64 0, .int .i64 0] 24)).frozen? ⟨wq1.heap.size, 1, none⟩ = false := by simp [go_sem]
      have nn15l0 : w.heap.size < wq1.heap.size := World.block_lt_of_cell? _ ⟨w.heap.size, 0, none⟩ (hHeld.1)
      have nn15l1 : w.heap.size + 1 < wq1.heap.size := World.block_lt_of_cell? _ ⟨w.heap.size + 1, 0, none⟩ (hHeld.2.2.1)
      have nn15l2 : w.heap.size + 1 + 1 < wq1.heap.size := World.block_lt_of_cell? _ ⟨w.heap.size + 1 + 1, 0, none⟩ (hHeld.2.2.2.2.1)
      have nn15m14 : wq0.heap.size < wq1.heap.size := World.block_lt_of_cell? _ ⟨wq0.heap.size, 0, none⟩ nn140
      replace nn14f0 := keepAF (Obj.cells #[.int .i64 0, .int .i64 0] 24) nn140 nn14f0
      replace nn140 := keepA (Obj.cells #[.int .i64 0, .int .i64 0] 24) nn140
      replace nn14f1 := keepAF (Obj.cells #[.int .i64 0, .int .i64 0] 24) nn141 nn14f1
      replace nn141 := keepA (Obj.cells #[.int .i64 0, .int .i64 0] 24) nn141
      have hOld := hHeld; clear hHeld; go_simp; refine hK.out _ _ ?_ (fun hHeld => ?_)
      · exact ⟨keepA _ (hOld.1), keepA _ (hOld.2.1), keepA _ (hOld.2.2.1), keepA _ (hOld.2.2.2.1), keepA _ (hOld.2.2.2.2.1), keepA _ (hOld.2.2.2.2.2.1), keepA _ (hOld.2.2.2.2.2.2.1), keepA _ (hOld.2.2.2.2.2.2.2)⟩
      clear hK K hOld
      (try dsimp only at hHeld)
      generalize (wq1.alloc (Obj.cells #[.int .i64 0, .int .i64 0] 24)) = wq2 at *
      have hzq2 : w.heap.size ≤ wq2.heap.size := hBq2.size
      (try simp only [Act.put, List.setIfInBounds_toArray, List.set_cons_zero, List.set_cons_succ])
      refine wpAnyH_ready (rs := [6]) (by kernel_rfl) (by simp) ?_
      refine AllReadyH.cons (o := ⟨some 48, _, _, _, _, none⟩) rfl (fun K hK => ?_) (AllReadyH.nil)
      go_simp
      (go_at_call 41; refine useF w ((by first | (with_reducible exact i1.out _) | (with_reducible exact i2.out _))) (by go_grown) ?_; rintro e wq3 rfl hBq3 hkq3 hfq3 hsq3)
      have hOld := hHeld; clear hHeld; refine hK.out _ _ ?_ (fun hHeld => ?_)
      · exact ⟨hkq3 _ _ _ (hOld.1), hkq3 _ _ _ (hOld.2.1), hkq3 _ _ _ (hOld.2.2.1), hkq3 _ _ _ (hOld.2.2.2.1), hkq3 _ _ _ (hOld.2.2.2.2.1), hkq3 _ _ _ (hOld.2.2.2.2.2.1), hkq3 _ _ _ (hOld.2.2.2.2.2.2.1), hkq3 _ _ _ (hOld.2.2.2.2.2.2.2)⟩
      clear hK K hOld
      replace nn14f0 := hfq3 _ _ _ nn140 nn14f0
      replace nn140 := hkq3 _ _ _ nn140
      replace nn14f1 := hfq3 _ _ _ nn141 nn14f1
      replace nn141 := hkq3 _ _ _ nn141
      replace nn15f0 := hfq3 _ _ _ nn150 nn15f0
      replace nn150 := hkq3 _ _ _ nn150
      replace nn15f1 := hfq3 _ _ _ nn151 nn15f1
      replace nn151 := hkq3 _ _ _ nn151
      clear hkq3 hfq3 hsq3
      have hzq3 : w.heap.size ≤ wq3.heap.size := hBq3.size
      (try simp only [Act.put, List.setIfInBounds_toArray, List.set_cons_zero, List.set_cons_succ])
      refine wpAnyH_ready (rs := [13]) (by kernel_rfl) (by simp) ?_
      refine AllReadyH.cons (o := ⟨some 55, _, _, _, _, none⟩) rfl (fun K hK => ?_) (AllReadyH.nil)
      go_simp
      (go_at_call 41; refine useF w ((by first | (with_reducible exact i1.out _) | (with_reducible exact i2.out _))) (by go_grown) ?_; rintro e wq4 rfl hBq4 hkq4 hfq4 hsq4)
      have hOld := hHeld; clear hHeld; refine hK.out _ _ ?_ (fun hHeld => ?_)
      · exact ⟨hkq4 _ _ _ (hOld.1), hkq4 _ _ _ (hOld.2.1), hkq4 _ _ _ (hOld.2.2.1), hkq4 _ _ _ (hOld.2.2.2.1), hkq4 _ _ _ (hOld.2.2.2.2.1), hkq4 _ _ _ (hOld.2.2.2.2.2.1), hkq4 _ _ _ (hOld.2.2.2.2.2.2.1), hkq4 _ _ _ (hOld.2.2.2.2.2.2.2)⟩
      clear hK K hOld
      replace nn14f0 := hfq4 _ _ _ nn140 nn14f0
      replace nn140 := hkq4 _ _ _ nn140
      replace nn14f1 := hfq4 _ _ _ nn141 nn14f1
      replace nn141 := hkq4 _ _ _ nn141
      replace nn15f0 := hfq4 _ _ _ nn150 nn15f0
      replace nn150 := hkq4 _ _ _ nn150
      replace nn15f1 := hfq4 _ _ _ nn151 nn15f1
      replace nn151 := hkq4 _ _ _ nn151
      clear hkq4 hfq4 hsq4
      have hzq4 : w.heap.size ≤ wq4.heap.size := hBq4.size
      (try simp only [Act.put, List.setIfInBounds_toArray, List.set_cons_zero, List.set_cons_succ])
      refine wpAnyH_ready (rs := [16]) (by kernel_rfl) (by simp) ?_
      refine AllReadyH.cons (o := ⟨none, _, _, _, _, none⟩) rfl (fun K hK => ?_) (AllReadyH.nil)
      (try dsimp only at hHeld)
      have hBq5 : Below w.heap.size w ((wq4.setCell ⟨wq0.heap.size, 0, none⟩ (.int .i64 xl)).setCell ⟨wq0.heap.size, 1, none⟩ (.int .i64 xh)) := by go_grown
      have hOld := hHeld; clear hHeld; go_simp; refine hK.out _ _ ?_ (fun hHeld => ?_)
      · exact ⟨two_other (hOld.1) (Nat.ne_of_gt nn14l0), two_other (hOld.2.1) (Nat.ne_of_gt nn14l0), two_other (hOld.2.2.1) (Nat.ne_of_gt nn14l1), two_other (hOld.2.2.2.1) (Nat.ne_of_gt nn14l1), two_other (hOld.2.2.2.2.1) (Nat.ne_of_gt nn14l2), two_other (hOld.2.2.2.2.2.1) (Nat.ne_of_gt nn14l2), two_other (hOld.2.2.2.2.2.2.1) (Nat.ne_of_gt nn14l2), two_other (hOld.2.2.2.2.2.2.2) (Nat.ne_of_gt nn14l2)⟩
      clear hK K hOld
      (try dsimp only at hHeld)
      replace nn14f0 := two_fz (b := wq0.heap.size) (x := .int .i64 xl) (y := .int .i64 xh) nn14f0
      replace nn140 := two_0 (x := .int .i64 xl) (y := .int .i64 xh) nn140
      replace nn14f1 := two_fz (b := wq0.heap.size) (x := .int .i64 xl) (y := .int .i64 xh) nn14f1
      replace nn141 := two_1 (x := .int .i64 xl) (y := .int .i64 xh) nn141
      replace nn15f0 := two_fz (b := wq0.heap.size) (x := .int .i64 xl) (y := .int .i64 xh) nn15f0
      replace nn150 := two_other (b := wq0.heap.size) (x := .int .i64 xl) (y := .int .i64 xh) nn150 (by omega)
      replace nn15f1 := two_fz (b := wq0.heap.size) (x := .int .i64 xl) (y := .int .i64 xh) nn15f1
      replace nn151 := two_other (b := wq0.heap.size) (x := .int .i64 xl) (y := .int .i64 xh) nn151 (by omega)
      generalize ((wq4.setCell ⟨wq0.heap.size, 0, none⟩ (.int .i64 xl)).setCell ⟨wq0.heap.size, 1, none⟩ (.int .i64 xh)) = wq5 at *
      have hzq5 : w.heap.size ≤ wq5.heap.size := hBq5.size
      (try simp only [Act.put, List.setIfInBounds_toArray, List.set_cons_zero, List.set_cons_succ])
      refine wpAnyH_ready (rs := [17]) (by kernel_rfl) (by simp) ?_
      refine AllReadyH.cons (o := ⟨none, _, _, _, _, none⟩) rfl (fun K hK => ?_) (AllReadyH.nil)
      (try dsimp only at hHeld)
      have hBq6 : Below w.heap.size w ((wq5.setCell ⟨wq1.heap.size, 0, none⟩ (.int .i64 yl)).setCell ⟨wq1.heap.size, 1, none⟩ (.int .i64 yh)) := by go_grown
      have hOld := hHeld; clear hHeld; go_simp; refine hK.out _ _ ?_ (fun hHeld => ?_)
      · exact ⟨two_other (hOld.1) (Nat.ne_of_gt nn15l0), two_other (hOld.2.1) (Nat.ne_of_gt nn15l0), two_other (hOld.2.2.1) (Nat.ne_of_gt nn15l1), two_other (hOld.2.2.2.1) (Nat.ne_of_gt nn15l1), two_other (hOld.2.2.2.2.1) (Nat.ne_of_gt nn15l2), two_other (hOld.2.2.2.2.2.1) (Nat.ne_of_gt nn15l2), two_other (hOld.2.2.2.2.2.2.1) (Nat.ne_of_gt nn15l2), two_other (hOld.2.2.2.2.2.2.2) (Nat.ne_of_gt nn15l2)⟩
      clear hK K hOld
      (try dsimp only at hHeld)
      replace nn14f0 := two_fz (b := wq1.heap.size) (x := .int .i64 yl) (y := .int .i64 yh) nn14f0
      replace nn140 := two_other (b := wq1.heap.size) (x := .int .i64 yl) (y := .int .i64 yh) nn140 (by omega)
      replace nn14f1 := two_fz (b := wq1.heap.size) (x := .int .i64 yl) (y := .int .i64 yh) nn14f1
      replace nn141 := two_other (b := wq1.heap.size) (x := .int .i64 yl) (y := .int .i64 yh) nn141 (by omega)
      replace nn15f0 := two_fz (b := wq1.heap.size) (x := .int .i64 yl) (y := .int .i64 yh) nn15f0
      replace nn150 := two_0 (x := .int .i64 yl) (y := .int .i64 yh) nn150
      replace nn15f1 := two_fz (b := wq1.heap.size) (x := .int .i64 yl) (y := .int .i64 yh) nn15f1
      replace nn151 := two_1 (x := .int .i64 yl) (y := .int .i64 yh) nn151
      generalize ((wq5.setCell ⟨wq1.heap.size, 0, none⟩ (.int .i64 yl)).setCell ⟨wq1.heap.size, 1, none⟩ (.int .i64 yh)) = wq6 at *
      have hzq6 : w.heap.size ≤ wq6.heap.size := hBq6.size
      (try simp only [Act.put, List.setIfInBounds_toArray, List.set_cons_zero, List.set_cons_succ])
      refine wpAnyH_done (by kernel_rfl) ?_ _
      go_wp2_with fail
      go_meet
      obtain ⟨p00, p01, p10, p11, _, _, _, _⟩ := hHeld
      exact ⟨_, _, rfl, rfl, ⟨p00, p01, p10, p11, nn140, nn141, nn150, nn151⟩, by assumption⟩
    ·
     (try dsimp only at hHeld)
     have hBq1 : Below w.heap.size w (wq0.alloc (Obj.cells #[.int .i64 0, .int .i64 0] 24)) := by go_grown
     have nn150 : (wq0.alloc (Obj.cells #[.int .i64 0, .int .i64 0] 24)).cell? ⟨wq0.heap.size, 0, none⟩ = some (.int .i64 0) := by simp [go_sem]
     have nn15f0 : (wq0.alloc (Obj.cells #[.int .i64 0, .int .i64 0] 24)).frozen? ⟨wq0.heap.size, 0, none⟩ = false := by simp [go_sem]
     have nn151 : (wq0.alloc (Obj.cells #[.int .i64 0, .int .i64 0] 24)).cell? ⟨wq0.heap.size, 1, none⟩ = some (.int .i64 0) := by simp [go_sem]
     have nn15f1 : (wq0.alloc (Obj.cells #[.int .i64 0, .int .i64 0] 24)).frozen? ⟨wq0.heap.size, 1, none⟩ = false := by simp [go_sem]
     have nn15l0 : w.heap.size < wq0.heap.size := World.block_lt_of_cell? _ ⟨w.heap.size, 0, none⟩ (hHeld.1)
     have nn15l1 : w.heap.size + 1 < wq0.heap.size := World.block_lt_of_cell? _ ⟨w.heap.size + 1, 0, none⟩ (hHeld.2.2.1)
     have nn15l2 : w.heap.size + 1 + 1 < wq0.heap.size := World.block_lt_of_cell? _ ⟨w.heap.size + 1 + 1, 0, none⟩ (hHeld.2.2.2.2.1)
     have hOld := hHeld; clear hHeld; go_simp; refine hK.out _ _ ?_ (fun hHeld => ?_)
     · exact ⟨keepA _ (hOld.1), keepA _ (hOld.2.1), keepA _ (hOld.2.2.1), keepA _ (hOld.2.2.2.1), keepA _ (hOld.2.2.2.2.1), keepA _ (hOld.2.2.2.2.2.1), keepA _ (hOld.2.2.2.2.2.2.1), keepA _ (hOld.2.2.2.2.2.2.2)⟩
     clear hK K hOld
     (try dsimp only at hHeld)
     generalize (wq0.alloc (Obj.cells #[.int .i64 0, .int .i64 0] 24)) = wq1 at *
     have hzq1 : w.heap.size ≤ wq1.heap.size := hBq1.size
     (try simp only [Act.put, List.setIfInBounds_toArray, List.set_cons_zero, List.set_cons_succ])
     refine wpAnyH_ready (rs := [6, 14]) (by kernel_rfl) (by simp) ?_
     refine AllReadyH.cons (o := ⟨some 48, _, _, _, _, none⟩) rfl (fun K hK => ?_) (AllReadyH.cons (o := ⟨some 8, _, _, _, _, none⟩) rfl (fun K hK => ?_) (AllReadyH.nil))
     ·
      go_simp
      (go_at_call 41; refine useF w ((by first | (with_reducible exact i1.out _) | (with_reducible exact i2.out _))) (by go_grown) ?_; rintro e wq2 rfl hBq2 hkq2 hfq2 hsq2)
      have hOld := hHeld; clear hHeld; refine hK.out _ _ ?_ (fun hHeld => ?_)
      · exact ⟨hkq2 _ _ _ (hOld.1), hkq2 _ _ _ (hOld.2.1), hkq2 _ _ _ (hOld.2.2.1), hkq2 _ _ _ (hOld.2.2.2.1), hkq2 _ _ _ (hOld.2.2.2.2.1), hkq2 _ _ _ (hOld.2.2.2.2.2.1), hkq2 _ _ _ (hOld.2.2.2.2.2.2.1), hkq2 _ _ _ (hOld.2.2.2.2.2.2.2)⟩
      clear hK K hOld
      replace nn15f0 := hfq2 _ _ _ nn150 nn15f0
      replace nn150 := hkq2 _ _ _ nn150
      replace nn15f1 := hfq2 _ _ _ nn151 nn15f1
      replace nn151 := hkq2 _ _ _ nn151
      clear hkq2 hfq2 hsq2
      have hzq2 : w.heap.size ≤ wq2.heap.size := hBq2.size
      (try simp only [Act.put, List.setIfInBounds_toArray, List.set_cons_zero, List.set_cons_succ])
      refine wpAnyH_ready (rs := [13, 14]) (by kernel_rfl) (by simp) ?_
      refine AllReadyH.cons (o := ⟨some 55, _, _, _, _, none⟩) rfl (fun K hK => ?_) (AllReadyH.cons (o := ⟨some 8, _, _, _, _, none⟩) rfl (fun K hK => ?_) (AllReadyH.nil))
      ·
       go_simp
       (go_at_call 41; refine useF w ((by first | (with_reducible exact i1.out _) | (with_reducible exact i2.out _))) (by go_grown) ?_; rintro e wq3 rfl hBq3 hkq3 hfq3 hsq3)
       have hOld := hHeld; clear hHeld; refine hK.out _ _ ?_ (fun hHeld => ?_)
       · exact ⟨hkq3 _ _ _ (hOld.1), hkq3 _ _ _ (hOld.2.1), hkq3 _ _ _ (hOld.2.2.1), hkq3 _ _ _ (hOld.2.2.2.1), hkq3 _ _ _ (hOld.2.2.2.2.1), hkq3 _ _ _ (hOld.2.2.2.2.2.1), hkq3 _ _ _ (hOld.2.2.2.2.2.2.1), hkq3 _ _ _ (hOld.2.2.2.2.2.2.2)⟩
       clear hK K hOld
       replace nn15f0 := hfq3 _ _ _ nn150 nn15f0
       replace nn150 := hkq3 _ _ _ nn150
       replace nn15f1 := hfq3 _ _ _ nn151 nn15f1
       replace nn151 := hkq3 _ _ _ nn151
       clear hkq3 hfq3 hsq3
       have hzq3 : w.heap.size ≤ wq3.heap.size := hBq3.size
       (try simp only [Act.put, List.setIfInBounds_toArray, List.set_cons_zero, List.set_cons_succ])
       refine wpAnyH_ready (rs := [14]) (by kernel_rfl) (by simp) ?_
       refine AllReadyH.cons (o := ⟨some 8, _, _, _, _, none⟩) rfl (fun K hK => ?_) (AllReadyH.nil)
       (try dsimp only at hHeld)
       have hBq4 : Below w.heap.size w (wq3.alloc (Obj.cells #[.int .i64 0, .int .i64 0] 24)) := by go_grown
       have nn140 : (wq3.alloc (Obj.cells #[.int .i64 0, .int .i64 0] 24)).cell? ⟨wq3.heap.size, 0, none⟩ = some (.int .i64 0) := by simp [go_sem]
       have nn14f0 : (wq3.alloc (Obj.cells #[.int .i64 0, .int .i64 0] 24)).frozen? ⟨wq3.heap.size, 0, none⟩ = false := by simp [go_sem]
       have nn141 : (wq3.alloc (Obj.cells #[.int .i64 0, .int .i64 0] 24)).cell? ⟨wq3.heap.size, 1, none⟩ = some (.int .i64 0) := by simp [go_sem]
       have nn14f1 : (wq3.alloc (Obj.cells #[.int .i64 0, .int .i64 0] 24)).frozen? ⟨wq3.heap.size, 1, none⟩ = false := by simp [go_sem]
       have nn14l0 : w.heap.size < wq3.heap.size := World.block_lt_of_cell? _ ⟨w.heap.size, 0, none⟩ (hHeld.1)
       have nn14l1 : w.heap.size + 1 < wq3.heap.size := World.block_lt_of_cell? _ ⟨w.heap.size + 1, 0, none⟩ (hHeld.2.2.1)
       have nn14l2 : w.heap.size + 1 + 1 < wq3.heap.size := World.block_lt_of_cell? _ ⟨w.heap.size + 1 + 1, 0, none⟩ (hHeld.2.2.2.2.1)
       have nn14m15 : wq0.heap.size < wq3.heap.size := World.block_lt_of_cell? _ ⟨wq0.heap.size, 0, none⟩ nn150
       replace nn15f0 := keepAF (Obj.cells #[.int .i64 0, .int .i64 0] 24) nn150 nn15f0
       replace nn150 := keepA (Obj.cells #[.int .i64 0, .int .i64 0] 24) nn150
       replace nn15f1 := keepAF (Obj.cells #[.int .i64 0, .int .i64 0] 24) nn151 nn15f1
       replace nn151 := keepA (Obj.cells #[.int .i64 0, .int .i64 0] 24) nn151
       have hOld := hHeld; clear hHeld; go_simp; refine hK.out _ _ ?_ (fun hHeld => ?_)
       · exact ⟨keepA _ (hOld.1), keepA _ (hOld.2.1), keepA _ (hOld.2.2.1), keepA _ (hOld.2.2.2.1), keepA _ (hOld.2.2.2.2.1), keepA _ (hOld.2.2.2.2.2.1), keepA _ (hOld.2.2.2.2.2.2.1), keepA _ (hOld.2.2.2.2.2.2.2)⟩
       clear hK K hOld
       (try dsimp only at hHeld)
       generalize (wq3.alloc (Obj.cells #[.int .i64 0, .int .i64 0] 24)) = wq4 at *
       have hzq4 : w.heap.size ≤ wq4.heap.size := hBq4.size
       (try simp only [Act.put, List.setIfInBounds_toArray, List.set_cons_zero, List.set_cons_succ])
       refine wpAnyH_ready (rs := [16]) (by kernel_rfl) (by simp) ?_
       refine AllReadyH.cons (o := ⟨none, _, _, _, _, none⟩) rfl (fun K hK => ?_) (AllReadyH.nil)
       (try dsimp only at hHeld)
       have hBq5 : Below w.heap.size w ((wq4.setCell ⟨wq3.heap.size, 0, none⟩ (.int .i64 xl)).setCell ⟨wq3.heap.size, 1, none⟩ (.int .i64 xh)) := by go_grown
       have hOld := hHeld; clear hHeld; go_simp; refine hK.out _ _ ?_ (fun hHeld => ?_)
       · exact ⟨two_other (hOld.1) (Nat.ne_of_gt nn14l0), two_other (hOld.2.1) (Nat.ne_of_gt nn14l0), two_other (hOld.2.2.1) (Nat.ne_of_gt nn14l1), two_other (hOld.2.2.2.1) (Nat.ne_of_gt nn14l1), two_other (hOld.2.2.2.2.1) (Nat.ne_of_gt nn14l2), two_other (hOld.2.2.2.2.2.1) (Nat.ne_of_gt nn14l2), two_other (hOld.2.2.2.2.2.2.1) (Nat.ne_of_gt nn14l2), two_other (hOld.2.2.2.2.2.2.2) (Nat.ne_of_gt nn14l2)⟩
       clear hK K hOld
       (try dsimp only at hHeld)
       replace nn15f0 := two_fz (b := wq3.heap.size) (x := .int .i64 xl) (y := .int .i64 xh) nn15f0
       replace nn150 := two_other (b := wq3.heap.size) (x := .int .i64 xl) (y := .int .i64 xh) nn150 (by omega)
       replace nn15f1 := two_fz (b := wq3.heap.size) (x := .int .i64 xl) (y := .int .i64 xh) nn15f1
       replace nn151 := two_other (b := wq3.heap.size) (x := .int .i64 xl) (y := .int .i64 xh) nn151 (by omega)
       replace nn14f0 := two_fz (b := wq3.heap.size) (x := .int .i64 xl) (y := .int .i64 xh) nn14f0
       replace nn140 := two_0 (x := .int .i64 xl) (y := .int .i64 xh) nn140
       replace nn14f1 := two_fz (b := wq3.heap.size) (x := .int .i64 xl) (y := .int .i64 xh) nn14f1
       replace nn141 := two_1 (x := .int .i64 xl) (y := .int .i64 xh) nn141
       generalize ((wq4.setCell ⟨wq3.heap.size, 0, none⟩ (.int .i64 xl)).setCell ⟨wq3.heap.size, 1, none⟩ (.int .i64 xh)) = wq5 at *
       have hzq5 : w.heap.size ≤ wq5.heap.size := hBq5.size
       (try simp only [Act.put, List.setIfInBounds_toArray, List.set_cons_zero, List.set_cons_succ])
       refine wpAnyH_ready (rs := [17]) (by kernel_rfl) (by simp) ?_
       refine AllReadyH.cons (o := ⟨none, _, _, _, _, none⟩) rfl (fun K hK => ?_) (AllReadyH.nil)
       (try dsimp only at hHeld)
       have hBq6 : Below w.heap.size w ((wq5.setCell ⟨wq0.heap.size, 0, none⟩ (.int .i64 yl)).setCell ⟨wq0.heap.size, 1, none⟩ (.int .i64 yh)) := by go_grown
       have hOld := hHeld; clear hHeld; go_simp; refine hK.out _ _ ?_ (fun hHeld => ?_)
       · exact ⟨two_other (hOld.1) (Nat.ne_of_gt nn15l0), two_other (hOld.2.1) (Nat.ne_of_gt nn15l0), two_other (hOld.2.2.1) (Nat.ne_of_gt nn15l1), two_other (hOld.2.2.2.1) (Nat.ne_of_gt nn15l1), two_other (hOld.2.2.2.2.1) (Nat.ne_of_gt nn15l2), two_other (hOld.2.2.2.2.2.1) (Nat.ne_of_gt nn15l2), two_other (hOld.2.2.2.2.2.2.1) (Nat.ne_of_gt nn15l2), two_other (hOld.2.2.2.2.2.2.2) (Nat.ne_of_gt nn15l2)⟩
       clear hK K hOld
       (try dsimp only at hHeld)
       replace nn15f0 := two_fz (b := wq0.heap.size) (x := .int .i64 yl) (y := .int .i64 yh) nn15f0
       replace nn150 := two_0 (x := .int .i64 yl) (y := .int .i64 yh) nn150
       replace nn15f1 := two_fz (b := wq0.heap.size) (x := .int .i64 yl) (y := .int .i64 yh) nn15f1
       replace nn151 := two_1 (x := .int .i64 yl) (y := .int .i64 yh) nn151
       replace nn14f0 := two_fz (b := wq0.heap.size) (x := .int .i64 yl) (y := .int .i64 yh) nn14f0
       replace nn140 := two_other (b := wq0.heap.size) (x := .int .i64 yl) (y := .int .i64 yh) nn140 (by omega)
       replace nn14f1 := two_fz (b := wq0.heap.size) (x := .int .i64 yl) (y := .int .i64 yh) nn14f1
       replace nn141 := two_other (b := wq0.heap.size) (x := .int .i64 yl) (y := .int .i64 yh) nn141 (by omega)
       generalize ((wq5.setCell ⟨wq0.heap.size, 0, none⟩ (.int .i64 yl)).setCell ⟨wq0.heap.size, 1, none⟩ (.int .i64 yh)) = wq6 at *
       have hzq6 : w.heap.size ≤ wq6.heap.size := hBq6.size
       (try simp only [Act.put, List.setIfInBounds_toArray, List.set_cons_zero, List.set_cons_succ])
       refine wpAnyH_done (by kernel_rfl) ?_ _
       go_wp2_with fail
       go_meet
       obtain ⟨p00, p01, p10, p11, _, _, _, _⟩ := hHeld
       exact ⟨_, _, rfl, rfl, ⟨p00, p01, p10, p11, nn140, nn141, nn150, nn151⟩, by assumption⟩
      ·
       (try dsimp only at hHeld)
       have hBq3 : Below w.heap.size w (wq2.alloc (Obj.cells #[.int .i64 0, .int .i64 0] 24)) := by go_grown
       have nn140 : (wq2.alloc (Obj.cells #[.int .i64 0, .int .i64 0] 24)).cell? ⟨wq2.heap.size, 0, none⟩ = some (.int .i64 0) := by simp [go_sem]
       have nn14f0 : (wq2.alloc (Obj.cells #[.int .i64 0, .int .i64 0] 24)).frozen? ⟨wq2.heap.size, 0, none⟩ = false := by simp [go_sem]
       have nn141 : (wq2.alloc (Obj.cells #[.int .i64 0, .int .i64 0] 24)).cell? ⟨wq2.heap.size, 1, none⟩ = some (.int .i64 0) := by simp [go_sem]
       have nn14f1 : (wq2.alloc (Obj.cells #[.int .i64 0, .int .i64 0] 24)).frozen? ⟨wq2.heap.size, 1, none⟩ = false := by simp [go_sem]
       have nn14l0 : w.heap.size < wq2.heap.size := World.block_lt_of_cell? _ ⟨w.heap.size, 0, none⟩ (hHeld.1)
       have nn14l1 : w.heap.size + 1 < wq2.heap.size := World.block_lt_of_cell? _ ⟨w.heap.size + 1, 0, none⟩ (hHeld.2.2.1)
       have nn14l2 : w.heap.size + 1 + 1 < wq2.heap.size := World.block_lt_of_cell? _ ⟨w.heap.size + 1 + 1, 0, none⟩ (hHeld.2.2.2.2.1)
       have nn14m15 : wq0.heap.size < wq2.heap.size := World.block_lt_of_cell? _ ⟨wq0.heap.size, 0, none⟩ nn150
       replace nn15f0 := keepAF (Obj.cells #[.int .i64 0, .int .i64 0] 24) nn150 nn15f0
       replace nn150 := keepA (Obj.cells #[.int .i64 0, .int .i64 0] 24) nn150
       replace nn15f1 := keepAF (Obj.cells #[.int .i64 0, .int .i64 0] 24) nn151 nn15f1
       replace nn151 := keepA (Obj.cells #[.int .i64 0, .int .i64 0] 24) nn151
       have hOld := hHeld; clear hHeld; go_simp; refine hK.out _ _ ?_ (fun hHeld => ?_)
       · exact ⟨keepA _ (hOld.1), keepA _ (hOld.2.1), keepA _ (hOld.2.2.1), keepA _ (hOld.2.2.2.1), keepA _ (hOld.2.2.2.2.1), keepA _ (hOld.2.2.2.2.2.1), keepA _ (hOld.2.2.2.2.2.2.1), keepA _ (hOld.2.2.2.2.2.2.2)⟩
       clear hK K hOld
       (try dsimp only at hHeld)
       generalize (wq2.alloc (Obj.cells #[.int .i64 0, .int .i64 0] 24)) = wq3 at *
       have hzq3 : w.heap.size ≤ wq3.heap.size := hBq3.size
       (try simp only [Act.put, List.setIfInBounds_toArray, List.set_cons_zero, List.set_cons_succ])
       refine wpAnyH_ready (rs := [13]) (by kernel_rfl) (by simp) ?_
       refine AllReadyH.cons (o := ⟨some 55, _, _, _, _, none⟩) rfl (fun K hK => ?_) (AllReadyH.nil)
       go_simp
       (go_at_call 41; refine useF w ((by first | (with_reducible exact i1.out _) | (with_reducible exact i2.out _))) (by go_grown) ?_; rintro e wq4 rfl hBq4 hkq4 hfq4 hsq4)
       have hOld := hHeld; clear hHeld; refine hK.out _ _ ?_ (fun hHeld => ?_)
       · exact ⟨hkq4 _ _ _ (hOld.1), hkq4 _ _ _ (hOld.2.1), hkq4 _ _ _ (hOld.2.2.1), hkq4 _ _ _ (hOld.2.2.2.1), hkq4 _ _ _ (hOld.2.2.2.2.1), hkq4 _ _ _ (hOld.2.2.2.2.2.1), hkq4 _ _ _ (hOld.2.2.2.2.2.2.1), hkq4 _ _ _ (hOld.2.2.2.2.2.2.2)⟩
       clear hK K hOld
       replace nn15f0 := hfq4 _ _ _ nn150 nn15f0
       replace nn150 := hkq4 _ _ _ nn150
       replace nn15f1 := hfq4 _ _ _ nn151 nn15f1
       replace nn151 := hkq4 _ _ _ nn151
       replace nn14f0 := hfq4 _ _ _ nn140 nn14f0
       replace nn140 := hkq4 _ _ _ nn140
       replace nn14f1 := hfq4 _ _ _ nn141 nn14f1
       replace nn141 := hkq4 _ _ _ nn141
       clear hkq4 hfq4 hsq4
       have hzq4 : w.heap.size ≤ wq4.heap.size := hBq4.size
       (try simp only [Act.put, List.setIfInBounds_toArray, List.set_cons_zero, List.set_cons_succ])
       refine wpAnyH_ready (rs := [16]) (by kernel_rfl) (by simp) ?_
       refine AllReadyH.cons (o := ⟨none, _, _, _, _, none⟩) rfl (fun K hK => ?_) (AllReadyH.nil)
       (try dsimp only at hHeld)
       have hBq5 : Below w.heap.size w ((wq4.setCell ⟨wq2.heap.size, 0, none⟩ (.int .i64 xl)).setCell ⟨wq2.heap.size, 1, none⟩ (.int .i64 xh)) := by go_grown
       have hOld := hHeld; clear hHeld; go_simp; refine hK.out _ _ ?_ (fun hHeld => ?_)
       · exact ⟨two_other (hOld.1) (Nat.ne_of_gt nn14l0), two_other (hOld.2.1) (Nat.ne_of_gt nn14l0), two_other (hOld.2.2.1) (Nat.ne_of_gt nn14l1), two_other (hOld.2.2.2.1) (Nat.ne_of_gt nn14l1), two_other (hOld.2.2.2.2.1) (Nat.ne_of_gt nn14l2), two_other (hOld.2.2.2.2.2.1) (Nat.ne_of_gt nn14l2), two_other (hOld.2.2.2.2.2.2.1) (Nat.ne_of_gt nn14l2), two_other (hOld.2.2.2.2.2.2.2) (Nat.ne_of_gt nn14l2)⟩
       clear hK K hOld
       (try dsimp only at hHeld)
       replace nn15f0 := two_fz (b := wq2.heap.size) (x := .int .i64 xl) (y := .int .i64 xh) nn15f0
       replace nn150 := two_other (b := wq2.heap.size) (x := .int .i64 xl) (y := .int .i64 xh) nn150 (by omega)
       replace nn15f1 := two_fz (b := wq2.heap.size) (x := .int .i64 xl) (y := .int .i64 xh) nn15f1
       replace nn151 := two_other (b := wq2.heap.size) (x := .int .i64 xl) (y := .int .i64 xh) nn151 (by omega)
       replace nn14f0 := two_fz (b := wq2.heap.size) (x := .int .i64 xl) (y := .int .i64 xh) nn14f0
       replace nn140 := two_0 (x := .int .i64 xl) (y := .int .i64 xh) nn140
       replace nn14f1 := two_fz (b := wq2.heap.size) (x := .int .i64 xl) (y := .int .i64 xh) nn14f1
       replace nn141 := two_1 (x := .int .i64 xl) (y := .int .i64 xh) nn141
       generalize ((wq4.setCell ⟨wq2.heap.size, 0, none⟩ (.int .i64 xl)).setCell ⟨wq2.heap.size, 1, none⟩ (.int .i64 xh)) = wq5 at *
       have hzq5 : w.heap.size ≤ wq5.heap.size := hBq5.size
       (try simp only [Act.put, List.setIfInBounds_toArray, List.set_cons_zero, List.set_cons_succ])
       refine wpAnyH_ready (rs := [17]) (by kernel_rfl) (by simp) ?_
       refine AllReadyH.cons (o := ⟨none, _, _, _, _, none⟩) rfl (fun K hK => ?_) (AllReadyH.nil)
       (try dsimp only at hHeld)
       have hBq6 : Below w.heap.size w ((wq5.setCell ⟨wq0.heap.size, 0, none⟩ (.int .i64 yl)).setCell ⟨wq0.heap.size, 1, none⟩ (.int .i64 yh)) := by go_grown
       have hOld := hHeld; clear hHeld; go_simp; refine hK.out _ _ ?_ (fun hHeld => ?_)
       · exact ⟨two_other (hOld.1) (Nat.ne_of_gt nn15l0), two_other (hOld.2.1) (Nat.ne_of_gt nn15l0), two_other (hOld.2.2.1) (Nat.ne_of_gt nn15l1), two_other (hOld.2.2.2.1) (Nat.ne_of_gt nn15l1), two_other (hOld.2.2.2.2.1) (Nat.ne_of_gt nn15l2), two_other (hOld.2.2.2.2.2.1) (Nat.ne_of_gt nn15l2), two_other (hOld.2.2.2.2.2.2.1) (Nat.ne_of_gt nn15l2), two_other (hOld.2.2.2.2.2.2.2) (Nat.ne_of_gt nn15l2)⟩
       clear hK K hOld
       (try dsimp only at hHeld)
       replace nn15f0 := two_fz (b := wq0.heap.size) (x := .int .i64 yl) (y := .int .i64 yh) nn15f0
       replace nn150 := two_0 (x := .int .i64 yl) (y := .int .i64 yh) nn150
       replace nn15f1 := two_fz (b := wq0.heap.size) (x := .int .i64 yl) (y := .int .i64 yh) nn15f1
       replace nn151 := two_1 (x := .int .i64 yl) (y := .int .i64 yh) nn151
       replace nn14f0 := two_fz (b := wq0.heap.size) (x := .int .i64 yl) (y := .int .i64 yh) nn14f0
       replace nn140 := two_other (b := wq0.heap.size) (x := .int .i64 yl) (y := .int .i64 yh) nn140 (by omega)
       replace nn14f1 := two_fz (b := wq0.heap.size) (x := .int .i64 yl) (y := .int .i64 yh) nn14f1
       replace nn141 := two_other (b := wq0.heap.size) (x := .int .i64 yl) (y := .int .i64 yh) nn141 (by omega)
       generalize ((wq5.setCell ⟨wq0.heap.size, 0, none⟩ (.int .i64 yl)).setCell ⟨wq0.heap.size, 1, none⟩ (.int .i64 yh)) = wq6 at *
       have hzq6 : w.heap.size ≤ wq6.heap.size := hBq6.size
       (try simp only [Act.put, List.setIfInBounds_toArray, List.set_cons_zero, List.set_cons_succ])
       refine wpAnyH_done (by kernel_rfl) ?_ _
       go_wp2_with fail
       go_meet
       obtain ⟨p00, p01, p10, p11, _, _, _, _⟩ := hHeld
       exact ⟨_, _, rfl, rfl, ⟨p00, p01, p10, p11, nn140, nn141, nn150, nn151⟩, by assumption⟩
     ·
      (try dsimp only at hHeld)
      have hBq2 : Below w.heap.size w (wq1.alloc (Obj.cells #[.int .i64 0, .int .i64 0] 24)) := by go_grown
      have nn140 : (wq1.alloc (Obj.cells #[.int .i64 0, .int .i64 0] 24)).cell? ⟨wq1.heap.size, 0, none⟩ = some (.int .i64 0) := by simp [go_sem]
      have nn14f0 : (wq1.alloc (Obj.cells #[.int .i64 0, .int .i64 0] 24)).frozen? ⟨wq1.heap.size, 0, none⟩ = false := by simp [go_sem]
      have nn141 : (wq1.alloc (Obj.cells #[.int .i64 0, .int .i64 0] 24)).cell? ⟨wq1.heap.size, 1, none⟩ = some (.int .i64 0) := by simp [go_sem]
      have nn14f1 : (wq1.alloc (Obj.cells #[.int .i64 0, .int .i64 0] 24)).frozen? ⟨wq1.heap.size, 1, none⟩ = false := by simp [go_sem]
      have nn14l0 : w.heap.size < wq1.heap.size := World.block_lt_of_cell? _ ⟨w.heap.size, 0, none⟩ (hHeld.1)
      have nn14l1 : w.heap.size + 1 < wq1.heap.size := World.block_lt_of_cell? _ ⟨w.heap.size + 1, 0, none⟩ (hHeld.2.2.1)
      have nn14l2 : w.heap.size + 1 + 1 < wq1.heap.size := World.block_lt_of_cell? _ ⟨w.heap.size + 1 + 1, 0, none⟩ (hHeld.2.2.2.2.1)
      have nn14m15 : wq0.heap.size < wq1.heap.size := World.block_lt_of_cell? _ ⟨wq0.heap.size, 0, none⟩ nn150
      replace nn15f0 := keepAF (Obj.cells #[.int .i64 0, .int .i64 0] 24) nn150 nn15f0
      replace nn150 := keepA (Obj.cells #[.int .i64 0, .int .i64 0] 24) nn150
      replace nn15f1 := keepAF (Obj.cells #[.int .i64 0, .int .i64 0] 24) nn151 nn15f1
      replace nn151 := keepA (Obj.cells #[.int .i64 0, .int .i64 0] 24) nn151
      have hOld := hHeld; clear hHeld; go_simp; refine hK.out _ _ ?_ (fun hHeld => ?_)
      · exact ⟨keepA _ (hOld.1), keepA _ (hOld.2.1), keepA _ (hOld.2.2.1), keepA _ (hOld.2.2.2.1), keepA _ (hOld.2.2.2.2.1), keepA _ (hOld.2.2.2.2.2.1), keepA _ (hOld.2.2.2.2.2.2.1), keepA _ (hOld.2.2.2.2.2.2.2)⟩
      clear hK K hOld
      (try dsimp only at hHeld)
      generalize (wq1.alloc (Obj.cells #[.int .i64 0, .int .i64 0] 24)) = wq2 at *
      have hzq2 : w.heap.size ≤ wq2.heap.size := hBq2.size
      (try simp only [Act.put, List.setIfInBounds_toArray, List.set_cons_zero, List.set_cons_succ])
      refine wpAnyH_ready (rs := [6]) (by kernel_rfl) (by simp) ?_
      refine AllReadyH.cons (o := ⟨some 48, _, _, _, _, none⟩) rfl (fun K hK => ?_) (AllReadyH.nil)
      go_simp
      (go_at_call 41; refine useF w ((by first | (with_reducible exact i1.out _) | (with_reducible exact i2.out _))) (by go_grown) ?_; rintro e wq3 rfl hBq3 hkq3 hfq3 hsq3)
      have hOld := hHeld; clear hHeld; refine hK.out _ _ ?_ (fun hHeld => ?_)
      · exact ⟨hkq3 _ _ _ (hOld.1), hkq3 _ _ _ (hOld.2.1), hkq3 _ _ _ (hOld.2.2.1), hkq3 _ _ _ (hOld.2.2.2.1), hkq3 _ _ _ (hOld.2.2.2.2.1), hkq3 _ _ _ (hOld.2.2.2.2.2.1), hkq3 _ _ _ (hOld.2.2.2.2.2.2.1), hkq3 _ _ _ (hOld.2.2.2.2.2.2.2)⟩
      clear hK K hOld
      replace nn15f0 := hfq3 _ _ _ nn150 nn15f0
      replace nn150 := hkq3 _ _ _ nn150
      replace nn15f1 := hfq3 _ _ _ nn151 nn15f1
      replace nn151 := hkq3 _ _ _ nn151
      replace nn14f0 := hfq3 _ _ _ nn140 nn14f0
      replace nn140 := hkq3 _ _ _ nn140
      replace nn14f1 := hfq3 _ _ _ nn141 nn14f1
      replace nn141 := hkq3 _ _ _ nn141
      clear hkq3 hfq3 hsq3
      have hzq3 : w.heap.size ≤ wq3.heap.size := hBq3.size
      (try simp only [Act.put, List.setIfInBounds_toArray, List.set_cons_zero, List.set_cons_succ])
      refine wpAnyH_ready (rs := [13]) (by kernel_rfl) (by simp) ?_
      refine AllReadyH.cons (o := ⟨some 55, _, _, _, _, none⟩) rfl (fun K hK => ?_) (AllReadyH.nil)
      go_simp
      (go_at_call 41; refine useF w ((by first | (with_reducible exact i1.out _) | (with_reducible exact i2.out _))) (by go_grown) ?_; rintro e wq4 rfl hBq4 hkq4 hfq4 hsq4)
      have hOld := hHeld; clear hHeld; refine hK.out _ _ ?_ (fun hHeld => ?_)
      · exact ⟨hkq4 _ _ _ (hOld.1), hkq4 _ _ _ (hOld.2.1), hkq4 _ _ _ (hOld.2.2.1), hkq4 _ _ _ (hOld.2.2.2.1), hkq4 _ _ _ (hOld.2.2.2.2.1), hkq4 _ _ _ (hOld.2.2.2.2.2.1), hkq4 _ _ _ (hOld.2.2.2.2.2.2.1), hkq4 _ _ _ (hOld.2.2.2.2.2.2.2)⟩
      clear hK K hOld
      replace nn15f0 := hfq4 _ _ _ nn150 nn15f0
      replace nn150 := hkq4 _ _ _ nn150
      replace nn15f1 := hfq4 _ _ _ nn151 nn15f1
      replace nn151 := hkq4 _ _ _ nn151
      replace nn14f0 := hfq4 _ _ _ nn140 nn14f0
      replace nn140 := hkq4 _ _ _ nn140
      replace nn14f1 := hfq4 _ _ _ nn141 nn14f1
      replace nn141 := hkq4 _ _ _ nn141
      clear hkq4 hfq4 hsq4
      have hzq4 : w.heap.size ≤ wq4.heap.size := hBq4.size
      (try simp only [Act.put, List.setIfInBounds_toArray, List.set_cons_zero, List.set_cons_succ])
      refine wpAnyH_ready (rs := [16]) (by kernel_rfl) (by simp) ?_
      refine AllReadyH.cons (o := ⟨none, _, _, _, _, none⟩) rfl (fun K hK => ?_) (AllReadyH.nil)
      (try dsimp only at hHeld)
      have hBq5 : Below w.heap.size w ((wq4.setCell ⟨wq1.heap.size, 0, none⟩ (.int .i64 xl)).setCell ⟨wq1.heap.size, 1, none⟩ (.int .i64 xh)) := by go_grown
      have hOld := hHeld; clear hHeld; go_simp; refine hK.out _ _ ?_ (fun hHeld => ?_)
      · exact ⟨two_other (hOld.1) (Nat.ne_of_gt nn14l0), two_other (hOld.2.1) (Nat.ne_of_gt nn14l0), two_other (hOld.2.2.1) (Nat.ne_of_gt nn14l1), two_other (hOld.2.2.2.1) (Nat.ne_of_gt nn14l1), two_other (hOld.2.2.2.2.1) (Nat.ne_of_gt nn14l2), two_other (hOld.2.2.2.2.2.1) (Nat.ne_of_gt nn14l2), two_other (hOld.2.2.2.2.2.2.1) (Nat.ne_of_gt nn14l2), two_other (hOld.2.2.2.2.2.2.2) (Nat.ne_of_gt nn14l2)⟩
      clear hK K hOld
      (try dsimp only at hHeld)
      replace nn15f0 := two_fz (b := wq1.heap.size) (x := .int .i64 xl) (y := .int .i64 xh) nn15f0
      replace nn150 := two_other (b := wq1.heap.size) (x := .int .i64 xl) (y := .int .i64 xh) nn150 (by omega)
      replace nn15f1 := two_fz (b := wq1.heap.size) (x := .int .i64 xl) (y := .int .i64 xh) nn15f1
      replace nn151 := two_other (b := wq1.heap.size) (x := .int .i64 xl) (y := .int .i64 xh) nn151 (by omega)
      replace nn14f0 := two_fz (b := wq1.heap.size) (x := .int .i64 xl) (y := .int .i64 xh) nn14f0
      replace nn140 := two_0 (x := .int .i64 xl) (y := .int .i64 xh) nn140
      replace nn14f1 := two_fz (b := wq1.heap.size) (x := .int .i64 xl) (y := .int .i64 xh) nn14f1
      replace nn141 := two_1 (x := .int .i64 xl) (y := .int .i64 xh) nn141
      generalize ((wq4.setCell ⟨wq1.heap.size, 0, none⟩ (.int .i64 xl)).setCell ⟨wq1.heap.size, 1, none⟩ (.int .i64 xh)) = wq5 at *
      have hzq5 : w.heap.size ≤ wq5.heap.size := hBq5.size
      (try simp only [Act.put, List.setIfInBounds_toArray, List.set_cons_zero, List.set_cons_succ])
      refine wpAnyH_ready (rs := [17]) (by kernel_rfl) (by simp) ?_
      refine AllReadyH.cons (o := ⟨none, _, _, _, _, none⟩) rfl (fun K hK => ?_) (AllReadyH.nil)
      (try dsimp only at hHeld)
      have hBq6 : Below w.heap.size w ((wq5.setCell ⟨wq0.heap.size, 0, none⟩ (.int .i64 yl)).setCell ⟨wq0.heap.size, 1, none⟩ (.int .i64 yh)) := by go_grown
      have hOld := hHeld; clear hHeld; go_simp; refine hK.out _ _ ?_ (fun hHeld => ?_)
      · exact ⟨two_other (hOld.1) (Nat.ne_of_gt nn15l0), two_other (hOld.2.1) (Nat.ne_of_gt nn15l0), two_other (hOld.2.2.1) (Nat.ne_of_gt nn15l1), two_other (hOld.2.2.2.1) (Nat.ne_of_gt nn15l1), two_other (hOld.2.2.2.2.1) (Nat.ne_of_gt nn15l2), two_other (hOld.2.2.2.2.2.1) (Nat.ne_of_gt nn15l2), two_other (hOld.2.2.2.2.2.2.1) (Nat.ne_of_gt nn15l2), two_other (hOld.2.2.2.2.2.2.2) (Nat.ne_of_gt nn15l2)⟩
      clear hK K hOld
      (try dsimp only at hHeld)
      replace nn15f0 := two_fz (b := wq0.heap.size) (x := .int .i64 yl) (y := .int .i64 yh) nn15f0
      replace nn150 := two_0 (x := .int .i64 yl) (y := .int .i64 yh) nn150
      replace nn15f1 := two_fz (b := wq0.heap.size) (x := .int .i64 yl) (y := .int .i64 yh) nn15f1
      replace nn151 := two_1 (x := .int .i64 yl) (y := .int .i64 yh) nn151
      replace nn14f0 := two_fz (b := wq0.heap.size) (x := .int .i64 yl) (y := .int .i64 yh) nn14f0
      replace nn140 := two_other (b := wq0.heap.size) (x := .int .i64 yl) (y := .int .i64 yh) nn140 (by omega)
      replace nn14f1 := two_fz (b := wq0.heap.size) (x := .int .i64 yl) (y := .int .i64 yh) nn14f1
      replace nn141 := two_other (b := wq0.heap.size) (x := .int .i64 yl) (y := .int .i64 yh) nn141 (by omega)
      generalize ((wq5.setCell ⟨wq0.heap.size, 0, none⟩ (.int .i64 yl)).setCell ⟨wq0.heap.size, 1, none⟩ (.int .i64 yh)) = wq6 at *
      have hzq6 : w.heap.size ≤ wq6.heap.size := hBq6.size
      (try simp only [Act.put, List.setIfInBounds_toArray, List.set_cons_zero, List.set_cons_succ])
      refine wpAnyH_done (by kernel_rfl) ?_ _
      go_wp2_with fail
      go_meet
      obtain ⟨p00, p01, p10, p11, _, _, _, _⟩ := hHeld
      exact ⟨_, _, rfl, rfl, ⟨p00, p01, p10, p11, nn140, nn141, nn150, nn151⟩, by assumption⟩
  case rest =>
    obtain ⟨Bx, By, rfl, rfl, hA, hB⟩ := hcut
    obtain ⟨fa0, fa1, fb0, fb1, fx0, fx1, fy0, fy1⟩ := hA
    have hz := hB.size
    have hA2 : TF w.heap.size Bx By wc.heap.size al ah bl bh xl xh yl yh (wc.alloc (.cells #[.func (.func 28) #[] #[], .func (.func 33) #[] #[], .func (.func 34) #[] #[], .func (.func 19) #[] #[], .func (.func 42) #[] #[], .func (.func 43) #[] #[], .func (.func 44) #[] #[]] 35)) := ⟨keepA _ fa0, keepA _ fa1, keepA _ fb0, keepA _ fb1, keepA _ fx0, keepA _ fx1, keepA _ fy0, keepA _ fy1, by simp [go_sem], by simp [go_sem], by simp [go_sem], by simp [go_sem], by simp [go_sem], by simp [go_sem], by simp [go_sem]⟩
    have hB2 : Below w.heap.size w (wc.alloc (.cells #[.func (.func 28) #[] #[], .func (.func 33) #[] #[], .func (.func 34) #[] #[], .func (.func 19) #[] #[], .func (.func 42) #[] #[], .func (.func 43) #[] #[], .func (.func 44) #[] #[]] 35)) := by go_grown
    clear fa0 fa1 fb0 fb1 fx0 fx1 fy0 fy1
    go_upto_block 0 with fail
    generalize wc.heap.size = Bf at *
    go_cut [] (fun wx => TP w.heap.size Bx By al ah bl bh xl xh yl yh wx ∧ Below w.heap.size w wx)
    case first => as_aux_lemma =>
      go_wp2_with fail
      go_loopw [58] (fun s wx => ∃ k : Nat, s = .int .i64 k ∧ k ≤ 7 ∧ TF w.heap.size Bx By Bf al ah bl bh xl xh yl yh wx ∧ Below w.heap.size w wx) (fun s _ => (7 - intOf s).toNat)
      case atStart => exact ⟨0, rfl, by omega, hA2, hB2⟩
      case round =>
        clear hA2 hB2
        obtain ⟨k, rfl, hk, hA2, hB2⟩ := hrel
        obtain ⟨fa0, fa1, fb0, fb1, fx0, fx1, fy0, fy1, ff0, ff1, ff2, ff3, ff4, ff5, ff6⟩ := hA2
        rcases (by omega : k = 7 ∨ k = 0 ∨ k = 1 ∨ k = 2 ∨ k = 3 ∨ k = 4 ∨ k = 5 ∨ k = 6) with rfl | rfl | rfl | rfl | rfl | rfl | rfl | rfl
        · go_wp2_with fail
          go_meet
          exact ⟨⟨fa0, fa1, fb0, fb1, fx0, fx1, fy0, fy1⟩, hB2⟩
        · as_aux_lemma =>
          obtain ⟨p1, p2, pe, q1, q2, qe, r1, r2, r3⟩ := o0.out
          replace r1 := hid r1; replace r2 := hid r2; replace r3 := hid r3
          go_wp2_with fail
          refine useF w (r1.out _) (by go_grown) ?_; rintro e w21 rfl hB21 hk21 hf21 hs21; clear hs21
          replace fa0 : w21.cell? ⟨w.heap.size, 0, none⟩ = some (.int .i64 al) := hk21 _ _ _ (fa0)
          replace fa1 : w21.cell? ⟨w.heap.size, 1, none⟩ = some (.int .i64 ah) := hk21 _ _ _ (fa1)
          replace fb0 : w21.cell? ⟨w.heap.size + 1, 0, none⟩ = some (.int .i64 bl) := hk21 _ _ _ (fb0)
          replace fb1 : w21.cell? ⟨w.heap.size + 1, 1, none⟩ = some (.int .i64 bh) := hk21 _ _ _ (fb1)
          replace fx0 : w21.cell? ⟨Bx, 0, none⟩ = some (.int .i64 xl) := hk21 _ _ _ (fx0)
          replace fx1 : w21.cell? ⟨Bx, 1, none⟩ = some (.int .i64 xh) := hk21 _ _ _ (fx1)
          replace fy0 : w21.cell? ⟨By, 0, none⟩ = some (.int .i64 yl) := hk21 _ _ _ (fy0)
          replace fy1 : w21.cell? ⟨By, 1, none⟩ = some (.int .i64 yh) := hk21 _ _ _ (fy1)
          replace ff0 : w21.cell? ⟨Bf, 0, none⟩ = some (.func (.func 28) #[] #[]) := hk21 _ _ _ (ff0)
          replace ff1 : w21.cell? ⟨Bf, 1, none⟩ = some (.func (.func 33) #[] #[]) := hk21 _ _ _ (ff1)
          replace ff2 : w21.cell? ⟨Bf, 2, none⟩ = some (.func (.func 34) #[] #[]) := hk21 _ _ _ (ff2)
          replace ff3 : w21.cell? ⟨Bf, 3, none⟩ = some (.func (.func 19) #[] #[]) := hk21 _ _ _ (ff3)
          replace ff4 : w21.cell? ⟨Bf, 4, none⟩ = some (.func (.func 42) #[] #[]) := hk21 _ _ _ (ff4)
          replace ff5 : w21.cell? ⟨Bf, 5, none⟩ = some (.func (.func 43) #[] #[]) := hk21 _ _ _ (ff5)
          replace ff6 : w21.cell? ⟨Bf, 6, none⟩ = some (.func (.func 44) #[] #[]) := hk21 _ _ _ (ff6)
          (try clear fab); have fab : w.heap.size < w21.heap.size := World.block_lt_of_cell? w21 ⟨w.heap.size, 0, none⟩ fa0
          (try clear fbb); have fbb : w.heap.size + 1 < w21.heap.size := World.block_lt_of_cell? w21 ⟨w.heap.size + 1, 0, none⟩ fb0
          (try clear fxb); have fxb : Bx < w21.heap.size := World.block_lt_of_cell? w21 ⟨Bx, 0, none⟩ fx0
          (try clear fyb); have fyb : By < w21.heap.size := World.block_lt_of_cell? w21 ⟨By, 0, none⟩ fy0
          (try clear ffb); have ffb : Bf < w21.heap.size := World.block_lt_of_cell? w21 ⟨Bf, 0, none⟩ ff0
          clear hk21 hf21
          go_wp2_with fail
          refine useF w (r2.out _) (by go_grown) ?_; rintro e w22 rfl hB22 hk22 hf22 hs22; clear hs22
          replace fa0 : w22.cell? ⟨w.heap.size, 0, none⟩ = some (.int .i64 al) := hk22 _ _ _ ((keepA _ fa0))
          replace fa1 : w22.cell? ⟨w.heap.size, 1, none⟩ = some (.int .i64 ah) := hk22 _ _ _ ((keepA _ fa1))
          replace fb0 : w22.cell? ⟨w.heap.size + 1, 0, none⟩ = some (.int .i64 bl) := hk22 _ _ _ ((keepA _ fb0))
          replace fb1 : w22.cell? ⟨w.heap.size + 1, 1, none⟩ = some (.int .i64 bh) := hk22 _ _ _ ((keepA _ fb1))
          replace fx0 : w22.cell? ⟨Bx, 0, none⟩ = some (.int .i64 xl) := hk22 _ _ _ ((keepA _ fx0))
          replace fx1 : w22.cell? ⟨Bx, 1, none⟩ = some (.int .i64 xh) := hk22 _ _ _ ((keepA _ fx1))
          replace fy0 : w22.cell? ⟨By, 0, none⟩ = some (.int .i64 yl) := hk22 _ _ _ ((keepA _ fy0))
          replace fy1 : w22.cell? ⟨By, 1, none⟩ = some (.int .i64 yh) := hk22 _ _ _ ((keepA _ fy1))
          replace ff0 : w22.cell? ⟨Bf, 0, none⟩ = some (.func (.func 28) #[] #[]) := hk22 _ _ _ ((keepA _ ff0))
          replace ff1 : w22.cell? ⟨Bf, 1, none⟩ = some (.func (.func 33) #[] #[]) := hk22 _ _ _ ((keepA _ ff1))
          replace ff2 : w22.cell? ⟨Bf, 2, none⟩ = some (.func (.func 34) #[] #[]) := hk22 _ _ _ ((keepA _ ff2))
          replace ff3 : w22.cell? ⟨Bf, 3, none⟩ = some (.func (.func 19) #[] #[]) := hk22 _ _ _ ((keepA _ ff3))
          replace ff4 : w22.cell? ⟨Bf, 4, none⟩ = some (.func (.func 42) #[] #[]) := hk22 _ _ _ ((keepA _ ff4))
          replace ff5 : w22.cell? ⟨Bf, 5, none⟩ = some (.func (.func 43) #[] #[]) := hk22 _ _ _ ((keepA _ ff5))
          replace ff6 : w22.cell? ⟨Bf, 6, none⟩ = some (.func (.func 44) #[] #[]) := hk22 _ _ _ ((keepA _ ff6))
          have fc0 : w22.cell? ⟨w21.heap.size, 0, none⟩ = some (.int .i64 p1) := hk22 _ _ _ ((by simp [go_sem]))
          have fc1 : w22.cell? ⟨w21.heap.size, 1, none⟩ = some (.int .i64 p2) := hk22 _ _ _ ((by simp [go_sem]))
          (try clear fab); have fab : w.heap.size < w22.heap.size := World.block_lt_of_cell? w22 ⟨w.heap.size, 0, none⟩ fa0
          (try clear fbb); have fbb : w.heap.size + 1 < w22.heap.size := World.block_lt_of_cell? w22 ⟨w.heap.size + 1, 0, none⟩ fb0
          (try clear fxb); have fxb : Bx < w22.heap.size := World.block_lt_of_cell? w22 ⟨Bx, 0, none⟩ fx0
          (try clear fyb); have fyb : By < w22.heap.size := World.block_lt_of_cell? w22 ⟨By, 0, none⟩ fy0
          (try clear ffb); have ffb : Bf < w22.heap.size := World.block_lt_of_cell? w22 ⟨Bf, 0, none⟩ ff0
          (try clear fcb); have fcb : w21.heap.size < w22.heap.size := World.block_lt_of_cell? w22 ⟨w21.heap.size, 0, none⟩ fc0
          clear hk22 hf22
          go_wp2_with fail
          refine useF w (r3.out _) (by go_grown) ?_; rintro e w23 rfl hB23 hk23 hf23 hs23; clear hs23
          replace fa0 : w23.cell? ⟨w.heap.size, 0, none⟩ = some (.int .i64 al) := hk23 _ _ _ ((keepA _ fa0))
          replace fa1 : w23.cell? ⟨w.heap.size, 1, none⟩ = some (.int .i64 ah) := hk23 _ _ _ ((keepA _ fa1))
          replace fb0 : w23.cell? ⟨w.heap.size + 1, 0, none⟩ = some (.int .i64 bl) := hk23 _ _ _ ((keepA _ fb0))
          replace fb1 : w23.cell? ⟨w.heap.size + 1, 1, none⟩ = some (.int .i64 bh) := hk23 _ _ _ ((keepA _ fb1))
          replace fx0 : w23.cell? ⟨Bx, 0, none⟩ = some (.int .i64 xl) := hk23 _ _ _ ((keepA _ fx0))
          replace fx1 : w23.cell? ⟨Bx, 1, none⟩ = some (.int .i64 xh) := hk23 _ _ _ ((keepA _ fx1))
          replace fy0 : w23.cell? ⟨By, 0, none⟩ = some (.int .i64 yl) := hk23 _ _ _ ((keepA _ fy0))
          replace fy1 : w23.cell? ⟨By, 1, none⟩ = some (.int .i64 yh) := hk23 _ _ _ ((keepA _ fy1))
          replace ff0 : w23.cell? ⟨Bf, 0, none⟩ = some (.func (.func 28) #[] #[]) := hk23 _ _ _ ((keepA _ ff0))
          replace ff1 : w23.cell? ⟨Bf, 1, none⟩ = some (.func (.func 33) #[] #[]) := hk23 _ _ _ ((keepA _ ff1))
          replace ff2 : w23.cell? ⟨Bf, 2, none⟩ = some (.func (.func 34) #[] #[]) := hk23 _ _ _ ((keepA _ ff2))
          replace ff3 : w23.cell? ⟨Bf, 3, none⟩ = some (.func (.func 19) #[] #[]) := hk23 _ _ _ ((keepA _ ff3))
          replace ff4 : w23.cell? ⟨Bf, 4, none⟩ = some (.func (.func 42) #[] #[]) := hk23 _ _ _ ((keepA _ ff4))
          replace ff5 : w23.cell? ⟨Bf, 5, none⟩ = some (.func (.func 43) #[] #[]) := hk23 _ _ _ ((keepA _ ff5))
          replace ff6 : w23.cell? ⟨Bf, 6, none⟩ = some (.func (.func 44) #[] #[]) := hk23 _ _ _ ((keepA _ ff6))
          replace fc0 : w23.cell? ⟨w21.heap.size, 0, none⟩ = some (.int .i64 p1) := hk23 _ _ _ ((keepA _ fc0))
          replace fc1 : w23.cell? ⟨w21.heap.size, 1, none⟩ = some (.int .i64 p2) := hk23 _ _ _ ((keepA _ fc1))
          have fd0 : w23.cell? ⟨w22.heap.size, 0, none⟩ = some (.int .i64 q1) := hk23 _ _ _ ((by simp [go_sem]))
          have fd1 : w23.cell? ⟨w22.heap.size, 1, none⟩ = some (.int .i64 q2) := hk23 _ _ _ ((by simp [go_sem]))
          (try clear fab); have fab : w.heap.size < w23.heap.size := World.block_lt_of_cell? w23 ⟨w.heap.size, 0, none⟩ fa0
          (try clear fbb); have fbb : w.heap.size + 1 < w23.heap.size := World.block_lt_of_cell? w23 ⟨w.heap.size + 1, 0, none⟩ fb0
          (try clear fxb); have fxb : Bx < w23.heap.size := World.block_lt_of_cell? w23 ⟨Bx, 0, none⟩ fx0
          (try clear fyb); have fyb : By < w23.heap.size := World.block_lt_of_cell? w23 ⟨By, 0, none⟩ fy0
          (try clear ffb); have ffb : Bf < w23.heap.size := World.block_lt_of_cell? w23 ⟨Bf, 0, none⟩ ff0
          (try clear fcb); have fcb : w21.heap.size < w23.heap.size := World.block_lt_of_cell? w23 ⟨w21.heap.size, 0, none⟩ fc0
          (try clear fdb); have fdb : w22.heap.size < w23.heap.size := World.block_lt_of_cell? w23 ⟨w22.heap.size, 0, none⟩ fd0
          clear hk23 hf23
          go_wp2_with fail
          go_roundw
          case rel => exact ⟨1, by go_num, by omega, ⟨fa0, fa1, fb0, fb1, fx0, fx1, fy0, fy1, ff0, ff1, ff2, ff3, ff4, ff5, ff6⟩, by assumption⟩
          case measure => first | (simp [intOf]; done) | (simp [intOf]; omega)
        · as_aux_lemma =>
          obtain ⟨p1, p2, pe, q1, q2, qe, r1, r2, r3⟩ := o1.out
          replace r1 := hid r1; replace r2 := hid r2; replace r3 := hid r3
          go_wp2_with fail
          refine useF w (r1.out _) (by go_grown) ?_; rintro e w21 rfl hB21 hk21 hf21 hs21; clear hs21
          replace fa0 : w21.cell? ⟨w.heap.size, 0, none⟩ = some (.int .i64 al) := hk21 _ _ _ (fa0)
          replace fa1 : w21.cell? ⟨w.heap.size, 1, none⟩ = some (.int .i64 ah) := hk21 _ _ _ (fa1)
          replace fb0 : w21.cell? ⟨w.heap.size + 1, 0, none⟩ = some (.int .i64 bl) := hk21 _ _ _ (fb0)
          replace fb1 : w21.cell? ⟨w.heap.size + 1, 1, none⟩ = some (.int .i64 bh) := hk21 _ _ _ (fb1)
          replace fx0 : w21.cell? ⟨Bx, 0, none⟩ = some (.int .i64 xl) := hk21 _ _ _ (fx0)
          replace fx1 : w21.cell? ⟨Bx, 1, none⟩ = some (.int .i64 xh) := hk21 _ _ _ (fx1)
          replace fy0 : w21.cell? ⟨By, 0, none⟩ = some (.int .i64 yl) := hk21 _ _ _ (fy0)
          replace fy1 : w21.cell? ⟨By, 1, none⟩ = some (.int .i64 yh) := hk21 _ _ _ (fy1)
          replace ff0 : w21.cell? ⟨Bf, 0, none⟩ = some (.func (.func 28) #[] #[]) := hk21 _ _ _ (ff0)
          replace ff1 : w21.cell? ⟨Bf, 1, none⟩ = some (.func (.func 33) #[] #[]) := hk21 _ _ _ (ff1)
          replace ff2 : w21.cell? ⟨Bf, 2, none⟩ = some (.func (.func 34) #[] #[]) := hk21 _ _ _ (ff2)
          replace ff3 : w21.cell? ⟨Bf, 3, none⟩ = some (.func (.func 19) #[] #[]) := hk21 _ _ _ (ff3)
          replace ff4 : w21.cell? ⟨Bf, 4, none⟩ = some (.func (.func 42) #[] #[]) := hk21 _ _ _ (ff4)
          replace ff5 : w21.cell? ⟨Bf, 5, none⟩ = some (.func (.func 43) #[] #[]) := hk21 _ _ _ (ff5)
          replace ff6 : w21.cell? ⟨Bf, 6, none⟩ = some (.func (.func 44) #[] #[]) := hk21 _ _ _ (ff6)
          (try clear fab); have fab : w.heap.size < w21.heap.size := World.block_lt_of_cell? w21 ⟨w.heap.size, 0, none⟩ fa0
          (try clear fbb); have fbb : w.heap.size + 1 < w21.heap.size := World.block_lt_of_cell? w21 ⟨w.heap.size + 1, 0, none⟩ fb0
          (try clear fxb); have fxb : Bx < w21.heap.size := World.block_lt_of_cell? w21 ⟨Bx, 0, none⟩ fx0
          (try clear fyb); have fyb : By < w21.heap.size := World.block_lt_of_cell? w21 ⟨By, 0, none⟩ fy0
          (try clear ffb); have ffb : Bf < w21.heap.size := World.block_lt_of_cell? w21 ⟨Bf, 0, none⟩ ff0
          clear hk21 hf21
          go_wp2_with fail
          refine useF w (r2.out _) (by go_grown) ?_; rintro e w22 rfl hB22 hk22 hf22 hs22; clear hs22
          replace fa0 : w22.cell? ⟨w.heap.size, 0, none⟩ = some (.int .i64 al) := hk22 _ _ _ ((keepA _ fa0))
          replace fa1 : w22.cell? ⟨w.heap.size, 1, none⟩ = some (.int .i64 ah) := hk22 _ _ _ ((keepA _ fa1))
          replace fb0 : w22.cell? ⟨w.heap.size + 1, 0, none⟩ = some (.int .i64 bl) := hk22 _ _ _ ((keepA _ fb0))
          replace fb1 : w22.cell? ⟨w.heap.size + 1, 1, none⟩ = some (.int .i64 bh) := hk22 _ _ _ ((keepA _ fb1))
          replace fx0 : w22.cell? ⟨Bx, 0, none⟩ = some (.int .i64 xl) := hk22 _ _ _ ((keepA _ fx0))
          replace fx1 : w22.cell? ⟨Bx, 1, none⟩ = some (.int .i64 xh) := hk22 _ _ _ ((keepA _ fx1))
          replace fy0 : w22.cell? ⟨By, 0, none⟩ = some (.int .i64 yl) := hk22 _ _ _ ((keepA _ fy0))
          replace fy1 : w22.cell? ⟨By, 1, none⟩ = some (.int .i64 yh) := hk22 _ _ _ ((keepA _ fy1))
          replace ff0 : w22.cell? ⟨Bf, 0, none⟩ = some (.func (.func 28) #[] #[]) := hk22 _ _ _ ((keepA _ ff0))
          replace ff1 : w22.cell? ⟨Bf, 1, none⟩ = some (.func (.func 33) #[] #[]) := hk22 _ _ _ ((keepA _ ff1))
          replace ff2 : w22.cell? ⟨Bf, 2, none⟩ = some (.func (.func 34) #[] #[]) := hk22 _ _ _ ((keepA _ ff2))
          replace ff3 : w22.cell? ⟨Bf, 3, none⟩ = some (.func (.func 19) #[] #[]) := hk22 _ _ _ ((keepA _ ff3))
          replace ff4 : w22.cell? ⟨Bf, 4, none⟩ = some (.func (.func 42) #[] #[]) := hk22 _ _ _ ((keepA _ ff4))
          replace ff5 : w22.cell? ⟨Bf, 5, none⟩ = some (.func (.func 43) #[] #[]) := hk22 _ _ _ ((keepA _ ff5))
          replace ff6 : w22.cell? ⟨Bf, 6, none⟩ = some (.func (.func 44) #[] #[]) := hk22 _ _ _ ((keepA _ ff6))
          have fc0 : w22.cell? ⟨w21.heap.size, 0, none⟩ = some (.int .i64 p1) := hk22 _ _ _ ((by simp [go_sem]))
          have fc1 : w22.cell? ⟨w21.heap.size, 1, none⟩ = some (.int .i64 p2) := hk22 _ _ _ ((by simp [go_sem]))
          (try clear fab); have fab : w.heap.size < w22.heap.size := World.block_lt_of_cell? w22 ⟨w.heap.size, 0, none⟩ fa0
          (try clear fbb); have fbb : w.heap.size + 1 < w22.heap.size := World.block_lt_of_cell? w22 ⟨w.heap.size + 1, 0, none⟩ fb0
          (try clear fxb); have fxb : Bx < w22.heap.size := World.block_lt_of_cell? w22 ⟨Bx, 0, none⟩ fx0
          (try clear fyb); have fyb : By < w22.heap.size := World.block_lt_of_cell? w22 ⟨By, 0, none⟩ fy0
          (try clear ffb); have ffb : Bf < w22.heap.size := World.block_lt_of_cell? w22 ⟨Bf, 0, none⟩ ff0
          (try clear fcb); have fcb : w21.heap.size < w22.heap.size := World.block_lt_of_cell? w22 ⟨w21.heap.size, 0, none⟩ fc0
          clear hk22 hf22
          go_wp2_with fail
          refine useF w (r3.out _) (by go_grown) ?_; rintro e w23 rfl hB23 hk23 hf23 hs23; clear hs23
          replace fa0 : w23.cell? ⟨w.heap.size, 0, none⟩ = some (.int .i64 al) := hk23 _ _ _ ((keepA _ fa0))
          replace fa1 : w23.cell? ⟨w.heap.size, 1, none⟩ = some (.int .i64 ah) := hk23 _ _ _ ((keepA _ fa1))
          replace fb0 : w23.cell? ⟨w.heap.size + 1, 0, none⟩ = some (.int .i64 bl) := hk23 _ _ _ ((keepA _ fb0))
          replace fb1 : w23.cell? ⟨w.heap.size + 1, 1, none⟩ = some (.int .i64 bh) := hk23 _ _ _ ((keepA _ fb1))
          replace fx0 : w23.cell? ⟨Bx, 0, none⟩ = some (.int .i64 xl) := hk23 _ _ _ ((keepA _ fx0))
          replace fx1 : w23.cell? ⟨Bx, 1, none⟩ = some (.int .i64 xh) := hk23 _ _ _ ((keepA _ fx1))
          replace fy0 : w23.cell? ⟨By, 0, none⟩ = some (.int .i64 yl) := hk23 _ _ _ ((keepA _ fy0))
          replace fy1 : w23.cell? ⟨By, 1, none⟩ = some (.int .i64 yh) := hk23 _ _ _ ((keepA _ fy1))
          replace ff0 : w23.cell? ⟨Bf, 0, none⟩ = some (.func (.func 28) #[] #[]) := hk23 _ _ _ ((keepA _ ff0))
          replace ff1 : w23.cell? ⟨Bf, 1, none⟩ = some (.func (.func 33) #[] #[]) := hk23 _ _ _ ((keepA _ ff1))
          replace ff2 : w23.cell? ⟨Bf, 2, none⟩ = some (.func (.func 34) #[] #[]) := hk23 _ _ _ ((keepA _ ff2))
          replace ff3 : w23.cell? ⟨Bf, 3, none⟩ = some (.func (.func 19) #[] #[]) := hk23 _ _ _ ((keepA _ ff3))
          replace ff4 : w23.cell? ⟨Bf, 4, none⟩ = some (.func (.func 42) #[] #[]) := hk23 _ _ _ ((keepA _ ff4))
          replace ff5 : w23.cell? ⟨Bf, 5, none⟩ = some (.func (.func 43) #[] #[]) := hk23 _ _ _ ((keepA _ ff5))
          replace ff6 : w23.cell? ⟨Bf, 6, none⟩ = some (.func (.func 44) #[] #[]) := hk23 _ _ _ ((keepA _ ff6))
          replace fc0 : w23.cell? ⟨w21.heap.size, 0, none⟩ = some (.int .i64 p1) := hk23 _ _ _ ((keepA _ fc0))
          replace fc1 : w23.cell? ⟨w21.heap.size, 1, none⟩ = some (.int .i64 p2) := hk23 _ _ _ ((keepA _ fc1))
          have fd0 : w23.cell? ⟨w22.heap.size, 0, none⟩ = some (.int .i64 q1) := hk23 _ _ _ ((by simp [go_sem]))
          have fd1 : w23.cell? ⟨w22.heap.size, 1, none⟩ = some (.int .i64 q2) := hk23 _ _ _ ((by simp [go_sem]))
          (try clear fab); have fab : w.heap.size < w23.heap.size := World.block_lt_of_cell? w23 ⟨w.heap.size, 0, none⟩ fa0
          (try clear fbb); have fbb : w.heap.size + 1 < w23.heap.size := World.block_lt_of_cell? w23 ⟨w.heap.size + 1, 0, none⟩ fb0
          (try clear fxb); have fxb : Bx < w23.heap.size := World.block_lt_of_cell? w23 ⟨Bx, 0, none⟩ fx0
          (try clear fyb); have fyb : By < w23.heap.size := World.block_lt_of_cell? w23 ⟨By, 0, none⟩ fy0
          (try clear ffb); have ffb : Bf < w23.heap.size := World.block_lt_of_cell? w23 ⟨Bf, 0, none⟩ ff0
          (try clear fcb); have fcb : w21.heap.size < w23.heap.size := World.block_lt_of_cell? w23 ⟨w21.heap.size, 0, none⟩ fc0
          (try clear fdb); have fdb : w22.heap.size < w23.heap.size := World.block_lt_of_cell? w23 ⟨w22.heap.size, 0, none⟩ fd0
          clear hk23 hf23
          go_wp2_with fail
          go_roundw
          case rel => exact ⟨2, by go_num, by omega, ⟨fa0, fa1, fb0, fb1, fx0, fx1, fy0, fy1, ff0, ff1, ff2, ff3, ff4, ff5, ff6⟩, by assumption⟩
          case measure => first | (simp [intOf]; done) | (simp [intOf]; omega)
        · as_aux_lemma =>
          obtain ⟨p1, p2, pe, q1, q2, qe, r1, r2, r3⟩ := o2.out
          replace r1 := hid r1; replace r2 := hid r2; replace r3 := hid r3
          go_wp2_with fail
          refine useF w (r1.out _) (by go_grown) ?_; rintro e w21 rfl hB21 hk21 hf21 hs21; clear hs21
          replace fa0 : w21.cell? ⟨w.heap.size, 0, none⟩ = some (.int .i64 al) := hk21 _ _ _ (fa0)
          replace fa1 : w21.cell? ⟨w.heap.size, 1, none⟩ = some (.int .i64 ah) := hk21 _ _ _ (fa1)
          replace fb0 : w21.cell? ⟨w.heap.size + 1, 0, none⟩ = some (.int .i64 bl) := hk21 _ _ _ (fb0)
          replace fb1 : w21.cell? ⟨w.heap.size + 1, 1, none⟩ = some (.int .i64 bh) := hk21 _ _ _ (fb1)
          replace fx0 : w21.cell? ⟨Bx, 0, none⟩ = some (.int .i64 xl) := hk21 _ _ _ (fx0)
          replace fx1 : w21.cell? ⟨Bx, 1, none⟩ = some (.int .i64 xh) := hk21 _ _ _ (fx1)
          replace fy0 : w21.cell? ⟨By, 0, none⟩ = some (.int .i64 yl) := hk21 _ _ _ (fy0)
          replace fy1 : w21.cell? ⟨By, 1, none⟩ = some (.int .i64 yh) := hk21 _ _ _ (fy1)
          replace ff0 : w21.cell? ⟨Bf, 0, none⟩ = some (.func (.func 28) #[] #[]) := hk21 _ _ _ (ff0)
          replace ff1 : w21.cell? ⟨Bf, 1, none⟩ = some (.func (.func 33) #[] #[]) := hk21 _ _ _ (ff1)
          replace ff2 : w21.cell? ⟨Bf, 2, none⟩ = some (.func (.func 34) #[] #[]) := hk21 _ _ _ (ff2)
          replace ff3 : w21.cell? ⟨Bf, 3, none⟩ = some (.func (.func 19) #[] #[]) := hk21 _ _ _ (ff3)
          replace ff4 : w21.cell? ⟨Bf, 4, none⟩ = some (.func (.func 42) #[] #[]) := hk21 _ _ _ (ff4)
          replace ff5 : w21.cell? ⟨Bf, 5, none⟩ = some (.func (.func 43) #[] #[]) := hk21 _ _ _ (ff5)
          replace ff6 : w21.cell? ⟨Bf, 6, none⟩ = some (.func (.func 44) #[] #[]) := hk21 _ _ _ (ff6)
          (try clear fab); have fab : w.heap.size < w21.heap.size := World.block_lt_of_cell? w21 ⟨w.heap.size, 0, none⟩ fa0
          (try clear fbb); have fbb : w.heap.size + 1 < w21.heap.size := World.block_lt_of_cell? w21 ⟨w.heap.size + 1, 0, none⟩ fb0
          (try clear fxb); have fxb : Bx < w21.heap.size := World.block_lt_of_cell? w21 ⟨Bx, 0, none⟩ fx0
          (try clear fyb); have fyb : By < w21.heap.size := World.block_lt_of_cell? w21 ⟨By, 0, none⟩ fy0
          (try clear ffb); have ffb : Bf < w21.heap.size := World.block_lt_of_cell? w21 ⟨Bf, 0, none⟩ ff0
          clear hk21 hf21
          go_wp2_with fail
          refine useF w (r2.out _) (by go_grown) ?_; rintro e w22 rfl hB22 hk22 hf22 hs22; clear hs22
          replace fa0 : w22.cell? ⟨w.heap.size, 0, none⟩ = some (.int .i64 al) := hk22 _ _ _ ((keepA _ fa0))
          replace fa1 : w22.cell? ⟨w.heap.size, 1, none⟩ = some (.int .i64 ah) := hk22 _ _ _ ((keepA _ fa1))
          replace fb0 : w22.cell? ⟨w.heap.size + 1, 0, none⟩ = some (.int .i64 bl) := hk22 _ _ _ ((keepA _ fb0))
          replace fb1 : w22.cell? ⟨w.heap.size + 1, 1, none⟩ = some (.int .i64 bh) := hk22 _ _ _ ((keepA _ fb1))
          replace fx0 : w22.cell? ⟨Bx, 0, none⟩ = some (.int .i64 xl) := hk22 _ _ _ ((keepA _ fx0))
          replace fx1 : w22.cell? ⟨Bx, 1, none⟩ = some (.int .i64 xh) := hk22 _ _ _ ((keepA _ fx1))
          replace fy0 : w22.cell? ⟨By, 0, none⟩ = some (.int .i64 yl) := hk22 _ _ _ ((keepA _ fy0))
          replace fy1 : w22.cell? ⟨By, 1, none⟩ = some (.int .i64 yh) := hk22 _ _ _ ((keepA _ fy1))
          replace ff0 : w22.cell? ⟨Bf, 0, none⟩ = some (.func (.func 28) #[] #[]) := hk22 _ _ _ ((keepA _ ff0))
          replace ff1 : w22.cell? ⟨Bf, 1, none⟩ = some (.func (.func 33) #[] #[]) := hk22 _ _ _ ((keepA _ ff1))
          replace ff2 : w22.cell? ⟨Bf, 2, none⟩ = some (.func (.func 34) #[] #[]) := hk22 _ _ _ ((keepA _ ff2))
          replace ff3 : w22.cell? ⟨Bf, 3, none⟩ = some (.func (.func 19) #[] #[]) := hk22 _ _ _ ((keepA _ ff3))
          replace ff4 : w22.cell? ⟨Bf, 4, none⟩ = some (.func (.func 42) #[] #[]) := hk22 _ _ _ ((keepA _ ff4))
          replace ff5 : w22.cell? ⟨Bf, 5, none⟩ = some (.func (.func 43) #[] #[]) := hk22 _ _ _ ((keepA _ ff5))
          replace ff6 : w22.cell? ⟨Bf, 6, none⟩ = some (.func (.func 44) #[] #[]) := hk22 _ _ _ ((keepA _ ff6))
          have fc0 : w22.cell? ⟨w21.heap.size, 0, none⟩ = some (.int .i64 p1) := hk22 _ _ _ ((by simp [go_sem]))
          have fc1 : w22.cell? ⟨w21.heap.size, 1, none⟩ = some (.int .i64 p2) := hk22 _ _ _ ((by simp [go_sem]))
          (try clear fab); have fab : w.heap.size < w22.heap.size := World.block_lt_of_cell? w22 ⟨w.heap.size, 0, none⟩ fa0
          (try clear fbb); have fbb : w.heap.size + 1 < w22.heap.size := World.block_lt_of_cell? w22 ⟨w.heap.size + 1, 0, none⟩ fb0
          (try clear fxb); have fxb : Bx < w22.heap.size := World.block_lt_of_cell? w22 ⟨Bx, 0, none⟩ fx0
          (try clear fyb); have fyb : By < w22.heap.size := World.block_lt_of_cell? w22 ⟨By, 0, none⟩ fy0
          (try clear ffb); have ffb : Bf < w22.heap.size := World.block_lt_of_cell? w22 ⟨Bf, 0, none⟩ ff0
          (try clear fcb); have fcb : w21.heap.size < w22.heap.size := World.block_lt_of_cell? w22 ⟨w21.heap.size, 0, none⟩ fc0
          clear hk22 hf22
          go_wp2_with fail
          refine useF w (r3.out _) (by go_grown) ?_; rintro e w23 rfl hB23 hk23 hf23 hs23; clear hs23
          replace fa0 : w23.cell? ⟨w.heap.size, 0, none⟩ = some (.int .i64 al) := hk23 _ _ _ ((keepA _ fa0))
          replace fa1 : w23.cell? ⟨w.heap.size, 1, none⟩ = some (.int .i64 ah) := hk23 _ _ _ ((keepA _ fa1))
          replace fb0 : w23.cell? ⟨w.heap.size + 1, 0, none⟩ = some (.int .i64 bl) := hk23 _ _ _ ((keepA _ fb0))
          replace fb1 : w23.cell? ⟨w.heap.size + 1, 1, none⟩ = some (.int .i64 bh) := hk23 _ _ _ ((keepA _ fb1))
          replace fx0 : w23.cell? ⟨Bx, 0, none⟩ = some (.int .i64 xl) := hk23 _ _ _ ((keepA _ fx0))
          replace fx1 : w23.cell? ⟨Bx, 1, none⟩ = some (.int .i64 xh) := hk23 _ _ _ ((keepA _ fx1))
          replace fy0 : w23.cell? ⟨By, 0, none⟩ = some (.int .i64 yl) := hk23 _ _ _ ((keepA _ fy0))
          replace fy1 : w23.cell? ⟨By, 1, none⟩ = some (.int .i64 yh) := hk23 _ _ _ ((keepA _ fy1))
          replace ff0 : w23.cell? ⟨Bf, 0, none⟩ = some (.func (.func 28) #[] #[]) := hk23 _ _ _ ((keepA _ ff0))
          replace ff1 : w23.cell? ⟨Bf, 1, none⟩ = some (.func (.func 33) #[] #[]) := hk23 _ _ _ ((keepA _ ff1))
          replace ff2 : w23.cell? ⟨Bf, 2, none⟩ = some (.func (.func 34) #[] #[]) := hk23 _ _ _ ((keepA _ ff2))
          replace ff3 : w23.cell? ⟨Bf, 3, none⟩ = some (.func (.func 19) #[] #[]) := hk23 _ _ _ ((keepA _ ff3))
          replace ff4 : w23.cell? ⟨Bf, 4, none⟩ = some (.func (.func 42) #[] #[]) := hk23 _ _ _ ((keepA _ ff4))
          replace ff5 : w23.cell? ⟨Bf, 5, none⟩ = some (.func (.func 43) #[] #[]) := hk23 _ _ _ ((keepA _ ff5))
          replace ff6 : w23.cell? ⟨Bf, 6, none⟩ = some (.func (.func 44) #[] #[]) := hk23 _ _ _ ((keepA _ ff6))
          replace fc0 : w23.cell? ⟨w21.heap.size, 0, none⟩ = some (.int .i64 p1) := hk23 _ _ _ ((keepA _ fc0))
          replace fc1 : w23.cell? ⟨w21.heap.size, 1, none⟩ = some (.int .i64 p2) := hk23 _ _ _ ((keepA _ fc1))
          have fd0 : w23.cell? ⟨w22.heap.size, 0, none⟩ = some (.int .i64 q1) := hk23 _ _ _ ((by simp [go_sem]))
          have fd1 : w23.cell? ⟨w22.heap.size, 1, none⟩ = some (.int .i64 q2) := hk23 _ _ _ ((by simp [go_sem]))
          (try clear fab); have fab : w.heap.size < w23.heap.size := World.block_lt_of_cell? w23 ⟨w.heap.size, 0, none⟩ fa0
          (try clear fbb); have fbb : w.heap.size + 1 < w23.heap.size := World.block_lt_of_cell? w23 ⟨w.heap.size + 1, 0, none⟩ fb0
          (try clear fxb); have fxb : Bx < w23.heap.size := World.block_lt_of_cell? w23 ⟨Bx, 0, none⟩ fx0
          (try clear fyb); have fyb : By < w23.heap.size := World.block_lt_of_cell? w23 ⟨By, 0, none⟩ fy0
          (try clear ffb); have ffb : Bf < w23.heap.size := World.block_lt_of_cell? w23 ⟨Bf, 0, none⟩ ff0
          (try clear fcb); have fcb : w21.heap.size < w23.heap.size := World.block_lt_of_cell? w23 ⟨w21.heap.size, 0, none⟩ fc0
          (try clear fdb); have fdb : w22.heap.size < w23.heap.size := World.block_lt_of_cell? w23 ⟨w22.heap.size, 0, none⟩ fd0
          clear hk23 hf23
          go_wp2_with fail
          go_roundw
          case rel => exact ⟨3, by go_num, by omega, ⟨fa0, fa1, fb0, fb1, fx0, fx1, fy0, fy1, ff0, ff1, ff2, ff3, ff4, ff5, ff6⟩, by assumption⟩
          case measure => first | (simp [intOf]; done) | (simp [intOf]; omega)
        · as_aux_lemma =>
          obtain ⟨p1, p2, pe, q1, q2, qe, r1, r2, r3⟩ := o3.out
          replace r1 := hid r1; replace r2 := hid r2; replace r3 := hid r3
          go_wp2_with fail
          refine useF w (r1.out _) (by go_grown) ?_; rintro e w21 rfl hB21 hk21 hf21 hs21; clear hs21
          replace fa0 : w21.cell? ⟨w.heap.size, 0, none⟩ = some (.int .i64 al) := hk21 _ _ _ (fa0)
          replace fa1 : w21.cell? ⟨w.heap.size, 1, none⟩ = some (.int .i64 ah) := hk21 _ _ _ (fa1)
          replace fb0 : w21.cell? ⟨w.heap.size + 1, 0, none⟩ = some (.int .i64 bl) := hk21 _ _ _ (fb0)
          replace fb1 : w21.cell? ⟨w.heap.size + 1, 1, none⟩ = some (.int .i64 bh) := hk21 _ _ _ (fb1)
          replace fx0 : w21.cell? ⟨Bx, 0, none⟩ = some (.int .i64 xl) := hk21 _ _ _ (fx0)
          replace fx1 : w21.cell? ⟨Bx, 1, none⟩ = some (.int .i64 xh) := hk21 _ _ _ (fx1)
          replace fy0 : w21.cell? ⟨By, 0, none⟩ = some (.int .i64 yl) := hk21 _ _ _ (fy0)
          replace fy1 : w21.cell? ⟨By, 1, none⟩ = some (.int .i64 yh) := hk21 _ _ _ (fy1)
          replace ff0 : w21.cell? ⟨Bf, 0, none⟩ = some (.func (.func 28) #[] #[]) := hk21 _ _ _ (ff0)
          replace ff1 : w21.cell? ⟨Bf, 1, none⟩ = some (.func (.func 33) #[] #[]) := hk21 _ _ _ (ff1)
          replace ff2 : w21.cell? ⟨Bf, 2, none⟩ = some (.func (.func 34) #[] #[]) := hk21 _ _ _ (ff2)
          replace ff3 : w21.cell? ⟨Bf, 3, none⟩ = some (.func (.func 19) #[] #[]) := hk21 _ _ _ (ff3)
          replace ff4 : w21.cell? ⟨Bf, 4, none⟩ = some (.func (.func 42) #[] #[]) := hk21 _ _ _ (ff4)
          replace ff5 : w21.cell? ⟨Bf, 5, none⟩ = some (.func (.func 43) #[] #[]) := hk21 _ _ _ (ff5)
          replace ff6 : w21.cell? ⟨Bf, 6, none⟩ = some (.func (.func 44) #[] #[]) := hk21 _ _ _ (ff6)
          (try clear fab); have fab : w.heap.size < w21.heap.size := World.block_lt_of_cell? w21 ⟨w.heap.size, 0, none⟩ fa0
          (try clear fbb); have fbb : w.heap.size + 1 < w21.heap.size := World.block_lt_of_cell? w21 ⟨w.heap.size + 1, 0, none⟩ fb0
          (try clear fxb); have fxb : Bx < w21.heap.size := World.block_lt_of_cell? w21 ⟨Bx, 0, none⟩ fx0
          (try clear fyb); have fyb : By < w21.heap.size := World.block_lt_of_cell? w21 ⟨By, 0, none⟩ fy0
          (try clear ffb); have ffb : Bf < w21.heap.size := World.block_lt_of_cell? w21 ⟨Bf, 0, none⟩ ff0
          clear hk21 hf21
          go_wp2_with fail
          refine useF w (r2.out _) (by go_grown) ?_; rintro e w22 rfl hB22 hk22 hf22 hs22; clear hs22
          replace fa0 : w22.cell? ⟨w.heap.size, 0, none⟩ = some (.int .i64 al) := hk22 _ _ _ ((keepA _ fa0))
          replace fa1 : w22.cell? ⟨w.heap.size, 1, none⟩ = some (.int .i64 ah) := hk22 _ _ _ ((keepA _ fa1))
          replace fb0 : w22.cell? ⟨w.heap.size + 1, 0, none⟩ = some (.int .i64 bl) := hk22 _ _ _ ((keepA _ fb0))
          replace fb1 : w22.cell? ⟨w.heap.size + 1, 1, none⟩ = some (.int .i64 bh) := hk22 _ _ _ ((keepA _ fb1))
          replace fx0 : w22.cell? ⟨Bx, 0, none⟩ = some (.int .i64 xl) := hk22 _ _ _ ((keepA _ fx0))
          replace fx1 : w22.cell? ⟨Bx, 1, none⟩ = some (.int .i64 xh) := hk22 _ _ _ ((keepA _ fx1))
          replace fy0 : w22.cell? ⟨By, 0, none⟩ = some (.int .i64 yl) := hk22 _ _ _ ((keepA _ fy0))
          replace fy1 : w22.cell? ⟨By, 1, none⟩ = some (.int .i64 yh) := hk22 _ _ _ ((keepA _ fy1))
          replace ff0 : w22.cell? ⟨Bf, 0, none⟩ = some (.func (.func 28) #[] #[]) := hk22 _ _ _ ((keepA _ ff0))
          replace ff1 : w22.cell? ⟨Bf, 1, none⟩ = some (.func (.func 33) #[] #[]) := hk22 _ _ _ ((keepA _ ff1))
          replace ff2 : w22.cell? ⟨Bf, 2, none⟩ = some (.func (.func 34) #[] #[]) := hk22 _ _ _ ((keepA _ ff2))
          replace ff3 : w22.cell? ⟨Bf, 3, none⟩ = some (.func (.func 19) #[] #[]) := hk22 _ _ _ ((keepA _ ff3))
          replace ff4 : w22.cell? ⟨Bf, 4, none⟩ = some (.func (.func 42) #[] #[]) := hk22 _ _ _ ((keepA _ ff4))
          replace ff5 : w22.cell? ⟨Bf, 5, none⟩ = some (.func (.func 43) #[] #[]) := hk22 _ _ _ ((keepA _ ff5))
          replace ff6 : w22.cell? ⟨Bf, 6, none⟩ = some (.func (.func 44) #[] #[]) := hk22 _ _ _ ((keepA _ ff6))
          have fc0 : w22.cell? ⟨w21.heap.size, 0, none⟩ = some (.int .i64 p1) := hk22 _ _ _ ((by simp [go_sem]))
          have fc1 : w22.cell? ⟨w21.heap.size, 1, none⟩ = some (.int .i64 p2) := hk22 _ _ _ ((by simp [go_sem]))
          (try clear fab); have fab : w.heap.size < w22.heap.size := World.block_lt_of_cell? w22 ⟨w.heap.size, 0, none⟩ fa0
          (try clear fbb); have fbb : w.heap.size + 1 < w22.heap.size := World.block_lt_of_cell? w22 ⟨w.heap.size + 1, 0, none⟩ fb0
          (try clear fxb); have fxb : Bx < w22.heap.size := World.block_lt_of_cell? w22 ⟨Bx, 0, none⟩ fx0
          (try clear fyb); have fyb : By < w22.heap.size := World.block_lt_of_cell? w22 ⟨By, 0, none⟩ fy0
          (try clear ffb); have ffb : Bf < w22.heap.size := World.block_lt_of_cell? w22 ⟨Bf, 0, none⟩ ff0
          (try clear fcb); have fcb : w21.heap.size < w22.heap.size := World.block_lt_of_cell? w22 ⟨w21.heap.size, 0, none⟩ fc0
          clear hk22 hf22
          go_wp2_with fail
          refine useF w (r3.out _) (by go_grown) ?_; rintro e w23 rfl hB23 hk23 hf23 hs23; clear hs23
          replace fa0 : w23.cell? ⟨w.heap.size, 0, none⟩ = some (.int .i64 al) := hk23 _ _ _ ((keepA _ fa0))
          replace fa1 : w23.cell? ⟨w.heap.size, 1, none⟩ = some (.int .i64 ah) := hk23 _ _ _ ((keepA _ fa1))
          replace fb0 : w23.cell? ⟨w.heap.size + 1, 0, none⟩ = some (.int .i64 bl) := hk23 _ _ _ ((keepA _ fb0))
          replace fb1 : w23.cell? ⟨w.heap.size + 1, 1, none⟩ = some (.int .i64 bh) := hk23 _ _ _ ((keepA _ fb1))
          replace fx0 : w23.cell? ⟨Bx, 0, none⟩ = some (.int .i64 xl) := hk23 _ _ _ ((keepA _ fx0))
          replace fx1 : w23.cell? ⟨Bx, 1, none⟩ = some (.int .i64 xh) := hk23 _ _ _ ((keepA _ fx1))
          replace fy0 : w23.cell? ⟨By, 0, none⟩ = some (.int .i64 yl) := hk23 _ _ _ ((keepA _ fy0))
          replace fy1 : w23.cell? ⟨By, 1, none⟩ = some (.int .i64 yh) := hk23 _ _ _ ((keepA _ fy1))
          replace ff0 : w23.cell? ⟨Bf, 0, none⟩ = some (.func (.func 28) #[] #[]) := hk23 _ _ _ ((keepA _ ff0))
          replace ff1 : w23.cell? ⟨Bf, 1, none⟩ = some (.func (.func 33) #[] #[]) := hk23 _ _ _ ((keepA _ ff1))
          replace ff2 : w23.cell? ⟨Bf, 2, none⟩ = some (.func (.func 34) #[] #[]) := hk23 _ _ _ ((keepA _ ff2))
          replace ff3 : w23.cell? ⟨Bf, 3, none⟩ = some (.func (.func 19) #[] #[]) := hk23 _ _ _ ((keepA _ ff3))
          replace ff4 : w23.cell? ⟨Bf, 4, none⟩ = some (.func (.func 42) #[] #[]) := hk23 _ _ _ ((keepA _ ff4))
          replace ff5 : w23.cell? ⟨Bf, 5, none⟩ = some (.func (.func 43) #[] #[]) := hk23 _ _ _ ((keepA _ ff5))
          replace ff6 : w23.cell? ⟨Bf, 6, none⟩ = some (.func (.func 44) #[] #[]) := hk23 _ _ _ ((keepA _ ff6))
          replace fc0 : w23.cell? ⟨w21.heap.size, 0, none⟩ = some (.int .i64 p1) := hk23 _ _ _ ((keepA _ fc0))
          replace fc1 : w23.cell? ⟨w21.heap.size, 1, none⟩ = some (.int .i64 p2) := hk23 _ _ _ ((keepA _ fc1))
          have fd0 : w23.cell? ⟨w22.heap.size, 0, none⟩ = some (.int .i64 q1) := hk23 _ _ _ ((by simp [go_sem]))
          have fd1 : w23.cell? ⟨w22.heap.size, 1, none⟩ = some (.int .i64 q2) := hk23 _ _ _ ((by simp [go_sem]))
          (try clear fab); have fab : w.heap.size < w23.heap.size := World.block_lt_of_cell? w23 ⟨w.heap.size, 0, none⟩ fa0
          (try clear fbb); have fbb : w.heap.size + 1 < w23.heap.size := World.block_lt_of_cell? w23 ⟨w.heap.size + 1, 0, none⟩ fb0
          (try clear fxb); have fxb : Bx < w23.heap.size := World.block_lt_of_cell? w23 ⟨Bx, 0, none⟩ fx0
          (try clear fyb); have fyb : By < w23.heap.size := World.block_lt_of_cell? w23 ⟨By, 0, none⟩ fy0
          (try clear ffb); have ffb : Bf < w23.heap.size := World.block_lt_of_cell? w23 ⟨Bf, 0, none⟩ ff0
          (try clear fcb); have fcb : w21.heap.size < w23.heap.size := World.block_lt_of_cell? w23 ⟨w21.heap.size, 0, none⟩ fc0
          (try clear fdb); have fdb : w22.heap.size < w23.heap.size := World.block_lt_of_cell? w23 ⟨w22.heap.size, 0, none⟩ fd0
          clear hk23 hf23
          go_wp2_with fail
          go_roundw
          case rel => exact ⟨4, by go_num, by omega, ⟨fa0, fa1, fb0, fb1, fx0, fx1, fy0, fy1, ff0, ff1, ff2, ff3, ff4, ff5, ff6⟩, by assumption⟩
          case measure => first | (simp [intOf]; done) | (simp [intOf]; omega)
        · as_aux_lemma =>
          obtain ⟨p1, p2, pe, q1, q2, qe, r1, r2, r3⟩ := o4.out
          replace r1 := hid r1; replace r2 := hid r2; replace r3 := hid r3
          go_wp2_with fail
          refine useF w (r1.out _) (by go_grown) ?_; rintro e w21 rfl hB21 hk21 hf21 hs21; clear hs21
          replace fa0 : w21.cell? ⟨w.heap.size, 0, none⟩ = some (.int .i64 al) := hk21 _ _ _ (fa0)
          replace fa1 : w21.cell? ⟨w.heap.size, 1, none⟩ = some (.int .i64 ah) := hk21 _ _ _ (fa1)
          replace fb0 : w21.cell? ⟨w.heap.size + 1, 0, none⟩ = some (.int .i64 bl) := hk21 _ _ _ (fb0)
          replace fb1 : w21.cell? ⟨w.heap.size + 1, 1, none⟩ = some (.int .i64 bh) := hk21 _ _ _ (fb1)
          replace fx0 : w21.cell? ⟨Bx, 0, none⟩ = some (.int .i64 xl) := hk21 _ _ _ (fx0)
          replace fx1 : w21.cell? ⟨Bx, 1, none⟩ = some (.int .i64 xh) := hk21 _ _ _ (fx1)
          replace fy0 : w21.cell? ⟨By, 0, none⟩ = some (.int .i64 yl) := hk21 _ _ _ (fy0)
          replace fy1 : w21.cell? ⟨By, 1, none⟩ = some (.int .i64 yh) := hk21 _ _ _ (fy1)
          replace ff0 : w21.cell? ⟨Bf, 0, none⟩ = some (.func (.func 28) #[] #[]) := hk21 _ _ _ (ff0)
          replace ff1 : w21.cell? ⟨Bf, 1, none⟩ = some (.func (.func 33) #[] #[]) := hk21 _ _ _ (ff1)
          replace ff2 : w21.cell? ⟨Bf, 2, none⟩ = some (.func (.func 34) #[] #[]) := hk21 _ _ _ (ff2)
          replace ff3 : w21.cell? ⟨Bf, 3, none⟩ = some (.func (.func 19) #[] #[]) := hk21 _ _ _ (ff3)
          replace ff4 : w21.cell? ⟨Bf, 4, none⟩ = some (.func (.func 42) #[] #[]) := hk21 _ _ _ (ff4)
          replace ff5 : w21.cell? ⟨Bf, 5, none⟩ = some (.func (.func 43) #[] #[]) := hk21 _ _ _ (ff5)
          replace ff6 : w21.cell? ⟨Bf, 6, none⟩ = some (.func (.func 44) #[] #[]) := hk21 _ _ _ (ff6)
          (try clear fab); have fab : w.heap.size < w21.heap.size := World.block_lt_of_cell? w21 ⟨w.heap.size, 0, none⟩ fa0
          (try clear fbb); have fbb : w.heap.size + 1 < w21.heap.size := World.block_lt_of_cell? w21 ⟨w.heap.size + 1, 0, none⟩ fb0
          (try clear fxb); have fxb : Bx < w21.heap.size := World.block_lt_of_cell? w21 ⟨Bx, 0, none⟩ fx0
          (try clear fyb); have fyb : By < w21.heap.size := World.block_lt_of_cell? w21 ⟨By, 0, none⟩ fy0
          (try clear ffb); have ffb : Bf < w21.heap.size := World.block_lt_of_cell? w21 ⟨Bf, 0, none⟩ ff0
          clear hk21 hf21
          go_wp2_with fail
          refine useF w (r2.out _) (by go_grown) ?_; rintro e w22 rfl hB22 hk22 hf22 hs22; clear hs22
          replace fa0 : w22.cell? ⟨w.heap.size, 0, none⟩ = some (.int .i64 al) := hk22 _ _ _ ((keepA _ fa0))
          replace fa1 : w22.cell? ⟨w.heap.size, 1, none⟩ = some (.int .i64 ah) := hk22 _ _ _ ((keepA _ fa1))
          replace fb0 : w22.cell? ⟨w.heap.size + 1, 0, none⟩ = some (.int .i64 bl) := hk22 _ _ _ ((keepA _ fb0))
          replace fb1 : w22.cell? ⟨w.heap.size + 1, 1, none⟩ = some (.int .i64 bh) := hk22 _ _ _ ((keepA _ fb1))
          replace fx0 : w22.cell? ⟨Bx, 0, none⟩ = some (.int .i64 xl) := hk22 _ _ _ ((keepA _ fx0))
          replace fx1 : w22.cell? ⟨Bx, 1, none⟩ = some (.int .i64 xh) := hk22 _ _ _ ((keepA _ fx1))
          replace fy0 : w22.cell? ⟨By, 0, none⟩ = some (.int .i64 yl) := hk22 _ _ _ ((keepA _ fy0))
          replace fy1 : w22.cell? ⟨By, 1, none⟩ = some (.int .i64 yh) := hk22 _ _ _ ((keepA _ fy1))
          replace ff0 : w22.cell? ⟨Bf, 0, none⟩ = some (.func (.func 28) #[] #[]) := hk22 _ _ _ ((keepA _ ff0))
          replace ff1 : w22.cell? ⟨Bf, 1, none⟩ = some (.func (.func 33) #[] #[]) := hk22 _ _ _ ((keepA _ ff1))
          replace ff2 : w22.cell? ⟨Bf, 2, none⟩ = some (.func (.func 34) #[] #[]) := hk22 _ _ _ ((keepA _ ff2))
          replace ff3 : w22.cell? ⟨Bf, 3, none⟩ = some (.func (.func 19) #[] #[]) := hk22 _ _ _ ((keepA _ ff3))
          replace ff4 : w22.cell? ⟨Bf, 4, none⟩ = some (.func (.func 42) #[] #[]) := hk22 _ _ _ ((keepA _ ff4))
          replace ff5 : w22.cell? ⟨Bf, 5, none⟩ = some (.func (.func 43) #[] #[]) := hk22 _ _ _ ((keepA _ ff5))
          replace ff6 : w22.cell? ⟨Bf, 6, none⟩ = some (.func (.func 44) #[] #[]) := hk22 _ _ _ ((keepA _ ff6))
          have fc0 : w22.cell? ⟨w21.heap.size, 0, none⟩ = some (.int .i64 p1) := hk22 _ _ _ ((by simp [go_sem]))
          have fc1 : w22.cell? ⟨w21.heap.size, 1, none⟩ = some (.int .i64 p2) := hk22 _ _ _ ((by simp [go_sem]))
          (try clear fab); have fab : w.heap.size < w22.heap.size := World.block_lt_of_cell? w22 ⟨w.heap.size, 0, none⟩ fa0
          (try clear fbb); have fbb : w.heap.size + 1 < w22.heap.size := World.block_lt_of_cell? w22 ⟨w.heap.size + 1, 0, none⟩ fb0
          (try clear fxb); have fxb : Bx < w22.heap.size := World.block_lt_of_cell? w22 ⟨Bx, 0, none⟩ fx0
          (try clear fyb); have fyb : By < w22.heap.size := World.block_lt_of_cell? w22 ⟨By, 0, none⟩ fy0
          (try clear ffb); have ffb : Bf < w22.heap.size := World.block_lt_of_cell? w22 ⟨Bf, 0, none⟩ ff0
          (try clear fcb); have fcb : w21.heap.size < w22.heap.size := World.block_lt_of_cell? w22 ⟨w21.heap.size, 0, none⟩ fc0
          clear hk22 hf22
          go_wp2_with fail
          refine useF w (r3.out _) (by go_grown) ?_; rintro e w23 rfl hB23 hk23 hf23 hs23; clear hs23
          replace fa0 : w23.cell? ⟨w.heap.size, 0, none⟩ = some (.int .i64 al) := hk23 _ _ _ ((keepA _ fa0))
          replace fa1 : w23.cell? ⟨w.heap.size, 1, none⟩ = some (.int .i64 ah) := hk23 _ _ _ ((keepA _ fa1))
          replace fb0 : w23.cell? ⟨w.heap.size + 1, 0, none⟩ = some (.int .i64 bl) := hk23 _ _ _ ((keepA _ fb0))
          replace fb1 : w23.cell? ⟨w.heap.size + 1, 1, none⟩ = some (.int .i64 bh) := hk23 _ _ _ ((keepA _ fb1))
          replace fx0 : w23.cell? ⟨Bx, 0, none⟩ = some (.int .i64 xl) := hk23 _ _ _ ((keepA _ fx0))
          replace fx1 : w23.cell? ⟨Bx, 1, none⟩ = some (.int .i64 xh) := hk23 _ _ _ ((keepA _ fx1))
          replace fy0 : w23.cell? ⟨By, 0, none⟩ = some (.int .i64 yl) := hk23 _ _ _ ((keepA _ fy0))
          replace fy1 : w23.cell? ⟨By, 1, none⟩ = some (.int .i64 yh) := hk23 _ _ _ ((keepA _ fy1))
          replace ff0 : w23.cell? ⟨Bf, 0, none⟩ = some (.func (.func 28) #[] #[]) := hk23 _ _ _ ((keepA _ ff0))
          replace ff1 : w23.cell? ⟨Bf, 1, none⟩ = some (.func (.func 33) #[] #[]) := hk23 _ _ _ ((keepA _ ff1))
          replace ff2 : w23.cell? ⟨Bf, 2, none⟩ = some (.func (.func 34) #[] #[]) := hk23 _ _ _ ((keepA _ ff2))
          replace ff3 : w23.cell? ⟨Bf, 3, none⟩ = some (.func (.func 19) #[] #[]) := hk23 _ _ _ ((keepA _ ff3))
          replace ff4 : w23.cell? ⟨Bf, 4, none⟩ = some (.func (.func 42) #[] #[]) := hk23 _ _ _ ((keepA _ ff4))
          replace ff5 : w23.cell? ⟨Bf, 5, none⟩ = some (.func (.func 43) #[] #[]) := hk23 _ _ _ ((keepA _ ff5))
          replace ff6 : w23.cell? ⟨Bf, 6, none⟩ = some (.func (.func 44) #[] #[]) := hk23 _ _ _ ((keepA _ ff6))
          replace fc0 : w23.cell? ⟨w21.heap.size, 0, none⟩ = some (.int .i64 p1) := hk23 _ _ _ ((keepA _ fc0))
          replace fc1 : w23.cell? ⟨w21.heap.size, 1, none⟩ = some (.int .i64 p2) := hk23 _ _ _ ((keepA _ fc1))
          have fd0 : w23.cell? ⟨w22.heap.size, 0, none⟩ = some (.int .i64 q1) := hk23 _ _ _ ((by simp [go_sem]))
          have fd1 : w23.cell? ⟨w22.heap.size, 1, none⟩ = some (.int .i64 q2) := hk23 _ _ _ ((by simp [go_sem]))
          (try clear fab); have fab : w.heap.size < w23.heap.size := World.block_lt_of_cell? w23 ⟨w.heap.size, 0, none⟩ fa0
          (try clear fbb); have fbb : w.heap.size + 1 < w23.heap.size := World.block_lt_of_cell? w23 ⟨w.heap.size + 1, 0, none⟩ fb0
          (try clear fxb); have fxb : Bx < w23.heap.size := World.block_lt_of_cell? w23 ⟨Bx, 0, none⟩ fx0
          (try clear fyb); have fyb : By < w23.heap.size := World.block_lt_of_cell? w23 ⟨By, 0, none⟩ fy0
          (try clear ffb); have ffb : Bf < w23.heap.size := World.block_lt_of_cell? w23 ⟨Bf, 0, none⟩ ff0
          (try clear fcb); have fcb : w21.heap.size < w23.heap.size := World.block_lt_of_cell? w23 ⟨w21.heap.size, 0, none⟩ fc0
          (try clear fdb); have fdb : w22.heap.size < w23.heap.size := World.block_lt_of_cell? w23 ⟨w22.heap.size, 0, none⟩ fd0
          clear hk23 hf23
          go_wp2_with fail
          go_roundw
          case rel => exact ⟨5, by go_num, by omega, ⟨fa0, fa1, fb0, fb1, fx0, fx1, fy0, fy1, ff0, ff1, ff2, ff3, ff4, ff5, ff6⟩, by assumption⟩
          case measure => first | (simp [intOf]; done) | (simp [intOf]; omega)
        · as_aux_lemma =>
          obtain ⟨p1, p2, pe, q1, q2, qe, r1, r2, r3⟩ := o5.out
          replace r1 := hid r1; replace r2 := hid r2; replace r3 := hid r3
          go_wp2_with fail
          refine useF w (r1.out _) (by go_grown) ?_; rintro e w21 rfl hB21 hk21 hf21 hs21; clear hs21
          replace fa0 : w21.cell? ⟨w.heap.size, 0, none⟩ = some (.int .i64 al) := hk21 _ _ _ (fa0)
          replace fa1 : w21.cell? ⟨w.heap.size, 1, none⟩ = some (.int .i64 ah) := hk21 _ _ _ (fa1)
          replace fb0 : w21.cell? ⟨w.heap.size + 1, 0, none⟩ = some (.int .i64 bl) := hk21 _ _ _ (fb0)
          replace fb1 : w21.cell? ⟨w.heap.size + 1, 1, none⟩ = some (.int .i64 bh) := hk21 _ _ _ (fb1)
          replace fx0 : w21.cell? ⟨Bx, 0, none⟩ = some (.int .i64 xl) := hk21 _ _ _ (fx0)
          replace fx1 : w21.cell? ⟨Bx, 1, none⟩ = some (.int .i64 xh) := hk21 _ _ _ (fx1)
          replace fy0 : w21.cell? ⟨By, 0, none⟩ = some (.int .i64 yl) := hk21 _ _ _ (fy0)
          replace fy1 : w21.cell? ⟨By, 1, none⟩ = some (.int .i64 yh) := hk21 _ _ _ (fy1)
          replace ff0 : w21.cell? ⟨Bf, 0, none⟩ = some (.func (.func 28) #[] #[]) := hk21 _ _ _ (ff0)
          replace ff1 : w21.cell? ⟨Bf, 1, none⟩ = some (.func (.func 33) #[] #[]) := hk21 _ _ _ (ff1)
          replace ff2 : w21.cell? ⟨Bf, 2, none⟩ = some (.func (.func 34) #[] #[]) := hk21 _ _ _ (ff2)
          replace ff3 : w21.cell? ⟨Bf, 3, none⟩ = some (.func (.func 19) #[] #[]) := hk21 _ _ _ (ff3)
          replace ff4 : w21.cell? ⟨Bf, 4, none⟩ = some (.func (.func 42) #[] #[]) := hk21 _ _ _ (ff4)
          replace ff5 : w21.cell? ⟨Bf, 5, none⟩ = some (.func (.func 43) #[] #[]) := hk21 _ _ _ (ff5)
          replace ff6 : w21.cell? ⟨Bf, 6, none⟩ = some (.func (.func 44) #[] #[]) := hk21 _ _ _ (ff6)
          (try clear fab); have fab : w.heap.size < w21.heap.size := World.block_lt_of_cell? w21 ⟨w.heap.size, 0, none⟩ fa0
          (try clear fbb); have fbb : w.heap.size + 1 < w21.heap.size := World.block_lt_of_cell? w21 ⟨w.heap.size + 1, 0, none⟩ fb0
          (try clear fxb); have fxb : Bx < w21.heap.size := World.block_lt_of_cell? w21 ⟨Bx, 0, none⟩ fx0
          (try clear fyb); have fyb : By < w21.heap.size := World.block_lt_of_cell? w21 ⟨By, 0, none⟩ fy0
          (try clear ffb); have ffb : Bf < w21.heap.size := World.block_lt_of_cell? w21 ⟨Bf, 0, none⟩ ff0
          clear hk21 hf21
          go_wp2_with fail
          refine useF w (r2.out _) (by go_grown) ?_; rintro e w22 rfl hB22 hk22 hf22 hs22; clear hs22
          replace fa0 : w22.cell? ⟨w.heap.size, 0, none⟩ = some (.int .i64 al) := hk22 _ _ _ ((keepA _ fa0))
          replace fa1 : w22.cell? ⟨w.heap.size, 1, none⟩ = some (.int .i64 ah) := hk22 _ _ _ ((keepA _ fa1))
          replace fb0 : w22.cell? ⟨w.heap.size + 1, 0, none⟩ = some (.int .i64 bl) := hk22 _ _ _ ((keepA _ fb0))
          replace fb1 : w22.cell? ⟨w.heap.size + 1, 1, none⟩ = some (.int .i64 bh) := hk22 _ _ _ ((keepA _ fb1))
          replace fx0 : w22.cell? ⟨Bx, 0, none⟩ = some (.int .i64 xl) := hk22 _ _ _ ((keepA _ fx0))
          replace fx1 : w22.cell? ⟨Bx, 1, none⟩ = some (.int .i64 xh) := hk22 _ _ _ ((keepA _ fx1))
          replace fy0 : w22.cell? ⟨By, 0, none⟩ = some (.int .i64 yl) := hk22 _ _ _ ((keepA _ fy0))
          replace fy1 : w22.cell? ⟨By, 1, none⟩ = some (.int .i64 yh) := hk22 _ _ _ ((keepA _ fy1))
          replace ff0 : w22.cell? ⟨Bf, 0, none⟩ = some (.func (.func 28) #[] #[]) := hk22 _ _ _ ((keepA _ ff0))
          replace ff1 : w22.cell? ⟨Bf, 1, none⟩ = some (.func (.func 33) #[] #[]) := hk22 _ _ _ ((keepA _ ff1))
          replace ff2 : w22.cell? ⟨Bf, 2, none⟩ = some (.func (.func 34) #[] #[]) := hk22 _ _ _ ((keepA _ ff2))
          replace ff3 : w22.cell? ⟨Bf, 3, none⟩ = some (.func (.func 19) #[] #[]) := hk22 _ _ _ ((keepA _ ff3))
          replace ff4 : w22.cell? ⟨Bf, 4, none⟩ = some (.func (.func 42) #[] #[]) := hk22 _ _ _ ((keepA _ ff4))
          replace ff5 : w22.cell? ⟨Bf, 5, none⟩ = some (.func (.func 43) #[] #[]) := hk22 _ _ _ ((keepA _ ff5))
          replace ff6 : w22.cell? ⟨Bf, 6, none⟩ = some (.func (.func 44) #[] #[]) := hk22 _ _ _ ((keepA _ ff6))
          have fc0 : w22.cell? ⟨w21.heap.size, 0, none⟩ = some (.int .i64 p1) := hk22 _ _ _ ((by simp [go_sem]))
          have fc1 : w22.cell? ⟨w21.heap.size, 1, none⟩ = some (.int .i64 p2) := hk22 _ _ _ ((by simp [go_sem]))
          (try clear fab); have fab : w.heap.size < w22.heap.size := World.block_lt_of_cell? w22 ⟨w.heap.size, 0, none⟩ fa0
          (try clear fbb); have fbb : w.heap.size + 1 < w22.heap.size := World.block_lt_of_cell? w22 ⟨w.heap.size + 1, 0, none⟩ fb0
          (try clear fxb); have fxb : Bx < w22.heap.size := World.block_lt_of_cell? w22 ⟨Bx, 0, none⟩ fx0
          (try clear fyb); have fyb : By < w22.heap.size := World.block_lt_of_cell? w22 ⟨By, 0, none⟩ fy0
          (try clear ffb); have ffb : Bf < w22.heap.size := World.block_lt_of_cell? w22 ⟨Bf, 0, none⟩ ff0
          (try clear fcb); have fcb : w21.heap.size < w22.heap.size := World.block_lt_of_cell? w22 ⟨w21.heap.size, 0, none⟩ fc0
          clear hk22 hf22
          go_wp2_with fail
          refine useF w (r3.out _) (by go_grown) ?_; rintro e w23 rfl hB23 hk23 hf23 hs23; clear hs23
          replace fa0 : w23.cell? ⟨w.heap.size, 0, none⟩ = some (.int .i64 al) := hk23 _ _ _ ((keepA _ fa0))
          replace fa1 : w23.cell? ⟨w.heap.size, 1, none⟩ = some (.int .i64 ah) := hk23 _ _ _ ((keepA _ fa1))
          replace fb0 : w23.cell? ⟨w.heap.size + 1, 0, none⟩ = some (.int .i64 bl) := hk23 _ _ _ ((keepA _ fb0))
          replace fb1 : w23.cell? ⟨w.heap.size + 1, 1, none⟩ = some (.int .i64 bh) := hk23 _ _ _ ((keepA _ fb1))
          replace fx0 : w23.cell? ⟨Bx, 0, none⟩ = some (.int .i64 xl) := hk23 _ _ _ ((keepA _ fx0))
          replace fx1 : w23.cell? ⟨Bx, 1, none⟩ = some (.int .i64 xh) := hk23 _ _ _ ((keepA _ fx1))
          replace fy0 : w23.cell? ⟨By, 0, none⟩ = some (.int .i64 yl) := hk23 _ _ _ ((keepA _ fy0))
          replace fy1 : w23.cell? ⟨By, 1, none⟩ = some (.int .i64 yh) := hk23 _ _ _ ((keepA _ fy1))
          replace ff0 : w23.cell? ⟨Bf, 0, none⟩ = some (.func (.func 28) #[] #[]) := hk23 _ _ _ ((keepA _ ff0))
          replace ff1 : w23.cell? ⟨Bf, 1, none⟩ = some (.func (.func 33) #[] #[]) := hk23 _ _ _ ((keepA _ ff1))
          replace ff2 : w23.cell? ⟨Bf, 2, none⟩ = some (.func (.func 34) #[] #[]) := hk23 _ _ _ ((keepA _ ff2))
          replace ff3 : w23.cell? ⟨Bf, 3, none⟩ = some (.func (.func 19) #[] #[]) := hk23 _ _ _ ((keepA _ ff3))
          replace ff4 : w23.cell? ⟨Bf, 4, none⟩ = some (.func (.func 42) #[] #[]) := hk23 _ _ _ ((keepA _ ff4))
          replace ff5 : w23.cell? ⟨Bf, 5, none⟩ = some (.func (.func 43) #[] #[]) := hk23 _ _ _ ((keepA _ ff5))
          replace ff6 : w23.cell? ⟨Bf, 6, none⟩ = some (.func (.func 44) #[] #[]) := hk23 _ _ _ ((keepA _ ff6))
          replace fc0 : w23.cell? ⟨w21.heap.size, 0, none⟩ = some (.int .i64 p1) := hk23 _ _ _ ((keepA _ fc0))
          replace fc1 : w23.cell? ⟨w21.heap.size, 1, none⟩ = some (.int .i64 p2) := hk23 _ _ _ ((keepA _ fc1))
          have fd0 : w23.cell? ⟨w22.heap.size, 0, none⟩ = some (.int .i64 q1) := hk23 _ _ _ ((by simp [go_sem]))
          have fd1 : w23.cell? ⟨w22.heap.size, 1, none⟩ = some (.int .i64 q2) := hk23 _ _ _ ((by simp [go_sem]))
          (try clear fab); have fab : w.heap.size < w23.heap.size := World.block_lt_of_cell? w23 ⟨w.heap.size, 0, none⟩ fa0
          (try clear fbb); have fbb : w.heap.size + 1 < w23.heap.size := World.block_lt_of_cell? w23 ⟨w.heap.size + 1, 0, none⟩ fb0
          (try clear fxb); have fxb : Bx < w23.heap.size := World.block_lt_of_cell? w23 ⟨Bx, 0, none⟩ fx0
          (try clear fyb); have fyb : By < w23.heap.size := World.block_lt_of_cell? w23 ⟨By, 0, none⟩ fy0
          (try clear ffb); have ffb : Bf < w23.heap.size := World.block_lt_of_cell? w23 ⟨Bf, 0, none⟩ ff0
          (try clear fcb); have fcb : w21.heap.size < w23.heap.size := World.block_lt_of_cell? w23 ⟨w21.heap.size, 0, none⟩ fc0
          (try clear fdb); have fdb : w22.heap.size < w23.heap.size := World.block_lt_of_cell? w23 ⟨w22.heap.size, 0, none⟩ fd0
          clear hk23 hf23
          go_wp2_with fail
          go_roundw
          case rel => exact ⟨6, by go_num, by omega, ⟨fa0, fa1, fb0, fb1, fx0, fx1, fy0, fy1, ff0, ff1, ff2, ff3, ff4, ff5, ff6⟩, by assumption⟩
          case measure => first | (simp [intOf]; done) | (simp [intOf]; omega)
        · as_aux_lemma =>
          obtain ⟨p1, p2, pe, q1, q2, qe, r1, r2, r3⟩ := o6.out
          replace r1 := hid r1; replace r2 := hid r2; replace r3 := hid r3
          go_wp2_with fail
          refine useF w (r1.out _) (by go_grown) ?_; rintro e w21 rfl hB21 hk21 hf21 hs21; clear hs21
          replace fa0 : w21.cell? ⟨w.heap.size, 0, none⟩ = some (.int .i64 al) := hk21 _ _ _ (fa0)
          replace fa1 : w21.cell? ⟨w.heap.size, 1, none⟩ = some (.int .i64 ah) := hk21 _ _ _ (fa1)
          replace fb0 : w21.cell? ⟨w.heap.size + 1, 0, none⟩ = some (.int .i64 bl) := hk21 _ _ _ (fb0)
          replace fb1 : w21.cell? ⟨w.heap.size + 1, 1, none⟩ = some (.int .i64 bh) := hk21 _ _ _ (fb1)
          replace fx0 : w21.cell? ⟨Bx, 0, none⟩ = some (.int .i64 xl) := hk21 _ _ _ (fx0)
          replace fx1 : w21.cell? ⟨Bx, 1, none⟩ = some (.int .i64 xh) := hk21 _ _ _ (fx1)
          replace fy0 : w21.cell? ⟨By, 0, none⟩ = some (.int .i64 yl) := hk21 _ _ _ (fy0)
          replace fy1 : w21.cell? ⟨By, 1, none⟩ = some (.int .i64 yh) := hk21 _ _ _ (fy1)
          replace ff0 : w21.cell? ⟨Bf, 0, none⟩ = some (.func (.func 28) #[] #[]) := hk21 _ _ _ (ff0)
          replace ff1 : w21.cell? ⟨Bf, 1, none⟩ = some (.func (.func 33) #[] #[]) := hk21 _ _ _ (ff1)
          replace ff2 : w21.cell? ⟨Bf, 2, none⟩ = some (.func (.func 34) #[] #[]) := hk21 _ _ _ (ff2)
          replace ff3 : w21.cell? ⟨Bf, 3, none⟩ = some (.func (.func 19) #[] #[]) := hk21 _ _ _ (ff3)
          replace ff4 : w21.cell? ⟨Bf, 4, none⟩ = some (.func (.func 42) #[] #[]) := hk21 _ _ _ (ff4)
          replace ff5 : w21.cell? ⟨Bf, 5, none⟩ = some (.func (.func 43) #[] #[]) := hk21 _ _ _ (ff5)
          replace ff6 : w21.cell? ⟨Bf, 6, none⟩ = some (.func (.func 44) #[] #[]) := hk21 _ _ _ (ff6)
          (try clear fab); have fab : w.heap.size < w21.heap.size := World.block_lt_of_cell? w21 ⟨w.heap.size, 0, none⟩ fa0
          (try clear fbb); have fbb : w.heap.size + 1 < w21.heap.size := World.block_lt_of_cell? w21 ⟨w.heap.size + 1, 0, none⟩ fb0
          (try clear fxb); have fxb : Bx < w21.heap.size := World.block_lt_of_cell? w21 ⟨Bx, 0, none⟩ fx0
          (try clear fyb); have fyb : By < w21.heap.size := World.block_lt_of_cell? w21 ⟨By, 0, none⟩ fy0
          (try clear ffb); have ffb : Bf < w21.heap.size := World.block_lt_of_cell? w21 ⟨Bf, 0, none⟩ ff0
          clear hk21 hf21
          go_wp2_with fail
          refine useF w (r2.out _) (by go_grown) ?_; rintro e w22 rfl hB22 hk22 hf22 hs22; clear hs22
          replace fa0 : w22.cell? ⟨w.heap.size, 0, none⟩ = some (.int .i64 al) := hk22 _ _ _ ((keepA _ fa0))
          replace fa1 : w22.cell? ⟨w.heap.size, 1, none⟩ = some (.int .i64 ah) := hk22 _ _ _ ((keepA _ fa1))
          replace fb0 : w22.cell? ⟨w.heap.size + 1, 0, none⟩ = some (.int .i64 bl) := hk22 _ _ _ ((keepA _ fb0))
          replace fb1 : w22.cell? ⟨w.heap.size + 1, 1, none⟩ = some (.int .i64 bh) := hk22 _ _ _ ((keepA _ fb1))
          replace fx0 : w22.cell? ⟨Bx, 0, none⟩ = some (.int .i64 xl) := hk22 _ _ _ ((keepA _ fx0))
          replace fx1 : w22.cell? ⟨Bx, 1, none⟩ = some (.int .i64 xh) := hk22 _ _ _ ((keepA _ fx1))
          replace fy0 : w22.cell? ⟨By, 0, none⟩ = some (.int .i64 yl) := hk22 _ _ _ ((keepA _ fy0))
          replace fy1 : w22.cell? ⟨By, 1, none⟩ = some (.int .i64 yh) := hk22 _ _ _ ((keepA _ fy1))
          replace ff0 : w22.cell? ⟨Bf, 0, none⟩ = some (.func (.func 28) #[] #[]) := hk22 _ _ _ ((keepA _ ff0))
          replace ff1 : w22.cell? ⟨Bf, 1, none⟩ = some (.func (.func 33) #[] #[]) := hk22 _ _ _ ((keepA _ ff1))
          replace ff2 : w22.cell? ⟨Bf, 2, none⟩ = some (.func (.func 34) #[] #[]) := hk22 _ _ _ ((keepA _ ff2))
          replace ff3 : w22.cell? ⟨Bf, 3, none⟩ = some (.func (.func 19) #[] #[]) := hk22 _ _ _ ((keepA _ ff3))
          replace ff4 : w22.cell? ⟨Bf, 4, none⟩ = some (.func (.func 42) #[] #[]) := hk22 _ _ _ ((keepA _ ff4))
          replace ff5 : w22.cell? ⟨Bf, 5, none⟩ = some (.func (.func 43) #[] #[]) := hk22 _ _ _ ((keepA _ ff5))
          replace ff6 : w22.cell? ⟨Bf, 6, none⟩ = some (.func (.func 44) #[] #[]) := hk22 _ _ _ ((keepA _ ff6))
          have fc0 : w22.cell? ⟨w21.heap.size, 0, none⟩ = some (.int .i64 p1) := hk22 _ _ _ ((by simp [go_sem]))
          have fc1 : w22.cell? ⟨w21.heap.size, 1, none⟩ = some (.int .i64 p2) := hk22 _ _ _ ((by simp [go_sem]))
          (try clear fab); have fab : w.heap.size < w22.heap.size := World.block_lt_of_cell? w22 ⟨w.heap.size, 0, none⟩ fa0
          (try clear fbb); have fbb : w.heap.size + 1 < w22.heap.size := World.block_lt_of_cell? w22 ⟨w.heap.size + 1, 0, none⟩ fb0
          (try clear fxb); have fxb : Bx < w22.heap.size := World.block_lt_of_cell? w22 ⟨Bx, 0, none⟩ fx0
          (try clear fyb); have fyb : By < w22.heap.size := World.block_lt_of_cell? w22 ⟨By, 0, none⟩ fy0
          (try clear ffb); have ffb : Bf < w22.heap.size := World.block_lt_of_cell? w22 ⟨Bf, 0, none⟩ ff0
          (try clear fcb); have fcb : w21.heap.size < w22.heap.size := World.block_lt_of_cell? w22 ⟨w21.heap.size, 0, none⟩ fc0
          clear hk22 hf22
          go_wp2_with fail
          refine useF w (r3.out _) (by go_grown) ?_; rintro e w23 rfl hB23 hk23 hf23 hs23; clear hs23
          replace fa0 : w23.cell? ⟨w.heap.size, 0, none⟩ = some (.int .i64 al) := hk23 _ _ _ ((keepA _ fa0))
          replace fa1 : w23.cell? ⟨w.heap.size, 1, none⟩ = some (.int .i64 ah) := hk23 _ _ _ ((keepA _ fa1))
          replace fb0 : w23.cell? ⟨w.heap.size + 1, 0, none⟩ = some (.int .i64 bl) := hk23 _ _ _ ((keepA _ fb0))
          replace fb1 : w23.cell? ⟨w.heap.size + 1, 1, none⟩ = some (.int .i64 bh) := hk23 _ _ _ ((keepA _ fb1))
          replace fx0 : w23.cell? ⟨Bx, 0, none⟩ = some (.int .i64 xl) := hk23 _ _ _ ((keepA _ fx0))
          replace fx1 : w23.cell? ⟨Bx, 1, none⟩ = some (.int .i64 xh) := hk23 _ _ _ ((keepA _ fx1))
          replace fy0 : w23.cell? ⟨By, 0, none⟩ = some (.int .i64 yl) := hk23 _ _ _ ((keepA _ fy0))
          replace fy1 : w23.cell? ⟨By, 1, none⟩ = some (.int .i64 yh) := hk23 _ _ _ ((keepA _ fy1))
          replace ff0 : w23.cell? ⟨Bf, 0, none⟩ = some (.func (.func 28) #[] #[]) := hk23 _ _ _ ((keepA _ ff0))
          replace ff1 : w23.cell? ⟨Bf, 1, none⟩ = some (.func (.func 33) #[] #[]) := hk23 _ _ _ ((keepA _ ff1))
          replace ff2 : w23.cell? ⟨Bf, 2, none⟩ = some (.func (.func 34) #[] #[]) := hk23 _ _ _ ((keepA _ ff2))
          replace ff3 : w23.cell? ⟨Bf, 3, none⟩ = some (.func (.func 19) #[] #[]) := hk23 _ _ _ ((keepA _ ff3))
          replace ff4 : w23.cell? ⟨Bf, 4, none⟩ = some (.func (.func 42) #[] #[]) := hk23 _ _ _ ((keepA _ ff4))
          replace ff5 : w23.cell? ⟨Bf, 5, none⟩ = some (.func (.func 43) #[] #[]) := hk23 _ _ _ ((keepA _ ff5))
          replace ff6 : w23.cell? ⟨Bf, 6, none⟩ = some (.func (.func 44) #[] #[]) := hk23 _ _ _ ((keepA _ ff6))
          replace fc0 : w23.cell? ⟨w21.heap.size, 0, none⟩ = some (.int .i64 p1) := hk23 _ _ _ ((keepA _ fc0))
          replace fc1 : w23.cell? ⟨w21.heap.size, 1, none⟩ = some (.int .i64 p2) := hk23 _ _ _ ((keepA _ fc1))
          have fd0 : w23.cell? ⟨w22.heap.size, 0, none⟩ = some (.int .i64 q1) := hk23 _ _ _ ((by simp [go_sem]))
          have fd1 : w23.cell? ⟨w22.heap.size, 1, none⟩ = some (.int .i64 q2) := hk23 _ _ _ ((by simp [go_sem]))
          (try clear fab); have fab : w.heap.size < w23.heap.size := World.block_lt_of_cell? w23 ⟨w.heap.size, 0, none⟩ fa0
          (try clear fbb); have fbb : w.heap.size + 1 < w23.heap.size := World.block_lt_of_cell? w23 ⟨w.heap.size + 1, 0, none⟩ fb0
          (try clear fxb); have fxb : Bx < w23.heap.size := World.block_lt_of_cell? w23 ⟨Bx, 0, none⟩ fx0
          (try clear fyb); have fyb : By < w23.heap.size := World.block_lt_of_cell? w23 ⟨By, 0, none⟩ fy0
          (try clear ffb); have ffb : Bf < w23.heap.size := World.block_lt_of_cell? w23 ⟨Bf, 0, none⟩ ff0
          (try clear fcb); have fcb : w21.heap.size < w23.heap.size := World.block_lt_of_cell? w23 ⟨w21.heap.size, 0, none⟩ fc0
          (try clear fdb); have fdb : w22.heap.size < w23.heap.size := World.block_lt_of_cell? w23 ⟨w22.heap.size, 0, none⟩ fd0
          clear hk23 hf23
          go_wp2_with fail
          go_roundw
          case rel => exact ⟨7, by go_num, by omega, ⟨fa0, fa1, fb0, fb1, fx0, fx1, fy0, fy1, ff0, ff1, ff2, ff3, ff4, ff5, ff6⟩, by assumption⟩
          case measure => first | (simp [intOf]; done) | (simp [intOf]; omega)
    case rest =>
      obtain ⟨hA, hB⟩ := hcut
      obtain ⟨fa0, fa1, fb0, fb1, fx0, fx1, fy0, fy1⟩ := hA
      have hz := hB.size
      have hA2 : TG w.heap.size Bx By wc.heap.size al ah bl bh xl xh yl yh (wc.alloc (.cells #[.func (.func 46) #[] #[], .func (.func 20) #[] #[], .func (.func 47) #[] #[]] 36)) := ⟨keepA _ fa0, keepA _ fa1, keepA _ fb0, keepA _ fb1, keepA _ fx0, keepA _ fx1, keepA _ fy0, keepA _ fy1, by simp [go_sem], by simp [go_sem], by simp [go_sem]⟩
      have hB2 : Below w.heap.size w (wc.alloc (.cells #[.func (.func 46) #[] #[], .func (.func 20) #[] #[], .func (.func 47) #[] #[]] 36)) := by go_grown
      clear fa0 fa1 fb0 fb1 fx0 fx1 fy0 fy1
      go_upto_block 2 with fail
      generalize wc.heap.size = Bf at *
      go_cut [] (fun wx => TP w.heap.size Bx By al ah bl bh xl xh yl yh wx ∧ Below w.heap.size w wx)
      case first => as_aux_lemma =>
        go_wp2_with fail
        go_loopw [85] (fun s wx => ∃ k : Nat, s = .int .i64 k ∧ k ≤ 3 ∧ TG w.heap.size Bx By Bf al ah bl bh xl xh yl yh wx ∧ Below w.heap.size w wx) (fun s _ => (3 - intOf s).toNat)
        case atStart => exact ⟨0, rfl, by omega, hA2, hB2⟩
        case round =>
          clear hA2 hB2
          obtain ⟨k, rfl, hk, hA2, hB2⟩ := hrel
          obtain ⟨fa0, fa1, fb0, fb1, fx0, fx1, fy0, fy1, ff0, ff1, ff2⟩ := hA2
          rcases (by omega : k = 3 ∨ k = 0 ∨ k = 1 ∨ k = 2) with rfl | rfl | rfl | rfl
          · go_wp2_with fail
            go_meet
            exact ⟨⟨fa0, fa1, fb0, fb1, fx0, fx1, fy0, fy1⟩, hB2⟩
          · as_aux_lemma =>
            obtain ⟨p1, p2, pe, q1, q2, qe, r1, r2, r3⟩ := v0.out
            replace r1 := hid r1; replace r2 := hid r2; replace r3 := hid r3
            go_wp2_with fail
            refine useF w (r1.out _) (by go_grown) ?_; rintro e w21 rfl hB21 hk21 hf21 hs21; clear hs21
            replace fa0 : w21.cell? ⟨w.heap.size, 0, none⟩ = some (.int .i64 al) := hk21 _ _ _ (fa0)
            replace fa1 : w21.cell? ⟨w.heap.size, 1, none⟩ = some (.int .i64 ah) := hk21 _ _ _ (fa1)
            replace fb0 : w21.cell? ⟨w.heap.size + 1, 0, none⟩ = some (.int .i64 bl) := hk21 _ _ _ (fb0)
            replace fb1 : w21.cell? ⟨w.heap.size + 1, 1, none⟩ = some (.int .i64 bh) := hk21 _ _ _ (fb1)
            replace fx0 : w21.cell? ⟨Bx, 0, none⟩ = some (.int .i64 xl) := hk21 _ _ _ (fx0)
            replace fx1 : w21.cell? ⟨Bx, 1, none⟩ = some (.int .i64 xh) := hk21 _ _ _ (fx1)
            replace fy0 : w21.cell? ⟨By, 0, none⟩ = some (.int .i64 yl) := hk21 _ _ _ (fy0)
            replace fy1 : w21.cell? ⟨By, 1, none⟩ = some (.int .i64 yh) := hk21 _ _ _ (fy1)
            replace ff0 : w21.cell? ⟨Bf, 0, none⟩ = some (.func (.func 46) #[] #[]) := hk21 _ _ _ (ff0)
            replace ff1 : w21.cell? ⟨Bf, 1, none⟩ = some (.func (.func 20) #[] #[]) := hk21 _ _ _ (ff1)
            replace ff2 : w21.cell? ⟨Bf, 2, none⟩ = some (.func (.func 47) #[] #[]) := hk21 _ _ _ (ff2)
            (try clear fab); have fab : w.heap.size < w21.heap.size := World.block_lt_of_cell? w21 ⟨w.heap.size, 0, none⟩ fa0
            (try clear fbb); have fbb : w.heap.size + 1 < w21.heap.size := World.block_lt_of_cell? w21 ⟨w.heap.size + 1, 0, none⟩ fb0
            (try clear fxb); have fxb : Bx < w21.heap.size := World.block_lt_of_cell? w21 ⟨Bx, 0, none⟩ fx0
            (try clear fyb); have fyb : By < w21.heap.size := World.block_lt_of_cell? w21 ⟨By, 0, none⟩ fy0
            (try clear ffb); have ffb : Bf < w21.heap.size := World.block_lt_of_cell? w21 ⟨Bf, 0, none⟩ ff0
            clear hk21 hf21
            go_wp2_with fail
            refine useF w (r2.out _) (by go_grown) ?_; rintro e w22 rfl hB22 hk22 hf22 hs22; clear hs22
            replace fa0 : w22.cell? ⟨w.heap.size, 0, none⟩ = some (.int .i64 al) := hk22 _ _ _ ((keepA _ fa0))
            replace fa1 : w22.cell? ⟨w.heap.size, 1, none⟩ = some (.int .i64 ah) := hk22 _ _ _ ((keepA _ fa1))
            replace fb0 : w22.cell? ⟨w.heap.size + 1, 0, none⟩ = some (.int .i64 bl) := hk22 _ _ _ ((keepA _ fb0))
            replace fb1 : w22.cell? ⟨w.heap.size + 1, 1, none⟩ = some (.int .i64 bh) := hk22 _ _ _ ((keepA _ fb1))
            replace fx0 : w22.cell? ⟨Bx, 0, none⟩ = some (.int .i64 xl) := hk22 _ _ _ ((keepA _ fx0))
            replace fx1 : w22.cell? ⟨Bx, 1, none⟩ = some (.int .i64 xh) := hk22 _ _ _ ((keepA _ fx1))
            replace fy0 : w22.cell? ⟨By, 0, none⟩ = some (.int .i64 yl) := hk22 _ _ _ ((keepA _ fy0))
            replace fy1 : w22.cell? ⟨By, 1, none⟩ = some (.int .i64 yh) := hk22 _ _ _ ((keepA _ fy1))
            replace ff0 : w22.cell? ⟨Bf, 0, none⟩ = some (.func (.func 46) #[] #[]) := hk22 _ _ _ ((keepA _ ff0))
            replace ff1 : w22.cell? ⟨Bf, 1, none⟩ = some (.func (.func 20) #[] #[]) := hk22 _ _ _ ((keepA _ ff1))
            replace ff2 : w22.cell? ⟨Bf, 2, none⟩ = some (.func (.func 47) #[] #[]) := hk22 _ _ _ ((keepA _ ff2))
            have fc0 : w22.cell? ⟨w21.heap.size, 0, none⟩ = some (.int .i64 p1) := hk22 _ _ _ ((by simp [go_sem]))
            have fc1 : w22.cell? ⟨w21.heap.size, 1, none⟩ = some (.int .i64 p2) := hk22 _ _ _ ((by simp [go_sem]))
            (try clear fab); have fab : w.heap.size < w22.heap.size := World.block_lt_of_cell? w22 ⟨w.heap.size, 0, none⟩ fa0
            (try clear fbb); have fbb : w.heap.size + 1 < w22.heap.size := World.block_lt_of_cell? w22 ⟨w.heap.size + 1, 0, none⟩ fb0
            (try clear fxb); have fxb : Bx < w22.heap.size := World.block_lt_of_cell? w22 ⟨Bx, 0, none⟩ fx0
            (try clear fyb); have fyb : By < w22.heap.size := World.block_lt_of_cell? w22 ⟨By, 0, none⟩ fy0
            (try clear ffb); have ffb : Bf < w22.heap.size := World.block_lt_of_cell? w22 ⟨Bf, 0, none⟩ ff0
            (try clear fcb); have fcb : w21.heap.size < w22.heap.size := World.block_lt_of_cell? w22 ⟨w21.heap.size, 0, none⟩ fc0
            clear hk22 hf22
            go_wp2_with fail
            refine useF w (r3.out _) (by go_grown) ?_; rintro e w23 rfl hB23 hk23 hf23 hs23; clear hs23
            replace fa0 : w23.cell? ⟨w.heap.size, 0, none⟩ = some (.int .i64 al) := hk23 _ _ _ ((keepA _ fa0))
            replace fa1 : w23.cell? ⟨w.heap.size, 1, none⟩ = some (.int .i64 ah) := hk23 _ _ _ ((keepA _ fa1))
            replace fb0 : w23.cell? ⟨w.heap.size + 1, 0, none⟩ = some (.int .i64 bl) := hk23 _ _ _ ((keepA _ fb0))
            replace fb1 : w23.cell? ⟨w.heap.size + 1, 1, none⟩ = some (.int .i64 bh) := hk23 _ _ _ ((keepA _ fb1))
            replace fx0 : w23.cell? ⟨Bx, 0, none⟩ = some (.int .i64 xl) := hk23 _ _ _ ((keepA _ fx0))
            replace fx1 : w23.cell? ⟨Bx, 1, none⟩ = some (.int .i64 xh) := hk23 _ _ _ ((keepA _ fx1))
            replace fy0 : w23.cell? ⟨By, 0, none⟩ = some (.int .i64 yl) := hk23 _ _ _ ((keepA _ fy0))
            replace fy1 : w23.cell? ⟨By, 1, none⟩ = some (.int .i64 yh) := hk23 _ _ _ ((keepA _ fy1))
            replace ff0 : w23.cell? ⟨Bf, 0, none⟩ = some (.func (.func 46) #[] #[]) := hk23 _ _ _ ((keepA _ ff0))
            replace ff1 : w23.cell? ⟨Bf, 1, none⟩ = some (.func (.func 20) #[] #[]) := hk23 _ _ _ ((keepA _ ff1))
            replace ff2 : w23.cell? ⟨Bf, 2, none⟩ = some (.func (.func 47) #[] #[]) := hk23 _ _ _ ((keepA _ ff2))
            replace fc0 : w23.cell? ⟨w21.heap.size, 0, none⟩ = some (.int .i64 p1) := hk23 _ _ _ ((keepA _ fc0))
            replace fc1 : w23.cell? ⟨w21.heap.size, 1, none⟩ = some (.int .i64 p2) := hk23 _ _ _ ((keepA _ fc1))
            have fd0 : w23.cell? ⟨w22.heap.size, 0, none⟩ = some (.int .i64 q1) := hk23 _ _ _ ((by simp [go_sem]))
            have fd1 : w23.cell? ⟨w22.heap.size, 1, none⟩ = some (.int .i64 q2) := hk23 _ _ _ ((by simp [go_sem]))
            (try clear fab); have fab : w.heap.size < w23.heap.size := World.block_lt_of_cell? w23 ⟨w.heap.size, 0, none⟩ fa0
            (try clear fbb); have fbb : w.heap.size + 1 < w23.heap.size := World.block_lt_of_cell? w23 ⟨w.heap.size + 1, 0, none⟩ fb0
            (try clear fxb); have fxb : Bx < w23.heap.size := World.block_lt_of_cell? w23 ⟨Bx, 0, none⟩ fx0
            (try clear fyb); have fyb : By < w23.heap.size := World.block_lt_of_cell? w23 ⟨By, 0, none⟩ fy0
            (try clear ffb); have ffb : Bf < w23.heap.size := World.block_lt_of_cell? w23 ⟨Bf, 0, none⟩ ff0
            (try clear fcb); have fcb : w21.heap.size < w23.heap.size := World.block_lt_of_cell? w23 ⟨w21.heap.size, 0, none⟩ fc0
            (try clear fdb); have fdb : w22.heap.size < w23.heap.size := World.block_lt_of_cell? w23 ⟨w22.heap.size, 0, none⟩ fd0
            clear hk23 hf23
            go_wp2_with fail
            go_roundw
            case rel => exact ⟨1, by go_num, by omega, ⟨fa0, fa1, fb0, fb1, fx0, fx1, fy0, fy1, ff0, ff1, ff2⟩, by assumption⟩
            case measure => first | (simp [intOf]; done) | (simp [intOf]; omega)
          · as_aux_lemma =>
            obtain ⟨p1, p2, pe, q1, q2, qe, r1, r2, r3⟩ := v1.out
            replace r1 := hid r1; replace r2 := hid r2; replace r3 := hid r3
            go_wp2_with fail
            refine useF w (r1.out _) (by go_grown) ?_; rintro e w21 rfl hB21 hk21 hf21 hs21; clear hs21
            replace fa0 : w21.cell? ⟨w.heap.size, 0, none⟩ = some (.int .i64 al) := hk21 _ _ _ (fa0)
            replace fa1 : w21.cell? ⟨w.heap.size, 1, none⟩ = some (.int .i64 ah) := hk21 _ _ _ (fa1)
            replace fb0 : w21.cell? ⟨w.heap.size + 1, 0, none⟩ = some (.int .i64 bl) := hk21 _ _ _ (fb0)
            replace fb1 : w21.cell? ⟨w.heap.size + 1, 1, none⟩ = some (.int .i64 bh) := hk21 _ _ _ (fb1)
            replace fx0 : w21.cell? ⟨Bx, 0, none⟩ = some (.int .i64 xl) := hk21 _ _ _ (fx0)
            replace fx1 : w21.cell? ⟨Bx, 1, none⟩ = some (.int .i64 xh) := hk21 _ _ _ (fx1)
            replace fy0 : w21.cell? ⟨By, 0, none⟩ = some (.int .i64 yl) := hk21 _ _ _ (fy0)
            replace fy1 : w21.cell? ⟨By, 1, none⟩ = some (.int .i64 yh) := hk21 _ _ _ (fy1)
            replace ff0 : w21.cell? ⟨Bf, 0, none⟩ = some (.func (.func 46) #[] #[]) := hk21 _ _ _ (ff0)
            replace ff1 : w21.cell? ⟨Bf, 1, none⟩ = some (.func (.func 20) #[] #[]) := hk21 _ _ _ (ff1)
            replace ff2 : w21.cell? ⟨Bf, 2, none⟩ = some (.func (.func 47) #[] #[]) := hk21 _ _ _ (ff2)
            (try clear fab); have fab : w.heap.size < w21.heap.size := World.block_lt_of_cell? w21 ⟨w.heap.size, 0, none⟩ fa0
            (try clear fbb); have fbb : w.heap.size + 1 < w21.heap.size := World.block_lt_of_cell? w21 ⟨w.heap.size + 1, 0, none⟩ fb0
            (try clear fxb); have fxb : Bx < w21.heap.size := World.block_lt_of_cell? w21 ⟨Bx, 0, none⟩ fx0
            (try clear fyb); have fyb : By < w21.heap.size := World.block_lt_of_cell? w21 ⟨By, 0, none⟩ fy0
            (try clear ffb); have ffb : Bf < w21.heap.size := World.block_lt_of_cell? w21 ⟨Bf, 0, none⟩ ff0
            clear hk21 hf21
            go_wp2_with fail
            refine useF w (r2.out _) (by go_grown) ?_; rintro e w22 rfl hB22 hk22 hf22 hs22; clear hs22
            replace fa0 : w22.cell? ⟨w.heap.size, 0, none⟩ = some (.int .i64 al) := hk22 _ _ _ ((keepA _ fa0))
            replace fa1 : w22.cell? ⟨w.heap.size, 1, none⟩ = some (.int .i64 ah) := hk22 _ _ _ ((keepA _ fa1))
            replace fb0 : w22.cell? ⟨w.heap.size + 1, 0, none⟩ = some (.int .i64 bl) := hk22 _ _ _ ((keepA _ fb0))
            replace fb1 : w22.cell? ⟨w.heap.size + 1, 1, none⟩ = some (.int .i64 bh) := hk22 _ _ _ ((keepA _ fb1))
            replace fx0 : w22.cell? ⟨Bx, 0, none⟩ = some (.int .i64 xl) := hk22 _ _ _ ((keepA _ fx0))
            replace fx1 : w22.cell? ⟨Bx, 1, none⟩ = some (.int .i64 xh) := hk22 _ _ _ ((keepA _ fx1))
            replace fy0 : w22.cell? ⟨By, 0, none⟩ = some (.int .i64 yl) := hk22 _ _ _ ((keepA _ fy0))
            replace fy1 : w22.cell? ⟨By, 1, none⟩ = some (.int .i64 yh) := hk22 _ _ _ ((keepA _ fy1))
            replace ff0 : w22.cell? ⟨Bf, 0, none⟩ = some (.func (.func 46) #[] #[]) := hk22 _ _ _ ((keepA _ ff0))
            replace ff1 : w22.cell? ⟨Bf, 1, none⟩ = some (.func (.func 20) #[] #[]) := hk22 _ _ _ ((keepA _ ff1))
            replace ff2 : w22.cell? ⟨Bf, 2, none⟩ = some (.func (.func 47) #[] #[]) := hk22 _ _ _ ((keepA _ ff2))
            have fc0 : w22.cell? ⟨w21.heap.size, 0, none⟩ = some (.int .i64 p1) := hk22 _ _ _ ((by simp [go_sem]))
            have fc1 : w22.cell? ⟨w21.heap.size, 1, none⟩ = some (.int .i64 p2) := hk22 _ _ _ ((by simp [go_sem]))
            (try clear fab); have fab : w.heap.size < w22.heap.size := World.block_lt_of_cell? w22 ⟨w.heap.size, 0, none⟩ fa0
            (try clear fbb); have fbb : w.heap.size + 1 < w22.heap.size := World.block_lt_of_cell? w22 ⟨w.heap.size + 1, 0, none⟩ fb0
            (try clear fxb); have fxb : Bx < w22.heap.size := World.block_lt_of_cell? w22 ⟨Bx, 0, none⟩ fx0
            (try clear fyb); have fyb : By < w22.heap.size := World.block_lt_of_cell? w22 ⟨By, 0, none⟩ fy0
            (try clear ffb); have ffb : Bf < w22.heap.size := World.block_lt_of_cell? w22 ⟨Bf, 0, none⟩ ff0
            (try clear fcb); have fcb : w21.heap.size < w22.heap.size := World.block_lt_of_cell? w22 ⟨w21.heap.size, 0, none⟩ fc0
            clear hk22 hf22
            go_wp2_with fail
            refine useF w (r3.out _) (by go_grown) ?_; rintro e w23 rfl hB23 hk23 hf23 hs23; clear hs23
            replace fa0 : w23.cell? ⟨w.heap.size, 0, none⟩ = some (.int .i64 al) := hk23 _ _ _ ((keepA _ fa0))
            replace fa1 : w23.cell? ⟨w.heap.size, 1, none⟩ = some (.int .i64 ah) := hk23 _ _ _ ((keepA _ fa1))
            replace fb0 : w23.cell? ⟨w.heap.size + 1, 0, none⟩ = some (.int .i64 bl) := hk23 _ _ _ ((keepA _ fb0))
            replace fb1 : w23.cell? ⟨w.heap.size + 1, 1, none⟩ = some (.int .i64 bh) := hk23 _ _ _ ((keepA _ fb1))
            replace fx0 : w23.cell? ⟨Bx, 0, none⟩ = some (.int .i64 xl) := hk23 _ _ _ ((keepA _ fx0))
            replace fx1 : w23.cell? ⟨Bx, 1, none⟩ = some (.int .i64 xh) := hk23 _ _ _ ((keepA _ fx1))
            replace fy0 : w23.cell? ⟨By, 0, none⟩ = some (.int .i64 yl) := hk23 _ _ _ ((keepA _ fy0))
            replace fy1 : w23.cell? ⟨By, 1, none⟩ = some (.int .i64 yh) := hk23 _ _ _ ((keepA _ fy1))
            replace ff0 : w23.cell? ⟨Bf, 0, none⟩ = some (.func (.func 46) #[] #[]) := hk23 _ _ _ ((keepA _ ff0))
            replace ff1 : w23.cell? ⟨Bf, 1, none⟩ = some (.func (.func 20) #[] #[]) := hk23 _ _ _ ((keepA _ ff1))
            replace ff2 : w23.cell? ⟨Bf, 2, none⟩ = some (.func (.func 47) #[] #[]) := hk23 _ _ _ ((keepA _ ff2))
            replace fc0 : w23.cell? ⟨w21.heap.size, 0, none⟩ = some (.int .i64 p1) := hk23 _ _ _ ((keepA _ fc0))
            replace fc1 : w23.cell? ⟨w21.heap.size, 1, none⟩ = some (.int .i64 p2) := hk23 _ _ _ ((keepA _ fc1))
            have fd0 : w23.cell? ⟨w22.heap.size, 0, none⟩ = some (.int .i64 q1) := hk23 _ _ _ ((by simp [go_sem]))
            have fd1 : w23.cell? ⟨w22.heap.size, 1, none⟩ = some (.int .i64 q2) := hk23 _ _ _ ((by simp [go_sem]))
            (try clear fab); have fab : w.heap.size < w23.heap.size := World.block_lt_of_cell? w23 ⟨w.heap.size, 0, none⟩ fa0
            (try clear fbb); have fbb : w.heap.size + 1 < w23.heap.size := World.block_lt_of_cell? w23 ⟨w.heap.size + 1, 0, none⟩ fb0
            (try clear fxb); have fxb : Bx < w23.heap.size := World.block_lt_of_cell? w23 ⟨Bx, 0, none⟩ fx0
            (try clear fyb); have fyb : By < w23.heap.size := World.block_lt_of_cell? w23 ⟨By, 0, none⟩ fy0
            (try clear ffb); have ffb : Bf < w23.heap.size := World.block_lt_of_cell? w23 ⟨Bf, 0, none⟩ ff0
            (try clear fcb); have fcb : w21.heap.size < w23.heap.size := World.block_lt_of_cell? w23 ⟨w21.heap.size, 0, none⟩ fc0
            (try clear fdb); have fdb : w22.heap.size < w23.heap.size := World.block_lt_of_cell? w23 ⟨w22.heap.size, 0, none⟩ fd0
            clear hk23 hf23
            go_wp2_with fail
            go_roundw
            case rel => exact ⟨2, by go_num, by omega, ⟨fa0, fa1, fb0, fb1, fx0, fx1, fy0, fy1, ff0, ff1, ff2⟩, by assumption⟩
            case measure => first | (simp [intOf]; done) | (simp [intOf]; omega)
          · as_aux_lemma =>
            obtain ⟨p1, p2, pe, q1, q2, qe, r1, r2, r3⟩ := v2.out
            replace r1 := hid r1; replace r2 := hid r2; replace r3 := hid r3
            go_wp2_with fail
            refine useF w (r1.out _) (by go_grown) ?_; rintro e w21 rfl hB21 hk21 hf21 hs21; clear hs21
            replace fa0 : w21.cell? ⟨w.heap.size, 0, none⟩ = some (.int .i64 al) := hk21 _ _ _ (fa0)
            replace fa1 : w21.cell? ⟨w.heap.size, 1, none⟩ = some (.int .i64 ah) := hk21 _ _ _ (fa1)
            replace fb0 : w21.cell? ⟨w.heap.size + 1, 0, none⟩ = some (.int .i64 bl) := hk21 _ _ _ (fb0)
            replace fb1 : w21.cell? ⟨w.heap.size + 1, 1, none⟩ = some (.int .i64 bh) := hk21 _ _ _ (fb1)
            replace fx0 : w21.cell? ⟨Bx, 0, none⟩ = some (.int .i64 xl) := hk21 _ _ _ (fx0)
            replace fx1 : w21.cell? ⟨Bx, 1, none⟩ = some (.int .i64 xh) := hk21 _ _ _ (fx1)
            replace fy0 : w21.cell? ⟨By, 0, none⟩ = some (.int .i64 yl) := hk21 _ _ _ (fy0)
            replace fy1 : w21.cell? ⟨By, 1, none⟩ = some (.int .i64 yh) := hk21 _ _ _ (fy1)
            replace ff0 : w21.cell? ⟨Bf, 0, none⟩ = some (.func (.func 46) #[] #[]) := hk21 _ _ _ (ff0)
            replace ff1 : w21.cell? ⟨Bf, 1, none⟩ = some (.func (.func 20) #[] #[]) := hk21 _ _ _ (ff1)
            replace ff2 : w21.cell? ⟨Bf, 2, none⟩ = some (.func (.func 47) #[] #[]) := hk21 _ _ _ (ff2)
            (try clear fab); have fab : w.heap.size < w21.heap.size := World.block_lt_of_cell? w21 ⟨w.heap.size, 0, none⟩ fa0
            (try clear fbb); have fbb : w.heap.size + 1 < w21.heap.size := World.block_lt_of_cell? w21 ⟨w.heap.size + 1, 0, none⟩ fb0
            (try clear fxb); have fxb : Bx < w21.heap.size := World.block_lt_of_cell? w21 ⟨Bx, 0, none⟩ fx0
            (try clear fyb); have fyb : By < w21.heap.size := World.block_lt_of_cell? w21 ⟨By, 0, none⟩ fy0
            (try clear ffb); have ffb : Bf < w21.heap.size := World.block_lt_of_cell? w21 ⟨Bf, 0, none⟩ ff0
            clear hk21 hf21
            go_wp2_with fail
            refine useF w (r2.out _) (by go_grown) ?_; rintro e w22 rfl hB22 hk22 hf22 hs22; clear hs22
            replace fa0 : w22.cell? ⟨w.heap.size, 0, none⟩ = some (.int .i64 al) := hk22 _ _ _ ((keepA _ fa0))
            replace fa1 : w22.cell? ⟨w.heap.size, 1, none⟩ = some (.int .i64 ah) := hk22 _ _ _ ((keepA _ fa1))
            replace fb0 : w22.cell? ⟨w.heap.size + 1, 0, none⟩ = some (.int .i64 bl) := hk22 _ _ _ ((keepA _ fb0))
            replace fb1 : w22.cell? ⟨w.heap.size + 1, 1, none⟩ = some (.int .i64 bh) := hk22 _ _ _ ((keepA _ fb1))
            replace fx0 : w22.cell? ⟨Bx, 0, none⟩ = some (.int .i64 xl) := hk22 _ _ _ ((keepA _ fx0))
            replace fx1 : w22.cell? ⟨Bx, 1, none⟩ = some (.int .i64 xh) := hk22 _ _ _ ((keepA _ fx1))
            replace fy0 : w22.cell? ⟨By, 0, none⟩ = some (.int .i64 yl) := hk22 _ _ _ ((keepA _ fy0))
            replace fy1 : w22.cell? ⟨By, 1, none⟩ = some (.int .i64 yh) := hk22 _ _ _ ((keepA _ fy1))
            replace ff0 : w22.cell? ⟨Bf, 0, none⟩ = some (.func (.func 46) #[] #[]) := hk22 _ _ _ ((keepA _ ff0))
            replace ff1 : w22.cell? ⟨Bf, 1, none⟩ = some (.func (.func 20) #[] #[]) := hk22 _ _ _ ((keepA _ ff1))
            replace ff2 : w22.cell? ⟨Bf, 2, none⟩ = some (.func (.func 47) #[] #[]) := hk22 _ _ _ ((keepA _ ff2))
            have fc0 : w22.cell? ⟨w21.heap.size, 0, none⟩ = some (.int .i64 p1) := hk22 _ _ _ ((by simp [go_sem]))
            have fc1 : w22.cell? ⟨w21.heap.size, 1, none⟩ = some (.int .i64 p2) := hk22 _ _ _ ((by simp [go_sem]))
            (try clear fab); have fab : w.heap.size < w22.heap.size := World.block_lt_of_cell? w22 ⟨w.heap.size, 0, none⟩ fa0
            (try clear fbb); have fbb : w.heap.size + 1 < w22.heap.size := World.block_lt_of_cell? w22 ⟨w.heap.size + 1, 0, none⟩ fb0
            (try clear fxb); have fxb : Bx < w22.heap.size := World.block_lt_of_cell? w22 ⟨Bx, 0, none⟩ fx0
            (try clear fyb); have fyb : By < w22.heap.size := World.block_lt_of_cell? w22 ⟨By, 0, none⟩ fy0
            (try clear ffb); have ffb : Bf < w22.heap.size := World.block_lt_of_cell? w22 ⟨Bf, 0, none⟩ ff0
            (try clear fcb); have fcb : w21.heap.size < w22.heap.size := World.block_lt_of_cell? w22 ⟨w21.heap.size, 0, none⟩ fc0
            clear hk22 hf22
            go_wp2_with fail
            refine useF w (r3.out _) (by go_grown) ?_; rintro e w23 rfl hB23 hk23 hf23 hs23; clear hs23
            replace fa0 : w23.cell? ⟨w.heap.size, 0, none⟩ = some (.int .i64 al) := hk23 _ _ _ ((keepA _ fa0))
            replace fa1 : w23.cell? ⟨w.heap.size, 1, none⟩ = some (.int .i64 ah) := hk23 _ _ _ ((keepA _ fa1))
            replace fb0 : w23.cell? ⟨w.heap.size + 1, 0, none⟩ = some (.int .i64 bl) := hk23 _ _ _ ((keepA _ fb0))
            replace fb1 : w23.cell? ⟨w.heap.size + 1, 1, none⟩ = some (.int .i64 bh) := hk23 _ _ _ ((keepA _ fb1))
            replace fx0 : w23.cell? ⟨Bx, 0, none⟩ = some (.int .i64 xl) := hk23 _ _ _ ((keepA _ fx0))
            replace fx1 : w23.cell? ⟨Bx, 1, none⟩ = some (.int .i64 xh) := hk23 _ _ _ ((keepA _ fx1))
            replace fy0 : w23.cell? ⟨By, 0, none⟩ = some (.int .i64 yl) := hk23 _ _ _ ((keepA _ fy0))
            replace fy1 : w23.cell? ⟨By, 1, none⟩ = some (.int .i64 yh) := hk23 _ _ _ ((keepA _ fy1))
            replace ff0 : w23.cell? ⟨Bf, 0, none⟩ = some (.func (.func 46) #[] #[]) := hk23 _ _ _ ((keepA _ ff0))
            replace ff1 : w23.cell? ⟨Bf, 1, none⟩ = some (.func (.func 20) #[] #[]) := hk23 _ _ _ ((keepA _ ff1))
            replace ff2 : w23.cell? ⟨Bf, 2, none⟩ = some (.func (.func 47) #[] #[]) := hk23 _ _ _ ((keepA _ ff2))
            replace fc0 : w23.cell? ⟨w21.heap.size, 0, none⟩ = some (.int .i64 p1) := hk23 _ _ _ ((keepA _ fc0))
            replace fc1 : w23.cell? ⟨w21.heap.size, 1, none⟩ = some (.int .i64 p2) := hk23 _ _ _ ((keepA _ fc1))
            have fd0 : w23.cell? ⟨w22.heap.size, 0, none⟩ = some (.int .i64 q1) := hk23 _ _ _ ((by simp [go_sem]))
            have fd1 : w23.cell? ⟨w22.heap.size, 1, none⟩ = some (.int .i64 q2) := hk23 _ _ _ ((by simp [go_sem]))
            (try clear fab); have fab : w.heap.size < w23.heap.size := World.block_lt_of_cell? w23 ⟨w.heap.size, 0, none⟩ fa0
            (try clear fbb); have fbb : w.heap.size + 1 < w23.heap.size := World.block_lt_of_cell? w23 ⟨w.heap.size + 1, 0, none⟩ fb0
            (try clear fxb); have fxb : Bx < w23.heap.size := World.block_lt_of_cell? w23 ⟨Bx, 0, none⟩ fx0
            (try clear fyb); have fyb : By < w23.heap.size := World.block_lt_of_cell? w23 ⟨By, 0, none⟩ fy0
            (try clear ffb); have ffb : Bf < w23.heap.size := World.block_lt_of_cell? w23 ⟨Bf, 0, none⟩ ff0
            (try clear fcb); have fcb : w21.heap.size < w23.heap.size := World.block_lt_of_cell? w23 ⟨w21.heap.size, 0, none⟩ fc0
            (try clear fdb); have fdb : w22.heap.size < w23.heap.size := World.block_lt_of_cell? w23 ⟨w22.heap.size, 0, none⟩ fd0
            clear hk23 hf23
            go_wp2_with fail
            go_roundw
            case rel => exact ⟨3, by go_num, by omega, ⟨fa0, fa1, fb0, fb1, fx0, fx1, fy0, fy1, ff0, ff1, ff2⟩, by assumption⟩
            case measure => first | (simp [intOf]; done) | (simp [intOf]; omega)
      case rest =>
        obtain ⟨hA, hB⟩ := hcut
        obtain ⟨fa0, fa1, fb0, fb1, fx0, fx1, fy0, fy1⟩ := hA
        go_wp2_with fail
        refine useF w (t1.out _) (by go_grown) ?_; rintro e w61 rfl hB61 hk61 hf61 hs61; clear hs61
        replace fa0 : w61.cell? ⟨w.heap.size, 0, none⟩ = some (.int .i64 al) := hk61 _ _ _ (fa0)
        replace fa1 : w61.cell? ⟨w.heap.size, 1, none⟩ = some (.int .i64 ah) := hk61 _ _ _ (fa1)
        replace fb0 : w61.cell? ⟨w.heap.size + 1, 0, none⟩ = some (.int .i64 bl) := hk61 _ _ _ (fb0)
        replace fb1 : w61.cell? ⟨w.heap.size + 1, 1, none⟩ = some (.int .i64 bh) := hk61 _ _ _ (fb1)
        replace fx0 : w61.cell? ⟨Bx, 0, none⟩ = some (.int .i64 xl) := hk61 _ _ _ (fx0)
        replace fx1 : w61.cell? ⟨Bx, 1, none⟩ = some (.int .i64 xh) := hk61 _ _ _ (fx1)
        replace fy0 : w61.cell? ⟨By, 0, none⟩ = some (.int .i64 yl) := hk61 _ _ _ (fy0)
        replace fy1 : w61.cell? ⟨By, 1, none⟩ = some (.int .i64 yh) := hk61 _ _ _ (fy1)
        (try clear fab); have fab : w.heap.size < w61.heap.size := World.block_lt_of_cell? w61 ⟨w.heap.size, 0, none⟩ fa0
        (try clear fbb); have fbb : w.heap.size + 1 < w61.heap.size := World.block_lt_of_cell? w61 ⟨w.heap.size + 1, 0, none⟩ fb0
        (try clear fxb); have fxb : Bx < w61.heap.size := World.block_lt_of_cell? w61 ⟨Bx, 0, none⟩ fx0
        (try clear fyb); have fyb : By < w61.heap.size := World.block_lt_of_cell? w61 ⟨By, 0, none⟩ fy0
        clear hk61 hf61
        have fab61 := fab
        have fbb61 := fbb
        have fxb61 := fxb
        have fyb61 := fyb
        have fa0' : ((w61.alloc (.cells #[.int .i64 c1, .int .i64 c2] 24)).alloc (.cells #[.int .i64 c3, .int .i64 c4] 24)).cell? ⟨w.heap.size, 0, none⟩ = some (.int .i64 al) := (keepA _ (keepA _ fa0))
        have fa1' : ((w61.alloc (.cells #[.int .i64 c1, .int .i64 c2] 24)).alloc (.cells #[.int .i64 c3, .int .i64 c4] 24)).cell? ⟨w.heap.size, 1, none⟩ = some (.int .i64 ah) := (keepA _ (keepA _ fa1))
        have fb0' : ((w61.alloc (.cells #[.int .i64 c1, .int .i64 c2] 24)).alloc (.cells #[.int .i64 c3, .int .i64 c4] 24)).cell? ⟨w.heap.size + 1, 0, none⟩ = some (.int .i64 bl) := (keepA _ (keepA _ fb0))
        have fb1' : ((w61.alloc (.cells #[.int .i64 c1, .int .i64 c2] 24)).alloc (.cells #[.int .i64 c3, .int .i64 c4] 24)).cell? ⟨w.heap.size + 1, 1, none⟩ = some (.int .i64 bh) := (keepA _ (keepA _ fb1))
        have fx0' : ((w61.alloc (.cells #[.int .i64 c1, .int .i64 c2] 24)).alloc (.cells #[.int .i64 c3, .int .i64 c4] 24)).cell? ⟨Bx, 0, none⟩ = some (.int .i64 xl) := (keepA _ (keepA _ fx0))
        have fx1' : ((w61.alloc (.cells #[.int .i64 c1, .int .i64 c2] 24)).alloc (.cells #[.int .i64 c3, .int .i64 c4] 24)).cell? ⟨Bx, 1, none⟩ = some (.int .i64 xh) := (keepA _ (keepA _ fx1))
        have fy0' : ((w61.alloc (.cells #[.int .i64 c1, .int .i64 c2] 24)).alloc (.cells #[.int .i64 c3, .int .i64 c4] 24)).cell? ⟨By, 0, none⟩ = some (.int .i64 yl) := (keepA _ (keepA _ fy0))
        have fy1' : ((w61.alloc (.cells #[.int .i64 c1, .int .i64 c2] 24)).alloc (.cells #[.int .i64 c3, .int .i64 c4] 24)).cell? ⟨By, 1, none⟩ = some (.int .i64 yh) := (keepA _ (keepA _ fy1))
        have gc0 : ((w61.alloc (.cells #[.int .i64 c1, .int .i64 c2] 24)).alloc (.cells #[.int .i64 c3, .int .i64 c4] 24)).cell? ⟨w61.heap.size, 0, none⟩ = some (.int .i64 c1) := (keepA _ (show (w61.alloc (.cells #[.int .i64 c1, .int .i64 c2] 24)).cell? ⟨w61.heap.size, 0, none⟩ = some (.int .i64 c1) by simp [go_sem]))
        have gc1 : ((w61.alloc (.cells #[.int .i64 c1, .int .i64 c2] 24)).alloc (.cells #[.int .i64 c3, .int .i64 c4] 24)).cell? ⟨w61.heap.size, 1, none⟩ = some (.int .i64 c2) := (keepA _ (show (w61.alloc (.cells #[.int .i64 c1, .int .i64 c2] 24)).cell? ⟨w61.heap.size, 1, none⟩ = some (.int .i64 c2) by simp [go_sem]))
        have gs0 : ((w61.alloc (.cells #[.int .i64 c1, .int .i64 c2] 24)).alloc (.cells #[.int .i64 c3, .int .i64 c4] 24)).cell? ⟨w61.heap.size + 1, 0, none⟩ = some (.int .i64 c3) := (show ((w61.alloc (.cells #[.int .i64 c1, .int .i64 c2] 24)).alloc (.cells #[.int .i64 c3, .int .i64 c4] 24)).cell? ⟨w61.heap.size + 1, 0, none⟩ = some (.int .i64 c3) by simp [go_sem])
        have gs1 : ((w61.alloc (.cells #[.int .i64 c1, .int .i64 c2] 24)).alloc (.cells #[.int .i64 c3, .int .i64 c4] 24)).cell? ⟨w61.heap.size + 1, 1, none⟩ = some (.int .i64 c4) := (show ((w61.alloc (.cells #[.int .i64 c1, .int .i64 c2] 24)).alloc (.cells #[.int .i64 c3, .int .i64 c4] 24)).cell? ⟨w61.heap.size + 1, 1, none⟩ = some (.int .i64 c4) by simp [go_sem])
        go_wp2_with fail
        replace fa0 := fa0'; clear fa0'
        replace fa1 := fa1'; clear fa1'
        replace fb0 := fb0'; clear fb0'
        replace fb1 := fb1'; clear fb1'
        replace fx0 := fx0'; clear fx0'
        replace fx1 := fx1'; clear fx1'
        replace fy0 := fy0'; clear fy0'
        replace fy1 := fy1'; clear fy1'
        refine useF w (t2.out _) (by go_grown) ?_; rintro e w62 rfl hB62 hk62 hf62 hs62; clear hs62
        replace fa0 : w62.cell? ⟨w.heap.size, 0, none⟩ = some (.int .i64 al) := hk62 _ _ _ (fa0)
        replace fa1 : w62.cell? ⟨w.heap.size, 1, none⟩ = some (.int .i64 ah) := hk62 _ _ _ (fa1)
        replace fb0 : w62.cell? ⟨w.heap.size + 1, 0, none⟩ = some (.int .i64 bl) := hk62 _ _ _ (fb0)
        replace fb1 : w62.cell? ⟨w.heap.size + 1, 1, none⟩ = some (.int .i64 bh) := hk62 _ _ _ (fb1)
        replace fx0 : w62.cell? ⟨Bx, 0, none⟩ = some (.int .i64 xl) := hk62 _ _ _ (fx0)
        replace fx1 : w62.cell? ⟨Bx, 1, none⟩ = some (.int .i64 xh) := hk62 _ _ _ (fx1)
        replace fy0 : w62.cell? ⟨By, 0, none⟩ = some (.int .i64 yl) := hk62 _ _ _ (fy0)
        replace fy1 : w62.cell? ⟨By, 1, none⟩ = some (.int .i64 yh) := hk62 _ _ _ (fy1)
        replace gc0 : w62.cell? ⟨w61.heap.size, 0, none⟩ = some (.int .i64 c1) := hk62 _ _ _ (gc0)
        replace gc1 : w62.cell? ⟨w61.heap.size, 1, none⟩ = some (.int .i64 c2) := hk62 _ _ _ (gc1)
        replace gs0 : w62.cell? ⟨w61.heap.size + 1, 0, none⟩ = some (.int .i64 c3) := hk62 _ _ _ (gs0)
        replace gs1 : w62.cell? ⟨w61.heap.size + 1, 1, none⟩ = some (.int .i64 c4) := hk62 _ _ _ (gs1)
        (try clear fab); have fab : w.heap.size < w62.heap.size := World.block_lt_of_cell? w62 ⟨w.heap.size, 0, none⟩ fa0
        (try clear fbb); have fbb : w.heap.size + 1 < w62.heap.size := World.block_lt_of_cell? w62 ⟨w.heap.size + 1, 0, none⟩ fb0
        (try clear fxb); have fxb : Bx < w62.heap.size := World.block_lt_of_cell? w62 ⟨Bx, 0, none⟩ fx0
        (try clear fyb); have fyb : By < w62.heap.size := World.block_lt_of_cell? w62 ⟨By, 0, none⟩ fy0
        (try clear gcb); have gcb : w61.heap.size < w62.heap.size := World.block_lt_of_cell? w62 ⟨w61.heap.size, 0, none⟩ gc0
        (try clear gsb); have gsb : w61.heap.size + 1 < w62.heap.size := World.block_lt_of_cell? w62 ⟨w61.heap.size + 1, 0, none⟩ gs0
        clear hk62 hf62
        have fab62 := fab
        have fbb62 := fbb
        have fxb62 := fxb
        have fyb62 := fyb
        have gcb62 := gcb
        have gsb62 := gsb
        have fa0' : ((w62.alloc (.cells #[.int .i64 d1, .int .i64 d2] 24)).alloc (.cells #[.int .i64 d3, .int .i64 d4] 24)).cell? ⟨w.heap.size, 0, none⟩ = some (.int .i64 al) := (keepA _ (keepA _ fa0))
        have fa1' : ((w62.alloc (.cells #[.int .i64 d1, .int .i64 d2] 24)).alloc (.cells #[.int .i64 d3, .int .i64 d4] 24)).cell? ⟨w.heap.size, 1, none⟩ = some (.int .i64 ah) := (keepA _ (keepA _ fa1))
        have fb0' : ((w62.alloc (.cells #[.int .i64 d1, .int .i64 d2] 24)).alloc (.cells #[.int .i64 d3, .int .i64 d4] 24)).cell? ⟨w.heap.size + 1, 0, none⟩ = some (.int .i64 bl) := (keepA _ (keepA _ fb0))
        have fb1' : ((w62.alloc (.cells #[.int .i64 d1, .int .i64 d2] 24)).alloc (.cells #[.int .i64 d3, .int .i64 d4] 24)).cell? ⟨w.heap.size + 1, 1, none⟩ = some (.int .i64 bh) := (keepA _ (keepA _ fb1))
        have fx0' : ((w62.alloc (.cells #[.int .i64 d1, .int .i64 d2] 24)).alloc (.cells #[.int .i64 d3, .int .i64 d4] 24)).cell? ⟨Bx, 0, none⟩ = some (.int .i64 xl) := (keepA _ (keepA _ fx0))
        have fx1' : ((w62.alloc (.cells #[.int .i64 d1, .int .i64 d2] 24)).alloc (.cells #[.int .i64 d3, .int .i64 d4] 24)).cell? ⟨Bx, 1, none⟩ = some (.int .i64 xh) := (keepA _ (keepA _ fx1))
        have fy0' : ((w62.alloc (.cells #[.int .i64 d1, .int .i64 d2] 24)).alloc (.cells #[.int .i64 d3, .int .i64 d4] 24)).cell? ⟨By, 0, none⟩ = some (.int .i64 yl) := (keepA _ (keepA _ fy0))
        have fy1' : ((w62.alloc (.cells #[.int .i64 d1, .int .i64 d2] 24)).alloc (.cells #[.int .i64 d3, .int .i64 d4] 24)).cell? ⟨By, 1, none⟩ = some (.int .i64 yh) := (keepA _ (keepA _ fy1))
        have gc0' : ((w62.alloc (.cells #[.int .i64 d1, .int .i64 d2] 24)).alloc (.cells #[.int .i64 d3, .int .i64 d4] 24)).cell? ⟨w61.heap.size, 0, none⟩ = some (.int .i64 c1) := (keepA _ (keepA _ gc0))
        have gc1' : ((w62.alloc (.cells #[.int .i64 d1, .int .i64 d2] 24)).alloc (.cells #[.int .i64 d3, .int .i64 d4] 24)).cell? ⟨w61.heap.size, 1, none⟩ = some (.int .i64 c2) := (keepA _ (keepA _ gc1))
        have gs0' : ((w62.alloc (.cells #[.int .i64 d1, .int .i64 d2] 24)).alloc (.cells #[.int .i64 d3, .int .i64 d4] 24)).cell? ⟨w61.heap.size + 1, 0, none⟩ = some (.int .i64 c3) := (keepA _ (keepA _ gs0))
        have gs1' : ((w62.alloc (.cells #[.int .i64 d1, .int .i64 d2] 24)).alloc (.cells #[.int .i64 d3, .int .i64 d4] 24)).cell? ⟨w61.heap.size + 1, 1, none⟩ = some (.int .i64 c4) := (keepA _ (keepA _ gs1))
        have gd0 : ((w62.alloc (.cells #[.int .i64 d1, .int .i64 d2] 24)).alloc (.cells #[.int .i64 d3, .int .i64 d4] 24)).cell? ⟨w62.heap.size, 0, none⟩ = some (.int .i64 d1) := (keepA _ (show (w62.alloc (.cells #[.int .i64 d1, .int .i64 d2] 24)).cell? ⟨w62.heap.size, 0, none⟩ = some (.int .i64 d1) by simp [go_sem]))
        have gd1 : ((w62.alloc (.cells #[.int .i64 d1, .int .i64 d2] 24)).alloc (.cells #[.int .i64 d3, .int .i64 d4] 24)).cell? ⟨w62.heap.size, 1, none⟩ = some (.int .i64 d2) := (keepA _ (show (w62.alloc (.cells #[.int .i64 d1, .int .i64 d2] 24)).cell? ⟨w62.heap.size, 1, none⟩ = some (.int .i64 d2) by simp [go_sem]))
        have gt0 : ((w62.alloc (.cells #[.int .i64 d1, .int .i64 d2] 24)).alloc (.cells #[.int .i64 d3, .int .i64 d4] 24)).cell? ⟨w62.heap.size + 1, 0, none⟩ = some (.int .i64 d3) := (show ((w62.alloc (.cells #[.int .i64 d1, .int .i64 d2] 24)).alloc (.cells #[.int .i64 d3, .int .i64 d4] 24)).cell? ⟨w62.heap.size + 1, 0, none⟩ = some (.int .i64 d3) by simp [go_sem])
        have gt1 : ((w62.alloc (.cells #[.int .i64 d1, .int .i64 d2] 24)).alloc (.cells #[.int .i64 d3, .int .i64 d4] 24)).cell? ⟨w62.heap.size + 1, 1, none⟩ = some (.int .i64 d4) := (show ((w62.alloc (.cells #[.int .i64 d1, .int .i64 d2] 24)).alloc (.cells #[.int .i64 d3, .int .i64 d4] 24)).cell? ⟨w62.heap.size + 1, 1, none⟩ = some (.int .i64 d4) by simp [go_sem])
        go_wp2_with fail
        replace fa0 := fa0'; clear fa0'
        replace fa1 := fa1'; clear fa1'
        replace fb0 := fb0'; clear fb0'
        replace fb1 := fb1'; clear fb1'
        replace fx0 := fx0'; clear fx0'
        replace fx1 := fx1'; clear fx1'
        replace fy0 := fy0'; clear fy0'
        replace fy1 := fy1'; clear fy1'
        replace gc0 := gc0'; clear gc0'
        replace gc1 := gc1'; clear gc1'
        replace gs0 := gs0'; clear gs0'
        replace gs1 := gs1'; clear gs1'
        refine useF w (z1.out _) (by go_grown) ?_; rintro e w63 rfl hB63 hk63 hf63 hs63; clear hs63
        replace fa0 : w63.cell? ⟨w.heap.size, 0, none⟩ = some (.int .i64 al) := hk63 _ _ _ (fa0)
        replace fa1 : w63.cell? ⟨w.heap.size, 1, none⟩ = some (.int .i64 ah) := hk63 _ _ _ (fa1)
        replace fb0 : w63.cell? ⟨w.heap.size + 1, 0, none⟩ = some (.int .i64 bl) := hk63 _ _ _ (fb0)
        replace fb1 : w63.cell? ⟨w.heap.size + 1, 1, none⟩ = some (.int .i64 bh) := hk63 _ _ _ (fb1)
        replace fx0 : w63.cell? ⟨Bx, 0, none⟩ = some (.int .i64 xl) := hk63 _ _ _ (fx0)
        replace fx1 : w63.cell? ⟨Bx, 1, none⟩ = some (.int .i64 xh) := hk63 _ _ _ (fx1)
        replace fy0 : w63.cell? ⟨By, 0, none⟩ = some (.int .i64 yl) := hk63 _ _ _ (fy0)
        replace fy1 : w63.cell? ⟨By, 1, none⟩ = some (.int .i64 yh) := hk63 _ _ _ (fy1)
        replace gc0 : w63.cell? ⟨w61.heap.size, 0, none⟩ = some (.int .i64 c1) := hk63 _ _ _ (gc0)
        replace gc1 : w63.cell? ⟨w61.heap.size, 1, none⟩ = some (.int .i64 c2) := hk63 _ _ _ (gc1)
        replace gs0 : w63.cell? ⟨w61.heap.size + 1, 0, none⟩ = some (.int .i64 c3) := hk63 _ _ _ (gs0)
        replace gs1 : w63.cell? ⟨w61.heap.size + 1, 1, none⟩ = some (.int .i64 c4) := hk63 _ _ _ (gs1)
        replace gd0 : w63.cell? ⟨w62.heap.size, 0, none⟩ = some (.int .i64 d1) := hk63 _ _ _ (gd0)
        replace gd1 : w63.cell? ⟨w62.heap.size, 1, none⟩ = some (.int .i64 d2) := hk63 _ _ _ (gd1)
        replace gt0 : w63.cell? ⟨w62.heap.size + 1, 0, none⟩ = some (.int .i64 d3) := hk63 _ _ _ (gt0)
        replace gt1 : w63.cell? ⟨w62.heap.size + 1, 1, none⟩ = some (.int .i64 d4) := hk63 _ _ _ (gt1)
        (try clear fab); have fab : w.heap.size < w63.heap.size := World.block_lt_of_cell? w63 ⟨w.heap.size, 0, none⟩ fa0
        (try clear fbb); have fbb : w.heap.size + 1 < w63.heap.size := World.block_lt_of_cell? w63 ⟨w.heap.size + 1, 0, none⟩ fb0
        (try clear fxb); have fxb : Bx < w63.heap.size := World.block_lt_of_cell? w63 ⟨Bx, 0, none⟩ fx0
        (try clear fyb); have fyb : By < w63.heap.size := World.block_lt_of_cell? w63 ⟨By, 0, none⟩ fy0
        (try clear gcb); have gcb : w61.heap.size < w63.heap.size := World.block_lt_of_cell? w63 ⟨w61.heap.size, 0, none⟩ gc0
        (try clear gsb); have gsb : w61.heap.size + 1 < w63.heap.size := World.block_lt_of_cell? w63 ⟨w61.heap.size + 1, 0, none⟩ gs0
        (try clear gdb); have gdb : w62.heap.size < w63.heap.size := World.block_lt_of_cell? w63 ⟨w62.heap.size, 0, none⟩ gd0
        (try clear gtb); have gtb : w62.heap.size + 1 < w63.heap.size := World.block_lt_of_cell? w63 ⟨w62.heap.size + 1, 0, none⟩ gt0
        clear hk63 hf63
        go_wp2_with fail
        refine useF w (z2.out _) (by go_grown) ?_; rintro e w64 rfl hB64 hk64 hf64 hs64; clear hs64
        replace fa0 : w64.cell? ⟨w.heap.size, 0, none⟩ = some (.int .i64 al) := hk64 _ _ _ (fa0)
        replace fa1 : w64.cell? ⟨w.heap.size, 1, none⟩ = some (.int .i64 ah) := hk64 _ _ _ (fa1)
        replace fb0 : w64.cell? ⟨w.heap.size + 1, 0, none⟩ = some (.int .i64 bl) := hk64 _ _ _ (fb0)
        replace fb1 : w64.cell? ⟨w.heap.size + 1, 1, none⟩ = some (.int .i64 bh) := hk64 _ _ _ (fb1)
        replace fx0 : w64.cell? ⟨Bx, 0, none⟩ = some (.int .i64 xl) := hk64 _ _ _ (fx0)
        replace fx1 : w64.cell? ⟨Bx, 1, none⟩ = some (.int .i64 xh) := hk64 _ _ _ (fx1)
        replace fy0 : w64.cell? ⟨By, 0, none⟩ = some (.int .i64 yl) := hk64 _ _ _ (fy0)
        replace fy1 : w64.cell? ⟨By, 1, none⟩ = some (.int .i64 yh) := hk64 _ _ _ (fy1)
        replace gc0 : w64.cell? ⟨w61.heap.size, 0, none⟩ = some (.int .i64 c1) := hk64 _ _ _ (gc0)
        replace gc1 : w64.cell? ⟨w61.heap.size, 1, none⟩ = some (.int .i64 c2) := hk64 _ _ _ (gc1)
        replace gs0 : w64.cell? ⟨w61.heap.size + 1, 0, none⟩ = some (.int .i64 c3) := hk64 _ _ _ (gs0)
        replace gs1 : w64.cell? ⟨w61.heap.size + 1, 1, none⟩ = some (.int .i64 c4) := hk64 _ _ _ (gs1)
        replace gd0 : w64.cell? ⟨w62.heap.size, 0, none⟩ = some (.int .i64 d1) := hk64 _ _ _ (gd0)
        replace gd1 : w64.cell? ⟨w62.heap.size, 1, none⟩ = some (.int .i64 d2) := hk64 _ _ _ (gd1)
        replace gt0 : w64.cell? ⟨w62.heap.size + 1, 0, none⟩ = some (.int .i64 d3) := hk64 _ _ _ (gt0)
        replace gt1 : w64.cell? ⟨w62.heap.size + 1, 1, none⟩ = some (.int .i64 d4) := hk64 _ _ _ (gt1)
        (try clear fab); have fab : w.heap.size < w64.heap.size := World.block_lt_of_cell? w64 ⟨w.heap.size, 0, none⟩ fa0
        (try clear fbb); have fbb : w.heap.size + 1 < w64.heap.size := World.block_lt_of_cell? w64 ⟨w.heap.size + 1, 0, none⟩ fb0
        (try clear fxb); have fxb : Bx < w64.heap.size := World.block_lt_of_cell? w64 ⟨Bx, 0, none⟩ fx0
        (try clear fyb); have fyb : By < w64.heap.size := World.block_lt_of_cell? w64 ⟨By, 0, none⟩ fy0
        (try clear gcb); have gcb : w61.heap.size < w64.heap.size := World.block_lt_of_cell? w64 ⟨w61.heap.size, 0, none⟩ gc0
        (try clear gsb); have gsb : w61.heap.size + 1 < w64.heap.size := World.block_lt_of_cell? w64 ⟨w61.heap.size + 1, 0, none⟩ gs0
        (try clear gdb); have gdb : w62.heap.size < w64.heap.size := World.block_lt_of_cell? w64 ⟨w62.heap.size, 0, none⟩ gd0
        (try clear gtb); have gtb : w62.heap.size + 1 < w64.heap.size := World.block_lt_of_cell? w64 ⟨w62.heap.size + 1, 0, none⟩ gt0
        clear hk64 hf64
        go_wp2_with fail
        go_ret
        exact ⟨rfl, by go_grown⟩

end Go.Proofs.YtjleflfncijnpaaDoor
