/- Look, of package span: of a valid table and a valid span. -/
import Derived.Deep.DeepCutAuto
import Derived.Deep.CutBlock
import Derived.Test.YtjleflfncijnpaaRows
import Derived.Test.YtjleflfncijnpaaBase
import Derived.Test.YtjleflfncijnpaaFacts
import Derived.Test.YtjleflfncijnpaaTwo
import Derived.Deep.RegionHeld3
import Derived.Deep.RegionWith
import Derived.Deep.QuietTactic
import Derived.BigQuiet
import Derived.Test.YtjleflfncijnpaaW
import Derived.Test.YtjleflfncijnpaaAsks
import Derived.Test.YtjleflfncijnpaaOut
import Derived.Test.YtjleflfncijnpaaSeq
import Derived.Test.YtjleflfncijnpaaTwo
import Derived.Test.YtjleflfncijnpaaThree
import Derived.Test.YtjleflfncijnpaaQuo
import Derived.Test.YtjleflfncijnpaaTabM
import Derived.Test.YtjleflfncijnpaaLookM
import Derived.Test.YtjleflfncijnpaaLookA
set_option linter.unusedVariables false
set_option linter.unusedSimpArgs false
set_option maxHeartbeats 4000000
set_option maxRecDepth 100000
namespace Go.Proofs.Ytjleflfncijnpaa
open Go Go.RowKit
/-- The ends, and the points between them, so far. -/
def accL (l : List (Int × Int × Int)) (xl xh : Int) (s : Int × Int) : Nat → Int × Int
  | 0 => s
  | k + 1 => match l[k]? with
    | some p => if inS xl xh p.1 = true then (min (accL l xl xh s k).1 p.2.1, max (accL l xl xh s k).2 p.2.2) else accL l xl xh s k
    | none => accL l xl xh s k
theorem acc_step {l : List (Int × Int × Int)} {xl xh : Int} {s : Int × Int} {k : Nat} {p : Int × Int × Int} (hp : l[k]? = some p) :
    accL l xl xh s (k + 1) = if inS xl xh p.1 = true then (min (accL l xl xh s k).1 p.2.1, max (accL l xl xh s k).2 p.2.2) else accL l xl xh s k := by
  show (match l[k]? with | some p => if inS xl xh p.1 = true then (min (accL l xl xh s k).1 p.2.1, max (accL l xl xh s k).2 p.2.2) else accL l xl xh s k | none => accL l xl xh s k) = _
  rw [hp]
/-- The cells of the argument, of the result and of the span so far. -/
def LO (b Bo : Nat) (xl xh : Int) (s : Int × Int) : World → Prop := (fun w' => w'.cell? ⟨b, 0, none⟩ = some (.int .i64 xl) ∧ w'.cell? ⟨b, 1, none⟩ = some (.int .i64 xh) ∧ w'.cell? ⟨b + 1, 0, none⟩ = some (.int .i64 0) ∧ w'.cell? ⟨b + 1, 1, none⟩ = some (.int .i64 0) ∧ w'.frozen? ⟨b + 1, 0, none⟩ = false ∧ w'.frozen? ⟨b + 1, 1, none⟩ = false ∧ w'.cell? ⟨Bo, 0, none⟩ = some (.int .i64 s.1) ∧ w'.cell? ⟨Bo, 1, none⟩ = some (.int .i64 s.2) ∧ w'.frozen? ⟨Bo, 0, none⟩ = false ∧ w'.frozen? ⟨Bo, 1, none⟩ = false)
theorem look_go (l : List (Int × Int × Int)) (xl xh f1 f2 g1 g2 r1 r2 : Int) (p : Int × Int × Int) (hpq : Hid (p = (r1, r2, 0))) (B o cap : Nat) (w : World) (ht : Tab B o l w) (hn : 1 ≤ l.length ∧ l.length ≤ 64) (hx : (-9223372036854775808 ≤ xl ∧ xl ≤ 9223372036854775807) ∧ (-9223372036854775808 ≤ xh ∧ xh ≤ 9223372036854775807))
    (hp1 : Hid (∀ p ∈ l, (-9223372036854775808 ≤ p.1 ∧ p.1 ≤ 9223372036854775807) ∧ (-9223372036854775808 ≤ p.2.1 ∧ p.2.1 ≤ 9223372036854775807) ∧ (-9223372036854775808 ≤ p.2.2 ∧ p.2.2 ≤ 9223372036854775807))) (hr : Hid (accL l xl xh (min f1 g1, max f2 g2) l.length = (r1, r2)))
    (k1 : Hid (∀ w : World, Tab B o l w → Calls Try.prog 65 #[.slice (some ⟨B, o, none⟩) l.length cap] w fun e w' => e = .returned (.int .i64 0) ∧ Below w.heap.size w w'))
    (k2 : Hid (∀ w : World, Calls Try.prog 18 #[.agg #[.int .i64 xl, .int .i64 xh]] w fun e w' => e = .returned (.int .i64 0) ∧ Below w.heap.size w w'))
    (s1 : Hid (∀ w : World, Tab B o l w → Calls Try.prog 101 #[.slice (some ⟨B, o, none⟩) l.length cap, .int .i64 xl] w fun e w' => e = .returned (.agg #[.int .i64 f1, .int .i64 f2]) ∧ Below w.heap.size w w'))
    (s2 : Hid (∀ w : World, Tab B o l w → Calls Try.prog 101 #[.slice (some ⟨B, o, none⟩) l.length cap, .int .i64 xh] w fun e w' => e = .returned (.agg #[.int .i64 g1, .int .i64 g2]) ∧ Below w.heap.size w w')) :
    Calls Try.prog 63 #[.slice (some ⟨B, o, none⟩) l.length cap, .agg #[.int .i64 xl, .int .i64 xh]] w fun e w' => e = .returned (.tuple #[.agg #[.int .i64 p.1, .int .i64 p.2.1], .int .i64 p.2.2]) ∧ Below w.heap.size w w' := by
  have hBw : B < w.heap.size := Tab.lt ht (List.getElem?_eq_getElem (show 0 < l.length by omega))
  have hxx := hid hx
  clear hx
  go_enter Try.func63, Try.ntmps63
  go_wp2_with fail
  have ht0 := Tab.alloc (.cells #[.int .i64 0, .int .i64 0] 24) (Tab.alloc (.cells #[.int .i64 xl, .int .i64 xh] 24) ht)
  refine useF w (k1.out _ ht0) (by go_grown) ?_; rintro e w1 rfl hB1 hk1 hf1 hs1
  replace ht := Tab.keep ht0 hk1
  have x0 := hk1 w.heap.size 0 (.int .i64 xl) (by simp [go_sem])
  have x1 := hk1 w.heap.size 1 (.int .i64 xh) (by simp [go_sem])
  have z0 := hk1 (w.heap.size + 1) 0 (.int .i64 0) (by simp [go_sem])
  have z1 := hk1 (w.heap.size + 1) 1 (.int .i64 0) (by simp [go_sem])
  have zf0 := hf1 (w.heap.size + 1) 0 (.int .i64 0) (by simp [go_sem]) (by simp [go_sem])
  have zf1 := hf1 (w.heap.size + 1) 1 (.int .i64 0) (by simp [go_sem]) (by simp [go_sem])
  clear hk1 hf1 ht0
  go_wp2_with fail
  refine useF w (k2.out _) (by go_grown) ?_; rintro e w2 rfl hB2 hk2 hf2 hs2
  replace ht := Tab.keep ht hk2
  replace x0 := hk2 _ _ _ x0; replace x1 := hk2 _ _ _ x1
  replace zf0 := hf2 _ _ _ z0 zf0; replace zf1 := hf2 _ _ _ z1 zf1
  replace z0 := hk2 _ _ _ z0; replace z1 := hk2 _ _ _ z1
  clear hk2 hf2
  have hxb : w.heap.size + 1 < w2.heap.size := World.block_lt_of_cell? _ _ z0
  have hBb : B < w2.heap.size := by omega
  go_wp2_with fail
  go_cut [6, 7] (fun p q wx => ∃ Bf Bg : Nat, p = .pointer (some ⟨Bf, 0, none⟩) ∧ q = .pointer (some ⟨Bg, 0, none⟩) ∧ Tab B o l wx ∧ (fun w' => w'.cell? ⟨w.heap.size, 0, none⟩ = some (.int .i64 xl) ∧ w'.cell? ⟨w.heap.size, 1, none⟩ = some (.int .i64 xh) ∧ w'.cell? ⟨w.heap.size + 1, 0, none⟩ = some (.int .i64 0) ∧ w'.cell? ⟨w.heap.size + 1, 1, none⟩ = some (.int .i64 0) ∧ w'.frozen? ⟨w.heap.size + 1, 0, none⟩ = false ∧ w'.frozen? ⟨w.heap.size + 1, 1, none⟩ = false ∧ w'.cell? ⟨Bf, 0, none⟩ = some (.int .i64 f1) ∧ w'.cell? ⟨Bf, 1, none⟩ = some (.int .i64 f2) ∧ w'.cell? ⟨Bg, 0, none⟩ = some (.int .i64 g1) ∧ w'.cell? ⟨Bg, 1, none⟩ = some (.int .i64 g2)) wx ∧ Below w.heap.size w wx)
  case first => as_aux_lemma =>
    refine wp_region_held_drew (S := (fun w' => w'.cell? ⟨w.heap.size, 0, none⟩ = some (.int .i64 xl) ∧ w'.cell? ⟨w.heap.size, 1, none⟩ = some (.int .i64 xh) ∧ w'.cell? ⟨w.heap.size + 1, 0, none⟩ = some (.int .i64 0) ∧ w'.cell? ⟨w.heap.size + 1, 1, none⟩ = some (.int .i64 0) ∧ w'.frozen? ⟨w.heap.size + 1, 0, none⟩ = false ∧ w'.frozen? ⟨w.heap.size + 1, 1, none⟩ = false)) (by kernel_rfl) (by (try dsimp only); simp only [World.cell?_drew, World.frozen?_drew]; exact ⟨x0, x1, z0, z1, zf0, zf1⟩) (fun hHeld => ?_)
    have hBq0 : Below w.heap.size w w2.drew := by go_grown
    (try dsimp only at hHeld)
    clear x0 x1 z0 z1 zf0 zf1
    replace ht := Tab.drew ht
    generalize w2.drew = wq0 at *
    have hzq0 : w.heap.size ≤ wq0.heap.size := hBq0.size
    (refine wpAnyH_take (i := 0) (oi := ⟨some 20, _, _, _, _, none⟩) (v := ?_) rfl (by kernel_rfl) (by kernel_rfl) (by kernel_rfl) (fun _ _ _ h => h) (Or.inl ⟨by rfl, ?_⟩) hHeld ?_; rotate_left; (· (intro w9 hSw; (try dsimp only at hSw); go_simp; (try with_reducible rfl))))
    (try simp only [Act.put, List.setIfInBounds_toArray, List.set_cons_zero, List.set_cons_succ])
    (refine wpAnyH_take (i := 1) (oi := ⟨some 21, _, _, _, _, none⟩) (v := ?_) rfl (by kernel_rfl) (by kernel_rfl) (by kernel_rfl) (fun _ _ _ h => h) (Or.inl ⟨by rfl, ?_⟩) hHeld ?_; rotate_left; (· (intro w9 hSw; (try dsimp only at hSw); go_simp; (try with_reducible rfl))))
    (try simp only [Act.put, List.setIfInBounds_toArray, List.set_cons_zero, List.set_cons_succ])
    (refine wpAnyH_take (i := 2) (oi := ⟨some 22, _, _, _, _, none⟩) (v := ?_) rfl (by kernel_rfl) (by kernel_rfl) (by kernel_rfl) (fun _ _ _ h => h) (Or.inl ⟨by rfl, ?_⟩) hHeld ?_; rotate_left; (· (intro w9 hSw; (try dsimp only at hSw); go_simp; (try with_reducible rfl))))
    (try simp only [Act.put, List.setIfInBounds_toArray, List.set_cons_zero, List.set_cons_succ])
    (refine wpAnyH_take (i := 4) (oi := ⟨some 24, _, _, _, _, none⟩) (v := ?_) rfl (by kernel_rfl) (by kernel_rfl) (by kernel_rfl) (fun _ _ _ h => h) (Or.inl ⟨by rfl, ?_⟩) hHeld ?_; rotate_left; (· (intro w9 hSw; (try dsimp only at hSw); go_simp; (try with_reducible rfl))))
    (try simp only [Act.put, List.setIfInBounds_toArray, List.set_cons_zero, List.set_cons_succ])
    (refine wpAnyH_take (i := 5) (oi := ⟨some 25, _, _, _, _, none⟩) (v := ?_) rfl (by kernel_rfl) (by kernel_rfl) (by kernel_rfl) (fun _ _ _ h => h) (Or.inl ⟨by rfl, ?_⟩) hHeld ?_; rotate_left; (· (intro w9 hSw; (try dsimp only at hSw); go_simp; (try with_reducible rfl))))
    (try simp only [Act.put, List.setIfInBounds_toArray, List.set_cons_zero, List.set_cons_succ])
    (refine wpAnyH_take (i := 6) (oi := ⟨some 26, _, _, _, _, none⟩) (v := ?_) rfl (by kernel_rfl) (by kernel_rfl) (by kernel_rfl) (fun _ _ _ h => h) (Or.inl ⟨by rfl, ?_⟩) hHeld ?_; rotate_left; (· (intro w9 hSw; (try dsimp only at hSw); go_simp; (try with_reducible rfl))))
    (try simp only [Act.put, List.setIfInBounds_toArray, List.set_cons_zero, List.set_cons_succ])
    refine wpAnyH_ready (rs := [3, 8, 9]) (by kernel_rfl) (by simp) ?_
    refine AllReadyH.cons (o := ⟨some 23, _, _, _, _, none⟩) rfl (fun K hK => ?_) (AllReadyH.cons (o := ⟨some 6, _, _, _, _, none⟩) rfl (fun K hK => ?_) (AllReadyH.cons (o := ⟨some 7, _, _, _, _, none⟩) rfl (fun K hK => ?_) (AllReadyH.nil)))
    ·
     go_simp
     (go_at_call 101; refine useF w ((by first | (with_reducible exact s1.out _ ht) | (with_reducible exact s2.out _ ht))) (by go_grown) ?_; rintro e wq1 rfl hBq1 hkq1 hfq1 hsq1)
     have hOld := hHeld; clear hHeld; refine hK.out _ _ ?_ (fun hHeld => ?_)
     · exact ⟨hkq1 _ _ _ (hOld.1), hkq1 _ _ _ (hOld.2.1), hkq1 _ _ _ (hOld.2.2.1), hkq1 _ _ _ (hOld.2.2.2.1), hfq1 _ _ _ (hOld.2.2.1) (hOld.2.2.2.2.1), hfq1 _ _ _ (hOld.2.2.2.1) (hOld.2.2.2.2.2)⟩
     clear hK K hOld
     replace ht := Tab.keep ht hkq1
     clear hkq1 hfq1 hsq1
     have hzq1 : w.heap.size ≤ wq1.heap.size := hBq1.size
     (try simp only [Act.put, List.setIfInBounds_toArray, List.set_cons_zero, List.set_cons_succ])
     refine wpAnyH_ready (rs := [7, 8, 9]) (by kernel_rfl) (by simp) ?_
     refine AllReadyH.cons (o := ⟨some 27, _, _, _, _, none⟩) rfl (fun K hK => ?_) (AllReadyH.cons (o := ⟨some 6, _, _, _, _, none⟩) rfl (fun K hK => ?_) (AllReadyH.cons (o := ⟨some 7, _, _, _, _, none⟩) rfl (fun K hK => ?_) (AllReadyH.nil)))
     ·
      go_simp
      (go_at_call 101; refine useF w ((by first | (with_reducible exact s1.out _ ht) | (with_reducible exact s2.out _ ht))) (by go_grown) ?_; rintro e wq2 rfl hBq2 hkq2 hfq2 hsq2)
      have hOld := hHeld; clear hHeld; refine hK.out _ _ ?_ (fun hHeld => ?_)
      · exact ⟨hkq2 _ _ _ (hOld.1), hkq2 _ _ _ (hOld.2.1), hkq2 _ _ _ (hOld.2.2.1), hkq2 _ _ _ (hOld.2.2.2.1), hfq2 _ _ _ (hOld.2.2.1) (hOld.2.2.2.2.1), hfq2 _ _ _ (hOld.2.2.2.1) (hOld.2.2.2.2.2)⟩
      clear hK K hOld
      replace ht := Tab.keep ht hkq2
      clear hkq2 hfq2 hsq2
      have hzq2 : w.heap.size ≤ wq2.heap.size := hBq2.size
      (try simp only [Act.put, List.setIfInBounds_toArray, List.set_cons_zero, List.set_cons_succ])
      refine wpAnyH_ready (rs := [8, 9]) (by kernel_rfl) (by simp) ?_
      refine AllReadyH.cons (o := ⟨some 6, _, _, _, _, none⟩) rfl (fun K hK => ?_) (AllReadyH.cons (o := ⟨some 7, _, _, _, _, none⟩) rfl (fun K hK => ?_) (AllReadyH.nil))
      ·
       (try dsimp only at hHeld)
       have hBq3 : Below w.heap.size w (wq2.alloc (Obj.cells #[.int .i64 0, .int .i64 0] 24)) := by go_grown
       have nn80 : (wq2.alloc (Obj.cells #[.int .i64 0, .int .i64 0] 24)).cell? ⟨wq2.heap.size, 0, none⟩ = some (.int .i64 0) := by simp [go_sem]
       have nn8f0 : (wq2.alloc (Obj.cells #[.int .i64 0, .int .i64 0] 24)).frozen? ⟨wq2.heap.size, 0, none⟩ = false := by simp [go_sem]
       have nn81 : (wq2.alloc (Obj.cells #[.int .i64 0, .int .i64 0] 24)).cell? ⟨wq2.heap.size, 1, none⟩ = some (.int .i64 0) := by simp [go_sem]
       have nn8f1 : (wq2.alloc (Obj.cells #[.int .i64 0, .int .i64 0] 24)).frozen? ⟨wq2.heap.size, 1, none⟩ = false := by simp [go_sem]
       have nn8l0 : w.heap.size < wq2.heap.size := World.block_lt_of_cell? _ ⟨w.heap.size, 0, none⟩ (hHeld.1)
       have nn8l1 : w.heap.size + 1 < wq2.heap.size := World.block_lt_of_cell? _ ⟨w.heap.size + 1, 0, none⟩ (hHeld.2.2.1)
       have hOld := hHeld; clear hHeld; go_simp; refine hK.out _ _ ?_ (fun hHeld => ?_)
       · exact ⟨keepA _ (hOld.1), keepA _ (hOld.2.1), keepA _ (hOld.2.2.1), keepA _ (hOld.2.2.2.1), keepAF _ (hOld.2.2.1) (hOld.2.2.2.2.1), keepAF _ (hOld.2.2.2.1) (hOld.2.2.2.2.2)⟩
       clear hK K hOld
       (try dsimp only at hHeld)
       replace ht := Tab.alloc (Obj.cells #[.int .i64 0, .int .i64 0] 24) ht
       generalize (wq2.alloc (Obj.cells #[.int .i64 0, .int .i64 0] 24)) = wq3 at *
       have hzq3 : w.heap.size ≤ wq3.heap.size := hBq3.size
       (try simp only [Act.put, List.setIfInBounds_toArray, List.set_cons_zero, List.set_cons_succ])
       refine wpAnyH_ready (rs := [9]) (by kernel_rfl) (by simp) ?_
       refine AllReadyH.cons (o := ⟨some 7, _, _, _, _, none⟩) rfl (fun K hK => ?_) (AllReadyH.nil)
       (try dsimp only at hHeld)
       have hBq4 : Below w.heap.size w (wq3.alloc (Obj.cells #[.int .i64 0, .int .i64 0] 24)) := by go_grown
       have nn90 : (wq3.alloc (Obj.cells #[.int .i64 0, .int .i64 0] 24)).cell? ⟨wq3.heap.size, 0, none⟩ = some (.int .i64 0) := by simp [go_sem]
       have nn9f0 : (wq3.alloc (Obj.cells #[.int .i64 0, .int .i64 0] 24)).frozen? ⟨wq3.heap.size, 0, none⟩ = false := by simp [go_sem]
       have nn91 : (wq3.alloc (Obj.cells #[.int .i64 0, .int .i64 0] 24)).cell? ⟨wq3.heap.size, 1, none⟩ = some (.int .i64 0) := by simp [go_sem]
       have nn9f1 : (wq3.alloc (Obj.cells #[.int .i64 0, .int .i64 0] 24)).frozen? ⟨wq3.heap.size, 1, none⟩ = false := by simp [go_sem]
       have nn9l0 : w.heap.size < wq3.heap.size := World.block_lt_of_cell? _ ⟨w.heap.size, 0, none⟩ (hHeld.1)
       have nn9l1 : w.heap.size + 1 < wq3.heap.size := World.block_lt_of_cell? _ ⟨w.heap.size + 1, 0, none⟩ (hHeld.2.2.1)
       have nn9m8 : wq2.heap.size < wq3.heap.size := World.block_lt_of_cell? _ ⟨wq2.heap.size, 0, none⟩ nn80
       replace nn8f0 := keepAF (Obj.cells #[.int .i64 0, .int .i64 0] 24) nn80 nn8f0
       replace nn80 := keepA (Obj.cells #[.int .i64 0, .int .i64 0] 24) nn80
       replace nn8f1 := keepAF (Obj.cells #[.int .i64 0, .int .i64 0] 24) nn81 nn8f1
       replace nn81 := keepA (Obj.cells #[.int .i64 0, .int .i64 0] 24) nn81
       have hOld := hHeld; clear hHeld; go_simp; refine hK.out _ _ ?_ (fun hHeld => ?_)
       · exact ⟨keepA _ (hOld.1), keepA _ (hOld.2.1), keepA _ (hOld.2.2.1), keepA _ (hOld.2.2.2.1), keepAF _ (hOld.2.2.1) (hOld.2.2.2.2.1), keepAF _ (hOld.2.2.2.1) (hOld.2.2.2.2.2)⟩
       clear hK K hOld
       (try dsimp only at hHeld)
       replace ht := Tab.alloc (Obj.cells #[.int .i64 0, .int .i64 0] 24) ht
       generalize (wq3.alloc (Obj.cells #[.int .i64 0, .int .i64 0] 24)) = wq4 at *
       have hzq4 : w.heap.size ≤ wq4.heap.size := hBq4.size
       (try simp only [Act.put, List.setIfInBounds_toArray, List.set_cons_zero, List.set_cons_succ])
       refine wpAnyH_ready (rs := [10]) (by kernel_rfl) (by simp) ?_
       refine AllReadyH.cons (o := ⟨none, _, _, _, _, none⟩) rfl (fun K hK => ?_) (AllReadyH.nil)
       (try dsimp only at hHeld)
       have hBq5 : Below w.heap.size w ((wq4.setCell ⟨wq2.heap.size, 0, none⟩ (.int .i64 f1)).setCell ⟨wq2.heap.size, 1, none⟩ (.int .i64 f2)) := by go_grown
       have hOld := hHeld; clear hHeld; go_simp; refine hK.out _ _ ?_ (fun hHeld => ?_)
       · exact ⟨two_other (hOld.1) (Nat.ne_of_gt nn8l0), two_other (hOld.2.1) (Nat.ne_of_gt nn8l0), two_other (hOld.2.2.1) (Nat.ne_of_gt nn8l1), two_other (hOld.2.2.2.1) (Nat.ne_of_gt nn8l1), two_fz (hOld.2.2.2.2.1), two_fz (hOld.2.2.2.2.2)⟩
       clear hK K hOld
       (try dsimp only at hHeld)
       replace nn8f0 := two_fz (b := wq2.heap.size) (x := .int .i64 f1) (y := .int .i64 f2) nn8f0
       replace nn80 := two_0 (x := .int .i64 f1) (y := .int .i64 f2) nn80
       replace nn8f1 := two_fz (b := wq2.heap.size) (x := .int .i64 f1) (y := .int .i64 f2) nn8f1
       replace nn81 := two_1 (x := .int .i64 f1) (y := .int .i64 f2) nn81
       replace nn9f0 := two_fz (b := wq2.heap.size) (x := .int .i64 f1) (y := .int .i64 f2) nn9f0
       replace nn90 := two_other (b := wq2.heap.size) (x := .int .i64 f1) (y := .int .i64 f2) nn90 (by omega)
       replace nn9f1 := two_fz (b := wq2.heap.size) (x := .int .i64 f1) (y := .int .i64 f2) nn9f1
       replace nn91 := two_other (b := wq2.heap.size) (x := .int .i64 f1) (y := .int .i64 f2) nn91 (by omega)
       replace ht := Tab.two (b := wq2.heap.size) (x := .int .i64 f1) (y := .int .i64 f2) ht (by omega)
       generalize ((wq4.setCell ⟨wq2.heap.size, 0, none⟩ (.int .i64 f1)).setCell ⟨wq2.heap.size, 1, none⟩ (.int .i64 f2)) = wq5 at *
       have hzq5 : w.heap.size ≤ wq5.heap.size := hBq5.size
       (try simp only [Act.put, List.setIfInBounds_toArray, List.set_cons_zero, List.set_cons_succ])
       refine wpAnyH_ready (rs := [11]) (by kernel_rfl) (by simp) ?_
       refine AllReadyH.cons (o := ⟨none, _, _, _, _, none⟩) rfl (fun K hK => ?_) (AllReadyH.nil)
       (try dsimp only at hHeld)
       have hBq6 : Below w.heap.size w ((wq5.setCell ⟨wq3.heap.size, 0, none⟩ (.int .i64 g1)).setCell ⟨wq3.heap.size, 1, none⟩ (.int .i64 g2)) := by go_grown
       have hOld := hHeld; clear hHeld; go_simp; refine hK.out _ _ ?_ (fun hHeld => ?_)
       · exact ⟨two_other (hOld.1) (Nat.ne_of_gt nn9l0), two_other (hOld.2.1) (Nat.ne_of_gt nn9l0), two_other (hOld.2.2.1) (Nat.ne_of_gt nn9l1), two_other (hOld.2.2.2.1) (Nat.ne_of_gt nn9l1), two_fz (hOld.2.2.2.2.1), two_fz (hOld.2.2.2.2.2)⟩
       clear hK K hOld
       (try dsimp only at hHeld)
       replace nn8f0 := two_fz (b := wq3.heap.size) (x := .int .i64 g1) (y := .int .i64 g2) nn8f0
       replace nn80 := two_other (b := wq3.heap.size) (x := .int .i64 g1) (y := .int .i64 g2) nn80 (by omega)
       replace nn8f1 := two_fz (b := wq3.heap.size) (x := .int .i64 g1) (y := .int .i64 g2) nn8f1
       replace nn81 := two_other (b := wq3.heap.size) (x := .int .i64 g1) (y := .int .i64 g2) nn81 (by omega)
       replace nn9f0 := two_fz (b := wq3.heap.size) (x := .int .i64 g1) (y := .int .i64 g2) nn9f0
       replace nn90 := two_0 (x := .int .i64 g1) (y := .int .i64 g2) nn90
       replace nn9f1 := two_fz (b := wq3.heap.size) (x := .int .i64 g1) (y := .int .i64 g2) nn9f1
       replace nn91 := two_1 (x := .int .i64 g1) (y := .int .i64 g2) nn91
       replace ht := Tab.two (b := wq3.heap.size) (x := .int .i64 g1) (y := .int .i64 g2) ht (by omega)
       generalize ((wq5.setCell ⟨wq3.heap.size, 0, none⟩ (.int .i64 g1)).setCell ⟨wq3.heap.size, 1, none⟩ (.int .i64 g2)) = wq6 at *
       have hzq6 : w.heap.size ≤ wq6.heap.size := hBq6.size
       (try simp only [Act.put, List.setIfInBounds_toArray, List.set_cons_zero, List.set_cons_succ])
       refine wpAnyH_done (by kernel_rfl) ?_ _
       go_wp2_with fail
       go_meet
       obtain ⟨x0, x1, z0, z1, zf0, zf1⟩ := hHeld
       exact ⟨_, _, rfl, rfl, ht, ⟨x0, x1, z0, z1, zf0, zf1, nn80, nn81, nn90, nn91⟩, by assumption⟩
      ·
       (try dsimp only at hHeld)
       have hBq3 : Below w.heap.size w (wq2.alloc (Obj.cells #[.int .i64 0, .int .i64 0] 24)) := by go_grown
       have nn90 : (wq2.alloc (Obj.cells #[.int .i64 0, .int .i64 0] 24)).cell? ⟨wq2.heap.size, 0, none⟩ = some (.int .i64 0) := by simp [go_sem]
       have nn9f0 : (wq2.alloc (Obj.cells #[.int .i64 0, .int .i64 0] 24)).frozen? ⟨wq2.heap.size, 0, none⟩ = false := by simp [go_sem]
       have nn91 : (wq2.alloc (Obj.cells #[.int .i64 0, .int .i64 0] 24)).cell? ⟨wq2.heap.size, 1, none⟩ = some (.int .i64 0) := by simp [go_sem]
       have nn9f1 : (wq2.alloc (Obj.cells #[.int .i64 0, .int .i64 0] 24)).frozen? ⟨wq2.heap.size, 1, none⟩ = false := by simp [go_sem]
       have nn9l0 : w.heap.size < wq2.heap.size := World.block_lt_of_cell? _ ⟨w.heap.size, 0, none⟩ (hHeld.1)
       have nn9l1 : w.heap.size + 1 < wq2.heap.size := World.block_lt_of_cell? _ ⟨w.heap.size + 1, 0, none⟩ (hHeld.2.2.1)
       have hOld := hHeld; clear hHeld; go_simp; refine hK.out _ _ ?_ (fun hHeld => ?_)
       · exact ⟨keepA _ (hOld.1), keepA _ (hOld.2.1), keepA _ (hOld.2.2.1), keepA _ (hOld.2.2.2.1), keepAF _ (hOld.2.2.1) (hOld.2.2.2.2.1), keepAF _ (hOld.2.2.2.1) (hOld.2.2.2.2.2)⟩
       clear hK K hOld
       (try dsimp only at hHeld)
       replace ht := Tab.alloc (Obj.cells #[.int .i64 0, .int .i64 0] 24) ht
       generalize (wq2.alloc (Obj.cells #[.int .i64 0, .int .i64 0] 24)) = wq3 at *
       have hzq3 : w.heap.size ≤ wq3.heap.size := hBq3.size
       (try simp only [Act.put, List.setIfInBounds_toArray, List.set_cons_zero, List.set_cons_succ])
       refine wpAnyH_ready (rs := [8]) (by kernel_rfl) (by simp) ?_
       refine AllReadyH.cons (o := ⟨some 6, _, _, _, _, none⟩) rfl (fun K hK => ?_) (AllReadyH.nil)
       (try dsimp only at hHeld)
       have hBq4 : Below w.heap.size w (wq3.alloc (Obj.cells #[.int .i64 0, .int .i64 0] 24)) := by go_grown
       have nn80 : (wq3.alloc (Obj.cells #[.int .i64 0, .int .i64 0] 24)).cell? ⟨wq3.heap.size, 0, none⟩ = some (.int .i64 0) := by simp [go_sem]
       have nn8f0 : (wq3.alloc (Obj.cells #[.int .i64 0, .int .i64 0] 24)).frozen? ⟨wq3.heap.size, 0, none⟩ = false := by simp [go_sem]
       have nn81 : (wq3.alloc (Obj.cells #[.int .i64 0, .int .i64 0] 24)).cell? ⟨wq3.heap.size, 1, none⟩ = some (.int .i64 0) := by simp [go_sem]
       have nn8f1 : (wq3.alloc (Obj.cells #[.int .i64 0, .int .i64 0] 24)).frozen? ⟨wq3.heap.size, 1, none⟩ = false := by simp [go_sem]
       have nn8l0 : w.heap.size < wq3.heap.size := World.block_lt_of_cell? _ ⟨w.heap.size, 0, none⟩ (hHeld.1)
       have nn8l1 : w.heap.size + 1 < wq3.heap.size := World.block_lt_of_cell? _ ⟨w.heap.size + 1, 0, none⟩ (hHeld.2.2.1)
       have nn8m9 : wq2.heap.size < wq3.heap.size := World.block_lt_of_cell? _ ⟨wq2.heap.size, 0, none⟩ nn90
       replace nn9f0 := keepAF (Obj.cells #[.int .i64 0, .int .i64 0] 24) nn90 nn9f0
       replace nn90 := keepA (Obj.cells #[.int .i64 0, .int .i64 0] 24) nn90
       replace nn9f1 := keepAF (Obj.cells #[.int .i64 0, .int .i64 0] 24) nn91 nn9f1
       replace nn91 := keepA (Obj.cells #[.int .i64 0, .int .i64 0] 24) nn91
       have hOld := hHeld; clear hHeld; go_simp; refine hK.out _ _ ?_ (fun hHeld => ?_)
       · exact ⟨keepA _ (hOld.1), keepA _ (hOld.2.1), keepA _ (hOld.2.2.1), keepA _ (hOld.2.2.2.1), keepAF _ (hOld.2.2.1) (hOld.2.2.2.2.1), keepAF _ (hOld.2.2.2.1) (hOld.2.2.2.2.2)⟩
       clear hK K hOld
       (try dsimp only at hHeld)
       replace ht := Tab.alloc (Obj.cells #[.int .i64 0, .int .i64 0] 24) ht
       generalize (wq3.alloc (Obj.cells #[.int .i64 0, .int .i64 0] 24)) = wq4 at *
       have hzq4 : w.heap.size ≤ wq4.heap.size := hBq4.size
       (try simp only [Act.put, List.setIfInBounds_toArray, List.set_cons_zero, List.set_cons_succ])
       refine wpAnyH_ready (rs := [10]) (by kernel_rfl) (by simp) ?_
       refine AllReadyH.cons (o := ⟨none, _, _, _, _, none⟩) rfl (fun K hK => ?_) (AllReadyH.nil)
       (try dsimp only at hHeld)
       have hBq5 : Below w.heap.size w ((wq4.setCell ⟨wq3.heap.size, 0, none⟩ (.int .i64 f1)).setCell ⟨wq3.heap.size, 1, none⟩ (.int .i64 f2)) := by go_grown
       have hOld := hHeld; clear hHeld; go_simp; refine hK.out _ _ ?_ (fun hHeld => ?_)
       · exact ⟨two_other (hOld.1) (Nat.ne_of_gt nn8l0), two_other (hOld.2.1) (Nat.ne_of_gt nn8l0), two_other (hOld.2.2.1) (Nat.ne_of_gt nn8l1), two_other (hOld.2.2.2.1) (Nat.ne_of_gt nn8l1), two_fz (hOld.2.2.2.2.1), two_fz (hOld.2.2.2.2.2)⟩
       clear hK K hOld
       (try dsimp only at hHeld)
       replace nn9f0 := two_fz (b := wq3.heap.size) (x := .int .i64 f1) (y := .int .i64 f2) nn9f0
       replace nn90 := two_other (b := wq3.heap.size) (x := .int .i64 f1) (y := .int .i64 f2) nn90 (by omega)
       replace nn9f1 := two_fz (b := wq3.heap.size) (x := .int .i64 f1) (y := .int .i64 f2) nn9f1
       replace nn91 := two_other (b := wq3.heap.size) (x := .int .i64 f1) (y := .int .i64 f2) nn91 (by omega)
       replace nn8f0 := two_fz (b := wq3.heap.size) (x := .int .i64 f1) (y := .int .i64 f2) nn8f0
       replace nn80 := two_0 (x := .int .i64 f1) (y := .int .i64 f2) nn80
       replace nn8f1 := two_fz (b := wq3.heap.size) (x := .int .i64 f1) (y := .int .i64 f2) nn8f1
       replace nn81 := two_1 (x := .int .i64 f1) (y := .int .i64 f2) nn81
       replace ht := Tab.two (b := wq3.heap.size) (x := .int .i64 f1) (y := .int .i64 f2) ht (by omega)
       generalize ((wq4.setCell ⟨wq3.heap.size, 0, none⟩ (.int .i64 f1)).setCell ⟨wq3.heap.size, 1, none⟩ (.int .i64 f2)) = wq5 at *
       have hzq5 : w.heap.size ≤ wq5.heap.size := hBq5.size
       (try simp only [Act.put, List.setIfInBounds_toArray, List.set_cons_zero, List.set_cons_succ])
       refine wpAnyH_ready (rs := [11]) (by kernel_rfl) (by simp) ?_
       refine AllReadyH.cons (o := ⟨none, _, _, _, _, none⟩) rfl (fun K hK => ?_) (AllReadyH.nil)
       (try dsimp only at hHeld)
       have hBq6 : Below w.heap.size w ((wq5.setCell ⟨wq2.heap.size, 0, none⟩ (.int .i64 g1)).setCell ⟨wq2.heap.size, 1, none⟩ (.int .i64 g2)) := by go_grown
       have hOld := hHeld; clear hHeld; go_simp; refine hK.out _ _ ?_ (fun hHeld => ?_)
       · exact ⟨two_other (hOld.1) (Nat.ne_of_gt nn9l0), two_other (hOld.2.1) (Nat.ne_of_gt nn9l0), two_other (hOld.2.2.1) (Nat.ne_of_gt nn9l1), two_other (hOld.2.2.2.1) (Nat.ne_of_gt nn9l1), two_fz (hOld.2.2.2.2.1), two_fz (hOld.2.2.2.2.2)⟩
       clear hK K hOld
       (try dsimp only at hHeld)
       replace nn9f0 := two_fz (b := wq2.heap.size) (x := .int .i64 g1) (y := .int .i64 g2) nn9f0
       replace nn90 := two_0 (x := .int .i64 g1) (y := .int .i64 g2) nn90
       replace nn9f1 := two_fz (b := wq2.heap.size) (x := .int .i64 g1) (y := .int .i64 g2) nn9f1
       replace nn91 := two_1 (x := .int .i64 g1) (y := .int .i64 g2) nn91
       replace nn8f0 := two_fz (b := wq2.heap.size) (x := .int .i64 g1) (y := .int .i64 g2) nn8f0
       replace nn80 := two_other (b := wq2.heap.size) (x := .int .i64 g1) (y := .int .i64 g2) nn80 (by omega)
       replace nn8f1 := two_fz (b := wq2.heap.size) (x := .int .i64 g1) (y := .int .i64 g2) nn8f1
       replace nn81 := two_other (b := wq2.heap.size) (x := .int .i64 g1) (y := .int .i64 g2) nn81 (by omega)
       replace ht := Tab.two (b := wq2.heap.size) (x := .int .i64 g1) (y := .int .i64 g2) ht (by omega)
       generalize ((wq5.setCell ⟨wq2.heap.size, 0, none⟩ (.int .i64 g1)).setCell ⟨wq2.heap.size, 1, none⟩ (.int .i64 g2)) = wq6 at *
       have hzq6 : w.heap.size ≤ wq6.heap.size := hBq6.size
       (try simp only [Act.put, List.setIfInBounds_toArray, List.set_cons_zero, List.set_cons_succ])
       refine wpAnyH_done (by kernel_rfl) ?_ _
       go_wp2_with fail
       go_meet
       obtain ⟨x0, x1, z0, z1, zf0, zf1⟩ := hHeld
       exact ⟨_, _, rfl, rfl, ht, ⟨x0, x1, z0, z1, zf0, zf1, nn80, nn81, nn90, nn91⟩, by assumption⟩
     ·
      (try dsimp only at hHeld)
      have hBq2 : Below w.heap.size w (wq1.alloc (Obj.cells #[.int .i64 0, .int .i64 0] 24)) := by go_grown
      have nn80 : (wq1.alloc (Obj.cells #[.int .i64 0, .int .i64 0] 24)).cell? ⟨wq1.heap.size, 0, none⟩ = some (.int .i64 0) := by simp [go_sem]
      have nn8f0 : (wq1.alloc (Obj.cells #[.int .i64 0, .int .i64 0] 24)).frozen? ⟨wq1.heap.size, 0, none⟩ = false := by simp [go_sem]
      have nn81 : (wq1.alloc (Obj.cells #[.int .i64 0, .int .i64 0] 24)).cell? ⟨wq1.heap.size, 1, none⟩ = some (.int .i64 0) := by simp [go_sem]
      have nn8f1 : (wq1.alloc (Obj.cells #[.int .i64 0, .int .i64 0] 24)).frozen? ⟨wq1.heap.size, 1, none⟩ = false := by simp [go_sem]
      have nn8l0 : w.heap.size < wq1.heap.size := World.block_lt_of_cell? _ ⟨w.heap.size, 0, none⟩ (hHeld.1)
      have nn8l1 : w.heap.size + 1 < wq1.heap.size := World.block_lt_of_cell? _ ⟨w.heap.size + 1, 0, none⟩ (hHeld.2.2.1)
      have hOld := hHeld; clear hHeld; go_simp; refine hK.out _ _ ?_ (fun hHeld => ?_)
      · exact ⟨keepA _ (hOld.1), keepA _ (hOld.2.1), keepA _ (hOld.2.2.1), keepA _ (hOld.2.2.2.1), keepAF _ (hOld.2.2.1) (hOld.2.2.2.2.1), keepAF _ (hOld.2.2.2.1) (hOld.2.2.2.2.2)⟩
      clear hK K hOld
      (try dsimp only at hHeld)
      replace ht := Tab.alloc (Obj.cells #[.int .i64 0, .int .i64 0] 24) ht
      generalize (wq1.alloc (Obj.cells #[.int .i64 0, .int .i64 0] 24)) = wq2 at *
      have hzq2 : w.heap.size ≤ wq2.heap.size := hBq2.size
      (try simp only [Act.put, List.setIfInBounds_toArray, List.set_cons_zero, List.set_cons_succ])
      refine wpAnyH_ready (rs := [7, 9]) (by kernel_rfl) (by simp) ?_
      refine AllReadyH.cons (o := ⟨some 27, _, _, _, _, none⟩) rfl (fun K hK => ?_) (AllReadyH.cons (o := ⟨some 7, _, _, _, _, none⟩) rfl (fun K hK => ?_) (AllReadyH.nil))
      ·
       go_simp
       (go_at_call 101; refine useF w ((by first | (with_reducible exact s1.out _ ht) | (with_reducible exact s2.out _ ht))) (by go_grown) ?_; rintro e wq3 rfl hBq3 hkq3 hfq3 hsq3)
       have hOld := hHeld; clear hHeld; refine hK.out _ _ ?_ (fun hHeld => ?_)
       · exact ⟨hkq3 _ _ _ (hOld.1), hkq3 _ _ _ (hOld.2.1), hkq3 _ _ _ (hOld.2.2.1), hkq3 _ _ _ (hOld.2.2.2.1), hfq3 _ _ _ (hOld.2.2.1) (hOld.2.2.2.2.1), hfq3 _ _ _ (hOld.2.2.2.1) (hOld.2.2.2.2.2)⟩
       clear hK K hOld
       replace nn8f0 := hfq3 _ _ _ nn80 nn8f0
       replace nn80 := hkq3 _ _ _ nn80
       replace nn8f1 := hfq3 _ _ _ nn81 nn8f1
       replace nn81 := hkq3 _ _ _ nn81
       replace ht := Tab.keep ht hkq3
       clear hkq3 hfq3 hsq3
       have hzq3 : w.heap.size ≤ wq3.heap.size := hBq3.size
       (try simp only [Act.put, List.setIfInBounds_toArray, List.set_cons_zero, List.set_cons_succ])
       refine wpAnyH_ready (rs := [9]) (by kernel_rfl) (by simp) ?_
       refine AllReadyH.cons (o := ⟨some 7, _, _, _, _, none⟩) rfl (fun K hK => ?_) (AllReadyH.nil)
       (try dsimp only at hHeld)
       have hBq4 : Below w.heap.size w (wq3.alloc (Obj.cells #[.int .i64 0, .int .i64 0] 24)) := by go_grown
       have nn90 : (wq3.alloc (Obj.cells #[.int .i64 0, .int .i64 0] 24)).cell? ⟨wq3.heap.size, 0, none⟩ = some (.int .i64 0) := by simp [go_sem]
       have nn9f0 : (wq3.alloc (Obj.cells #[.int .i64 0, .int .i64 0] 24)).frozen? ⟨wq3.heap.size, 0, none⟩ = false := by simp [go_sem]
       have nn91 : (wq3.alloc (Obj.cells #[.int .i64 0, .int .i64 0] 24)).cell? ⟨wq3.heap.size, 1, none⟩ = some (.int .i64 0) := by simp [go_sem]
       have nn9f1 : (wq3.alloc (Obj.cells #[.int .i64 0, .int .i64 0] 24)).frozen? ⟨wq3.heap.size, 1, none⟩ = false := by simp [go_sem]
       have nn9l0 : w.heap.size < wq3.heap.size := World.block_lt_of_cell? _ ⟨w.heap.size, 0, none⟩ (hHeld.1)
       have nn9l1 : w.heap.size + 1 < wq3.heap.size := World.block_lt_of_cell? _ ⟨w.heap.size + 1, 0, none⟩ (hHeld.2.2.1)
       have nn9m8 : wq1.heap.size < wq3.heap.size := World.block_lt_of_cell? _ ⟨wq1.heap.size, 0, none⟩ nn80
       replace nn8f0 := keepAF (Obj.cells #[.int .i64 0, .int .i64 0] 24) nn80 nn8f0
       replace nn80 := keepA (Obj.cells #[.int .i64 0, .int .i64 0] 24) nn80
       replace nn8f1 := keepAF (Obj.cells #[.int .i64 0, .int .i64 0] 24) nn81 nn8f1
       replace nn81 := keepA (Obj.cells #[.int .i64 0, .int .i64 0] 24) nn81
       have hOld := hHeld; clear hHeld; go_simp; refine hK.out _ _ ?_ (fun hHeld => ?_)
       · exact ⟨keepA _ (hOld.1), keepA _ (hOld.2.1), keepA _ (hOld.2.2.1), keepA _ (hOld.2.2.2.1), keepAF _ (hOld.2.2.1) (hOld.2.2.2.2.1), keepAF _ (hOld.2.2.2.1) (hOld.2.2.2.2.2)⟩
       clear hK K hOld
       (try dsimp only at hHeld)
       replace ht := Tab.alloc (Obj.cells #[.int .i64 0, .int .i64 0] 24) ht
       generalize (wq3.alloc (Obj.cells #[.int .i64 0, .int .i64 0] 24)) = wq4 at *
       have hzq4 : w.heap.size ≤ wq4.heap.size := hBq4.size
       (try simp only [Act.put, List.setIfInBounds_toArray, List.set_cons_zero, List.set_cons_succ])
       refine wpAnyH_ready (rs := [10]) (by kernel_rfl) (by simp) ?_
       refine AllReadyH.cons (o := ⟨none, _, _, _, _, none⟩) rfl (fun K hK => ?_) (AllReadyH.nil)
       (try dsimp only at hHeld)
       have hBq5 : Below w.heap.size w ((wq4.setCell ⟨wq1.heap.size, 0, none⟩ (.int .i64 f1)).setCell ⟨wq1.heap.size, 1, none⟩ (.int .i64 f2)) := by go_grown
       have hOld := hHeld; clear hHeld; go_simp; refine hK.out _ _ ?_ (fun hHeld => ?_)
       · exact ⟨two_other (hOld.1) (Nat.ne_of_gt nn8l0), two_other (hOld.2.1) (Nat.ne_of_gt nn8l0), two_other (hOld.2.2.1) (Nat.ne_of_gt nn8l1), two_other (hOld.2.2.2.1) (Nat.ne_of_gt nn8l1), two_fz (hOld.2.2.2.2.1), two_fz (hOld.2.2.2.2.2)⟩
       clear hK K hOld
       (try dsimp only at hHeld)
       replace nn8f0 := two_fz (b := wq1.heap.size) (x := .int .i64 f1) (y := .int .i64 f2) nn8f0
       replace nn80 := two_0 (x := .int .i64 f1) (y := .int .i64 f2) nn80
       replace nn8f1 := two_fz (b := wq1.heap.size) (x := .int .i64 f1) (y := .int .i64 f2) nn8f1
       replace nn81 := two_1 (x := .int .i64 f1) (y := .int .i64 f2) nn81
       replace nn9f0 := two_fz (b := wq1.heap.size) (x := .int .i64 f1) (y := .int .i64 f2) nn9f0
       replace nn90 := two_other (b := wq1.heap.size) (x := .int .i64 f1) (y := .int .i64 f2) nn90 (by omega)
       replace nn9f1 := two_fz (b := wq1.heap.size) (x := .int .i64 f1) (y := .int .i64 f2) nn9f1
       replace nn91 := two_other (b := wq1.heap.size) (x := .int .i64 f1) (y := .int .i64 f2) nn91 (by omega)
       replace ht := Tab.two (b := wq1.heap.size) (x := .int .i64 f1) (y := .int .i64 f2) ht (by omega)
       generalize ((wq4.setCell ⟨wq1.heap.size, 0, none⟩ (.int .i64 f1)).setCell ⟨wq1.heap.size, 1, none⟩ (.int .i64 f2)) = wq5 at *
       have hzq5 : w.heap.size ≤ wq5.heap.size := hBq5.size
       (try simp only [Act.put, List.setIfInBounds_toArray, List.set_cons_zero, List.set_cons_succ])
       refine wpAnyH_ready (rs := [11]) (by kernel_rfl) (by simp) ?_
       refine AllReadyH.cons (o := ⟨none, _, _, _, _, none⟩) rfl (fun K hK => ?_) (AllReadyH.nil)
       (try dsimp only at hHeld)
       have hBq6 : Below w.heap.size w ((wq5.setCell ⟨wq3.heap.size, 0, none⟩ (.int .i64 g1)).setCell ⟨wq3.heap.size, 1, none⟩ (.int .i64 g2)) := by go_grown
       have hOld := hHeld; clear hHeld; go_simp; refine hK.out _ _ ?_ (fun hHeld => ?_)
       · exact ⟨two_other (hOld.1) (Nat.ne_of_gt nn9l0), two_other (hOld.2.1) (Nat.ne_of_gt nn9l0), two_other (hOld.2.2.1) (Nat.ne_of_gt nn9l1), two_other (hOld.2.2.2.1) (Nat.ne_of_gt nn9l1), two_fz (hOld.2.2.2.2.1), two_fz (hOld.2.2.2.2.2)⟩
       clear hK K hOld
       (try dsimp only at hHeld)
       replace nn8f0 := two_fz (b := wq3.heap.size) (x := .int .i64 g1) (y := .int .i64 g2) nn8f0
       replace nn80 := two_other (b := wq3.heap.size) (x := .int .i64 g1) (y := .int .i64 g2) nn80 (by omega)
       replace nn8f1 := two_fz (b := wq3.heap.size) (x := .int .i64 g1) (y := .int .i64 g2) nn8f1
       replace nn81 := two_other (b := wq3.heap.size) (x := .int .i64 g1) (y := .int .i64 g2) nn81 (by omega)
       replace nn9f0 := two_fz (b := wq3.heap.size) (x := .int .i64 g1) (y := .int .i64 g2) nn9f0
       replace nn90 := two_0 (x := .int .i64 g1) (y := .int .i64 g2) nn90
       replace nn9f1 := two_fz (b := wq3.heap.size) (x := .int .i64 g1) (y := .int .i64 g2) nn9f1
       replace nn91 := two_1 (x := .int .i64 g1) (y := .int .i64 g2) nn91
       replace ht := Tab.two (b := wq3.heap.size) (x := .int .i64 g1) (y := .int .i64 g2) ht (by omega)
       generalize ((wq5.setCell ⟨wq3.heap.size, 0, none⟩ (.int .i64 g1)).setCell ⟨wq3.heap.size, 1, none⟩ (.int .i64 g2)) = wq6 at *
       have hzq6 : w.heap.size ≤ wq6.heap.size := hBq6.size
       (try simp only [Act.put, List.setIfInBounds_toArray, List.set_cons_zero, List.set_cons_succ])
       refine wpAnyH_done (by kernel_rfl) ?_ _
       go_wp2_with fail
       go_meet
       obtain ⟨x0, x1, z0, z1, zf0, zf1⟩ := hHeld
       exact ⟨_, _, rfl, rfl, ht, ⟨x0, x1, z0, z1, zf0, zf1, nn80, nn81, nn90, nn91⟩, by assumption⟩
      ·
       (try dsimp only at hHeld)
       have hBq3 : Below w.heap.size w (wq2.alloc (Obj.cells #[.int .i64 0, .int .i64 0] 24)) := by go_grown
       have nn90 : (wq2.alloc (Obj.cells #[.int .i64 0, .int .i64 0] 24)).cell? ⟨wq2.heap.size, 0, none⟩ = some (.int .i64 0) := by simp [go_sem]
       have nn9f0 : (wq2.alloc (Obj.cells #[.int .i64 0, .int .i64 0] 24)).frozen? ⟨wq2.heap.size, 0, none⟩ = false := by simp [go_sem]
       have nn91 : (wq2.alloc (Obj.cells #[.int .i64 0, .int .i64 0] 24)).cell? ⟨wq2.heap.size, 1, none⟩ = some (.int .i64 0) := by simp [go_sem]
       have nn9f1 : (wq2.alloc (Obj.cells #[.int .i64 0, .int .i64 0] 24)).frozen? ⟨wq2.heap.size, 1, none⟩ = false := by simp [go_sem]
       have nn9l0 : w.heap.size < wq2.heap.size := World.block_lt_of_cell? _ ⟨w.heap.size, 0, none⟩ (hHeld.1)
       have nn9l1 : w.heap.size + 1 < wq2.heap.size := World.block_lt_of_cell? _ ⟨w.heap.size + 1, 0, none⟩ (hHeld.2.2.1)
       have nn9m8 : wq1.heap.size < wq2.heap.size := World.block_lt_of_cell? _ ⟨wq1.heap.size, 0, none⟩ nn80
       replace nn8f0 := keepAF (Obj.cells #[.int .i64 0, .int .i64 0] 24) nn80 nn8f0
       replace nn80 := keepA (Obj.cells #[.int .i64 0, .int .i64 0] 24) nn80
       replace nn8f1 := keepAF (Obj.cells #[.int .i64 0, .int .i64 0] 24) nn81 nn8f1
       replace nn81 := keepA (Obj.cells #[.int .i64 0, .int .i64 0] 24) nn81
       have hOld := hHeld; clear hHeld; go_simp; refine hK.out _ _ ?_ (fun hHeld => ?_)
       · exact ⟨keepA _ (hOld.1), keepA _ (hOld.2.1), keepA _ (hOld.2.2.1), keepA _ (hOld.2.2.2.1), keepAF _ (hOld.2.2.1) (hOld.2.2.2.2.1), keepAF _ (hOld.2.2.2.1) (hOld.2.2.2.2.2)⟩
       clear hK K hOld
       (try dsimp only at hHeld)
       replace ht := Tab.alloc (Obj.cells #[.int .i64 0, .int .i64 0] 24) ht
       generalize (wq2.alloc (Obj.cells #[.int .i64 0, .int .i64 0] 24)) = wq3 at *
       have hzq3 : w.heap.size ≤ wq3.heap.size := hBq3.size
       (try simp only [Act.put, List.setIfInBounds_toArray, List.set_cons_zero, List.set_cons_succ])
       refine wpAnyH_ready (rs := [7]) (by kernel_rfl) (by simp) ?_
       refine AllReadyH.cons (o := ⟨some 27, _, _, _, _, none⟩) rfl (fun K hK => ?_) (AllReadyH.nil)
       go_simp
       (go_at_call 101; refine useF w ((by first | (with_reducible exact s1.out _ ht) | (with_reducible exact s2.out _ ht))) (by go_grown) ?_; rintro e wq4 rfl hBq4 hkq4 hfq4 hsq4)
       have hOld := hHeld; clear hHeld; refine hK.out _ _ ?_ (fun hHeld => ?_)
       · exact ⟨hkq4 _ _ _ (hOld.1), hkq4 _ _ _ (hOld.2.1), hkq4 _ _ _ (hOld.2.2.1), hkq4 _ _ _ (hOld.2.2.2.1), hfq4 _ _ _ (hOld.2.2.1) (hOld.2.2.2.2.1), hfq4 _ _ _ (hOld.2.2.2.1) (hOld.2.2.2.2.2)⟩
       clear hK K hOld
       replace nn8f0 := hfq4 _ _ _ nn80 nn8f0
       replace nn80 := hkq4 _ _ _ nn80
       replace nn8f1 := hfq4 _ _ _ nn81 nn8f1
       replace nn81 := hkq4 _ _ _ nn81
       replace nn9f0 := hfq4 _ _ _ nn90 nn9f0
       replace nn90 := hkq4 _ _ _ nn90
       replace nn9f1 := hfq4 _ _ _ nn91 nn9f1
       replace nn91 := hkq4 _ _ _ nn91
       replace ht := Tab.keep ht hkq4
       clear hkq4 hfq4 hsq4
       have hzq4 : w.heap.size ≤ wq4.heap.size := hBq4.size
       (try simp only [Act.put, List.setIfInBounds_toArray, List.set_cons_zero, List.set_cons_succ])
       refine wpAnyH_ready (rs := [10]) (by kernel_rfl) (by simp) ?_
       refine AllReadyH.cons (o := ⟨none, _, _, _, _, none⟩) rfl (fun K hK => ?_) (AllReadyH.nil)
       (try dsimp only at hHeld)
       have hBq5 : Below w.heap.size w ((wq4.setCell ⟨wq1.heap.size, 0, none⟩ (.int .i64 f1)).setCell ⟨wq1.heap.size, 1, none⟩ (.int .i64 f2)) := by go_grown
       have hOld := hHeld; clear hHeld; go_simp; refine hK.out _ _ ?_ (fun hHeld => ?_)
       · exact ⟨two_other (hOld.1) (Nat.ne_of_gt nn8l0), two_other (hOld.2.1) (Nat.ne_of_gt nn8l0), two_other (hOld.2.2.1) (Nat.ne_of_gt nn8l1), two_other (hOld.2.2.2.1) (Nat.ne_of_gt nn8l1), two_fz (hOld.2.2.2.2.1), two_fz (hOld.2.2.2.2.2)⟩
       clear hK K hOld
       (try dsimp only at hHeld)
       replace nn8f0 := two_fz (b := wq1.heap.size) (x := .int .i64 f1) (y := .int .i64 f2) nn8f0
       replace nn80 := two_0 (x := .int .i64 f1) (y := .int .i64 f2) nn80
       replace nn8f1 := two_fz (b := wq1.heap.size) (x := .int .i64 f1) (y := .int .i64 f2) nn8f1
       replace nn81 := two_1 (x := .int .i64 f1) (y := .int .i64 f2) nn81
       replace nn9f0 := two_fz (b := wq1.heap.size) (x := .int .i64 f1) (y := .int .i64 f2) nn9f0
       replace nn90 := two_other (b := wq1.heap.size) (x := .int .i64 f1) (y := .int .i64 f2) nn90 (by omega)
       replace nn9f1 := two_fz (b := wq1.heap.size) (x := .int .i64 f1) (y := .int .i64 f2) nn9f1
       replace nn91 := two_other (b := wq1.heap.size) (x := .int .i64 f1) (y := .int .i64 f2) nn91 (by omega)
       replace ht := Tab.two (b := wq1.heap.size) (x := .int .i64 f1) (y := .int .i64 f2) ht (by omega)
       generalize ((wq4.setCell ⟨wq1.heap.size, 0, none⟩ (.int .i64 f1)).setCell ⟨wq1.heap.size, 1, none⟩ (.int .i64 f2)) = wq5 at *
       have hzq5 : w.heap.size ≤ wq5.heap.size := hBq5.size
       (try simp only [Act.put, List.setIfInBounds_toArray, List.set_cons_zero, List.set_cons_succ])
       refine wpAnyH_ready (rs := [11]) (by kernel_rfl) (by simp) ?_
       refine AllReadyH.cons (o := ⟨none, _, _, _, _, none⟩) rfl (fun K hK => ?_) (AllReadyH.nil)
       (try dsimp only at hHeld)
       have hBq6 : Below w.heap.size w ((wq5.setCell ⟨wq2.heap.size, 0, none⟩ (.int .i64 g1)).setCell ⟨wq2.heap.size, 1, none⟩ (.int .i64 g2)) := by go_grown
       have hOld := hHeld; clear hHeld; go_simp; refine hK.out _ _ ?_ (fun hHeld => ?_)
       · exact ⟨two_other (hOld.1) (Nat.ne_of_gt nn9l0), two_other (hOld.2.1) (Nat.ne_of_gt nn9l0), two_other (hOld.2.2.1) (Nat.ne_of_gt nn9l1), two_other (hOld.2.2.2.1) (Nat.ne_of_gt nn9l1), two_fz (hOld.2.2.2.2.1), two_fz (hOld.2.2.2.2.2)⟩
       clear hK K hOld
       (try dsimp only at hHeld)
       replace nn8f0 := two_fz (b := wq2.heap.size) (x := .int .i64 g1) (y := .int .i64 g2) nn8f0
       replace nn80 := two_other (b := wq2.heap.size) (x := .int .i64 g1) (y := .int .i64 g2) nn80 (by omega)
       replace nn8f1 := two_fz (b := wq2.heap.size) (x := .int .i64 g1) (y := .int .i64 g2) nn8f1
       replace nn81 := two_other (b := wq2.heap.size) (x := .int .i64 g1) (y := .int .i64 g2) nn81 (by omega)
       replace nn9f0 := two_fz (b := wq2.heap.size) (x := .int .i64 g1) (y := .int .i64 g2) nn9f0
       replace nn90 := two_0 (x := .int .i64 g1) (y := .int .i64 g2) nn90
       replace nn9f1 := two_fz (b := wq2.heap.size) (x := .int .i64 g1) (y := .int .i64 g2) nn9f1
       replace nn91 := two_1 (x := .int .i64 g1) (y := .int .i64 g2) nn91
       replace ht := Tab.two (b := wq2.heap.size) (x := .int .i64 g1) (y := .int .i64 g2) ht (by omega)
       generalize ((wq5.setCell ⟨wq2.heap.size, 0, none⟩ (.int .i64 g1)).setCell ⟨wq2.heap.size, 1, none⟩ (.int .i64 g2)) = wq6 at *
       have hzq6 : w.heap.size ≤ wq6.heap.size := hBq6.size
       (try simp only [Act.put, List.setIfInBounds_toArray, List.set_cons_zero, List.set_cons_succ])
       refine wpAnyH_done (by kernel_rfl) ?_ _
       go_wp2_with fail
       go_meet
       obtain ⟨x0, x1, z0, z1, zf0, zf1⟩ := hHeld
       exact ⟨_, _, rfl, rfl, ht, ⟨x0, x1, z0, z1, zf0, zf1, nn80, nn81, nn90, nn91⟩, by assumption⟩
     ·
      (try dsimp only at hHeld)
      have hBq2 : Below w.heap.size w (wq1.alloc (Obj.cells #[.int .i64 0, .int .i64 0] 24)) := by go_grown
      have nn90 : (wq1.alloc (Obj.cells #[.int .i64 0, .int .i64 0] 24)).cell? ⟨wq1.heap.size, 0, none⟩ = some (.int .i64 0) := by simp [go_sem]
      have nn9f0 : (wq1.alloc (Obj.cells #[.int .i64 0, .int .i64 0] 24)).frozen? ⟨wq1.heap.size, 0, none⟩ = false := by simp [go_sem]
      have nn91 : (wq1.alloc (Obj.cells #[.int .i64 0, .int .i64 0] 24)).cell? ⟨wq1.heap.size, 1, none⟩ = some (.int .i64 0) := by simp [go_sem]
      have nn9f1 : (wq1.alloc (Obj.cells #[.int .i64 0, .int .i64 0] 24)).frozen? ⟨wq1.heap.size, 1, none⟩ = false := by simp [go_sem]
      have nn9l0 : w.heap.size < wq1.heap.size := World.block_lt_of_cell? _ ⟨w.heap.size, 0, none⟩ (hHeld.1)
      have nn9l1 : w.heap.size + 1 < wq1.heap.size := World.block_lt_of_cell? _ ⟨w.heap.size + 1, 0, none⟩ (hHeld.2.2.1)
      have hOld := hHeld; clear hHeld; go_simp; refine hK.out _ _ ?_ (fun hHeld => ?_)
      · exact ⟨keepA _ (hOld.1), keepA _ (hOld.2.1), keepA _ (hOld.2.2.1), keepA _ (hOld.2.2.2.1), keepAF _ (hOld.2.2.1) (hOld.2.2.2.2.1), keepAF _ (hOld.2.2.2.1) (hOld.2.2.2.2.2)⟩
      clear hK K hOld
      (try dsimp only at hHeld)
      replace ht := Tab.alloc (Obj.cells #[.int .i64 0, .int .i64 0] 24) ht
      generalize (wq1.alloc (Obj.cells #[.int .i64 0, .int .i64 0] 24)) = wq2 at *
      have hzq2 : w.heap.size ≤ wq2.heap.size := hBq2.size
      (try simp only [Act.put, List.setIfInBounds_toArray, List.set_cons_zero, List.set_cons_succ])
      refine wpAnyH_ready (rs := [7, 8]) (by kernel_rfl) (by simp) ?_
      refine AllReadyH.cons (o := ⟨some 27, _, _, _, _, none⟩) rfl (fun K hK => ?_) (AllReadyH.cons (o := ⟨some 6, _, _, _, _, none⟩) rfl (fun K hK => ?_) (AllReadyH.nil))
      ·
       go_simp
       (go_at_call 101; refine useF w ((by first | (with_reducible exact s1.out _ ht) | (with_reducible exact s2.out _ ht))) (by go_grown) ?_; rintro e wq3 rfl hBq3 hkq3 hfq3 hsq3)
       have hOld := hHeld; clear hHeld; refine hK.out _ _ ?_ (fun hHeld => ?_)
       · exact ⟨hkq3 _ _ _ (hOld.1), hkq3 _ _ _ (hOld.2.1), hkq3 _ _ _ (hOld.2.2.1), hkq3 _ _ _ (hOld.2.2.2.1), hfq3 _ _ _ (hOld.2.2.1) (hOld.2.2.2.2.1), hfq3 _ _ _ (hOld.2.2.2.1) (hOld.2.2.2.2.2)⟩
       clear hK K hOld
       replace nn9f0 := hfq3 _ _ _ nn90 nn9f0
       replace nn90 := hkq3 _ _ _ nn90
       replace nn9f1 := hfq3 _ _ _ nn91 nn9f1
       replace nn91 := hkq3 _ _ _ nn91
       replace ht := Tab.keep ht hkq3
       clear hkq3 hfq3 hsq3
       have hzq3 : w.heap.size ≤ wq3.heap.size := hBq3.size
       (try simp only [Act.put, List.setIfInBounds_toArray, List.set_cons_zero, List.set_cons_succ])
       refine wpAnyH_ready (rs := [8]) (by kernel_rfl) (by simp) ?_
       refine AllReadyH.cons (o := ⟨some 6, _, _, _, _, none⟩) rfl (fun K hK => ?_) (AllReadyH.nil)
       (try dsimp only at hHeld)
       have hBq4 : Below w.heap.size w (wq3.alloc (Obj.cells #[.int .i64 0, .int .i64 0] 24)) := by go_grown
       have nn80 : (wq3.alloc (Obj.cells #[.int .i64 0, .int .i64 0] 24)).cell? ⟨wq3.heap.size, 0, none⟩ = some (.int .i64 0) := by simp [go_sem]
       have nn8f0 : (wq3.alloc (Obj.cells #[.int .i64 0, .int .i64 0] 24)).frozen? ⟨wq3.heap.size, 0, none⟩ = false := by simp [go_sem]
       have nn81 : (wq3.alloc (Obj.cells #[.int .i64 0, .int .i64 0] 24)).cell? ⟨wq3.heap.size, 1, none⟩ = some (.int .i64 0) := by simp [go_sem]
       have nn8f1 : (wq3.alloc (Obj.cells #[.int .i64 0, .int .i64 0] 24)).frozen? ⟨wq3.heap.size, 1, none⟩ = false := by simp [go_sem]
       have nn8l0 : w.heap.size < wq3.heap.size := World.block_lt_of_cell? _ ⟨w.heap.size, 0, none⟩ (hHeld.1)
       have nn8l1 : w.heap.size + 1 < wq3.heap.size := World.block_lt_of_cell? _ ⟨w.heap.size + 1, 0, none⟩ (hHeld.2.2.1)
       have nn8m9 : wq1.heap.size < wq3.heap.size := World.block_lt_of_cell? _ ⟨wq1.heap.size, 0, none⟩ nn90
       replace nn9f0 := keepAF (Obj.cells #[.int .i64 0, .int .i64 0] 24) nn90 nn9f0
       replace nn90 := keepA (Obj.cells #[.int .i64 0, .int .i64 0] 24) nn90
       replace nn9f1 := keepAF (Obj.cells #[.int .i64 0, .int .i64 0] 24) nn91 nn9f1
       replace nn91 := keepA (Obj.cells #[.int .i64 0, .int .i64 0] 24) nn91
       have hOld := hHeld; clear hHeld; go_simp; refine hK.out _ _ ?_ (fun hHeld => ?_)
       · exact ⟨keepA _ (hOld.1), keepA _ (hOld.2.1), keepA _ (hOld.2.2.1), keepA _ (hOld.2.2.2.1), keepAF _ (hOld.2.2.1) (hOld.2.2.2.2.1), keepAF _ (hOld.2.2.2.1) (hOld.2.2.2.2.2)⟩
       clear hK K hOld
       (try dsimp only at hHeld)
       replace ht := Tab.alloc (Obj.cells #[.int .i64 0, .int .i64 0] 24) ht
       generalize (wq3.alloc (Obj.cells #[.int .i64 0, .int .i64 0] 24)) = wq4 at *
       have hzq4 : w.heap.size ≤ wq4.heap.size := hBq4.size
       (try simp only [Act.put, List.setIfInBounds_toArray, List.set_cons_zero, List.set_cons_succ])
       refine wpAnyH_ready (rs := [10]) (by kernel_rfl) (by simp) ?_
       refine AllReadyH.cons (o := ⟨none, _, _, _, _, none⟩) rfl (fun K hK => ?_) (AllReadyH.nil)
       (try dsimp only at hHeld)
       have hBq5 : Below w.heap.size w ((wq4.setCell ⟨wq3.heap.size, 0, none⟩ (.int .i64 f1)).setCell ⟨wq3.heap.size, 1, none⟩ (.int .i64 f2)) := by go_grown
       have hOld := hHeld; clear hHeld; go_simp; refine hK.out _ _ ?_ (fun hHeld => ?_)
       · exact ⟨two_other (hOld.1) (Nat.ne_of_gt nn8l0), two_other (hOld.2.1) (Nat.ne_of_gt nn8l0), two_other (hOld.2.2.1) (Nat.ne_of_gt nn8l1), two_other (hOld.2.2.2.1) (Nat.ne_of_gt nn8l1), two_fz (hOld.2.2.2.2.1), two_fz (hOld.2.2.2.2.2)⟩
       clear hK K hOld
       (try dsimp only at hHeld)
       replace nn9f0 := two_fz (b := wq3.heap.size) (x := .int .i64 f1) (y := .int .i64 f2) nn9f0
       replace nn90 := two_other (b := wq3.heap.size) (x := .int .i64 f1) (y := .int .i64 f2) nn90 (by omega)
       replace nn9f1 := two_fz (b := wq3.heap.size) (x := .int .i64 f1) (y := .int .i64 f2) nn9f1
       replace nn91 := two_other (b := wq3.heap.size) (x := .int .i64 f1) (y := .int .i64 f2) nn91 (by omega)
       replace nn8f0 := two_fz (b := wq3.heap.size) (x := .int .i64 f1) (y := .int .i64 f2) nn8f0
       replace nn80 := two_0 (x := .int .i64 f1) (y := .int .i64 f2) nn80
       replace nn8f1 := two_fz (b := wq3.heap.size) (x := .int .i64 f1) (y := .int .i64 f2) nn8f1
       replace nn81 := two_1 (x := .int .i64 f1) (y := .int .i64 f2) nn81
       replace ht := Tab.two (b := wq3.heap.size) (x := .int .i64 f1) (y := .int .i64 f2) ht (by omega)
       generalize ((wq4.setCell ⟨wq3.heap.size, 0, none⟩ (.int .i64 f1)).setCell ⟨wq3.heap.size, 1, none⟩ (.int .i64 f2)) = wq5 at *
       have hzq5 : w.heap.size ≤ wq5.heap.size := hBq5.size
       (try simp only [Act.put, List.setIfInBounds_toArray, List.set_cons_zero, List.set_cons_succ])
       refine wpAnyH_ready (rs := [11]) (by kernel_rfl) (by simp) ?_
       refine AllReadyH.cons (o := ⟨none, _, _, _, _, none⟩) rfl (fun K hK => ?_) (AllReadyH.nil)
       (try dsimp only at hHeld)
       have hBq6 : Below w.heap.size w ((wq5.setCell ⟨wq1.heap.size, 0, none⟩ (.int .i64 g1)).setCell ⟨wq1.heap.size, 1, none⟩ (.int .i64 g2)) := by go_grown
       have hOld := hHeld; clear hHeld; go_simp; refine hK.out _ _ ?_ (fun hHeld => ?_)
       · exact ⟨two_other (hOld.1) (Nat.ne_of_gt nn9l0), two_other (hOld.2.1) (Nat.ne_of_gt nn9l0), two_other (hOld.2.2.1) (Nat.ne_of_gt nn9l1), two_other (hOld.2.2.2.1) (Nat.ne_of_gt nn9l1), two_fz (hOld.2.2.2.2.1), two_fz (hOld.2.2.2.2.2)⟩
       clear hK K hOld
       (try dsimp only at hHeld)
       replace nn9f0 := two_fz (b := wq1.heap.size) (x := .int .i64 g1) (y := .int .i64 g2) nn9f0
       replace nn90 := two_0 (x := .int .i64 g1) (y := .int .i64 g2) nn90
       replace nn9f1 := two_fz (b := wq1.heap.size) (x := .int .i64 g1) (y := .int .i64 g2) nn9f1
       replace nn91 := two_1 (x := .int .i64 g1) (y := .int .i64 g2) nn91
       replace nn8f0 := two_fz (b := wq1.heap.size) (x := .int .i64 g1) (y := .int .i64 g2) nn8f0
       replace nn80 := two_other (b := wq1.heap.size) (x := .int .i64 g1) (y := .int .i64 g2) nn80 (by omega)
       replace nn8f1 := two_fz (b := wq1.heap.size) (x := .int .i64 g1) (y := .int .i64 g2) nn8f1
       replace nn81 := two_other (b := wq1.heap.size) (x := .int .i64 g1) (y := .int .i64 g2) nn81 (by omega)
       replace ht := Tab.two (b := wq1.heap.size) (x := .int .i64 g1) (y := .int .i64 g2) ht (by omega)
       generalize ((wq5.setCell ⟨wq1.heap.size, 0, none⟩ (.int .i64 g1)).setCell ⟨wq1.heap.size, 1, none⟩ (.int .i64 g2)) = wq6 at *
       have hzq6 : w.heap.size ≤ wq6.heap.size := hBq6.size
       (try simp only [Act.put, List.setIfInBounds_toArray, List.set_cons_zero, List.set_cons_succ])
       refine wpAnyH_done (by kernel_rfl) ?_ _
       go_wp2_with fail
       go_meet
       obtain ⟨x0, x1, z0, z1, zf0, zf1⟩ := hHeld
       exact ⟨_, _, rfl, rfl, ht, ⟨x0, x1, z0, z1, zf0, zf1, nn80, nn81, nn90, nn91⟩, by assumption⟩
      ·
       (try dsimp only at hHeld)
       have hBq3 : Below w.heap.size w (wq2.alloc (Obj.cells #[.int .i64 0, .int .i64 0] 24)) := by go_grown
       have nn80 : (wq2.alloc (Obj.cells #[.int .i64 0, .int .i64 0] 24)).cell? ⟨wq2.heap.size, 0, none⟩ = some (.int .i64 0) := by simp [go_sem]
       have nn8f0 : (wq2.alloc (Obj.cells #[.int .i64 0, .int .i64 0] 24)).frozen? ⟨wq2.heap.size, 0, none⟩ = false := by simp [go_sem]
       have nn81 : (wq2.alloc (Obj.cells #[.int .i64 0, .int .i64 0] 24)).cell? ⟨wq2.heap.size, 1, none⟩ = some (.int .i64 0) := by simp [go_sem]
       have nn8f1 : (wq2.alloc (Obj.cells #[.int .i64 0, .int .i64 0] 24)).frozen? ⟨wq2.heap.size, 1, none⟩ = false := by simp [go_sem]
       have nn8l0 : w.heap.size < wq2.heap.size := World.block_lt_of_cell? _ ⟨w.heap.size, 0, none⟩ (hHeld.1)
       have nn8l1 : w.heap.size + 1 < wq2.heap.size := World.block_lt_of_cell? _ ⟨w.heap.size + 1, 0, none⟩ (hHeld.2.2.1)
       have nn8m9 : wq1.heap.size < wq2.heap.size := World.block_lt_of_cell? _ ⟨wq1.heap.size, 0, none⟩ nn90
       replace nn9f0 := keepAF (Obj.cells #[.int .i64 0, .int .i64 0] 24) nn90 nn9f0
       replace nn90 := keepA (Obj.cells #[.int .i64 0, .int .i64 0] 24) nn90
       replace nn9f1 := keepAF (Obj.cells #[.int .i64 0, .int .i64 0] 24) nn91 nn9f1
       replace nn91 := keepA (Obj.cells #[.int .i64 0, .int .i64 0] 24) nn91
       have hOld := hHeld; clear hHeld; go_simp; refine hK.out _ _ ?_ (fun hHeld => ?_)
       · exact ⟨keepA _ (hOld.1), keepA _ (hOld.2.1), keepA _ (hOld.2.2.1), keepA _ (hOld.2.2.2.1), keepAF _ (hOld.2.2.1) (hOld.2.2.2.2.1), keepAF _ (hOld.2.2.2.1) (hOld.2.2.2.2.2)⟩
       clear hK K hOld
       (try dsimp only at hHeld)
       replace ht := Tab.alloc (Obj.cells #[.int .i64 0, .int .i64 0] 24) ht
       generalize (wq2.alloc (Obj.cells #[.int .i64 0, .int .i64 0] 24)) = wq3 at *
       have hzq3 : w.heap.size ≤ wq3.heap.size := hBq3.size
       (try simp only [Act.put, List.setIfInBounds_toArray, List.set_cons_zero, List.set_cons_succ])
       refine wpAnyH_ready (rs := [7]) (by kernel_rfl) (by simp) ?_
       refine AllReadyH.cons (o := ⟨some 27, _, _, _, _, none⟩) rfl (fun K hK => ?_) (AllReadyH.nil)
       go_simp
       (go_at_call 101; refine useF w ((by first | (with_reducible exact s1.out _ ht) | (with_reducible exact s2.out _ ht))) (by go_grown) ?_; rintro e wq4 rfl hBq4 hkq4 hfq4 hsq4)
       have hOld := hHeld; clear hHeld; refine hK.out _ _ ?_ (fun hHeld => ?_)
       · exact ⟨hkq4 _ _ _ (hOld.1), hkq4 _ _ _ (hOld.2.1), hkq4 _ _ _ (hOld.2.2.1), hkq4 _ _ _ (hOld.2.2.2.1), hfq4 _ _ _ (hOld.2.2.1) (hOld.2.2.2.2.1), hfq4 _ _ _ (hOld.2.2.2.1) (hOld.2.2.2.2.2)⟩
       clear hK K hOld
       replace nn9f0 := hfq4 _ _ _ nn90 nn9f0
       replace nn90 := hkq4 _ _ _ nn90
       replace nn9f1 := hfq4 _ _ _ nn91 nn9f1
       replace nn91 := hkq4 _ _ _ nn91
       replace nn8f0 := hfq4 _ _ _ nn80 nn8f0
       replace nn80 := hkq4 _ _ _ nn80
       replace nn8f1 := hfq4 _ _ _ nn81 nn8f1
       replace nn81 := hkq4 _ _ _ nn81
       replace ht := Tab.keep ht hkq4
       clear hkq4 hfq4 hsq4
       have hzq4 : w.heap.size ≤ wq4.heap.size := hBq4.size
       (try simp only [Act.put, List.setIfInBounds_toArray, List.set_cons_zero, List.set_cons_succ])
       refine wpAnyH_ready (rs := [10]) (by kernel_rfl) (by simp) ?_
       refine AllReadyH.cons (o := ⟨none, _, _, _, _, none⟩) rfl (fun K hK => ?_) (AllReadyH.nil)
       (try dsimp only at hHeld)
       have hBq5 : Below w.heap.size w ((wq4.setCell ⟨wq2.heap.size, 0, none⟩ (.int .i64 f1)).setCell ⟨wq2.heap.size, 1, none⟩ (.int .i64 f2)) := by go_grown
       have hOld := hHeld; clear hHeld; go_simp; refine hK.out _ _ ?_ (fun hHeld => ?_)
       · exact ⟨two_other (hOld.1) (Nat.ne_of_gt nn8l0), two_other (hOld.2.1) (Nat.ne_of_gt nn8l0), two_other (hOld.2.2.1) (Nat.ne_of_gt nn8l1), two_other (hOld.2.2.2.1) (Nat.ne_of_gt nn8l1), two_fz (hOld.2.2.2.2.1), two_fz (hOld.2.2.2.2.2)⟩
       clear hK K hOld
       (try dsimp only at hHeld)
       replace nn9f0 := two_fz (b := wq2.heap.size) (x := .int .i64 f1) (y := .int .i64 f2) nn9f0
       replace nn90 := two_other (b := wq2.heap.size) (x := .int .i64 f1) (y := .int .i64 f2) nn90 (by omega)
       replace nn9f1 := two_fz (b := wq2.heap.size) (x := .int .i64 f1) (y := .int .i64 f2) nn9f1
       replace nn91 := two_other (b := wq2.heap.size) (x := .int .i64 f1) (y := .int .i64 f2) nn91 (by omega)
       replace nn8f0 := two_fz (b := wq2.heap.size) (x := .int .i64 f1) (y := .int .i64 f2) nn8f0
       replace nn80 := two_0 (x := .int .i64 f1) (y := .int .i64 f2) nn80
       replace nn8f1 := two_fz (b := wq2.heap.size) (x := .int .i64 f1) (y := .int .i64 f2) nn8f1
       replace nn81 := two_1 (x := .int .i64 f1) (y := .int .i64 f2) nn81
       replace ht := Tab.two (b := wq2.heap.size) (x := .int .i64 f1) (y := .int .i64 f2) ht (by omega)
       generalize ((wq4.setCell ⟨wq2.heap.size, 0, none⟩ (.int .i64 f1)).setCell ⟨wq2.heap.size, 1, none⟩ (.int .i64 f2)) = wq5 at *
       have hzq5 : w.heap.size ≤ wq5.heap.size := hBq5.size
       (try simp only [Act.put, List.setIfInBounds_toArray, List.set_cons_zero, List.set_cons_succ])
       refine wpAnyH_ready (rs := [11]) (by kernel_rfl) (by simp) ?_
       refine AllReadyH.cons (o := ⟨none, _, _, _, _, none⟩) rfl (fun K hK => ?_) (AllReadyH.nil)
       (try dsimp only at hHeld)
       have hBq6 : Below w.heap.size w ((wq5.setCell ⟨wq1.heap.size, 0, none⟩ (.int .i64 g1)).setCell ⟨wq1.heap.size, 1, none⟩ (.int .i64 g2)) := by go_grown
       have hOld := hHeld; clear hHeld; go_simp; refine hK.out _ _ ?_ (fun hHeld => ?_)
       · exact ⟨two_other (hOld.1) (Nat.ne_of_gt nn9l0), two_other (hOld.2.1) (Nat.ne_of_gt nn9l0), two_other (hOld.2.2.1) (Nat.ne_of_gt nn9l1), two_other (hOld.2.2.2.1) (Nat.ne_of_gt nn9l1), two_fz (hOld.2.2.2.2.1), two_fz (hOld.2.2.2.2.2)⟩
       clear hK K hOld
       (try dsimp only at hHeld)
       replace nn9f0 := two_fz (b := wq1.heap.size) (x := .int .i64 g1) (y := .int .i64 g2) nn9f0
       replace nn90 := two_0 (x := .int .i64 g1) (y := .int .i64 g2) nn90
       replace nn9f1 := two_fz (b := wq1.heap.size) (x := .int .i64 g1) (y := .int .i64 g2) nn9f1
       replace nn91 := two_1 (x := .int .i64 g1) (y := .int .i64 g2) nn91
       replace nn8f0 := two_fz (b := wq1.heap.size) (x := .int .i64 g1) (y := .int .i64 g2) nn8f0
       replace nn80 := two_other (b := wq1.heap.size) (x := .int .i64 g1) (y := .int .i64 g2) nn80 (by omega)
       replace nn8f1 := two_fz (b := wq1.heap.size) (x := .int .i64 g1) (y := .int .i64 g2) nn8f1
       replace nn81 := two_other (b := wq1.heap.size) (x := .int .i64 g1) (y := .int .i64 g2) nn81 (by omega)
       replace ht := Tab.two (b := wq1.heap.size) (x := .int .i64 g1) (y := .int .i64 g2) ht (by omega)
       generalize ((wq5.setCell ⟨wq1.heap.size, 0, none⟩ (.int .i64 g1)).setCell ⟨wq1.heap.size, 1, none⟩ (.int .i64 g2)) = wq6 at *
       have hzq6 : w.heap.size ≤ wq6.heap.size := hBq6.size
       (try simp only [Act.put, List.setIfInBounds_toArray, List.set_cons_zero, List.set_cons_succ])
       refine wpAnyH_done (by kernel_rfl) ?_ _
       go_wp2_with fail
       go_meet
       obtain ⟨x0, x1, z0, z1, zf0, zf1⟩ := hHeld
       exact ⟨_, _, rfl, rfl, ht, ⟨x0, x1, z0, z1, zf0, zf1, nn80, nn81, nn90, nn91⟩, by assumption⟩
    ·
     (try dsimp only at hHeld)
     have hBq1 : Below w.heap.size w (wq0.alloc (Obj.cells #[.int .i64 0, .int .i64 0] 24)) := by go_grown
     have nn80 : (wq0.alloc (Obj.cells #[.int .i64 0, .int .i64 0] 24)).cell? ⟨wq0.heap.size, 0, none⟩ = some (.int .i64 0) := by simp [go_sem]
     have nn8f0 : (wq0.alloc (Obj.cells #[.int .i64 0, .int .i64 0] 24)).frozen? ⟨wq0.heap.size, 0, none⟩ = false := by simp [go_sem]
     have nn81 : (wq0.alloc (Obj.cells #[.int .i64 0, .int .i64 0] 24)).cell? ⟨wq0.heap.size, 1, none⟩ = some (.int .i64 0) := by simp [go_sem]
     have nn8f1 : (wq0.alloc (Obj.cells #[.int .i64 0, .int .i64 0] 24)).frozen? ⟨wq0.heap.size, 1, none⟩ = false := by simp [go_sem]
     have nn8l0 : w.heap.size < wq0.heap.size := World.block_lt_of_cell? _ ⟨w.heap.size, 0, none⟩ (hHeld.1)
     have nn8l1 : w.heap.size + 1 < wq0.heap.size := World.block_lt_of_cell? _ ⟨w.heap.size + 1, 0, none⟩ (hHeld.2.2.1)
     have hOld := hHeld; clear hHeld; go_simp; refine hK.out _ _ ?_ (fun hHeld => ?_)
     · exact ⟨keepA _ (hOld.1), keepA _ (hOld.2.1), keepA _ (hOld.2.2.1), keepA _ (hOld.2.2.2.1), keepAF _ (hOld.2.2.1) (hOld.2.2.2.2.1), keepAF _ (hOld.2.2.2.1) (hOld.2.2.2.2.2)⟩
     clear hK K hOld
     (try dsimp only at hHeld)
     replace ht := Tab.alloc (Obj.cells #[.int .i64 0, .int .i64 0] 24) ht
     generalize (wq0.alloc (Obj.cells #[.int .i64 0, .int .i64 0] 24)) = wq1 at *
     have hzq1 : w.heap.size ≤ wq1.heap.size := hBq1.size
     (try simp only [Act.put, List.setIfInBounds_toArray, List.set_cons_zero, List.set_cons_succ])
     refine wpAnyH_ready (rs := [3, 9]) (by kernel_rfl) (by simp) ?_
     refine AllReadyH.cons (o := ⟨some 23, _, _, _, _, none⟩) rfl (fun K hK => ?_) (AllReadyH.cons (o := ⟨some 7, _, _, _, _, none⟩) rfl (fun K hK => ?_) (AllReadyH.nil))
     ·
      go_simp
      (go_at_call 101; refine useF w ((by first | (with_reducible exact s1.out _ ht) | (with_reducible exact s2.out _ ht))) (by go_grown) ?_; rintro e wq2 rfl hBq2 hkq2 hfq2 hsq2)
      have hOld := hHeld; clear hHeld; refine hK.out _ _ ?_ (fun hHeld => ?_)
      · exact ⟨hkq2 _ _ _ (hOld.1), hkq2 _ _ _ (hOld.2.1), hkq2 _ _ _ (hOld.2.2.1), hkq2 _ _ _ (hOld.2.2.2.1), hfq2 _ _ _ (hOld.2.2.1) (hOld.2.2.2.2.1), hfq2 _ _ _ (hOld.2.2.2.1) (hOld.2.2.2.2.2)⟩
      clear hK K hOld
      replace nn8f0 := hfq2 _ _ _ nn80 nn8f0
      replace nn80 := hkq2 _ _ _ nn80
      replace nn8f1 := hfq2 _ _ _ nn81 nn8f1
      replace nn81 := hkq2 _ _ _ nn81
      replace ht := Tab.keep ht hkq2
      clear hkq2 hfq2 hsq2
      have hzq2 : w.heap.size ≤ wq2.heap.size := hBq2.size
      (try simp only [Act.put, List.setIfInBounds_toArray, List.set_cons_zero, List.set_cons_succ])
      refine wpAnyH_ready (rs := [7, 9]) (by kernel_rfl) (by simp) ?_
      refine AllReadyH.cons (o := ⟨some 27, _, _, _, _, none⟩) rfl (fun K hK => ?_) (AllReadyH.cons (o := ⟨some 7, _, _, _, _, none⟩) rfl (fun K hK => ?_) (AllReadyH.nil))
      ·
       go_simp
       (go_at_call 101; refine useF w ((by first | (with_reducible exact s1.out _ ht) | (with_reducible exact s2.out _ ht))) (by go_grown) ?_; rintro e wq3 rfl hBq3 hkq3 hfq3 hsq3)
       have hOld := hHeld; clear hHeld; refine hK.out _ _ ?_ (fun hHeld => ?_)
       · exact ⟨hkq3 _ _ _ (hOld.1), hkq3 _ _ _ (hOld.2.1), hkq3 _ _ _ (hOld.2.2.1), hkq3 _ _ _ (hOld.2.2.2.1), hfq3 _ _ _ (hOld.2.2.1) (hOld.2.2.2.2.1), hfq3 _ _ _ (hOld.2.2.2.1) (hOld.2.2.2.2.2)⟩
       clear hK K hOld
       replace nn8f0 := hfq3 _ _ _ nn80 nn8f0
       replace nn80 := hkq3 _ _ _ nn80
       replace nn8f1 := hfq3 _ _ _ nn81 nn8f1
       replace nn81 := hkq3 _ _ _ nn81
       replace ht := Tab.keep ht hkq3
       clear hkq3 hfq3 hsq3
       have hzq3 : w.heap.size ≤ wq3.heap.size := hBq3.size
       (try simp only [Act.put, List.setIfInBounds_toArray, List.set_cons_zero, List.set_cons_succ])
       refine wpAnyH_ready (rs := [9]) (by kernel_rfl) (by simp) ?_
       refine AllReadyH.cons (o := ⟨some 7, _, _, _, _, none⟩) rfl (fun K hK => ?_) (AllReadyH.nil)
       (try dsimp only at hHeld)
       have hBq4 : Below w.heap.size w (wq3.alloc (Obj.cells #[.int .i64 0, .int .i64 0] 24)) := by go_grown
       have nn90 : (wq3.alloc (Obj.cells #[.int .i64 0, .int .i64 0] 24)).cell? ⟨wq3.heap.size, 0, none⟩ = some (.int .i64 0) := by simp [go_sem]
       have nn9f0 : (wq3.alloc (Obj.cells #[.int .i64 0, .int .i64 0] 24)).frozen? ⟨wq3.heap.size, 0, none⟩ = false := by simp [go_sem]
       have nn91 : (wq3.alloc (Obj.cells #[.int .i64 0, .int .i64 0] 24)).cell? ⟨wq3.heap.size, 1, none⟩ = some (.int .i64 0) := by simp [go_sem]
       have nn9f1 : (wq3.alloc (Obj.cells #[.int .i64 0, .int .i64 0] 24)).frozen? ⟨wq3.heap.size, 1, none⟩ = false := by simp [go_sem]
       have nn9l0 : w.heap.size < wq3.heap.size := World.block_lt_of_cell? _ ⟨w.heap.size, 0, none⟩ (hHeld.1)
       have nn9l1 : w.heap.size + 1 < wq3.heap.size := World.block_lt_of_cell? _ ⟨w.heap.size + 1, 0, none⟩ (hHeld.2.2.1)
       have nn9m8 : wq0.heap.size < wq3.heap.size := World.block_lt_of_cell? _ ⟨wq0.heap.size, 0, none⟩ nn80
       replace nn8f0 := keepAF (Obj.cells #[.int .i64 0, .int .i64 0] 24) nn80 nn8f0
       replace nn80 := keepA (Obj.cells #[.int .i64 0, .int .i64 0] 24) nn80
       replace nn8f1 := keepAF (Obj.cells #[.int .i64 0, .int .i64 0] 24) nn81 nn8f1
       replace nn81 := keepA (Obj.cells #[.int .i64 0, .int .i64 0] 24) nn81
       have hOld := hHeld; clear hHeld; go_simp; refine hK.out _ _ ?_ (fun hHeld => ?_)
       · exact ⟨keepA _ (hOld.1), keepA _ (hOld.2.1), keepA _ (hOld.2.2.1), keepA _ (hOld.2.2.2.1), keepAF _ (hOld.2.2.1) (hOld.2.2.2.2.1), keepAF _ (hOld.2.2.2.1) (hOld.2.2.2.2.2)⟩
       clear hK K hOld
       (try dsimp only at hHeld)
       replace ht := Tab.alloc (Obj.cells #[.int .i64 0, .int .i64 0] 24) ht
       generalize (wq3.alloc (Obj.cells #[.int .i64 0, .int .i64 0] 24)) = wq4 at *
       have hzq4 : w.heap.size ≤ wq4.heap.size := hBq4.size
       (try simp only [Act.put, List.setIfInBounds_toArray, List.set_cons_zero, List.set_cons_succ])
       refine wpAnyH_ready (rs := [10]) (by kernel_rfl) (by simp) ?_
       refine AllReadyH.cons (o := ⟨none, _, _, _, _, none⟩) rfl (fun K hK => ?_) (AllReadyH.nil)
       (try dsimp only at hHeld)
       have hBq5 : Below w.heap.size w ((wq4.setCell ⟨wq0.heap.size, 0, none⟩ (.int .i64 f1)).setCell ⟨wq0.heap.size, 1, none⟩ (.int .i64 f2)) := by go_grown
       have hOld := hHeld; clear hHeld; go_simp; refine hK.out _ _ ?_ (fun hHeld => ?_)
       · exact ⟨two_other (hOld.1) (Nat.ne_of_gt nn8l0), two_other (hOld.2.1) (Nat.ne_of_gt nn8l0), two_other (hOld.2.2.1) (Nat.ne_of_gt nn8l1), two_other (hOld.2.2.2.1) (Nat.ne_of_gt nn8l1), two_fz (hOld.2.2.2.2.1), two_fz (hOld.2.2.2.2.2)⟩
       clear hK K hOld
       (try dsimp only at hHeld)
       replace nn8f0 := two_fz (b := wq0.heap.size) (x := .int .i64 f1) (y := .int .i64 f2) nn8f0
       replace nn80 := two_0 (x := .int .i64 f1) (y := .int .i64 f2) nn80
       replace nn8f1 := two_fz (b := wq0.heap.size) (x := .int .i64 f1) (y := .int .i64 f2) nn8f1
       replace nn81 := two_1 (x := .int .i64 f1) (y := .int .i64 f2) nn81
       replace nn9f0 := two_fz (b := wq0.heap.size) (x := .int .i64 f1) (y := .int .i64 f2) nn9f0
       replace nn90 := two_other (b := wq0.heap.size) (x := .int .i64 f1) (y := .int .i64 f2) nn90 (by omega)
       replace nn9f1 := two_fz (b := wq0.heap.size) (x := .int .i64 f1) (y := .int .i64 f2) nn9f1
       replace nn91 := two_other (b := wq0.heap.size) (x := .int .i64 f1) (y := .int .i64 f2) nn91 (by omega)
       replace ht := Tab.two (b := wq0.heap.size) (x := .int .i64 f1) (y := .int .i64 f2) ht (by omega)
       generalize ((wq4.setCell ⟨wq0.heap.size, 0, none⟩ (.int .i64 f1)).setCell ⟨wq0.heap.size, 1, none⟩ (.int .i64 f2)) = wq5 at *
       have hzq5 : w.heap.size ≤ wq5.heap.size := hBq5.size
       (try simp only [Act.put, List.setIfInBounds_toArray, List.set_cons_zero, List.set_cons_succ])
       refine wpAnyH_ready (rs := [11]) (by kernel_rfl) (by simp) ?_
       refine AllReadyH.cons (o := ⟨none, _, _, _, _, none⟩) rfl (fun K hK => ?_) (AllReadyH.nil)
       (try dsimp only at hHeld)
       have hBq6 : Below w.heap.size w ((wq5.setCell ⟨wq3.heap.size, 0, none⟩ (.int .i64 g1)).setCell ⟨wq3.heap.size, 1, none⟩ (.int .i64 g2)) := by go_grown
       have hOld := hHeld; clear hHeld; go_simp; refine hK.out _ _ ?_ (fun hHeld => ?_)
       · exact ⟨two_other (hOld.1) (Nat.ne_of_gt nn9l0), two_other (hOld.2.1) (Nat.ne_of_gt nn9l0), two_other (hOld.2.2.1) (Nat.ne_of_gt nn9l1), two_other (hOld.2.2.2.1) (Nat.ne_of_gt nn9l1), two_fz (hOld.2.2.2.2.1), two_fz (hOld.2.2.2.2.2)⟩
       clear hK K hOld
       (try dsimp only at hHeld)
       replace nn8f0 := two_fz (b := wq3.heap.size) (x := .int .i64 g1) (y := .int .i64 g2) nn8f0
       replace nn80 := two_other (b := wq3.heap.size) (x := .int .i64 g1) (y := .int .i64 g2) nn80 (by omega)
       replace nn8f1 := two_fz (b := wq3.heap.size) (x := .int .i64 g1) (y := .int .i64 g2) nn8f1
       replace nn81 := two_other (b := wq3.heap.size) (x := .int .i64 g1) (y := .int .i64 g2) nn81 (by omega)
       replace nn9f0 := two_fz (b := wq3.heap.size) (x := .int .i64 g1) (y := .int .i64 g2) nn9f0
       replace nn90 := two_0 (x := .int .i64 g1) (y := .int .i64 g2) nn90
       replace nn9f1 := two_fz (b := wq3.heap.size) (x := .int .i64 g1) (y := .int .i64 g2) nn9f1
       replace nn91 := two_1 (x := .int .i64 g1) (y := .int .i64 g2) nn91
       replace ht := Tab.two (b := wq3.heap.size) (x := .int .i64 g1) (y := .int .i64 g2) ht (by omega)
       generalize ((wq5.setCell ⟨wq3.heap.size, 0, none⟩ (.int .i64 g1)).setCell ⟨wq3.heap.size, 1, none⟩ (.int .i64 g2)) = wq6 at *
       have hzq6 : w.heap.size ≤ wq6.heap.size := hBq6.size
       (try simp only [Act.put, List.setIfInBounds_toArray, List.set_cons_zero, List.set_cons_succ])
       refine wpAnyH_done (by kernel_rfl) ?_ _
       go_wp2_with fail
       go_meet
       obtain ⟨x0, x1, z0, z1, zf0, zf1⟩ := hHeld
       exact ⟨_, _, rfl, rfl, ht, ⟨x0, x1, z0, z1, zf0, zf1, nn80, nn81, nn90, nn91⟩, by assumption⟩
      ·
       (try dsimp only at hHeld)
       have hBq3 : Below w.heap.size w (wq2.alloc (Obj.cells #[.int .i64 0, .int .i64 0] 24)) := by go_grown
       have nn90 : (wq2.alloc (Obj.cells #[.int .i64 0, .int .i64 0] 24)).cell? ⟨wq2.heap.size, 0, none⟩ = some (.int .i64 0) := by simp [go_sem]
       have nn9f0 : (wq2.alloc (Obj.cells #[.int .i64 0, .int .i64 0] 24)).frozen? ⟨wq2.heap.size, 0, none⟩ = false := by simp [go_sem]
       have nn91 : (wq2.alloc (Obj.cells #[.int .i64 0, .int .i64 0] 24)).cell? ⟨wq2.heap.size, 1, none⟩ = some (.int .i64 0) := by simp [go_sem]
       have nn9f1 : (wq2.alloc (Obj.cells #[.int .i64 0, .int .i64 0] 24)).frozen? ⟨wq2.heap.size, 1, none⟩ = false := by simp [go_sem]
       have nn9l0 : w.heap.size < wq2.heap.size := World.block_lt_of_cell? _ ⟨w.heap.size, 0, none⟩ (hHeld.1)
       have nn9l1 : w.heap.size + 1 < wq2.heap.size := World.block_lt_of_cell? _ ⟨w.heap.size + 1, 0, none⟩ (hHeld.2.2.1)
       have nn9m8 : wq0.heap.size < wq2.heap.size := World.block_lt_of_cell? _ ⟨wq0.heap.size, 0, none⟩ nn80
       replace nn8f0 := keepAF (Obj.cells #[.int .i64 0, .int .i64 0] 24) nn80 nn8f0
       replace nn80 := keepA (Obj.cells #[.int .i64 0, .int .i64 0] 24) nn80
       replace nn8f1 := keepAF (Obj.cells #[.int .i64 0, .int .i64 0] 24) nn81 nn8f1
       replace nn81 := keepA (Obj.cells #[.int .i64 0, .int .i64 0] 24) nn81
       have hOld := hHeld; clear hHeld; go_simp; refine hK.out _ _ ?_ (fun hHeld => ?_)
       · exact ⟨keepA _ (hOld.1), keepA _ (hOld.2.1), keepA _ (hOld.2.2.1), keepA _ (hOld.2.2.2.1), keepAF _ (hOld.2.2.1) (hOld.2.2.2.2.1), keepAF _ (hOld.2.2.2.1) (hOld.2.2.2.2.2)⟩
       clear hK K hOld
       (try dsimp only at hHeld)
       replace ht := Tab.alloc (Obj.cells #[.int .i64 0, .int .i64 0] 24) ht
       generalize (wq2.alloc (Obj.cells #[.int .i64 0, .int .i64 0] 24)) = wq3 at *
       have hzq3 : w.heap.size ≤ wq3.heap.size := hBq3.size
       (try simp only [Act.put, List.setIfInBounds_toArray, List.set_cons_zero, List.set_cons_succ])
       refine wpAnyH_ready (rs := [7]) (by kernel_rfl) (by simp) ?_
       refine AllReadyH.cons (o := ⟨some 27, _, _, _, _, none⟩) rfl (fun K hK => ?_) (AllReadyH.nil)
       go_simp
       (go_at_call 101; refine useF w ((by first | (with_reducible exact s1.out _ ht) | (with_reducible exact s2.out _ ht))) (by go_grown) ?_; rintro e wq4 rfl hBq4 hkq4 hfq4 hsq4)
       have hOld := hHeld; clear hHeld; refine hK.out _ _ ?_ (fun hHeld => ?_)
       · exact ⟨hkq4 _ _ _ (hOld.1), hkq4 _ _ _ (hOld.2.1), hkq4 _ _ _ (hOld.2.2.1), hkq4 _ _ _ (hOld.2.2.2.1), hfq4 _ _ _ (hOld.2.2.1) (hOld.2.2.2.2.1), hfq4 _ _ _ (hOld.2.2.2.1) (hOld.2.2.2.2.2)⟩
       clear hK K hOld
       replace nn8f0 := hfq4 _ _ _ nn80 nn8f0
       replace nn80 := hkq4 _ _ _ nn80
       replace nn8f1 := hfq4 _ _ _ nn81 nn8f1
       replace nn81 := hkq4 _ _ _ nn81
       replace nn9f0 := hfq4 _ _ _ nn90 nn9f0
       replace nn90 := hkq4 _ _ _ nn90
       replace nn9f1 := hfq4 _ _ _ nn91 nn9f1
       replace nn91 := hkq4 _ _ _ nn91
       replace ht := Tab.keep ht hkq4
       clear hkq4 hfq4 hsq4
       have hzq4 : w.heap.size ≤ wq4.heap.size := hBq4.size
       (try simp only [Act.put, List.setIfInBounds_toArray, List.set_cons_zero, List.set_cons_succ])
       refine wpAnyH_ready (rs := [10]) (by kernel_rfl) (by simp) ?_
       refine AllReadyH.cons (o := ⟨none, _, _, _, _, none⟩) rfl (fun K hK => ?_) (AllReadyH.nil)
       (try dsimp only at hHeld)
       have hBq5 : Below w.heap.size w ((wq4.setCell ⟨wq0.heap.size, 0, none⟩ (.int .i64 f1)).setCell ⟨wq0.heap.size, 1, none⟩ (.int .i64 f2)) := by go_grown
       have hOld := hHeld; clear hHeld; go_simp; refine hK.out _ _ ?_ (fun hHeld => ?_)
       · exact ⟨two_other (hOld.1) (Nat.ne_of_gt nn8l0), two_other (hOld.2.1) (Nat.ne_of_gt nn8l0), two_other (hOld.2.2.1) (Nat.ne_of_gt nn8l1), two_other (hOld.2.2.2.1) (Nat.ne_of_gt nn8l1), two_fz (hOld.2.2.2.2.1), two_fz (hOld.2.2.2.2.2)⟩
       clear hK K hOld
       (try dsimp only at hHeld)
       replace nn8f0 := two_fz (b := wq0.heap.size) (x := .int .i64 f1) (y := .int .i64 f2) nn8f0
       replace nn80 := two_0 (x := .int .i64 f1) (y := .int .i64 f2) nn80
       replace nn8f1 := two_fz (b := wq0.heap.size) (x := .int .i64 f1) (y := .int .i64 f2) nn8f1
       replace nn81 := two_1 (x := .int .i64 f1) (y := .int .i64 f2) nn81
       replace nn9f0 := two_fz (b := wq0.heap.size) (x := .int .i64 f1) (y := .int .i64 f2) nn9f0
       replace nn90 := two_other (b := wq0.heap.size) (x := .int .i64 f1) (y := .int .i64 f2) nn90 (by omega)
       replace nn9f1 := two_fz (b := wq0.heap.size) (x := .int .i64 f1) (y := .int .i64 f2) nn9f1
       replace nn91 := two_other (b := wq0.heap.size) (x := .int .i64 f1) (y := .int .i64 f2) nn91 (by omega)
       replace ht := Tab.two (b := wq0.heap.size) (x := .int .i64 f1) (y := .int .i64 f2) ht (by omega)
       generalize ((wq4.setCell ⟨wq0.heap.size, 0, none⟩ (.int .i64 f1)).setCell ⟨wq0.heap.size, 1, none⟩ (.int .i64 f2)) = wq5 at *
       have hzq5 : w.heap.size ≤ wq5.heap.size := hBq5.size
       (try simp only [Act.put, List.setIfInBounds_toArray, List.set_cons_zero, List.set_cons_succ])
       refine wpAnyH_ready (rs := [11]) (by kernel_rfl) (by simp) ?_
       refine AllReadyH.cons (o := ⟨none, _, _, _, _, none⟩) rfl (fun K hK => ?_) (AllReadyH.nil)
       (try dsimp only at hHeld)
       have hBq6 : Below w.heap.size w ((wq5.setCell ⟨wq2.heap.size, 0, none⟩ (.int .i64 g1)).setCell ⟨wq2.heap.size, 1, none⟩ (.int .i64 g2)) := by go_grown
       have hOld := hHeld; clear hHeld; go_simp; refine hK.out _ _ ?_ (fun hHeld => ?_)
       · exact ⟨two_other (hOld.1) (Nat.ne_of_gt nn9l0), two_other (hOld.2.1) (Nat.ne_of_gt nn9l0), two_other (hOld.2.2.1) (Nat.ne_of_gt nn9l1), two_other (hOld.2.2.2.1) (Nat.ne_of_gt nn9l1), two_fz (hOld.2.2.2.2.1), two_fz (hOld.2.2.2.2.2)⟩
       clear hK K hOld
       (try dsimp only at hHeld)
       replace nn8f0 := two_fz (b := wq2.heap.size) (x := .int .i64 g1) (y := .int .i64 g2) nn8f0
       replace nn80 := two_other (b := wq2.heap.size) (x := .int .i64 g1) (y := .int .i64 g2) nn80 (by omega)
       replace nn8f1 := two_fz (b := wq2.heap.size) (x := .int .i64 g1) (y := .int .i64 g2) nn8f1
       replace nn81 := two_other (b := wq2.heap.size) (x := .int .i64 g1) (y := .int .i64 g2) nn81 (by omega)
       replace nn9f0 := two_fz (b := wq2.heap.size) (x := .int .i64 g1) (y := .int .i64 g2) nn9f0
       replace nn90 := two_0 (x := .int .i64 g1) (y := .int .i64 g2) nn90
       replace nn9f1 := two_fz (b := wq2.heap.size) (x := .int .i64 g1) (y := .int .i64 g2) nn9f1
       replace nn91 := two_1 (x := .int .i64 g1) (y := .int .i64 g2) nn91
       replace ht := Tab.two (b := wq2.heap.size) (x := .int .i64 g1) (y := .int .i64 g2) ht (by omega)
       generalize ((wq5.setCell ⟨wq2.heap.size, 0, none⟩ (.int .i64 g1)).setCell ⟨wq2.heap.size, 1, none⟩ (.int .i64 g2)) = wq6 at *
       have hzq6 : w.heap.size ≤ wq6.heap.size := hBq6.size
       (try simp only [Act.put, List.setIfInBounds_toArray, List.set_cons_zero, List.set_cons_succ])
       refine wpAnyH_done (by kernel_rfl) ?_ _
       go_wp2_with fail
       go_meet
       obtain ⟨x0, x1, z0, z1, zf0, zf1⟩ := hHeld
       exact ⟨_, _, rfl, rfl, ht, ⟨x0, x1, z0, z1, zf0, zf1, nn80, nn81, nn90, nn91⟩, by assumption⟩
     ·
      (try dsimp only at hHeld)
      have hBq2 : Below w.heap.size w (wq1.alloc (Obj.cells #[.int .i64 0, .int .i64 0] 24)) := by go_grown
      have nn90 : (wq1.alloc (Obj.cells #[.int .i64 0, .int .i64 0] 24)).cell? ⟨wq1.heap.size, 0, none⟩ = some (.int .i64 0) := by simp [go_sem]
      have nn9f0 : (wq1.alloc (Obj.cells #[.int .i64 0, .int .i64 0] 24)).frozen? ⟨wq1.heap.size, 0, none⟩ = false := by simp [go_sem]
      have nn91 : (wq1.alloc (Obj.cells #[.int .i64 0, .int .i64 0] 24)).cell? ⟨wq1.heap.size, 1, none⟩ = some (.int .i64 0) := by simp [go_sem]
      have nn9f1 : (wq1.alloc (Obj.cells #[.int .i64 0, .int .i64 0] 24)).frozen? ⟨wq1.heap.size, 1, none⟩ = false := by simp [go_sem]
      have nn9l0 : w.heap.size < wq1.heap.size := World.block_lt_of_cell? _ ⟨w.heap.size, 0, none⟩ (hHeld.1)
      have nn9l1 : w.heap.size + 1 < wq1.heap.size := World.block_lt_of_cell? _ ⟨w.heap.size + 1, 0, none⟩ (hHeld.2.2.1)
      have nn9m8 : wq0.heap.size < wq1.heap.size := World.block_lt_of_cell? _ ⟨wq0.heap.size, 0, none⟩ nn80
      replace nn8f0 := keepAF (Obj.cells #[.int .i64 0, .int .i64 0] 24) nn80 nn8f0
      replace nn80 := keepA (Obj.cells #[.int .i64 0, .int .i64 0] 24) nn80
      replace nn8f1 := keepAF (Obj.cells #[.int .i64 0, .int .i64 0] 24) nn81 nn8f1
      replace nn81 := keepA (Obj.cells #[.int .i64 0, .int .i64 0] 24) nn81
      have hOld := hHeld; clear hHeld; go_simp; refine hK.out _ _ ?_ (fun hHeld => ?_)
      · exact ⟨keepA _ (hOld.1), keepA _ (hOld.2.1), keepA _ (hOld.2.2.1), keepA _ (hOld.2.2.2.1), keepAF _ (hOld.2.2.1) (hOld.2.2.2.2.1), keepAF _ (hOld.2.2.2.1) (hOld.2.2.2.2.2)⟩
      clear hK K hOld
      (try dsimp only at hHeld)
      replace ht := Tab.alloc (Obj.cells #[.int .i64 0, .int .i64 0] 24) ht
      generalize (wq1.alloc (Obj.cells #[.int .i64 0, .int .i64 0] 24)) = wq2 at *
      have hzq2 : w.heap.size ≤ wq2.heap.size := hBq2.size
      (try simp only [Act.put, List.setIfInBounds_toArray, List.set_cons_zero, List.set_cons_succ])
      refine wpAnyH_ready (rs := [3]) (by kernel_rfl) (by simp) ?_
      refine AllReadyH.cons (o := ⟨some 23, _, _, _, _, none⟩) rfl (fun K hK => ?_) (AllReadyH.nil)
      go_simp
      (go_at_call 101; refine useF w ((by first | (with_reducible exact s1.out _ ht) | (with_reducible exact s2.out _ ht))) (by go_grown) ?_; rintro e wq3 rfl hBq3 hkq3 hfq3 hsq3)
      have hOld := hHeld; clear hHeld; refine hK.out _ _ ?_ (fun hHeld => ?_)
      · exact ⟨hkq3 _ _ _ (hOld.1), hkq3 _ _ _ (hOld.2.1), hkq3 _ _ _ (hOld.2.2.1), hkq3 _ _ _ (hOld.2.2.2.1), hfq3 _ _ _ (hOld.2.2.1) (hOld.2.2.2.2.1), hfq3 _ _ _ (hOld.2.2.2.1) (hOld.2.2.2.2.2)⟩
      clear hK K hOld
      replace nn8f0 := hfq3 _ _ _ nn80 nn8f0
      replace nn80 := hkq3 _ _ _ nn80
      replace nn8f1 := hfq3 _ _ _ nn81 nn8f1
      replace nn81 := hkq3 _ _ _ nn81
      replace nn9f0 := hfq3 _ _ _ nn90 nn9f0
      replace nn90 := hkq3 _ _ _ nn90
      replace nn9f1 := hfq3 _ _ _ nn91 nn9f1
      replace nn91 := hkq3 _ _ _ nn91
      replace ht := Tab.keep ht hkq3
      clear hkq3 hfq3 hsq3
      have hzq3 : w.heap.size ≤ wq3.heap.size := hBq3.size
      (try simp only [Act.put, List.setIfInBounds_toArray, List.set_cons_zero, List.set_cons_succ])
      refine wpAnyH_ready (rs := [7]) (by kernel_rfl) (by simp) ?_
      refine AllReadyH.cons (o := ⟨some 27, _, _, _, _, none⟩) rfl (fun K hK => ?_) (AllReadyH.nil)
      go_simp
      (go_at_call 101; refine useF w ((by first | (with_reducible exact s1.out _ ht) | (with_reducible exact s2.out _ ht))) (by go_grown) ?_; rintro e wq4 rfl hBq4 hkq4 hfq4 hsq4)
      have hOld := hHeld; clear hHeld; refine hK.out _ _ ?_ (fun hHeld => ?_)
      · exact ⟨hkq4 _ _ _ (hOld.1), hkq4 _ _ _ (hOld.2.1), hkq4 _ _ _ (hOld.2.2.1), hkq4 _ _ _ (hOld.2.2.2.1), hfq4 _ _ _ (hOld.2.2.1) (hOld.2.2.2.2.1), hfq4 _ _ _ (hOld.2.2.2.1) (hOld.2.2.2.2.2)⟩
      clear hK K hOld
      replace nn8f0 := hfq4 _ _ _ nn80 nn8f0
      replace nn80 := hkq4 _ _ _ nn80
      replace nn8f1 := hfq4 _ _ _ nn81 nn8f1
      replace nn81 := hkq4 _ _ _ nn81
      replace nn9f0 := hfq4 _ _ _ nn90 nn9f0
      replace nn90 := hkq4 _ _ _ nn90
      replace nn9f1 := hfq4 _ _ _ nn91 nn9f1
      replace nn91 := hkq4 _ _ _ nn91
      replace ht := Tab.keep ht hkq4
      clear hkq4 hfq4 hsq4
      have hzq4 : w.heap.size ≤ wq4.heap.size := hBq4.size
      (try simp only [Act.put, List.setIfInBounds_toArray, List.set_cons_zero, List.set_cons_succ])
      refine wpAnyH_ready (rs := [10]) (by kernel_rfl) (by simp) ?_
      refine AllReadyH.cons (o := ⟨none, _, _, _, _, none⟩) rfl (fun K hK => ?_) (AllReadyH.nil)
      (try dsimp only at hHeld)
      have hBq5 : Below w.heap.size w ((wq4.setCell ⟨wq0.heap.size, 0, none⟩ (.int .i64 f1)).setCell ⟨wq0.heap.size, 1, none⟩ (.int .i64 f2)) := by go_grown
      have hOld := hHeld; clear hHeld; go_simp; refine hK.out _ _ ?_ (fun hHeld => ?_)
      · exact ⟨two_other (hOld.1) (Nat.ne_of_gt nn8l0), two_other (hOld.2.1) (Nat.ne_of_gt nn8l0), two_other (hOld.2.2.1) (Nat.ne_of_gt nn8l1), two_other (hOld.2.2.2.1) (Nat.ne_of_gt nn8l1), two_fz (hOld.2.2.2.2.1), two_fz (hOld.2.2.2.2.2)⟩
      clear hK K hOld
      (try dsimp only at hHeld)
      replace nn8f0 := two_fz (b := wq0.heap.size) (x := .int .i64 f1) (y := .int .i64 f2) nn8f0
      replace nn80 := two_0 (x := .int .i64 f1) (y := .int .i64 f2) nn80
      replace nn8f1 := two_fz (b := wq0.heap.size) (x := .int .i64 f1) (y := .int .i64 f2) nn8f1
      replace nn81 := two_1 (x := .int .i64 f1) (y := .int .i64 f2) nn81
      replace nn9f0 := two_fz (b := wq0.heap.size) (x := .int .i64 f1) (y := .int .i64 f2) nn9f0
      replace nn90 := two_other (b := wq0.heap.size) (x := .int .i64 f1) (y := .int .i64 f2) nn90 (by omega)
      replace nn9f1 := two_fz (b := wq0.heap.size) (x := .int .i64 f1) (y := .int .i64 f2) nn9f1
      replace nn91 := two_other (b := wq0.heap.size) (x := .int .i64 f1) (y := .int .i64 f2) nn91 (by omega)
      replace ht := Tab.two (b := wq0.heap.size) (x := .int .i64 f1) (y := .int .i64 f2) ht (by omega)
      generalize ((wq4.setCell ⟨wq0.heap.size, 0, none⟩ (.int .i64 f1)).setCell ⟨wq0.heap.size, 1, none⟩ (.int .i64 f2)) = wq5 at *
      have hzq5 : w.heap.size ≤ wq5.heap.size := hBq5.size
      (try simp only [Act.put, List.setIfInBounds_toArray, List.set_cons_zero, List.set_cons_succ])
      refine wpAnyH_ready (rs := [11]) (by kernel_rfl) (by simp) ?_
      refine AllReadyH.cons (o := ⟨none, _, _, _, _, none⟩) rfl (fun K hK => ?_) (AllReadyH.nil)
      (try dsimp only at hHeld)
      have hBq6 : Below w.heap.size w ((wq5.setCell ⟨wq1.heap.size, 0, none⟩ (.int .i64 g1)).setCell ⟨wq1.heap.size, 1, none⟩ (.int .i64 g2)) := by go_grown
      have hOld := hHeld; clear hHeld; go_simp; refine hK.out _ _ ?_ (fun hHeld => ?_)
      · exact ⟨two_other (hOld.1) (Nat.ne_of_gt nn9l0), two_other (hOld.2.1) (Nat.ne_of_gt nn9l0), two_other (hOld.2.2.1) (Nat.ne_of_gt nn9l1), two_other (hOld.2.2.2.1) (Nat.ne_of_gt nn9l1), two_fz (hOld.2.2.2.2.1), two_fz (hOld.2.2.2.2.2)⟩
      clear hK K hOld
      (try dsimp only at hHeld)
      replace nn8f0 := two_fz (b := wq1.heap.size) (x := .int .i64 g1) (y := .int .i64 g2) nn8f0
      replace nn80 := two_other (b := wq1.heap.size) (x := .int .i64 g1) (y := .int .i64 g2) nn80 (by omega)
      replace nn8f1 := two_fz (b := wq1.heap.size) (x := .int .i64 g1) (y := .int .i64 g2) nn8f1
      replace nn81 := two_other (b := wq1.heap.size) (x := .int .i64 g1) (y := .int .i64 g2) nn81 (by omega)
      replace nn9f0 := two_fz (b := wq1.heap.size) (x := .int .i64 g1) (y := .int .i64 g2) nn9f0
      replace nn90 := two_0 (x := .int .i64 g1) (y := .int .i64 g2) nn90
      replace nn9f1 := two_fz (b := wq1.heap.size) (x := .int .i64 g1) (y := .int .i64 g2) nn9f1
      replace nn91 := two_1 (x := .int .i64 g1) (y := .int .i64 g2) nn91
      replace ht := Tab.two (b := wq1.heap.size) (x := .int .i64 g1) (y := .int .i64 g2) ht (by omega)
      generalize ((wq5.setCell ⟨wq1.heap.size, 0, none⟩ (.int .i64 g1)).setCell ⟨wq1.heap.size, 1, none⟩ (.int .i64 g2)) = wq6 at *
      have hzq6 : w.heap.size ≤ wq6.heap.size := hBq6.size
      (try simp only [Act.put, List.setIfInBounds_toArray, List.set_cons_zero, List.set_cons_succ])
      refine wpAnyH_done (by kernel_rfl) ?_ _
      go_wp2_with fail
      go_meet
      obtain ⟨x0, x1, z0, z1, zf0, zf1⟩ := hHeld
      exact ⟨_, _, rfl, rfl, ht, ⟨x0, x1, z0, z1, zf0, zf1, nn80, nn81, nn90, nn91⟩, by assumption⟩
    ·
     (try dsimp only at hHeld)
     have hBq1 : Below w.heap.size w (wq0.alloc (Obj.cells #[.int .i64 0, .int .i64 0] 24)) := by go_grown
     have nn90 : (wq0.alloc (Obj.cells #[.int .i64 0, .int .i64 0] 24)).cell? ⟨wq0.heap.size, 0, none⟩ = some (.int .i64 0) := by simp [go_sem]
     have nn9f0 : (wq0.alloc (Obj.cells #[.int .i64 0, .int .i64 0] 24)).frozen? ⟨wq0.heap.size, 0, none⟩ = false := by simp [go_sem]
     have nn91 : (wq0.alloc (Obj.cells #[.int .i64 0, .int .i64 0] 24)).cell? ⟨wq0.heap.size, 1, none⟩ = some (.int .i64 0) := by simp [go_sem]
     have nn9f1 : (wq0.alloc (Obj.cells #[.int .i64 0, .int .i64 0] 24)).frozen? ⟨wq0.heap.size, 1, none⟩ = false := by simp [go_sem]
     have nn9l0 : w.heap.size < wq0.heap.size := World.block_lt_of_cell? _ ⟨w.heap.size, 0, none⟩ (hHeld.1)
     have nn9l1 : w.heap.size + 1 < wq0.heap.size := World.block_lt_of_cell? _ ⟨w.heap.size + 1, 0, none⟩ (hHeld.2.2.1)
     have hOld := hHeld; clear hHeld; go_simp; refine hK.out _ _ ?_ (fun hHeld => ?_)
     · exact ⟨keepA _ (hOld.1), keepA _ (hOld.2.1), keepA _ (hOld.2.2.1), keepA _ (hOld.2.2.2.1), keepAF _ (hOld.2.2.1) (hOld.2.2.2.2.1), keepAF _ (hOld.2.2.2.1) (hOld.2.2.2.2.2)⟩
     clear hK K hOld
     (try dsimp only at hHeld)
     replace ht := Tab.alloc (Obj.cells #[.int .i64 0, .int .i64 0] 24) ht
     generalize (wq0.alloc (Obj.cells #[.int .i64 0, .int .i64 0] 24)) = wq1 at *
     have hzq1 : w.heap.size ≤ wq1.heap.size := hBq1.size
     (try simp only [Act.put, List.setIfInBounds_toArray, List.set_cons_zero, List.set_cons_succ])
     refine wpAnyH_ready (rs := [3, 8]) (by kernel_rfl) (by simp) ?_
     refine AllReadyH.cons (o := ⟨some 23, _, _, _, _, none⟩) rfl (fun K hK => ?_) (AllReadyH.cons (o := ⟨some 6, _, _, _, _, none⟩) rfl (fun K hK => ?_) (AllReadyH.nil))
     ·
      go_simp
      (go_at_call 101; refine useF w ((by first | (with_reducible exact s1.out _ ht) | (with_reducible exact s2.out _ ht))) (by go_grown) ?_; rintro e wq2 rfl hBq2 hkq2 hfq2 hsq2)
      have hOld := hHeld; clear hHeld; refine hK.out _ _ ?_ (fun hHeld => ?_)
      · exact ⟨hkq2 _ _ _ (hOld.1), hkq2 _ _ _ (hOld.2.1), hkq2 _ _ _ (hOld.2.2.1), hkq2 _ _ _ (hOld.2.2.2.1), hfq2 _ _ _ (hOld.2.2.1) (hOld.2.2.2.2.1), hfq2 _ _ _ (hOld.2.2.2.1) (hOld.2.2.2.2.2)⟩
      clear hK K hOld
      replace nn9f0 := hfq2 _ _ _ nn90 nn9f0
      replace nn90 := hkq2 _ _ _ nn90
      replace nn9f1 := hfq2 _ _ _ nn91 nn9f1
      replace nn91 := hkq2 _ _ _ nn91
      replace ht := Tab.keep ht hkq2
      clear hkq2 hfq2 hsq2
      have hzq2 : w.heap.size ≤ wq2.heap.size := hBq2.size
      (try simp only [Act.put, List.setIfInBounds_toArray, List.set_cons_zero, List.set_cons_succ])
      refine wpAnyH_ready (rs := [7, 8]) (by kernel_rfl) (by simp) ?_
      refine AllReadyH.cons (o := ⟨some 27, _, _, _, _, none⟩) rfl (fun K hK => ?_) (AllReadyH.cons (o := ⟨some 6, _, _, _, _, none⟩) rfl (fun K hK => ?_) (AllReadyH.nil))
      ·
       go_simp
       (go_at_call 101; refine useF w ((by first | (with_reducible exact s1.out _ ht) | (with_reducible exact s2.out _ ht))) (by go_grown) ?_; rintro e wq3 rfl hBq3 hkq3 hfq3 hsq3)
       have hOld := hHeld; clear hHeld; refine hK.out _ _ ?_ (fun hHeld => ?_)
       · exact ⟨hkq3 _ _ _ (hOld.1), hkq3 _ _ _ (hOld.2.1), hkq3 _ _ _ (hOld.2.2.1), hkq3 _ _ _ (hOld.2.2.2.1), hfq3 _ _ _ (hOld.2.2.1) (hOld.2.2.2.2.1), hfq3 _ _ _ (hOld.2.2.2.1) (hOld.2.2.2.2.2)⟩
       clear hK K hOld
       replace nn9f0 := hfq3 _ _ _ nn90 nn9f0
       replace nn90 := hkq3 _ _ _ nn90
       replace nn9f1 := hfq3 _ _ _ nn91 nn9f1
       replace nn91 := hkq3 _ _ _ nn91
       replace ht := Tab.keep ht hkq3
       clear hkq3 hfq3 hsq3
       have hzq3 : w.heap.size ≤ wq3.heap.size := hBq3.size
       (try simp only [Act.put, List.setIfInBounds_toArray, List.set_cons_zero, List.set_cons_succ])
       refine wpAnyH_ready (rs := [8]) (by kernel_rfl) (by simp) ?_
       refine AllReadyH.cons (o := ⟨some 6, _, _, _, _, none⟩) rfl (fun K hK => ?_) (AllReadyH.nil)
       (try dsimp only at hHeld)
       have hBq4 : Below w.heap.size w (wq3.alloc (Obj.cells #[.int .i64 0, .int .i64 0] 24)) := by go_grown
       have nn80 : (wq3.alloc (Obj.cells #[.int .i64 0, .int .i64 0] 24)).cell? ⟨wq3.heap.size, 0, none⟩ = some (.int .i64 0) := by simp [go_sem]
       have nn8f0 : (wq3.alloc (Obj.cells #[.int .i64 0, .int .i64 0] 24)).frozen? ⟨wq3.heap.size, 0, none⟩ = false := by simp [go_sem]
       have nn81 : (wq3.alloc (Obj.cells #[.int .i64 0, .int .i64 0] 24)).cell? ⟨wq3.heap.size, 1, none⟩ = some (.int .i64 0) := by simp [go_sem]
       have nn8f1 : (wq3.alloc (Obj.cells #[.int .i64 0, .int .i64 0] 24)).frozen? ⟨wq3.heap.size, 1, none⟩ = false := by simp [go_sem]
       have nn8l0 : w.heap.size < wq3.heap.size := World.block_lt_of_cell? _ ⟨w.heap.size, 0, none⟩ (hHeld.1)
       have nn8l1 : w.heap.size + 1 < wq3.heap.size := World.block_lt_of_cell? _ ⟨w.heap.size + 1, 0, none⟩ (hHeld.2.2.1)
       have nn8m9 : wq0.heap.size < wq3.heap.size := World.block_lt_of_cell? _ ⟨wq0.heap.size, 0, none⟩ nn90
       replace nn9f0 := keepAF (Obj.cells #[.int .i64 0, .int .i64 0] 24) nn90 nn9f0
       replace nn90 := keepA (Obj.cells #[.int .i64 0, .int .i64 0] 24) nn90
       replace nn9f1 := keepAF (Obj.cells #[.int .i64 0, .int .i64 0] 24) nn91 nn9f1
       replace nn91 := keepA (Obj.cells #[.int .i64 0, .int .i64 0] 24) nn91
       have hOld := hHeld; clear hHeld; go_simp; refine hK.out _ _ ?_ (fun hHeld => ?_)
       · exact ⟨keepA _ (hOld.1), keepA _ (hOld.2.1), keepA _ (hOld.2.2.1), keepA _ (hOld.2.2.2.1), keepAF _ (hOld.2.2.1) (hOld.2.2.2.2.1), keepAF _ (hOld.2.2.2.1) (hOld.2.2.2.2.2)⟩
       clear hK K hOld
       (try dsimp only at hHeld)
       replace ht := Tab.alloc (Obj.cells #[.int .i64 0, .int .i64 0] 24) ht
       generalize (wq3.alloc (Obj.cells #[.int .i64 0, .int .i64 0] 24)) = wq4 at *
       have hzq4 : w.heap.size ≤ wq4.heap.size := hBq4.size
       (try simp only [Act.put, List.setIfInBounds_toArray, List.set_cons_zero, List.set_cons_succ])
       refine wpAnyH_ready (rs := [10]) (by kernel_rfl) (by simp) ?_
       refine AllReadyH.cons (o := ⟨none, _, _, _, _, none⟩) rfl (fun K hK => ?_) (AllReadyH.nil)
       (try dsimp only at hHeld)
       have hBq5 : Below w.heap.size w ((wq4.setCell ⟨wq3.heap.size, 0, none⟩ (.int .i64 f1)).setCell ⟨wq3.heap.size, 1, none⟩ (.int .i64 f2)) := by go_grown
       have hOld := hHeld; clear hHeld; go_simp; refine hK.out _ _ ?_ (fun hHeld => ?_)
       · exact ⟨two_other (hOld.1) (Nat.ne_of_gt nn8l0), two_other (hOld.2.1) (Nat.ne_of_gt nn8l0), two_other (hOld.2.2.1) (Nat.ne_of_gt nn8l1), two_other (hOld.2.2.2.1) (Nat.ne_of_gt nn8l1), two_fz (hOld.2.2.2.2.1), two_fz (hOld.2.2.2.2.2)⟩
       clear hK K hOld
       (try dsimp only at hHeld)
       replace nn9f0 := two_fz (b := wq3.heap.size) (x := .int .i64 f1) (y := .int .i64 f2) nn9f0
       replace nn90 := two_other (b := wq3.heap.size) (x := .int .i64 f1) (y := .int .i64 f2) nn90 (by omega)
       replace nn9f1 := two_fz (b := wq3.heap.size) (x := .int .i64 f1) (y := .int .i64 f2) nn9f1
       replace nn91 := two_other (b := wq3.heap.size) (x := .int .i64 f1) (y := .int .i64 f2) nn91 (by omega)
       replace nn8f0 := two_fz (b := wq3.heap.size) (x := .int .i64 f1) (y := .int .i64 f2) nn8f0
       replace nn80 := two_0 (x := .int .i64 f1) (y := .int .i64 f2) nn80
       replace nn8f1 := two_fz (b := wq3.heap.size) (x := .int .i64 f1) (y := .int .i64 f2) nn8f1
       replace nn81 := two_1 (x := .int .i64 f1) (y := .int .i64 f2) nn81
       replace ht := Tab.two (b := wq3.heap.size) (x := .int .i64 f1) (y := .int .i64 f2) ht (by omega)
       generalize ((wq4.setCell ⟨wq3.heap.size, 0, none⟩ (.int .i64 f1)).setCell ⟨wq3.heap.size, 1, none⟩ (.int .i64 f2)) = wq5 at *
       have hzq5 : w.heap.size ≤ wq5.heap.size := hBq5.size
       (try simp only [Act.put, List.setIfInBounds_toArray, List.set_cons_zero, List.set_cons_succ])
       refine wpAnyH_ready (rs := [11]) (by kernel_rfl) (by simp) ?_
       refine AllReadyH.cons (o := ⟨none, _, _, _, _, none⟩) rfl (fun K hK => ?_) (AllReadyH.nil)
       (try dsimp only at hHeld)
       have hBq6 : Below w.heap.size w ((wq5.setCell ⟨wq0.heap.size, 0, none⟩ (.int .i64 g1)).setCell ⟨wq0.heap.size, 1, none⟩ (.int .i64 g2)) := by go_grown
       have hOld := hHeld; clear hHeld; go_simp; refine hK.out _ _ ?_ (fun hHeld => ?_)
       · exact ⟨two_other (hOld.1) (Nat.ne_of_gt nn9l0), two_other (hOld.2.1) (Nat.ne_of_gt nn9l0), two_other (hOld.2.2.1) (Nat.ne_of_gt nn9l1), two_other (hOld.2.2.2.1) (Nat.ne_of_gt nn9l1), two_fz (hOld.2.2.2.2.1), two_fz (hOld.2.2.2.2.2)⟩
       clear hK K hOld
       (try dsimp only at hHeld)
       replace nn9f0 := two_fz (b := wq0.heap.size) (x := .int .i64 g1) (y := .int .i64 g2) nn9f0
       replace nn90 := two_0 (x := .int .i64 g1) (y := .int .i64 g2) nn90
       replace nn9f1 := two_fz (b := wq0.heap.size) (x := .int .i64 g1) (y := .int .i64 g2) nn9f1
       replace nn91 := two_1 (x := .int .i64 g1) (y := .int .i64 g2) nn91
       replace nn8f0 := two_fz (b := wq0.heap.size) (x := .int .i64 g1) (y := .int .i64 g2) nn8f0
       replace nn80 := two_other (b := wq0.heap.size) (x := .int .i64 g1) (y := .int .i64 g2) nn80 (by omega)
       replace nn8f1 := two_fz (b := wq0.heap.size) (x := .int .i64 g1) (y := .int .i64 g2) nn8f1
       replace nn81 := two_other (b := wq0.heap.size) (x := .int .i64 g1) (y := .int .i64 g2) nn81 (by omega)
       replace ht := Tab.two (b := wq0.heap.size) (x := .int .i64 g1) (y := .int .i64 g2) ht (by omega)
       generalize ((wq5.setCell ⟨wq0.heap.size, 0, none⟩ (.int .i64 g1)).setCell ⟨wq0.heap.size, 1, none⟩ (.int .i64 g2)) = wq6 at *
       have hzq6 : w.heap.size ≤ wq6.heap.size := hBq6.size
       (try simp only [Act.put, List.setIfInBounds_toArray, List.set_cons_zero, List.set_cons_succ])
       refine wpAnyH_done (by kernel_rfl) ?_ _
       go_wp2_with fail
       go_meet
       obtain ⟨x0, x1, z0, z1, zf0, zf1⟩ := hHeld
       exact ⟨_, _, rfl, rfl, ht, ⟨x0, x1, z0, z1, zf0, zf1, nn80, nn81, nn90, nn91⟩, by assumption⟩
      ·
       (try dsimp only at hHeld)
       have hBq3 : Below w.heap.size w (wq2.alloc (Obj.cells #[.int .i64 0, .int .i64 0] 24)) := by go_grown
       have nn80 : (wq2.alloc (Obj.cells #[.int .i64 0, .int .i64 0] 24)).cell? ⟨wq2.heap.size, 0, none⟩ = some (.int .i64 0) := by simp [go_sem]
       have nn8f0 : (wq2.alloc (Obj.cells #[.int .i64 0, .int .i64 0] 24)).frozen? ⟨wq2.heap.size, 0, none⟩ = false := by simp [go_sem]
       have nn81 : (wq2.alloc (Obj.cells #[.int .i64 0, .int .i64 0] 24)).cell? ⟨wq2.heap.size, 1, none⟩ = some (.int .i64 0) := by simp [go_sem]
       have nn8f1 : (wq2.alloc (Obj.cells #[.int .i64 0, .int .i64 0] 24)).frozen? ⟨wq2.heap.size, 1, none⟩ = false := by simp [go_sem]
       have nn8l0 : w.heap.size < wq2.heap.size := World.block_lt_of_cell? _ ⟨w.heap.size, 0, none⟩ (hHeld.1)
       have nn8l1 : w.heap.size + 1 < wq2.heap.size := World.block_lt_of_cell? _ ⟨w.heap.size + 1, 0, none⟩ (hHeld.2.2.1)
       have nn8m9 : wq0.heap.size < wq2.heap.size := World.block_lt_of_cell? _ ⟨wq0.heap.size, 0, none⟩ nn90
       replace nn9f0 := keepAF (Obj.cells #[.int .i64 0, .int .i64 0] 24) nn90 nn9f0
       replace nn90 := keepA (Obj.cells #[.int .i64 0, .int .i64 0] 24) nn90
       replace nn9f1 := keepAF (Obj.cells #[.int .i64 0, .int .i64 0] 24) nn91 nn9f1
       replace nn91 := keepA (Obj.cells #[.int .i64 0, .int .i64 0] 24) nn91
       have hOld := hHeld; clear hHeld; go_simp; refine hK.out _ _ ?_ (fun hHeld => ?_)
       · exact ⟨keepA _ (hOld.1), keepA _ (hOld.2.1), keepA _ (hOld.2.2.1), keepA _ (hOld.2.2.2.1), keepAF _ (hOld.2.2.1) (hOld.2.2.2.2.1), keepAF _ (hOld.2.2.2.1) (hOld.2.2.2.2.2)⟩
       clear hK K hOld
       (try dsimp only at hHeld)
       replace ht := Tab.alloc (Obj.cells #[.int .i64 0, .int .i64 0] 24) ht
       generalize (wq2.alloc (Obj.cells #[.int .i64 0, .int .i64 0] 24)) = wq3 at *
       have hzq3 : w.heap.size ≤ wq3.heap.size := hBq3.size
       (try simp only [Act.put, List.setIfInBounds_toArray, List.set_cons_zero, List.set_cons_succ])
       refine wpAnyH_ready (rs := [7]) (by kernel_rfl) (by simp) ?_
       refine AllReadyH.cons (o := ⟨some 27, _, _, _, _, none⟩) rfl (fun K hK => ?_) (AllReadyH.nil)
       go_simp
       (go_at_call 101; refine useF w ((by first | (with_reducible exact s1.out _ ht) | (with_reducible exact s2.out _ ht))) (by go_grown) ?_; rintro e wq4 rfl hBq4 hkq4 hfq4 hsq4)
       have hOld := hHeld; clear hHeld; refine hK.out _ _ ?_ (fun hHeld => ?_)
       · exact ⟨hkq4 _ _ _ (hOld.1), hkq4 _ _ _ (hOld.2.1), hkq4 _ _ _ (hOld.2.2.1), hkq4 _ _ _ (hOld.2.2.2.1), hfq4 _ _ _ (hOld.2.2.1) (hOld.2.2.2.2.1), hfq4 _ _ _ (hOld.2.2.2.1) (hOld.2.2.2.2.2)⟩
       clear hK K hOld
       replace nn9f0 := hfq4 _ _ _ nn90 nn9f0
       replace nn90 := hkq4 _ _ _ nn90
       replace nn9f1 := hfq4 _ _ _ nn91 nn9f1
       replace nn91 := hkq4 _ _ _ nn91
       replace nn8f0 := hfq4 _ _ _ nn80 nn8f0
       replace nn80 := hkq4 _ _ _ nn80
       replace nn8f1 := hfq4 _ _ _ nn81 nn8f1
       replace nn81 := hkq4 _ _ _ nn81
       replace ht := Tab.keep ht hkq4
       clear hkq4 hfq4 hsq4
       have hzq4 : w.heap.size ≤ wq4.heap.size := hBq4.size
       (try simp only [Act.put, List.setIfInBounds_toArray, List.set_cons_zero, List.set_cons_succ])
       refine wpAnyH_ready (rs := [10]) (by kernel_rfl) (by simp) ?_
       refine AllReadyH.cons (o := ⟨none, _, _, _, _, none⟩) rfl (fun K hK => ?_) (AllReadyH.nil)
       (try dsimp only at hHeld)
       have hBq5 : Below w.heap.size w ((wq4.setCell ⟨wq2.heap.size, 0, none⟩ (.int .i64 f1)).setCell ⟨wq2.heap.size, 1, none⟩ (.int .i64 f2)) := by go_grown
       have hOld := hHeld; clear hHeld; go_simp; refine hK.out _ _ ?_ (fun hHeld => ?_)
       · exact ⟨two_other (hOld.1) (Nat.ne_of_gt nn8l0), two_other (hOld.2.1) (Nat.ne_of_gt nn8l0), two_other (hOld.2.2.1) (Nat.ne_of_gt nn8l1), two_other (hOld.2.2.2.1) (Nat.ne_of_gt nn8l1), two_fz (hOld.2.2.2.2.1), two_fz (hOld.2.2.2.2.2)⟩
       clear hK K hOld
       (try dsimp only at hHeld)
       replace nn9f0 := two_fz (b := wq2.heap.size) (x := .int .i64 f1) (y := .int .i64 f2) nn9f0
       replace nn90 := two_other (b := wq2.heap.size) (x := .int .i64 f1) (y := .int .i64 f2) nn90 (by omega)
       replace nn9f1 := two_fz (b := wq2.heap.size) (x := .int .i64 f1) (y := .int .i64 f2) nn9f1
       replace nn91 := two_other (b := wq2.heap.size) (x := .int .i64 f1) (y := .int .i64 f2) nn91 (by omega)
       replace nn8f0 := two_fz (b := wq2.heap.size) (x := .int .i64 f1) (y := .int .i64 f2) nn8f0
       replace nn80 := two_0 (x := .int .i64 f1) (y := .int .i64 f2) nn80
       replace nn8f1 := two_fz (b := wq2.heap.size) (x := .int .i64 f1) (y := .int .i64 f2) nn8f1
       replace nn81 := two_1 (x := .int .i64 f1) (y := .int .i64 f2) nn81
       replace ht := Tab.two (b := wq2.heap.size) (x := .int .i64 f1) (y := .int .i64 f2) ht (by omega)
       generalize ((wq4.setCell ⟨wq2.heap.size, 0, none⟩ (.int .i64 f1)).setCell ⟨wq2.heap.size, 1, none⟩ (.int .i64 f2)) = wq5 at *
       have hzq5 : w.heap.size ≤ wq5.heap.size := hBq5.size
       (try simp only [Act.put, List.setIfInBounds_toArray, List.set_cons_zero, List.set_cons_succ])
       refine wpAnyH_ready (rs := [11]) (by kernel_rfl) (by simp) ?_
       refine AllReadyH.cons (o := ⟨none, _, _, _, _, none⟩) rfl (fun K hK => ?_) (AllReadyH.nil)
       (try dsimp only at hHeld)
       have hBq6 : Below w.heap.size w ((wq5.setCell ⟨wq0.heap.size, 0, none⟩ (.int .i64 g1)).setCell ⟨wq0.heap.size, 1, none⟩ (.int .i64 g2)) := by go_grown
       have hOld := hHeld; clear hHeld; go_simp; refine hK.out _ _ ?_ (fun hHeld => ?_)
       · exact ⟨two_other (hOld.1) (Nat.ne_of_gt nn9l0), two_other (hOld.2.1) (Nat.ne_of_gt nn9l0), two_other (hOld.2.2.1) (Nat.ne_of_gt nn9l1), two_other (hOld.2.2.2.1) (Nat.ne_of_gt nn9l1), two_fz (hOld.2.2.2.2.1), two_fz (hOld.2.2.2.2.2)⟩
       clear hK K hOld
       (try dsimp only at hHeld)
       replace nn9f0 := two_fz (b := wq0.heap.size) (x := .int .i64 g1) (y := .int .i64 g2) nn9f0
       replace nn90 := two_0 (x := .int .i64 g1) (y := .int .i64 g2) nn90
       replace nn9f1 := two_fz (b := wq0.heap.size) (x := .int .i64 g1) (y := .int .i64 g2) nn9f1
       replace nn91 := two_1 (x := .int .i64 g1) (y := .int .i64 g2) nn91
       replace nn8f0 := two_fz (b := wq0.heap.size) (x := .int .i64 g1) (y := .int .i64 g2) nn8f0
       replace nn80 := two_other (b := wq0.heap.size) (x := .int .i64 g1) (y := .int .i64 g2) nn80 (by omega)
       replace nn8f1 := two_fz (b := wq0.heap.size) (x := .int .i64 g1) (y := .int .i64 g2) nn8f1
       replace nn81 := two_other (b := wq0.heap.size) (x := .int .i64 g1) (y := .int .i64 g2) nn81 (by omega)
       replace ht := Tab.two (b := wq0.heap.size) (x := .int .i64 g1) (y := .int .i64 g2) ht (by omega)
       generalize ((wq5.setCell ⟨wq0.heap.size, 0, none⟩ (.int .i64 g1)).setCell ⟨wq0.heap.size, 1, none⟩ (.int .i64 g2)) = wq6 at *
       have hzq6 : w.heap.size ≤ wq6.heap.size := hBq6.size
       (try simp only [Act.put, List.setIfInBounds_toArray, List.set_cons_zero, List.set_cons_succ])
       refine wpAnyH_done (by kernel_rfl) ?_ _
       go_wp2_with fail
       go_meet
       obtain ⟨x0, x1, z0, z1, zf0, zf1⟩ := hHeld
       exact ⟨_, _, rfl, rfl, ht, ⟨x0, x1, z0, z1, zf0, zf1, nn80, nn81, nn90, nn91⟩, by assumption⟩
     ·
      (try dsimp only at hHeld)
      have hBq2 : Below w.heap.size w (wq1.alloc (Obj.cells #[.int .i64 0, .int .i64 0] 24)) := by go_grown
      have nn80 : (wq1.alloc (Obj.cells #[.int .i64 0, .int .i64 0] 24)).cell? ⟨wq1.heap.size, 0, none⟩ = some (.int .i64 0) := by simp [go_sem]
      have nn8f0 : (wq1.alloc (Obj.cells #[.int .i64 0, .int .i64 0] 24)).frozen? ⟨wq1.heap.size, 0, none⟩ = false := by simp [go_sem]
      have nn81 : (wq1.alloc (Obj.cells #[.int .i64 0, .int .i64 0] 24)).cell? ⟨wq1.heap.size, 1, none⟩ = some (.int .i64 0) := by simp [go_sem]
      have nn8f1 : (wq1.alloc (Obj.cells #[.int .i64 0, .int .i64 0] 24)).frozen? ⟨wq1.heap.size, 1, none⟩ = false := by simp [go_sem]
      have nn8l0 : w.heap.size < wq1.heap.size := World.block_lt_of_cell? _ ⟨w.heap.size, 0, none⟩ (hHeld.1)
      have nn8l1 : w.heap.size + 1 < wq1.heap.size := World.block_lt_of_cell? _ ⟨w.heap.size + 1, 0, none⟩ (hHeld.2.2.1)
      have nn8m9 : wq0.heap.size < wq1.heap.size := World.block_lt_of_cell? _ ⟨wq0.heap.size, 0, none⟩ nn90
      replace nn9f0 := keepAF (Obj.cells #[.int .i64 0, .int .i64 0] 24) nn90 nn9f0
      replace nn90 := keepA (Obj.cells #[.int .i64 0, .int .i64 0] 24) nn90
      replace nn9f1 := keepAF (Obj.cells #[.int .i64 0, .int .i64 0] 24) nn91 nn9f1
      replace nn91 := keepA (Obj.cells #[.int .i64 0, .int .i64 0] 24) nn91
      have hOld := hHeld; clear hHeld; go_simp; refine hK.out _ _ ?_ (fun hHeld => ?_)
      · exact ⟨keepA _ (hOld.1), keepA _ (hOld.2.1), keepA _ (hOld.2.2.1), keepA _ (hOld.2.2.2.1), keepAF _ (hOld.2.2.1) (hOld.2.2.2.2.1), keepAF _ (hOld.2.2.2.1) (hOld.2.2.2.2.2)⟩
      clear hK K hOld
      (try dsimp only at hHeld)
      replace ht := Tab.alloc (Obj.cells #[.int .i64 0, .int .i64 0] 24) ht
      generalize (wq1.alloc (Obj.cells #[.int .i64 0, .int .i64 0] 24)) = wq2 at *
      have hzq2 : w.heap.size ≤ wq2.heap.size := hBq2.size
      (try simp only [Act.put, List.setIfInBounds_toArray, List.set_cons_zero, List.set_cons_succ])
      refine wpAnyH_ready (rs := [3]) (by kernel_rfl) (by simp) ?_
      refine AllReadyH.cons (o := ⟨some 23, _, _, _, _, none⟩) rfl (fun K hK => ?_) (AllReadyH.nil)
      go_simp
      (go_at_call 101; refine useF w ((by first | (with_reducible exact s1.out _ ht) | (with_reducible exact s2.out _ ht))) (by go_grown) ?_; rintro e wq3 rfl hBq3 hkq3 hfq3 hsq3)
      have hOld := hHeld; clear hHeld; refine hK.out _ _ ?_ (fun hHeld => ?_)
      · exact ⟨hkq3 _ _ _ (hOld.1), hkq3 _ _ _ (hOld.2.1), hkq3 _ _ _ (hOld.2.2.1), hkq3 _ _ _ (hOld.2.2.2.1), hfq3 _ _ _ (hOld.2.2.1) (hOld.2.2.2.2.1), hfq3 _ _ _ (hOld.2.2.2.1) (hOld.2.2.2.2.2)⟩
      clear hK K hOld
      replace nn9f0 := hfq3 _ _ _ nn90 nn9f0
      replace nn90 := hkq3 _ _ _ nn90
      replace nn9f1 := hfq3 _ _ _ nn91 nn9f1
      replace nn91 := hkq3 _ _ _ nn91
      replace nn8f0 := hfq3 _ _ _ nn80 nn8f0
      replace nn80 := hkq3 _ _ _ nn80
      replace nn8f1 := hfq3 _ _ _ nn81 nn8f1
      replace nn81 := hkq3 _ _ _ nn81
      replace ht := Tab.keep ht hkq3
      clear hkq3 hfq3 hsq3
      have hzq3 : w.heap.size ≤ wq3.heap.size := hBq3.size
      (try simp only [Act.put, List.setIfInBounds_toArray, List.set_cons_zero, List.set_cons_succ])
      refine wpAnyH_ready (rs := [7]) (by kernel_rfl) (by simp) ?_
      refine AllReadyH.cons (o := ⟨some 27, _, _, _, _, none⟩) rfl (fun K hK => ?_) (AllReadyH.nil)
      go_simp
      (go_at_call 101; refine useF w ((by first | (with_reducible exact s1.out _ ht) | (with_reducible exact s2.out _ ht))) (by go_grown) ?_; rintro e wq4 rfl hBq4 hkq4 hfq4 hsq4)
      have hOld := hHeld; clear hHeld; refine hK.out _ _ ?_ (fun hHeld => ?_)
      · exact ⟨hkq4 _ _ _ (hOld.1), hkq4 _ _ _ (hOld.2.1), hkq4 _ _ _ (hOld.2.2.1), hkq4 _ _ _ (hOld.2.2.2.1), hfq4 _ _ _ (hOld.2.2.1) (hOld.2.2.2.2.1), hfq4 _ _ _ (hOld.2.2.2.1) (hOld.2.2.2.2.2)⟩
      clear hK K hOld
      replace nn9f0 := hfq4 _ _ _ nn90 nn9f0
      replace nn90 := hkq4 _ _ _ nn90
      replace nn9f1 := hfq4 _ _ _ nn91 nn9f1
      replace nn91 := hkq4 _ _ _ nn91
      replace nn8f0 := hfq4 _ _ _ nn80 nn8f0
      replace nn80 := hkq4 _ _ _ nn80
      replace nn8f1 := hfq4 _ _ _ nn81 nn8f1
      replace nn81 := hkq4 _ _ _ nn81
      replace ht := Tab.keep ht hkq4
      clear hkq4 hfq4 hsq4
      have hzq4 : w.heap.size ≤ wq4.heap.size := hBq4.size
      (try simp only [Act.put, List.setIfInBounds_toArray, List.set_cons_zero, List.set_cons_succ])
      refine wpAnyH_ready (rs := [10]) (by kernel_rfl) (by simp) ?_
      refine AllReadyH.cons (o := ⟨none, _, _, _, _, none⟩) rfl (fun K hK => ?_) (AllReadyH.nil)
      (try dsimp only at hHeld)
      have hBq5 : Below w.heap.size w ((wq4.setCell ⟨wq1.heap.size, 0, none⟩ (.int .i64 f1)).setCell ⟨wq1.heap.size, 1, none⟩ (.int .i64 f2)) := by go_grown
      have hOld := hHeld; clear hHeld; go_simp; refine hK.out _ _ ?_ (fun hHeld => ?_)
      · exact ⟨two_other (hOld.1) (Nat.ne_of_gt nn8l0), two_other (hOld.2.1) (Nat.ne_of_gt nn8l0), two_other (hOld.2.2.1) (Nat.ne_of_gt nn8l1), two_other (hOld.2.2.2.1) (Nat.ne_of_gt nn8l1), two_fz (hOld.2.2.2.2.1), two_fz (hOld.2.2.2.2.2)⟩
      clear hK K hOld
      (try dsimp only at hHeld)
      replace nn9f0 := two_fz (b := wq1.heap.size) (x := .int .i64 f1) (y := .int .i64 f2) nn9f0
      replace nn90 := two_other (b := wq1.heap.size) (x := .int .i64 f1) (y := .int .i64 f2) nn90 (by omega)
      replace nn9f1 := two_fz (b := wq1.heap.size) (x := .int .i64 f1) (y := .int .i64 f2) nn9f1
      replace nn91 := two_other (b := wq1.heap.size) (x := .int .i64 f1) (y := .int .i64 f2) nn91 (by omega)
      replace nn8f0 := two_fz (b := wq1.heap.size) (x := .int .i64 f1) (y := .int .i64 f2) nn8f0
      replace nn80 := two_0 (x := .int .i64 f1) (y := .int .i64 f2) nn80
      replace nn8f1 := two_fz (b := wq1.heap.size) (x := .int .i64 f1) (y := .int .i64 f2) nn8f1
      replace nn81 := two_1 (x := .int .i64 f1) (y := .int .i64 f2) nn81
      replace ht := Tab.two (b := wq1.heap.size) (x := .int .i64 f1) (y := .int .i64 f2) ht (by omega)
      generalize ((wq4.setCell ⟨wq1.heap.size, 0, none⟩ (.int .i64 f1)).setCell ⟨wq1.heap.size, 1, none⟩ (.int .i64 f2)) = wq5 at *
      have hzq5 : w.heap.size ≤ wq5.heap.size := hBq5.size
      (try simp only [Act.put, List.setIfInBounds_toArray, List.set_cons_zero, List.set_cons_succ])
      refine wpAnyH_ready (rs := [11]) (by kernel_rfl) (by simp) ?_
      refine AllReadyH.cons (o := ⟨none, _, _, _, _, none⟩) rfl (fun K hK => ?_) (AllReadyH.nil)
      (try dsimp only at hHeld)
      have hBq6 : Below w.heap.size w ((wq5.setCell ⟨wq0.heap.size, 0, none⟩ (.int .i64 g1)).setCell ⟨wq0.heap.size, 1, none⟩ (.int .i64 g2)) := by go_grown
      have hOld := hHeld; clear hHeld; go_simp; refine hK.out _ _ ?_ (fun hHeld => ?_)
      · exact ⟨two_other (hOld.1) (Nat.ne_of_gt nn9l0), two_other (hOld.2.1) (Nat.ne_of_gt nn9l0), two_other (hOld.2.2.1) (Nat.ne_of_gt nn9l1), two_other (hOld.2.2.2.1) (Nat.ne_of_gt nn9l1), two_fz (hOld.2.2.2.2.1), two_fz (hOld.2.2.2.2.2)⟩
      clear hK K hOld
      (try dsimp only at hHeld)
      replace nn9f0 := two_fz (b := wq0.heap.size) (x := .int .i64 g1) (y := .int .i64 g2) nn9f0
      replace nn90 := two_0 (x := .int .i64 g1) (y := .int .i64 g2) nn90
      replace nn9f1 := two_fz (b := wq0.heap.size) (x := .int .i64 g1) (y := .int .i64 g2) nn9f1
      replace nn91 := two_1 (x := .int .i64 g1) (y := .int .i64 g2) nn91
      replace nn8f0 := two_fz (b := wq0.heap.size) (x := .int .i64 g1) (y := .int .i64 g2) nn8f0
      replace nn80 := two_other (b := wq0.heap.size) (x := .int .i64 g1) (y := .int .i64 g2) nn80 (by omega)
      replace nn8f1 := two_fz (b := wq0.heap.size) (x := .int .i64 g1) (y := .int .i64 g2) nn8f1
      replace nn81 := two_other (b := wq0.heap.size) (x := .int .i64 g1) (y := .int .i64 g2) nn81 (by omega)
      replace ht := Tab.two (b := wq0.heap.size) (x := .int .i64 g1) (y := .int .i64 g2) ht (by omega)
      generalize ((wq5.setCell ⟨wq0.heap.size, 0, none⟩ (.int .i64 g1)).setCell ⟨wq0.heap.size, 1, none⟩ (.int .i64 g2)) = wq6 at *
      have hzq6 : w.heap.size ≤ wq6.heap.size := hBq6.size
      (try simp only [Act.put, List.setIfInBounds_toArray, List.set_cons_zero, List.set_cons_succ])
      refine wpAnyH_done (by kernel_rfl) ?_ _
      go_wp2_with fail
      go_meet
      obtain ⟨x0, x1, z0, z1, zf0, zf1⟩ := hHeld
      exact ⟨_, _, rfl, rfl, ht, ⟨x0, x1, z0, z1, zf0, zf1, nn80, nn81, nn90, nn91⟩, by assumption⟩
  case rest =>
    obtain ⟨Bf, Bg, rfl, rfl, ht, ⟨x0, x1, z0, z1, zf0, zf1, q0, q1, q2, q3⟩, hB⟩ := hcut
    have hz := hB.size
    have hxc : w.heap.size + 1 < wc.heap.size := World.block_lt_of_cell? _ _ z0
    have hBc : B < wc.heap.size := by omega
    go_upto_block 0 with fail
    have hO : LO w.heap.size wc.heap.size xl xh (min f1 g1, max f2 g2) (wc.alloc (.cells #[.int .i64 (min f1 g1), .int .i64 (max f2 g2)] 24)) := ⟨keepA _ x0, keepA _ x1, keepA _ z0, keepA _ z1, keepAF _ z0 zf0, keepAF _ z1 zf1, by simp [go_sem], by simp [go_sem], by simp [go_sem], by simp [go_sem]⟩
    have ht2 := Tab.alloc (.cells #[.int .i64 (min f1 g1), .int .i64 (max f2 g2)] 24) ht
    have hB2 : Below w.heap.size w (wc.alloc (.cells #[.int .i64 (min f1 g1), .int .i64 (max f2 g2)] 24)) := by go_grown
    clear x0 x1 z0 z1 zf0 zf1 q0 q1 q2 q3 ht hB
    generalize wc.heap.size = Bo at *
    go_cut [] (fun wx => LO w.heap.size Bo xl xh (r1, r2) wx ∧ Below w.heap.size w wx)
    case first => as_aux_lemma =>
      go_wp2_with fail
      go_loopw [41] (fun s wx => ∃ k : Nat, s = .int .i64 k ∧ k ≤ l.length ∧ Tab B o l wx ∧ LO w.heap.size Bo xl xh (accL l xl xh (min f1 g1, max f2 g2) k) wx ∧ Below w.heap.size w wx) (fun s _ => (l.length - intOf s).toNat)
      case atStart => exact ⟨0, rfl, by omega, ht2, hO, hB2⟩
      case round =>
        clear ht2 hO hB2
        obtain ⟨k, rfl, hk, ht, hO, hB⟩ := hrel
        by_cases ke : k = l.length
        · subst ke
          rw [hr.out] at hO
          clear hr
          go_wp2_with fail
          go_meet
          exact ⟨hO, hB⟩
        · have hk1 : k < l.length := by omega
          obtain ⟨p, hp⟩ : ∃ p, l[k]? = some p := ⟨l[k], List.getElem?_eq_getElem hk1⟩
          have hst := acc_step (xl := xl) (xh := xh) (s := (min f1 g1, max f2 g2)) hp
          obtain ⟨c0, c1, c2⟩ := ht k p hp
          obtain ⟨hb1, hb2, hb3⟩ := hp1.out p (List.mem_of_getElem? hp)
          obtain ⟨a, lo, hi⟩ := p
          dsimp only at hb1 hb2 hb3 c0 c1 c2 hst
          have hi1 := fun W => in_any xl xh a W ⟨hxx.out.1, hxx.out.2, hb1⟩
          obtain ⟨x0, x1, z0, z1, zf0, zf1, q0, q1, qf0, qf1⟩ := hO
          generalize accL l xl xh (min f1 g1, max f2 g2) k = A at *
          obtain ⟨A1, A2⟩ := A
          dsimp only at q0 q1 hst
          have hk0 : (0 : Int) ≤ k := by omega
          have hk2 : (k : Int) < l.length := by omega
          have hz := hB.size
          have hob : Bo < wr.heap.size := World.block_lt_of_cell? _ _ q0
          have hbb : w.heap.size + 1 < wr.heap.size := World.block_lt_of_cell? _ _ z0
          have hB2 : Below w.heap.size w (wr.alloc (.cells #[.int .i64 a, .int .i64 lo, .int .i64 hi] 63)) := by go_grown
          have ht2 := Tab.alloc (.cells #[.int .i64 a, .int .i64 lo, .int .i64 hi] 63) ht
          have p0 : (wr.alloc (.cells #[.int .i64 a, .int .i64 lo, .int .i64 hi] 63)).cell? ⟨wr.heap.size, 0, none⟩ = some (.int .i64 a) := by simp [go_sem]
          have p1 : (wr.alloc (.cells #[.int .i64 a, .int .i64 lo, .int .i64 hi] 63)).cell? ⟨wr.heap.size, 1, none⟩ = some (.int .i64 lo) := by simp [go_sem]
          have p2 : (wr.alloc (.cells #[.int .i64 a, .int .i64 lo, .int .i64 hi] 63)).cell? ⟨wr.heap.size, 2, none⟩ = some (.int .i64 hi) := by simp [go_sem]
          have y0 := keepA (.cells #[.int .i64 a, .int .i64 lo, .int .i64 hi] 63) x0
          have y1 := keepA (.cells #[.int .i64 a, .int .i64 lo, .int .i64 hi] 63) x1
          cases e : inS xl xh a
          all_goals
            rw [e] at hi1 hst
            replace hi1 := hid hi1
            replace hst := hid hst
            clear hr hp hb1 hb2 hb3
            go_wp2_with fail
            refine useF w (hi1.out _) (by go_grown) ?_; rintro e1 w1 rfl hB1 hk1' hf1 hs1
            replace ht2 := Tab.keep ht2 hk1'
            replace zf0 := hf1 _ _ _ (keepA (.cells #[.int .i64 a, .int .i64 lo, .int .i64 hi] 63) z0) (keepAF (.cells #[.int .i64 a, .int .i64 lo, .int .i64 hi] 63) z0 zf0)
            replace zf1 := hf1 _ _ _ (keepA (.cells #[.int .i64 a, .int .i64 lo, .int .i64 hi] 63) z1) (keepAF (.cells #[.int .i64 a, .int .i64 lo, .int .i64 hi] 63) z1 zf1)
            replace qf0 := hf1 _ _ _ (keepA (.cells #[.int .i64 a, .int .i64 lo, .int .i64 hi] 63) q0) (keepAF (.cells #[.int .i64 a, .int .i64 lo, .int .i64 hi] 63) q0 qf0)
            replace qf1 := hf1 _ _ _ (keepA (.cells #[.int .i64 a, .int .i64 lo, .int .i64 hi] 63) q1) (keepAF (.cells #[.int .i64 a, .int .i64 lo, .int .i64 hi] 63) q1 qf1)
            replace x0 := hk1' _ _ _ (keepA (.cells #[.int .i64 a, .int .i64 lo, .int .i64 hi] 63) x0); replace x1 := hk1' _ _ _ (keepA (.cells #[.int .i64 a, .int .i64 lo, .int .i64 hi] 63) x1)
            replace z0 := hk1' _ _ _ (keepA (.cells #[.int .i64 a, .int .i64 lo, .int .i64 hi] 63) z0); replace z1 := hk1' _ _ _ (keepA (.cells #[.int .i64 a, .int .i64 lo, .int .i64 hi] 63) z1)
            replace q0 := hk1' _ _ _ (keepA (.cells #[.int .i64 a, .int .i64 lo, .int .i64 hi] 63) q0); replace q1 := hk1' _ _ _ (keepA (.cells #[.int .i64 a, .int .i64 lo, .int .i64 hi] 63) q1)
            replace p0 := hk1' _ _ _ p0; replace p1 := hk1' _ _ _ p1; replace p2 := hk1' _ _ _ p2
            clear hk1' hf1 y0 y1 c0 c1 c2 ht
            go_wp2_with fail
            go_roundw
            case rel =>
              first
              | exact ⟨k + 1, by go_num, by omega, ht2, by rw [hst.out, if_neg (by simp)]; exact ⟨x0, x1, z0, z1, zf0, zf1, q0, q1, qf0, qf1⟩, by assumption⟩
              | exact ⟨k + 1, by go_num, by omega, Tab.two ht2 (by omega), by rw [hst.out, if_pos (by simp)]; exact ⟨two_other x0 (by omega), two_other x1 (by omega), two_other z0 (by omega), two_other z1 (by omega), two_fz zf0, two_fz zf1, two_0 q0, two_1 q1, two_fz qf0, two_fz qf1⟩, by go_grown⟩
            case measure => first | (simp [intOf]; done) | (simp [intOf]; omega)
    case rest =>
      obtain ⟨⟨x0, x1, z0, z1, zf0, zf1, q0, q1, qf0, qf1⟩, hB⟩ := hcut
      have hqb := World.block_lt_of_cell? _ _ q0
      go_wp2_with fail
      all_goals (refine' bodyPost_ret (res_st_t rfl isA_S isS_S rfl ?_ ?_) rfl ?_; rotate_left 2; (· ((try simp only [World.cell?_drew]); first | (with_reducible exact two_0 (by assumption)) | (with_reducible exact two_1 (by assumption)) | (with_reducible exact two_other (two_0 (by assumption)) (by simp)) | (with_reducible exact two_other (two_1 (by assumption)) (by simp)) | (with_reducible exact two_0 (two_other (by assumption) (by simp))) | (with_reducible exact two_1 (two_other (by assumption) (by simp))) | (simp (maxDischargeDepth := 8) [go_sem, hHeld]; rfl) | (simp (maxDischargeDepth := 8) [go_sem, *]; rfl) | (simp (maxDischargeDepth := 8) [go_sem, *]; done))); (· ((try simp only [World.cell?_drew]); first | (with_reducible exact two_0 (by assumption)) | (with_reducible exact two_1 (by assumption)) | (with_reducible exact two_other (two_0 (by assumption)) (by simp)) | (with_reducible exact two_other (two_1 (by assumption)) (by simp)) | (with_reducible exact two_0 (two_other (by assumption) (by simp))) | (with_reducible exact two_1 (two_other (by assumption) (by simp))) | (simp (maxDischargeDepth := 8) [go_sem, hHeld]; rfl) | (simp (maxDischargeDepth := 8) [go_sem, *]; rfl) | (simp (maxDischargeDepth := 8) [go_sem, *]; done))); refine ⟨ret_r ?_, by go_grown⟩; (exact hpq.out.symm))
end Go.Proofs.Ytjleflfncijnpaa
