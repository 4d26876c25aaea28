/- A line of a table, of the document's answer. -/
import Derived.Deep.DeepCutAuto
import Derived.Deep.CutBlock
import Derived.Test.YtjleflfncijnpaaRows
import Derived.Test.YtjleflfncijnpaaBase
import Derived.Test.YtjleflfncijnpaaFacts
import Derived.Test.YtjleflfncijnpaaTwo
import Derived.Deep.RegionHeld3
import Derived.Deep.RegionWith
import Derived.Deep.QuietTactic
import Derived.BigQuiet
import Derived.Test.YtjleflfncijnpaaW
import Derived.Test.YtjleflfncijnpaaAsks
import Derived.Test.YtjleflfncijnpaaOut
import Derived.Test.YtjleflfncijnpaaSeq
import Derived.Test.YtjleflfncijnpaaTwo
import Derived.Test.YtjleflfncijnpaaQuo
import Derived.Test.YtjleflfncijnpaaTimes
import Derived.Test.YtjleflfncijnpaaRound
import Derived.Test.YtjleflfncijnpaaScaleM
import Derived.Test.YtjleflfncijnpaaQuoL
import Derived.Test.YtjleflfncijnpaaTurnM
import Derived.Test.YtjleflfncijnpaaTabM
import Derived.Test.YtjleflfncijnpaaRatioR
import Derived.Test.YtjleflfncijnpaaLookM
import Derived.Test.YtjleflfncijnpaaCeil
import Derived.Test.YtjleflfncijnpaaThree
import Derived.Test.YtjleflfncijnpaaTable
import Derived.Test.YtjleflfncijnpaaLookA
import Derived.Test.YtjleflfncijnpaaLookB
import Derived.Test.YtjleflfncijnpaaLookC
import Derived.Test.YtjleflfncijnpaaRLookM
set_option linter.unusedVariables false
set_option linter.unusedSimpArgs false
set_option maxHeartbeats 4000000
set_option maxRecDepth 100000
namespace Go.Proofs.Ytjleflfncijnpaa
open Go Go.RowKit
theorem bound_any (a lo hi : Int) (u : Bool) (w : World) :
 Calls Try.prog 126 #[.agg #[.int .i64 a, .int .i64 lo, .int .i64 hi], .bool u] w fun e w' => e = .returned (.int .i64 (bnd u (a, lo, hi))) ∧ Below w.heap.size w w' := by
 cases u
 all_goals
  go_enter Try.func126, Try.ntmps126
  go_wp2_with fail
  go_ret
  exact ⟨rfl, by go_grown⟩
/-- The cells of both results. -/
def LZ (b : Nat) : World → Prop := (fun w' => w'.cell? ⟨b, 0, none⟩ = some (.int .i64 0) ∧ w'.cell? ⟨b, 1, none⟩ = some (.int .u64 0) ∧ w'.frozen? ⟨b, 0, none⟩ = false ∧ w'.frozen? ⟨b, 1, none⟩ = false ∧ w'.cell? ⟨b + 1, 0, none⟩ = some (.int .i64 0) ∧ w'.cell? ⟨b + 1, 1, none⟩ = some (.int .u64 0) ∧ w'.frozen? ⟨b + 1, 0, none⟩ = false ∧ w'.frozen? ⟨b + 1, 1, none⟩ = false)
/-- The cells of both results, of the rise, and of how far it is. -/
def LM (b Br Bf : Nat) (R F : Int) : World → Prop := (fun w' => w'.cell? ⟨b, 0, none⟩ = some (.int .i64 0) ∧ w'.cell? ⟨b, 1, none⟩ = some (.int .u64 0) ∧ w'.frozen? ⟨b, 0, none⟩ = false ∧ w'.frozen? ⟨b, 1, none⟩ = false ∧ w'.cell? ⟨b + 1, 0, none⟩ = some (.int .i64 0) ∧ w'.cell? ⟨b + 1, 1, none⟩ = some (.int .u64 0) ∧ w'.frozen? ⟨b + 1, 0, none⟩ = false ∧ w'.frozen? ⟨b + 1, 1, none⟩ = false ∧ w'.cell? ⟨Br, 0, none⟩ = some (.int .i64 (hiW R)) ∧ w'.cell? ⟨Br, 1, none⟩ = some (.int .u64 (loW R)) ∧ w'.cell? ⟨Bf, 0, none⟩ = some (.int .i64 (hiW F)) ∧ w'.cell? ⟨Bf, 1, none⟩ = some (.int .u64 (loW F)))
theorem rlineSeg (l : List (Int × Int × Int)) (n : Int) (k : Nat) (hk : k ≤ l.length) (ha : ∀ i p, i < k → l[i]? = some p → p.1 < n) (h : k = l.length ∨ ∃ p, l[k]? = some p ∧ n ≤ p.1) : rseg l n = k := rseg_eq l k hk ha h
theorem line_first {l : List (Int × Int × Int)} {u : Bool} {n : Int} {p : Int × Int × Int} (hp : l[0]? = some p) (h : n ≤ p.1) : rline l u n = (bnd u p, bnd u p) := by
 have : rseg l n = 0 := rseg_eq l 0 (by omega) (fun i p hi => by omega) (Or.inr ⟨p, hp, h⟩)
 unfold rline
 rw [if_pos this, hp]
theorem line_last {l : List (Int × Int × Int)} {u : Bool} {n : Int} {p : Int × Int × Int} (hp : l[l.length - 1]? = some p) (h1 : 1 ≤ l.length) (h : ∀ i p, i < l.length → l[i]? = some p → p.1 < n) : rline l u n = (bnd u p, bnd u p) := by
 have : rseg l n = l.length := rseg_eq l _ (by omega) h (Or.inl rfl)
 unfold rline
 rw [if_neg (by omega), if_pos this, hp]
theorem line_mid {l : List (Int × Int × Int)} {u : Bool} {n : Int} {p q : Int × Int × Int} {j : Nat} (hp : l[j]? = some p) (hq : l[j + 1]? = some q) (h : ∀ i p, i < j + 1 → l[i]? = some p → p.1 < n) (hn : n ≤ q.1) :
 rline l u n = (lowL (bnd u p) (bnd u q) n p.1 q.1, highL (bnd u p) (bnd u q) n p.1 q.1) := by
 have hlt : j + 1 < l.length := (List.getElem?_eq_some_iff.1 hq).1
 have : rseg l n = j + 1 := rseg_eq l _ (by omega) h (Or.inr ⟨q, hq, hn⟩)
 unfold rline
 rw [this, if_neg (by omega), if_neg (by omega), Nat.add_sub_cancel, hp, hq]
theorem bnd_bd {u : Bool} {p : Int × Int × Int} (h : -2305843009213693952 ≤ p.1 ∧ p.1 ≤ 2305843009213693952 ∧ -2305843009213693952 ≤ p.2.1 ∧ p.2.1 ≤ 2305843009213693952 ∧ -2305843009213693952 ≤ p.2.2 ∧ p.2.2 ≤ 2305843009213693952) :
 -2305843009213693952 ≤ bnd u p ∧ bnd u p ≤ 2305843009213693952 := by
 unfold bnd
 cases u <;> simp <;> omega
theorem mul_bd2 {x y : Int} (hx : -4611686018427387904 ≤ x ∧ x ≤ 4611686018427387904) (hy : 0 ≤ y ∧ y ≤ 4611686018427387904) : -21267647932558653966460912964485513216 ≤ x * y ∧ x * y ≤ 21267647932558653966460912964485513216 := by
 by_cases c : 0 ≤ x
 · have := mul_bd (a := 4611686018427387904) (b := 4611686018427387904) (show 0 ≤ x ∧ x ≤ 4611686018427387904 by omega) hy
   omega
 · have := mul_bd (x := -x) (a := 4611686018427387904) (b := 4611686018427387904) (show 0 ≤ -x ∧ -x ≤ 4611686018427387904 by omega) hy
   rw [Int.neg_mul] at this
   omega
/-- Behind the loop: both results are a value. -/
theorem line_go (l : List (Int × Int × Int)) (u : Bool) (n : Int) (B o cap : Nat) (w : World) (ht : Tab B o l w) (hn : 1 ≤ l.length ∧ l.length ≤ 64) (r1 r2 : Int) (hr : Hid (rline l u n = (r1, r2))) (hx : (-9223372036854775808 ≤ n ∧ n ≤ 9223372036854775807))
 (hp1 : Hid (∀ p ∈ l, -2305843009213693952 ≤ p.1 ∧ p.1 ≤ 2305843009213693952 ∧ -2305843009213693952 ≤ p.2.1 ∧ p.2.1 ≤ 2305843009213693952 ∧ -2305843009213693952 ≤ p.2.2 ∧ p.2.2 ≤ 2305843009213693952)) :
 Calls Try.prog 102 #[.slice (some ⟨B, o, none⟩) l.length cap, .bool u, .int .i64 n] w fun e w' => e = .returned (.tuple #[.agg #[.int .i64 (hiW r1), .int .u64 (loW r1)], .agg #[.int .i64 (hiW r2), .int .u64 (loW r2)] ]) ∧ Below w.heap.size w w' := by
 have hBw : B < w.heap.size := Tab.lt ht (List.getElem?_eq_getElem (show 0 < l.length by omega))
 obtain ⟨x1, x2⟩ := hx
 go_enter Try.func102, Try.ntmps102
 go_upto_region 1 with fail
 obtain ⟨W1, hW1⟩ : ∃ W, W = ((w.alloc (.cells #[.int .i64 0, .int .u64 0] 78)).alloc (.cells #[.int .i64 0, .int .u64 0] 78)) := ⟨_, rfl⟩
 rw [← hW1]
 have hz : LZ w.heap.size W1 := by rw [hW1]; exact ⟨by simp [go_sem], by simp [go_sem], by simp [go_sem], by simp [go_sem], by simp [go_sem], by simp [go_sem], by simp [go_sem], by simp [go_sem]⟩
 have hB1 : Below w.heap.size w W1 := by rw [hW1]; go_grown
 replace ht : Tab B o l W1 := by rw [hW1]; exact Tab.alloc _ (Tab.alloc _ ht)
 clear hW1
 have hl0 : (0 : Int) < l.length := by omega
 obtain ⟨p, hp⟩ := get_some (show 0 < l.length by omega)
 have hpb := hp1.out _ (List.mem_of_getElem? hp)
 obtain ⟨c0, c1, c2⟩ := ht 0 p hp
 obtain ⟨a, lo, hi⟩ := p
 simp only [Nat.zero_mul, Nat.add_zero] at c0 c1 c2
 have hBW : B < W1.heap.size := World.block_lt_of_cell? _ _ c0
 by_cases c : n ≤ a
 · have e := line_first (u := u) hp c
   have hv := bnd_bd (u := u) hpb
   rw [hr.out] at e
   have hr12 : r1 = bnd u (a, lo, hi) ∧ r2 = bnd u (a, lo, hi) := by injection e with e1 e2; exact ⟨e1, e2⟩
   have s1 := hid (fun W => bound_any a lo hi u W)
   generalize bnd u (a, lo, hi) = V at *
   replace hr12 := hid hr12
   have s2 := hid (fun W => wide_any V W (by omega))
   have cd : decide (n ≤ a) = true := decide_eq_true c
   obtain ⟨za0, za1, zaf0, zaf1, zb0, zb1, zbf0, zbf1⟩ := hz
   clear hr e hv hpb c hp ht hp1
   go_wp2_with fail
   refine useF w (s1.out _) (by go_grown) ?_; rintro e w21 rfl hB21 hk21 hf21 hs21; clear hs21
   replace zaf0 : w21.frozen? ⟨w.heap.size, 0, none⟩ = false := hf21 _ _ (.int .i64 0) (za0) (zaf0)
   replace za0 : w21.cell? ⟨w.heap.size, 0, none⟩ = some (.int .i64 0) := hk21 _ _ _ (za0)
   replace zaf1 : w21.frozen? ⟨w.heap.size, 1, none⟩ = false := hf21 _ _ (.int .u64 0) (za1) (zaf1)
   replace za1 : w21.cell? ⟨w.heap.size, 1, none⟩ = some (.int .u64 0) := hk21 _ _ _ (za1)
   replace zbf0 : w21.frozen? ⟨w.heap.size + 1, 0, none⟩ = false := hf21 _ _ (.int .i64 0) (zb0) (zbf0)
   replace zb0 : w21.cell? ⟨w.heap.size + 1, 0, none⟩ = some (.int .i64 0) := hk21 _ _ _ (zb0)
   replace zbf1 : w21.frozen? ⟨w.heap.size + 1, 1, none⟩ = false := hf21 _ _ (.int .u64 0) (zb1) (zbf1)
   replace zb1 : w21.cell? ⟨w.heap.size + 1, 1, none⟩ = some (.int .u64 0) := hk21 _ _ _ (zb1)
   (try clear zab); have zab : w.heap.size < w21.heap.size := World.block_lt_of_cell? w21 ⟨w.heap.size, 0, none⟩ za0
   (try clear zbb); have zbb : w.heap.size + 1 < w21.heap.size := World.block_lt_of_cell? w21 ⟨w.heap.size + 1, 0, none⟩ zb0
   clear hk21 hf21
   go_wp2_with fail
   refine useF w (s2.out _) (by go_grown) ?_; rintro e w22 rfl hB22 hk22 hf22 hs22; clear hs22
   replace zaf0 : w22.frozen? ⟨w.heap.size, 0, none⟩ = false := hf22 _ _ (.int .i64 0) (za0) (zaf0)
   replace za0 : w22.cell? ⟨w.heap.size, 0, none⟩ = some (.int .i64 0) := hk22 _ _ _ (za0)
   replace zaf1 : w22.frozen? ⟨w.heap.size, 1, none⟩ = false := hf22 _ _ (.int .u64 0) (za1) (zaf1)
   replace za1 : w22.cell? ⟨w.heap.size, 1, none⟩ = some (.int .u64 0) := hk22 _ _ _ (za1)
   replace zbf0 : w22.frozen? ⟨w.heap.size + 1, 0, none⟩ = false := hf22 _ _ (.int .i64 0) (zb0) (zbf0)
   replace zb0 : w22.cell? ⟨w.heap.size + 1, 0, none⟩ = some (.int .i64 0) := hk22 _ _ _ (zb0)
   replace zbf1 : w22.frozen? ⟨w.heap.size + 1, 1, none⟩ = false := hf22 _ _ (.int .u64 0) (zb1) (zbf1)
   replace zb1 : w22.cell? ⟨w.heap.size + 1, 1, none⟩ = some (.int .u64 0) := hk22 _ _ _ (zb1)
   (try clear zab); have zab : w.heap.size < w22.heap.size := World.block_lt_of_cell? w22 ⟨w.heap.size, 0, none⟩ za0
   (try clear zbb); have zbb : w.heap.size + 1 < w22.heap.size := World.block_lt_of_cell? w22 ⟨w.heap.size + 1, 0, none⟩ zb0
   clear hk22 hf22
   have zab22 := zab
   have zbb22 := zbb
   have zaf0' : (w22.alloc (.cells #[.int .i64 (hiW V), .int .u64 (loW V)] 78)).frozen? ⟨w.heap.size, 0, none⟩ = false := (keepAF _ za0 zaf0)
   have za0' : (w22.alloc (.cells #[.int .i64 (hiW V), .int .u64 (loW V)] 78)).cell? ⟨w.heap.size, 0, none⟩ = some (.int .i64 0) := (keepA _ za0)
   have zaf1' : (w22.alloc (.cells #[.int .i64 (hiW V), .int .u64 (loW V)] 78)).frozen? ⟨w.heap.size, 1, none⟩ = false := (keepAF _ za1 zaf1)
   have za1' : (w22.alloc (.cells #[.int .i64 (hiW V), .int .u64 (loW V)] 78)).cell? ⟨w.heap.size, 1, none⟩ = some (.int .u64 0) := (keepA _ za1)
   have zbf0' : (w22.alloc (.cells #[.int .i64 (hiW V), .int .u64 (loW V)] 78)).frozen? ⟨w.heap.size + 1, 0, none⟩ = false := (keepAF _ zb0 zbf0)
   have zb0' : (w22.alloc (.cells #[.int .i64 (hiW V), .int .u64 (loW V)] 78)).cell? ⟨w.heap.size + 1, 0, none⟩ = some (.int .i64 0) := (keepA _ zb0)
   have zbf1' : (w22.alloc (.cells #[.int .i64 (hiW V), .int .u64 (loW V)] 78)).frozen? ⟨w.heap.size + 1, 1, none⟩ = false := (keepAF _ zb1 zbf1)
   have zb1' : (w22.alloc (.cells #[.int .i64 (hiW V), .int .u64 (loW V)] 78)).cell? ⟨w.heap.size + 1, 1, none⟩ = some (.int .u64 0) := (keepA _ zb1)
   have v0 : (w22.alloc (.cells #[.int .i64 (hiW V), .int .u64 (loW V)] 78)).cell? ⟨w22.heap.size, 0, none⟩ = some (.int .i64 (hiW V)) := (show (w22.alloc (.cells #[.int .i64 (hiW V), .int .u64 (loW V)] 78)).cell? ⟨w22.heap.size, 0, none⟩ = some (.int .i64 (hiW V)) by simp [go_sem])
   have v1 : (w22.alloc (.cells #[.int .i64 (hiW V), .int .u64 (loW V)] 78)).cell? ⟨w22.heap.size, 1, none⟩ = some (.int .u64 (loW V)) := (show (w22.alloc (.cells #[.int .i64 (hiW V), .int .u64 (loW V)] 78)).cell? ⟨w22.heap.size, 1, none⟩ = some (.int .u64 (loW V)) by simp [go_sem])
   go_wp2_with fail
   replace zaf0 := zaf0'; clear zaf0'
   replace za0 := za0'; clear za0'
   replace zaf1 := zaf1'; clear zaf1'
   replace za1 := za1'; clear za1'
   replace zbf0 := zbf0'; clear zbf0'
   replace zb0 := zb0'; clear zb0'
   replace zbf1 := zbf1'; clear zbf1'
   replace zb1 := zb1'; clear zb1'
   have hBx : Below w.heap.size w (w22.alloc (.cells #[.int .i64 (hiW V), .int .u64 (loW V)] 78)) := by go_grown
   generalize (w22.alloc (.cells #[.int .i64 (hiW V), .int .u64 (loW V)] 78)) = W5 at *
   generalize w22.heap.size = Bv at *
   refine wp_region_held_drew (S := (fun w' => w'.cell? ⟨Bv, 0, none⟩ = some (.int .i64 (hiW V)) ∧ w'.cell? ⟨Bv, 1, none⟩ = some (.int .u64 (loW V)))) (by kernel_rfl) (by (try dsimp only); simp only [World.cell?_drew, World.frozen?_drew]; exact ⟨v0, v1⟩) (fun hHeld => ?_)
   have hBq0 : Below w.heap.size w W5.drew := by go_grown
   (try dsimp only at hHeld)
   clear v0 v1
   replace za0 : W5.drew.cell? ⟨w.heap.size, 0, none⟩ = some (.int .i64 0) := by rw [World.cell?_drew]; exact za0
   replace zaf0 : W5.drew.frozen? ⟨w.heap.size, 0, none⟩ = false := by rw [World.frozen?_drew]; exact zaf0
   replace za1 : W5.drew.cell? ⟨w.heap.size, 1, none⟩ = some (.int .u64 0) := by rw [World.cell?_drew]; exact za1
   replace zaf1 : W5.drew.frozen? ⟨w.heap.size, 1, none⟩ = false := by rw [World.frozen?_drew]; exact zaf1
   replace zb0 : W5.drew.cell? ⟨w.heap.size + 1, 0, none⟩ = some (.int .i64 0) := by rw [World.cell?_drew]; exact zb0
   replace zbf0 : W5.drew.frozen? ⟨w.heap.size + 1, 0, none⟩ = false := by rw [World.frozen?_drew]; exact zbf0
   replace zb1 : W5.drew.cell? ⟨w.heap.size + 1, 1, none⟩ = some (.int .u64 0) := by rw [World.cell?_drew]; exact zb1
   replace zbf1 : W5.drew.frozen? ⟨w.heap.size + 1, 1, none⟩ = false := by rw [World.frozen?_drew]; exact zbf1
   generalize W5.drew = wq0 at *
   have hzq0 : w.heap.size ≤ wq0.heap.size := hBq0.size
   (refine wpAnyH_take (i := 0) (oi := ⟨some 27, _, _, _, _, none⟩) (v := ?_) rfl (by kernel_rfl) (by kernel_rfl) (by kernel_rfl) (fun _ _ _ h => h) (Or.inl ⟨by rfl, ?_⟩) hHeld ?_; rotate_left; (· (intro w9 hSw; (try dsimp only at hSw); go_simp; (try with_reducible rfl))))
   (try simp only [Act.put, List.setIfInBounds_toArray, List.set_cons_zero, List.set_cons_succ])
   (refine wpAnyH_take (i := 1) (oi := ⟨some 28, _, _, _, _, none⟩) (v := ?_) rfl (by kernel_rfl) (by kernel_rfl) (by kernel_rfl) (fun _ _ _ h => h) (Or.inl ⟨by rfl, ?_⟩) hHeld ?_; rotate_left; (· (intro w9 hSw; (try dsimp only at hSw); go_simp; (try with_reducible rfl))))
   (try simp only [Act.put, List.setIfInBounds_toArray, List.set_cons_zero, List.set_cons_succ])
   refine wpAnyH_ready (rs := [2]) (by kernel_rfl) (by simp) ?_
   refine AllReadyH.cons (o := ⟨none, _, _, _, _, none⟩) rfl (fun K hK => ?_) (AllReadyH.nil)
   (try dsimp only at hHeld)
   have hBq1 : Below w.heap.size w ((wq0.setCell ⟨w.heap.size, 0, none⟩ (.int .i64 (hiW V))).setCell ⟨w.heap.size, 1, none⟩ (.int .u64 (loW V))) := by go_grown
   have hOld := hHeld; clear hHeld; go_simp; refine hK.out _ _ ?_ (fun hHeld => ?_)
   · exact ⟨two_other (hOld.1) (by omega), two_other (hOld.2) (by omega)⟩
   clear hK K hOld
   (try dsimp only at hHeld)
   replace zaf0 := two_fz (b := w.heap.size) (x := .int .i64 (hiW V)) (y := .int .u64 (loW V)) zaf0
   replace za0 := two_0 (x := .int .i64 (hiW V)) (y := .int .u64 (loW V)) za0
   replace zaf1 := two_fz (b := w.heap.size) (x := .int .i64 (hiW V)) (y := .int .u64 (loW V)) zaf1
   replace za1 := two_1 (x := .int .i64 (hiW V)) (y := .int .u64 (loW V)) za1
   replace zbf0 := two_fz (b := w.heap.size) (x := .int .i64 (hiW V)) (y := .int .u64 (loW V)) zbf0
   replace zb0 := two_other (b := w.heap.size) (x := .int .i64 (hiW V)) (y := .int .u64 (loW V)) zb0 (by omega)
   replace zbf1 := two_fz (b := w.heap.size) (x := .int .i64 (hiW V)) (y := .int .u64 (loW V)) zbf1
   replace zb1 := two_other (b := w.heap.size) (x := .int .i64 (hiW V)) (y := .int .u64 (loW V)) zb1 (by omega)
   generalize ((wq0.setCell ⟨w.heap.size, 0, none⟩ (.int .i64 (hiW V))).setCell ⟨w.heap.size, 1, none⟩ (.int .u64 (loW V))) = wq1 at *
   have hzq1 : w.heap.size ≤ wq1.heap.size := hBq1.size
   (try simp only [Act.put, List.setIfInBounds_toArray, List.set_cons_zero, List.set_cons_succ])
   refine wpAnyH_ready (rs := [3]) (by kernel_rfl) (by simp) ?_
   refine AllReadyH.cons (o := ⟨none, _, _, _, _, none⟩) rfl (fun K hK => ?_) (AllReadyH.nil)
   (try dsimp only at hHeld)
   have hBq2 : Below w.heap.size w ((wq1.setCell ⟨w.heap.size + 1, 0, none⟩ (.int .i64 (hiW V))).setCell ⟨w.heap.size + 1, 1, none⟩ (.int .u64 (loW V))) := by go_grown
   have hOld := hHeld; clear hHeld; go_simp; refine hK.out _ _ ?_ (fun hHeld => ?_)
   · exact ⟨two_other (hOld.1) (by omega), two_other (hOld.2) (by omega)⟩
   clear hK K hOld
   (try dsimp only at hHeld)
   replace zaf0 := two_fz (b := w.heap.size + 1) (x := .int .i64 (hiW V)) (y := .int .u64 (loW V)) zaf0
   replace za0 := two_other (b := w.heap.size + 1) (x := .int .i64 (hiW V)) (y := .int .u64 (loW V)) za0 (by omega)
   replace zaf1 := two_fz (b := w.heap.size + 1) (x := .int .i64 (hiW V)) (y := .int .u64 (loW V)) zaf1
   replace za1 := two_other (b := w.heap.size + 1) (x := .int .i64 (hiW V)) (y := .int .u64 (loW V)) za1 (by omega)
   replace zbf0 := two_fz (b := w.heap.size + 1) (x := .int .i64 (hiW V)) (y := .int .u64 (loW V)) zbf0
   replace zb0 := two_0 (x := .int .i64 (hiW V)) (y := .int .u64 (loW V)) zb0
   replace zbf1 := two_fz (b := w.heap.size + 1) (x := .int .i64 (hiW V)) (y := .int .u64 (loW V)) zbf1
   replace zb1 := two_1 (x := .int .i64 (hiW V)) (y := .int .u64 (loW V)) zb1
   generalize ((wq1.setCell ⟨w.heap.size + 1, 0, none⟩ (.int .i64 (hiW V))).setCell ⟨w.heap.size + 1, 1, none⟩ (.int .u64 (loW V))) = wq2 at *
   have hzq2 : w.heap.size ≤ wq2.heap.size := hBq2.size
   (try simp only [Act.put, List.setIfInBounds_toArray, List.set_cons_zero, List.set_cons_succ])
   refine wpAnyH_done (by kernel_rfl) ?_ _
   go_wp2_with fail
   refine' bodyPost_ret (res_st_st rfl isA_W isS_W isA_W isS_W rfl rfl za0 za1 zb0 zb1) rfl ?_
   exact ⟨by rw [hr12.out.1, hr12.out.2], by go_grown⟩
 · have cd : decide (n ≤ a) = false := decide_eq_false c
   have hall0 : Hid (∀ i p, i < 1 → l[i]? = some p → p.1 < n) := hid (fun i p hi hpi => by
    obtain rfl : i = 0 := by omega
    rw [hp] at hpi; cases hpi; dsimp only; omega)
   clear hpb c hp
   go_wp2_with fail
   go_loopw [9] (fun s wx => ∃ k : Nat, s = .int .i64 k ∧ 1 ≤ k ∧ k ≤ l.length ∧ Hid (∀ i p, i < k → l[i]? = some p → p.1 < n) ∧ Tab B o l wx ∧ LZ w.heap.size wx ∧ Below w.heap.size w wx) (fun s _ => (l.length - intOf s).toNat)
   case atStart => exact ⟨1, rfl, by omega, by omega, hall0, ht, hz, hB1⟩
   case round =>
    clear ht hz hB1 hall0 c0 c1 c2 hBW
    obtain ⟨k, rfl, hk1, hk, hall, ht, ⟨za0, za1, zaf0, zaf1, zb0, zb1, zbf0, zbf1⟩, hB⟩ := hrel
    by_cases ke : k = l.length
    · subst ke
      obtain ⟨p, hp⟩ := get_some (show l.length - 1 < l.length by omega)
      have e := line_last (u := u) hp (by omega) hall.out
      have hv := bnd_bd (u := u) (hp1.out _ (List.mem_of_getElem? hp))
      obtain ⟨c0, c1, c2⟩ := ht _ p hp
      obtain ⟨a, lo, hi⟩ := p
      dsimp only at c0 c1 c2
      rw [hr.out] at e
      have hr12 : r1 = bnd u (a, lo, hi) ∧ r2 = bnd u (a, lo, hi) := by injection e with e1 e2; exact ⟨e1, e2⟩
      have s1 := hid (fun W => bound_any a lo hi u W)
      generalize bnd u (a, lo, hi) = V at *
      replace hr12 := hid hr12
      have s2 := hid (fun W => wide_any V W (by omega))
      have hw : wrap64 ((l.length : Int) - 1) = ((l.length - 1 : Nat) : Int) := by simp only [wrap64]; omega
      have hw2 : IntKind.i64.wrap ((l.length : Int) - 1) = ((l.length - 1 : Nat) : Int) := by rw [IntKind.wrap_i64]; omega
      have hj0 : (0 : Int) ≤ ((l.length - 1 : Nat) : Int) := by omega
      have hj1 : ((l.length - 1 : Nat) : Int) < l.length := by omega
      clear hr e hv hp ht hp1 hall hk hk1
      generalize l.length - 1 = J at *
      go_wp2_with fail
      refine useF w (s1.out _) (by go_grown) ?_; rintro e w41 rfl hB41 hk41 hf41 hs41; clear hs41
      replace zaf0 : w41.frozen? ⟨w.heap.size, 0, none⟩ = false := hf41 _ _ (.int .i64 0) (za0) (zaf0)
      replace za0 : w41.cell? ⟨w.heap.size, 0, none⟩ = some (.int .i64 0) := hk41 _ _ _ (za0)
      replace zaf1 : w41.frozen? ⟨w.heap.size, 1, none⟩ = false := hf41 _ _ (.int .u64 0) (za1) (zaf1)
      replace za1 : w41.cell? ⟨w.heap.size, 1, none⟩ = some (.int .u64 0) := hk41 _ _ _ (za1)
      replace zbf0 : w41.frozen? ⟨w.heap.size + 1, 0, none⟩ = false := hf41 _ _ (.int .i64 0) (zb0) (zbf0)
      replace zb0 : w41.cell? ⟨w.heap.size + 1, 0, none⟩ = some (.int .i64 0) := hk41 _ _ _ (zb0)
      replace zbf1 : w41.frozen? ⟨w.heap.size + 1, 1, none⟩ = false := hf41 _ _ (.int .u64 0) (zb1) (zbf1)
      replace zb1 : w41.cell? ⟨w.heap.size + 1, 1, none⟩ = some (.int .u64 0) := hk41 _ _ _ (zb1)
      (try clear zab); have zab : w.heap.size < w41.heap.size := World.block_lt_of_cell? w41 ⟨w.heap.size, 0, none⟩ za0
      (try clear zbb); have zbb : w.heap.size + 1 < w41.heap.size := World.block_lt_of_cell? w41 ⟨w.heap.size + 1, 0, none⟩ zb0
      clear hk41 hf41
      go_wp2_with fail
      refine useF w (s2.out _) (by go_grown) ?_; rintro e w42 rfl hB42 hk42 hf42 hs42; clear hs42
      replace zaf0 : w42.frozen? ⟨w.heap.size, 0, none⟩ = false := hf42 _ _ (.int .i64 0) (za0) (zaf0)
      replace za0 : w42.cell? ⟨w.heap.size, 0, none⟩ = some (.int .i64 0) := hk42 _ _ _ (za0)
      replace zaf1 : w42.frozen? ⟨w.heap.size, 1, none⟩ = false := hf42 _ _ (.int .u64 0) (za1) (zaf1)
      replace za1 : w42.cell? ⟨w.heap.size, 1, none⟩ = some (.int .u64 0) := hk42 _ _ _ (za1)
      replace zbf0 : w42.frozen? ⟨w.heap.size + 1, 0, none⟩ = false := hf42 _ _ (.int .i64 0) (zb0) (zbf0)
      replace zb0 : w42.cell? ⟨w.heap.size + 1, 0, none⟩ = some (.int .i64 0) := hk42 _ _ _ (zb0)
      replace zbf1 : w42.frozen? ⟨w.heap.size + 1, 1, none⟩ = false := hf42 _ _ (.int .u64 0) (zb1) (zbf1)
      replace zb1 : w42.cell? ⟨w.heap.size + 1, 1, none⟩ = some (.int .u64 0) := hk42 _ _ _ (zb1)
      (try clear zab); have zab : w.heap.size < w42.heap.size := World.block_lt_of_cell? w42 ⟨w.heap.size, 0, none⟩ za0
      (try clear zbb); have zbb : w.heap.size + 1 < w42.heap.size := World.block_lt_of_cell? w42 ⟨w.heap.size + 1, 0, none⟩ zb0
      clear hk42 hf42
      have zab42 := zab
      have zbb42 := zbb
      have zaf0' : (w42.alloc (.cells #[.int .i64 (hiW V), .int .u64 (loW V)] 78)).frozen? ⟨w.heap.size, 0, none⟩ = false := (keepAF _ za0 zaf0)
      have za0' : (w42.alloc (.cells #[.int .i64 (hiW V), .int .u64 (loW V)] 78)).cell? ⟨w.heap.size, 0, none⟩ = some (.int .i64 0) := (keepA _ za0)
      have zaf1' : (w42.alloc (.cells #[.int .i64 (hiW V), .int .u64 (loW V)] 78)).frozen? ⟨w.heap.size, 1, none⟩ = false := (keepAF _ za1 zaf1)
      have za1' : (w42.alloc (.cells #[.int .i64 (hiW V), .int .u64 (loW V)] 78)).cell? ⟨w.heap.size, 1, none⟩ = some (.int .u64 0) := (keepA _ za1)
      have zbf0' : (w42.alloc (.cells #[.int .i64 (hiW V), .int .u64 (loW V)] 78)).frozen? ⟨w.heap.size + 1, 0, none⟩ = false := (keepAF _ zb0 zbf0)
      have zb0' : (w42.alloc (.cells #[.int .i64 (hiW V), .int .u64 (loW V)] 78)).cell? ⟨w.heap.size + 1, 0, none⟩ = some (.int .i64 0) := (keepA _ zb0)
      have zbf1' : (w42.alloc (.cells #[.int .i64 (hiW V), .int .u64 (loW V)] 78)).frozen? ⟨w.heap.size + 1, 1, none⟩ = false := (keepAF _ zb1 zbf1)
      have zb1' : (w42.alloc (.cells #[.int .i64 (hiW V), .int .u64 (loW V)] 78)).cell? ⟨w.heap.size + 1, 1, none⟩ = some (.int .u64 0) := (keepA _ zb1)
      have v0 : (w42.alloc (.cells #[.int .i64 (hiW V), .int .u64 (loW V)] 78)).cell? ⟨w42.heap.size, 0, none⟩ = some (.int .i64 (hiW V)) := (show (w42.alloc (.cells #[.int .i64 (hiW V), .int .u64 (loW V)] 78)).cell? ⟨w42.heap.size, 0, none⟩ = some (.int .i64 (hiW V)) by simp [go_sem])
      have v1 : (w42.alloc (.cells #[.int .i64 (hiW V), .int .u64 (loW V)] 78)).cell? ⟨w42.heap.size, 1, none⟩ = some (.int .u64 (loW V)) := (show (w42.alloc (.cells #[.int .i64 (hiW V), .int .u64 (loW V)] 78)).cell? ⟨w42.heap.size, 1, none⟩ = some (.int .u64 (loW V)) by simp [go_sem])
      go_wp2_with fail
      replace zaf0 := zaf0'; clear zaf0'
      replace za0 := za0'; clear za0'
      replace zaf1 := zaf1'; clear zaf1'
      replace za1 := za1'; clear za1'
      replace zbf0 := zbf0'; clear zbf0'
      replace zb0 := zb0'; clear zb0'
      replace zbf1 := zbf1'; clear zbf1'
      replace zb1 := zb1'; clear zb1'
      have hBx : Below w.heap.size w (w42.alloc (.cells #[.int .i64 (hiW V), .int .u64 (loW V)] 78)) := by go_grown
      generalize (w42.alloc (.cells #[.int .i64 (hiW V), .int .u64 (loW V)] 78)) = W5 at *
      generalize w42.heap.size = Bv at *
      refine wp_region_held_drew (S := (fun w' => w'.cell? ⟨Bv, 0, none⟩ = some (.int .i64 (hiW V)) ∧ w'.cell? ⟨Bv, 1, none⟩ = some (.int .u64 (loW V)))) (by kernel_rfl) (by (try dsimp only); simp only [World.cell?_drew, World.frozen?_drew]; exact ⟨v0, v1⟩) (fun hHeld => ?_)
      have hBq0 : Below w.heap.size w W5.drew := by go_grown
      (try dsimp only at hHeld)
      clear v0 v1
      replace za0 : W5.drew.cell? ⟨w.heap.size, 0, none⟩ = some (.int .i64 0) := by rw [World.cell?_drew]; exact za0
      replace zaf0 : W5.drew.frozen? ⟨w.heap.size, 0, none⟩ = false := by rw [World.frozen?_drew]; exact zaf0
      replace za1 : W5.drew.cell? ⟨w.heap.size, 1, none⟩ = some (.int .u64 0) := by rw [World.cell?_drew]; exact za1
      replace zaf1 : W5.drew.frozen? ⟨w.heap.size, 1, none⟩ = false := by rw [World.frozen?_drew]; exact zaf1
      replace zb0 : W5.drew.cell? ⟨w.heap.size + 1, 0, none⟩ = some (.int .i64 0) := by rw [World.cell?_drew]; exact zb0
      replace zbf0 : W5.drew.frozen? ⟨w.heap.size + 1, 0, none⟩ = false := by rw [World.frozen?_drew]; exact zbf0
      replace zb1 : W5.drew.cell? ⟨w.heap.size + 1, 1, none⟩ = some (.int .u64 0) := by rw [World.cell?_drew]; exact zb1
      replace zbf1 : W5.drew.frozen? ⟨w.heap.size + 1, 1, none⟩ = false := by rw [World.frozen?_drew]; exact zbf1
      generalize W5.drew = wq0 at *
      have hzq0 : w.heap.size ≤ wq0.heap.size := hBq0.size
      (refine wpAnyH_take (i := 0) (oi := ⟨some 101, _, _, _, _, none⟩) (v := ?_) rfl (by kernel_rfl) (by kernel_rfl) (by kernel_rfl) (fun _ _ _ h => h) (Or.inl ⟨by rfl, ?_⟩) hHeld ?_; rotate_left; (· (intro w9 hSw; (try dsimp only at hSw); go_simp; (try with_reducible rfl))))
      (try simp only [Act.put, List.setIfInBounds_toArray, List.set_cons_zero, List.set_cons_succ])
      (refine wpAnyH_take (i := 1) (oi := ⟨some 102, _, _, _, _, none⟩) (v := ?_) rfl (by kernel_rfl) (by kernel_rfl) (by kernel_rfl) (fun _ _ _ h => h) (Or.inl ⟨by rfl, ?_⟩) hHeld ?_; rotate_left; (· (intro w9 hSw; (try dsimp only at hSw); go_simp; (try with_reducible rfl))))
      (try simp only [Act.put, List.setIfInBounds_toArray, List.set_cons_zero, List.set_cons_succ])
      refine wpAnyH_ready (rs := [2]) (by kernel_rfl) (by simp) ?_
      refine AllReadyH.cons (o := ⟨none, _, _, _, _, none⟩) rfl (fun K hK => ?_) (AllReadyH.nil)
      (try dsimp only at hHeld)
      have hBq1 : Below w.heap.size w ((wq0.setCell ⟨w.heap.size, 0, none⟩ (.int .i64 (hiW V))).setCell ⟨w.heap.size, 1, none⟩ (.int .u64 (loW V))) := by go_grown
      have hOld := hHeld; clear hHeld; go_simp; refine hK.out _ _ ?_ (fun hHeld => ?_)
      · exact ⟨two_other (hOld.1) (by omega), two_other (hOld.2) (by omega)⟩
      clear hK K hOld
      (try dsimp only at hHeld)
      replace zaf0 := two_fz (b := w.heap.size) (x := .int .i64 (hiW V)) (y := .int .u64 (loW V)) zaf0
      replace za0 := two_0 (x := .int .i64 (hiW V)) (y := .int .u64 (loW V)) za0
      replace zaf1 := two_fz (b := w.heap.size) (x := .int .i64 (hiW V)) (y := .int .u64 (loW V)) zaf1
      replace za1 := two_1 (x := .int .i64 (hiW V)) (y := .int .u64 (loW V)) za1
      replace zbf0 := two_fz (b := w.heap.size) (x := .int .i64 (hiW V)) (y := .int .u64 (loW V)) zbf0
      replace zb0 := two_other (b := w.heap.size) (x := .int .i64 (hiW V)) (y := .int .u64 (loW V)) zb0 (by omega)
      replace zbf1 := two_fz (b := w.heap.size) (x := .int .i64 (hiW V)) (y := .int .u64 (loW V)) zbf1
      replace zb1 := two_other (b := w.heap.size) (x := .int .i64 (hiW V)) (y := .int .u64 (loW V)) zb1 (by omega)
      generalize ((wq0.setCell ⟨w.heap.size, 0, none⟩ (.int .i64 (hiW V))).setCell ⟨w.heap.size, 1, none⟩ (.int .u64 (loW V))) = wq1 at *
      have hzq1 : w.heap.size ≤ wq1.heap.size := hBq1.size
      (try simp only [Act.put, List.setIfInBounds_toArray, List.set_cons_zero, List.set_cons_succ])
      refine wpAnyH_ready (rs := [3]) (by kernel_rfl) (by simp) ?_
      refine AllReadyH.cons (o := ⟨none, _, _, _, _, none⟩) rfl (fun K hK => ?_) (AllReadyH.nil)
      (try dsimp only at hHeld)
      have hBq2 : Below w.heap.size w ((wq1.setCell ⟨w.heap.size + 1, 0, none⟩ (.int .i64 (hiW V))).setCell ⟨w.heap.size + 1, 1, none⟩ (.int .u64 (loW V))) := by go_grown
      have hOld := hHeld; clear hHeld; go_simp; refine hK.out _ _ ?_ (fun hHeld => ?_)
      · exact ⟨two_other (hOld.1) (by omega), two_other (hOld.2) (by omega)⟩
      clear hK K hOld
      (try dsimp only at hHeld)
      replace zaf0 := two_fz (b := w.heap.size + 1) (x := .int .i64 (hiW V)) (y := .int .u64 (loW V)) zaf0
      replace za0 := two_other (b := w.heap.size + 1) (x := .int .i64 (hiW V)) (y := .int .u64 (loW V)) za0 (by omega)
      replace zaf1 := two_fz (b := w.heap.size + 1) (x := .int .i64 (hiW V)) (y := .int .u64 (loW V)) zaf1
      replace za1 := two_other (b := w.heap.size + 1) (x := .int .i64 (hiW V)) (y := .int .u64 (loW V)) za1 (by omega)
      replace zbf0 := two_fz (b := w.heap.size + 1) (x := .int .i64 (hiW V)) (y := .int .u64 (loW V)) zbf0
      replace zb0 := two_0 (x := .int .i64 (hiW V)) (y := .int .u64 (loW V)) zb0
      replace zbf1 := two_fz (b := w.heap.size + 1) (x := .int .i64 (hiW V)) (y := .int .u64 (loW V)) zbf1
      replace zb1 := two_1 (x := .int .i64 (hiW V)) (y := .int .u64 (loW V)) zb1
      generalize ((wq1.setCell ⟨w.heap.size + 1, 0, none⟩ (.int .i64 (hiW V))).setCell ⟨w.heap.size + 1, 1, none⟩ (.int .u64 (loW V))) = wq2 at *
      have hzq2 : w.heap.size ≤ wq2.heap.size := hBq2.size
      (try simp only [Act.put, List.setIfInBounds_toArray, List.set_cons_zero, List.set_cons_succ])
      refine wpAnyH_done (by kernel_rfl) ?_ _
      go_wp2_with fail
      refine' bodyPost_ret (res_st_st rfl isA_W isS_W isA_W isS_W rfl rfl za0 za1 zb0 zb1) rfl ?_
      exact ⟨by rw [hr12.out.1, hr12.out.2], by go_grown⟩
    · obtain ⟨q, hq⟩ := get_some (show k < l.length by omega)
      obtain ⟨b0, b1, b2⟩ := ht k q hq
      have hk0 : (0 : Int) ≤ k := by omega
      have hk2 : (k : Int) < l.length := by omega
      by_cases cx : q.1 < n
      · have hall2 : Hid (∀ i p, i < k + 1 → l[i]? = some p → p.1 < n) := hid fun i p hi h => by
         by_cases e : i = k
         · subst e; rw [hq] at h; cases h; exact cx
         · exact hall.out i p (by omega) h
        obtain ⟨d, lp, hj⟩ := q
        dsimp only at b0 b1 b2 cx
        have cd2 : decide (d < n) = true := decide_eq_true cx
        clear hall hr hp1 hq cx
        go_wp2_with fail
        go_roundw
        case rel => exact ⟨k + 1, by go_num, by omega, by omega, hall2, ht, ⟨za0, za1, zaf0, zaf1, zb0, zb1, zbf0, zbf1⟩, hB⟩
        case measure => first | (simp [intOf]; done) | (simp [intOf]; omega)
      · obtain ⟨J, hJ⟩ : ∃ J, k = J + 1 := ⟨k - 1, by omega⟩
        obtain ⟨p, hp⟩ := get_some (show J < l.length by omega)
        have e := line_mid (u := u) hp (by rw [← hJ]; exact hq) (fun i p hi => hall.out i p (by omega)) (by omega)
        have hpn := hall.out J p (by omega) hp
        have hpp := hp1.out _ (List.mem_of_getElem? hp)
        have hqq := hp1.out _ (List.mem_of_getElem? hq)
        have hvp := bnd_bd (u := u) hpp
        have hvq := bnd_bd (u := u) hqq
        obtain ⟨c0, c1, c2⟩ := ht J p hp
        obtain ⟨a, lo, hi⟩ := p
        obtain ⟨d, lp, hj⟩ := q
        dsimp only at b0 b1 b2 c0 c1 c2 cx hpn hpp hqq e
        rw [hr.out] at e
        have s1 := hid (fun W => bound_any a lo hi u W)
        have s2 := hid (fun W => bound_any d lp hj u W)
        generalize bnd u (a, lo, hi) = f at *
        generalize bnd u (d, lp, hj) = t at *
        have hr12 : r1 = lowL f t n a d ∧ r2 = highL f t n a d := by injection e with e1 e2; exact ⟨e1, e2⟩
        unfold lowL highL at hr12
        replace hr12 := hid hr12
        have hm := mul_bd2 (show -4611686018427387904 ≤ t - f ∧ t - f ≤ 4611686018427387904 by omega) (show 0 ≤ n - a ∧ n - a ≤ 4611686018427387904 by omega)
        have s3 := hid (fun W => times_any (t - f) (n - a) W (by omega))
        have s4 := hid (fun W => wide_any (d - a) W (by omega))
        have s5 := hid (fun W => wide_any f W (by omega))
        have s6 := hid (fun W => rfloor_any ((t - f) * (n - a)) (d - a) W (by omega) (by omega))
        have s7 := hid (fun W => rceil_any ((t - f) * (n - a)) (d - a) W (by omega) (by omega))
        have s8 := hid (fun W => plus_any f ((t - f) * (n - a) / (d - a)) W)
        have s9 := hid (fun W => plus_any f (cdQ ((t - f) * (n - a)) (d - a)) W)
        have u1 : wrap64 (t - f) = t - f := by simp only [wrap64]; omega
        have u2 : wrap64 (n - a) = n - a := by simp only [wrap64]; omega
        have u3 : wrap64 (d - a) = d - a := by simp only [wrap64]; omega
        have u4 : IntKind.i64.wrap (d - a) = d - a := by rw [IntKind.wrap_i64]; omega
        have hw : wrap64 ((k : Int) - 1) = (J : Int) := by simp only [wrap64]; omega
        have hw2 : IntKind.i64.wrap ((k : Int) - 1) = (J : Int) := by rw [IntKind.wrap_i64]; omega
        have cd2 : decide (d < n) = false := decide_eq_false cx
        have hj0 : (0 : Int) ≤ (J : Int) := by omega
        have hj1 : (J : Int) < l.length := by omega
        clear hr e hvp hvq hp hq ht hp1 hall hpn hpp hqq hm cx hJ ke
        generalize (t - f) * (n - a) = R at *
        generalize R / (d - a) = Q1 at *
        generalize cdQ R (d - a) = Q2 at *
        go_wp2_with fail
        refine useF w (s1.out _) (by go_grown) ?_; rintro e w61 rfl hB61 hk61 hf61 hs61
        replace zaf0 := hf61 _ _ _ za0 zaf0
        replace za0 := hk61 _ _ _ za0
        replace zaf1 := hf61 _ _ _ za1 zaf1
        replace za1 := hk61 _ _ _ za1
        (try clear zab); have zab := World.block_lt_of_cell? _ _ za0; (try dsimp only at zab)
        replace zbf0 := hf61 _ _ _ zb0 zbf0
        replace zb0 := hk61 _ _ _ zb0
        replace zbf1 := hf61 _ _ _ zb1 zbf1
        replace zb1 := hk61 _ _ _ zb1
        (try clear zbb); have zbb := World.block_lt_of_cell? _ _ zb0; (try dsimp only at zbb)
        replace c0 := hk61 _ _ _ c0
        replace c1 := hk61 _ _ _ c1
        replace c2 := hk61 _ _ _ c2
        (try clear cb); have cb := World.block_lt_of_cell? _ _ c0; (try dsimp only at cb)
        replace b0 := hk61 _ _ _ b0
        replace b1 := hk61 _ _ _ b1
        replace b2 := hk61 _ _ _ b2
        (try clear bb); have bb := World.block_lt_of_cell? _ _ b0; (try dsimp only at bb)
        have hz61 := hB61.size
        clear hk61 hf61 hs61
        go_wp2_with fail
        refine useF w (s2.out _) (by go_grown) ?_; rintro e w62 rfl hB62 hk62 hf62 hs62
        replace zaf0 := hf62 _ _ _ za0 zaf0
        replace za0 := hk62 _ _ _ za0
        replace zaf1 := hf62 _ _ _ za1 zaf1
        replace za1 := hk62 _ _ _ za1
        (try clear zab); have zab := World.block_lt_of_cell? _ _ za0; (try dsimp only at zab)
        replace zbf0 := hf62 _ _ _ zb0 zbf0
        replace zb0 := hk62 _ _ _ zb0
        replace zbf1 := hf62 _ _ _ zb1 zbf1
        replace zb1 := hk62 _ _ _ zb1
        (try clear zbb); have zbb := World.block_lt_of_cell? _ _ zb0; (try dsimp only at zbb)
        replace c0 := hk62 _ _ _ c0
        replace c1 := hk62 _ _ _ c1
        replace c2 := hk62 _ _ _ c2
        (try clear cb); have cb := World.block_lt_of_cell? _ _ c0; (try dsimp only at cb)
        replace b0 := hk62 _ _ _ b0
        replace b1 := hk62 _ _ _ b1
        replace b2 := hk62 _ _ _ b2
        (try clear bb); have bb := World.block_lt_of_cell? _ _ b0; (try dsimp only at bb)
        have hz62 := hB62.size
        clear hk62 hf62 hs62
        go_wp2_with fail
        refine useF w (s3.out _) (by go_grown) ?_; rintro e w63 rfl hB63 hk63 hf63 hs63
        replace zaf0 := hf63 _ _ _ za0 zaf0
        replace za0 := hk63 _ _ _ za0
        replace zaf1 := hf63 _ _ _ za1 zaf1
        replace za1 := hk63 _ _ _ za1
        (try clear zab); have zab := World.block_lt_of_cell? _ _ za0; (try dsimp only at zab)
        replace zbf0 := hf63 _ _ _ zb0 zbf0
        replace zb0 := hk63 _ _ _ zb0
        replace zbf1 := hf63 _ _ _ zb1 zbf1
        replace zb1 := hk63 _ _ _ zb1
        (try clear zbb); have zbb := World.block_lt_of_cell? _ _ zb0; (try dsimp only at zbb)
        replace c0 := hk63 _ _ _ c0
        replace c1 := hk63 _ _ _ c1
        replace c2 := hk63 _ _ _ c2
        (try clear cb); have cb := World.block_lt_of_cell? _ _ c0; (try dsimp only at cb)
        replace b0 := hk63 _ _ _ b0
        replace b1 := hk63 _ _ _ b1
        replace b2 := hk63 _ _ _ b2
        (try clear bb); have bb := World.block_lt_of_cell? _ _ b0; (try dsimp only at bb)
        have hz63 := hB63.size
        clear hk63 hf63 hs63
        have hB63x : Below w.heap.size w (w63.alloc (.cells #[.int .i64 (hiW R), .int .u64 (loW R)] 78)) := by go_grown
        have zaf0' := (keepAF (.cells #[.int .i64 (hiW R), .int .u64 (loW R)] 78) za0 zaf0)
        have za0' := (keepA (.cells #[.int .i64 (hiW R), .int .u64 (loW R)] 78) za0)
        have zaf1' := (keepAF (.cells #[.int .i64 (hiW R), .int .u64 (loW R)] 78) za1 zaf1)
        have za1' := (keepA (.cells #[.int .i64 (hiW R), .int .u64 (loW R)] 78) za1)
        have zbf0' := (keepAF (.cells #[.int .i64 (hiW R), .int .u64 (loW R)] 78) zb0 zbf0)
        have zb0' := (keepA (.cells #[.int .i64 (hiW R), .int .u64 (loW R)] 78) zb0)
        have zbf1' := (keepAF (.cells #[.int .i64 (hiW R), .int .u64 (loW R)] 78) zb1 zbf1)
        have zb1' := (keepA (.cells #[.int .i64 (hiW R), .int .u64 (loW R)] 78) zb1)
        have c0' := (keepA (.cells #[.int .i64 (hiW R), .int .u64 (loW R)] 78) c0)
        have c1' := (keepA (.cells #[.int .i64 (hiW R), .int .u64 (loW R)] 78) c1)
        have c2' := (keepA (.cells #[.int .i64 (hiW R), .int .u64 (loW R)] 78) c2)
        have b0' := (keepA (.cells #[.int .i64 (hiW R), .int .u64 (loW R)] 78) b0)
        have b1' := (keepA (.cells #[.int .i64 (hiW R), .int .u64 (loW R)] 78) b1)
        have b2' := (keepA (.cells #[.int .i64 (hiW R), .int .u64 (loW R)] 78) b2)
        have r0 := (show (w63.alloc (.cells #[.int .i64 (hiW R), .int .u64 (loW R)] 78)).cell? ⟨w63.heap.size, 0, none⟩ = some (.int .i64 (hiW R)) by simp [go_sem])
        have rf0 := (show (w63.alloc (.cells #[.int .i64 (hiW R), .int .u64 (loW R)] 78)).frozen? ⟨w63.heap.size, 0, none⟩ = false by simp [go_sem])
        have r1 := (show (w63.alloc (.cells #[.int .i64 (hiW R), .int .u64 (loW R)] 78)).cell? ⟨w63.heap.size, 1, none⟩ = some (.int .u64 (loW R)) by simp [go_sem])
        have rf1 := (show (w63.alloc (.cells #[.int .i64 (hiW R), .int .u64 (loW R)] 78)).frozen? ⟨w63.heap.size, 1, none⟩ = false by simp [go_sem])
        go_wp2_with fail
        replace zaf0 := zaf0'; clear zaf0'
        replace za0 := za0'; clear za0'
        replace zaf1 := zaf1'; clear zaf1'
        replace za1 := za1'; clear za1'
        replace zbf0 := zbf0'; clear zbf0'
        replace zb0 := zb0'; clear zb0'
        replace zbf1 := zbf1'; clear zbf1'
        replace zb1 := zb1'; clear zb1'
        replace c0 := c0'; clear c0'
        replace c1 := c1'; clear c1'
        replace c2 := c2'; clear c2'
        replace b0 := b0'; clear b0'
        replace b1 := b1'; clear b1'
        replace b2 := b2'; clear b2'
        have hz63x := hB63x.size
        generalize hv63 : (w63.alloc (.cells #[.int .i64 (hiW R), .int .u64 (loW R)] 78)) = v63 at *
        have rb := World.block_lt_of_cell? _ _ r0; (try dsimp only at rb)
        have zab63 := zab
        have zbb63 := zbb
        have cb63 := cb
        have bb63 := bb
        clear hv63 hB63
        generalize w63.heap.size = B63 at *
        have hbJ : w.heap.size + 1 < B63 := by omega
        go_cut [13] (fun s wx => ∃ Bf : Nat, s = .pointer (some ⟨Bf, 0, none⟩) ∧ w.heap.size + 1 < Bf ∧ LM w.heap.size B63 Bf R (d - a) wx ∧ Below w.heap.size w wx)
        case first => as_aux_lemma =>
         refine wp_region_held_drew (S := (fun w' => w'.cell? ⟨w.heap.size, 0, none⟩ = some (.int .i64 0) ∧ w'.cell? ⟨w.heap.size, 1, none⟩ = some (.int .u64 0) ∧ w'.frozen? ⟨w.heap.size, 0, none⟩ = false ∧ w'.frozen? ⟨w.heap.size, 1, none⟩ = false ∧ w'.cell? ⟨w.heap.size + 1, 0, none⟩ = some (.int .i64 0) ∧ w'.cell? ⟨w.heap.size + 1, 1, none⟩ = some (.int .u64 0) ∧ w'.frozen? ⟨w.heap.size + 1, 0, none⟩ = false ∧ w'.frozen? ⟨w.heap.size + 1, 1, none⟩ = false ∧ w'.cell? ⟨B, o + J * 3, none⟩ = some (.int .i64 a) ∧ w'.cell? ⟨B, o + J * 3 + 1, none⟩ = some (.int .i64 lo) ∧ w'.cell? ⟨B, o + J * 3 + 2, none⟩ = some (.int .i64 hi) ∧ w'.cell? ⟨B, o + k * 3, none⟩ = some (.int .i64 d) ∧ w'.cell? ⟨B, o + k * 3 + 1, none⟩ = some (.int .i64 lp) ∧ w'.cell? ⟨B, o + k * 3 + 2, none⟩ = some (.int .i64 hj) ∧ w'.cell? ⟨B63, 0, none⟩ = some (.int .i64 (hiW R)) ∧ w'.cell? ⟨B63, 1, none⟩ = some (.int .u64 (loW R)))) (by kernel_rfl) (by (try dsimp only); simp only [World.cell?_drew, World.frozen?_drew]; exact ⟨za0, za1, zaf0, zaf1, zb0, zb1, zbf0, zbf1, c0, c1, c2, b0, b1, b2, r0, r1⟩) (fun hHeld => ?_)
         have hBq0 : Below w.heap.size w v63.drew := by go_grown
         (try dsimp only at hHeld)
         clear za0 za1 zaf0 zaf1 zb0 zb1 zbf0 zbf1 c0 c1 c2 b0 b1 b2 r0 r1
         generalize v63.drew = wq0 at *
         have hzq0 : w.heap.size ≤ wq0.heap.size := hBq0.size
         (refine wpAnyH_take (i := 0) (oi := ⟨some 67, _, _, _, _, none⟩) (v := ?_) rfl (by kernel_rfl) (by kernel_rfl) (by kernel_rfl) (fun _ _ _ h => h) (Or.inl ⟨by rfl, ?_⟩) hHeld ?_; rotate_left; (· (intro w9 hSw; (try dsimp only at hSw); go_simp; (try with_reducible rfl))))
         (try simp only [Act.put, List.setIfInBounds_toArray, List.set_cons_zero, List.set_cons_succ])
         (refine wpAnyH_take (i := 1) (oi := ⟨some 68, _, _, _, _, none⟩) (v := ?_) rfl (by kernel_rfl) (by kernel_rfl) (by kernel_rfl) (fun _ _ _ h => h) (Or.inl ⟨by rfl, ?_⟩) hHeld ?_; rotate_left; (· (intro w9 hSw; (try dsimp only at hSw); go_simp; (try with_reducible rfl))))
         (try simp only [Act.put, List.setIfInBounds_toArray, List.set_cons_zero, List.set_cons_succ])
         (refine wpAnyH_take (i := 2) (oi := ⟨some 69, _, _, _, _, none⟩) (v := ?_) rfl (by kernel_rfl) (by kernel_rfl) (by kernel_rfl) (fun _ _ _ h => h) (Or.inl ⟨by rfl, ?_⟩) hHeld ?_; rotate_left; (· (intro w9 hSw; (try dsimp only at hSw); go_simp; (try with_reducible rfl))))
         (try simp only [Act.put, List.setIfInBounds_toArray, List.set_cons_zero, List.set_cons_succ])
         (refine wpAnyH_take (i := 3) (oi := ⟨some 70, _, _, _, _, none⟩) (v := ?_) rfl (by kernel_rfl) (by kernel_rfl) (by kernel_rfl) (fun _ _ _ h => h) (Or.inl ⟨by rfl, ?_⟩) hHeld ?_; rotate_left; (· (intro w9 hSw; (try dsimp only at hSw); go_simp; (try with_reducible rfl))))
         (try simp only [Act.put, List.setIfInBounds_toArray, List.set_cons_zero, List.set_cons_succ])
         (refine wpAnyH_take (i := 4) (oi := ⟨some 71, _, _, _, _, none⟩) (v := ?_) rfl (by kernel_rfl) (by kernel_rfl) (by kernel_rfl) (fun _ _ _ h => h) (Or.inl ⟨by rfl, ?_⟩) hHeld ?_; rotate_left; (· (intro w9 hSw; (try dsimp only at hSw); go_simp; (try with_reducible rfl))))
         (try simp only [Act.put, List.setIfInBounds_toArray, List.set_cons_zero, List.set_cons_succ])
         (refine wpAnyH_take (i := 5) (oi := ⟨some 72, _, _, _, _, none⟩) (v := ?_) rfl (by kernel_rfl) (by kernel_rfl) (by kernel_rfl) (fun _ _ _ h => h) (Or.inl ⟨by rfl, ?_⟩) hHeld ?_; rotate_left; (· (intro w9 hSw; (try dsimp only at hSw); go_simp; (try with_reducible rfl))))
         (try simp only [Act.put, List.setIfInBounds_toArray, List.set_cons_zero, List.set_cons_succ])
         (refine wpAnyH_take (i := 6) (oi := ⟨some 73, _, _, _, _, none⟩) (v := ?_) rfl (by kernel_rfl) (by kernel_rfl) (by kernel_rfl) (fun _ _ _ h => h) (Or.inl ⟨by rfl, ?_⟩) hHeld ?_; rotate_left; (· (intro w9 hSw; (try dsimp only at hSw); go_simp; (try with_reducible rfl))))
         (try simp only [Act.put, List.setIfInBounds_toArray, List.set_cons_zero, List.set_cons_succ])
         (refine wpAnyH_take (i := 7) (oi := ⟨some 74, _, _, _, _, none⟩) (v := ?_) rfl (by kernel_rfl) (by kernel_rfl) (by kernel_rfl) (fun _ _ _ h => h) (Or.inl ⟨by rfl, ?_⟩) hHeld ?_; rotate_left; (· (intro w9 hSw; (try dsimp only at hSw); go_simp; (try with_reducible rfl))))
         (try simp only [Act.put, List.setIfInBounds_toArray, List.set_cons_zero, List.set_cons_succ])
         (refine wpAnyH_take (i := 8) (oi := ⟨some 75, _, _, _, _, none⟩) (v := ?_) rfl (by kernel_rfl) (by kernel_rfl) (by kernel_rfl) (fun _ _ _ h => h) (Or.inl ⟨by rfl, ?_⟩) hHeld ?_; rotate_left; (· (intro w9 hSw; (try dsimp only at hSw); go_simp; (try with_reducible rfl))))
         (try simp only [Act.put, List.setIfInBounds_toArray, List.set_cons_zero, List.set_cons_succ])
         (refine wpAnyH_take (i := 9) (oi := ⟨some 76, _, _, _, _, none⟩) (v := ?_) rfl (by kernel_rfl) (by kernel_rfl) (by kernel_rfl) (fun _ _ _ h => h) (Or.inl ⟨by rfl, ?_⟩) hHeld ?_; rotate_left; (· (intro w9 hSw; (try dsimp only at hSw); go_simp; (try with_reducible rfl))))
         (try simp only [Act.put, List.setIfInBounds_toArray, List.set_cons_zero, List.set_cons_succ])
         (refine wpAnyH_take (i := 10) (oi := ⟨some 77, _, _, _, _, none⟩) (v := ?_) rfl (by kernel_rfl) (by kernel_rfl) (by kernel_rfl) (fun _ _ _ h => h) (Or.inl ⟨by rfl, ?_⟩) hHeld ?_; rotate_left; (· (intro w9 hSw; (try dsimp only at hSw); go_simp; (try with_reducible rfl))))
         (try simp only [Act.put, List.setIfInBounds_toArray, List.set_cons_zero, List.set_cons_succ])
         (refine wpAnyH_take (i := 11) (oi := ⟨some 78, _, _, _, _, none⟩) (v := ?_) rfl (by kernel_rfl) (by kernel_rfl) (by kernel_rfl) (fun _ _ _ h => h) (Or.inl ⟨by rfl, ?_⟩) hHeld ?_; rotate_left; (· (intro w9 hSw; (try dsimp only at hSw); go_simp; (try with_reducible rfl))))
         (try simp only [Act.put, List.setIfInBounds_toArray, List.set_cons_zero, List.set_cons_succ])
         refine wpAnyH_ready (rs := [12, 13]) (by kernel_rfl) (by simp) ?_
         refine AllReadyH.cons (o := ⟨some 79, _, _, _, _, none⟩) rfl (fun K hK => ?_) (AllReadyH.cons (o := ⟨some 13, _, _, _, _, none⟩) rfl (fun K hK => ?_) (AllReadyH.nil))
         ·
          go_simp
          (go_at_call 86; refine useF w (s4.out _) (by go_grown) ?_; rintro e wq1 rfl hBq1 hkq1 hfq1 hsq1)
          have hOld := hHeld; clear hHeld; refine hK.out _ _ ?_ (fun hHeld => ?_)
          · exact ⟨hkq1 _ _ _ (hOld.1), hkq1 _ _ _ (hOld.2.1), hfq1 _ _ _ (hOld.1) (hOld.2.2.1), hfq1 _ _ _ (hOld.2.1) (hOld.2.2.2.1), hkq1 _ _ _ (hOld.2.2.2.2.1), hkq1 _ _ _ (hOld.2.2.2.2.2.1), hfq1 _ _ _ (hOld.2.2.2.2.1) (hOld.2.2.2.2.2.2.1), hfq1 _ _ _ (hOld.2.2.2.2.2.1) (hOld.2.2.2.2.2.2.2.1), hkq1 _ _ _ (hOld.2.2.2.2.2.2.2.2.1), hkq1 _ _ _ (hOld.2.2.2.2.2.2.2.2.2.1), hkq1 _ _ _ (hOld.2.2.2.2.2.2.2.2.2.2.1), hkq1 _ _ _ (hOld.2.2.2.2.2.2.2.2.2.2.2.1), hkq1 _ _ _ (hOld.2.2.2.2.2.2.2.2.2.2.2.2.1), hkq1 _ _ _ (hOld.2.2.2.2.2.2.2.2.2.2.2.2.2.1), hkq1 _ _ _ (hOld.2.2.2.2.2.2.2.2.2.2.2.2.2.2.1), hkq1 _ _ _ (hOld.2.2.2.2.2.2.2.2.2.2.2.2.2.2.2)⟩
          clear hK K hOld
          clear hkq1 hfq1 hsq1
          have hzq1 : w.heap.size ≤ wq1.heap.size := hBq1.size
          (try simp only [Act.put, List.setIfInBounds_toArray, List.set_cons_zero, List.set_cons_succ])
          refine wpAnyH_ready (rs := [13]) (by kernel_rfl) (by simp) ?_
          refine AllReadyH.cons (o := ⟨some 13, _, _, _, _, none⟩) rfl (fun K hK => ?_) (AllReadyH.nil)
          (try dsimp only at hHeld)
          have hBq2 : Below w.heap.size w (wq1.alloc (Obj.cells #[.int .i64 0, .int .u64 0] 78)) := by go_grown
          have nn130 : (wq1.alloc (Obj.cells #[.int .i64 0, .int .u64 0] 78)).cell? ⟨wq1.heap.size, 0, none⟩ = some (.int .i64 0) := by simp [go_sem]
          have nn13f0 : (wq1.alloc (Obj.cells #[.int .i64 0, .int .u64 0] 78)).frozen? ⟨wq1.heap.size, 0, none⟩ = false := by simp [go_sem]
          have nn131 : (wq1.alloc (Obj.cells #[.int .i64 0, .int .u64 0] 78)).cell? ⟨wq1.heap.size, 1, none⟩ = some (.int .u64 0) := by simp [go_sem]
          have nn13f1 : (wq1.alloc (Obj.cells #[.int .i64 0, .int .u64 0] 78)).frozen? ⟨wq1.heap.size, 1, none⟩ = false := by simp [go_sem]
          have nn13l0 : w.heap.size < wq1.heap.size := World.block_lt_of_cell? _ ⟨w.heap.size, 0, none⟩ (hHeld.1)
          have nn13l1 : w.heap.size + 1 < wq1.heap.size := World.block_lt_of_cell? _ ⟨w.heap.size + 1, 0, none⟩ (hHeld.2.2.2.2.1)
          have nn13l2 : B < wq1.heap.size := World.block_lt_of_cell? _ ⟨B, o + J * 3, none⟩ (hHeld.2.2.2.2.2.2.2.2.1)
          have nn13l3 : B63 < wq1.heap.size := World.block_lt_of_cell? _ ⟨B63, 0, none⟩ (hHeld.2.2.2.2.2.2.2.2.2.2.2.2.2.2.1)
          have hOld := hHeld; clear hHeld; go_simp; refine hK.out _ _ ?_ (fun hHeld => ?_)
          · exact ⟨keepA _ (hOld.1), keepA _ (hOld.2.1), keepAF _ (hOld.1) (hOld.2.2.1), keepAF _ (hOld.2.1) (hOld.2.2.2.1), keepA _ (hOld.2.2.2.2.1), keepA _ (hOld.2.2.2.2.2.1), keepAF _ (hOld.2.2.2.2.1) (hOld.2.2.2.2.2.2.1), keepAF _ (hOld.2.2.2.2.2.1) (hOld.2.2.2.2.2.2.2.1), keepA _ (hOld.2.2.2.2.2.2.2.2.1), keepA _ (hOld.2.2.2.2.2.2.2.2.2.1), keepA _ (hOld.2.2.2.2.2.2.2.2.2.2.1), keepA _ (hOld.2.2.2.2.2.2.2.2.2.2.2.1), keepA _ (hOld.2.2.2.2.2.2.2.2.2.2.2.2.1), keepA _ (hOld.2.2.2.2.2.2.2.2.2.2.2.2.2.1), keepA _ (hOld.2.2.2.2.2.2.2.2.2.2.2.2.2.2.1), keepA _ (hOld.2.2.2.2.2.2.2.2.2.2.2.2.2.2.2)⟩
          clear hK K hOld
          (try dsimp only at hHeld)
          generalize (wq1.alloc (Obj.cells #[.int .i64 0, .int .u64 0] 78)) = wq2 at *
          have hzq2 : w.heap.size ≤ wq2.heap.size := hBq2.size
          (try simp only [Act.put, List.setIfInBounds_toArray, List.set_cons_zero, List.set_cons_succ])
          refine wpAnyH_ready (rs := [14]) (by kernel_rfl) (by simp) ?_
          refine AllReadyH.cons (o := ⟨none, _, _, _, _, none⟩) rfl (fun K hK => ?_) (AllReadyH.nil)
          (try dsimp only at hHeld)
          have hBq3 : Below w.heap.size w ((wq2.setCell ⟨wq1.heap.size, 0, none⟩ (.int .i64 (hiW ((d - a))))).setCell ⟨wq1.heap.size, 1, none⟩ (.int .u64 (loW ((d - a))))) := by go_grown
          have hOld := hHeld; clear hHeld; go_simp; refine hK.out _ _ ?_ (fun hHeld => ?_)
          · exact ⟨two_other (hOld.1) (Nat.ne_of_gt nn13l0), two_other (hOld.2.1) (Nat.ne_of_gt nn13l0), two_fz (hOld.2.2.1), two_fz (hOld.2.2.2.1), two_other (hOld.2.2.2.2.1) (Nat.ne_of_gt nn13l1), two_other (hOld.2.2.2.2.2.1) (Nat.ne_of_gt nn13l1), two_fz (hOld.2.2.2.2.2.2.1), two_fz (hOld.2.2.2.2.2.2.2.1), two_other (hOld.2.2.2.2.2.2.2.2.1) (Nat.ne_of_gt nn13l2), two_other (hOld.2.2.2.2.2.2.2.2.2.1) (Nat.ne_of_gt nn13l2), two_other (hOld.2.2.2.2.2.2.2.2.2.2.1) (Nat.ne_of_gt nn13l2), two_other (hOld.2.2.2.2.2.2.2.2.2.2.2.1) (Nat.ne_of_gt nn13l2), two_other (hOld.2.2.2.2.2.2.2.2.2.2.2.2.1) (Nat.ne_of_gt nn13l2), two_other (hOld.2.2.2.2.2.2.2.2.2.2.2.2.2.1) (Nat.ne_of_gt nn13l2), two_other (hOld.2.2.2.2.2.2.2.2.2.2.2.2.2.2.1) (Nat.ne_of_gt nn13l3), two_other (hOld.2.2.2.2.2.2.2.2.2.2.2.2.2.2.2) (Nat.ne_of_gt nn13l3)⟩
          clear hK K hOld
          (try dsimp only at hHeld)
          replace nn13f0 := two_fz (b := wq1.heap.size) (x := .int .i64 (hiW ((d - a)))) (y := .int .u64 (loW ((d - a)))) nn13f0
          replace nn130 := two_0 (x := .int .i64 (hiW ((d - a)))) (y := .int .u64 (loW ((d - a)))) nn130
          replace nn13f1 := two_fz (b := wq1.heap.size) (x := .int .i64 (hiW ((d - a)))) (y := .int .u64 (loW ((d - a)))) nn13f1
          replace nn131 := two_1 (x := .int .i64 (hiW ((d - a)))) (y := .int .u64 (loW ((d - a)))) nn131
          generalize ((wq2.setCell ⟨wq1.heap.size, 0, none⟩ (.int .i64 (hiW ((d - a))))).setCell ⟨wq1.heap.size, 1, none⟩ (.int .u64 (loW ((d - a))))) = wq3 at *
          have hzq3 : w.heap.size ≤ wq3.heap.size := hBq3.size
          (try simp only [Act.put, List.setIfInBounds_toArray, List.set_cons_zero, List.set_cons_succ])
          refine wpAnyH_done (by kernel_rfl) ?_ _
          go_wp2_with fail
          go_meet
          obtain ⟨za0, za1, zaf0, zaf1, zb0, zb1, zbf0, zbf1, c0, c1, c2, b0, b1, b2, r0, r1⟩ := hHeld
          exact ⟨_, rfl, by omega, ⟨za0, za1, zaf0, zaf1, zb0, zb1, zbf0, zbf1, r0, r1, nn130, nn131⟩, by assumption⟩
         ·
          (try dsimp only at hHeld)
          have hBq1 : Below w.heap.size w (wq0.alloc (Obj.cells #[.int .i64 0, .int .u64 0] 78)) := by go_grown
          have nn130 : (wq0.alloc (Obj.cells #[.int .i64 0, .int .u64 0] 78)).cell? ⟨wq0.heap.size, 0, none⟩ = some (.int .i64 0) := by simp [go_sem]
          have nn13f0 : (wq0.alloc (Obj.cells #[.int .i64 0, .int .u64 0] 78)).frozen? ⟨wq0.heap.size, 0, none⟩ = false := by simp [go_sem]
          have nn131 : (wq0.alloc (Obj.cells #[.int .i64 0, .int .u64 0] 78)).cell? ⟨wq0.heap.size, 1, none⟩ = some (.int .u64 0) := by simp [go_sem]
          have nn13f1 : (wq0.alloc (Obj.cells #[.int .i64 0, .int .u64 0] 78)).frozen? ⟨wq0.heap.size, 1, none⟩ = false := by simp [go_sem]
          have nn13l0 : w.heap.size < wq0.heap.size := World.block_lt_of_cell? _ ⟨w.heap.size, 0, none⟩ (hHeld.1)
          have nn13l1 : w.heap.size + 1 < wq0.heap.size := World.block_lt_of_cell? _ ⟨w.heap.size + 1, 0, none⟩ (hHeld.2.2.2.2.1)
          have nn13l2 : B < wq0.heap.size := World.block_lt_of_cell? _ ⟨B, o + J * 3, none⟩ (hHeld.2.2.2.2.2.2.2.2.1)
          have nn13l3 : B63 < wq0.heap.size := World.block_lt_of_cell? _ ⟨B63, 0, none⟩ (hHeld.2.2.2.2.2.2.2.2.2.2.2.2.2.2.1)
          have hOld := hHeld; clear hHeld; go_simp; refine hK.out _ _ ?_ (fun hHeld => ?_)
          · exact ⟨keepA _ (hOld.1), keepA _ (hOld.2.1), keepAF _ (hOld.1) (hOld.2.2.1), keepAF _ (hOld.2.1) (hOld.2.2.2.1), keepA _ (hOld.2.2.2.2.1), keepA _ (hOld.2.2.2.2.2.1), keepAF _ (hOld.2.2.2.2.1) (hOld.2.2.2.2.2.2.1), keepAF _ (hOld.2.2.2.2.2.1) (hOld.2.2.2.2.2.2.2.1), keepA _ (hOld.2.2.2.2.2.2.2.2.1), keepA _ (hOld.2.2.2.2.2.2.2.2.2.1), keepA _ (hOld.2.2.2.2.2.2.2.2.2.2.1), keepA _ (hOld.2.2.2.2.2.2.2.2.2.2.2.1), keepA _ (hOld.2.2.2.2.2.2.2.2.2.2.2.2.1), keepA _ (hOld.2.2.2.2.2.2.2.2.2.2.2.2.2.1), keepA _ (hOld.2.2.2.2.2.2.2.2.2.2.2.2.2.2.1), keepA _ (hOld.2.2.2.2.2.2.2.2.2.2.2.2.2.2.2)⟩
          clear hK K hOld
          (try dsimp only at hHeld)
          generalize (wq0.alloc (Obj.cells #[.int .i64 0, .int .u64 0] 78)) = wq1 at *
          have hzq1 : w.heap.size ≤ wq1.heap.size := hBq1.size
          (try simp only [Act.put, List.setIfInBounds_toArray, List.set_cons_zero, List.set_cons_succ])
          refine wpAnyH_ready (rs := [12]) (by kernel_rfl) (by simp) ?_
          refine AllReadyH.cons (o := ⟨some 79, _, _, _, _, none⟩) rfl (fun K hK => ?_) (AllReadyH.nil)
          go_simp
          (go_at_call 86; refine useF w (s4.out _) (by go_grown) ?_; rintro e wq2 rfl hBq2 hkq2 hfq2 hsq2)
          have hOld := hHeld; clear hHeld; refine hK.out _ _ ?_ (fun hHeld => ?_)
          · exact ⟨hkq2 _ _ _ (hOld.1), hkq2 _ _ _ (hOld.2.1), hfq2 _ _ _ (hOld.1) (hOld.2.2.1), hfq2 _ _ _ (hOld.2.1) (hOld.2.2.2.1), hkq2 _ _ _ (hOld.2.2.2.2.1), hkq2 _ _ _ (hOld.2.2.2.2.2.1), hfq2 _ _ _ (hOld.2.2.2.2.1) (hOld.2.2.2.2.2.2.1), hfq2 _ _ _ (hOld.2.2.2.2.2.1) (hOld.2.2.2.2.2.2.2.1), hkq2 _ _ _ (hOld.2.2.2.2.2.2.2.2.1), hkq2 _ _ _ (hOld.2.2.2.2.2.2.2.2.2.1), hkq2 _ _ _ (hOld.2.2.2.2.2.2.2.2.2.2.1), hkq2 _ _ _ (hOld.2.2.2.2.2.2.2.2.2.2.2.1), hkq2 _ _ _ (hOld.2.2.2.2.2.2.2.2.2.2.2.2.1), hkq2 _ _ _ (hOld.2.2.2.2.2.2.2.2.2.2.2.2.2.1), hkq2 _ _ _ (hOld.2.2.2.2.2.2.2.2.2.2.2.2.2.2.1), hkq2 _ _ _ (hOld.2.2.2.2.2.2.2.2.2.2.2.2.2.2.2)⟩
          clear hK K hOld
          replace nn13f0 := hfq2 _ _ _ nn130 nn13f0
          replace nn130 := hkq2 _ _ _ nn130
          replace nn13f1 := hfq2 _ _ _ nn131 nn13f1
          replace nn131 := hkq2 _ _ _ nn131
          clear hkq2 hfq2 hsq2
          have hzq2 : w.heap.size ≤ wq2.heap.size := hBq2.size
          (try simp only [Act.put, List.setIfInBounds_toArray, List.set_cons_zero, List.set_cons_succ])
          refine wpAnyH_ready (rs := [14]) (by kernel_rfl) (by simp) ?_
          refine AllReadyH.cons (o := ⟨none, _, _, _, _, none⟩) rfl (fun K hK => ?_) (AllReadyH.nil)
          (try dsimp only at hHeld)
          have hBq3 : Below w.heap.size w ((wq2.setCell ⟨wq0.heap.size, 0, none⟩ (.int .i64 (hiW ((d - a))))).setCell ⟨wq0.heap.size, 1, none⟩ (.int .u64 (loW ((d - a))))) := by go_grown
          have hOld := hHeld; clear hHeld; go_simp; refine hK.out _ _ ?_ (fun hHeld => ?_)
          · exact ⟨two_other (hOld.1) (Nat.ne_of_gt nn13l0), two_other (hOld.2.1) (Nat.ne_of_gt nn13l0), two_fz (hOld.2.2.1), two_fz (hOld.2.2.2.1), two_other (hOld.2.2.2.2.1) (Nat.ne_of_gt nn13l1), two_other (hOld.2.2.2.2.2.1) (Nat.ne_of_gt nn13l1), two_fz (hOld.2.2.2.2.2.2.1), two_fz (hOld.2.2.2.2.2.2.2.1), two_other (hOld.2.2.2.2.2.2.2.2.1) (Nat.ne_of_gt nn13l2), two_other (hOld.2.2.2.2.2.2.2.2.2.1) (Nat.ne_of_gt nn13l2), two_other (hOld.2.2.2.2.2.2.2.2.2.2.1) (Nat.ne_of_gt nn13l2), two_other (hOld.2.2.2.2.2.2.2.2.2.2.2.1) (Nat.ne_of_gt nn13l2), two_other (hOld.2.2.2.2.2.2.2.2.2.2.2.2.1) (Nat.ne_of_gt nn13l2), two_other (hOld.2.2.2.2.2.2.2.2.2.2.2.2.2.1) (Nat.ne_of_gt nn13l2), two_other (hOld.2.2.2.2.2.2.2.2.2.2.2.2.2.2.1) (Nat.ne_of_gt nn13l3), two_other (hOld.2.2.2.2.2.2.2.2.2.2.2.2.2.2.2) (Nat.ne_of_gt nn13l3)⟩
          clear hK K hOld
          (try dsimp only at hHeld)
          replace nn13f0 := two_fz (b := wq0.heap.size) (x := .int .i64 (hiW ((d - a)))) (y := .int .u64 (loW ((d - a)))) nn13f0
          replace nn130 := two_0 (x := .int .i64 (hiW ((d - a)))) (y := .int .u64 (loW ((d - a)))) nn130
          replace nn13f1 := two_fz (b := wq0.heap.size) (x := .int .i64 (hiW ((d - a)))) (y := .int .u64 (loW ((d - a)))) nn13f1
          replace nn131 := two_1 (x := .int .i64 (hiW ((d - a)))) (y := .int .u64 (loW ((d - a)))) nn131
          generalize ((wq2.setCell ⟨wq0.heap.size, 0, none⟩ (.int .i64 (hiW ((d - a))))).setCell ⟨wq0.heap.size, 1, none⟩ (.int .u64 (loW ((d - a))))) = wq3 at *
          have hzq3 : w.heap.size ≤ wq3.heap.size := hBq3.size
          (try simp only [Act.put, List.setIfInBounds_toArray, List.set_cons_zero, List.set_cons_succ])
          refine wpAnyH_done (by kernel_rfl) ?_ _
          go_wp2_with fail
          go_meet
          obtain ⟨za0, za1, zaf0, zaf1, zb0, zb1, zbf0, zbf1, c0, c1, c2, b0, b1, b2, r0, r1⟩ := hHeld
          exact ⟨_, rfl, by omega, ⟨za0, za1, zaf0, zaf1, zb0, zb1, zbf0, zbf1, r0, r1, nn130, nn131⟩, by assumption⟩
        case rest =>
         obtain ⟨Bf, rfl, hBf, ⟨za0, za1, zaf0, zaf1, zb0, zb1, zbf0, zbf1, r0, r1, f0, f1⟩, hB⟩ := hcut
         have hzz := World.block_lt_of_cell? _ _ zb0
         go_wp2_with fail
         refine wp_region_held_drew (S := (fun w' => w'.cell? ⟨B63, 0, none⟩ = some (.int .i64 (hiW R)) ∧ w'.cell? ⟨B63, 1, none⟩ = some (.int .u64 (loW R)) ∧ w'.cell? ⟨Bf, 0, none⟩ = some (.int .i64 (hiW (d - a))) ∧ w'.cell? ⟨Bf, 1, none⟩ = some (.int .u64 (loW (d - a))))) (by kernel_rfl) (by (try dsimp only); simp only [World.cell?_drew, World.frozen?_drew]; exact ⟨r0, r1, f0, f1⟩) (fun hHeld => ?_)
         have hBq0 : Below w.heap.size w wc.drew := by go_grown
         (try dsimp only at hHeld)
         clear r0 r1 f0 f1
         replace za0 : wc.drew.cell? ⟨w.heap.size, 0, none⟩ = some (.int .i64 0) := by rw [World.cell?_drew]; exact za0
         replace zaf0 : wc.drew.frozen? ⟨w.heap.size, 0, none⟩ = false := by rw [World.frozen?_drew]; exact zaf0
         replace za1 : wc.drew.cell? ⟨w.heap.size, 1, none⟩ = some (.int .u64 0) := by rw [World.cell?_drew]; exact za1
         replace zaf1 : wc.drew.frozen? ⟨w.heap.size, 1, none⟩ = false := by rw [World.frozen?_drew]; exact zaf1
         replace zb0 : wc.drew.cell? ⟨w.heap.size + 1, 0, none⟩ = some (.int .i64 0) := by rw [World.cell?_drew]; exact zb0
         replace zbf0 : wc.drew.frozen? ⟨w.heap.size + 1, 0, none⟩ = false := by rw [World.frozen?_drew]; exact zbf0
         replace zb1 : wc.drew.cell? ⟨w.heap.size + 1, 1, none⟩ = some (.int .u64 0) := by rw [World.cell?_drew]; exact zb1
         replace zbf1 : wc.drew.frozen? ⟨w.heap.size + 1, 1, none⟩ = false := by rw [World.frozen?_drew]; exact zbf1
         generalize wc.drew = wq0 at *
         have hzq0 : w.heap.size ≤ wq0.heap.size := hBq0.size
         (refine wpAnyH_take (i := 0) (oi := ⟨some 80, _, _, _, _, none⟩) (v := ?_) rfl (by kernel_rfl) (by kernel_rfl) (by kernel_rfl) (fun _ _ _ h => h) (Or.inl ⟨by rfl, ?_⟩) hHeld ?_; rotate_left; (· (intro w9 hSw; (try dsimp only at hSw); go_simp; (try with_reducible rfl))))
         (try simp only [Act.put, List.setIfInBounds_toArray, List.set_cons_zero, List.set_cons_succ])
         (refine wpAnyH_take (i := 2) (oi := ⟨some 82, _, _, _, _, none⟩) (v := ?_) rfl (by kernel_rfl) (by kernel_rfl) (by kernel_rfl) (fun _ _ _ h => h) (Or.inl ⟨by rfl, ?_⟩) hHeld ?_; rotate_left; (· (intro w9 hSw; (try dsimp only at hSw); go_simp; (try with_reducible rfl))))
         (try simp only [Act.put, List.setIfInBounds_toArray, List.set_cons_zero, List.set_cons_succ])
         (refine wpAnyH_take (i := 3) (oi := ⟨some 83, _, _, _, _, none⟩) (v := ?_) rfl (by kernel_rfl) (by kernel_rfl) (by kernel_rfl) (fun _ _ _ h => h) (Or.inl ⟨by rfl, ?_⟩) hHeld ?_; rotate_left; (· (intro w9 hSw; (try dsimp only at hSw); go_simp; (try with_reducible rfl))))
         (try simp only [Act.put, List.setIfInBounds_toArray, List.set_cons_zero, List.set_cons_succ])
         (refine wpAnyH_take (i := 6) (oi := ⟨some 86, _, _, _, _, none⟩) (v := ?_) rfl (by kernel_rfl) (by kernel_rfl) (by kernel_rfl) (fun _ _ _ h => h) (Or.inl ⟨by rfl, ?_⟩) hHeld ?_; rotate_left; (· (intro w9 hSw; (try dsimp only at hSw); go_simp; (try with_reducible rfl))))
         (try simp only [Act.put, List.setIfInBounds_toArray, List.set_cons_zero, List.set_cons_succ])
         (refine wpAnyH_take (i := 8) (oi := ⟨some 88, _, _, _, _, none⟩) (v := ?_) rfl (by kernel_rfl) (by kernel_rfl) (by kernel_rfl) (fun _ _ _ h => h) (Or.inl ⟨by rfl, ?_⟩) hHeld ?_; rotate_left; (· (intro w9 hSw; (try dsimp only at hSw); go_simp; (try with_reducible rfl))))
         (try simp only [Act.put, List.setIfInBounds_toArray, List.set_cons_zero, List.set_cons_succ])
         (refine wpAnyH_take (i := 9) (oi := ⟨some 89, _, _, _, _, none⟩) (v := ?_) rfl (by kernel_rfl) (by kernel_rfl) (by kernel_rfl) (fun _ _ _ h => h) (Or.inl ⟨by rfl, ?_⟩) hHeld ?_; rotate_left; (· (intro w9 hSw; (try dsimp only at hSw); go_simp; (try with_reducible rfl))))
         (try simp only [Act.put, List.setIfInBounds_toArray, List.set_cons_zero, List.set_cons_succ])
         refine wpAnyH_ready (rs := [1]) (by kernel_rfl) (by simp) ?_
         refine AllReadyH.cons (o := ⟨some 81, _, _, _, _, none⟩) rfl (fun K hK => ?_) (AllReadyH.nil)
         go_simp
         (go_at_call 86; refine useF w (s5.out _) (by go_grown) ?_; rintro e wq1 rfl hBq1 hkq1 hfq1 hsq1)
         have hOld := hHeld; clear hHeld; refine hK.out _ _ ?_ (fun hHeld => ?_)
         · exact ⟨hkq1 _ _ _ (hOld.1), hkq1 _ _ _ (hOld.2.1), hkq1 _ _ _ (hOld.2.2.1), hkq1 _ _ _ (hOld.2.2.2)⟩
         clear hK K hOld
         replace zaf0 := hfq1 _ _ _ za0 zaf0
         replace za0 := hkq1 _ _ _ za0
         replace zaf1 := hfq1 _ _ _ za1 zaf1
         replace za1 := hkq1 _ _ _ za1
         replace zbf0 := hfq1 _ _ _ zb0 zbf0
         replace zb0 := hkq1 _ _ _ zb0
         replace zbf1 := hfq1 _ _ _ zb1 zbf1
         replace zb1 := hkq1 _ _ _ zb1
         clear hkq1 hfq1 hsq1
         have hzq1 : w.heap.size ≤ wq1.heap.size := hBq1.size
         (try simp only [Act.put, List.setIfInBounds_toArray, List.set_cons_zero, List.set_cons_succ])
         refine wpAnyH_ready (rs := [4]) (by kernel_rfl) (by simp) ?_
         refine AllReadyH.cons (o := ⟨some 84, _, _, _, _, none⟩) rfl (fun K hK => ?_) (AllReadyH.nil)
         go_simp
         (go_at_call 100; refine useF w (s6.out _) (by go_grown) ?_; rintro e wq2 rfl hBq2 hkq2 hfq2 hsq2)
         have hOld := hHeld; clear hHeld; refine hK.out _ _ ?_ (fun hHeld => ?_)
         · exact ⟨hkq2 _ _ _ (hOld.1), hkq2 _ _ _ (hOld.2.1), hkq2 _ _ _ (hOld.2.2.1), hkq2 _ _ _ (hOld.2.2.2)⟩
         clear hK K hOld
         replace zaf0 := hfq2 _ _ _ za0 zaf0
         replace za0 := hkq2 _ _ _ za0
         replace zaf1 := hfq2 _ _ _ za1 zaf1
         replace za1 := hkq2 _ _ _ za1
         replace zbf0 := hfq2 _ _ _ zb0 zbf0
         replace zb0 := hkq2 _ _ _ zb0
         replace zbf1 := hfq2 _ _ _ zb1 zbf1
         replace zb1 := hkq2 _ _ _ zb1
         clear hkq2 hfq2 hsq2
         have hzq2 : w.heap.size ≤ wq2.heap.size := hBq2.size
         (try simp only [Act.put, List.setIfInBounds_toArray, List.set_cons_zero, List.set_cons_succ])
         refine wpAnyH_ready (rs := [5]) (by kernel_rfl) (by simp) ?_
         refine AllReadyH.cons (o := ⟨some 85, _, _, _, _, none⟩) rfl (fun K hK => ?_) (AllReadyH.nil)
         go_simp
         (go_at_call 85; refine useF w ((by first | (with_reducible exact s8.out _) | (with_reducible exact s9.out _))) (by go_grown) ?_; rintro e wq3 rfl hBq3 hkq3 hfq3 hsq3)
         have hOld := hHeld; clear hHeld; refine hK.out _ _ ?_ (fun hHeld => ?_)
         · exact ⟨hkq3 _ _ _ (hOld.1), hkq3 _ _ _ (hOld.2.1), hkq3 _ _ _ (hOld.2.2.1), hkq3 _ _ _ (hOld.2.2.2)⟩
         clear hK K hOld
         replace zaf0 := hfq3 _ _ _ za0 zaf0
         replace za0 := hkq3 _ _ _ za0
         replace zaf1 := hfq3 _ _ _ za1 zaf1
         replace za1 := hkq3 _ _ _ za1
         replace zbf0 := hfq3 _ _ _ zb0 zbf0
         replace zb0 := hkq3 _ _ _ zb0
         replace zbf1 := hfq3 _ _ _ zb1 zbf1
         replace zb1 := hkq3 _ _ _ zb1
         clear hkq3 hfq3 hsq3
         have hzq3 : w.heap.size ≤ wq3.heap.size := hBq3.size
         (try simp only [Act.put, List.setIfInBounds_toArray, List.set_cons_zero, List.set_cons_succ])
         refine wpAnyH_ready (rs := [7]) (by kernel_rfl) (by simp) ?_
         refine AllReadyH.cons (o := ⟨some 87, _, _, _, _, none⟩) rfl (fun K hK => ?_) (AllReadyH.nil)
         go_simp
         (go_at_call 86; refine useF w (s5.out _) (by go_grown) ?_; rintro e wq4 rfl hBq4 hkq4 hfq4 hsq4)
         have hOld := hHeld; clear hHeld; refine hK.out _ _ ?_ (fun hHeld => ?_)
         · exact ⟨hkq4 _ _ _ (hOld.1), hkq4 _ _ _ (hOld.2.1), hkq4 _ _ _ (hOld.2.2.1), hkq4 _ _ _ (hOld.2.2.2)⟩
         clear hK K hOld
         replace zaf0 := hfq4 _ _ _ za0 zaf0
         replace za0 := hkq4 _ _ _ za0
         replace zaf1 := hfq4 _ _ _ za1 zaf1
         replace za1 := hkq4 _ _ _ za1
         replace zbf0 := hfq4 _ _ _ zb0 zbf0
         replace zb0 := hkq4 _ _ _ zb0
         replace zbf1 := hfq4 _ _ _ zb1 zbf1
         replace zb1 := hkq4 _ _ _ zb1
         clear hkq4 hfq4 hsq4
         have hzq4 : w.heap.size ≤ wq4.heap.size := hBq4.size
         (try simp only [Act.put, List.setIfInBounds_toArray, List.set_cons_zero, List.set_cons_succ])
         refine wpAnyH_ready (rs := [10]) (by kernel_rfl) (by simp) ?_
         refine AllReadyH.cons (o := ⟨some 90, _, _, _, _, none⟩) rfl (fun K hK => ?_) (AllReadyH.nil)
         go_simp
         (go_at_call 127; refine useF w (s7.out _) (by go_grown) ?_; rintro e wq5 rfl hBq5 hkq5 hfq5 hsq5)
         have hOld := hHeld; clear hHeld; refine hK.out _ _ ?_ (fun hHeld => ?_)
         · exact ⟨hkq5 _ _ _ (hOld.1), hkq5 _ _ _ (hOld.2.1), hkq5 _ _ _ (hOld.2.2.1), hkq5 _ _ _ (hOld.2.2.2)⟩
         clear hK K hOld
         replace zaf0 := hfq5 _ _ _ za0 zaf0
         replace za0 := hkq5 _ _ _ za0
         replace zaf1 := hfq5 _ _ _ za1 zaf1
         replace za1 := hkq5 _ _ _ za1
         replace zbf0 := hfq5 _ _ _ zb0 zbf0
         replace zb0 := hkq5 _ _ _ zb0
         replace zbf1 := hfq5 _ _ _ zb1 zbf1
         replace zb1 := hkq5 _ _ _ zb1
         clear hkq5 hfq5 hsq5
         have hzq5 : w.heap.size ≤ wq5.heap.size := hBq5.size
         (try simp only [Act.put, List.setIfInBounds_toArray, List.set_cons_zero, List.set_cons_succ])
         refine wpAnyH_ready (rs := [11]) (by kernel_rfl) (by simp) ?_
         refine AllReadyH.cons (o := ⟨some 91, _, _, _, _, none⟩) rfl (fun K hK => ?_) (AllReadyH.nil)
         go_simp
         (go_at_call 85; refine useF w ((by first | (with_reducible exact s8.out _) | (with_reducible exact s9.out _))) (by go_grown) ?_; rintro e wq6 rfl hBq6 hkq6 hfq6 hsq6)
         have hOld := hHeld; clear hHeld; refine hK.out _ _ ?_ (fun hHeld => ?_)
         · exact ⟨hkq6 _ _ _ (hOld.1), hkq6 _ _ _ (hOld.2.1), hkq6 _ _ _ (hOld.2.2.1), hkq6 _ _ _ (hOld.2.2.2)⟩
         clear hK K hOld
         replace zaf0 := hfq6 _ _ _ za0 zaf0
         replace za0 := hkq6 _ _ _ za0
         replace zaf1 := hfq6 _ _ _ za1 zaf1
         replace za1 := hkq6 _ _ _ za1
         replace zbf0 := hfq6 _ _ _ zb0 zbf0
         replace zb0 := hkq6 _ _ _ zb0
         replace zbf1 := hfq6 _ _ _ zb1 zbf1
         replace zb1 := hkq6 _ _ _ zb1
         clear hkq6 hfq6 hsq6
         have hzq6 : w.heap.size ≤ wq6.heap.size := hBq6.size
         (try simp only [Act.put, List.setIfInBounds_toArray, List.set_cons_zero, List.set_cons_succ])
         refine wpAnyH_ready (rs := [12]) (by kernel_rfl) (by simp) ?_
         refine AllReadyH.cons (o := ⟨none, _, _, _, _, none⟩) rfl (fun K hK => ?_) (AllReadyH.nil)
         (try dsimp only at hHeld)
         have hBq7 : Below w.heap.size w ((wq6.setCell ⟨w.heap.size, 0, none⟩ (.int .i64 (hiW (f + Q1)))).setCell ⟨w.heap.size, 1, none⟩ (.int .u64 (loW (f + Q1)))) := by go_grown
         have hOld := hHeld; clear hHeld; go_simp; refine hK.out _ _ ?_ (fun hHeld => ?_)
         · exact ⟨two_other (hOld.1) (by omega), two_other (hOld.2.1) (by omega), two_other (hOld.2.2.1) (by omega), two_other (hOld.2.2.2) (by omega)⟩
         clear hK K hOld
         (try dsimp only at hHeld)
         replace zaf0 := two_fz (b := w.heap.size) (x := .int .i64 (hiW (f + Q1))) (y := .int .u64 (loW (f + Q1))) zaf0
         replace za0 := two_0 (x := .int .i64 (hiW (f + Q1))) (y := .int .u64 (loW (f + Q1))) za0
         replace zaf1 := two_fz (b := w.heap.size) (x := .int .i64 (hiW (f + Q1))) (y := .int .u64 (loW (f + Q1))) zaf1
         replace za1 := two_1 (x := .int .i64 (hiW (f + Q1))) (y := .int .u64 (loW (f + Q1))) za1
         replace zbf0 := two_fz (b := w.heap.size) (x := .int .i64 (hiW (f + Q1))) (y := .int .u64 (loW (f + Q1))) zbf0
         replace zb0 := two_other (b := w.heap.size) (x := .int .i64 (hiW (f + Q1))) (y := .int .u64 (loW (f + Q1))) zb0 (by omega)
         replace zbf1 := two_fz (b := w.heap.size) (x := .int .i64 (hiW (f + Q1))) (y := .int .u64 (loW (f + Q1))) zbf1
         replace zb1 := two_other (b := w.heap.size) (x := .int .i64 (hiW (f + Q1))) (y := .int .u64 (loW (f + Q1))) zb1 (by omega)
         generalize ((wq6.setCell ⟨w.heap.size, 0, none⟩ (.int .i64 (hiW (f + Q1)))).setCell ⟨w.heap.size, 1, none⟩ (.int .u64 (loW (f + Q1)))) = wq7 at *
         have hzq7 : w.heap.size ≤ wq7.heap.size := hBq7.size
         (try simp only [Act.put, List.setIfInBounds_toArray, List.set_cons_zero, List.set_cons_succ])
         refine wpAnyH_ready (rs := [13]) (by kernel_rfl) (by simp) ?_
         refine AllReadyH.cons (o := ⟨none, _, _, _, _, none⟩) rfl (fun K hK => ?_) (AllReadyH.nil)
         (try dsimp only at hHeld)
         have hBq8 : Below w.heap.size w ((wq7.setCell ⟨w.heap.size + 1, 0, none⟩ (.int .i64 (hiW (f + Q2)))).setCell ⟨w.heap.size + 1, 1, none⟩ (.int .u64 (loW (f + Q2)))) := by go_grown
         have hOld := hHeld; clear hHeld; go_simp; refine hK.out _ _ ?_ (fun hHeld => ?_)
         · exact ⟨two_other (hOld.1) (by omega), two_other (hOld.2.1) (by omega), two_other (hOld.2.2.1) (by omega), two_other (hOld.2.2.2) (by omega)⟩
         clear hK K hOld
         (try dsimp only at hHeld)
         replace zaf0 := two_fz (b := w.heap.size + 1) (x := .int .i64 (hiW (f + Q2))) (y := .int .u64 (loW (f + Q2))) zaf0
         replace za0 := two_other (b := w.heap.size + 1) (x := .int .i64 (hiW (f + Q2))) (y := .int .u64 (loW (f + Q2))) za0 (by omega)
         replace zaf1 := two_fz (b := w.heap.size + 1) (x := .int .i64 (hiW (f + Q2))) (y := .int .u64 (loW (f + Q2))) zaf1
         replace za1 := two_other (b := w.heap.size + 1) (x := .int .i64 (hiW (f + Q2))) (y := .int .u64 (loW (f + Q2))) za1 (by omega)
         replace zbf0 := two_fz (b := w.heap.size + 1) (x := .int .i64 (hiW (f + Q2))) (y := .int .u64 (loW (f + Q2))) zbf0
         replace zb0 := two_0 (x := .int .i64 (hiW (f + Q2))) (y := .int .u64 (loW (f + Q2))) zb0
         replace zbf1 := two_fz (b := w.heap.size + 1) (x := .int .i64 (hiW (f + Q2))) (y := .int .u64 (loW (f + Q2))) zbf1
         replace zb1 := two_1 (x := .int .i64 (hiW (f + Q2))) (y := .int .u64 (loW (f + Q2))) zb1
         generalize ((wq7.setCell ⟨w.heap.size + 1, 0, none⟩ (.int .i64 (hiW (f + Q2)))).setCell ⟨w.heap.size + 1, 1, none⟩ (.int .u64 (loW (f + Q2)))) = wq8 at *
         have hzq8 : w.heap.size ≤ wq8.heap.size := hBq8.size
         (try simp only [Act.put, List.setIfInBounds_toArray, List.set_cons_zero, List.set_cons_succ])
         refine wpAnyH_done (by kernel_rfl) ?_ _
         go_wp2_with fail
         refine' bodyPost_ret (res_st_st rfl isA_W isS_W isA_W isS_W rfl rfl za0 za1 zb0 zb1) rfl ?_
         exact ⟨by rw [hr12.out.1, hr12.out.2], by go_grown⟩
theorem line_any (l : List (Int × Int × Int)) (u : Bool) (n : Int) (B o cap : Nat) (w : World) (ht : Tab B o l w) (hx : (-9223372036854775808 ≤ n ∧ n ≤ 9223372036854775807)) (hc : checkT l = 0) :
 Calls Try.prog 102 #[.slice (some ⟨B, o, none⟩) l.length cap, .bool u, .int .i64 n] w fun e w' => e = .returned (.tuple #[.agg #[.int .i64 (hiW ((rline l u n).1)), .int .u64 (loW ((rline l u n).1))], .agg #[.int .i64 (hiW ((rline l u n).2)), .int .u64 (loW ((rline l u n).2))] ]) ∧ Below w.heap.size w w' := by
 obtain ⟨hn, hp⟩ := parts_of hc
 exact line_go l u n B o cap w ht hn _ _ rfl hx hp
end Go.Proofs.Ytjleflfncijnpaa
