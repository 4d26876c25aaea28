/- Read of a text, as the document says. -/
import Derived.OwnWalk
import Derived.Deep.DeepCutAuto
import Derived.Deep.CutBlock
import Derived.Test.YtjleflfncijnpaaDoorRows
import Derived.Test.YtjleflfncijnpaaDoorBase
import Derived.Test.YtjleflfncijnpaaDoorFacts
import Derived.Test.YtjleflfncijnpaaDoorTwo
import Derived.Deep.RegionHeld3
import Derived.Deep.RegionWith
import Derived.Deep.QuietTactic
import Derived.BigQuiet
import Derived.Test.YtjleflfncijnpaaDoorW
import Derived.Test.YtjleflfncijnpaaDoorAsks
import Derived.Test.YtjleflfncijnpaaDoorOut
import Derived.Test.YtjleflfncijnpaaDoorSeq
import Derived.Test.YtjleflfncijnpaaDoorTwo
import Derived.Test.YtjleflfncijnpaaDoorOne
import Derived.Test.YtjleflfncijnpaaDoorShelfT
import Derived.Test.YtjleflfncijnpaaDoorTextM
import Derived.Test.YtjleflfncijnpaaDoorReadM
import Derived.Test.YtjleflfncijnpaaDoorReadT
import Derived.Test.YtjleflfncijnpaaDoorCutT
import Derived.Test.YtjleflfncijnpaaDoorFormT
import Derived.Test.YtjleflfncijnpaaDoorDouble
import Derived.Test.YtjleflfncijnpaaDoorPart
import Derived.Test.YtjleflfncijnpaaDoorReadS
import Derived.Test.YtjleflfncijnpaaDoorFormR
set_option linter.unusedVariables false
set_option linter.unusedSimpArgs false
set_option maxHeartbeats 4000000
set_option maxRecDepth 100000
namespace Go.Proofs.YtjleflfncijnpaaDoor
open Go Go.RowKit
/-- What is read, by what fits. -/
theorem read_fit (l : List UInt8) (hl : ¬ 80 < l.length) (hf : (formB (numL l) && (!negL l || someB (numL l))) = true) (hU : (cutU (numL l)).all isD = true) :
    readS l = if negL l = true then fitS (-((rdN l : Int) + rdI l)) (-(rdN l : Int)) else fitS (rdN l) ((rdN l : Int) + rdI l) := by
  have hq := dblN_lt hU 32
  rw [show (2 ^ 32 : Nat) = 4294967296 from rfl] at hq
  have hN : rdN l = valD (cutM (numL l)) * 4294967296 + (dblN (cutU (numL l)) 32).1 := rfl
  have hI : rdI l = 0 ∨ (rdI l = 1 ∧ rdM l = true) := by
    unfold rdI; split
    · rename_i h; exact Or.inr ⟨rfl, h⟩
    · exact Or.inl rfl
  have hI2 : rdM l = true → rdI l = 1 := fun h => if_pos h
  unfold readS
  rw [if_neg hl, if_neg (by rw [hf]; simp)]
  rcases hI with hI | ⟨hI, hm⟩
  · have hm : rdM l ≠ true := fun h => by have := hI2 h; omega
    rw [hI]
    by_cases c : 2147483647 < valD (cutM (numL l))
    · rw [if_pos c]; split
      · rw [fitS_bad (by omega)]
      · rw [fitS_bad (by omega)]
    · rw [if_neg c, if_neg (fun h => hm h.1)]; split
      · rw [fitS_good (by omega)]; exact Prod.ext (by dsimp only; omega) (Prod.ext (by dsimp only) rfl)
      · rw [fitS_good (by omega)]
  · rw [hI]
    by_cases c : 2147483647 < valD (cutM (numL l))
    · rw [if_pos c]; split
      · rw [fitS_bad (by omega)]
      · rw [fitS_bad (by omega)]
    · rw [if_neg c]
      by_cases m : rdN l = 9223372036854775807
      · rw [if_pos ⟨hm, m⟩]; split
        · rw [fitS_bad (by omega)]
        · rw [fitS_bad (by omega)]
      · rw [if_neg (fun h => m h.2)]; split
        · rw [fitS_good (by omega)]; exact Prod.ext (by dsimp only; omega) (Prod.ext (by dsimp only) rfl)
        · rw [fitS_good (by omega)]
def NZ (B Bn : Nat) (V : Int) : World → Prop := (fun w' => w'.cell? ⟨B, 0, none⟩ = some (.int .i64 0) ∧ w'.cell? ⟨B, 1, none⟩ = some (.int .i64 0) ∧ w'.frozen? ⟨B, 0, none⟩ = false ∧ w'.frozen? ⟨B, 1, none⟩ = false ∧ w'.cell? ⟨Bn, 0, none⟩ = some (.int .i64 (hiW V)) ∧ w'.cell? ⟨Bn, 1, none⟩ = some (.int .u64 (loW V)) ∧ w'.frozen? ⟨Bn, 0, none⟩ = false ∧ w'.frozen? ⟨Bn, 1, none⟩ = false)
theorem NZ.below {B Bn m : Nat} {V : Int} {w w1 : World} (h : NZ B Bn V w) (hb : Below m w w1) (h1 : B < m) (h2 : Bn < m) : NZ B Bn V w1 := by
  obtain ⟨z0, z1, zf0, zf1, n0, n1, nf0, nf1⟩ := h
  exact ⟨(hb.cell (p := ⟨B, 0, none⟩) h1).trans z0, (hb.cell (p := ⟨B, 1, none⟩) h1).trans z1, (hb.frozen (p := ⟨B, 0, none⟩) h1).trans zf0, (hb.frozen (p := ⟨B, 1, none⟩) h1).trans zf1,
    (hb.cell (p := ⟨Bn, 0, none⟩) h2).trans n0, (hb.cell (p := ⟨Bn, 1, none⟩) h2).trans n1, (hb.frozen (p := ⟨Bn, 0, none⟩) h2).trans nf0, (hb.frozen (p := ⟨Bn, 1, none⟩) h2).trans nf1⟩
theorem Tryd.info3 : (Tryd.prog.info? 3).map (fun i => (i.zero, i.size, i.bytes)) = some (some (.int .i64 0), 1, 8) := by kernel_rfl
def digs (l : List UInt8) : List Value := l.map fun b => .int .i64 ((b.toNat : Int) - 48)
/-- A row of digits, as integers. -/
def RowI (g : Nat) (l : List UInt8) (w : World) : Prop := ∀ (i : Nat) (b : UInt8), l[i]? = some b → w.cell? ⟨g, i, none⟩ = some (.int .i64 ((b.toNat : Int) - 48)) ∧ w.frozen? ⟨g, i, none⟩ = false
theorem RowI.keep {g : Nat} {l : List UInt8} {w w1 : World} (h : RowI g l w) (hk : ∀ b o v, w.cell? ⟨b, o, none⟩ = some v → w1.cell? ⟨b, o, none⟩ = some v)
    (hf : ∀ b o v, w.cell? ⟨b, o, none⟩ = some v → w.frozen? ⟨b, o, none⟩ = false → w1.frozen? ⟨b, o, none⟩ = false) : RowI g l w1 :=
  fun i b hb => let ⟨h0, h1⟩ := h i b hb; ⟨hk _ _ _ h0, hf _ _ _ h0 h1⟩
theorem RowI.drew {g : Nat} {l : List UInt8} {w : World} (h : RowI g l w) : RowI g l w.drew :=
  fun i b hb => let ⟨h0, h1⟩ := h i b hb; ⟨by rw [World.cell?_drew]; exact h0, by rw [World.frozen?_drew]; exact h1⟩
theorem RowI.two {g c : Nat} {l : List UInt8} {w : World} {x y : Value} (h : RowI g l w) (hne : c ≠ g) : RowI g l ((w.setCell ⟨c, 0, none⟩ x).setCell ⟨c, 1, none⟩ y) :=
  fun i b hb => let ⟨h0, h1⟩ := h i b hb; ⟨two_other h0 hne, two_fz h1⟩
theorem RowI.alloc {g : Nat} {l : List UInt8} {w : World} (h : RowI g l w) (x : Obj) : RowI g l (w.alloc x) :=
  fun i b hb => let ⟨h0, h1⟩ := h i b hb; ⟨keepA _ h0, keepAF _ h0 h1⟩
theorem RowI.set {B : Nat} {p q : List UInt8} {b c : UInt8} {w : World} (h : RowI B (p ++ b :: q) w) : RowI B (p ++ c :: q) (w.setCell ⟨B, p.length, none⟩ (.int .i64 ((c.toNat : Int) - 48))) := by
  intro i d hd
  by_cases e : i = p.length
  · subst e
    have hdc : d = c := by simpa using hd.symm
    subst hdc
    obtain ⟨h1, h2⟩ := h p.length b (by simp)
    exact ⟨one_same h1, one_fz h2⟩
  · have hb : (p ++ b :: q)[i]? = some d := by
      rcases Nat.lt_or_gt_of_ne e with g | g
      · rw [List.getElem?_append_left g] at hd ⊢; exact hd
      · rw [List.getElem?_append_right (by omega)] at hd ⊢
        obtain ⟨t, ht⟩ : ∃ t, i - p.length = t + 1 := ⟨i - p.length - 1, by omega⟩
        rw [ht] at hd ⊢
        simpa using hd
    obtain ⟨h1, h2⟩ := h i d hb
    exact ⟨one_off h1 (by omega), one_fz h2⟩
theorem NZ.one {B Bn g j : Nat} {V : Int} {w : World} {x : Value} (h : NZ B Bn V w) (h1 : g ≠ B) (h2 : g ≠ Bn) : NZ B Bn V (w.setCell ⟨g, j, none⟩ x) := by
  obtain ⟨z0, z1, zf0, zf1, n0, n1, nf0, nf1⟩ := h
  exact ⟨one_other z0 h1, one_other z1 h1, one_fz zf0, one_fz zf1, one_other n0 h2, one_other n1 h2, one_fz nf0, one_fz nf1⟩
def UP (Bu : Nat) (V : Int) : World → Prop := (fun w' => w'.cell? ⟨Bu, 0, none⟩ = some (.int .i64 (hiW V)) ∧ w'.cell? ⟨Bu, 1, none⟩ = some (.int .u64 (loW V)) ∧ w'.frozen? ⟨Bu, 0, none⟩ = false ∧ w'.frozen? ⟨Bu, 1, none⟩ = false)
theorem someB_nil : someB ([] : List UInt8) = false := rfl
theorem own_ints {B n : Nat} {v : Value} {l : List UInt8} {w : World} (h : w.ownsRow B 3 1 v n (digs l)) (hl : l.length = n) (g0 : Nat) (hg0 : B ≤ g0) :
    ∃ q cap g, v = .slice q n cap ∧ (n = 0 ∨ q = some ⟨g, 0, none⟩) ∧ B ≤ g ∧ RowI g l w := by
  have hc := fun g => h.cells (g := g)
  obtain ⟨h1, ⟨rfl, hn⟩ | ⟨g, cap, cur, rfl, hg1, hg2, hg3, hg4, hg5, hg6⟩⟩ := h
  · subst hn
    have : l = [] := List.eq_nil_of_length_eq_zero hl
    subst this
    exact ⟨none, 0, g0, rfl, Or.inl rfl, hg0, fun i b hb => by simp at hb⟩
  · refine ⟨_, cap, g, rfl, Or.inr rfl, hg1, fun i b hb => ⟨?_, by simp [World.frozen?, hg2]⟩⟩
    have h := hc g rfl i (.int .i64 ((b.toNat : Int) - 48)) (by unfold digs; rw [List.getElem?_map, hb]; rfl)
    rw [show (⟨g, 0, none⟩ : Addr).add i = ⟨g, i, none⟩ by unfold Addr.add; split <;> simp_all] at h
    exact h
theorem app_int {ops : Array Oper} {rest : List Oper} {o : Oper} {a : Act} {Q : Exit → Act → World → Prop} {w0 : World} (hgd : o.guard = none) (s x : Operand)
    (ho : o.op = .call { callee := .builtin .append, args := #[s, x], argTypes := #[89, 89] }) (B : Nat) (v : Value) (n : Nat) (xs : List Value) (hs : a.eval s = v) (hown : w0.ownsRow B 3 1 v n xs) (b : Int)
    (hx : a.eval x = .slice (some ⟨w0.heap.size, 0, none⟩) 1 1) (hn : n < 1000000) (hB : B ≤ w0.heap.size)
    (h : ∀ v' w', w'.ownsRow B 3 1 v' (n + 1) (xs ++ [.int .i64 b]) → Below B w0 w' → wpList Tryd.prog ops Q rest (a.put o.dst v') w') : wpList Tryd.prog ops Q (o :: rest) a (w0.alloc (.cells #[.int .i64 b] 3)) := by
  obtain ⟨i0, hi, hz0, hz1, hz2⟩ := info_parts Tryd.info3
  refine wpList_append_own _ hgd s x 89 ho B 3 i0 (.int .i64 0) 1 8 Tryd.underlying89 hi hz0 hz1 hz2 rfl (by decide) v n xs hs (hown.alloc _) ⟨w0.heap.size, 0, none⟩ 1 1 [.int .i64 b] hx rfl ?_ ?_ ?_ ?_ ?_ ?_
  · intro j u hj
    cases j with
    | zero => simp at hj; subst hj; simp [Addr.add, go_sem]
    | succ j => simp at hj
  · intro u hu; simp at hu; subst hu; rfl
  · unfold maxLen; omega
  · omega
  · simp [go_sem]; omega
  · intro v' w' h1 h2 _
    refine h v' w' h1 ?_
    refine ((Below.refl B _).alloc hB _).trans ((Below.refl B _).grown h2 (by simp [go_sem]; omega) (fun k hk => (hown.lt k hk).1))
theorem digs_snoc {l : List UInt8} {k : Nat} {b : UInt8} (h : l[k]? = some b) : digs (l.take (k + 1)) = digs (l.take k) ++ [.int .i64 ((b.toNat : Int) - 48)] := by
  rw [take_snoc h]; unfold digs; rw [List.map_append]; rfl
set_option maxRecDepth 100000 in
theorem rread_p (d U : List UInt8) (A : Nat) (sm : Bool) (w : World) (hl : ¬ 80 < d.length) (hA : A ≤ d.length) (hA0 : 0 < d.length)
    (hU : Hid (U = d.drop (A + 1))) (hd : Hid (∀ (j : Nat) (b : UInt8), j < A → d[j]? = some b → isD b = true)) (hu : Hid (U.all isD = true))
    (b0 : UInt8) (hb0 : Hid (d[0]? = some b0)) (hb1 : ((b0.toNat : Int) == 45) = false)
    (KF : Hid (∀ w : World, Calls Tryd.prog 59 #[.string ⟨d.toArray⟩] w fun e w' => e = .returned (.tuple #[.bool true, .int .i64 (A : Int), .bool sm]) ∧ Below w.heap.size w w'))
    (R : Int × Int × Int) (hR1 : Hid (∀ k, k ≤ A → 1099511627776 < valD (d.take k) → R = (0, 0, 4))) (N I : Int)
    (hN : Hid (N = ((valD (d.take A) * 4294967296 + (dblN U 32).1 : Nat) : Int))) (hI : Hid (I = if someB (dblN U 32).2 = true then 1 else 0)) (hR2 : Hid (R = fitS N (N + I))) :
    Calls Tryd.prog 13 #[.string ⟨d.toArray⟩] w fun e w' => e = .returned (.tuple #[.agg #[.int .i64 R.1, .int .i64 R.2.1], .int .i64 R.2.2]) ∧ Below w.heap.size w w' := by
  have h1 : ¬ (80 : Int) < d.length := by omega
  have h2 : (0 : Int) < d.length := by omega
  have hx0 := idx_at hb0.out
  replace hx0 := fun W => hx0 W
  simp only [Int.ofNat_zero, Int.natCast_zero] at hx0
  go_enter Tryd.func13, Tryd.ntmps13
  go_wp2_with fail
  refine useF w (KF.out _) (by go_grown) ?_; rintro e w1 rfl hB1 hk1 hf1 hs1
  have z0 := hk1 w.heap.size 0 (.int .i64 0) (by simp [go_sem])
  have z1 := hk1 w.heap.size 1 (.int .i64 0) (by simp [go_sem])
  have zf0 := hf1 w.heap.size 0 (.int .i64 0) (by simp [go_sem]) (by simp [go_sem])
  have zf1 := hf1 w.heap.size 1 (.int .i64 0) (by simp [go_sem]) (by simp [go_sem])
  have zb := World.block_lt_of_cell? _ _ z0
  dsimp only at zb
  clear hk1 hf1 hs1 KF
  go_wp2_with fail
  have hZ1 : w.heap.size ≤ w1.heap.size := hB1.size
  go_loopw [9] (fun s wx => ∃ k : Nat, s = .int .i64 k ∧ k ≤ A ∧ valD (d.take k) ≤ 1099511627776 ∧ NZ w.heap.size w1.heap.size (valD (d.take k)) wx ∧ Below w.heap.size w wx) (fun s _ => (A - intOf s).toNat)
  case atStart =>
    refine ⟨0, rfl, Nat.zero_le _, Nat.zero_le _, ?_, by go_grown⟩
    exact ⟨keepA _ z0, keepA _ z1, keepAF _ z0 zf0, keepAF _ z1 zf1, by simp [go_sem]; rfl, by simp [go_sem]; rfl, by simp [go_sem], by simp [go_sem]⟩
  case round =>
    clear z0 z1 zf0 zf1
    obtain ⟨k, rfl, hk, hv, hz, hB⟩ := hrel
    obtain ⟨z0, z1, zf0, zf1, n0, n1, nf0, nf1⟩ := hz
    generalize w1.heap.size = Bn at *
    by_cases c : k = A
    · subst c
      generalize hV : valD (d.take k) = V at *
      have hdl := hid (dblN_lt hu.out)
      have hUl : Hid (U.length = d.length - (k + 1)) := hid (by rw [hU.out, List.length_drop])
      have kk : ¬ (k : Int) < k := by omega
      go_wp2_with fail
      have hnb := World.block_lt_of_cell? _ _ n0
      dsimp only at hnb
      obtain ⟨B2, hB2⟩ : ∃ B2, B2 = wr.heap.size := ⟨_, rfl⟩
      rw [← hB2] at hnb
      have hBw : w.heap.size < Bn := by omega
      go_loopw [11, 10] (fun s r wx => ∃ j : Nat, s = .int .i64 ((k : Int) + 1 + (j : Int)) ∧ j ≤ U.length ∧ wx.ownsRow B2 3 1 r j (digs (U.take j)) ∧ NZ w.heap.size Bn V wx ∧ B2 ≤ wx.heap.size ∧ Below w.heap.size w wx) (fun s _ _ => (d.length + 1 - intOf s).toNat)
      case atStart => exact ⟨0, by go_num, Nat.zero_le _, World.ownsRow_nil _ _ _ _, ⟨z0, z1, zf0, zf1, n0, n1, nf0, nf1⟩, by omega, hB⟩
      case round =>
        clear hB hB2 z0 z1 zf0 zf1 n0 n1 nf0 nf1
        obtain ⟨j, rfl, hj, hown, hz, hB2, hB⟩ := hrel
        have hUl2 := hUl.out
        by_cases c : k + 1 + j < d.length
        · obtain ⟨b, hb⟩ := byte_some (show k + 1 + j < d.length by omega)
          have hx := idx_at hb
          rw [show ((k + 1 + j : Nat) : Int) = (k : Int) + 1 + (j : Int) by omega] at hx
          have hbU : U[j]? = some b := by rw [hU.out, List.getElem?_drop]; exact hb
          have hbd := of_decide_eq_true (List.all_eq_true.1 hu.out b (List.mem_of_getElem? hbU))
          have hds := hid (digs_snoc hbU)
          obtain ⟨g, hg⟩ : ∃ g : Nat, g = b.toNat - 48 := ⟨_, rfl⟩
          have hg2 : g ≤ 9 := by omega
          have hw1 : IntKind.u8.wrap ((b.toNat : Int) - 48) = (g : Int) := by rw [IntKind.wrap_u8]; omega
          have hw2 : IntKind.i64.wrap (g : Int) = (g : Int) := by rw [IntKind.wrap_i64]; omega
          have hgi : (b.toNat : Int) - 48 = (g : Int) := by omega
          rw [hgi] at hds
          have hc2 : (k : Int) + 1 + (j : Int) < d.length := by omega
          have hc3 : (0 : Int) ≤ (k : Int) + 1 + (j : Int) := by omega
          have hc4 : (k : Int) + 1 + (j : Int) ≤ 80 := by omega
          have hjU : j + 1 ≤ U.length := by omega
          clear hb hbd c hg hgi hbU hUl2
          go_wp2_with (at_builtin; refine app_int rfl _ _ rfl B2 _ _ _ rfl hown (g : Int) rfl (by omega) hB2 ?_)
          intro v5 w5 h5 hb5
          have hz5 := hb5.size
          have hzz := hz.below hb5 (by omega) (by omega)
          have hBB : Below w.heap.size w w5 := hB.trans (hb5.mono (by omega))
          clear hown hz hB
          go_wp2_with fail
          go_roundw
          case rel => exact ⟨j + 1, by go_num, hjU, by rw [hds.out]; exact h5, hzz, by omega, hBB⟩
          case measure => first | (simp [intOf]; done) | (simp [intOf]; omega)
        · have hjU : j = U.length := by omega
          subst hjU
          rw [List.take_length] at hown
          obtain ⟨q, cap, g, rfl, hq, hBg, hrow⟩ := own_ints hown rfl B2 (Nat.le_refl _)
          have hx2 : ¬ (k : Int) + 1 + (U.length : Int) < d.length := by omega
          have hUa := hid (dblN_all hu.out)
          have hUL := hid (dblN_length U)
          have hU80 : U.length ≤ 80 := by omega
          clear hown c hUl2 hUl hU hd hk hdl
          go_wp2_with fail
          go_loopw [12] (fun s wx => ∃ m : Nat, s = .int .i64 (m : Int) ∧ m ≤ 32 ∧ RowI g (dblN U m).2 wx ∧ NZ w.heap.size Bn ((V * 2 ^ m + (dblN U m).1 : Nat) : Int) wx ∧ Below w.heap.size w wx) (fun s _ => (32 - intOf s).toNat)
          case atStart => exact ⟨0, rfl, by omega, hrow, by rw [show V * 2 ^ 0 + (dblN U 0).1 = V by simp [dblN]]; exact hz, hB⟩
          case round =>
            clear hB hz hrow hB2
            obtain ⟨m, rfl, hm, hrow, hz, hB⟩ := hrel
            by_cases c : m = 32
            · have hm2 : ¬ (m : Int) < 32 := by omega
              rw [c] at hz hrow
              obtain ⟨z0, z1, zf0, zf1, n0, n1, nf0, nf1⟩ := hz
              rw [show (V * 2 ^ 32 + (dblN U 32).1) = V * 4294967296 + (dblN U 32).1 from rfl, ← hN.out] at n0 n1
              have hNb : 0 ≤ N ∧ N ≤ 1099511627776 * 4294967296 + 4294967296 := by
                have := dblN_lt hu.out 32
                rw [show (2 ^ 32 : Nat) = 4294967296 from rfl] at this
                have h9 := hN.out
                omega
              have hDl : Hid ((dblN U 32).2.length = U.length) := hid (hUL.out 32)
              have hal := hid (hUa.out 32)
              clear hN
              generalize (dblN U 32).2 = D at *
              have hnb2 := World.block_lt_of_cell? _ _ n0
              dsimp only at hnb2
              have hgu0 : U.length = 0 ∨ g < wr.heap.size := by
                by_cases c : U.length = 0
                · exact Or.inl c
                · obtain ⟨b, hb⟩ := byte_some (show 0 < D.length by have := hDl.out; omega)
                  exact Or.inr (World.block_lt_of_cell? _ _ (hrow 0 b hb).1)
              clear c hm
              generalize hBu : wr.heap.size = Bu at *
              go_wp2_with fail
              try (rw [hBu])
              go_loopw [17] (fun s wx => ∃ e : Nat, s = .int .i64 (e : Int) ∧ e ≤ U.length ∧ RowI g D wx ∧ NZ w.heap.size Bn N wx ∧ UP Bu (N + if someB (D.take e) = true then 1 else 0) wx ∧ Below w.heap.size w wx) (fun s _ => (U.length - intOf s).toNat)
              case atStart =>
                refine ⟨0, rfl, Nat.zero_le _, hrow.alloc _, ⟨keepA _ z0, keepA _ z1, keepAF _ z0 zf0, keepAF _ z1 zf1, keepA _ n0, keepA _ n1, keepAF _ n0 nf0, keepAF _ n1 nf1⟩, ?_, by go_grown⟩
                rw [show (N + if someB (D.take 0) = true then 1 else 0) = N by rw [List.take_zero, someB_nil]; simp, ← hBu]
                unfold UP
                refine ⟨by simp [go_sem], by simp [go_sem], by simp [go_sem], by simp [go_sem]⟩
              case round =>
                clear hB hrow z0 z1 zf0 zf1 n0 n1 nf0 nf1 hBu
                obtain ⟨e, rfl, he, hrow, hz, hup, hB⟩ := hrel
                obtain ⟨z0, z1, zf0, zf1, n0, n1, nf0, nf1⟩ := hz
                obtain ⟨u0, u1, uf0, uf1⟩ := hup
                by_cases c : e = U.length
                · have hIe : (if someB (D.take e) = true then (1 : Int) else 0) = I := by
                    rw [c, ← hDl.out, List.take_length, hI.out]
                  rw [hIe] at u0 u1
                  have hI2 : 0 ≤ I ∧ I ≤ 1 := by rw [hI.out]; split <;> omega
                  subst c
                  clear hIe hI hq hDl hal hUa hUL hu hrow
                  go_wp2_with fail
                  refine useF w (out_any N (N + I) _ (by omega)) (by go_grown) ?_; rintro e wo rfl hBo hko hfo hso
                  replace zf0 := hfo _ _ _ z0 zf0; replace z0 := hko _ _ _ z0
                  replace zf1 := hfo _ _ _ z1 zf1; replace z1 := hko _ _ _ z1
                  (try clear zb); have zb := World.block_lt_of_cell? _ _ z0; (try dsimp only at zb)
                  have hzo := hBo.size
                  clear hko hfo hso
                  go_wp2_with fail
                  all_goals (refine' bodyPost_ret (res_st_t rfl isA_S isS_S rfl ?_ ?_) rfl ?_; rotate_left 2; (· ((try simp only [World.cell?_drew]); first | (with_reducible exact two_0 (by assumption)) | (with_reducible exact two_1 (by assumption)) | (with_reducible exact two_other (two_0 (by assumption)) (by simp)) | (with_reducible exact two_other (two_1 (by assumption)) (by simp)) | (with_reducible exact two_0 (two_other (by assumption) (by simp))) | (with_reducible exact two_1 (two_other (by assumption) (by simp))) | (simp (maxDischargeDepth := 8) [go_sem, hHeld]; rfl) | (simp (maxDischargeDepth := 8) [go_sem, *]; rfl) | (simp (maxDischargeDepth := 8) [go_sem, *]; done))); (· ((try simp only [World.cell?_drew]); first | (with_reducible exact two_0 (by assumption)) | (with_reducible exact two_1 (by assumption)) | (with_reducible exact two_other (two_0 (by assumption)) (by simp)) | (with_reducible exact two_other (two_1 (by assumption)) (by simp)) | (with_reducible exact two_0 (two_other (by assumption) (by simp))) | (with_reducible exact two_1 (two_other (by assumption) (by simp))) | (simp (maxDischargeDepth := 8) [go_sem, hHeld]; rfl) | (simp (maxDischargeDepth := 8) [go_sem, *]; rfl) | (simp (maxDischargeDepth := 8) [go_sem, *]; done))); refine ⟨ret_r ?_, by go_grown⟩; (exact hR2.out.symm))
                · have heU : e < U.length := by omega
                  have hq2 : q = some ⟨g, 0, none⟩ := by rcases hq with h | h; omega; exact h
                  subst hq2
                  obtain ⟨b, hb⟩ := byte_some (show e < D.length by have := hDl.out; omega)
                  obtain ⟨x0, xf⟩ := hrow e b hb
                  have hbd := of_decide_eq_true (List.all_eq_true.1 hal.out b (List.mem_of_getElem? hb))
                  have hsn := hid (some_snoc hb)
                  obtain ⟨t, ht⟩ : ∃ t : Nat, (b.toNat : Int) - 48 = (t : Int) := ⟨b.toNat - 48, by omega⟩
                  rw [ht] at x0
                  have hce : (e : Int) < U.length := by omega
                  have hgu : Bu ≠ g := by omega
                  by_cases tz : 0 < t
                  · have tz2 : (0 : Int) < t := by omega
                    have hv := hid (show (if someB (D.take (e + 1)) = true then (1 : Int) else 0) = 1 by
                      rw [hsn.out]; unfold bigB; rw [decide_eq_true (show 49 ≤ b.toNat ∧ b.toNat ≤ 57 by omega), Bool.or_true]; rfl)
                    clear hsn hbd hb tz ht c hal
                    go_wp2_with fail
                    go_region_with (first | (go_at_call 37; refine useF w (of_any 1 _ (by omega)) (by go_grown) ?_; rintro e w1 rfl hB1 hk1 hf1 hs1; have zf0 := hf1 _ _ _ z0 zf0; have z0 := hk1 _ _ _ z0; have zf1 := hf1 _ _ _ z1 zf1; have z1 := hk1 _ _ _ z1; have nf0 := hf1 _ _ _ n0 nf0; have n0 := hk1 _ _ _ n0; have nf1 := hf1 _ _ _ n1 nf1; have n1 := hk1 _ _ _ n1; have uf0 := hf1 _ _ _ u0 uf0; have u0 := hk1 _ _ _ u0; have uf1 := hf1 _ _ _ u1 uf1; have u1 := hk1 _ _ _ u1; have hrow := hrow.keep hk1 hf1; have zb := World.block_lt_of_cell? _ _ z0; have nb := World.block_lt_of_cell? _ _ n0; have ub := World.block_lt_of_cell? _ _ u0; clear hk1 hf1) | (go_at_call 36; refine useF w (plus_any _ _ _) (by go_grown) ?_; rintro e w1 rfl hB1 hk1 hf1 hs1; have zf0 := hf1 _ _ _ z0 zf0; have z0 := hk1 _ _ _ z0; have zf1 := hf1 _ _ _ z1 zf1; have z1 := hk1 _ _ _ z1; have nf0 := hf1 _ _ _ n0 nf0; have n0 := hk1 _ _ _ n0; have nf1 := hf1 _ _ _ n1 nf1; have n1 := hk1 _ _ _ n1; have uf0 := hf1 _ _ _ u0 uf0; have u0 := hk1 _ _ _ u0; have uf1 := hf1 _ _ _ u1 uf1; have u1 := hk1 _ _ _ u1; have hrow := hrow.keep hk1 hf1; have zb := World.block_lt_of_cell? _ _ z0; have nb := World.block_lt_of_cell? _ _ n0; have ub := World.block_lt_of_cell? _ _ u0; clear hk1 hf1))
                    all_goals (go_wp2_with fail)
                    all_goals
                      go_roundw
                      case rel => exact ⟨e + 1, by go_num, by omega, hrow.two hgu, ⟨two_other z0 (by omega), two_other z1 (by omega), two_fz zf0, two_fz zf1, two_other n0 (by omega), two_other n1 (by omega), two_fz nf0, two_fz nf1⟩, by rw [hv.out]; exact ⟨two_0 u0, two_1 u1, two_fz uf0, two_fz uf1⟩, by go_grown⟩
                      case measure => first | (simp [intOf]; done) | (simp [intOf]; omega)
                  · have tz2 : ¬ (0 : Int) < t := by omega
                    have hv := hid (show someB (D.take (e + 1)) = someB (D.take e) by
                      rw [hsn.out]; unfold bigB; rw [decide_eq_false (show ¬ (49 ≤ b.toNat ∧ b.toNat ≤ 57) by omega), Bool.or_false])
                    clear hsn hbd hb tz ht c hal
                    generalize hif : (if someB (D.take e) = true then (1 : Int) else 0) = J at *
                    go_wp2_with fail
                    go_roundw
                    case rel => exact ⟨e + 1, by go_num, by omega, hrow, ⟨z0, z1, zf0, zf1, n0, n1, nf0, nf1⟩, by rw [hv.out, hif]; exact ⟨u0, u1, uf0, uf1⟩, hB⟩
                    case measure => first | (simp [intOf]; done) | (simp [intOf]; omega)
            · have hm2 : (m : Int) < 32 := by omega
              have hal := hid (hUa.out m)
              have hD := hid (show dblN U (m + 1) = (2 * (dblN U m).1 + (dblB (dblN U m).2).1, (dblB (dblN U m).2).2) from rfl)
              have hDl : Hid ((dblN U m).2.length = U.length) := hid (hUL.out m)
              have hdl := hid (dblN_lt hu.out m)
              generalize hDm : (dblN U m).2 = D at *
              generalize hqm : (dblN U m).1 = Qm at *
              clear c
              go_wp2_with fail
              go_loopw [14, 13] (fun s t wx => ∃ e : Nat, s = .int .i64 ((e : Int) - 1) ∧ e ≤ U.length ∧ t = .int .i64 ((dblB (D.drop e)).1 : Int) ∧ RowI g (D.take e ++ (dblB (D.drop e)).2) wx ∧ NZ w.heap.size Bn ((V * 2 ^ m + Qm : Nat) : Int) wx ∧ Below w.heap.size w wx) (fun s _ _ => (intOf s + 1).toNat)
              case atStart => exact ⟨U.length, by go_num, Nat.le_refl _, by rw [← hDl.out, List.drop_length]; rfl, by rw [← hDl.out, List.drop_length, List.take_length]; simpa [dblB] using hrow, hz, hB⟩
              case round =>
                clear hB hz hrow
                obtain ⟨e, rfl, he, rfl, hrow, hz, hB⟩ := hrel
                cases e with
                | zero =>
                  rw [List.drop_zero, List.take_zero, List.nil_append] at *
                  obtain ⟨z0, z1, zf0, zf1, n0, n1, nf0, nf1⟩ := hz
                  have hc1 := dbl_carry D hal.out
                  have hDb : Hid ((dblB D).2 = (dblN U (m + 1)).2 ∧ (dblN U (m + 1)).1 = 2 * Qm + (dblB D).1) := hid (by rw [hD.out]; exact ⟨rfl, rfl⟩)
                  generalize (dblB D).2 = D2 at *
                  generalize (dblB D).1 = cv at *
                  have hpw : 2 ^ m ≤ 4294967296 := by
                    have : 2 ^ m ≤ 2 ^ 32 := Nat.pow_le_pow_right (by omega) hm
                    exact this
                  have hval := hid (show ((V * 2 ^ (m + 1) + (dblN U (m + 1)).1 : Nat) : Int) = ((V * 2 ^ m + Qm : Nat) : Int) + ((V * 2 ^ m + Qm : Nat) : Int) + (cv : Int) by
                    rw [hDb.out.2, Nat.pow_succ, ← Nat.mul_assoc]; generalize V * 2 ^ m = Y; omega)
                  generalize V * 2 ^ m + Qm = Y at *
                  clear hDm hqm hD hal hdl hpw hDl
                  go_wp2_with fail
                  refine useF w (twice_any _ _) (by go_grown) ?_; rintro e wa rfl hBa hka hfa hsa
                  replace zf0 := hfa _ _ _ z0 zf0; replace z0 := hka _ _ _ z0
                  replace zf1 := hfa _ _ _ z1 zf1; replace z1 := hka _ _ _ z1
                  replace nf0 := hfa _ _ _ n0 nf0; replace n0 := hka _ _ _ n0
                  replace nf1 := hfa _ _ _ n1 nf1; replace n1 := hka _ _ _ n1
                  replace hrow := hrow.keep hka hfa
                  (try clear zb); have zb := World.block_lt_of_cell? _ _ z0; (try dsimp only at zb)
                  (try clear nb); have nb := World.block_lt_of_cell? _ _ n0; (try dsimp only at nb)
                  have hza := hBa.size
                  clear hka hfa hsa
                  go_wp2_with fail
                  refine useF w (of_any (cv : Int) _ (by omega)) (by go_grown) ?_; rintro e wb rfl hBb hkb hfb hsb
                  replace zf0 := hfb _ _ _ z0 zf0; replace z0 := hkb _ _ _ z0
                  replace zf1 := hfb _ _ _ z1 zf1; replace z1 := hkb _ _ _ z1
                  replace nf0 := hfb _ _ _ n0 nf0; replace n0 := hkb _ _ _ n0
                  replace nf1 := hfb _ _ _ n1 nf1; replace n1 := hkb _ _ _ n1
                  replace hrow := hrow.keep hkb hfb
                  (try clear zb); have zb := World.block_lt_of_cell? _ _ z0; (try dsimp only at zb)
                  (try clear nb); have nb := World.block_lt_of_cell? _ _ n0; (try dsimp only at nb)
                  have hzb := hBb.size
                  clear hkb hfb hsb
                  go_wp2_with fail
                  refine useF w (plus_any _ _ _) (by go_grown) ?_; rintro e wc2 rfl hBc2 hkc2 hfc2 hsc2
                  replace zf0 := hfc2 _ _ _ z0 zf0; replace z0 := hkc2 _ _ _ z0
                  replace zf1 := hfc2 _ _ _ z1 zf1; replace z1 := hkc2 _ _ _ z1
                  replace nf0 := hfc2 _ _ _ n0 nf0; replace n0 := hkc2 _ _ _ n0
                  replace nf1 := hfc2 _ _ _ n1 nf1; replace n1 := hkc2 _ _ _ n1
                  replace hrow := hrow.keep hkc2 hfc2
                  (try clear zb); have zb := World.block_lt_of_cell? _ _ z0; (try dsimp only at zb)
                  (try clear nb); have nb := World.block_lt_of_cell? _ _ n0; (try dsimp only at nb)
                  have hzc2 := hBc2.size
                  clear hkc2 hfc2 hsc2
                  go_wp2_with fail
                  go_roundw
                  case rel => exact ⟨m + 1, by go_num, by omega, by rw [← hDb.out.1]; exact hrow.two (by omega), by rw [hval.out]; exact ⟨two_other z0 (by omega), two_other z1 (by omega), two_fz zf0, two_fz zf1, two_0 n0, two_1 n1, two_fz nf0, two_fz nf1⟩, by go_grown⟩
                  case measure => first | (simp [intOf]; done) | (simp [intOf]; omega)
                | succ e =>
                  have hq2 : q = some ⟨g, 0, none⟩ := by rcases hq with h | h; omega; exact h
                  subst hq2
                  obtain ⟨b, hb⟩ := byte_some (show e < D.length by have := hDl.out; omega)
                  obtain ⟨x0, xf⟩ := hrow e b (by rw [List.getElem?_append_left (by rw [List.length_take]; have := hDl.out; omega), List.getElem?_take_of_lt (by omega)]; exact hb)
                  have hbd := of_decide_eq_true (List.all_eq_true.1 hal.out b (List.mem_of_getElem? hb))
                  have hc := dbl_carry (D.drop (e + 1)) (by
                    have e' := List.take_append_drop (e + 1) D
                    have h := hal.out
                    rw [← e', List.all_append, Bool.and_eq_true] at h
                    exact h.2)
                  have hjl : e < D.length := by have := hDl.out; omega
                  have e1 : D.drop e = b :: D.drop (e + 1) := by
                    have hv : D[e] = b := by have := List.getElem?_eq_getElem hjl; rw [hb] at this; exact (Option.some.inj this).symm
                    rw [List.drop_eq_getElem_cons hjl, hv]
                  have hts := take_snoc hb
                  generalize hcv : (dblB (D.drop (e + 1))).1 = cv at *
                  have e2 := hid (show dblB (D.drop e) = ((2 * (b.toNat - 48) + cv) / 10, UInt8.ofNat (48 + (2 * (b.toNat - 48) + cv) % 10) :: (dblB (D.drop (e + 1))).2) by rw [e1]; show (_, _) = _; rw [hcv])
                  rw [hts, List.append_assoc] at hrow
                  have hset := RowI.set (p := D.take e) (c := UInt8.ofNat (48 + (2 * (b.toNat - 48) + cv) % 10)) hrow
                  rw [List.length_take, Nat.min_eq_left (by omega), byte_nat (by omega), show ((48 + (2 * (b.toNat - 48) + cv) % 10 : Nat) : Int) - 48 = (2 * ((b.toNat : Int) - 48) + (cv : Int)) % 10 by omega] at hset
                  replace hset := hid hset
                  have hzo := hid (hz.one (j := e) (x := .int .i64 ((2 * ((b.toNat : Int) - 48) + (cv : Int)) % 10)) (show g ≠ w.heap.size by omega) (show g ≠ Bn by omega))
                  have he1 : e + 1 ≤ U.length := he
                  have hce : (e : Int) < U.length := by omega
                  clear e1 hts hcv hb hrow hz hal
                  go_wp2_with fail
                  exact ⟨⟨e, rfl, by omega, by rw [e2.out]; exact congrArg _ (by first | rfl | (show _ = ((_ : Nat) : Int); omega)), by rw [e2.out]; exact hset.out, hzo.out, by go_grown⟩, by first | (simp [intOf]; done) | (simp [intOf]; omega)⟩
    · have hkA : k < A := by omega
      obtain ⟨b, hb⟩ := byte_some (show k < d.length by omega)
      have hx := idx_at hb
      have hsn := hid (val_snoc hb)
      have hbd := of_decide_eq_true (hd.out k b hkA hb)
      obtain ⟨g, hg⟩ : ∃ g : Nat, g = b.toNat - 48 := ⟨_, rfl⟩
      have hg2 : g ≤ 9 := by omega
      have hw1 : IntKind.u8.wrap ((b.toNat : Int) - 48) = (g : Int) := by rw [IntKind.wrap_u8]; omega
      have hw2 : IntKind.i64.wrap (g : Int) = (g : Int) := by rw [IntKind.wrap_i64]; omega
      rw [← hg] at hsn
      generalize valD (d.take k) = V at *
      have hR3 := hid (fun h => hR1.out (k + 1) (by omega) h)
      rw [hsn.out] at hR3
      have hkc : (k : Int) < A := by omega
      clear hb hbd c hg
      have hBz : w.heap.size < Bn := by omega
      go_wp2_with fail
      go_cut [] (fun wx => NZ w.heap.size Bn ((V : Int) * 8 + ((V : Int) + V)) wx ∧ Below w.heap.size w wx)
      case first =>
        go_region_with (first | (go_at_call 39; refine useF w (up3_any _ _) (by go_grown) ?_; rintro e w1 rfl hB1 hk1 hf1 hs1; have nf0 := hf1 _ _ _ n0 nf0; have n0 := hk1 _ _ _ n0; have nf1 := hf1 _ _ _ n1 nf1; have n1 := hk1 _ _ _ n1; have nb := World.block_lt_of_cell? _ _ n0; have zf0 := hf1 _ _ _ z0 zf0; have z0 := hk1 _ _ _ z0; have zf1 := hf1 _ _ _ z1 zf1; have z1 := hk1 _ _ _ z1; have zb := World.block_lt_of_cell? _ _ z0; clear hk1 hf1) | (go_at_call 60; refine useF w (twice_any _ _) (by go_grown) ?_; rintro e w1 rfl hB1 hk1 hf1 hs1; have nf0 := hf1 _ _ _ n0 nf0; have n0 := hk1 _ _ _ n0; have nf1 := hf1 _ _ _ n1 nf1; have n1 := hk1 _ _ _ n1; have nb := World.block_lt_of_cell? _ _ n0; have zf0 := hf1 _ _ _ z0 zf0; have z0 := hk1 _ _ _ z0; have zf1 := hf1 _ _ _ z1 zf1; have z1 := hk1 _ _ _ z1; have zb := World.block_lt_of_cell? _ _ z0; clear hk1 hf1) | (go_at_call 36; refine useF w (plus_any _ _ _) (by go_grown) ?_; rintro e w1 rfl hB1 hk1 hf1 hs1; have nf0 := hf1 _ _ _ n0 nf0; have n0 := hk1 _ _ _ n0; have nf1 := hf1 _ _ _ n1 nf1; have n1 := hk1 _ _ _ n1; have nb := World.block_lt_of_cell? _ _ n0; have zf0 := hf1 _ _ _ z0 zf0; have z0 := hk1 _ _ _ z0; have zf1 := hf1 _ _ _ z1 zf1; have z1 := hk1 _ _ _ z1; have zb := World.block_lt_of_cell? _ _ z0; clear hk1 hf1))
        all_goals (go_wp2_with fail)
        all_goals go_meet
        all_goals exact ⟨⟨two_other z0 (by omega), two_other z1 (by omega), two_fz zf0, two_fz zf1, two_0 n0, two_1 n1, two_fz nf0, two_fz nf1⟩, by go_grown⟩
      case rest =>
        obtain ⟨⟨z0, z1, zf0, zf1, n0, n1, nf0, nf1⟩, hB⟩ := hcut
        go_wp2_with fail
        go_cut [] (fun wx => NZ w.heap.size Bn ((V : Int) * 8 + ((V : Int) + V) + g) wx ∧ Below w.heap.size w wx)
        case first =>
          go_region_with (first | (go_at_call 37; refine useF w (of_any (g : Int) _ (by omega)) (by go_grown) ?_; rintro e w1 rfl hB1 hk1 hf1 hs1; have nf0 := hf1 _ _ _ n0 nf0; have n0 := hk1 _ _ _ n0; have nf1 := hf1 _ _ _ n1 nf1; have n1 := hk1 _ _ _ n1; have nb := World.block_lt_of_cell? _ _ n0; have zf0 := hf1 _ _ _ z0 zf0; have z0 := hk1 _ _ _ z0; have zf1 := hf1 _ _ _ z1 zf1; have z1 := hk1 _ _ _ z1; have zb := World.block_lt_of_cell? _ _ z0; clear hk1 hf1) | (go_at_call 36; refine useF w (plus_any _ _ _) (by go_grown) ?_; rintro e w1 rfl hB1 hk1 hf1 hs1; have nf0 := hf1 _ _ _ n0 nf0; have n0 := hk1 _ _ _ n0; have nf1 := hf1 _ _ _ n1 nf1; have n1 := hk1 _ _ _ n1; have nb := World.block_lt_of_cell? _ _ n0; have zf0 := hf1 _ _ _ z0 zf0; have z0 := hk1 _ _ _ z0; have zf1 := hf1 _ _ _ z1 zf1; have z1 := hk1 _ _ _ z1; have zb := World.block_lt_of_cell? _ _ z0; clear hk1 hf1))
          all_goals (go_wp2_with fail)
          all_goals go_meet
          all_goals exact ⟨⟨two_other z0 (by omega), two_other z1 (by omega), two_fz zf0, two_fz zf1, two_0 n0, two_1 n1, two_fz nf0, two_fz nf1⟩, by go_grown⟩
        case rest =>
          obtain ⟨⟨z0, z1, zf0, zf1, n0, n1, nf0, nf1⟩, hB⟩ := hcut
          rw [show (V : Int) * 8 + ((V : Int) + V) + g = ((10 * V + g : Nat) : Int) by omega] at n0 n1
          by_cases big : 1099511627776 < 10 * V + g
          · have hlt := hid (fun W => less_any 1099511627776 ((10 * V + g : Nat) : Int) W (by omega))
            rw [decide_eq_true (show (1099511627776 : Int) < ((10 * V + g : Nat) : Int) by omega)] at hlt
            have hR4 := hid (hR3.out big)
            generalize 10 * V + g = X at *
            go_wp2_with fail
            go_region_with (first | (go_at_call 37; refine useF w (of_any 1099511627776 _ (by omega)) (by go_grown) ?_; rintro e w1 rfl hB1 hk1 hf1 hs1; have nf0 := hf1 _ _ _ n0 nf0; have n0 := hk1 _ _ _ n0; have nf1 := hf1 _ _ _ n1 nf1; have n1 := hk1 _ _ _ n1; have nb := World.block_lt_of_cell? _ _ n0; have zf0 := hf1 _ _ _ z0 zf0; have z0 := hk1 _ _ _ z0; have zf1 := hf1 _ _ _ z1 zf1; have z1 := hk1 _ _ _ z1; have zb := World.block_lt_of_cell? _ _ z0; clear hk1 hf1) | (go_at_call 40; refine useF w (hlt.out _) (by go_grown) ?_; rintro e w1 rfl hB1 hk1 hf1 hs1; have nf0 := hf1 _ _ _ n0 nf0; have n0 := hk1 _ _ _ n0; have nf1 := hf1 _ _ _ n1 nf1; have n1 := hk1 _ _ _ n1; have nb := World.block_lt_of_cell? _ _ n0; have zf0 := hf1 _ _ _ z0 zf0; have z0 := hk1 _ _ _ z0; have zf1 := hf1 _ _ _ z1 zf1; have z1 := hk1 _ _ _ z1; have zb := World.block_lt_of_cell? _ _ z0; clear hk1 hf1))
            all_goals (go_wp2_with fail)
            all_goals (refine' bodyPost_ret (res_st_t rfl isA_S isS_S rfl ?_ ?_) rfl ?_; rotate_left 2; (· ((try simp only [World.cell?_drew]); first | (with_reducible exact two_0 (by assumption)) | (with_reducible exact two_1 (by assumption)) | (with_reducible exact two_other (two_0 (by assumption)) (by simp)) | (with_reducible exact two_other (two_1 (by assumption)) (by simp)) | (with_reducible exact two_0 (two_other (by assumption) (by simp))) | (with_reducible exact two_1 (two_other (by assumption) (by simp))) | (simp (maxDischargeDepth := 8) [go_sem, hHeld]; rfl) | (simp (maxDischargeDepth := 8) [go_sem, *]; rfl) | (simp (maxDischargeDepth := 8) [go_sem, *]; done))); (· ((try simp only [World.cell?_drew]); first | (with_reducible exact two_0 (by assumption)) | (with_reducible exact two_1 (by assumption)) | (with_reducible exact two_other (two_0 (by assumption)) (by simp)) | (with_reducible exact two_other (two_1 (by assumption)) (by simp)) | (with_reducible exact two_0 (two_other (by assumption) (by simp))) | (with_reducible exact two_1 (two_other (by assumption) (by simp))) | (simp (maxDischargeDepth := 8) [go_sem, hHeld]; rfl) | (simp (maxDischargeDepth := 8) [go_sem, *]; rfl) | (simp (maxDischargeDepth := 8) [go_sem, *]; done))); refine ⟨ret_r ?_, by go_grown⟩; (exact hR4.out.symm))
          · have hlt := hid (fun W => less_any 1099511627776 ((10 * V + g : Nat) : Int) W (by omega))
            rw [decide_eq_false (show ¬ (1099511627776 : Int) < ((10 * V + g : Nat) : Int) by omega)] at hlt
            generalize hX : 10 * V + g = X at *
            go_wp2_with fail
            go_region_with (first | (go_at_call 37; refine useF w (of_any 1099511627776 _ (by omega)) (by go_grown) ?_; rintro e w1 rfl hB1 hk1 hf1 hs1; have nf0 := hf1 _ _ _ n0 nf0; have n0 := hk1 _ _ _ n0; have nf1 := hf1 _ _ _ n1 nf1; have n1 := hk1 _ _ _ n1; have nb := World.block_lt_of_cell? _ _ n0; have zf0 := hf1 _ _ _ z0 zf0; have z0 := hk1 _ _ _ z0; have zf1 := hf1 _ _ _ z1 zf1; have z1 := hk1 _ _ _ z1; have zb := World.block_lt_of_cell? _ _ z0; clear hk1 hf1) | (go_at_call 40; refine useF w (hlt.out _) (by go_grown) ?_; rintro e w1 rfl hB1 hk1 hf1 hs1; have nf0 := hf1 _ _ _ n0 nf0; have n0 := hk1 _ _ _ n0; have nf1 := hf1 _ _ _ n1 nf1; have n1 := hk1 _ _ _ n1; have nb := World.block_lt_of_cell? _ _ n0; have zf0 := hf1 _ _ _ z0 zf0; have z0 := hk1 _ _ _ z0; have zf1 := hf1 _ _ _ z1 zf1; have z1 := hk1 _ _ _ z1; have zb := World.block_lt_of_cell? _ _ z0; clear hk1 hf1))
            all_goals (go_wp2_with fail)
            all_goals
              go_roundw
              case rel => exact ⟨k + 1, by go_num, by omega, by rw [hsn.out]; omega, by rw [hsn.out]; exact ⟨z0, z1, zf0, zf1, n0, n1, nf0, nf1⟩, by assumption⟩
              case measure => first | (simp [intOf]; done) | (simp [intOf]; omega)
end Go.Proofs.YtjleflfncijnpaaDoor
