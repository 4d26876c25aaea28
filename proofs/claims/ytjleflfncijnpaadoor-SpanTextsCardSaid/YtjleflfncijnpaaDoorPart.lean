/- What stands behind the point, by package span. -/
import Derived.Deep.MidRow
import Derived.Deep.DeepCutAuto
import Derived.Deep.CutBlock
import Derived.Test.YtjleflfncijnpaaDoorRows
import Derived.Test.YtjleflfncijnpaaDoorBase
import Derived.Test.YtjleflfncijnpaaDoorFacts
import Derived.Test.YtjleflfncijnpaaDoorTwo
import Derived.Deep.RegionHeld3
import Derived.Deep.RegionWith
import Derived.Deep.QuietTactic
import Derived.BigQuiet
import Derived.Test.YtjleflfncijnpaaDoorSeq
import Derived.Test.YtjleflfncijnpaaDoorOne
import Derived.Test.YtjleflfncijnpaaDoorShelfT
import Derived.Test.YtjleflfncijnpaaDoorTextM
import Derived.Test.YtjleflfncijnpaaDoorReadM
import Derived.Test.YtjleflfncijnpaaDoorReadT
import Derived.Test.YtjleflfncijnpaaDoorCutT
import Derived.Test.YtjleflfncijnpaaDoorFormT
import Derived.Test.YtjleflfncijnpaaDoorDouble
set_option linter.unusedVariables false
set_option linter.unusedSimpArgs false
set_option maxHeartbeats 4000000
set_option maxRecDepth 100000
namespace Go.Proofs.YtjleflfncijnpaaDoor
open Go Go.RowKit
/-- Doubled k times: the integer that has come to stand before the point, and the digits that are left. -/
def dblN (l : List UInt8) : Nat → Nat × List UInt8
  | 0 => (0, l)
  | k + 1 => (2 * (dblN l k).1 + (dblB (dblN l k).2).1, (dblB (dblN l k).2).2)
theorem dblN_all {l : List UInt8} (h : l.all isD = true) : ∀ k, (dblN l k).2.all isD = true
  | 0 => h
  | k + 1 => dbl_all _
theorem dblN_length (l : List UInt8) : ∀ k, (dblN l k).2.length = l.length
  | 0 => rfl
  | k + 1 => (dbl_length _).trans (dblN_length l k)
theorem conv_bytes (w : World) (l : List UInt8) : ∃ cap W2, (convert 9 91 (.string ⟨l.toArray⟩)).run Tryd.prog w = .ok (.slice (some ⟨w.heap.size, 0, none⟩) l.length cap) W2 ∧ RowB w.heap.size l W2 ∧ Below w.heap.size w W2 ∧ W2.heap.size = w.heap.size + 1 := by
  refine ⟨_, _, Go.run_bytes_of_string w 9 91 5 ⟨l.toArray⟩ Tryd.underlying9 Tryd.underlying91 Tryd.underlying5, ?_, by go_grown, by simp [go_sem]⟩
  intro i b hb
  have hi : i < l.length := (List.getElem?_eq_some_iff.1 hb).1
  have hv : l[i] = b := by have := List.getElem?_eq_getElem hi; rw [hb] at this; exact (Option.some.inj this).symm
  have hs : i < (⟨l.toArray⟩ : ByteArray).data.size := by simpa using hi
  have h1 := Go.bytesRow_at ⟨l.toArray⟩ (grownCap w l.length 0 5) i hs
  have h2 := World.cell?_alloc_mark w.drew (bytesRow ⟨l.toArray⟩ (grownCap w l.length 0 5)) 5 ((bytesRow ⟨l.toArray⟩ (grownCap w l.length 0 5)).size, (bytesRow ⟨l.toArray⟩ (grownCap w l.length 0 5)).size + 1) i
  have h3 := World.frozen?_alloc_mark w.drew (bytesRow ⟨l.toArray⟩ (grownCap w l.length 0 5)) 5 (bytesRow ⟨l.toArray⟩ (grownCap w l.length 0 5)).size ((bytesRow ⟨l.toArray⟩ (grownCap w l.length 0 5)).size + 1) i
  have h4 : i < (bytesRow ⟨l.toArray⟩ (grownCap w l.length 0 5)).size := by
    rcases Nat.lt_or_ge i (bytesRow ⟨l.toArray⟩ (grownCap w l.length 0 5)).size with g | g
    · exact g
    · rw [Array.getElem?_eq_none g] at h1; cases h1
  refine ⟨h2.trans (h1.trans ?_), h3.trans ?_⟩
  · subst hv; rfl
  · rw [decide_eq_false (by omega)]; rfl
/-- The bits that have come out so far. -/
def bitN (l : List UInt8) (k i : Nat) : Int := if i < k then ((dblB (dblN l i).2).1 : Int) else 0
def BitsB (B : Nat) (l : List UInt8) (k : Nat) (w : World) : Prop := ∀ i : Nat, i < 32 → w.cell? ⟨B, i, none⟩ = some (.int .i64 (bitN l k i)) ∧ w.frozen? ⟨B, i, none⟩ = false
theorem BitsB.kept {B C k : Nat} {l : List UInt8} {w w1 : World} (h : BitsB B l k w) (hK : KeptB C w w1) (hne : B ≠ C) : BitsB B l k w1 := fun i hi => by
  obtain ⟨h1, h2⟩ := h i hi
  obtain ⟨k1, k2⟩ := hK.2.1 B i hne
  exact ⟨k1.trans h1, k2.trans h2⟩
theorem BitsB.set {B k : Nat} {l : List UInt8} {w : World} (h : BitsB B l k w) (hk : k < 32) : BitsB B l (k + 1) (w.setCell ⟨B, k, none⟩ (.int .i64 ((dblB (dblN l k).2).1 : Int))) := fun i hi => by
  by_cases e : i = k
  · subst e
    obtain ⟨h1, h2⟩ := h i hi
    refine ⟨?_, one_fz h2⟩
    rw [one_same h1]; unfold bitN; rw [if_pos (by omega)]
  · obtain ⟨h1, h2⟩ := h i hi
    refine ⟨?_, one_fz h2⟩
    rw [one_off h1 (by omega)]; unfold bitN
    by_cases g : i < k
    · rw [if_pos g, if_pos (by omega)]
    · rw [if_neg g, if_neg (by omega)]
theorem RowB.far {B C j : Nat} {v : Value} {l : List UInt8} {w : World} (h : RowB B l w) (hne : C ≠ B) : RowB B l (w.setCell ⟨C, j, none⟩ v) := fun i b hb => by
  obtain ⟨h1, h2⟩ := h i b hb
  exact ⟨one_other h1 hne, one_fz h2⟩
theorem RowB.alloc {B : Nat} {l : List UInt8} {w : World} (h : RowB B l w) (o : Obj) : RowB B l (w.alloc o) := fun i b hb => by
  obtain ⟨h1, h2⟩ := h i b hb
  exact ⟨keepA _ h1, keepAF _ h1 h2⟩
theorem bits_new (w : World) (l : List UInt8) (t : TypeId) : BitsB w.heap.size l 0 (w.alloc (.cells (Array.replicate 32 (.int .i64 0)) t)) := fun i hi => by
  have h1 : (w.alloc (.cells (Array.replicate 32 (.int .i64 0)) t)).cell? ⟨w.heap.size, i, none⟩ = some (.int .i64 0) := by
    have h := World.cell?_alloc_mark w (Array.replicate 32 (.int .i64 0)) t (0, 0) i
    refine h.trans ?_
    simp [Array.getElem?_replicate, hi]
  refine ⟨by unfold bitN; rw [if_neg (by omega)]; exact h1, ?_⟩
  exact (World.frozen?_alloc_mark w (Array.replicate 32 (.int .i64 0)) t 0 0 i).trans (by simp)
theorem bits_load {B : Nat} {l : List UInt8} {w : World} (hb : BitsB B l 32 w) : ∃ cs : List Value, (∀ k, k < 32 → cs[k]? = some (.int .i64 (bitN l 32 k))) ∧ cs.length = 32 ∧ w.rangeAt B 0 cs ∧ (Tryd.prog.info? 119).map (·.size) = some cs.length := by
  refine ⟨(List.range 32).map (fun i => Value.int .i64 (bitN l 32 i)), fun k hk => by simp [hk], by simp, fun j v hj => ?_, by rw [List.length_map, List.length_range]; kernel_rfl⟩
  have hj2 : j < 32 := by have := (List.getElem?_eq_some_iff.1 hj).1; simpa using this
  rw [Nat.zero_add, (hb j hj2).1]
  simpa [hj2] using hj
theorem idx_arr {cs : List Value} (hl : cs.length = 32) {k : Nat} {v : Value} (h : cs[k]? = some v) (W : World) : (Instr.index 119 (.agg cs.toArray) (.int .i64 (k : Int))).run Tryd.prog W = .ok v W := by
  have hk : k < 32 := by have := (List.getElem?_eq_some_iff.1 h).1; omega
  have hk2 : (k : Int) < 32 := by omega
  have ag := run_isAgg_plain (P := Tryd.prog) Tryd.underlying22 rfl
  simp [Instr.index, run_underlying Tryd.underlying119, asIntOf, hk, hk2, h, part, Sem.run_bind, ag]
theorem dblN_lt {l : List UInt8} (h : l.all isD = true) : ∀ k, (dblN l k).1 < 2 ^ k
  | 0 => by show 0 < 2 ^ 0; omega
  | k + 1 => by
    have h1 := dblN_lt h k
    have h2 := dbl_carry _ (dblN_all h k)
    show 2 * (dblN l k).1 + (dblB (dblN l k).2).1 < 2 ^ (k + 1)
    rw [Nat.pow_succ]; omega
theorem part_any (l : List UInt8) (w : World) (hl : l.length ≤ 1000) (hd : l.all isD = true) :
    Calls Tryd.prog 57 #[.string ⟨l.toArray⟩] w fun e w' => e = .returned (.tuple #[.int .i64 (((dblN l 32).1 : Int)), .bool (someB (dblN l 32).2)]) ∧ Below w.heap.size w w' := by
  go_enter Tryd.func57, Tryd.ntmps57
  obtain ⟨cap, W2, hcv, hs, hB, hsz⟩ := conv_bytes w l
  have hbn := hid (bits_new W2 l 119)
  have hsr := hid (hs.alloc (.cells (Array.replicate 32 (.int .i64 0)) 119))
  have hB3 := hid (show Below w.heap.size w (W2.alloc (.cells (Array.replicate 32 (.int .i64 0)) 119)) by go_grown)
  have hsz3 := hid (show (W2.alloc (.cells (Array.replicate 32 (.int .i64 0)) 119)).heap.size = w.heap.size + 2 by simp [go_sem, hsz])
  rw [show Array.replicate 32 (Value.int .i64 0) = #[.int .i64 0, .int .i64 0, .int .i64 0, .int .i64 0, .int .i64 0, .int .i64 0, .int .i64 0, .int .i64 0, .int .i64 0, .int .i64 0, .int .i64 0, .int .i64 0, .int .i64 0, .int .i64 0, .int .i64 0, .int .i64 0, .int .i64 0, .int .i64 0, .int .i64 0, .int .i64 0, .int .i64 0, .int .i64 0, .int .i64 0, .int .i64 0, .int .i64 0, .int .i64 0, .int .i64 0, .int .i64 0, .int .i64 0, .int .i64 0, .int .i64 0, .int .i64 0] from rfl] at *
  have hsz4 := hid hsz
  clear hsz hs hB
  go_wp2_with fail
  generalize hW : W2.alloc _ = W3 at *
  generalize hBb : W2.heap.size = Bb at *
  go_loopw [11] (fun s wx => ∃ k : Nat, s = .int .i64 k ∧ k ≤ 32 ∧ RowB w.heap.size (dblN l k).2 wx ∧ BitsB Bb l k wx ∧ Below w.heap.size w wx ∧ wx.heap.size = w.heap.size + 2) (fun s _ => (32 - intOf s).toNat)
  case atStart => exact ⟨0, rfl, by omega, hsr.out, hbn.out, hB3.out, hsz3.out⟩
  case round =>
    clear hW hbn hsr hB3 hsz3
    obtain ⟨k, rfl, hk, hs, hb, hB, hsz⟩ := hrel
    by_cases c : k = 32
    · subst c
      obtain ⟨cs, hA, hlen, hrng, hinf⟩ := bits_load hb
      go_upto_region 8 with (refine wpList_load_mid rfl _ _ rfl Bb 0 rfl cs _ hrng Tryd.underlying119 rfl hinf ?_)
      go_wp2_with (refine wpList_load_mid rfl _ _ rfl Bb 0 rfl cs _ hrng Tryd.underlying119 rfl hinf ?_)
      have hsz5 := hB.size
      go_loopw [20, 2] (fun s a wx => ∃ k : Nat, s = .int .i64 k ∧ k ≤ 32 ∧ a = .int .i64 ((dblN l k).1 : Int) ∧ wx = wr) (fun s _ _ => (32 - intOf s).toNat)
      case atStart => exact ⟨0, rfl, by omega, rfl, rfl⟩
      case round =>
        obtain ⟨k, rfl, hk, rfl, rfl⟩ := hrel
        by_cases c : k = 32
        · subst c
          have hall := dblN_all hd 32
          have hlen2 := dblN_length l 32
          have hcb := @Go.run_convert_bytes_back Tryd.prog wr 91 9 5 ⟨w.heap.size, 0, none⟩ cap (dblN l 32).2 Tryd.underlying91 Tryd.underlying5 Tryd.underlying9 (fun j hj => by
            have h1 := (hs j _ (List.getElem?_eq_getElem hj)).1
            rw [Addr.add_mid, Nat.zero_add]; exact h1)
          rw [hlen2] at hcb
          have K5 := hid (fun W => some_call (d := (dblN l 32).2) (by omega) (fun j b hb => isD_small (List.all_eq_true.1 hall b (List.mem_of_getElem? hb))) W)
          clear hall
          go_wp2_with fail
          refine useF w (K5.out _) (by go_grown) ?_; rintro e w9 rfl hB9 hk9 hf9 hs9
          go_wp2_with fail
          go_ret2
          exact ⟨rfl, by go_grown⟩
        · have hd32 : (k : Int) < 32 := by omega
          have hx := idx_arr hlen (hA k (by omega))
          have hlt := dblN_lt hd k
          have hbt := dbl_carry _ (dblN_all hd k)
          have hbe : bitN l 32 k = ((dblB (dblN l k).2).1 : Int) := if_pos (by omega)
          have hpw : 2 ^ k ≤ 4294967296 := by
            have : 2 ^ k ≤ 2 ^ 32 := Nat.pow_le_pow_right (by omega) (by omega)
            exact this
          rw [hbe] at hx
          go_wp2_with fail
          exact ⟨⟨k + 1, by go_num, by omega, congrArg _ (by show _ = ((2 * (dblN l k).1 + (dblB (dblN l k).2).1 : Nat) : Int); (try unfold wrap64); omega), trivial⟩, by first | (simp [intOf]; done) | (simp [intOf]; omega)⟩
    · have hda := dblN_all hd k
      have hdl := dblN_length l k
      have hrw : KeptB w.heap.size wr wr := ⟨rfl, fun _ _ _ => ⟨rfl, rfl⟩, Below.refl _ _⟩
      have hne : Bb ≠ w.heap.size := by have := hsz4.out; omega
      have K := double_any (dblN l k).2 w.heap.size cap wr (by omega) hda hs (by omega)
      rw [hdl] at K
      replace K := hid K
      clear hda
      have hd32 : (k : Int) < 32 := by omega
      have hk0 : (0 : Int) ≤ k := by omega
      go_wp2_with fail
      refine K.out.mono ?_; rintro e w3 ⟨rfl, hs3, hK3⟩
      have hb3 := hb.kept hK3 hne
      obtain ⟨x0, xf⟩ := hb3 k (by omega)
      clear K hb hs
      go_wp2_with fail
      have hfin : RowB w.heap.size (dblN l (k + 1)).2 (w3.setCell ⟨Bb, k, none⟩ (.int .i64 ((dblB (dblN l k).2).1 : Int))) ∧ BitsB Bb l (k + 1) (w3.setCell ⟨Bb, k, none⟩ (.int .i64 ((dblB (dblN l k).2).1 : Int))) ∧ Below w.heap.size w (w3.setCell ⟨Bb, k, none⟩ (.int .i64 ((dblB (dblN l k).2).1 : Int))) ∧ (w3.setCell ⟨Bb, k, none⟩ (.int .i64 ((dblB (dblN l k).2).1 : Int))).heap.size = w.heap.size + 2 :=
        ⟨hs3.far hne, hb3.set (by omega), by have h1 := hB.trans hK3.2.2; have h2 := hsz4.out; go_grown, by have h1 := hK3.1; simp [go_sem]; omega⟩
      exact ⟨⟨k + 1, by go_num, by omega, hfin.1, hfin.2.1, hfin.2.2.1, hfin.2.2.2⟩, by first | (simp [intOf]; done) | (simp [intOf]; omega)⟩
end Go.Proofs.YtjleflfncijnpaaDoor
