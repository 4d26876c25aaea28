/- checkLists, of package span. -/
import Derived.Deep.DeepCutAuto
import Derived.Deep.CutBlock
import Derived.Test.YtjleflfncijnpaaRows
import Derived.Test.YtjleflfncijnpaaBase
import Derived.Test.YtjleflfncijnpaaFacts
import Derived.Test.YtjleflfncijnpaaTwo
import Derived.Deep.RegionHeld3
import Derived.Deep.RegionWith
import Derived.Deep.QuietTactic
import Derived.BigQuiet
import Derived.Test.YtjleflfncijnpaaW
import Derived.Test.YtjleflfncijnpaaAsks
import Derived.Test.YtjleflfncijnpaaOut
import Derived.Test.YtjleflfncijnpaaSeq
import Derived.Test.YtjleflfncijnpaaTwo
import Derived.Test.YtjleflfncijnpaaQuo
import Derived.Test.YtjleflfncijnpaaSums
import Derived.Test.YtjleflfncijnpaaScaleM
import Derived.Test.YtjleflfncijnpaaMul
import Derived.Test.YtjleflfncijnpaaRootM
import Derived.Test.YtjleflfncijnpaaRootT
import Derived.Test.YtjleflfncijnpaaListM
set_option linter.unusedVariables false
set_option linter.unusedSimpArgs false
set_option maxHeartbeats 4000000
set_option maxRecDepth 100000
namespace Go.Proofs.Ytjleflfncijnpaa
open Go Go.RowKit
/-- A list of lists: of each its address, its capacity, its spans. -/
abbrev Ent := Option Addr × Nat × List (Int × Int)
def Ents (B : Nat) (es : List Ent) (w : World) : Prop := ∀ (i : Nat) (e : Ent), es[i]? = some e → w.cell? ⟨B, i, none⟩ = some (.slice e.1 e.2.2.length e.2.1) ∧ (e.2.2 = [] ∨ ∃ b o, e.1 = some ⟨b, o, none⟩ ∧ Spans b o e.2.2 w)
theorem Ents.keep {B : Nat} {es : List Ent} {w w1 : World} (h : Ents B es w) (hk : ∀ b o v, w.cell? ⟨b, o, none⟩ = some v → w1.cell? ⟨b, o, none⟩ = some v) : Ents B es w1 := fun i e he => by
  obtain ⟨h0, h1⟩ := h i e he
  refine ⟨hk _ _ _ h0, ?_⟩
  rcases h1 with h1 | ⟨b, o, e1, hs⟩
  · exact .inl h1
  · exact .inr ⟨b, o, e1, hs.keep hk⟩
theorem Ents.alloc {B : Nat} {es : List Ent} {w : World} (h : Ents B es w) (x : Obj) : Ents B es (w.alloc x) := h.keep fun _ _ _ h => keepA _ h
/-- What is wrong with lists. -/
def entsE (es : List Ent) : Int := if es.any (fun e => decide (64 < e.2.2.length)) = true then 3 else if es.all (fun e => goodL e.2.2 e.2.2.length) = true then 0 else 2
theorem any_of {es : List Ent} {i : Nat} {e : Ent} (he : es[i]? = some e) (h : 64 < e.2.2.length) : entsE es = 3 := by
  unfold entsE; rw [if_pos]
  exact List.any_eq_true.2 ⟨e, List.mem_of_getElem? he, decide_eq_true h⟩
theorem all_not {es : List Ent} (hs : ∀ i e, i < es.length → es[i]? = some e → e.2.2.length ≤ 64) : ¬ es.any (fun e => decide (64 < e.2.2.length)) = true := fun h => by
  obtain ⟨e, he, hl⟩ := List.any_eq_true.1 h
  obtain ⟨i, hi⟩ := List.mem_iff_getElem?.1 he
  have := hs i e (List.getElem?_eq_some_iff.1 hi).1 hi
  simp at hl; omega
theorem bad_of {es : List Ent} (hs : ∀ i e, i < es.length → es[i]? = some e → e.2.2.length ≤ 64) {i : Nat} {e : Ent} (he : es[i]? = some e) (h : goodL e.2.2 e.2.2.length = false) : entsE es = 2 := by
  unfold entsE; rw [if_neg (all_not hs), if_neg]
  intro g
  have := List.all_eq_true.1 g e (List.mem_of_getElem? he)
  rw [h] at this; cases this
theorem good_all {es : List Ent} (hs : ∀ i e, i < es.length → es[i]? = some e → e.2.2.length ≤ 64) (h : ∀ i e, i < es.length → es[i]? = some e → goodL e.2.2 e.2.2.length = true) : entsE es = 0 := by
  unfold entsE; rw [if_neg (all_not hs), if_pos]
  exact List.all_eq_true.2 fun e he => by
    obtain ⟨i, hi⟩ := List.mem_iff_getElem?.1 he
    exact h i e (List.getElem?_eq_some_iff.1 hi).1 hi
theorem checkLists_go (es : List Ent) (B cap : Nat) (w : World) (he : Ents B es w) (hm : es.length ≤ 4) (hb : Hid (∀ e ∈ es, ∀ p ∈ e.2.2, (-9223372036854775808 ≤ p.1 ∧ p.1 ≤ 9223372036854775807) ∧ (-9223372036854775808 ≤ p.2 ∧ p.2 ≤ 9223372036854775807))) (hmx : Hid (∀ e ∈ es, e.2.2.length ≤ 9223372036854775807)) (R : Int) (hR : Hid (R = entsE es)) :
    Calls Try.prog 108 #[.slice (some ⟨B, 0, none⟩) es.length cap] w fun e w' => e = .returned (.int .i64 R) ∧ Below w.heap.size w w' := by
  go_enter Try.func108, Try.ntmps108
  go_upto_block 0 with fail
  go_cut [] (fun wx => Hid (∀ i e, i < es.length → es[i]? = some e → e.2.2.length ≤ 64) ∧ Ents B es wx ∧ Below w.heap.size w wx)
  case first => as_aux_lemma =>
    go_wp2_with fail
    go_loopw [12] (fun s wx => ∃ k : Nat, s = .int .i64 k ∧ k ≤ es.length ∧ Hid (∀ i e, i < k → es[i]? = some e → e.2.2.length ≤ 64) ∧ Ents B es wx ∧ Below w.heap.size w wx) (fun s _ => (es.length - intOf s).toNat)
    case atStart => exact ⟨0, rfl, by omega, hid (fun i e hi => by omega), he, by go_grown⟩
    case round =>
      clear he
      obtain ⟨k, rfl, hk, hs, he, hB⟩ := hrel
      by_cases ke : k = es.length
      · subst ke
        have kk : ¬ (es.length : Int) < es.length := by omega
        go_wp2_with fail
        go_meet
        exact ⟨hs, he, hB⟩
      · have hk1 : k < es.length := by omega
        obtain ⟨e, hek⟩ : ∃ e, es[k]? = some e := ⟨es[k], List.getElem?_eq_getElem hk1⟩
        have c0 := (he k e hek).1
        have hmm := hmx.out e (List.mem_of_getElem? hek)
        have hk0 : (0 : Int) ≤ k := by omega
        have hk2 : (k : Int) < es.length := by omega
        have hany := hid (fun h => any_of hek h)
        have hstep : e.2.2.length ≤ 64 → Hid (∀ i e, i < k + 1 → es[i]? = some e → e.2.2.length ≤ 64) := fun hl => hid fun i e' hi h => by
          by_cases ei : i = k
          · subst ei; rw [hek] at h; cases h; exact hl
          · exact hs.out i e' (by omega) h
        obtain ⟨q, cp, l⟩ := e
        dsimp only at c0 hmm hany hstep
        by_cases c : 64 < l.length
        · have hr := hR.out.trans (hany.out c)
          have h2 : (64 : Int) < l.length := by omega
          have d2 : decide ((64 : Int) < l.length) = true := decide_eq_true h2
          clear hstep hR hek hany
          subst hr
          go_wp2_with fail
          go_ret
          exact ⟨rfl, by go_grown⟩
        · have hs2 := hstep (by omega)
          have h2 : ¬ (64 : Int) < l.length := by omega
          have d2 : decide ((64 : Int) < l.length) = false := decide_eq_false h2
          clear hstep hR hek hany
          go_wp2_with fail
          go_roundw
          case rel => exact ⟨k + 1, by go_num, by omega, hs2, he, by go_grown⟩
          case measure => first | (simp [intOf]; done) | (simp [intOf]; omega)
  case rest =>
    obtain ⟨hl64, he, hB⟩ := hcut
    go_wp2_with fail
    go_loopw [22] (fun s wx => ∃ k : Nat, s = .int .i64 k ∧ k ≤ es.length ∧ Hid (∀ i e, i < k → es[i]? = some e → goodL e.2.2 e.2.2.length = true) ∧ Ents B es wx ∧ Below w.heap.size w wx) (fun s _ => (es.length - intOf s).toNat)
    case atStart => exact ⟨0, rfl, by omega, hid (fun i e hi => by omega), he, by go_grown⟩
    case round =>
      clear he
      obtain ⟨k, rfl, hk, hs, he, hB⟩ := hrel
      by_cases ke : k = es.length
      · subst ke
        have kk : ¬ (es.length : Int) < es.length := by omega
        have hr := hR.out.trans (good_all hl64.out hs.out)
        clear hR
        subst hr
        go_wp2_with fail
        go_ret
        exact ⟨rfl, by go_grown⟩
      · have hk1 : k < es.length := by omega
        obtain ⟨e, hek⟩ : ∃ e, es[k]? = some e := ⟨es[k], List.getElem?_eq_getElem hk1⟩
        have c0 := (he k e hek).1
        have hsp := (he k e hek).2
        have hll := hl64.out k e hk1 hek
        have hbe := hid (hb.out e (List.mem_of_getElem? hek))
        have hk0 : (0 : Int) ≤ k := by omega
        have hk2 : (k : Int) < es.length := by omega
        have hbad := hid (fun h => bad_of hl64.out hek h)
        have hstep : goodL e.2.2 e.2.2.length = true → Hid (∀ i e, i < k + 1 → es[i]? = some e → goodL e.2.2 e.2.2.length = true) := fun hl => hid fun i e' hi h => by
          by_cases ei : i = k
          · subst ei; rw [hek] at h; cases h; exact hl
          · exact hs.out i e' (by omega) h
        obtain ⟨q, cp, l⟩ := e
        dsimp only at c0 hll hbe hbad hstep hsp
        replace hstep := hid hstep
        have hBr := hB.size
        rcases hsp with rfl | ⟨b, o, rfl, hsp⟩
        · have hs2 := hstep.out rfl
          clear hstep hbad hek hs
          go_wp2_with fail
          obtain ⟨wo, rfl⟩ : ∃ wo : World, wo = wr := ⟨_, rfl⟩
          go_loopw [28] (fun s wx => s = .int .i64 0 ∧ Ents B es wx ∧ Below w.heap.size w wx) (fun _ _ => 0)
          case atStart => exact ⟨rfl, he, hB⟩
          case round =>
            clear he hB hBr c0
            obtain ⟨rfl, he, hB⟩ := hrel
            go_wp2_with fail
            go_roundw
            case rel => exact ⟨k + 1, by go_num, by omega, hs2, he, by go_grown⟩
            case measure => first | (simp [intOf]; done) | (simp [intOf]; omega)
        · clear hek hs
          go_wp2_with fail
          obtain ⟨wo, rfl⟩ : ∃ wo : World, wo = wr := ⟨_, rfl⟩
          go_loopw [28] (fun s wx => ∃ j : Nat, s = .int .i64 j ∧ j ≤ l.length ∧ Hid (goodL l j = true) ∧ Spans b o l wx ∧ Ents B es wx ∧ Below w.heap.size w wx) (fun s _ => (l.length - intOf s).toNat)
          case atStart => exact ⟨0, rfl, by omega, hid rfl, hsp, he, hB⟩
          case round =>
            clear he hB hBr c0 hsp
            obtain ⟨j, rfl, hj, hg, hsp, he, hB⟩ := hrel
            have hBr := hB.size
            by_cases je : j = l.length
            · subst je
              have hs2 := hstep.out hg.out
              have jj : ¬ (l.length : Int) < l.length := by omega
              clear hstep hbad hg
              go_wp2_with fail
              go_roundw
              case rel => exact ⟨k + 1, by go_num, by omega, hs2, he, by go_grown⟩
              case measure => first | (simp [intOf]; done) | (simp [intOf]; omega)
            · have hj1 : j < l.length := by omega
              obtain ⟨p, hp⟩ := span_some hj1
              obtain ⟨d0, d1⟩ := hsp j p hp
              have hpb := hbe.out p (List.mem_of_getElem? hp)
              have hst := goodL_step hp
              have hbd := goodL_bad (n := l.length) hp hj1
              obtain ⟨x, y⟩ := p
              dsimp only at d0 d1 hpb hst hbd
              have hj0 : (0 : Int) ≤ j := by omega
              have hj2 : (j : Int) < l.length := by omega
              have s4 := fun W => check_any x y W hpb
              have he2 := he.alloc (.cells #[.int .i64 x, .int .i64 y] 24)
              have hsp2 := hsp.alloc (.cells #[.int .i64 x, .int .i64 y] 24)
              by_cases c : chk x y = 0
              · have hg2 := hid (show goodL l (j + 1) = true by rw [hst, hg.out, decide_eq_true c]; rfl)
                rw [c] at s4
                replace s4 := hid s4
                clear hst hbd hg c hp hR hbad hstep
                go_wp2_with fail
                refine useF w (s4.out _) (by go_grown) ?_; rintro e w1 rfl hB1 hk1 hf1 hs1
                replace he2 := he2.keep hk1
                replace hsp2 := hsp2.keep hk1
                clear hk1 hf1
                go_wp2_with fail
                go_roundw
                case rel => exact ⟨j + 1, by go_num, by omega, hg2, hsp2, he2, by go_grown⟩
                case measure => first | (simp [intOf]; done) | (simp [intOf]; omega)
              · have hr := hR.out.trans (hbad.out (hbd c))
                have e2 : chk x y = 2 := by have := chk_cases x y; omega
                rw [e2] at s4
                replace s4 := hid s4
                clear hst hbd hg c hp hR e2 hbad hstep
                subst hr
                go_wp2_with fail
                refine useF w (s4.out _) (by go_grown) ?_; rintro e w1 rfl hB1 hk1 hf1 hs1
                clear hk1 hf1
                go_wp2_with fail
                go_ret
                exact ⟨rfl, by go_grown⟩
end Go.Proofs.Ytjleflfncijnpaa
