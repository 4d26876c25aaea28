/- Has a text the form of a number? As the document says. -/
import Derived.Test.YtjleflfncijnpaaDoorRows
import Derived.Test.YtjleflfncijnpaaDoorBase
import Derived.Test.YtjleflfncijnpaaDoorFacts
import Derived.Test.YtjleflfncijnpaaDoorTwo
import Derived.Deep.RegionHeld3
import Derived.Deep.RegionWith
import Derived.Deep.QuietTactic
import Derived.BigQuiet
import Derived.Test.YtjleflfncijnpaaDoorSeq
import Derived.Test.YtjleflfncijnpaaDoorTextM
import Derived.Test.YtjleflfncijnpaaDoorReadM
import Derived.Test.YtjleflfncijnpaaDoorReadT
import Derived.Test.YtjleflfncijnpaaDoorCutT
import Derived.Test.YtjleflfncijnpaaDoorFormT
set_option linter.unusedVariables false
set_option linter.unusedSimpArgs false
set_option maxHeartbeats 4000000
set_option maxRecDepth 100000
namespace Go.Proofs.YtjleflfncijnpaaDoor
open Go Go.RowKit
/-- What is known of the first k bytes. -/
def FormInv (d : List UInt8) (k at_ : Nat) : Prop :=
  (∀ (j : Nat) (b : UInt8), j < k → j ≠ at_ → d[j]? = some b → isD b = true) ∧ (at_ = d.length ∨ (0 < at_ ∧ at_ < k ∧ at_ + 1 < d.length ∧ d[at_]? = some 46))
theorem isD_point : isD 46 = false := by decide
theorem inv_start (d : List UInt8) : FormInv d 0 d.length := ⟨fun j _ h => absurd h (by omega), Or.inl rfl⟩
theorem inv_digit {d : List UInt8} {k at_ : Nat} {b : UInt8} (h : FormInv d k at_) (hb : d[k]? = some b) (hd : isD b = true) : FormInv d (k + 1) at_ := by
  refine ⟨fun j c hj hne hc => ?_, ?_⟩
  · by_cases e : j = k
    · subst e; rw [hb] at hc; cases hc; exact hd
    · exact h.1 j c (by omega) hne hc
  · rcases h.2 with g | ⟨g1, g2, g3, g4⟩
    · exact Or.inl g
    · exact Or.inr ⟨g1, by omega, g3, g4⟩
theorem inv_point {d : List UInt8} {k : Nat} (h : FormInv d k d.length) (hb : d[k]? = some 46) (h0 : 0 < k) (h1 : k + 1 < d.length) : FormInv d (k + 1) k := by
  refine ⟨fun j c hj hne hc => h.1 j c (by omega) (by omega) hc, Or.inr ⟨h0, by omega, h1, hb⟩⟩
theorem all_of {l : List UInt8} (h : ∀ (j : Nat) (b : UInt8), l[j]? = some b → isD b = true) : l.all isD = true := by
  rw [List.all_eq_true]
  intro x hx
  obtain ⟨j, hj⟩ := List.mem_iff_getElem?.1 hx
  exact h j x hj
theorem inv_cut {d : List UInt8} {k at_ : Nat} (h : FormInv d k at_) (hk : at_ = d.length → k = d.length) : cutI d = at_ := by
  refine cutI_eq d at_ ?_ (fun j hj e => ?_) ?_
  · rcases h.2 with g | ⟨g1, g2, g3, g4⟩ <;> omega
  · have := h.1 j 46 (by rcases h.2 with g | ⟨g1, g2, g3, g4⟩; have := hk g; omega; omega) (by omega) e
    rw [isD_point] at this; cases this
  · rcases h.2 with g | ⟨g1, g2, g3, g4⟩
    · exact Or.inl g
    · exact Or.inr g4
theorem digB_t {l : List UInt8} (h : l.all isD = true) (hl : 1 ≤ l.length) : digB l = true := by
  unfold digB; rw [h]; cases l with
  | nil => simp at hl
  | cons b t => rfl
theorem digB_nil : digB [] = false := rfl
theorem digB_bad {l : List UInt8} {k : Nat} {b : UInt8} (h : l[k]? = some b) (hb : isD b = false) : digB l = false := by
  unfold digB; rw [all_bad h hb]; rfl
theorem cutI_stop : ∀ d : List UInt8, cutI d < d.length → d[cutI d]? = some 46
  | [], h => absurd h (by simp)
  | b :: d, h => by
    by_cases c : b = 46
    · subst c
      have e : cutI (46 :: d) = 0 := rfl
      rw [e]; rfl
    · have e : cutI (b :: d) = cutI d + 1 := by
        unfold cutI; rw [List.takeWhile_cons, if_pos (by simpa using c)]; rfl
      rw [e] at h ⊢
      rw [List.getElem?_cons_succ]
      exact cutI_stop d (by simpa using h)
/-- All bytes gone through. -/
theorem inv_end {d : List UInt8} {at_ : Nat} (h : FormInv d d.length at_) : cutI d = at_ ∧ formB d = (decide (0 < d.length) && (decide (at_ = 1) || d[0]? != some 48)) := by
  have e := inv_cut h (fun _ => rfl)
  refine ⟨e, ?_⟩
  by_cases hl : d.length = 0
  · have hn : d = [] := List.eq_nil_of_length_eq_zero hl
    subst hn; rfl
  have hat : 1 ≤ at_ ∧ at_ ≤ d.length := by rcases h.2 with g | ⟨g1, g2, g3, g4⟩ <;> omega
  have hM : digB (cutM d) = true := by
    refine digB_t (all_of fun j b hj => ?_) ?_
    · unfold cutM at hj
      have hjl : j < at_ := by
        have := (List.getElem?_eq_some_iff.1 hj).1
        rw [List.length_take, e] at this; omega
      rw [List.getElem?_take_of_lt (by omega)] at hj
      exact h.1 j b (by omega) (by omega) hj
    · unfold cutM; rw [List.length_take, e]; omega
  have hU : (!cutP d || digB (cutU d)) = true := by
    rcases h.2 with g | ⟨g1, g2, g3, g4⟩
    · have : cutP d = false := by unfold cutP; rw [e]; exact decide_eq_false (by omega)
      rw [this]; rfl
    · have : digB (cutU d) = true := by
        refine digB_t (all_of fun j b hj => ?_) ?_
        · unfold cutU at hj
          rw [e, List.getElem?_drop] at hj
          have hjl := (List.getElem?_eq_some_iff.1 hj).1
          exact h.1 _ b hjl (by omega) hj
        · unfold cutU; rw [List.length_drop, e]; omega
      rw [this, Bool.or_true]
  have hL : leadB (cutM d) = ((d[0]? == some 48) && decide (1 < at_)) := by
    unfold leadB cutM
    rw [e, List.getElem?_take_of_lt (by omega), List.length_take, show min at_ d.length = at_ by omega]
  unfold formB
  rw [hM, hU, hL, decide_eq_true (show 0 < d.length by omega)]
  have h1 : decide (1 < at_) = !decide (at_ = 1) := by
    by_cases c : at_ = 1
    · subst c; rfl
    · rw [decide_eq_true (by omega), decide_eq_false c]; rfl
  rw [h1]
  show (true && !(_ && _) && true) = (true && (_ || !(d[0]? == some 48)))
  cases (d[0]? == some 48) <;> cases decide (at_ = 1) <;> rfl
/-- A byte that is neither a digit nor the point. -/
theorem inv_bad {d : List UInt8} {k at_ : Nat} {b : UInt8} (h : FormInv d k at_) (hb : d[k]? = some b) (hd : isD b = false) (hp : ¬ (b = 46 ∧ at_ = d.length ∧ 0 < k ∧ k + 1 < d.length)) : formB d = false := by
  have hk := (List.getElem?_eq_some_iff.1 hb).1
  rcases h.2 with g | ⟨g1, g2, g3, g4⟩
  · by_cases c : b = 46
    · subst c
      have e : cutI d = k := cutI_eq d k (by omega) (fun j hj e => by
        have := h.1 j 46 hj (by omega) e
        rw [isD_point] at this; cases this) (Or.inr hb)
      have hc : k = 0 ∨ k + 1 = d.length := by
        by_cases h0 : 0 < k
        · by_cases h1 : k + 1 < d.length
          · exact absurd ⟨rfl, g, h0, h1⟩ hp
          · omega
        · omega
      rcases hc with hc | hc
      · have : cutM d = [] := by unfold cutM; rw [e, hc]; rfl
        unfold formB; rw [this, digB_nil]; rfl
      · have h1 : cutU d = [] := by unfold cutU; rw [e]; exact List.drop_eq_nil_of_le (by omega)
        have h2 : cutP d = true := by unfold cutP; rw [e]; exact decide_eq_true hk
        unfold formB; rw [h1, h2, digB_nil]; simp
    · have hI : k < cutI d := by
        rcases Nat.lt_or_ge k (cutI d) with g2 | g2
        · exact g2
        · exfalso
          have hs := cutI_stop d (by omega)
          by_cases e : cutI d = k
          · rw [e, hb] at hs; exact c (Option.some.inj hs)
          · have := h.1 (cutI d) 46 (by omega) (by omega) hs
            rw [isD_point] at this; cases this
      have hM : digB (cutM d) = false := digB_bad (k := k) (b := b) (by unfold cutM; rw [List.getElem?_take_of_lt hI]; exact hb) hd
      unfold formB; rw [hM]; rfl
  · have e : cutI d = at_ := cutI_eq d at_ (by omega) (fun j hj e => by
        have := h.1 j 46 (by omega) (by omega) e
        rw [isD_point] at this; cases this) (Or.inr g4)
    have hka : at_ < k := g2
    have hU : digB (cutU d) = false := digB_bad (k := k - at_ - 1) (b := b) (by unfold cutU; rw [List.getElem?_drop, e, show at_ + 1 + (k - at_ - 1) = k by omega]; exact hb) hd
    have h2 : cutP d = true := by unfold cutP; rw [e]; exact decide_eq_true (by omega)
    unfold formB; rw [hU, h2]; simp
def bigB (b : UInt8) : Bool := decide (49 ≤ b.toNat ∧ b.toNat ≤ 57)
theorem some_snoc {d : List UInt8} {k : Nat} {b : UInt8} (h : d[k]? = some b) : someB (d.take (k + 1)) = (someB (d.take k) || bigB b) := by
  rw [take_snoc h]; unfold someB; rw [List.any_append, List.any_cons, List.any_nil, Bool.or_false]; rfl
def FormR (d : List UInt8) (B : Nat) (w : World) (e : Ending) (w' : World) : Prop :=
  (∃ (at_ : Int) (s : Bool), e = .returned (.tuple #[.bool (formB d), .int .i64 at_, .bool s]) ∧ (formB d = true → at_ = (cutI d : Int) ∧ s = someB d)) ∧ Below B w w'
theorem formR_no {d : List UInt8} {B : Nat} {w w' : World} (h : formB d = false) (hB : Below B w w') (a : Int) (s : Bool) : FormR d B w (.returned (.tuple #[.bool false, .int .i64 a, .bool s])) w' :=
  ⟨⟨a, s, by rw [h], fun h2 => by rw [h] at h2; cases h2⟩, hB⟩
theorem formR_yes {d : List UInt8} {B : Nat} {w w' : World} {a : Int} {s : Bool} (h : formB d = true) (ha : a = (cutI d : Int)) (hs : s = someB d) (hB : Below B w w') : FormR d B w (.returned (.tuple #[.bool true, .int .i64 a, .bool s])) w' :=
  ⟨⟨a, s, by rw [h], fun _ => ⟨ha, hs⟩⟩, hB⟩
theorem u8_eq {b c : UInt8} (h : b.toNat = c.toNat) : b = c := UInt8.toNat_inj.1 h
set_option maxRecDepth 100000 in
theorem rform_any (l : List UInt8) (w : World) (hl : l.length ≤ 1000) :
    Calls Tryd.prog 59 #[.string ⟨l.toArray⟩] w fun e w' => FormR l w.heap.size w e w' := by
  go_enter Tryd.func59, Tryd.ntmps59
  go_wp2_with fail
  go_loopw [7, 5, 6] (fun s a t wx => ∃ (k at_ : Nat) (sm : Bool), s = .int .i64 k ∧ k ≤ l.length ∧ a = .int .i64 at_ ∧ t = .bool sm ∧ Hid (sm = someB (l.take k)) ∧ Hid (FormInv l k at_) ∧ Below w.heap.size w wx) (fun s _ _ _ => (l.length - intOf s).toNat)
  case atStart => exact ⟨0, l.length, false, rfl, Nat.zero_le _, rfl, rfl, hid rfl, hid (inv_start l), Below.refl _ _⟩
  case round =>
    obtain ⟨k, at_, sm, rfl, hk, rfl, rfl, hs, hI, hB⟩ := hrel
    by_cases c : k = l.length
    · subst c
      obtain ⟨e1, e2⟩ := inv_end hI.out
      have hsm : sm = someB l := by rw [hs.out, List.take_length]
      by_cases c0 : l.length = 0
      · have hf := hid (show formB l = false by rw [e2, c0]; rfl)
        have c1 : ¬ (0 : Int) < l.length := by omega
        clear e1 e2 hsm hs hI c0
        go_wp2_with fail
        go_ret3
        exact formR_no hf.out hB _ _
      · have c1 : (0 : Int) < l.length := by omega
        rw [decide_eq_true (show 0 < l.length by omega)] at e2
        by_cases a1 : at_ = 1
        · subst a1
          have hf := hid (show formB l = true by rw [e2]; rfl)
          have he := hid e1
          have hsm2 := hid hsm
          clear e1 e2 hsm hs hI c0
          go_wp2_with fail
          go_ret3
          exact formR_yes hf.out (by rw [he.out]; rfl) hsm2.out hB
        · have a2 : ((at_ : Int) == 1) = false := by rw [beq_eq_false_iff_ne]; omega
          obtain ⟨b, hb⟩ := byte_some (show 0 < l.length by omega)
          have hx := idx_at hb
          replace hx := fun W => hx W
          simp only [Int.ofNat_zero, Int.natCast_zero] at hx
          rw [decide_eq_false a1, hb] at e2
          have he := hid e1
          have hsm2 := hid hsm
          by_cases d : b = 48
          · have hf := hid (show formB l = false by rw [e2, d]; rfl)
            have d1 : ((b.toNat : Int) != 48) = false := by rw [d]; rfl
            clear e1 e2 hsm hs hI c0 a1 d hb
            go_wp2_with fail
            go_ret3
            exact formR_no hf.out hB _ _
          · have hf := hid (show formB l = true by rw [e2]; simpa using d)
            have d1 : ((b.toNat : Int) != 48) = true := by
              rw [bne_iff_ne]; intro h; exact d (u8_eq (c := 48) (by show b.toNat = 48; omega))
            clear e1 e2 hsm hs hI c0 a1 d hb
            go_wp2_with fail
            go_ret3
            exact formR_yes hf.out (by rw [he.out]) hsm2.out hB
    · obtain ⟨b, hb⟩ := byte_some (show k < l.length by omega)
      have hx := idx_at hb
      have hsn := hid (some_snoc hb)
      by_cases d : isD b = true
      · have d1 := of_decide_eq_true d
        have d2 : ¬ (b.toNat : Int) < 48 := by omega
        have d3 : ¬ (57 : Int) < b.toNat := by omega
        have d4 : ((b.toNat : Int) == 46) = false := by rw [beq_eq_false_iff_ne]; omega
        have hn := hid (inv_digit hI.out hb d)
        by_cases g : bigB b = true
        · have g1 := of_decide_eq_true g
          have g2 : (48 : Int) < b.toNat := by omega
          have g3 : decide ((48 : Int) < b.toNat) = true := decide_eq_true g2
          have hv := hid (show true = someB (l.take (k + 1)) by rw [hsn.out, g, Bool.or_true])
          clear d1 g1 g d hs hI hsn hb
          cases sm
          · go_wp2_with fail
            go_roundw
            case rel => exact ⟨k + 1, at_, true, by go_num, by omega, rfl, rfl, hv, hn, hB⟩
            case measure => first | (simp [intOf]; done) | (simp [intOf]; omega)
          · go_wp2_with fail
            go_roundw
            case rel => exact ⟨k + 1, at_, true, by go_num, by omega, rfl, rfl, hv, hn, hB⟩
            case measure => first | (simp [intOf]; done) | (simp [intOf]; omega)
        · have g0 : bigB b = false := by simpa using g
          have g1 := of_decide_eq_false g0
          have g2 : ¬ (48 : Int) < b.toNat := by omega
          have g3 : decide ((48 : Int) < b.toNat) = false := decide_eq_false g2
          have hv := hid (show sm = someB (l.take (k + 1)) by rw [hsn.out, g0, Bool.or_false, hs.out])
          clear d1 g1 g0 g d hs hI hsn hb
          cases sm
          · go_wp2_with fail
            go_roundw
            case rel => exact ⟨k + 1, at_, false, by go_num, by omega, rfl, rfl, hv, hn, hB⟩
            case measure => first | (simp [intOf]; done) | (simp [intOf]; omega)
          · go_wp2_with fail
            go_roundw
            case rel => exact ⟨k + 1, at_, true, by go_num, by omega, rfl, rfl, hv, hn, hB⟩
            case measure => first | (simp [intOf]; done) | (simp [intOf]; omega)
      · have d0 : isD b = false := by simpa using d
        by_cases p : b = 46
        · subst p
          have hx46 : ∀ W : World, (Instr.index 9 (.string ⟨l.toArray⟩) (.int .i64 (k : Int))).run Tryd.prog W = .ok (.int .u8 46) W := hx
          clear hx
          by_cases q : at_ = l.length ∧ 0 < k ∧ k + 1 < l.length
          · obtain ⟨q1, q2, q3⟩ := q
            have hn := hid (inv_point (by have := hI.out; rw [q1] at this; exact this) hb q2 q3)
            have hv := hid (show sm = someB (l.take (k + 1)) by rw [hsn.out, hs.out]; exact (Bool.or_false _).symm)
            have r1 : ((at_ : Int) == (l.length : Int)) = true := by rw [beq_iff_eq]; omega
            have r2 : (0 : Int) < k := by omega
            have r3 : (k : Int) < l.length - 1 := by omega
            have r4 : (0 : Int) ≤ (l.length : Int) - 1 := by omega
            clear q1 d d0 hs hI hsn hb
            cases sm
            · go_wp2_with fail
              go_roundw
              case rel => exact ⟨k + 1, k, false, by go_num, by omega, rfl, rfl, hv, hn, hB⟩
              case measure => first | (simp [intOf]; done) | (simp [intOf]; omega)
            · go_wp2_with fail
              go_roundw
              case rel => exact ⟨k + 1, k, true, by go_num, by omega, rfl, rfl, hv, hn, hB⟩
              case measure => first | (simp [intOf]; done) | (simp [intOf]; omega)
          · have hf := hid (inv_bad hI.out hb d0 (fun h => q h.2))
            by_cases q1 : at_ = l.length
            · have r1 : ((at_ : Int) == (l.length : Int)) = true := by rw [beq_iff_eq]; omega
              by_cases q2 : 0 < k
              · have r2 : (0 : Int) < k := by omega
                have r3 : ¬ (k : Int) < l.length - 1 := by
                  intro h; exact q ⟨q1, q2, by omega⟩
                clear q q1 q2 d d0 hs hI hsn hb
                go_wp2_with fail
                go_ret3
                exact formR_no hf.out hB _ _
              · have r2 : ¬ (0 : Int) < k := by omega
                clear q q1 q2 d d0 hs hI hsn hb
                go_wp2_with fail
                go_ret3
                exact formR_no hf.out hB _ _
            · have r1 : ((at_ : Int) == (l.length : Int)) = false := by rw [beq_eq_false_iff_ne]; omega
              clear q q1 d d0 hs hI hsn hb
              go_wp2_with fail
              go_ret3
              exact formR_no hf.out hB _ _
        · have hf := hid (inv_bad hI.out hb d0 (fun h => p h.1))
          have p1 : ((b.toNat : Int) == 46) = false := by
            rw [beq_eq_false_iff_ne]; intro h; exact p (u8_eq (c := 46) (by show b.toNat = 46; omega))
          have d1 := of_decide_eq_false d0
          by_cases r : b.toNat < 48
          · have r1 : (b.toNat : Int) < 48 := by omega
            clear p d d0 d1 r hs hI hsn hb
            go_wp2_with fail
            go_ret3
            exact formR_no hf.out hB _ _
          · have r1 : ¬ (b.toNat : Int) < 48 := by omega
            have r2 : (57 : Int) < b.toNat := by omega
            clear p d d0 d1 r hs hI hsn hb
            go_wp2_with fail
            go_ret3
            exact formR_no hf.out hB _ _
end Go.Proofs.YtjleflfncijnpaaDoor
