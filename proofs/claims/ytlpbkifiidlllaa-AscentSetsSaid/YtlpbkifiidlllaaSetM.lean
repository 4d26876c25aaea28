/- Sets of times: plain lists. -/
import Derived.Test.YtlpbkifiidlllaaWinM
set_option linter.unusedVariables false
set_option linter.unusedSimpArgs false
namespace Go.Proofs.Ytlpbkifiidlllaa
open Go Go.RowKit
abbrev Rise (l : List Int) : Prop := l.Pairwise (· < ·)
def endsL (l : List (Int × Int)) : List Int := l.flatMap fun p => [p.1, p.2]
theorem ends_cons (p : Int × Int) (l : List (Int × Int)) : endsL (p :: l) = p.1 :: p.2 :: endsL l := rfl
theorem ends_len (l : List (Int × Int)) : (endsL l).length = l.length * 2 := by
  induction l with
  | nil => rfl
  | cons p l ih => rw [ends_cons, List.length_cons, List.length_cons, ih, List.length_cons]; omega
/-- What two rising lists of endsL make: the places in their order, and whether one is in each set behind them. -/
def mg : List Int → List Int → Bool → Bool → List (Int × Bool × Bool)
  | [], [], _, _ => []
  | p :: a, [], x, y => (p, !x, y) :: mg a [] (!x) y
  | [], q :: b, x, y => (q, x, !y) :: mg [] b x (!y)
  | p :: a, q :: b, x, y => if p < q then (p, !x, y) :: mg a (q :: b) (!x) y else if q < p then (q, x, !y) :: mg (p :: a) b x (!y) else (p, !x, !y) :: mg a b (!x) (!y)
termination_by a b => a.length + b.length
theorem mg_mem : ∀ (n : Nat) (a b : List Int) (x y : Bool), a.length + b.length ≤ n → ∀ c, (c ∈ (mg a b x y).map (·.1)) ↔ (c ∈ a ∨ c ∈ b)
  | n, [], [], x, y, _, c => by simp [mg]
  | 0, p :: a, b, x, y, h, c => by simp at h
  | 0, [], q :: b, x, y, h, c => by simp at h
  | n + 1, p :: a, [], x, y, h, c => by
    have := mg_mem n a [] (!x) y (by simp at h ⊢; omega) c
    simp [mg] at this ⊢; rw [this]
  | n + 1, [], q :: b, x, y, h, c => by
    have := mg_mem n [] b x (!y) (by simp at h ⊢; omega) c
    simp [mg] at this ⊢; rw [this]
  | n + 1, p :: a, q :: b, x, y, h, c => by
    rw [mg]
    simp only [List.length_cons] at h
    split
    · rw [List.map_cons, List.mem_cons, mg_mem n a (q :: b) (!x) y (by simp; omega) c]
      simp only [List.mem_cons]; grind
    · split
      · rw [List.map_cons, List.mem_cons, mg_mem n (p :: a) b x (!y) (by simp; omega) c]
        simp only [List.mem_cons]; grind
      · rw [List.map_cons, List.mem_cons, mg_mem n a b (!x) (!y) (by omega) c]
        have : p = q := by omega
        subst this
        simp only [List.mem_cons]; grind
theorem mg_rise : ∀ (n : Nat) (a b : List Int) (x y : Bool), a.length + b.length ≤ n → Rise a → Rise b → Rise ((mg a b x y).map (·.1))
  | n, [], [], x, y, _, _, _ => by simp [mg, Rise]
  | 0, p :: a, b, x, y, h, _, _ => by simp at h
  | 0, [], q :: b, x, y, h, _, _ => by simp at h
  | n + 1, p :: a, [], x, y, h, ha, hb => by
    have h2 : a.length + ([] : List Int).length ≤ n := by simp at h ⊢; omega
    have i := mg_rise n a [] (!x) y h2 (List.pairwise_cons.mp ha).2 hb
    rw [mg, List.map_cons]
    refine List.pairwise_cons.mpr ⟨fun c hc => ?_, i⟩
    rw [mg_mem n a [] (!x) y h2] at hc
    have := (List.pairwise_cons.mp ha).1 c (by simpa using hc)
    exact this
  | n + 1, [], q :: b, x, y, h, ha, hb => by
    have h2 : ([] : List Int).length + b.length ≤ n := by simp at h ⊢; omega
    have i := mg_rise n [] b x (!y) h2 ha (List.pairwise_cons.mp hb).2
    rw [mg, List.map_cons]
    refine List.pairwise_cons.mpr ⟨fun c hc => ?_, i⟩
    rw [mg_mem n [] b x (!y) h2] at hc
    have := (List.pairwise_cons.mp hb).1 c (by simpa using hc)
    exact this
  | n + 1, p :: a, q :: b, x, y, h, ha, hb => by
    rw [mg]
    simp only [List.length_cons] at h
    have ha2 := List.pairwise_cons.mp ha
    have hb2 := List.pairwise_cons.mp hb
    split
    · have h2 : a.length + (q :: b).length ≤ n := by simp; omega
      rw [List.map_cons]
      refine List.pairwise_cons.mpr ⟨fun c hc => ?_, mg_rise n a (q :: b) (!x) y h2 ha2.2 hb⟩
      rw [mg_mem n _ _ _ _ h2] at hc
      show p < c
      rcases hc with hc | hc
      · exact ha2.1 c hc
      · rcases List.mem_cons.mp hc with rfl | hc
        · assumption
        · have := hb2.1 c hc; omega
    · split
      · have h2 : (p :: a).length + b.length ≤ n := by simp; omega
        rw [List.map_cons]
        refine List.pairwise_cons.mpr ⟨fun c hc => ?_, mg_rise n (p :: a) b x (!y) h2 ha hb2.2⟩
        rw [mg_mem n _ _ _ _ h2] at hc
        show q < c
        rcases hc with hc | hc
        · rcases List.mem_cons.mp hc with rfl | hc
          · assumption
          · have := ha2.1 c hc; omega
        · exact hb2.1 c hc
      · have h2 : a.length + b.length ≤ n := by omega
        have : p = q := by omega
        subst this
        rw [List.map_cons]
        refine List.pairwise_cons.mpr ⟨fun c hc => ?_, mg_rise n a b (!x) (!y) h2 ha2.2 hb2.2⟩
        rw [mg_mem n _ _ _ _ h2] at hc
        show p < c
        rcases hc with hc | hc
        · exact ha2.1 c hc
        · exact hb2.1 c hc
theorem mg_len : ∀ (n : Nat) (a b : List Int) (x y : Bool), a.length + b.length ≤ n → (mg a b x y).length ≤ a.length + b.length
  | n, [], [], x, y, _ => by simp [mg]
  | 0, p :: a, b, x, y, h => by simp at h
  | 0, [], q :: b, x, y, h => by simp at h
  | n + 1, p :: a, [], x, y, h => by
    have := mg_len n a [] (!x) y (by simp at h ⊢; omega)
    rw [mg]; simp at this ⊢; omega
  | n + 1, [], q :: b, x, y, h => by
    have := mg_len n [] b x (!y) (by simp at h ⊢; omega)
    rw [mg]; simp at this ⊢; omega
  | n + 1, p :: a, q :: b, x, y, h => by
    simp only [List.length_cons] at h
    rw [mg]
    split
    · have := mg_len n a (q :: b) (!x) y (by simp; omega)
      simp at this ⊢; omega
    · split
      · have := mg_len n (p :: a) b x (!y) (by simp; omega)
        simp at this ⊢; omega
      · have := mg_len n a b (!x) (!y) (by omega)
        simp at this ⊢; omega
/-- Two rising lists of the same members are one. -/
theorem rise_one : ∀ {a b : List Int}, Rise a → Rise b → (∀ c, c ∈ a ↔ c ∈ b) → a = b
  | [], [], _, _, _ => rfl
  | [], q :: b, _, _, h => by have := (h q).mpr (by simp); simp at this
  | p :: a, [], _, _, h => by have := (h p).mp (by simp); simp at this
  | p :: a, q :: b, ha, hb, h => by
    have ha2 := List.pairwise_cons.mp ha
    have hb2 := List.pairwise_cons.mp hb
    have e : p = q := by
      have h1 := (h p).mp (by simp)
      have h2 := (h q).mpr (by simp)
      rcases List.mem_cons.mp h1 with h1 | h1
      · exact h1
      · rcases List.mem_cons.mp h2 with h2 | h2
        · exact h2.symm
        · have := hb2.1 _ h1
          have := ha2.1 _ h2
          omega
    subst e
    congr 1
    refine rise_one ha2.2 hb2.2 fun c => ⟨fun hc => ?_, fun hc => ?_⟩
    · have h1 := (h c).mp (by simp [hc])
      rcases List.mem_cons.mp h1 with rfl | h1
      · have := ha2.1 _ hc; omega
      · exact h1
    · have h1 := (h c).mpr (by simp [hc])
      rcases List.mem_cons.mp h1 with rfl | h1
      · have := hb2.1 _ hc; omega
      · exact h1
/-- How many of a list are not above a place: oddB or not. -/
def oddB (l : List Int) (c : Int) : Bool := (l.filter (fun z => decide (z ≤ c))).length % 2 == 1
theorem odd_none {l : List Int} {c : Int} (h : ∀ z ∈ l, c < z) : oddB l c = false := by
  have : l.filter (fun z => decide (z ≤ c)) = [] := List.filter_eq_nil_iff.mpr fun z hz => by have := h z hz; simp; omega
  unfold oddB; rw [this]; rfl
theorem odd_cons {p : Int} {l : List Int} {c : Int} (h : p ≤ c) : oddB (p :: l) c = !oddB l c := by
  unfold oddB
  rw [List.filter_cons_of_pos (by simpa using h), List.length_cons]
  generalize (l.filter _).length = n
  rcases Nat.mod_two_eq_zero_or_one n with e | e
  · rw [e, show (n + 1) % 2 = 1 by omega]; rfl
  · rw [e, show (n + 1) % 2 = 0 by omega]; rfl
theorem odd_skip {p : Int} {l : List Int} {c : Int} (h : c < p) : oddB (p :: l) c = oddB l c := by
  unfold oddB
  rw [List.filter_cons_of_neg (by simp; omega)]
theorem mg_flags : ∀ (n : Nat) (a b : List Int) (x y : Bool), a.length + b.length ≤ n → Rise a → Rise b → ∀ t ∈ mg a b x y, t.2.1 = (x != oddB a t.1) ∧ t.2.2 = (y != oddB b t.1)
  | n, [], [], x, y, _, _, _, t, ht => by simp [mg] at ht
  | 0, p :: a, b, x, y, h, _, _, t, ht => by simp at h
  | 0, [], q :: b, x, y, h, _, _, t, ht => by simp at h
  | n + 1, p :: a, [], x, y, h, ha, hb, t, ht => by
    have h2 : a.length + ([] : List Int).length ≤ n := by simp at h ⊢; omega
    have ha2 := List.pairwise_cons.mp ha
    have i := mg_flags n a [] (!x) y h2 ha2.2 hb
    have m := mg_mem n a [] (!x) y h2
    rw [mg] at ht
    rcases List.mem_cons.mp ht with rfl | ht
    · dsimp only
      rw [odd_cons (Int.le_refl p), odd_none ha2.1, odd_none (l := []) (by simp)]; simp
    · obtain ⟨i1, i2⟩ := i t ht
      have hm := (m t.1).mp (List.mem_map.mpr ⟨t, ht, rfl⟩)
      have hp : p < t.1 := ha2.1 _ (by simpa using hm)
      rw [i1, i2, odd_cons (p := p) (by omega)]
      exact ⟨by cases x <;> cases oddB a t.1 <;> rfl, rfl⟩
  | n + 1, [], q :: b, x, y, h, ha, hb, t, ht => by
    have h2 : ([] : List Int).length + b.length ≤ n := by simp at h ⊢; omega
    have hb2 := List.pairwise_cons.mp hb
    have i := mg_flags n [] b x (!y) h2 ha hb2.2
    have m := mg_mem n [] b x (!y) h2
    rw [mg] at ht
    rcases List.mem_cons.mp ht with rfl | ht
    · dsimp only
      rw [odd_cons (Int.le_refl q), odd_none hb2.1, odd_none (l := []) (by simp)]; simp
    · obtain ⟨i1, i2⟩ := i t ht
      have hm := (m t.1).mp (List.mem_map.mpr ⟨t, ht, rfl⟩)
      have hp : q < t.1 := hb2.1 _ (by simpa using hm)
      rw [i1, i2, odd_cons (p := q) (by omega)]
      exact ⟨rfl, by cases y <;> cases oddB b t.1 <;> rfl⟩
  | n + 1, p :: a, q :: b, x, y, h, ha, hb, t, ht => by
    simp only [List.length_cons] at h
    have ha2 := List.pairwise_cons.mp ha
    have hb2 := List.pairwise_cons.mp hb
    rw [mg] at ht
    split at ht
    · rename_i c
      have h2 : a.length + (q :: b).length ≤ n := by simp; omega
      have i := mg_flags n a (q :: b) (!x) y h2 ha2.2 hb
      have m := mg_mem n a (q :: b) (!x) y h2
      rcases List.mem_cons.mp ht with rfl | ht
      · dsimp only
        rw [odd_cons (Int.le_refl p), odd_none ha2.1, odd_none (l := q :: b) (fun z hz => by
          rcases List.mem_cons.mp hz with rfl | hz
          · exact c
          · have := hb2.1 z hz; omega)]; simp
      · obtain ⟨i1, i2⟩ := i t ht
        have hm := (m t.1).mp (List.mem_map.mpr ⟨t, ht, rfl⟩)
        have hp : p < t.1 := by
          rcases hm with hm | hm
          · exact ha2.1 _ hm
          · rcases List.mem_cons.mp hm with e | hm
            · omega
            · have := hb2.1 _ hm; omega
        rw [i1, i2, odd_cons (p := p) (by omega)]
        exact ⟨by cases x <;> cases oddB a t.1 <;> rfl, rfl⟩
    · split at ht
      · rename_i c
        have h2 : (p :: a).length + b.length ≤ n := by simp; omega
        have i := mg_flags n (p :: a) b x (!y) h2 ha hb2.2
        have m := mg_mem n (p :: a) b x (!y) h2
        rcases List.mem_cons.mp ht with rfl | ht
        · dsimp only
          rw [odd_cons (Int.le_refl q), odd_none hb2.1, odd_none (l := p :: a) (fun z hz => by
            rcases List.mem_cons.mp hz with rfl | hz
            · exact c
            · have := ha2.1 z hz; omega)]; simp
        · obtain ⟨i1, i2⟩ := i t ht
          have hm := (m t.1).mp (List.mem_map.mpr ⟨t, ht, rfl⟩)
          have hp : q < t.1 := by
            rcases hm with hm | hm
            · rcases List.mem_cons.mp hm with e | hm
              · omega
              · have := ha2.1 _ hm; omega
            · exact hb2.1 _ hm
          rw [i1, i2, odd_cons (p := q) (by omega)]
          exact ⟨rfl, by cases y <;> cases oddB b t.1 <;> rfl⟩
      · have h2 : a.length + b.length ≤ n := by omega
        have e : p = q := by omega
        subst e
        have i := mg_flags n a b (!x) (!y) h2 ha2.2 hb2.2
        have m := mg_mem n a b (!x) (!y) h2
        rcases List.mem_cons.mp ht with rfl | ht
        · dsimp only
          rw [odd_cons (Int.le_refl p), odd_cons (Int.le_refl p), odd_none ha2.1, odd_none hb2.1]; simp
        · obtain ⟨i1, i2⟩ := i t ht
          have hm := (m t.1).mp (List.mem_map.mpr ⟨t, ht, rfl⟩)
          have hp : p < t.1 := by
            rcases hm with hm | hm
            · exact ha2.1 _ hm
            · exact hb2.1 _ hm
          rw [i1, i2, odd_cons (p := p) (by omega), odd_cons (p := p) (by omega)]
          exact ⟨by cases x <;> cases oddB a t.1 <;> rfl, by cases y <;> cases oddB b t.1 <;> rfl⟩
/-- Has a set a time? -/
def hasB (l : List (Int × Int)) (c : Int) : Bool := l.any fun p => decide (p.1 ≤ c ∧ c < p.2)
theorem hasB_odd : ∀ {l : List (Int × Int)} {c : Int}, Rise (endsL l) → hasB l c = oddB (endsL l) c
  | [], c, _ => rfl
  | p :: l, c, h => by
    rw [ends_cons] at h ⊢
    have h1 := List.pairwise_cons.mp h
    have h2 := List.pairwise_cons.mp h1.2
    have hlt : p.1 < p.2 := h1.1 _ (by simp)
    show (decide (p.1 ≤ c ∧ c < p.2) || hasB l c) = _
    rw [hasB_odd h2.2]
    by_cases a : p.1 ≤ c
    · rw [odd_cons a]
      by_cases b : p.2 ≤ c
      · rw [odd_cons b, decide_eq_false (by omega)]; simp
      · rw [odd_skip (by omega), decide_eq_true (by omega), odd_none (fun z hz => by have := h2.1 z hz; omega)]; rfl
    · rw [odd_skip (by omega), odd_skip (by omega), decide_eq_false (by omega)]; rfl
/-- What the code keeps. -/
def keepE : List Int → List (Int × Bool) → List Int
  | out, [] => out
  | out, (p, f) :: r => keepE (if f != (out.length % 2 == 1) then out ++ [p] else out) r
def pairsL : List Int → List (Int × Int)
  | a :: b :: r => (a, b) :: pairsL r
  | _ => []
theorem pairs_ends : ∀ (l : List (Int × Int)), pairsL (endsL l) = l
  | [] => rfl
  | p :: l => by rw [ends_cons, pairsL, pairs_ends l]
theorem ends_pairs : ∀ {l : List Int}, l.length % 2 = 0 → endsL (pairsL l) = l
  | [], _ => rfl
  | [_], h => by simp at h
  | a :: b :: r, h => by
    rw [pairsL, ends_cons, ends_pairs (by simp at h; omega)]
theorem pairs_snoc {l : List Int} {a b : Int} (h : l.length % 2 = 0) : pairsL (l ++ [a, b]) = pairsL l ++ [(a, b)] := by
  have e := ends_pairs h
  have : endsL (pairsL l ++ [(a, b)]) = l ++ [a, b] := by
    unfold endsL at e ⊢
    rw [List.flatMap_append, e]; rfl
  rw [← this, pairs_ends]
theorem pairs_mem {l : List Int} {p : Int × Int} (h : p ∈ pairsL l) : p.2 ∈ l := by
  induction l using pairsL.induct with
  | case1 a b r ih =>
    rw [pairsL] at h
    rcases List.mem_cons.mp h with rfl | h
    · simp
    · have := ih h; simp [this]
  | case2 l hl =>
    rw [pairsL] at h
    · simp at h
    · exact hl
/-- One more slot, or the last one extended. -/
def extS (out : List (Int × Int)) (p q : Int) : List (Int × Int) :=
  match out.getLast? with
  | some l => if l.2 = p then out.dropLast ++ [(l.1, q)] else out ++ [(p, q)]
  | none => out ++ [(p, q)]
def docR : List (Int × Int) → List (Int × Bool) → List (Int × Int)
  | out, (p, f) :: (q, g) :: r => docR (if f then extS out p q else out) ((q, g) :: r)
  | out, _ => out
theorem ext_new {out : List (Int × Int)} {p q : Int} (h : ∀ l ∈ out, l.2 < p) : extS out p q = out ++ [(p, q)] := by
  unfold extS
  split
  · rename_i l hl
    have := h l (List.mem_of_getLast? hl)
    rw [if_neg (by omega)]
  · rfl
theorem ext_on (out : List (Int × Int)) (s p q : Int) : extS (out ++ [(s, p)]) p q = out ++ [(s, q)] := by
  unfold extS
  simp
theorem keep_doc : ∀ (r : List (Int × Bool)) (p : Int) (f : Bool), Rise (p :: r.map (·.1)) → (((p, f) :: r).getLast (by simp)).2 = false →
    (∀ E : List Int, E.length % 2 = 0 → (∀ z ∈ E, z < p) → docR (pairsL E) ((p, f) :: r) = pairsL (keepE E ((p, f) :: r))) ∧
    (∀ (E : List Int) (s : Int), E.length % 2 = 0 → (∀ z ∈ E, z < p) → s < p → docR (pairsL E ++ [(s, p)]) ((p, f) :: r) = pairsL (keepE (E ++ [s]) ((p, f) :: r)))
  | [], p, f, _, hl => by
    have hf : f = false := by simpa using hl
    subst hf
    constructor
    · intro E h1 _
      rw [docR, keepE, keepE, h1]; rfl
      simp
    · intro E s h1 _ _
      have h3 : (E ++ [s]).length % 2 = 1 := by simp; omega
      rw [docR, keepE, keepE, h3]
      · show _ = pairsL ((E ++ [s]) ++ [p])
        rw [List.append_assoc, ← pairs_snoc h1]; rfl
      · simp
  | (q, g) :: r, p, f, hr, hl => by
    have hr2 := List.pairwise_cons.mp hr
    have hpq : p < q := hr2.1 q (by simp)
    have hl2 : (((q, g) :: r).getLast (by simp)).2 = false := by
      rw [List.getLast_cons (by simp)] at hl; exact hl
    obtain ⟨i1, i2⟩ := keep_doc r q g hr2.2 hl2
    constructor
    · intro E h1 h2
      rw [docR, keepE, h1]
      cases f
      · exact i1 E h1 fun z hz => by have := h2 z hz; omega
      · have e : extS (pairsL E) p q = pairsL E ++ [(p, q)] := ext_new fun l hl => h2 _ (pairs_mem hl)
        show docR (extS (pairsL E) p q) _ = pairsL (keepE (E ++ [p]) _)
        rw [e]
        exact i2 E p h1 (fun z hz => by have := h2 z hz; omega) hpq
    · intro E s h1 h2 hs
      have h3 : (E ++ [s]).length % 2 = 1 := by simp; omega
      rw [docR, keepE, h3]
      cases f
      · show docR (pairsL E ++ [(s, p)]) _ = pairsL (keepE ((E ++ [s]) ++ [p]) _)
        rw [List.append_assoc, ← pairs_snoc h1]
        refine i1 (E ++ [s, p]) (by simp; omega) fun z hz => ?_
        rcases List.mem_append.mp hz with hz | hz
        · have := h2 z hz; omega
        · simp at hz; omega
      · show docR (extS (pairsL E ++ [(s, p)]) p q) _ = pairsL (keepE (E ++ [s]) _)
        rw [ext_on]
        exact i2 E s h1 (fun z hz => by have := h2 z hz; omega) (by omega)
/-- The flags at the end. -/
theorem mg_last : ∀ (n : Nat) (a b : List Int) (x y : Bool), a.length + b.length ≤ n → ∀ t, (mg a b x y).getLast? = some t → t.2.1 = (x != (a.length % 2 == 1)) ∧ t.2.2 = (y != (b.length % 2 == 1))
  | n, [], [], x, y, _, t, ht => by simp [mg] at ht
  | 0, p :: a, b, x, y, h, t, ht => by simp at h
  | 0, [], q :: b, x, y, h, t, ht => by simp at h
  | n + 1, p :: a, [], x, y, h, t, ht => by
    have i := mg_last n a [] (!x) y (by simp at h ⊢; omega)
    have z : (!x) = true ∨ (!x) = false := by cases x <;> simp
    rw [mg, List.getLast?_cons] at ht
    cases hg : (mg a [] (!x) y).getLast? with
    | none =>
      rw [hg] at ht
      have e : t = (p, !x, y) := by simpa using ht.symm
      have e2 := List.getLast?_eq_none_iff.mp hg
      have e3 : a = [] := by
        cases a with
        | nil => rfl
        | cons u a => rw [mg] at e2; simp at e2
      subst e e3
      exact ⟨by cases x <;> rfl, by cases y <;> rfl⟩
    | some u =>
      rw [hg] at ht
      have e : t = u := by simpa using ht.symm
      subst e
      obtain ⟨j1, j2⟩ := i _ hg
      rw [j1, j2, List.length_cons]
      refine ⟨?_, rfl⟩
      rcases Nat.mod_two_eq_zero_or_one a.length with e | e
      · rw [e, show (a.length + 1) % 2 = 1 by omega]; cases x <;> rfl
      · rw [e, show (a.length + 1) % 2 = 0 by omega]; cases x <;> rfl
  | n + 1, [], q :: b, x, y, h, t, ht => by
    have i := mg_last n [] b x (!y) (by simp at h ⊢; omega)
    rw [mg, List.getLast?_cons] at ht
    cases hg : (mg [] b x (!y)).getLast? with
    | none =>
      rw [hg] at ht
      have e : t = (q, x, !y) := by simpa using ht.symm
      have e2 := List.getLast?_eq_none_iff.mp hg
      have e3 : b = [] := by
        cases b with
        | nil => rfl
        | cons u b => rw [mg] at e2; simp at e2
      subst e e3
      exact ⟨by cases x <;> rfl, by cases y <;> rfl⟩
    | some u =>
      rw [hg] at ht
      have e : t = u := by simpa using ht.symm
      subst e
      obtain ⟨j1, j2⟩ := i _ hg
      rw [j1, j2, List.length_cons]
      refine ⟨rfl, ?_⟩
      rcases Nat.mod_two_eq_zero_or_one b.length with e | e
      · rw [e, show (b.length + 1) % 2 = 1 by omega]; cases y <;> rfl
      · rw [e, show (b.length + 1) % 2 = 0 by omega]; cases y <;> rfl
  | n + 1, p :: a, q :: b, x, y, h, t, ht => by
    simp only [List.length_cons] at h
    have nn : ∀ u v, ∀ a b : List Int, 0 < a.length + b.length → mg a b u v ≠ [] := by
      intro u v a b hn
      cases a with
      | nil => cases b with
        | nil => simp at hn
        | cons c b => rw [mg]; simp
      | cons d a => cases b with
        | nil => rw [mg]; simp
        | cons c b => rw [mg]; split <;> (try split) <;> simp
    rw [mg] at ht
    split at ht
    · have i := mg_last n a (q :: b) (!x) y (by simp; omega)
      rw [List.getLast?_cons] at ht
      cases hg : (mg a (q :: b) (!x) y).getLast? with
      | none => exact absurd (List.getLast?_eq_none_iff.mp hg) (nn _ _ _ _ (by simp; omega))
      | some u =>
        rw [hg] at ht
        have e : t = u := by simpa using ht.symm
        subst e
        obtain ⟨j1, j2⟩ := i _ hg
        rw [j1, j2, List.length_cons (a := p)]
        refine ⟨?_, rfl⟩
        rcases Nat.mod_two_eq_zero_or_one a.length with e | e
        · rw [e, show (a.length + 1) % 2 = 1 by omega]; cases x <;> rfl
        · rw [e, show (a.length + 1) % 2 = 0 by omega]; cases x <;> rfl
    · split at ht
      · have i := mg_last n (p :: a) b x (!y) (by simp; omega)
        rw [List.getLast?_cons] at ht
        cases hg : (mg (p :: a) b x (!y)).getLast? with
        | none => exact absurd (List.getLast?_eq_none_iff.mp hg) (nn _ _ _ _ (by simp; omega))
        | some u =>
          rw [hg] at ht
          have e : t = u := by simpa using ht.symm
          subst e
          obtain ⟨j1, j2⟩ := i _ hg
          rw [j1, j2, List.length_cons (a := q)]
          refine ⟨rfl, ?_⟩
          rcases Nat.mod_two_eq_zero_or_one b.length with e | e
          · rw [e, show (b.length + 1) % 2 = 1 by omega]; cases y <;> rfl
          · rw [e, show (b.length + 1) % 2 = 0 by omega]; cases y <;> rfl
      · have i := mg_last n a b (!x) (!y) (by omega)
        rw [List.getLast?_cons] at ht
        rw [List.length_cons, List.length_cons]
        cases hg : (mg a b (!x) (!y)).getLast? with
        | none =>
          rw [hg] at ht
          have e : t = (p, !x, !y) := by simpa using ht.symm
          have e2 : a.length + b.length = 0 := by
            rcases Nat.eq_zero_or_pos (a.length + b.length) with e | e
            · exact e
            · exact absurd (List.getLast?_eq_none_iff.mp hg) (nn _ _ _ _ e)
          have e3 : a.length = 0 := by omega
          have e4 : b.length = 0 := by omega
          subst e
          rw [e3, e4]
          exact ⟨by cases x <;> rfl, by cases y <;> rfl⟩
        | some u =>
          rw [hg] at ht
          have e : t = u := by simpa using ht.symm
          subst e
          obtain ⟨j1, j2⟩ := i _ hg
          rw [j1, j2]
          constructor
          · rcases Nat.mod_two_eq_zero_or_one a.length with e | e
            · rw [e, show (a.length + 1) % 2 = 1 by omega]; cases x <;> rfl
            · rw [e, show (a.length + 1) % 2 = 0 by omega]; cases x <;> rfl
          · rcases Nat.mod_two_eq_zero_or_one b.length with e | e
            · rw [e, show (b.length + 1) % 2 = 1 by omega]; cases y <;> rfl
            · rw [e, show (b.length + 1) % 2 = 0 by omega]; cases y <;> rfl
theorem keepE_len : ∀ (s : List (Int × Bool)) (out : List Int), (keepE out s).length ≤ out.length + s.length
  | [], out => by simp [keepE]
  | (p, f) :: r, out => by
    rw [keepE]
    split
    · have := keepE_len r (out ++ [p])
      simp at this ⊢; omega
    · have := keepE_len r out
      simp; omega
theorem keepE_even : ∀ (s : List (Int × Bool)) (out : List Int) (t : Int × Bool), s.getLast? = some t → ((keepE out s).length % 2 == 1) = t.2
  | [], out, t, h => by simp at h
  | [(p, f)], out, t, h => by
    have e : t = (p, f) := by simpa using h.symm
    subst e
    rw [keepE, keepE]
    rcases Nat.mod_two_eq_zero_or_one out.length with e | e
    · cases f
      · rw [e]; simp [e]
      · rw [e]; simp [Nat.add_mod, e]
    · cases f
      · rw [e]; simp [Nat.add_mod, e]
      · rw [e]; simp [e]
  | (p, f) :: (q, g) :: r, out, t, h => by
    rw [keepE]
    exact keepE_even ((q, g) :: r) _ t (by rw [List.getLast?_cons_cons] at h; exact h)
/-- What two sets make, place by place. -/
def tagsOf (k : Bool → Bool → Bool) (la lb : List (Int × Int)) : List (Int × Bool) := (mg (endsL la) (endsL lb) false false).map fun t => (t.1, k t.2.1 t.2.2)
def mixR (k : Bool → Bool → Bool) (la lb : List (Int × Int)) : List (Int × Int) := pairsL (keepE [] (tagsOf k la lb))
theorem tags_places (k : Bool → Bool → Bool) (la lb : List (Int × Int)) : (tagsOf k la lb).map (·.1) = (mg (endsL la) (endsL lb) false false).map (·.1) := by
  unfold tagsOf; rw [List.map_map]; rfl
theorem tags_has {k : Bool → Bool → Bool} {la lb : List (Int × Int)} (ha : Rise (endsL la)) (hb : Rise (endsL lb)) {p : Int} {f : Bool} (h : (p, f) ∈ tagsOf k la lb) : f = k (hasB la p) (hasB lb p) := by
  obtain ⟨t, ht, e⟩ := List.mem_map.mp h
  have := mg_flags _ _ _ false false (Nat.le_refl _) ha hb t ht
  simp only [Prod.mk.injEq] at e
  obtain ⟨rfl, rfl⟩ := e
  rw [this.1, this.2, hasB_odd ha, hasB_odd hb]
  simp
theorem tags_len (k : Bool → Bool → Bool) (la lb : List (Int × Int)) : (tagsOf k la lb).length ≤ la.length * 2 + lb.length * 2 := by
  unfold tagsOf
  rw [List.length_map, ← ends_len, ← ends_len]
  exact mg_len _ _ _ _ _ (Nat.le_refl _)
theorem tags_end {k : Bool → Bool → Bool} (hk : k false false = false) (la lb : List (Int × Int)) {t : Int × Bool} (h : (tagsOf k la lb).getLast? = some t) : t.2 = false := by
  unfold tagsOf at h
  rw [List.getLast?_map] at h
  obtain ⟨u, hu, rfl⟩ := Option.map_eq_some_iff.mp h
  obtain ⟨h1, h2⟩ := mg_last _ _ _ _ _ (Nat.le_refl _) u hu
  dsimp only
  rw [h1, h2, ends_len, ends_len, show la.length * 2 % 2 = 0 by omega, show lb.length * 2 % 2 = 0 by omega]
  exact hk
theorem keep_even {k : Bool → Bool → Bool} (hk : k false false = false) (la lb : List (Int × Int)) : (keepE [] (tagsOf k la lb)).length % 2 = 0 := by
  cases h : (tagsOf k la lb).getLast? with
  | none => rw [List.getLast?_eq_none_iff.mp h]; rfl
  | some t =>
    have h1 := keepE_even _ [] t h
    rw [tags_end hk la lb h] at h1
    have := beq_eq_false_iff_ne.mp h1
    omega
theorem mix_ends {k : Bool → Bool → Bool} (hk : k false false = false) (la lb : List (Int × Int)) : keepE [] (tagsOf k la lb) = endsL (mixR k la lb) := (ends_pairs (keep_even hk la lb)).symm
theorem mix_doc {k : Bool → Bool → Bool} (hk : k false false = false) {la lb : List (Int × Int)} (ha : Rise (endsL la)) (hb : Rise (endsL lb)) : docR [] (tagsOf k la lb) = mixR k la lb := by
  unfold mixR
  have hr : Rise ((tagsOf k la lb).map (·.1)) := by rw [tags_places]; exact mg_rise _ _ _ _ _ (Nat.le_refl _) ha hb
  have hl := fun t => tags_end hk la lb (t := t)
  generalize tagsOf k la lb = s at *
  match s, hr, hl with
  | [], _, _ => rfl
  | (p, f) :: r, hr, hl =>
    exact (keep_doc r p f hr (hl _ (List.getLast?_eq_some_getLast (by simp)))).1 [] rfl (by simp)
theorem mix_len (k : Bool → Bool → Bool) (la lb : List (Int × Int)) (hk : k false false = false) : (mixR k la lb).length ≤ la.length + lb.length := by
  have h1 := keepE_len (tagsOf k la lb) []
  have h2 := tags_len k la lb
  rw [mix_ends hk, ends_len] at h1
  simp at h1
  omega
/-- The places, chosen one after another. -/
def EdgeI (A : Int → Prop) (out l : List Int) : Prop := Rise out ∧ (∀ z ∈ out, ∀ c ∈ l, z ≤ c) ∧ ∀ c, (c ∈ out ∨ c ∈ l) ↔ A c
theorem edge_step {A : Int → Prop} {out l l' : List Int} {m : Int} (h : EdgeI A out l) (hm : m ∈ l) (hmin : ∀ c ∈ l, m ≤ c) (hl : ∀ c, c ∈ l ↔ c = m ∨ c ∈ l') :
    (out.getLast? = some m → EdgeI A out l') ∧ (out.getLast? ≠ some m → EdgeI A (out ++ [m]) l') := by
  obtain ⟨h1, h2, h3⟩ := h
  constructor
  · intro e
    have em := List.mem_of_getLast? e
    refine ⟨h1, fun z hz c hc => h2 z hz c ((hl c).mpr (Or.inr hc)), fun c => ?_⟩
    rw [← h3, hl c]
    constructor
    · rintro (x | x)
      · exact Or.inl x
      · exact Or.inr (Or.inr x)
    · rintro (x | rfl | x)
      · exact Or.inl x
      · exact Or.inl em
      · exact Or.inr x
  · intro e
    have lt : ∀ z ∈ out, z < m := by
      intro z hz
      have le := h2 z hz m hm
      rcases Int.lt_or_eq_of_le le with g | g
      · exact g
      · exfalso
        cases hg : out.getLast? with
        | none => rw [List.getLast?_eq_none_iff.mp hg] at hz; simp at hz
        | some u =>
          have hu := h2 u (List.mem_of_getLast? hg) m hm
          have hzu : z ≤ u := by
            obtain ⟨ys, hys⟩ := List.getLast?_eq_some_iff.mp hg
            subst hys
            rcases List.mem_append.mp hz with hz | hz
            · exact Int.le_of_lt ((List.pairwise_append.mp h1).2.2 z hz u (by simp))
            · simp at hz; omega
          have : u = m := by omega
          subst this
          exact e hg
    refine ⟨?_, ?_, fun c => ?_⟩
    · refine List.pairwise_append.mpr ⟨h1, by simp, fun a ha b hb => ?_⟩
      simp at hb; subst hb; exact lt a ha
    · intro z hz c hc
      have hc2 := (hl c).mpr (Or.inr hc)
      rcases List.mem_append.mp hz with hz | hz
      · exact h2 z hz c hc2
      · simp at hz; subst hz; exact hmin c hc2
    · rw [← h3, hl c, List.mem_append]
      simp only [List.mem_singleton]
      grind
theorem edge_end {la lb : List (Int × Int)} {out : List Int} (ha : Rise (endsL la)) (hb : Rise (endsL lb)) (h : EdgeI (fun c => c ∈ endsL la ∨ c ∈ endsL lb) out []) : out = (mg (endsL la) (endsL lb) false false).map (·.1) := by
  obtain ⟨h1, _, h3⟩ := h
  refine rise_one h1 (mg_rise _ _ _ _ _ (Nat.le_refl _) ha hb) fun c => ?_
  rw [mg_mem _ _ _ _ _ (Nat.le_refl _)]
  have := h3 c
  simp at this
  exact this
theorem take_drop_mem {l : List Int} {i : Nat} {m : Int} (h : l[i]? = some m) (c : Int) : c ∈ l ↔ c = m ∨ c ∈ l.take i ++ l.drop (i + 1) := by
  have e : l = l.take i ++ (m :: l.drop (i + 1)) := by
    have hi := (List.getElem?_eq_some_iff.mp h).1
    have h2 := (List.getElem?_eq_some_iff.mp h).2
    rw [← h2, ← List.drop_eq_getElem_cons hi, List.take_append_drop]
  conv => lhs; rw [e]
  simp only [List.mem_append, List.mem_cons]
  grind
def goodS (l : List (Int × Int)) (i : Nat) : Bool :=
  match l[i]? with
  | some p => timB p.1 && (timB p.2 && (decide (p.1 < p.2) && (i == 0 || match l[i - 1]? with | some q => decide (q.2 < p.1) | none => true)))
  | none => true
def setB (l : List (Int × Int)) : Bool := decide (l.length ≤ 4096 ∧ ∀ i, i < l.length → goodS l i = true)
theorem goodS_tail {p : Int × Int} {l : List (Int × Int)} {i : Nat} (h : goodS (p :: l) (i + 1) = true) : goodS l i = true := by
  unfold goodS at *
  rw [List.getElem?_cons_succ] at h
  cases hl : l[i]? with
  | none => rfl
  | some q =>
    rw [hl] at h
    dsimp only at h ⊢
    simp only [Bool.and_eq_true] at h ⊢
    refine ⟨h.1, h.2.1, h.2.2.1, ?_⟩
    cases i with
    | zero => rfl
    | succ j =>
      have := h.2.2.2
      simp only [Nat.add_sub_cancel, List.getElem?_cons_succ] at this ⊢
      simpa using this
theorem good_rise : ∀ (l : List (Int × Int)), (∀ i, i < l.length → goodS l i = true) → Rise (endsL l)
  | [], _ => List.Pairwise.nil
  | p :: l, h => by
    have h0 := h 0 (by simp)
    have ht : ∀ i, i < l.length → goodS l i = true := fun i hi => goodS_tail (h (i + 1) (by simp; omega))
    have hr := good_rise l ht
    unfold goodS at h0
    simp only [List.getElem?_cons_zero, Bool.and_eq_true, decide_eq_true_eq] at h0
    have hp := h0.2.2.1
    have hall : ∀ z ∈ endsL l, p.2 < z := by
      cases l with
      | nil => intro z hz; simp [endsL] at hz
      | cons q l =>
        have h1 := h 1 (by simp)
        unfold goodS at h1
        simp at h1
        rw [ends_cons] at hr ⊢
        have := (List.pairwise_cons.mp hr).1
        intro z hz
        rcases List.mem_cons.mp hz with rfl | hz
        · omega
        · have := this z hz; omega
    rw [ends_cons]
    refine List.pairwise_cons.mpr ⟨fun z hz => ?_, List.pairwise_cons.mpr ⟨hall, hr⟩⟩
    rcases List.mem_cons.mp hz with rfl | hz
    · exact hp
    · have := hall z hz; omega
theorem setB_rise {l : List (Int × Int)} (h : setB l = true) : Rise (endsL l) := good_rise l (of_decide_eq_true h).2
theorem setB_len {l : List (Int × Int)} (h : setB l = true) : l.length ≤ 4096 := (of_decide_eq_true h).1
theorem setB_tim {l : List (Int × Int)} (h : setB l = true) {i : Nat} {p : Int × Int} (hp : l[i]? = some p) : timB p.1 = true ∧ timB p.2 = true ∧ p.1 < p.2 := by
  have h1 := (of_decide_eq_true h).2 i (List.getElem?_eq_some_iff.mp hp).1
  unfold goodS at h1
  rw [hp] at h1
  simp only [Bool.and_eq_true, decide_eq_true_eq] at h1
  exact ⟨h1.1, h1.2.1, h1.2.2.1⟩
theorem setB_bad {l : List (Int × Int)} {i : Nat} (hi : i < l.length) (h : goodS l i = false) : setB l = false := by
  unfold setB
  rw [decide_eq_false_iff_not]
  intro g
  have := g.2 i hi
  rw [h] at this
  exact absurd this (by decide)
theorem setB_good {l : List (Int × Int)} (h : l.length ≤ 4096) (hg : ∀ i, i < l.length → goodS l i = true) : setB l = true := decide_eq_true ⟨h, hg⟩
theorem setB_long {l : List (Int × Int)} (h : ¬ l.length ≤ 4096) : setB l = false := decide_eq_false fun g => h g.1
theorem ends_snoc (l : List (Int × Int)) (p : Int × Int) : endsL (l ++ [p]) = endsL l ++ [p.1, p.2] := by unfold endsL; rw [List.flatMap_append]; rfl
end Go.Proofs.Ytlpbkifiidlllaa
