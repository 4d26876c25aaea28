/- Look, of both packages: of any table of a point or more, and any span. -/
import Derived.Deep.DeepCutAuto
import Derived.Test.YtjleflfncijnpaaRows
import Derived.Test.YtjleflfncijnpaaBase
import Derived.Test.YtjleflfncijnpaaFacts
import Derived.Test.YtjleflfncijnpaaTwo
import Derived.Deep.RegionHeld3
import Derived.Deep.RegionWith
import Derived.Deep.QuietTactic
import Derived.BigQuiet
import Derived.Test.YtjleflfncijnpaaW
import Derived.Test.YtjleflfncijnpaaAsks
import Derived.Test.YtjleflfncijnpaaOut
import Derived.Test.YtjleflfncijnpaaSeq
import Derived.Test.YtjleflfncijnpaaTwo
import Derived.Test.YtjleflfncijnpaaThree
import Derived.Test.YtjleflfncijnpaaQuo
import Derived.Test.YtjleflfncijnpaaTurnM
import Derived.Test.YtjleflfncijnpaaTabM
import Derived.Test.YtjleflfncijnpaaTable
import Derived.Test.YtjleflfncijnpaaRTable
import Derived.Test.YtjleflfncijnpaaLookM
import Derived.Test.YtjleflfncijnpaaLookA
import Derived.Test.YtjleflfncijnpaaLookB
import Derived.Test.YtjleflfncijnpaaLookC
import Derived.Test.YtjleflfncijnpaaRLookM
import Derived.Test.YtjleflfncijnpaaRLine
import Derived.Test.YtjleflfncijnpaaRLook
import Derived.Test.YtjleflfncijnpaaLookBad
set_option linter.unusedVariables false
set_option linter.unusedSimpArgs false
set_option maxHeartbeats 4000000
set_option maxRecDepth 100000
namespace Go.Proofs.Ytjleflfncijnpaa
open Go Go.RowKit
theorem parts_box {l : List (Int × Int × Int)} {u : Bool} (hp : ∀ p ∈ l, -2305843009213693952 ≤ p.1 ∧ p.1 ≤ 2305843009213693952 ∧ -2305843009213693952 ≤ p.2.1 ∧ p.2.1 ≤ 2305843009213693952 ∧ -2305843009213693952 ≤ p.2.2 ∧ p.2.2 ≤ 2305843009213693952) (h1 : 1 ≤ l.length) (n : Int) :
    -2305843009213693952 ≤ (rline l u n).1 ∧ (rline l u n).1 ≤ 2305843009213693952 ∧ -2305843009213693952 ≤ (rline l u n).2 ∧ (rline l u n).2 ≤ 2305843009213693952 := by
  obtain ⟨r1, r2⟩ := rseg_spec n l
  have rl := rseg_le l n
  unfold rline
  generalize rseg l n = R at *
  by_cases c0 : R = 0
  · obtain ⟨p, hq⟩ := get_some (show 0 < l.length by omega)
    have := bnd_bd (u := u) (hp p (List.mem_of_getElem? hq))
    rw [if_pos c0, hq]
    dsimp only; omega
  · by_cases c1 : R = l.length
    · obtain ⟨p, hq⟩ := get_some (show l.length - 1 < l.length by omega)
      have := bnd_bd (u := u) (hp p (List.mem_of_getElem? hq))
      rw [if_neg c0, if_pos c1, hq]
      dsimp only; omega
    · obtain ⟨p, hP⟩ := get_some (show R - 1 < l.length by omega)
      obtain ⟨q, hQ⟩ := get_some (show R < l.length by omega)
      have b1 := bnd_bd (u := u) (hp p (List.mem_of_getElem? hP))
      have b2 := bnd_bd (u := u) (hp q (List.mem_of_getElem? hQ))
      have m1 := r1 _ p (by omega) hP
      obtain ⟨q', hQ', m2⟩ := r2 (by omega)
      rw [hQ] at hQ'; cases hQ'
      rw [if_neg c0, if_neg c1, hP, hQ]
      dsimp only
      by_cases e : n = q.1
      · rw [e]
        have := low_end (bnd u p) (bnd u q) p.1 q.1 (by omega)
        omega
      · have := part_bd b1 b2 (show p.1 ≤ n ∧ n < q.1 by omega)
        omega
theorem acc_box {l : List (Int × Int × Int)} (hp : ∀ p ∈ l, -2305843009213693952 ≤ p.1 ∧ p.1 ≤ 2305843009213693952 ∧ -2305843009213693952 ≤ p.2.1 ∧ p.2.1 ≤ 2305843009213693952 ∧ -2305843009213693952 ≤ p.2.2 ∧ p.2.2 ≤ 2305843009213693952) (h1 : 1 ≤ l.length) (ps : List Int) : ∀ k,
    -2305843009213693952 ≤ (accP l ps k).1 ∧ (accP l ps k).1 ≤ 2305843009213693952 ∧ -2305843009213693952 ≤ (accP l ps k).2 ∧ (accP l ps k).2 ≤ 2305843009213693952
  | 0 => by unfold accP; decide
  | k + 1 => by
    have ih := acc_box hp h1 ps k
    show _ ≤ (match ps[k]? with | some n => if k = 0 then ((rline l false n).1, (rline l true n).2) else (min (accP l ps k).1 (rline l false n).1, max (accP l ps k).2 (rline l true n).2) | none => accP l ps k).1 ∧ (match ps[k]? with | some n => if k = 0 then ((rline l false n).1, (rline l true n).2) else (min (accP l ps k).1 (rline l false n).1, max (accP l ps k).2 (rline l true n).2) | none => accP l ps k).1 ≤ _ ∧ _ ≤ (match ps[k]? with | some n => if k = 0 then ((rline l false n).1, (rline l true n).2) else (min (accP l ps k).1 (rline l false n).1, max (accP l ps k).2 (rline l true n).2) | none => accP l ps k).2 ∧ (match ps[k]? with | some n => if k = 0 then ((rline l false n).1, (rline l true n).2) else (min (accP l ps k).1 (rline l false n).1, max (accP l ps k).2 (rline l true n).2) | none => accP l ps k).2 ≤ _
    cases ps[k]? with
    | none => exact ih
    | some n =>
      have b1 := parts_box (u := false) hp h1 n
      have b2 := parts_box (u := true) hp h1 n
      dsimp only
      split
      · dsimp only; omega
      · dsimp only; omega
theorem good_of {l : List (Int × Int × Int)} (h : checkT l = 0) : goodU l l.length = true := by
  unfold checkT at h
  by_cases c : 1 ≤ l.length ∧ l.length ≤ 64 ∧ goodU l l.length = true
  · exact c.2.2
  · rw [if_neg c] at h; cases h
theorem rlook_good (l : List (Int × Int × Int)) (xl xh : Int) (B o cap : Nat) (w : World) (ht : Tab B o l w) (hx : (-9223372036854775808 ≤ xl ∧ xl ≤ 9223372036854775807) ∧ (-9223372036854775808 ≤ xh ∧ xh ≤ 9223372036854775807)) (hc : checkT l = 0) (hk : chk xl xh = 0) :
    Calls Try.prog 64 #[.slice (some ⟨B, o, none⟩) l.length cap, .agg #[.int .i64 xl, .int .i64 xh]] w fun e w' => e = .returned (.tuple #[.agg #[.int .i64 ((lookS l xl xh).1), .int .i64 ((lookS l xl xh).2.1)], .int .i64 ((lookS l xl xh).2.2)]) ∧ Below w.heap.size w w' := by
  obtain ⟨hn, hp⟩ := parts_of hc
  have hg := good_of hc
  have ha := accP_all (xl := xl) (xh := xh) hg hn.1 hk l.length (Nat.le_refl _)
  have hbx := acc_box hp hn.1 (placesL l xl xh l.length)
  have e : lookS l xl xh = fitS (accP l (placesL l xl xh l.length) (placesL l xl xh l.length).length).1 (accP l (placesL l xl xh l.length) (placesL l xl xh l.length).length).2 := by
    have := hbx (placesL l xl xh l.length).length
    rw [fitS_all (by omega), ha]; rfl
  refine rlook_go l xl xh _ _ _ e.symm B o cap w ht hn hx hp rfl hbx (fun u n => parts_box hp hn.1 n) (fun W g => ?_) (fun W => ?_)
    (fun u n W h g => line_any l u n B o cap W g h hc)
  · have := rcheckTable_tab l B o cap W g hn (fun p h => by have := hp p h; omega)
    rw [hc] at this
    exact this
  · have := rcheck_any xl xh W hx
    rw [hk] at this
    exact this
/-- What Look answers. -/
def lookA (l : List (Int × Int × Int)) (xl xh : Int) : Int × Int × Int := if checkT l = 0 ∧ chk xl xh = 0 then lookS l xl xh else (0, 0, 2)
theorem checkT_two {l : List (Int × Int × Int)} (h : ¬ checkT l = 0) : checkT l = 2 := by
  unfold checkT at h ⊢
  split at h
  · exact absurd rfl h
  · rename_i c; rw [if_neg c]
theorem checkT_long {l : List (Int × Int × Int)} (h : 64 < l.length) : checkT l = 2 := by
  unfold checkT; rw [if_neg (by omega)]
theorem look_tab (l : List (Int × Int × Int)) (xl xh : Int) (B o cap : Nat) (w : World) (ht : Tab B o l w) (h1 : 1 ≤ l.length) (hb : ∀ p ∈ l, (-9223372036854775808 ≤ p.1 ∧ p.1 ≤ 9223372036854775807) ∧ (-9223372036854775808 ≤ p.2.1 ∧ p.2.1 ≤ 9223372036854775807) ∧ (-9223372036854775808 ≤ p.2.2 ∧ p.2.2 ≤ 9223372036854775807)) (hx : (-9223372036854775808 ≤ xl ∧ xl ≤ 9223372036854775807) ∧ (-9223372036854775808 ≤ xh ∧ xh ≤ 9223372036854775807)) :
    Calls Try.prog 63 #[.slice (some ⟨B, o, none⟩) l.length cap, .agg #[.int .i64 xl, .int .i64 xh]] w fun e w' => e = .returned (.tuple #[.agg #[.int .i64 ((lookA l xl xh).1), .int .i64 ((lookA l xl xh).2.1)], .int .i64 ((lookA l xl xh).2.2)]) ∧ Below w.heap.size w w' := by
  by_cases hl : 64 < l.length
  · exact look_bad1 _ _ _ _ _ _ (hid (by unfold lookA; rw [checkT_long hl]; rfl)) w (fun _ => True) trivial (fun _ _ _ => trivial) (fun W _ => checkTable_long _ _ _ W hl)
  · by_cases hc : checkT l = 0
    · rcases chk_cases xl xh with ⟨e, -⟩ | ⟨e, -⟩
      · have := look_good l xl xh B o cap w ht hx hc e
        rw [show lookA l xl xh = lookS l xl xh by unfold lookA; rw [if_pos ⟨hc, e⟩]]
        exact this
      · refine look_bad2 _ _ _ _ _ _ (hid (by unfold lookA; rw [e, if_neg (by omega)])) w (Tab B o l) ht (fun _ _ h => Tab.alloc _ h) (fun W g => ?_) (fun W => ?_)
        · have := checkTable_tab l B o cap W g ⟨h1, by omega⟩ hb
          rw [hc] at this
          exact this
        · have := check_any xl xh W hx
          rw [e] at this
          exact this
    · refine look_bad1 _ _ _ _ _ _ (hid (by unfold lookA; rw [if_neg (fun h => hc h.1)])) w (Tab B o l) ht (fun _ _ h => Tab.alloc _ h) (fun W g => ?_)
      have := checkTable_tab l B o cap W g ⟨h1, by omega⟩ hb
      rw [checkT_two hc] at this
      exact this
theorem rlook_tab (l : List (Int × Int × Int)) (xl xh : Int) (B o cap : Nat) (w : World) (ht : Tab B o l w) (h1 : 1 ≤ l.length) (hb : ∀ p ∈ l, (-9223372036854775808 ≤ p.1 ∧ p.1 ≤ 9223372036854775807) ∧ (-9223372036854775808 ≤ p.2.1 ∧ p.2.1 ≤ 9223372036854775807) ∧ (-9223372036854775808 ≤ p.2.2 ∧ p.2.2 ≤ 9223372036854775807)) (hx : (-9223372036854775808 ≤ xl ∧ xl ≤ 9223372036854775807) ∧ (-9223372036854775808 ≤ xh ∧ xh ≤ 9223372036854775807)) :
    Calls Try.prog 64 #[.slice (some ⟨B, o, none⟩) l.length cap, .agg #[.int .i64 xl, .int .i64 xh]] w fun e w' => e = .returned (.tuple #[.agg #[.int .i64 ((lookA l xl xh).1), .int .i64 ((lookA l xl xh).2.1)], .int .i64 ((lookA l xl xh).2.2)]) ∧ Below w.heap.size w w' := by
  by_cases hl : 64 < l.length
  · exact rlook_bad1 _ _ _ _ _ _ (hid (by unfold lookA; rw [checkT_long hl]; rfl)) w (fun _ => True) trivial (fun _ _ _ => trivial) (fun W _ => rcheckTable_long _ _ _ W hl)
  · by_cases hc : checkT l = 0
    · rcases chk_cases xl xh with ⟨e, -⟩ | ⟨e, -⟩
      · have := rlook_good l xl xh B o cap w ht hx hc e
        rw [show lookA l xl xh = lookS l xl xh by unfold lookA; rw [if_pos ⟨hc, e⟩]]
        exact this
      · refine rlook_bad2 _ _ _ _ _ _ (hid (by unfold lookA; rw [e, if_neg (by omega)])) w (Tab B o l) ht (fun _ _ h => Tab.alloc _ h) (fun W g => ?_) (fun W => ?_)
        · have := rcheckTable_tab l B o cap W g ⟨h1, by omega⟩ hb
          rw [hc] at this
          exact this
        · have := rcheck_any xl xh W hx
          rw [e] at this
          exact this
    · refine rlook_bad1 _ _ _ _ _ _ (hid (by unfold lookA; rw [if_neg (fun h => hc h.1)])) w (Tab B o l) ht (fun _ _ h => Tab.alloc _ h) (fun W g => ?_)
      have := rcheckTable_tab l B o cap W g ⟨h1, by omega⟩ hb
      rw [checkT_two hc] at this
      exact this
theorem look_none (q : Option Addr) (cap : Nat) (xl xh : Int) (w : World) :
    Calls Try.prog 63 #[.slice q 0 cap, .agg #[.int .i64 xl, .int .i64 xh]] w fun e w' => e = .returned (.tuple #[.agg #[.int .i64 ((lookA [] xl xh).1), .int .i64 ((lookA [] xl xh).2.1)], .int .i64 ((lookA [] xl xh).2.2)]) ∧ Below w.heap.size w w' :=
  look_bad1 _ _ _ _ _ _ (hid (by unfold lookA checkT; rfl)) w (fun _ => True) trivial (fun _ _ _ => trivial) (fun W _ => checkTable_none _ _ W)
theorem rlook_none (q : Option Addr) (cap : Nat) (xl xh : Int) (w : World) :
    Calls Try.prog 64 #[.slice q 0 cap, .agg #[.int .i64 xl, .int .i64 xh]] w fun e w' => e = .returned (.tuple #[.agg #[.int .i64 ((lookA [] xl xh).1), .int .i64 ((lookA [] xl xh).2.1)], .int .i64 ((lookA [] xl xh).2.2)]) ∧ Below w.heap.size w w' :=
  rlook_bad1 _ _ _ _ _ _ (hid (by unfold lookA checkT; rfl)) w (fun _ => True) trivial (fun _ _ _ => trivial) (fun W _ => rcheckTable_none _ _ W)
end Go.Proofs.Ytjleflfncijnpaa
