/- CheckTable, Look, of package span: of any table. -/
import Derived.Deep.DeepCutAuto
import Derived.Test.YtjleflfncijnpaaRows
import Derived.Test.YtjleflfncijnpaaBase
import Derived.Test.YtjleflfncijnpaaFacts
import Derived.Test.YtjleflfncijnpaaTwo
import Derived.Deep.RegionHeld3
import Derived.Deep.RegionWith
import Derived.Deep.QuietTactic
import Derived.BigQuiet
import Derived.Test.YtjleflfncijnpaaW
import Derived.Test.YtjleflfncijnpaaAsks
import Derived.Test.YtjleflfncijnpaaOut
import Derived.Test.YtjleflfncijnpaaSeq
import Derived.Test.YtjleflfncijnpaaTwo
import Derived.Test.YtjleflfncijnpaaThree
import Derived.Test.YtjleflfncijnpaaQuo
import Derived.Test.YtjleflfncijnpaaTabM
import Derived.Test.YtjleflfncijnpaaTable
import Derived.Test.YtjleflfncijnpaaLookM
import Derived.Test.YtjleflfncijnpaaLookA
import Derived.Test.YtjleflfncijnpaaLookB
set_option linter.unusedVariables false
set_option linter.unusedSimpArgs false
set_option maxHeartbeats 4000000
set_option maxRecDepth 100000
namespace Go.Proofs.Ytjleflfncijnpaa
open Go Go.RowKit
theorem checkTable_none (p : Option Addr) (cap : Nat) (w : World) :
    Calls Try.prog 65 #[.slice p 0 cap] w fun e w' => e = .returned (.int .i64 2) ∧ Below w.heap.size w w' := by
  go_enter Try.func65, Try.ntmps65
  go_wp2_with fail
  go_ret
  exact ⟨rfl, by go_grown⟩
theorem checkTable_long (p : Option Addr) (n cap : Nat) (w : World) (h : 64 < n) :
    Calls Try.prog 65 #[.slice p n cap] w fun e w' => e = .returned (.int .i64 2) ∧ Below w.heap.size w w' := by
  have h1 : ¬ (n : Int) < 1 := by omega
  have h2 : (64 : Int) < n := by omega
  have d1 : decide ((n : Int) < 1) = false := decide_eq_false h1
  have d2 : decide ((64 : Int) < n) = true := decide_eq_true h2
  have h3 : 64 < n := h
  have h4 : 1 ≤ n := by omega
  go_enter Try.func65, Try.ntmps65
  go_wp2_with fail
  go_ret
  exact ⟨rfl, by go_grown⟩
theorem checkTable_tab (l : List (Int × Int × Int)) (B o cap : Nat) (w : World) (ht : Tab B o l w) (hn : 1 ≤ l.length ∧ l.length ≤ 64) (hb : ∀ p ∈ l, (-9223372036854775808 ≤ p.1 ∧ p.1 ≤ 9223372036854775807) ∧ (-9223372036854775808 ≤ p.2.1 ∧ p.2.1 ≤ 9223372036854775807) ∧ (-9223372036854775808 ≤ p.2.2 ∧ p.2.2 ≤ 9223372036854775807)) :
    Calls Try.prog 65 #[.slice (some ⟨B, o, none⟩) l.length cap] w fun e w' => e = .returned (.int .i64 (checkT l)) ∧ Below w.heap.size w w' :=
  checkTable_go l B o cap w ht hn hb _ (hid (by unfold checkT; by_cases g : goodU l l.length = true <;> simp [g, hn.1, hn.2]))
/-- What a table has at a span. -/
def lookS (l : List (Int × Int × Int)) (xl xh : Int) : Int × Int × Int :=
  ((accL l xl xh (min (lineAt l xl).1 (lineAt l xh).1, max (lineAt l xl).2 (lineAt l xh).2) l.length).1, (accL l xl xh (min (lineAt l xl).1 (lineAt l xh).1, max (lineAt l xl).2 (lineAt l xh).2) l.length).2, 0)
theorem part_of {n : Int} (h : partB n = true) : -2305843009213693952 ≤ n ∧ n ≤ 2305843009213693952 := by
  unfold partB at h
  simpa using h
theorem parts_of {l : List (Int × Int × Int)} (h : checkT l = 0) : (1 ≤ l.length ∧ l.length ≤ 64) ∧ ∀ p ∈ l, -2305843009213693952 ≤ p.1 ∧ p.1 ≤ 2305843009213693952 ∧ -2305843009213693952 ≤ p.2.1 ∧ p.2.1 ≤ 2305843009213693952 ∧ -2305843009213693952 ≤ p.2.2 ∧ p.2.2 ≤ 2305843009213693952 := by
  unfold checkT at h
  by_cases c : 1 ≤ l.length ∧ l.length ≤ 64 ∧ goodU l l.length = true
  · refine ⟨⟨c.1, c.2.1⟩, fun p hp => ?_⟩
    obtain ⟨k, hk⟩ := List.mem_iff_getElem?.1 hp
    have hlt : k < l.length := (List.getElem?_eq_some_iff.1 hk).1
    have g := goodU_at c.2.2 hlt
    rw [okAt_some hk] at g
    simp only [okP, Bool.and_eq_true] at g
    have g1 := part_of g.1.1.1.1
    have g2 := part_of g.1.1.1.2
    have g3 := part_of g.1.1.2
    exact ⟨g1.1, g1.2, g2.1, g2.2, g3.1, g3.2⟩
  · rw [if_neg c] at h; cases h
theorem look_good (l : List (Int × Int × Int)) (xl xh : Int) (B o cap : Nat) (w : World) (ht : Tab B o l w) (hx : (-9223372036854775808 ≤ xl ∧ xl ≤ 9223372036854775807) ∧ (-9223372036854775808 ≤ xh ∧ xh ≤ 9223372036854775807)) (hc : checkT l = 0) (hk : chk xl xh = 0) :
    Calls Try.prog 63 #[.slice (some ⟨B, o, none⟩) l.length cap, .agg #[.int .i64 xl, .int .i64 xh]] w fun e w' => e = .returned (.tuple #[.agg #[.int .i64 ((lookS l xl xh).1), .int .i64 ((lookS l xl xh).2.1)], .int .i64 ((lookS l xl xh).2.2)]) ∧ Below w.heap.size w w' := by
  obtain ⟨hn, hp⟩ := parts_of hc
  refine look_go l xl xh _ _ _ _ _ _ _ rfl B o cap w ht hn hx (fun p h => by have := hp p h; omega) rfl (fun W g => ?_) (fun W => ?_)
    (fun W g => lookAt_go l xl B o cap W g hn _ _ rfl hp) (fun W g => lookAt_go l xh B o cap W g hn _ _ rfl hp)
  · have := checkTable_tab l B o cap W g hn (fun p h => by have := hp p h; omega)
    rw [hc] at this
    exact this
  · have := check_any xl xh W hx
    rw [hk] at this
    exact this
end Go.Proofs.Ytjleflfncijnpaa
