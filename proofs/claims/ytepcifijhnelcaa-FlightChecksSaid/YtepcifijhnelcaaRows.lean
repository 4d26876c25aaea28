/-
  No cell of these rows narrows 'for every input' (looked for: loops, veiled, ifaces, maps, wideKeys, modest, calm, conditions, laid).
  DERIVED. THE GIVEN ROWS OF THIS SEAT. 3 by the template 'for every input the law returns true; each argument reads behind the call as it read before'; 0 by the template 'total and deterministic' (their statements: YtepcifijhnelcaaTotals.lean).
  GIVEN WITH THE SEED: the statements are not yours to turn. If you find one false, say at which input.
  Laid BY PROGRAM, IN A SANDBOX (cutbox-rows.mjs): the forced cells as the released guide's own fill.sh prints them over the translation c6cc86be585262ff… (all of the seat's roots in one cut). By AI agents, Wed Nov 11 2026. No macro, syntax, notation, axiom, sorry.
-/
import Derived.Test.YtepcifijhnelcaaChecked
import GoSem.Claim
import GoSem.ClaimJoined
import GoSem.ClaimMapViews
import Derived.JoinedTies
import Derived.KernelRfl
namespace Go.Proofs.Ytepcifijhnelcaa
/- THE CELL 'sum', in the pinned program and in every row, IS THE sha256 OF THE DUMP (.gsa) THAT YtepcifijhnelcaaProg.lean LOADS. Nothing in Lean hashes anything: it is a label: what it is worth is what the hold of that sum in a sandbox is worth. -/
noncomputable def Try.pinned : Pinned := { name := "ytepcifijhnelcaa", sum := "c6cc86be585262ffbd4c372044e2b4c132ccb8f0ac0d9add6f6ff50c433067b2", checked := Try.checked }
namespace Rows
def none {H : Type} : Left H := { results := [], args := [] }

/-- 'ullagelaw03.FlightChecks': WHATEVER THE INPUT: true; the input reads as it did. -/
def flightChecksSpec : ChangeSpec := { name := "flightChecks", fn := fun _ => fun
  | [d1, d2, d3] => { results := [.lit (.bool true)], args := [d1, d2, d3] }
  | _ => none }
def flightChecksRow : OpenClaim := { program := "ytepcifijhnelcaa", sum := "c6cc86be585262ffbd4c372044e2b4c132ccb8f0ac0d9add6f6ff50c433067b2", func := "ullage/ullagelaw03.FlightChecks", spec := "flightChecks", apart := false }
def FlightChecksSaid : Prop := flightChecksRow.holds Try.pinned (OpenSpec.ofChange flightChecksSpec)

/-- ITS FALSE NEIGHBOUR: 'it returns false'. Refute it at one input. -/
def flightChecksWrong : ChangeSpec := { name := "flightChecks", fn := fun _ => fun
  | [d1, d2, d3] => { results := [.lit (.bool false)], args := [d1, d2, d3] }
  | _ => none }
def FlightChecksWrongFalsely : Prop := flightChecksRow.holds Try.pinned (OpenSpec.ofChange flightChecksWrong)

/-- 'ullagelaw04.AscentWindows': WHATEVER THE INPUT: true; the input reads as it did. -/
def ascentWindowsSpec : ChangeSpec := { name := "ascentWindows", fn := fun _ => fun
  | [d1, d2, d3, d4] => { results := [.lit (.bool true)], args := [d1, d2, d3, d4] }
  | _ => none }
def ascentWindowsRow : OpenClaim := { program := "ytepcifijhnelcaa", sum := "c6cc86be585262ffbd4c372044e2b4c132ccb8f0ac0d9add6f6ff50c433067b2", func := "ullage/ullagelaw04.AscentWindows", spec := "ascentWindows", apart := false }
def AscentWindowsSaid : Prop := ascentWindowsRow.holds Try.pinned (OpenSpec.ofChange ascentWindowsSpec)

/-- ITS FALSE NEIGHBOUR: 'it returns false'. Refute it at one input. -/
def ascentWindowsWrong : ChangeSpec := { name := "ascentWindows", fn := fun _ => fun
  | [d1, d2, d3, d4] => { results := [.lit (.bool false)], args := [d1, d2, d3, d4] }
  | _ => none }
def AscentWindowsWrongFalsely : Prop := ascentWindowsRow.holds Try.pinned (OpenSpec.ofChange ascentWindowsWrong)

/-- 'ullagelaw04.AscentSets': WHATEVER THE INPUT: true; the input reads as it did. -/
def ascentSetsSpec : ChangeSpec := { name := "ascentSets", fn := fun _ => fun
  | [d1, d2] => { results := [.lit (.bool true)], args := [d1, d2] }
  | _ => none }
def ascentSetsRow : OpenClaim := { program := "ytepcifijhnelcaa", sum := "c6cc86be585262ffbd4c372044e2b4c132ccb8f0ac0d9add6f6ff50c433067b2", func := "ullage/ullagelaw04.AscentSets", spec := "ascentSets", unfollowed := true, recurses := true, apart := false }
def AscentSetsSaid : Prop := ascentSetsRow.holds Try.pinned (OpenSpec.ofChange ascentSetsSpec)

/-- ITS FALSE NEIGHBOUR: 'it returns false'. Refute it at one input. -/
def ascentSetsWrong : ChangeSpec := { name := "ascentSets", fn := fun _ => fun
  | [d1, d2] => { results := [.lit (.bool false)], args := [d1, d2] }
  | _ => none }
def AscentSetsWrongFalsely : Prop := ascentSetsRow.holds Try.pinned (OpenSpec.ofChange ascentSetsWrong)

/- THE SECOND FORM. 'bulk': how many values and letters a reading holds, each counted each time it is reached (what is shared counts as often as it is met; a slice's spare places count too). A statement '..UptoSaid' is the law's where the arguments, and the package variables that the reading takes, are together of bulk at most 1048576: NARROWER than '..Said'. Prove '..Said' where nothing that the law and all that it calls make is longer than what came in: it says more and counts as full. Else prove '..UptoSaid'. A law counts once. -/
mutual
def uptoBulk {H : Type} : DataW H → Nat
  | .lit (.string bytes) => bytes.length + 1
  | .lit _ => 1
  | .nil => 1
  | .ptr d => uptoBulk d + 1
  | .slice elems spare => uptoBulkAll elems + uptoBulkAll spare + 1
  | .agg parts => uptoBulkAll parts + 1
  | .iface _ d => uptoBulk d + 1
  | .map entries => uptoBulkEntries entries + 1
  | .held _ => 1
def uptoBulkAll {H : Type} : List (DataW H) → Nat
  | [] => 0
  | d :: r => uptoBulk d + uptoBulkAll r
def uptoBulkEntries {H : Type} : List (Lit × DataW H) → Nat
  | [] => 0
  | x :: r => uptoBulkEntry x + uptoBulkEntries r
def uptoBulkEntry {H : Type} : Lit × DataW H → Nat
  | (.string bytes, d) => bytes.length + uptoBulk d + 1
  | (_, d) => uptoBulk d + 1
 end
def uptoSmall : (H : Type) → List (DataW H) → Bool := fun _ ds => decide (uptoBulkAll ds ≤ 1048576)
def OpenSpec.upto (s : _root_.Go.ChangeSpec) : _root_.Go.OpenSpec := { _root_.Go.OpenSpec.ofChange s with cond := some uptoSmall }

/-- 'ullagelaw03.FlightChecks', WHERE WHAT IT READS IS OF BULK AT MOST 1048576: true; the input reads as it did. -/
def flightChecksUptoRow : OpenClaim := { program := "ytepcifijhnelcaa", sum := "c6cc86be585262ffbd4c372044e2b4c132ccb8f0ac0d9add6f6ff50c433067b2", func := "ullage/ullagelaw03.FlightChecks", spec := "flightChecks", apart := false, narrowed := true }
def FlightChecksUptoSaid : Prop := flightChecksUptoRow.holds Try.pinned (OpenSpec.upto flightChecksSpec)

/-- 'ullagelaw04.AscentWindows', WHERE WHAT IT READS IS OF BULK AT MOST 1048576: true; the input reads as it did. -/
def ascentWindowsUptoRow : OpenClaim := { program := "ytepcifijhnelcaa", sum := "c6cc86be585262ffbd4c372044e2b4c132ccb8f0ac0d9add6f6ff50c433067b2", func := "ullage/ullagelaw04.AscentWindows", spec := "ascentWindows", apart := false, narrowed := true }
def AscentWindowsUptoSaid : Prop := ascentWindowsUptoRow.holds Try.pinned (OpenSpec.upto ascentWindowsSpec)

/-- 'ullagelaw04.AscentSets', WHERE WHAT IT READS IS OF BULK AT MOST 1048576: true; the input reads as it did. -/
def ascentSetsUptoRow : OpenClaim := { program := "ytepcifijhnelcaa", sum := "c6cc86be585262ffbd4c372044e2b4c132ccb8f0ac0d9add6f6ff50c433067b2", func := "ullage/ullagelaw04.AscentSets", spec := "ascentSets", unfollowed := true, recurses := true, apart := false, narrowed := true }
def AscentSetsUptoSaid : Prop := ascentSetsUptoRow.holds Try.pinned (OpenSpec.upto ascentSetsSpec)

end Rows
end Go.Proofs.Ytepcifijhnelcaa
