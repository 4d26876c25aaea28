/- What a call leaves, cell by cell. -/
import Derived.Test.YtlpbkifiidlllaaBase
set_option linter.unusedVariables false
namespace Go.Proofs.Ytlpbkifiidlllaa
open Go Go.RowKit
theorem keepA {w : World} {a : Addr} {v : Value} (o : Obj) (h : w.cell? a = some v) : (w.alloc o).cell? a = some v := by
  rw [World.cell?_alloc_lt _ _ _ (World.block_lt_of_cell? w a h)]; exact h
theorem useK {P : Program} {f : FuncId} {args : Array Value} (w : World) {W : World} {R : Ending → Prop} {Q : Ending → World → Prop} (hc : Calls P f args W (fun e w' => R e ∧ Below W.heap.size W w')) (hW : Below w.heap.size w W)
    (k : ∀ e w1, R e → Below w.heap.size w w1 → (∀ b o v, W.cell? ⟨b, o, none⟩ = some v → w1.cell? ⟨b, o, none⟩ = some v) → W.heap.size ≤ w1.heap.size → Q e w1) : Calls P f args W Q :=
  Calls.mono hc fun e w1 ⟨hr, hb⟩ => k e w1 hr (hW.trans (hb.mono hW.size)) (fun b o v h => (hb.cell (p := ⟨b, o, none⟩) (World.block_lt_of_cell? W ⟨b, o, none⟩ h)).trans h) hb.size
theorem keepAF {w : World} {a : Addr} {v : Value} (o : Obj) (h : w.cell? a = some v) (hf : w.frozen? a = false) : (w.alloc o).frozen? a = false := by
  rw [World.frozen?_alloc_old _ _ _ (Nat.ne_of_lt (World.block_lt_of_cell? w a h))]; exact hf
theorem useF {P : Program} {f : FuncId} {args : Array Value} (w : World) {W : World} {R : Ending → Prop} {Q : Ending → World → Prop} (hc : Calls P f args W (fun e w' => R e ∧ Below W.heap.size W w')) (hW : Below w.heap.size w W)
    (k : ∀ e w1, R e → Below w.heap.size w w1 → (∀ b o v, W.cell? ⟨b, o, none⟩ = some v → w1.cell? ⟨b, o, none⟩ = some v) → (∀ b o v, W.cell? ⟨b, o, none⟩ = some v → W.frozen? ⟨b, o, none⟩ = false → w1.frozen? ⟨b, o, none⟩ = false) → W.heap.size ≤ w1.heap.size → Q e w1) : Calls P f args W Q :=
  Calls.mono hc fun e w1 ⟨hr, hb⟩ => k e w1 hr (hW.trans (hb.mono hW.size)) (fun b o v h => (hb.cell (p := ⟨b, o, none⟩) (World.block_lt_of_cell? W ⟨b, o, none⟩ h)).trans h)
    (fun b o v h hf => (hb.frozen (p := ⟨b, o, none⟩) (World.block_lt_of_cell? W ⟨b, o, none⟩ h)).trans hf) hb.size
end Go.Proofs.Ytlpbkifiidlllaa
