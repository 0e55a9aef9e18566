/- The four cells of Parts that stay, in one fact. -/
import Derived.Test.YtkflpogmhailhaaGreatDoorA7
set_option linter.unusedVariables false
namespace Go.Proofs.YtkflpogmhailhaaGreatDoor
open Go.RowKit

abbrev PAt (w w1 : World) (c s x g : Int) : Prop := w.cell? ⟨w1.heap.size, 0, none⟩ = some (.int .i64 c) ∧ w.cell? ⟨w1.heap.size, 1, none⟩ = some (.int .i64 s) ∧ w.cell? ⟨w1.heap.size, 2, none⟩ = some (.int .i64 x) ∧ w.cell? ⟨w1.heap.size, 3, none⟩ = some (.int .u64 g)
theorem Gr.pt {W w w1 : World} {c s x g : Int} (h : Gr W w) (k : PAt W w1 c s x g := by exact ⟨kl, kl, kl, kl⟩) : PAt w w1 c s x g := ⟨h.old k.1, h.old k.2.1, h.old k.2.2.1, h.old k.2.2.2⟩
theorem Gb.pt {W w w1 : World} {c s x g : Int} (h : Gb W w) (k : PAt W w1 c s x g := by exact ⟨kb, kb, kb, kb⟩) : PAt w w1 c s x g := ⟨h.old k.1, h.old k.2.1, h.old k.2.2.1, h.old k.2.2.2⟩
end Go.Proofs.YtkflpogmhailhaaGreatDoor
