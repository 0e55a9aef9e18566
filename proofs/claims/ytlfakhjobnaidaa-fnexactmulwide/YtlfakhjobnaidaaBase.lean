/- Own notions: 'Gr w w'': w' is w with new blocks; nothing old has turned, nothing is frozen or let go. -/
import Derived.WalkKit
import Derived.ProofKit
import Derived.Handy
namespace Go.Proofs.Ytlfakhjobnaidaa
open Go.RowKit

structure Gr (w w' : World) : Prop where
  grown : Grown w w'
  below : Below w.heap.size w w'

theorem Gr.refl (w : World) : Gr w w := ⟨Grown.refl _, Below.refl _ _⟩
theorem Gr.trans {a b c : World} (h : Gr a b) (k : Gr b c) : Gr a c := by
  obtain ⟨⟨h1, h2, h3⟩, hb⟩ := h
  obtain ⟨⟨k1, k2, k3⟩, kb⟩ := k
  exact ⟨⟨World.keptBut_trans h1 ⟨k1.1, k1.2.1, fun i hi => k1.2.2 i (by omega)⟩, fun x => (k2 x).trans (h2 x), Nat.le_trans h3 k3⟩, hb.trans (kb.mono h3)⟩
theorem Gr.alloc {W w : World} (h : Gr W w) (c : Array Value) (t : TypeId) : Gr W (w.alloc (.cells c t)) := ⟨h.grown.alloc c t, h.below.alloc h.below.size _⟩
theorem Gr.drew {W w : World} (h : Gr W w) : Gr W w.drew := ⟨h.grown.drew, h.below.drew⟩
theorem Gr.setCell {W w : World} (h : Gr W w) {a : Addr} (ha : W.heap.size ≤ a.block) (v : Value) : Gr W (w.setCell a v) := ⟨h.grown.setCell ha v, h.below.setCell ha v⟩
theorem Gr.size {W w : World} (h : Gr W w) : W.heap.size ≤ w.heap.size := h.below.size
theorem Gr.cells {W w : World} (h : Gr W w) : ∀ b o, b < W.heap.size → w.cell? ⟨b, o, none⟩ = W.cell? ⟨b, o, none⟩ := fun b o hb => h.below.cell (p := ⟨b, o, none⟩) hb
theorem Gr.frozens {W w : World} (h : Gr W w) : ∀ a, w.frozen? a = W.frozen? a := h.grown.2.1
theorem Gr.has {W w : World} (h : Gr W w) {b o : Nat} {v : Value} (hb : b < W.heap.size) (hv : W.cell? ⟨b, o, none⟩ = some v) : w.cell? ⟨b, o, none⟩ = some v := (h.cells b o hb).trans hv
theorem ret_congr {a b : Value} (h : a = b) : Ending.returned a = .returned b := by rw [h]
end Go.Proofs.Ytlfakhjobnaidaa
