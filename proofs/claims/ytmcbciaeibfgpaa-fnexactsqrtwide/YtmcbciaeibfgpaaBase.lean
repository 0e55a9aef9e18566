/- Own notions: 'Gr w w'': w' is w with new blocks; nothing old has turned, nothing is frozen or let go. -/
import Derived.WalkKit
import Derived.ProofKit
import Derived.Handy
namespace Go.Proofs.Ytmcbciaeibfgpaa
open Go.RowKit

structure Gr (w w' : World) : Prop where
  grown : Grown w w'
  below : Below w.heap.size w w'

theorem Gr.refl (w : World) : Gr w w := ⟨Grown.refl _, Below.refl _ _⟩
theorem Gr.trans {a b c : World} (h : Gr a b) (k : Gr b c) : Gr a c := by
  obtain ⟨⟨h1, h2, h3⟩, hb⟩ := h
  obtain ⟨⟨k1, k2, k3⟩, kb⟩ := k
  exact ⟨⟨World.keptBut_trans h1 ⟨k1.1, k1.2.1, fun i hi => k1.2.2 i (by omega)⟩, fun x => (k2 x).trans (h2 x), Nat.le_trans h3 k3⟩, hb.trans (kb.mono h3)⟩
theorem Gr.alloc {W w : World} (h : Gr W w) (c : Array Value) (t : TypeId) : Gr W (w.alloc (.cells c t)) := ⟨h.grown.alloc c t, h.below.alloc h.below.size _⟩
theorem Gr.drew {W w : World} (h : Gr W w) : Gr W w.drew := ⟨h.grown.drew, h.below.drew⟩
theorem Gr.setCell {W w : World} (h : Gr W w) {a : Addr} (ha : W.heap.size ≤ a.block) (v : Value) : Gr W (w.setCell a v) := ⟨h.grown.setCell ha v, h.below.setCell ha v⟩
theorem Gr.size {W w : World} (h : Gr W w) : W.heap.size ≤ w.heap.size := h.below.size
theorem Gr.cells {W w : World} (h : Gr W w) : ∀ b o, b < W.heap.size → w.cell? ⟨b, o, none⟩ = W.cell? ⟨b, o, none⟩ := fun b o hb => h.below.cell (p := ⟨b, o, none⟩) hb
theorem Gr.frozens {W w : World} (h : Gr W w) : ∀ a, w.frozen? a = W.frozen? a := h.grown.2.1
theorem Gr.has {W w : World} (h : Gr W w) {b o : Nat} {v : Value} (hb : b < W.heap.size) (hv : W.cell? ⟨b, o, none⟩ = some v) : w.cell? ⟨b, o, none⟩ = some v := (h.cells b o hb).trans hv
theorem ret_congr {a b : Value} (h : a = b) : Ending.returned a = .returned b := by rw [h]
theorem ret_wb {x x' y y' : Int} {b b' : Bool} (h1 : x = x') (h2 : y = y') (h3 : b = b') : Ending.returned (.tuple #[.agg #[.int .u64 x, .int .u64 y], .bool b]) = .returned (.tuple #[.agg #[.int .u64 x', .int .u64 y'], .bool b']) := by rw [h1, h2, h3]
theorem ret_w {x x' y y' : Int} (h1 : x = x') (h2 : y = y') : Ending.returned (.agg #[.int .u64 x, .int .u64 y]) = .returned (.agg #[.int .u64 x', .int .u64 y']) := by rw [h1, h2]
theorem Gr.old {W w : World} (h : Gr W w) {b o : Nat} {v : Value} (hv : W.cell? ⟨b, o, none⟩ = some v) : w.cell? ⟨b, o, none⟩ = some v := by
  refine h.has ?_ hv
  rcases Nat.lt_or_ge b W.heap.size with k | k
  · exact k
  · simp [World.cell?, k] at hv
theorem cell_size {w : World} {b o : Nat} {v : Value} (hv : w.cell? ⟨b, o, none⟩ = some v) : b < w.heap.size := by
  rcases Nat.lt_or_ge b w.heap.size with k | k
  · exact k
  · simp [World.cell?, k] at hv
theorem cell_alloc {w : World} {b o : Nat} {v : Value} (ob : Obj) (hv : w.cell? ⟨b, o, none⟩ = some v) : (w.alloc ob).cell? ⟨b, o, none⟩ = some v := by
  have := cell_size hv
  exact (World.cell?_of_block (w := w) (a := ⟨b, o, none⟩) (Below.heap_alloc w ob b this)).trans hv
theorem cell_setNew {w : World} {b o : Nat} {v u : Value} {p : Addr} (hne : p.block ≠ b) (hv : w.cell? ⟨b, o, none⟩ = some v) : (w.setCell p u).cell? ⟨b, o, none⟩ = some v := by
  rw [World.cell?_setCell_other]
  · exact hv
  · intro e; rw [e] at hne; exact hne rfl
theorem cell_swap {w : World} {b o : Nat} {v : Value} {o1 : Obj} (o2 : Obj) (hb : b < w.heap.size) (hv : (w.alloc o1).cell? ⟨b, o, none⟩ = some v) : (w.alloc o2).cell? ⟨b, o, none⟩ = some v := by
  refine cell_alloc o2 ?_
  exact (World.cell?_of_block (w := w) (a := ⟨b, o, none⟩) (Below.heap_alloc w o1 b hb)).symm.trans hv
theorem cell_drew {w : World} {a : Addr} {v : Value} (hv : w.cell? a = some v) : w.drew.cell? a = some v := hv
theorem cell_setSame {w : World} {b o : Nat} {v : Value} (hv : (w.cell? ⟨b, o, none⟩).isSome = true) : (w.setCell ⟨b, o, none⟩ v).cell? ⟨b, o, none⟩ = some v := World.cell?_setCell_same' _ _ _ hv
theorem has_of {w : World} {a : Addr} {v : Value} (hv : w.cell? a = some v) : (w.cell? a).isSome = true := by rw [hv]; rfl
theorem has_old {W w : World} (h : Gr W w) {b o : Nat} (hv : (W.cell? ⟨b, o, none⟩).isSome = true) : (w.cell? ⟨b, o, none⟩).isSome = true := by
  obtain ⟨v, hv⟩ := Option.isSome_iff_exists.mp hv
  exact has_of (h.old hv)
theorem has_alloc {w : World} {b o : Nat} (ob : Obj) (hv : (w.cell? ⟨b, o, none⟩).isSome = true) : ((w.alloc ob).cell? ⟨b, o, none⟩).isSome = true := by
  obtain ⟨v, hv⟩ := Option.isSome_iff_exists.mp hv
  exact has_of (cell_alloc ob hv)
theorem has_set {w : World} {p a : Addr} {u : Value} (hv : (w.cell? a).isSome = true) : ((w.setCell p u).cell? a).isSome = true := by
  obtain ⟨v, hv⟩ := Option.isSome_iff_exists.mp hv
  obtain ⟨v', h'⟩ := cell?_setCell_some (p := p) (x := u) hv
  exact has_of h'
theorem cell_setOff {w : World} {b o k : Nat} {u v : Value} (hne : k ≠ o) (hv : w.cell? ⟨b, o, none⟩ = some v) : (w.setCell ⟨b, k, none⟩ u).cell? ⟨b, o, none⟩ = some v := by
  rw [World.cell?_setCell_other]
  · exact hv
  · intro e; injection e with e1 e2 e3; exact hne e2
theorem fz_old {W w : World} (h : Gr W w) {a : Addr} (hv : W.frozen? a = false) : w.frozen? a = false := (h.frozens a).trans hv
theorem fz_alloc {w : World} {a : Addr} {c : Array Value} {t : TypeId} (hv : w.frozen? a = false) : (w.alloc (.cells c t)).frozen? a = false := (frozen?_alloc_cells w c t a).trans hv
theorem fz_set {w : World} {a p : Addr} {v : Value} (hv : w.frozen? a = false) : (w.setCell p v).frozen? a = false := (World.frozen?_setCell _ _ _ _).trans hv
theorem fz_drew {w : World} {a : Addr} (hv : w.frozen? a = false) : w.drew.frozen? a = false := hv
theorem fz_new {w : World} {b o : Nat} (hb : w.heap.size ≤ b) : w.frozen? ⟨b, o, none⟩ = false := by
  have : w.heap[b]? = none := by simp [hb]
  simp [World.frozen?, this]
end Go.Proofs.Ytmcbciaeibfgpaa
