/- Own notions: 'Gr w w'': w' is w with new blocks; nothing old has turned, nothing is frozen or let go. -/
import Derived.WalkKit
import Derived.ProofKit
import Derived.Handy
namespace Go.Proofs.YtfhbhghifeefeaaDoor
open Go.RowKit

structure Gr (w w' : World) : Prop where
  grown : Grown w w'
  below : Below w.heap.size w w'

theorem Gr.refl (w : World) : Gr w w := ⟨Grown.refl _, Below.refl _ _⟩
theorem Gr.trans {a b c : World} (h : Gr a b) (k : Gr b c) : Gr a c := by
  obtain ⟨⟨h1, h2, h3⟩, hb⟩ := h
  obtain ⟨⟨k1, k2, k3⟩, kb⟩ := k
  exact ⟨⟨World.keptBut_trans h1 ⟨k1.1, k1.2.1, fun i hi => k1.2.2 i (by omega)⟩, fun x => (k2 x).trans (h2 x), Nat.le_trans h3 k3⟩, hb.trans (kb.mono h3)⟩
theorem Gr.alloc {W w : World} (h : Gr W w) (c : Array Value) (t : TypeId) : Gr W (w.alloc (.cells c t)) := ⟨h.grown.alloc c t, h.below.alloc h.below.size _⟩
theorem Gr.drew {W w : World} (h : Gr W w) : Gr W w.drew := ⟨h.grown.drew, h.below.drew⟩
theorem Gr.setCell {W w : World} (h : Gr W w) {a : Addr} (ha : W.heap.size ≤ a.block) (v : Value) : Gr W (w.setCell a v) := ⟨h.grown.setCell ha v, h.below.setCell ha v⟩
theorem Gr.size {W w : World} (h : Gr W w) : W.heap.size ≤ w.heap.size := h.below.size
theorem Gr.cells {W w : World} (h : Gr W w) : ∀ b o, b < W.heap.size → w.cell? ⟨b, o, none⟩ = W.cell? ⟨b, o, none⟩ := fun b o hb => h.below.cell (p := ⟨b, o, none⟩) hb
theorem Gr.frozens {W w : World} (h : Gr W w) : ∀ a, w.frozen? a = W.frozen? a := h.grown.2.1
theorem Gr.has {W w : World} (h : Gr W w) {b o : Nat} {v : Value} (hb : b < W.heap.size) (hv : W.cell? ⟨b, o, none⟩ = some v) : w.cell? ⟨b, o, none⟩ = some v := (h.cells b o hb).trans hv
theorem ret_congr {a b : Value} (h : a = b) : Ending.returned a = .returned b := by rw [h]
theorem ret_wb {x x' y y' : Int} {b b' : Bool} (h1 : x = x') (h2 : y = y') (h3 : b = b') : Ending.returned (.tuple #[.agg #[.int .u64 x, .int .u64 y], .bool b]) = .returned (.tuple #[.agg #[.int .u64 x', .int .u64 y'], .bool b']) := by rw [h1, h2, h3]
theorem ret_w {x x' y y' : Int} (h1 : x = x') (h2 : y = y') : Ending.returned (.agg #[.int .u64 x, .int .u64 y]) = .returned (.agg #[.int .u64 x', .int .u64 y']) := by rw [h1, h2]
theorem Gr.old {W w : World} (h : Gr W w) {b o : Nat} {v : Value} (hv : W.cell? ⟨b, o, none⟩ = some v) : w.cell? ⟨b, o, none⟩ = some v := by
  refine h.has ?_ hv
  rcases Nat.lt_or_ge b W.heap.size with k | k
  · exact k
  · simp [World.cell?, k] at hv
theorem cell_size {w : World} {b o : Nat} {v : Value} (hv : w.cell? ⟨b, o, none⟩ = some v) : b < w.heap.size := by
  rcases Nat.lt_or_ge b w.heap.size with k | k
  · exact k
  · simp [World.cell?, k] at hv
theorem cell_alloc {w : World} {b o : Nat} {v : Value} (ob : Obj) (hv : w.cell? ⟨b, o, none⟩ = some v) : (w.alloc ob).cell? ⟨b, o, none⟩ = some v := by
  have := cell_size hv
  exact (World.cell?_of_block (w := w) (a := ⟨b, o, none⟩) (Below.heap_alloc w ob b this)).trans hv
theorem cell_setNew {w : World} {b o : Nat} {v u : Value} {p : Addr} (hne : p.block ≠ b) (hv : w.cell? ⟨b, o, none⟩ = some v) : (w.setCell p u).cell? ⟨b, o, none⟩ = some v := by
  rw [World.cell?_setCell_other]
  · exact hv
  · intro e; rw [e] at hne; exact hne rfl
theorem cell_swap {w : World} {b o : Nat} {v : Value} {o1 : Obj} (o2 : Obj) (hb : b < w.heap.size) (hv : (w.alloc o1).cell? ⟨b, o, none⟩ = some v) : (w.alloc o2).cell? ⟨b, o, none⟩ = some v := by
  refine cell_alloc o2 ?_
  exact (World.cell?_of_block (w := w) (a := ⟨b, o, none⟩) (Below.heap_alloc w o1 b hb)).symm.trans hv
theorem cell_drew {w : World} {a : Addr} {v : Value} (hv : w.cell? a = some v) : w.drew.cell? a = some v := hv
theorem cell_setSame {w : World} {b o : Nat} {v : Value} (hv : (w.cell? ⟨b, o, none⟩).isSome = true) : (w.setCell ⟨b, o, none⟩ v).cell? ⟨b, o, none⟩ = some v := World.cell?_setCell_same' _ _ _ hv
theorem has_of {w : World} {a : Addr} {v : Value} (hv : w.cell? a = some v) : (w.cell? a).isSome = true := by rw [hv]; rfl
theorem has_old {W w : World} (h : Gr W w) {b o : Nat} (hv : (W.cell? ⟨b, o, none⟩).isSome = true) : (w.cell? ⟨b, o, none⟩).isSome = true := by
  obtain ⟨v, hv⟩ := Option.isSome_iff_exists.mp hv
  exact has_of (h.old hv)
theorem has_alloc {w : World} {b o : Nat} (ob : Obj) (hv : (w.cell? ⟨b, o, none⟩).isSome = true) : ((w.alloc ob).cell? ⟨b, o, none⟩).isSome = true := by
  obtain ⟨v, hv⟩ := Option.isSome_iff_exists.mp hv
  exact has_of (cell_alloc ob hv)
theorem has_set {w : World} {p a : Addr} {u : Value} (hv : (w.cell? a).isSome = true) : ((w.setCell p u).cell? a).isSome = true := by
  obtain ⟨v, hv⟩ := Option.isSome_iff_exists.mp hv
  obtain ⟨v', h'⟩ := cell?_setCell_some (p := p) (x := u) hv
  exact has_of h'
theorem cell_setOff {w : World} {b o k : Nat} {u v : Value} (hne : k ≠ o) (hv : w.cell? ⟨b, o, none⟩ = some v) : (w.setCell ⟨b, k, none⟩ u).cell? ⟨b, o, none⟩ = some v := by
  rw [World.cell?_setCell_other]
  · exact hv
  · intro e; injection e with e1 e2 e3; exact hne e2
theorem fz_old {W w : World} (h : Gr W w) {a : Addr} (hv : W.frozen? a = false) : w.frozen? a = false := (h.frozens a).trans hv
theorem fz_alloc {w : World} {a : Addr} {c : Array Value} {t : TypeId} (hv : w.frozen? a = false) : (w.alloc (.cells c t)).frozen? a = false := (frozen?_alloc_cells w c t a).trans hv
theorem fz_set {w : World} {a p : Addr} {v : Value} (hv : w.frozen? a = false) : (w.setCell p v).frozen? a = false := (World.frozen?_setCell _ _ _ _).trans hv
theorem fz_drew {w : World} {a : Addr} (hv : w.frozen? a = false) : w.drew.frozen? a = false := hv
theorem fz_new {w : World} {b o : Nat} (hb : w.heap.size ≤ b) : w.frozen? ⟨b, o, none⟩ = false := by
  have : w.heap[b]? = none := by simp [hb]
  simp [World.frozen?, this]
/- Long closings in short words: each is a default argument. -/
theorem kq {P : Prop} (h : P := by (repeat' (first | (with_reducible assumption) | (with_reducible refine Gr.old (by with_reducible assumption) ?_) | (simp [go_sem]; done) | (with_reducible refine cell_alloc _ ?_) | (with_reducible refine cell_drew ?_) | (with_reducible refine fz_old (by with_reducible assumption) ?_) | (with_reducible refine fz_alloc ?_) | (with_reducible refine fz_drew ?_)))) : P := h
theorem ks {P : Prop} (h : P := by (repeat' (first | (with_reducible assumption) | (with_reducible refine Gb.old (by with_reducible assumption) ?_) | (with_reducible refine Gr.old (by with_reducible assumption) ?_) | (with_reducible refine cell_drew ?_) | (simp [go_sem]; done) | (with_reducible refine Gb.fzc (by with_reducible assumption) (by first | (with_reducible assumption) | (with_reducible exact cell_drew (by with_reducible assumption))) ?_) | (with_reducible refine fz_old (by with_reducible assumption) ?_) | (with_reducible refine fz_drew ?_) | go_size))) : P := h
theorem kb {P : Prop} (h : P := by (repeat' (first | (with_reducible assumption) | (with_reducible refine has_of (by with_reducible assumption)) | (with_reducible refine Gr.old (by with_reducible assumption) ?_) | (with_reducible refine Gb.old (by with_reducible assumption) ?_) | (with_reducible refine cell_swap _ ?_ (by with_reducible assumption); omega) | (with_reducible refine cell_setSame ?_) | (with_reducible refine has_old (by with_reducible assumption) ?_) | (with_reducible refine has_set ?_) | (with_reducible refine cell_setOff ?_ ?_; omega) | (with_reducible refine cell_setNew ?_ ?_; (dsimp only; omega)) | (simp [go_sem]; done) | (simp [go_sem]; rfl) | (with_reducible refine cell_alloc _ ?_) | (with_reducible refine cell_drew ?_) | (with_reducible refine has_alloc _ ?_) | (with_reducible refine fz_old (by with_reducible assumption) ?_) | (with_reducible refine Gb.fzc (by with_reducible assumption) (by first | (with_reducible assumption) | (with_reducible exact cell_drew (by with_reducible assumption))) ?_) | (with_reducible refine Gb.fz (by with_reducible assumption) ?_ ?_) | go_size | (with_reducible refine fz_alloc ?_) | (with_reducible refine fz_set ?_) | (with_reducible refine fz_drew ?_)))) : P := h
theorem kl {P : Prop} (h : P := by (repeat' (first | (with_reducible assumption) | (with_reducible refine has_of (by with_reducible assumption)) | (with_reducible refine Gr.old (by with_reducible assumption) ?_) | (with_reducible refine cell_swap _ ?_ (by with_reducible assumption); omega) | (with_reducible refine cell_setSame ?_) | (with_reducible refine has_old (by with_reducible assumption) ?_) | (with_reducible refine has_set ?_) | (with_reducible refine cell_setOff ?_ ?_; omega) | (with_reducible refine cell_setNew ?_ ?_; (dsimp only; omega)) | (simp [go_sem]; done) | (simp [go_sem]; rfl) | (with_reducible refine cell_alloc _ ?_) | (with_reducible refine cell_drew ?_) | (with_reducible refine has_alloc _ ?_) | (with_reducible refine fz_old (by with_reducible assumption) ?_) | (with_reducible refine fz_alloc ?_) | (with_reducible refine fz_set ?_) | (with_reducible refine fz_drew ?_)))) : P := h
theorem kr {P : Prop} (h : P := by (repeat' (first | (with_reducible assumption) | (with_reducible exact Gr.refl _) | (with_reducible refine Gr.alloc ?_ _ _) | (with_reducible refine Gr.drew ?_) | (with_reducible refine Gr.setCell ?_ ?_ _) | (with_reducible refine Gr.trans ?_ (by with_reducible assumption)) | go_size))) : P := h
theorem kg {P : Prop} (h : P := by (repeat' (first | (with_reducible assumption) | (with_reducible exact Gb.refl _) | (with_reducible exact Hid.out (by with_reducible assumption)) | (with_reducible refine Gb.alloc ?_ _) | (with_reducible refine Gb.drew ?_) | (with_reducible refine Gb.setCell ?_ ?_ _) | (with_reducible refine Gb.trans ?_ (by with_reducible assumption)) | (with_reducible refine Gb.trans ?_ (Gr.gb (by with_reducible assumption))) | go_size))) : P := h
abbrev KE2 (w : World) (b i0 i1 : Nat) (v0 v1 : Value) : Prop := w.cell? ⟨b, i0, none⟩ = some v0 ∧ w.cell? ⟨b, i1, none⟩ = some v1
abbrev KE3 (w : World) (b i0 i1 i2 : Nat) (v0 v1 v2 : Value) : Prop := w.cell? ⟨b, i0, none⟩ = some v0 ∧ w.cell? ⟨b, i1, none⟩ = some v1 ∧ w.cell? ⟨b, i2, none⟩ = some v2
abbrev KE4 (w : World) (b i0 i1 i2 i3 : Nat) (v0 v1 v2 v3 : Value) : Prop := w.cell? ⟨b, i0, none⟩ = some v0 ∧ w.cell? ⟨b, i1, none⟩ = some v1 ∧ w.cell? ⟨b, i2, none⟩ = some v2 ∧ w.cell? ⟨b, i3, none⟩ = some v3
abbrev KE5 (w : World) (b i0 i1 i2 i3 i4 : Nat) (v0 v1 v2 v3 v4 : Value) : Prop := w.cell? ⟨b, i0, none⟩ = some v0 ∧ w.cell? ⟨b, i1, none⟩ = some v1 ∧ w.cell? ⟨b, i2, none⟩ = some v2 ∧ w.cell? ⟨b, i3, none⟩ = some v3 ∧ w.cell? ⟨b, i4, none⟩ = some v4
abbrev KE6 (w : World) (b i0 i1 i2 i3 i4 i5 : Nat) (v0 v1 v2 v3 v4 v5 : Value) : Prop := w.cell? ⟨b, i0, none⟩ = some v0 ∧ w.cell? ⟨b, i1, none⟩ = some v1 ∧ w.cell? ⟨b, i2, none⟩ = some v2 ∧ w.cell? ⟨b, i3, none⟩ = some v3 ∧ w.cell? ⟨b, i4, none⟩ = some v4 ∧ w.cell? ⟨b, i5, none⟩ = some v5
abbrev KE7 (w : World) (b i0 i1 i2 i3 i4 i5 i6 : Nat) (v0 v1 v2 v3 v4 v5 v6 : Value) : Prop := w.cell? ⟨b, i0, none⟩ = some v0 ∧ w.cell? ⟨b, i1, none⟩ = some v1 ∧ w.cell? ⟨b, i2, none⟩ = some v2 ∧ w.cell? ⟨b, i3, none⟩ = some v3 ∧ w.cell? ⟨b, i4, none⟩ = some v4 ∧ w.cell? ⟨b, i5, none⟩ = some v5 ∧ w.cell? ⟨b, i6, none⟩ = some v6
abbrev KE8 (w : World) (b i0 i1 i2 i3 i4 i5 i6 i7 : Nat) (v0 v1 v2 v3 v4 v5 v6 v7 : Value) : Prop := w.cell? ⟨b, i0, none⟩ = some v0 ∧ w.cell? ⟨b, i1, none⟩ = some v1 ∧ w.cell? ⟨b, i2, none⟩ = some v2 ∧ w.cell? ⟨b, i3, none⟩ = some v3 ∧ w.cell? ⟨b, i4, none⟩ = some v4 ∧ w.cell? ⟨b, i5, none⟩ = some v5 ∧ w.cell? ⟨b, i6, none⟩ = some v6 ∧ w.cell? ⟨b, i7, none⟩ = some v7
abbrev KF1 (w : World) (b i0 : Nat) (v0 : Value) : Prop := w.cell? ⟨b, i0, none⟩ = some v0 ∧ w.frozen? ⟨b, i0, none⟩ = false
abbrev KF2 (w : World) (b i0 i1 : Nat) (v0 v1 : Value) : Prop := w.cell? ⟨b, i0, none⟩ = some v0 ∧ w.frozen? ⟨b, i0, none⟩ = false ∧ w.cell? ⟨b, i1, none⟩ = some v1 ∧ w.frozen? ⟨b, i1, none⟩ = false
abbrev KF3 (w : World) (b i0 i1 i2 : Nat) (v0 v1 v2 : Value) : Prop := w.cell? ⟨b, i0, none⟩ = some v0 ∧ w.frozen? ⟨b, i0, none⟩ = false ∧ w.cell? ⟨b, i1, none⟩ = some v1 ∧ w.frozen? ⟨b, i1, none⟩ = false ∧ w.cell? ⟨b, i2, none⟩ = some v2 ∧ w.frozen? ⟨b, i2, none⟩ = false
abbrev KF4 (w : World) (b i0 i1 i2 i3 : Nat) (v0 v1 v2 v3 : Value) : Prop := w.cell? ⟨b, i0, none⟩ = some v0 ∧ w.frozen? ⟨b, i0, none⟩ = false ∧ w.cell? ⟨b, i1, none⟩ = some v1 ∧ w.frozen? ⟨b, i1, none⟩ = false ∧ w.cell? ⟨b, i2, none⟩ = some v2 ∧ w.frozen? ⟨b, i2, none⟩ = false ∧ w.cell? ⟨b, i3, none⟩ = some v3 ∧ w.frozen? ⟨b, i3, none⟩ = false
abbrev KF5 (w : World) (b i0 i1 i2 i3 i4 : Nat) (v0 v1 v2 v3 v4 : Value) : Prop := w.cell? ⟨b, i0, none⟩ = some v0 ∧ w.frozen? ⟨b, i0, none⟩ = false ∧ w.cell? ⟨b, i1, none⟩ = some v1 ∧ w.frozen? ⟨b, i1, none⟩ = false ∧ w.cell? ⟨b, i2, none⟩ = some v2 ∧ w.frozen? ⟨b, i2, none⟩ = false ∧ w.cell? ⟨b, i3, none⟩ = some v3 ∧ w.frozen? ⟨b, i3, none⟩ = false ∧ w.cell? ⟨b, i4, none⟩ = some v4 ∧ w.frozen? ⟨b, i4, none⟩ = false
abbrev KF6 (w : World) (b i0 i1 i2 i3 i4 i5 : Nat) (v0 v1 v2 v3 v4 v5 : Value) : Prop := w.cell? ⟨b, i0, none⟩ = some v0 ∧ w.frozen? ⟨b, i0, none⟩ = false ∧ w.cell? ⟨b, i1, none⟩ = some v1 ∧ w.frozen? ⟨b, i1, none⟩ = false ∧ w.cell? ⟨b, i2, none⟩ = some v2 ∧ w.frozen? ⟨b, i2, none⟩ = false ∧ w.cell? ⟨b, i3, none⟩ = some v3 ∧ w.frozen? ⟨b, i3, none⟩ = false ∧ w.cell? ⟨b, i4, none⟩ = some v4 ∧ w.frozen? ⟨b, i4, none⟩ = false ∧ w.cell? ⟨b, i5, none⟩ = some v5 ∧ w.frozen? ⟨b, i5, none⟩ = false
abbrev KF7 (w : World) (b i0 i1 i2 i3 i4 i5 i6 : Nat) (v0 v1 v2 v3 v4 v5 v6 : Value) : Prop := w.cell? ⟨b, i0, none⟩ = some v0 ∧ w.frozen? ⟨b, i0, none⟩ = false ∧ w.cell? ⟨b, i1, none⟩ = some v1 ∧ w.frozen? ⟨b, i1, none⟩ = false ∧ w.cell? ⟨b, i2, none⟩ = some v2 ∧ w.frozen? ⟨b, i2, none⟩ = false ∧ w.cell? ⟨b, i3, none⟩ = some v3 ∧ w.frozen? ⟨b, i3, none⟩ = false ∧ w.cell? ⟨b, i4, none⟩ = some v4 ∧ w.frozen? ⟨b, i4, none⟩ = false ∧ w.cell? ⟨b, i5, none⟩ = some v5 ∧ w.frozen? ⟨b, i5, none⟩ = false ∧ w.cell? ⟨b, i6, none⟩ = some v6 ∧ w.frozen? ⟨b, i6, none⟩ = false
abbrev KF8 (w : World) (b i0 i1 i2 i3 i4 i5 i6 i7 : Nat) (v0 v1 v2 v3 v4 v5 v6 v7 : Value) : Prop := w.cell? ⟨b, i0, none⟩ = some v0 ∧ w.frozen? ⟨b, i0, none⟩ = false ∧ w.cell? ⟨b, i1, none⟩ = some v1 ∧ w.frozen? ⟨b, i1, none⟩ = false ∧ w.cell? ⟨b, i2, none⟩ = some v2 ∧ w.frozen? ⟨b, i2, none⟩ = false ∧ w.cell? ⟨b, i3, none⟩ = some v3 ∧ w.frozen? ⟨b, i3, none⟩ = false ∧ w.cell? ⟨b, i4, none⟩ = some v4 ∧ w.frozen? ⟨b, i4, none⟩ = false ∧ w.cell? ⟨b, i5, none⟩ = some v5 ∧ w.frozen? ⟨b, i5, none⟩ = false ∧ w.cell? ⟨b, i6, none⟩ = some v6 ∧ w.frozen? ⟨b, i6, none⟩ = false ∧ w.cell? ⟨b, i7, none⟩ = some v7 ∧ w.frozen? ⟨b, i7, none⟩ = false
theorem kca {w : World} {b o : Nat} {v : Value} (hv : w.cell? ⟨b, o, none⟩ = some v) (ob : Obj) : (w.alloc ob).cell? ⟨b, o, none⟩ = some v := cell_alloc ob hv
theorem kfa {w : World} {b o : Nat} (hv : w.frozen? ⟨b, o, none⟩ = false) (c : Array Value) (t : TypeId) : (w.alloc (.cells c t)).frozen? ⟨b, o, none⟩ = false := fz_alloc hv
end Go.Proofs.YtfhbhghifeefeaaDoor
