/- impl's first: so many digits, what they come to, and what is left. -/
import Derived.Test.YtkflpogmhailhaaDoorL4I
import Derived.Deep.Onto
set_option linter.unusedVariables false
set_option linter.unusedSimpArgs false
namespace Go.Proofs.YtkflpogmhailhaaDoor
open Go.RowKit Go.Shelf
attribute [local go_sem] Oper.semAt_some

theorem fz_put {W : World} {l : Nat} {o' : Obj} {a : Addr} (ho : o'.isCells = false) (h : W.frozen? a = false) : (W.putObj l o').frozen? a = false := by
  by_cases e : a.block = l
  · unfold World.frozen?
    by_cases hl : l < W.heap.size
    · rw [e, World.putObj_heap_same hl]
      cases o' <;> first | rfl | (simp [Obj.isCells] at ho)
    · rw [e, show (W.putObj l o').heap[l]? = none from Array.getElem?_eq_none (by simp; omega)]
  · unfold World.frozen? at h ⊢
    rw [World.putObj_heap_other (by omega)]
    exact h

theorem Gr.putObj {W w : World} (h : Gr W w) {l : Nat} {o o' : Obj} (hl : W.heap.size ≤ l) (ho : w.heap[l]? = some o) (hc : o.isCells = false) (hc' : o'.isCells = false) : Gr W (w.putObj l o') := by
  refine ⟨⟨World.keptBut.congr h.grown.1 rfl rfl (fun i hi => World.putObj_heap_other (by omega)), fun a => ?_, Nat.le_trans h.grown.2.2 (by simp)⟩, ?_⟩
  · rw [← h.grown.2.1 a]
    by_cases e : a.block = l
    · unfold World.frozen?
      rw [e, World.putObj_heap_same (Array.getElem?_eq_some_iff.1 ho).1, ho]
      cases o <;> cases o' <;> first | rfl | (simp [Obj.isCells] at hc hc')
    · unfold World.frozen?
      rw [World.putObj_heap_other (by omega)]
  · exact h.below.grown (grownBy_putObj' w l o') h.size (fun k e => by cases e; exact hl)

theorem calm_fz (B : Nat) (p : Addr) : Calm B (fun W => W.frozen? p = false) :=
  ⟨fun W l o o' h _ _ _ ho => fz_put ho h,
   fun W o h ho => by
     by_cases e : p.block = W.heap.size
     · unfold World.frozen?
       rw [show (W.alloc o).heap[p.block]? = some o by rw [e]; exact (MapKept.heap_alloc W _).1]
       cases o <;> first | rfl | (simp [Obj.isCells] at ho)
     · exact (World.frozen?_alloc_old _ _ _ e).trans h,
   fun W c t h => (frozen?_alloc_cells _ _ _ _).trans h, fun W h => h⟩

theorem calm_gr (B : Nat) (w : World) (hB : w.heap.size ≤ B) : Calm B (fun W => Gr w W) :=
  ⟨fun W l o o' h hl ho hc hc' => h.putObj (Nat.le_trans hB hl) ho hc hc', fun W o h ho => h.allocO o ho, fun W c t h => h.alloc c t, fun W h => h.drew⟩

theorem set3 {W : World} {b1 b2 b3 : Nat} {x1 x2 x3 : Value} (h1 : W.cell? ⟨b1, 0, none⟩ = some x1) (h2 : W.cell? ⟨b2, 0, none⟩ = some x2) (h3 : W.cell? ⟨b3, 0, none⟩ = some x3) (n1 : b1 ≠ b2) (n2 : b1 ≠ b3) (n3 : b2 ≠ b3) (v1 v2 v3 : Value) :
    (((W.setCell ⟨b1, 0, none⟩ v1).setCell ⟨b2, 0, none⟩ v2).setCell ⟨b3, 0, none⟩ v3).cell? ⟨b3, 0, none⟩ = some v3 ∧ (((W.setCell ⟨b1, 0, none⟩ v1).setCell ⟨b2, 0, none⟩ v2).setCell ⟨b3, 0, none⟩ v3).cell? ⟨b1, 0, none⟩ = some v1 ∧ (((W.setCell ⟨b1, 0, none⟩ v1).setCell ⟨b2, 0, none⟩ v2).setCell ⟨b3, 0, none⟩ v3).cell? ⟨b2, 0, none⟩ = some v2 := by
  have i1 : (W.cell? ⟨b1, 0, none⟩).isSome = true := by rw [h1]; rfl
  have i2 : (W.cell? ⟨b2, 0, none⟩).isSome = true := by rw [h2]; rfl
  have i3 : (W.cell? ⟨b3, 0, none⟩).isSome = true := by rw [h3]; rfl
  exact ⟨cell_setSame (has_set (has_set i3)), cell_setNew (Ne.symm n2) (cell_setNew (Ne.symm n1) (cell_setSame i1)), cell_setNew (Ne.symm n3) (cell_setSame (has_set i2))⟩

set_option maxHeartbeats 1000000 in
set_option maxRecDepth 100000 in
theorem first_of (N : Nat) (hN : 1 ≤ N) (hN2 : N ≤ 100000) (lb : Array Value) (dd rr cc : Nat → Nat) (hd : ∀ i, dd i ≤ 1) (hr : ∀ i, rr i < 18446744073709551616) (hc : ∀ i, cc i < 18446744073709551616) (h0 : cc 0 = 0) (hs : ∀ i, cc (i + 1) = cc i * 2 % 18446744073709551616 ||| dd i) {w : World}
    (HH : ∀ n w', Gr w w' → Hands Fence.wide n Tryd.prog 120 lb w.heap.size N (fun i => #[.int .u64 ((dd i : Nat) : Int), .int .u64 ((rr i : Nat) : Int)]) w') :
    Calls Tryd.prog 78 #[.func (.func 120) #[] lb, .int .i64 (N : Int)] w fun e w' => e = .returned (.tuple #[.int .u64 ((cc N : Nat) : Int), .int .u64 ((rr (N - 1) : Nat) : Int)]) ∧ Gr w w' := by
  have HSS : Hid (∀ i, cc (i + 1) = cc i * 2 % 18446744073709551616 ||| dd i) := hs
  clear hs
  refine (callsIn_wide (n := 3)).1 ?_
  refine callsIn_of_wp_marks Tryd.func78 rfl trivial ?_ rfl
  simp only [Tryd.ntmps78, List.size_toArray, List.length_cons, List.length_nil, Nat.reduceAdd, Nat.reduceSub, Array.replicate_succ, Array.replicate_zero, List.push_toArray, List.append_toArray, List.nil_append, List.cons_append]
  gi_wp2
  obtain ⟨w3, hw3⟩ : ∃ w3, w3 = ((w.alloc (.cells #[.int .i64 (N : Int)] 3)).alloc (.cells #[.int .u64 0] 22)).alloc (.cells #[.int .u64 0] 22) := ⟨_, rfl⟩
  rw [← hw3]
  have hsz : w3.heap.size = w.heap.size + 1 + 1 + 1 := by rw [hw3]; simp
  have hg3 : Gr w w3 := by rw [hw3]; exact (((Gr.refl w).alloc _ _).alloc _ _).alloc _ _
  have n0 : w3.cell? ⟨w.heap.size, 0, none⟩ = some (.int .i64 (N : Int)) := by rw [hw3]; simp [go_sem]
  have n1 : w3.frozen? ⟨w.heap.size, 0, none⟩ = false := by rw [hw3]; simp [go_sem]
  have n2 : w3.cell? ⟨w.heap.size + 1, 0, none⟩ = some (.int .u64 0) := by rw [hw3]; simp [go_sem]
  have n3 : w3.frozen? ⟨w.heap.size + 1, 0, none⟩ = false := by rw [hw3]; simp [go_sem]
  have n4 : w3.cell? ⟨w.heap.size + 1 + 1, 0, none⟩ = some (.int .u64 0) := by rw [hw3]; simp [go_sem]
  have n5 : w3.frozen? ⟨w.heap.size + 1 + 1, 0, none⟩ = false := by rw [hw3]; simp [go_sem]
  clear hw3
  refine wpIn_range_upto (n₀ := w.heap.size) (N := N) (gf := 120) (lb := lb) rfl (by omega) rfl trivial (enters_of Tryd.func120 (by kernel_rfl) rfl) (HH _ w3 hg3) (by omega) (Below.refl _ _) (fun _ => rfl) 0
    (fun i W => (W.cell? ⟨w.heap.size, 0, none⟩ = some (.int .i64 ((N - i : Nat) : Int)) ∧ W.frozen? ⟨w.heap.size, 0, none⟩ = false) ∧ (W.cell? ⟨w.heap.size + 1, 0, none⟩ = some (.int .u64 (cc i : Int)) ∧ W.frozen? ⟨w.heap.size + 1, 0, none⟩ = false) ∧ (W.cell? ⟨w.heap.size + 1 + 1, 0, none⟩ = some (.int .u64 ((if i = 0 then 0 else rr (i - 1) : Nat) : Int)) ∧ W.frozen? ⟨w.heap.size + 1 + 1, 0, none⟩ = false) ∧ Gr w W)
    (fun W => W.cell? ⟨w.heap.size + 1, 0, none⟩ = some (.int .u64 (cc N : Int)) ∧ W.cell? ⟨w.heap.size + 1 + 1, 0, none⟩ = some (.int .u64 (rr (N - 1) : Int)) ∧ Gr w W)
    (fun i => ((calm_cell _ _ _).and (calm_fz _ _)).and (((calm_cell _ _ _).and (calm_fz _ _)).and (((calm_cell _ _ _).and (calm_fz _ _)).and (calm_gr _ _ (by omega)))))
    ((calm_cell _ _ _).and ((calm_cell _ _ _).and (calm_gr _ _ (by omega))))
    ⟨⟨n0, n1⟩, ⟨by rw [h0]; exact n2, n3⟩, ⟨n4, n5⟩, hg3⟩
    (fun i => { tmps := #[.func (.func 120) #[] lb, .int .i64 (N : Int), undef, .pointer (some ⟨w.heap.size, 0, none⟩), .int .u64 0, .int .u64 0, .pointer (some ⟨w.heap.size + 1, 0, none⟩), .pointer (some ⟨w.heap.size + 1 + 1, 0, none⟩), .int .u64 (dd i : Int), .int .u64 (rr i : Int), .func (.func 120) #[] lb, .int .u64 (dd i : Int), .int .u64 (rr i : Int), undef, undef, undef, undef, undef, undef, undef, undef, undef, undef, undef], defers := [] }) ?assign ?body ?stop
  case assign =>
    intro l i W K hK
    gi_wp2
    exact hK
  case body =>
    rintro l i W hi ⟨⟨m0, m1⟩, ⟨m2, m3⟩, ⟨m4, m5⟩, mg⟩
    have hsi := HSS.out i
    obtain ⟨o1, o2⟩ := or_nat (cc i * 2 % 18446744073709551616) (dd i) (Nat.mod_lt _ (by decide)) (by have := hd i; omega)
    rw [← hsi] at o1
    have hci := hc i
    have hri := hr i
    have hdi := hd i
    have hc1 := hc (i + 1)
    have HS : Hid _ := hsi
    clear hsi o2
    have hsize := mg.size
    have hq : IntKind.u64.wrap ((cc i : Int) * 2) = ((cc i * 2 % 18446744073709551616 : Nat) : Int) := by rw [IntKind.wrap_u64]; omega
    generalize cc i * 2 % 18446744073709551616 = q at *
    have kk : ∀ v1 v2 v3, KeepsOthers W (((W.setCell ⟨w.heap.size + 1, 0, none⟩ v1).setCell ⟨w.heap.size + 1 + 1, 0, none⟩ v2).setCell ⟨w.heap.size, 0, none⟩ v3) := fun v1 v2 v3 => ((KeepsOthers.setCell _ _ _).trans (KeepsOthers.setCell _ _ _)).trans (KeepsOthers.setCell _ _ _)
    have kb : ∀ v1 v2 v3, Below w.heap.size W (((W.setCell ⟨w.heap.size + 1, 0, none⟩ v1).setCell ⟨w.heap.size + 1 + 1, 0, none⟩ v2).setCell ⟨w.heap.size, 0, none⟩ v3) := fun v1 v2 v3 => (((Below.refl _ W).setCell (p := ⟨w.heap.size + 1, 0, none⟩) (Nat.le_succ _) _).setCell (p := ⟨w.heap.size + 1 + 1, 0, none⟩) (by show _ ≤ _ + 1 + 1; omega) _).setCell (p := ⟨w.heap.size, 0, none⟩) (Nat.le_refl _) _
    have kg : ∀ v1 v2 v3, Gr w (((W.setCell ⟨w.heap.size + 1, 0, none⟩ v1).setCell ⟨w.heap.size + 1 + 1, 0, none⟩ v2).setCell ⟨w.heap.size, 0, none⟩ v3) := fun v1 v2 v3 => ((mg.setCell (a := ⟨w.heap.size + 1, 0, none⟩) (Nat.le_succ _) _).setCell (a := ⟨w.heap.size + 1 + 1, 0, none⟩) (by show _ ≤ _ + 1 + 1; omega) _).setCell (a := ⟨w.heap.size, 0, none⟩) (Nat.le_refl _) _
    have kc : ∀ v1 v2 v3, (((W.setCell ⟨w.heap.size + 1, 0, none⟩ v1).setCell ⟨w.heap.size + 1 + 1, 0, none⟩ v2).setCell ⟨w.heap.size, 0, none⟩ v3).cell? ⟨w.heap.size, 0, none⟩ = some v3 ∧ (((W.setCell ⟨w.heap.size + 1, 0, none⟩ v1).setCell ⟨w.heap.size + 1 + 1, 0, none⟩ v2).setCell ⟨w.heap.size, 0, none⟩ v3).cell? ⟨w.heap.size + 1, 0, none⟩ = some v1 ∧ (((W.setCell ⟨w.heap.size + 1, 0, none⟩ v1).setCell ⟨w.heap.size + 1 + 1, 0, none⟩ v2).setCell ⟨w.heap.size, 0, none⟩ v3).cell? ⟨w.heap.size + 1 + 1, 0, none⟩ = some v2 := fun v1 v2 v3 => set3 m2 m4 m0 (by omega) (by omega) (by omega) v1 v2 v3
    have kf : ∀ v1 v2 v3 a, W.frozen? a = false → (((W.setCell ⟨w.heap.size + 1, 0, none⟩ v1).setCell ⟨w.heap.size + 1 + 1, 0, none⟩ v2).setCell ⟨w.heap.size, 0, none⟩ v3).frozen? a = false := fun v1 v2 v3 a h => fz_set (fz_set (fz_set h))
    by_cases hlast : i + 1 < N
    · have hnl : ¬ ((N - i : Nat) : Int) - 1 ≤ 0 := by omega
      have hn1 : ((N - i : Nat) : Int) - 1 = ((N - (i + 1) : Nat) : Int) := by omega
      have hn2 : ((N - i : Nat) : Int) ≤ 100000 := by omega
      have hn3 : 0 ≤ ((N - i : Nat) : Int) := by omega
      generalize ((N - i : Nat) : Int) = ni at *
      gi_wp2
      obtain ⟨k1, k2, k3⟩ := kc (.int .u64 ((cc (i + 1) : Nat) : Int)) (.int .u64 ((rr i : Nat) : Int)) (.int .i64 ((N - (i + 1) : Nat) : Int))
      refine ⟨hlast, kk _ _ _, kb _ _ _, ⟨k1, kf _ _ _ _ m1⟩, ⟨k2, kf _ _ _ _ m3⟩, ⟨?_, kf _ _ _ _ m5⟩, kg _ _ _⟩
      rw [if_neg (show ¬ i + 1 = 0 by omega), show i + 1 - 1 = i by omega]
      exact k3
    · have hnl : ((N - i : Nat) : Int) - 1 = 0 := by omega
      have hn2 : ((N - i : Nat) : Int) = 1 := by omega
      rw [hn2] at m0
      gi_wp2
      have hiN : i + 1 = N := by omega
      obtain ⟨k1, k2, k3⟩ := kc (.int .u64 ((cc (i + 1) : Nat) : Int)) (.int .u64 ((rr i : Nat) : Int)) (.int .i64 0)
      refine ⟨hiN, rfl, kk _ _ _, ?_, ?_, kg _ _ _⟩
      · rw [← hiN]; exact k2
      · rw [show N - 1 = i by omega]; exact k3
  case stop =>
    rintro D W hD ⟨m2, m4, mg⟩ hK
    gi_wp2
    gi_region
    all_goals gi_wp2
    all_goals
      refine ⟨by simp, .inl ⟨_, _, rfl, run_takeDeferred (w := W.drew) hK, ?_⟩⟩
      exact ⟨.tuple #[.int .u64 ((cc N : Nat) : Int), .int .u64 ((rr (N - 1) : Nat) : Int)], by simp [results, Tryd.results78, go_sem], rfl, Gr.putObj mg.drew (by have := hg3.size; omega) hK rfl rfl⟩
end Go.Proofs.YtkflpogmhailhaaDoor
