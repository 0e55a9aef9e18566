/- impl's quotientDigits, rootDigits, first and cut. -/
import Derived.Test.YtkflpogmhailhaaDoorL4F
import Derived.Test.YtkflpogmhailhaaDoorA7
set_option linter.unusedVariables false
set_option linter.unusedSimpArgs false
namespace Go.Proofs.YtkflpogmhailhaaDoor
open Go.RowKit

/-- A value of type digits: those of N at the price c, in every later world. -/
def Digs (c : Nat → Nat → Nat) (N : Nat) (W : World) (v : Value) : Prop :=
  ∃ b1 b2 : Nat, v = .func (.func 120) #[] #[.pointer (some ⟨b1, 0, none⟩), .pointer (some ⟨b2, 0, none⟩)] ∧ ∀ (n K : Nat) (w' w'' : World), 1 ≤ K → Gr W w' → Gr w' w'' →
    Hands Fence.wide n Tryd.prog 120 #[.pointer (some ⟨b1, 0, none⟩), .pointer (some ⟨b2, 0, none⟩)] w'.heap.size K (fun i => #[.int .u64 ((dD c N i : Nat) : Int), .int .u64 ((dR c N i : Nat) : Int)]) w''

theorem Digs.gr {c : Nat → Nat → Nat} {N : Nat} {W W' : World} {v : Value} (h : Digs c N W v) (k : Gr W W') : Digs c N W' v := by
  obtain ⟨b1, b2, rfl, h⟩ := h
  exact ⟨b1, b2, rfl, fun n K w' w'' hK h1 h2 => h n K w' w'' hK (k.trans h1) h2⟩

theorem dR_lt (c : Nat → Nat → Nat) (N k : Nat) (hN : N < 18446744073709551616) : dR c N k < 18446744073709551616 := by
  have := (dS_lt c N k hN).2
  unfold dR; split <;> omega
theorem dC_lt (c : Nat → Nat → Nat) (N k : Nat) : dC c N k < 18446744073709551616 := by
  cases k with
  | zero => rw [dC]; decide
  | succ k => rw [dC, or_bit _ _ (dD_lt _ _ _)]; exact Nat.mod_lt _ (by decide)

theorem first_any {c : Nat → Nat → Nat} {N : Nat} (hN : N < 18446744073709551616) {w : World} {v : Value} (h : Digs c N w v) (k : Nat) (hk : 1 ≤ k) (hk2 : k ≤ 100000) :
    Calls Tryd.prog 78 #[v, .int .i64 (k : Int)] w fun e w' => e = .returned (.tuple #[.int .u64 ((dC c N k : Nat) : Int), .int .u64 ((dR c N (k - 1) : Nat) : Int)]) ∧ Gr w w' := by
  obtain ⟨b1, b2, rfl, h⟩ := h
  exact first_of k hk hk2 _ (dD c N) (dR c N) (dC c N) (dD_lt c N) (fun i => dR_lt c N i hN) (dC_lt c N) rfl (fun i => by rw [dC]) (fun n w' hg => h n k w w' hk (Gr.refl w) hg)

set_option maxRecDepth 100000 in
theorem digitsOf_any (N : Nat) (fv : Value) (hf : ∃ F lb, fv = .func (.func F) #[] lb) (w : World) :
    Calls Tryd.prog 97 #[.int .u64 (N : Int), fv] w fun e w' => ∃ b1 b2, e = .returned (.func (.func 120) #[] #[.pointer (some ⟨b1, 0, none⟩), .pointer (some ⟨b2, 0, none⟩)]) ∧ w'.cell? ⟨b1, 0, none⟩ = some (.int .u64 (N : Int)) ∧ w'.cell? ⟨b2, 0, none⟩ = some fv ∧ Gr w w' := by
  obtain ⟨F, lb, rfl⟩ := hf
  go_enter Tryd.func97, Tryd.ntmps97
  go_wp2
  go_returns
  exact ⟨_, _, rfl, kl, kl, kr⟩

set_option maxRecDepth 100000 in
theorem quoDigits_any (N D : Nat) (hN : N < 18446744073709551616) (hD : D < 18446744073709551616) (w : World) :
    Calls Tryd.prog 77 #[.int .u64 (N : Int), .int .u64 (D : Int)] w fun e w' => ∃ v, e = .returned v ∧ Digs (fun _ _ => D) N w' v ∧ Gr w w' := by
  go_enter Tryd.func77, Tryd.ntmps77
  go_wp2_with (go_at_call 97; refine (digitsOf_any N _ ⟨_, _, rfl⟩ _).mono ?_; rintro e w1 ⟨b1, b2, rfl, c1, c2, hg_w1⟩; have c3 : w1.cell? ⟨w.heap.size, 0, none⟩ = some (.int .u64 (D : Int)) := kl)
  go_returns
  refine ⟨_, rfl, ⟨b1, b2, rfl, fun n K w' w'' hK h1 h2 => ?_⟩, kr⟩
  have d1 := h1.old c1
  have d2 := h1.old c2
  have d3 := h1.old c3
  exact quo_hands n K N D w'.heap.size b1 b2 w.heap.size hN hD hK (cell_size d1) (cell_size d2) (cell_size d3) (h2.old d1) (h2.old d2) (h2.old d3)

set_option maxRecDepth 100000 in
theorem rootDigits_any (N : Nat) (hN : N < 18446744073709551616) (w : World) :
    Calls Tryd.prog 83 #[.int .u64 (N : Int)] w fun e w' => ∃ v, e = .returned v ∧ Digs rootC N w' v ∧ Gr w w' := by
  go_enter Tryd.func83, Tryd.ntmps83
  go_wp2_with (go_at_call 97; refine (digitsOf_any N _ ⟨_, _, rfl⟩ _).mono ?_; rintro e w1 ⟨b1, b2, rfl, c1, c2, hg_w1⟩)
  go_returns
  refine ⟨_, rfl, ⟨b1, b2, rfl, fun n K w' w'' hK h1 h2 => ?_⟩, kr⟩
  have d1 := h1.old c1
  have d2 := h1.old c2
  exact root_hands n K N w'.heap.size b1 b2 hN hK (cell_size d1) (cell_size d2) (h2.old d1) (h2.old d2)

set_option maxRecDepth 100000 in
set_option maxHeartbeats 1000000 in
theorem cut_any (p mn mx md : Int) (k : Nat) (s e : Int) (hp0 : 0 ≤ p) (hp1 : p ≤ 60) (e0 : -50000 ≤ e) (e1 : e ≤ 50000) {c : Nat → Nat → Nat} {N : Nat} (hN : N < 18446744073709551616) {w : World} {v : Value} (h : Digs c N w v) (P : Nat) (hP : (P : Int) = p + 3) :
    Calls Tryd.prog 81 #[.agg #[.int .i64 p, .int .i64 mn, .int .i64 mx, .int .i64 md, .func (.func k) #[] #[]], .agg #[.int .i64 s, .int .i64 e], v] w fun x w' => x = .returned (.agg #[.int .i64 s, .int .i64 (e - (p + 2)), .int .i64 1, .int .u64 0, .int .u64 (((dC c N P : Nat) : Int)), .bool (decide (dR c N (P - 1) ≠ 0)), .int .i64 0]) ∧ Gr w w' := by
  have HF : Hid (∀ w', Gr w w' → Calls Tryd.prog 78 #[v, .int .i64 (P : Int)] w' fun e w'' => e = .returned (.tuple #[.int .u64 ((dC c N P : Nat) : Int), .int .u64 ((dR c N (P - 1) : Nat) : Int)]) ∧ Gr w' w'') := fun w' hg => first_any hN (h.gr hg) P (by omega) (by omega)
  have hd := dC_lt c N P
  have hr := dR_lt c N (P - 1) hN
  obtain ⟨b1, b2, rfl, _⟩ := h
  generalize dC c N P = C at *
  generalize dR c N (P - 1) = R at *
  have g1 : p + 3 = (P : Int) := hP.symm
  have g2 : (P : Int) - 1 = p + 2 := by omega
  have g3 : (P : Int) ≤ 63 := by omega
  obtain ⟨y, hy⟩ : ∃ y : Int, e - (p + 2) = y := ⟨_, rfl⟩
  rw [hy]
  clear hP
  have hb : ((R : Int) != 0) = decide (R ≠ 0) := by by_cases q : R = 0 <;> simp [q]
  generalize decide (R ≠ 0) = st at *
  go_enter Tryd.func81, Tryd.ntmps81
  go_wp2_with (go_at_call 78; refine (HF.out _ kr).mono ?_; rintro x w1 ⟨rfl, hg_w1⟩; have at0 : w1.cell? ⟨w.heap.size + 1, 0, none⟩ = some (.int .i64 s) := hg_w1.c; have atz0 : w1.frozen? ⟨w.heap.size + 1, 0, none⟩ = false := hg_w1.z; have at1 : w1.cell? ⟨w.heap.size + 1, 1, none⟩ = some (.int .i64 e) := hg_w1.c; have atz1 : w1.frozen? ⟨w.heap.size + 1, 1, none⟩ = false := hg_w1.z; have ar0 : w1.cell? ⟨w.heap.size + 1 + 1, 0, none⟩ = some (.int .i64 0) := hg_w1.c; have arz0 : w1.frozen? ⟨w.heap.size + 1 + 1, 0, none⟩ = false := hg_w1.z; have ar1 : w1.cell? ⟨w.heap.size + 1 + 1, 1, none⟩ = some (.int .i64 0) := hg_w1.c; have arz1 : w1.frozen? ⟨w.heap.size + 1 + 1, 1, none⟩ = false := hg_w1.z; have ar2 : w1.cell? ⟨w.heap.size + 1 + 1, 2, none⟩ = some (.int .i64 0) := hg_w1.c; have arz2 : w1.frozen? ⟨w.heap.size + 1 + 1, 2, none⟩ = false := hg_w1.z; have ar3 : w1.cell? ⟨w.heap.size + 1 + 1, 3, none⟩ = some (.int .u64 0) := hg_w1.c; have arz3 : w1.frozen? ⟨w.heap.size + 1 + 1, 3, none⟩ = false := hg_w1.z; have ar4 : w1.cell? ⟨w.heap.size + 1 + 1, 4, none⟩ = some (.int .u64 0) := hg_w1.c; have arz4 : w1.frozen? ⟨w.heap.size + 1 + 1, 4, none⟩ = false := hg_w1.z; have ar5 : w1.cell? ⟨w.heap.size + 1 + 1, 5, none⟩ = some (.bool false) := hg_w1.c; have arz5 : w1.frozen? ⟨w.heap.size + 1 + 1, 5, none⟩ = false := hg_w1.z; have ar6 : w1.cell? ⟨w.heap.size + 1 + 1, 6, none⟩ = some (.int .i64 0) := hg_w1.c; have arz6 : w1.frozen? ⟨w.heap.size + 1 + 1, 6, none⟩ = false := hg_w1.z)
  refine bodyPost_ret (v := .agg #[.int .i64 s, .int .i64 y, .int .i64 1, .int .u64 0, .int .u64 ((C : Int)), .bool st, .int .i64 0]) (by simp [results, Tryd.results81, go_sem, ar0, ar1, ar2, ar3, ar4, ar5, ar6, hb]) rfl ⟨rfl, ?_⟩
  exact kr
end Go.Proofs.YtkflpogmhailhaaDoor
