/- spec.l2Cut. -/
import Derived.Test.YtkflpogmhailhaaGreatDoorA1
import Derived.Test.YtkflpogmhailhaaGreatDoorA7
import Derived.Test.YtkflpogmhailhaaGreatDoorBigB
import Derived.Deep.RegionHeld3
import Derived.Test.YtkflpogmhailhaaGreatDoorL2A
set_option linter.unusedVariables false
set_option linter.unusedSimpArgs false
namespace Go.Proofs.YtkflpogmhailhaaGreatDoor
open Go.RowKit

set_option maxRecDepth 1000000 in
set_option maxHeartbeats 2000000 in
theorem l2Cut_up {v : Value} {n M : Nat} {w : World} (h : Big w v n M) (hn : n ≤ 100000) (s e q : Int) (rest : Bool) (e0 : -1000000 ≤ e) (e1 : e ≤ 1000000) (q0 : -1000000 ≤ q) (hq : q ≤ e) :
    Calls Tryz.prog 100 #[.agg #[.int .i64 s, v, .int .i64 e, .bool rest], .int .i64 q] w fun x w' => ∃ v' k, x = .returned (.tuple #[v', .int .i64 (cutHalf M e q rest)]) ∧ Big w' v' k (cutLo M e q) ∧ k ≤ n + 70000 ∧ Gb w w' := by
  obtain ⟨d, hd⟩ : ∃ d : Nat, e - q = (d : Int) := ⟨(e - q).toNat, by omega⟩
  have eLo : cutLo M e q = M * 2 ^ d := by unfold cutLo; rw [if_pos hq, hd]; rfl
  have eHa : cutHalf M e q rest = (if rest then 1 else 0) := by unfold cutHalf; rw [if_pos hq]
  rw [eLo, eHa]
  have HS : Hid (∀ w', Gb w w' → Calls Tryz.prog 44 #[v, .int .i64 d] w' fun x w'' => ∃ v' k, x = .returned v' ∧ Big w'' v' k (M * 2 ^ d) ∧ k ≤ n + d / 32 + 1 ∧ Gb w' w'') := fun w' hg => l2Shl_any (h.gb hg) (by omega) d (by omega)
  clear eLo eHa h
  cases rest
  all_goals
    go_enter Tryz.func100, Tryz.ntmps100
    go_wp2_with (go_at_call 44; refine (HS.out _ kg).mono ?_; rintro x w1 ⟨v', k, rfl, hbig, hk, hgb⟩)
    go_returns
    first | exact ⟨_, rfl, _, hbig, by omega, kg⟩ | exact ⟨_, _, rfl, hbig, by omega, kg⟩

theorem Big.shape {w : World} {v : Value} {n N : Nat} (h : Big w v n N) : ∃ b cap, v = .slice (some ⟨b, 0, none⟩) n cap ∧ n ≤ cap := by
  obtain ⟨_, _, b, cap, h2, h3, _⟩ := h
  exact ⟨b, cap, h2, h3⟩
theorem Big.none {w : World} {v : Value} {n N : Nat} (h : Big w v n N) (hN : N = 0) : n = 0 := h.1.iff.mpr hN
theorem Big.some {w : World} {v : Value} {n N : Nat} (h : Big w v n N) (hN : N ≠ 0) : ((n : Int) == 0) = false := by
  have : n ≠ 0 := fun e => hN (h.1.iff.mp e)
  simp; omega

set_option maxRecDepth 1000000 in
set_option maxHeartbeats 4000000 in
theorem l2Cut_a {v : Value} {n M : Nat} {w : World} (h : Big w v n M) (hn : n ≤ 100000) (s e q : Int) (e0 : -1000000 ≤ e) (e1 : e ≤ 1000000) (q1 : q ≤ 1000000) (d : Nat) (hd : q - e = (d : Int)) (d1 : 1 ≤ d) (R P L : Nat) (hR : M % 2 ^ d = R) (hP : 2 ^ (d - 1) = P) (hL : M / 2 ^ d = L) (hR0 : R = 0) :
    Calls Tryz.prog 100 #[.agg #[.int .i64 s, v, .int .i64 e, .bool false], .int .i64 q] w fun x w' => ∃ v' k, x = .returned (.tuple #[v', .int .i64 0]) ∧ Big w' v' k L ∧ k ≤ n ∧ Gb w w' := by
  have HShr : Hid (∀ w', Gb w w' → Calls Tryz.prog 124 #[v, .int .i64 d] w' fun x w'' => ∃ v' k, x = .returned v' ∧ Big w'' v' k L ∧ k ≤ n ∧ Gb w' w'') := fun w' hg => hL ▸ l2Shr_any (h.gb hg) (by omega) d (by omega)
  have HShl : Hid (∀ v' k w', Big w' v' k L → k ≤ n → Calls Tryz.prog 44 #[v', .int .i64 d] w' fun x w'' => ∃ v' k, x = .returned v' ∧ Big w'' v' k (L * 2 ^ d) ∧ k ≤ n + 70000 ∧ Gb w' w'') := fun v' k w' hb hk => (l2Shl_any hb (by omega) d (by omega)).mono (fun x w'' ⟨v'', k'', h1, h2, h3, h4⟩ => ⟨v'', k'', h1, h2, by omega, h4⟩)
  have hRR : M - L * 2 ^ d = R ∧ L * 2 ^ d ≤ M := by
    have := Nat.div_add_mod M (2 ^ d)
    rw [hL, hR, Nat.mul_comm] at this
    omega
  have HSub : Hid (∀ v2 k2 w', Gb w w' → Big w' v2 k2 (L * 2 ^ d) → k2 ≤ n + 70000 → Calls Tryz.prog 49 #[v, v2] w' fun x w'' => ∃ v' k, x = .returned v' ∧ Big w'' v' k R ∧ k ≤ n ∧ Gb w' w'') := fun v2 k2 w' hg hb hk => hRR.1 ▸ l2Sub_any (h.gb hg) (by omega) hb (by omega) hRR.2
  have HOne : Hid (∀ w', Calls Tryz.prog 45 #[.int .u64 1] w' fun x w'' => ∃ v' k, x = .returned v' ∧ Big w'' v' k 1 ∧ k ≤ 2 ∧ Gb w' w'') := fun w' => l2Big_any 1 (by omega) w'
  have hd1 : ((d : Int) - 1) = ((d - 1 : Nat) : Int) := by omega
  have HSh1 : Hid (∀ v' k w', Big w' v' k 1 → k ≤ 2 → Calls Tryz.prog 44 #[v', .int .i64 ((d : Int) - 1)] w' fun x w'' => ∃ v' k, x = .returned v' ∧ Big w'' v' k P ∧ k ≤ 70000 ∧ Gb w' w'') := fun v' k w' hb hk => by
    rw [hd1]
    refine (l2Shl_any hb (by omega) (d - 1) (by omega)).mono (fun x w'' ⟨v'', k'', h1, h2, h3, h4⟩ => ⟨v'', k'', h1, ?_, by omega, h4⟩)
    rw [Nat.one_mul, hP] at h2; exact h2
  have HCmp : Hid (∀ v1 k1 v2 k2 w', Big w' v1 k1 R → k1 ≤ n → Big w' v2 k2 P → k2 ≤ 70000 → Calls Tryz.prog 47 #[v1, v2] w' fun x w'' => x = .returned (.int .i64 (cmpZ R P)) ∧ Gb w' w'') := fun v1 k1 v2 k2 w' h1 hk1 h2 hk2 => l2Cmp_any h1 (by omega) h2 (by omega)
  have hqe : ¬ q ≤ e := by omega
  clear hR hP hL hRR h hd1
  subst hR0
  go_enter Tryz.func100, Tryz.ntmps100
  go_wp2_with (go_at_call 124; refine (HShr.out _ kg).mono ?_; rintro x w1 ⟨vL, kL, rfl, hbL, hkL, hg1⟩; have a1 : w1.cell? ⟨w.heap.size, 1, none⟩ = some (v) := ks; have a2 : w1.cell? ⟨w.heap.size, 2, none⟩ = some (.int .i64 e) := ks; have a3 : w1.cell? ⟨w.heap.size, 3, none⟩ = some (.bool false) := ks)
  go_region_held3 (fun w' => w'.cell? ⟨w.heap.size, 1, none⟩ = some (v) ∧ w'.cell? ⟨w.heap.size, 2, none⟩ = some (.int .i64 e) ∧ w'.cell? ⟨w.heap.size, 3, none⟩ = some (.bool false))
    ((go_split_ands; (repeat' apply And.intro) <;> (repeat' (first | (with_reducible assumption) | (with_reducible refine has_of (by with_reducible assumption)) | (with_reducible refine Gr.old (by with_reducible assumption) ?_) | (with_reducible refine Gb.old (by with_reducible assumption) ?_) | (with_reducible refine cell_swap _ ?_ (by with_reducible assumption); omega) | (with_reducible refine cell_setSame ?_) | (with_reducible refine has_old (by with_reducible assumption) ?_) | (with_reducible refine has_set ?_) | (with_reducible refine cell_setOff ?_ ?_; omega) | (with_reducible refine cell_setNew ?_ ?_; (dsimp only; omega)) | (simp [go_sem]; done) | (simp [go_sem]; rfl) | (with_reducible refine cell_alloc _ ?_) | (with_reducible refine cell_drew ?_) | (with_reducible refine has_alloc _ ?_) | (with_reducible refine fz_old (by with_reducible assumption) ?_) | (with_reducible refine Gb.fzc (by with_reducible assumption) (by first | (with_reducible assumption) | (with_reducible exact cell_drew (by with_reducible assumption))) ?_) | (with_reducible refine Gb.fz (by with_reducible assumption) ?_ ?_) | go_size | (with_reducible refine fz_alloc ?_) | (with_reducible refine fz_set ?_) | (with_reducible refine fz_drew ?_)))))
    (first
      | (go_at_call 44; refine (HShl.out vL kL _ (Big.gb hbL kg) hkL).mono ?_; rintro x w2 ⟨vT, kT, rfl, hbT, hkT, hg2⟩)
      | (go_at_call 49; refine (HSub.out vT kT _ kg (Big.gb hbT kg) hkT).mono ?_; rintro x w3 ⟨vR, kR, rfl, hbR, hkR, hg3⟩; obtain ⟨bR, capR, rfl, hcR⟩ := Big.shape hbR; obtain rfl := Big.none hbR rfl; have b1 : w3.cell? ⟨w.heap.size, 1, none⟩ = some (v) := ks; have b2 : w3.cell? ⟨w.heap.size, 2, none⟩ = some (.int .i64 e) := ks; have b3 : w3.cell? ⟨w.heap.size, 3, none⟩ = some (.bool false) := ks))
  all_goals
    (try go_split_ands)
    go_wp2_with (first
      | (go_at_call 45; refine (HOne.out _).mono ?_; rintro x w4 ⟨v1, k1, rfl, hb1, hk1, hg4⟩; have c1 : w4.cell? ⟨w.heap.size, 1, none⟩ = some (v) := ks; have c2 : w4.cell? ⟨w.heap.size, 2, none⟩ = some (.int .i64 e) := ks; have c3 : w4.cell? ⟨w.heap.size, 3, none⟩ = some (.bool false) := ks)
      | (go_at_call 44; refine (HSh1.out v1 k1 _ hb1 hk1).mono ?_; rintro x w5 ⟨vP, kP, rfl, hbP, hkP, hg5⟩; have d1 : w5.cell? ⟨w.heap.size, 1, none⟩ = some (v) := ks; have d2 : w5.cell? ⟨w.heap.size, 2, none⟩ = some (.int .i64 e) := ks; have d3 : w5.cell? ⟨w.heap.size, 3, none⟩ = some (.bool false) := ks)
      | (go_at_call 47; refine (HCmp.out _ _ vP kP _ (Big.gb hbR kg) hkR hbP hkP).mono ?_; rintro x w6 ⟨rfl, hg6⟩; have f1 : w6.cell? ⟨w.heap.size, 1, none⟩ = some (v) := ks; have f2 : w6.cell? ⟨w.heap.size, 2, none⟩ = some (.int .i64 e) := ks; have f3 : w6.cell? ⟨w.heap.size, 3, none⟩ = some (.bool false) := ks))
    go_returns
    first | exact ⟨_, rfl, _, Big.gb hbL kg, hkL, kg⟩ | exact ⟨_, _, rfl, Big.gb hbL kg, hkL, kg⟩

set_option maxRecDepth 1000000 in
set_option maxHeartbeats 4000000 in
theorem l2Cut_b {v : Value} {n M : Nat} {w : World} (h : Big w v n M) (hn : n ≤ 100000) (s e q : Int) (e0 : -1000000 ≤ e) (e1 : e ≤ 1000000) (q1 : q ≤ 1000000) (d : Nat) (hd : q - e = (d : Int)) (d1 : 1 ≤ d) (R P L : Nat) (hR : M % 2 ^ d = R) (hP : 2 ^ (d - 1) = P) (hL : M / 2 ^ d = L) (hR0 : R = 0) (hc : cmpZ R P = -1) :
    Calls Tryz.prog 100 #[.agg #[.int .i64 s, v, .int .i64 e, .bool true], .int .i64 q] w fun x w' => ∃ v' k, x = .returned (.tuple #[v', .int .i64 1]) ∧ Big w' v' k L ∧ k ≤ n ∧ Gb w w' := by
  have HShr : Hid (∀ w', Gb w w' → Calls Tryz.prog 124 #[v, .int .i64 d] w' fun x w'' => ∃ v' k, x = .returned v' ∧ Big w'' v' k L ∧ k ≤ n ∧ Gb w' w'') := fun w' hg => hL ▸ l2Shr_any (h.gb hg) (by omega) d (by omega)
  have HShl : Hid (∀ v' k w', Big w' v' k L → k ≤ n → Calls Tryz.prog 44 #[v', .int .i64 d] w' fun x w'' => ∃ v' k, x = .returned v' ∧ Big w'' v' k (L * 2 ^ d) ∧ k ≤ n + 70000 ∧ Gb w' w'') := fun v' k w' hb hk => (l2Shl_any hb (by omega) d (by omega)).mono (fun x w'' ⟨v'', k'', h1, h2, h3, h4⟩ => ⟨v'', k'', h1, h2, by omega, h4⟩)
  have hRR : M - L * 2 ^ d = R ∧ L * 2 ^ d ≤ M := by
    have := Nat.div_add_mod M (2 ^ d)
    rw [hL, hR, Nat.mul_comm] at this
    omega
  have HSub : Hid (∀ v2 k2 w', Gb w w' → Big w' v2 k2 (L * 2 ^ d) → k2 ≤ n + 70000 → Calls Tryz.prog 49 #[v, v2] w' fun x w'' => ∃ v' k, x = .returned v' ∧ Big w'' v' k R ∧ k ≤ n ∧ Gb w' w'') := fun v2 k2 w' hg hb hk => hRR.1 ▸ l2Sub_any (h.gb hg) (by omega) hb (by omega) hRR.2
  have HOne : Hid (∀ w', Calls Tryz.prog 45 #[.int .u64 1] w' fun x w'' => ∃ v' k, x = .returned v' ∧ Big w'' v' k 1 ∧ k ≤ 2 ∧ Gb w' w'') := fun w' => l2Big_any 1 (by omega) w'
  have hd1 : ((d : Int) - 1) = ((d - 1 : Nat) : Int) := by omega
  have HSh1 : Hid (∀ v' k w', Big w' v' k 1 → k ≤ 2 → Calls Tryz.prog 44 #[v', .int .i64 ((d : Int) - 1)] w' fun x w'' => ∃ v' k, x = .returned v' ∧ Big w'' v' k P ∧ k ≤ 70000 ∧ Gb w' w'') := fun v' k w' hb hk => by
    rw [hd1]
    refine (l2Shl_any hb (by omega) (d - 1) (by omega)).mono (fun x w'' ⟨v'', k'', h1, h2, h3, h4⟩ => ⟨v'', k'', h1, ?_, by omega, h4⟩)
    rw [Nat.one_mul, hP] at h2; exact h2
  have HCmp : Hid (∀ v1 k1 v2 k2 w', Big w' v1 k1 R → k1 ≤ n → Big w' v2 k2 P → k2 ≤ 70000 → Calls Tryz.prog 47 #[v1, v2] w' fun x w'' => x = .returned (.int .i64 (cmpZ R P)) ∧ Gb w' w'') := fun v1 k1 v2 k2 w' h1 hk1 h2 hk2 => l2Cmp_any h1 (by omega) h2 (by omega)
  have hqe : ¬ q ≤ e := by omega
  clear hR hP hL hRR h hd1
  subst hR0
  go_enter Tryz.func100, Tryz.ntmps100
  go_wp2_with (go_at_call 124; refine (HShr.out _ kg).mono ?_; rintro x w1 ⟨vL, kL, rfl, hbL, hkL, hg1⟩; have a1 : w1.cell? ⟨w.heap.size, 1, none⟩ = some (v) := ks; have a2 : w1.cell? ⟨w.heap.size, 2, none⟩ = some (.int .i64 e) := ks; have a3 : w1.cell? ⟨w.heap.size, 3, none⟩ = some (.bool true) := ks)
  go_region_held3 (fun w' => w'.cell? ⟨w.heap.size, 1, none⟩ = some (v) ∧ w'.cell? ⟨w.heap.size, 2, none⟩ = some (.int .i64 e) ∧ w'.cell? ⟨w.heap.size, 3, none⟩ = some (.bool true))
    ((go_split_ands; (repeat' apply And.intro) <;> (repeat' (first | (with_reducible assumption) | (with_reducible refine has_of (by with_reducible assumption)) | (with_reducible refine Gr.old (by with_reducible assumption) ?_) | (with_reducible refine Gb.old (by with_reducible assumption) ?_) | (with_reducible refine cell_swap _ ?_ (by with_reducible assumption); omega) | (with_reducible refine cell_setSame ?_) | (with_reducible refine has_old (by with_reducible assumption) ?_) | (with_reducible refine has_set ?_) | (with_reducible refine cell_setOff ?_ ?_; omega) | (with_reducible refine cell_setNew ?_ ?_; (dsimp only; omega)) | (simp [go_sem]; done) | (simp [go_sem]; rfl) | (with_reducible refine cell_alloc _ ?_) | (with_reducible refine cell_drew ?_) | (with_reducible refine has_alloc _ ?_) | (with_reducible refine fz_old (by with_reducible assumption) ?_) | (with_reducible refine Gb.fzc (by with_reducible assumption) (by first | (with_reducible assumption) | (with_reducible exact cell_drew (by with_reducible assumption))) ?_) | (with_reducible refine Gb.fz (by with_reducible assumption) ?_ ?_) | go_size | (with_reducible refine fz_alloc ?_) | (with_reducible refine fz_set ?_) | (with_reducible refine fz_drew ?_)))))
    (first
      | (go_at_call 44; refine (HShl.out vL kL _ (Big.gb hbL kg) hkL).mono ?_; rintro x w2 ⟨vT, kT, rfl, hbT, hkT, hg2⟩)
      | (go_at_call 49; refine (HSub.out vT kT _ kg (Big.gb hbT kg) hkT).mono ?_; rintro x w3 ⟨vR, kR, rfl, hbR, hkR, hg3⟩; obtain ⟨bR, capR, rfl, hcR⟩ := Big.shape hbR; obtain rfl := Big.none hbR rfl; have b1 : w3.cell? ⟨w.heap.size, 1, none⟩ = some (v) := ks; have b2 : w3.cell? ⟨w.heap.size, 2, none⟩ = some (.int .i64 e) := ks; have b3 : w3.cell? ⟨w.heap.size, 3, none⟩ = some (.bool true) := ks))
  all_goals
    (try go_split_ands)
    go_wp2_with (first
      | (go_at_call 45; refine (HOne.out _).mono ?_; rintro x w4 ⟨v1, k1, rfl, hb1, hk1, hg4⟩; have c1 : w4.cell? ⟨w.heap.size, 1, none⟩ = some (v) := ks; have c2 : w4.cell? ⟨w.heap.size, 2, none⟩ = some (.int .i64 e) := ks; have c3 : w4.cell? ⟨w.heap.size, 3, none⟩ = some (.bool true) := ks)
      | (go_at_call 44; refine (HSh1.out v1 k1 _ hb1 hk1).mono ?_; rintro x w5 ⟨vP, kP, rfl, hbP, hkP, hg5⟩; have d1 : w5.cell? ⟨w.heap.size, 1, none⟩ = some (v) := ks; have d2 : w5.cell? ⟨w.heap.size, 2, none⟩ = some (.int .i64 e) := ks; have d3 : w5.cell? ⟨w.heap.size, 3, none⟩ = some (.bool true) := ks)
      | (go_at_call 47; refine (HCmp.out _ _ vP kP _ (Big.gb hbR kg) hkR hbP hkP).mono ?_; rintro x w6 ⟨rfl, hg6⟩; have f1 : w6.cell? ⟨w.heap.size, 1, none⟩ = some (v) := ks; have f2 : w6.cell? ⟨w.heap.size, 2, none⟩ = some (.int .i64 e) := ks; have f3 : w6.cell? ⟨w.heap.size, 3, none⟩ = some (.bool true) := ks))
    go_returns
    first | exact ⟨_, rfl, _, Big.gb hbL kg, hkL, kg⟩ | exact ⟨_, _, rfl, Big.gb hbL kg, hkL, kg⟩

set_option maxRecDepth 1000000 in
set_option maxHeartbeats 4000000 in
theorem l2Cut_c {v : Value} {n M : Nat} {w : World} (h : Big w v n M) (hn : n ≤ 100000) (s e q : Int) (rest : Bool) (e0 : -1000000 ≤ e) (e1 : e ≤ 1000000) (q1 : q ≤ 1000000) (d : Nat) (hd : q - e = (d : Int)) (d1 : 1 ≤ d) (R P L : Nat) (hR : M % 2 ^ d = R) (hP : 2 ^ (d - 1) = P) (hL : M / 2 ^ d = L) (hRn : R ≠ 0) (hc : cmpZ R P = -1) :
    Calls Tryz.prog 100 #[.agg #[.int .i64 s, v, .int .i64 e, .bool rest], .int .i64 q] w fun x w' => ∃ v' k, x = .returned (.tuple #[v', .int .i64 1]) ∧ Big w' v' k L ∧ k ≤ n ∧ Gb w w' := by
  have HShr : Hid (∀ w', Gb w w' → Calls Tryz.prog 124 #[v, .int .i64 d] w' fun x w'' => ∃ v' k, x = .returned v' ∧ Big w'' v' k L ∧ k ≤ n ∧ Gb w' w'') := fun w' hg => hL ▸ l2Shr_any (h.gb hg) (by omega) d (by omega)
  have HShl : Hid (∀ v' k w', Big w' v' k L → k ≤ n → Calls Tryz.prog 44 #[v', .int .i64 d] w' fun x w'' => ∃ v' k, x = .returned v' ∧ Big w'' v' k (L * 2 ^ d) ∧ k ≤ n + 70000 ∧ Gb w' w'') := fun v' k w' hb hk => (l2Shl_any hb (by omega) d (by omega)).mono (fun x w'' ⟨v'', k'', h1, h2, h3, h4⟩ => ⟨v'', k'', h1, h2, by omega, h4⟩)
  have hRR : M - L * 2 ^ d = R ∧ L * 2 ^ d ≤ M := by
    have := Nat.div_add_mod M (2 ^ d)
    rw [hL, hR, Nat.mul_comm] at this
    omega
  have HSub : Hid (∀ v2 k2 w', Gb w w' → Big w' v2 k2 (L * 2 ^ d) → k2 ≤ n + 70000 → Calls Tryz.prog 49 #[v, v2] w' fun x w'' => ∃ v' k, x = .returned v' ∧ Big w'' v' k R ∧ k ≤ n ∧ Gb w' w'') := fun v2 k2 w' hg hb hk => hRR.1 ▸ l2Sub_any (h.gb hg) (by omega) hb (by omega) hRR.2
  have HOne : Hid (∀ w', Calls Tryz.prog 45 #[.int .u64 1] w' fun x w'' => ∃ v' k, x = .returned v' ∧ Big w'' v' k 1 ∧ k ≤ 2 ∧ Gb w' w'') := fun w' => l2Big_any 1 (by omega) w'
  have hd1 : ((d : Int) - 1) = ((d - 1 : Nat) : Int) := by omega
  have HSh1 : Hid (∀ v' k w', Big w' v' k 1 → k ≤ 2 → Calls Tryz.prog 44 #[v', .int .i64 ((d : Int) - 1)] w' fun x w'' => ∃ v' k, x = .returned v' ∧ Big w'' v' k P ∧ k ≤ 70000 ∧ Gb w' w'') := fun v' k w' hb hk => by
    rw [hd1]
    refine (l2Shl_any hb (by omega) (d - 1) (by omega)).mono (fun x w'' ⟨v'', k'', h1, h2, h3, h4⟩ => ⟨v'', k'', h1, ?_, by omega, h4⟩)
    rw [Nat.one_mul, hP] at h2; exact h2
  have HCmp : Hid (∀ v1 k1 v2 k2 w', Big w' v1 k1 R → k1 ≤ n → Big w' v2 k2 P → k2 ≤ 70000 → Calls Tryz.prog 47 #[v1, v2] w' fun x w'' => x = .returned (.int .i64 (cmpZ R P)) ∧ Gb w' w'') := fun v1 k1 v2 k2 w' h1 hk1 h2 hk2 => l2Cmp_any h1 (by omega) h2 (by omega)
  have hqe : ¬ q ≤ e := by omega
  clear hR hP hL hRR h hd1
  skip
  go_enter Tryz.func100, Tryz.ntmps100
  go_wp2_with (go_at_call 124; refine (HShr.out _ kg).mono ?_; rintro x w1 ⟨vL, kL, rfl, hbL, hkL, hg1⟩; have a1 : w1.cell? ⟨w.heap.size, 1, none⟩ = some (v) := ks; have a2 : w1.cell? ⟨w.heap.size, 2, none⟩ = some (.int .i64 e) := ks; have a3 : w1.cell? ⟨w.heap.size, 3, none⟩ = some (.bool rest) := ks)
  go_region_held3 (fun w' => w'.cell? ⟨w.heap.size, 1, none⟩ = some (v) ∧ w'.cell? ⟨w.heap.size, 2, none⟩ = some (.int .i64 e) ∧ w'.cell? ⟨w.heap.size, 3, none⟩ = some (.bool rest))
    ((go_split_ands; (repeat' apply And.intro) <;> (repeat' (first | (with_reducible assumption) | (with_reducible refine has_of (by with_reducible assumption)) | (with_reducible refine Gr.old (by with_reducible assumption) ?_) | (with_reducible refine Gb.old (by with_reducible assumption) ?_) | (with_reducible refine cell_swap _ ?_ (by with_reducible assumption); omega) | (with_reducible refine cell_setSame ?_) | (with_reducible refine has_old (by with_reducible assumption) ?_) | (with_reducible refine has_set ?_) | (with_reducible refine cell_setOff ?_ ?_; omega) | (with_reducible refine cell_setNew ?_ ?_; (dsimp only; omega)) | (simp [go_sem]; done) | (simp [go_sem]; rfl) | (with_reducible refine cell_alloc _ ?_) | (with_reducible refine cell_drew ?_) | (with_reducible refine has_alloc _ ?_) | (with_reducible refine fz_old (by with_reducible assumption) ?_) | (with_reducible refine Gb.fzc (by with_reducible assumption) (by first | (with_reducible assumption) | (with_reducible exact cell_drew (by with_reducible assumption))) ?_) | (with_reducible refine Gb.fz (by with_reducible assumption) ?_ ?_) | go_size | (with_reducible refine fz_alloc ?_) | (with_reducible refine fz_set ?_) | (with_reducible refine fz_drew ?_)))))
    (first
      | (go_at_call 44; refine (HShl.out vL kL _ (Big.gb hbL kg) hkL).mono ?_; rintro x w2 ⟨vT, kT, rfl, hbT, hkT, hg2⟩)
      | (go_at_call 49; refine (HSub.out vT kT _ kg (Big.gb hbT kg) hkT).mono ?_; rintro x w3 ⟨vR, kR, rfl, hbR, hkR, hg3⟩; obtain ⟨bR, capR, rfl, hcR⟩ := Big.shape hbR; have hk0 := Big.some hbR hRn; have b1 : w3.cell? ⟨w.heap.size, 1, none⟩ = some (v) := ks; have b2 : w3.cell? ⟨w.heap.size, 2, none⟩ = some (.int .i64 e) := ks; have b3 : w3.cell? ⟨w.heap.size, 3, none⟩ = some (.bool rest) := ks))
  all_goals
    (try go_split_ands)
    go_wp2_with (first
      | (go_at_call 45; refine (HOne.out _).mono ?_; rintro x w4 ⟨v1, k1, rfl, hb1, hk1, hg4⟩; have c1 : w4.cell? ⟨w.heap.size, 1, none⟩ = some (v) := ks; have c2 : w4.cell? ⟨w.heap.size, 2, none⟩ = some (.int .i64 e) := ks; have c3 : w4.cell? ⟨w.heap.size, 3, none⟩ = some (.bool rest) := ks)
      | (go_at_call 44; refine (HSh1.out v1 k1 _ hb1 hk1).mono ?_; rintro x w5 ⟨vP, kP, rfl, hbP, hkP, hg5⟩; have d1 : w5.cell? ⟨w.heap.size, 1, none⟩ = some (v) := ks; have d2 : w5.cell? ⟨w.heap.size, 2, none⟩ = some (.int .i64 e) := ks; have d3 : w5.cell? ⟨w.heap.size, 3, none⟩ = some (.bool rest) := ks)
      | (go_at_call 47; refine (HCmp.out _ _ vP kP _ (Big.gb hbR kg) hkR hbP hkP).mono ?_; rintro x w6 ⟨rfl, hg6⟩; have f1 : w6.cell? ⟨w.heap.size, 1, none⟩ = some (v) := ks; have f2 : w6.cell? ⟨w.heap.size, 2, none⟩ = some (.int .i64 e) := ks; have f3 : w6.cell? ⟨w.heap.size, 3, none⟩ = some (.bool rest) := ks))
    go_returns
    first | exact ⟨_, rfl, _, Big.gb hbL kg, hkL, kg⟩ | exact ⟨_, _, rfl, Big.gb hbL kg, hkL, kg⟩

set_option maxRecDepth 1000000 in
set_option maxHeartbeats 4000000 in
theorem l2Cut_d {v : Value} {n M : Nat} {w : World} (h : Big w v n M) (hn : n ≤ 100000) (s e q : Int) (e0 : -1000000 ≤ e) (e1 : e ≤ 1000000) (q1 : q ≤ 1000000) (d : Nat) (hd : q - e = (d : Int)) (d1 : 1 ≤ d) (R P L : Nat) (hR : M % 2 ^ d = R) (hP : 2 ^ (d - 1) = P) (hL : M / 2 ^ d = L) (hRn : R ≠ 0) (hc : cmpZ R P = 0) :
    Calls Tryz.prog 100 #[.agg #[.int .i64 s, v, .int .i64 e, .bool false], .int .i64 q] w fun x w' => ∃ v' k, x = .returned (.tuple #[v', .int .i64 2]) ∧ Big w' v' k L ∧ k ≤ n ∧ Gb w w' := by
  have HShr : Hid (∀ w', Gb w w' → Calls Tryz.prog 124 #[v, .int .i64 d] w' fun x w'' => ∃ v' k, x = .returned v' ∧ Big w'' v' k L ∧ k ≤ n ∧ Gb w' w'') := fun w' hg => hL ▸ l2Shr_any (h.gb hg) (by omega) d (by omega)
  have HShl : Hid (∀ v' k w', Big w' v' k L → k ≤ n → Calls Tryz.prog 44 #[v', .int .i64 d] w' fun x w'' => ∃ v' k, x = .returned v' ∧ Big w'' v' k (L * 2 ^ d) ∧ k ≤ n + 70000 ∧ Gb w' w'') := fun v' k w' hb hk => (l2Shl_any hb (by omega) d (by omega)).mono (fun x w'' ⟨v'', k'', h1, h2, h3, h4⟩ => ⟨v'', k'', h1, h2, by omega, h4⟩)
  have hRR : M - L * 2 ^ d = R ∧ L * 2 ^ d ≤ M := by
    have := Nat.div_add_mod M (2 ^ d)
    rw [hL, hR, Nat.mul_comm] at this
    omega
  have HSub : Hid (∀ v2 k2 w', Gb w w' → Big w' v2 k2 (L * 2 ^ d) → k2 ≤ n + 70000 → Calls Tryz.prog 49 #[v, v2] w' fun x w'' => ∃ v' k, x = .returned v' ∧ Big w'' v' k R ∧ k ≤ n ∧ Gb w' w'') := fun v2 k2 w' hg hb hk => hRR.1 ▸ l2Sub_any (h.gb hg) (by omega) hb (by omega) hRR.2
  have HOne : Hid (∀ w', Calls Tryz.prog 45 #[.int .u64 1] w' fun x w'' => ∃ v' k, x = .returned v' ∧ Big w'' v' k 1 ∧ k ≤ 2 ∧ Gb w' w'') := fun w' => l2Big_any 1 (by omega) w'
  have hd1 : ((d : Int) - 1) = ((d - 1 : Nat) : Int) := by omega
  have HSh1 : Hid (∀ v' k w', Big w' v' k 1 → k ≤ 2 → Calls Tryz.prog 44 #[v', .int .i64 ((d : Int) - 1)] w' fun x w'' => ∃ v' k, x = .returned v' ∧ Big w'' v' k P ∧ k ≤ 70000 ∧ Gb w' w'') := fun v' k w' hb hk => by
    rw [hd1]
    refine (l2Shl_any hb (by omega) (d - 1) (by omega)).mono (fun x w'' ⟨v'', k'', h1, h2, h3, h4⟩ => ⟨v'', k'', h1, ?_, by omega, h4⟩)
    rw [Nat.one_mul, hP] at h2; exact h2
  have HCmp : Hid (∀ v1 k1 v2 k2 w', Big w' v1 k1 R → k1 ≤ n → Big w' v2 k2 P → k2 ≤ 70000 → Calls Tryz.prog 47 #[v1, v2] w' fun x w'' => x = .returned (.int .i64 (cmpZ R P)) ∧ Gb w' w'') := fun v1 k1 v2 k2 w' h1 hk1 h2 hk2 => l2Cmp_any h1 (by omega) h2 (by omega)
  have hqe : ¬ q ≤ e := by omega
  clear hR hP hL hRR h hd1
  skip
  go_enter Tryz.func100, Tryz.ntmps100
  go_wp2_with (go_at_call 124; refine (HShr.out _ kg).mono ?_; rintro x w1 ⟨vL, kL, rfl, hbL, hkL, hg1⟩; have a1 : w1.cell? ⟨w.heap.size, 1, none⟩ = some (v) := ks; have a2 : w1.cell? ⟨w.heap.size, 2, none⟩ = some (.int .i64 e) := ks; have a3 : w1.cell? ⟨w.heap.size, 3, none⟩ = some (.bool false) := ks)
  go_region_held3 (fun w' => w'.cell? ⟨w.heap.size, 1, none⟩ = some (v) ∧ w'.cell? ⟨w.heap.size, 2, none⟩ = some (.int .i64 e) ∧ w'.cell? ⟨w.heap.size, 3, none⟩ = some (.bool false))
    ((go_split_ands; (repeat' apply And.intro) <;> (repeat' (first | (with_reducible assumption) | (with_reducible refine has_of (by with_reducible assumption)) | (with_reducible refine Gr.old (by with_reducible assumption) ?_) | (with_reducible refine Gb.old (by with_reducible assumption) ?_) | (with_reducible refine cell_swap _ ?_ (by with_reducible assumption); omega) | (with_reducible refine cell_setSame ?_) | (with_reducible refine has_old (by with_reducible assumption) ?_) | (with_reducible refine has_set ?_) | (with_reducible refine cell_setOff ?_ ?_; omega) | (with_reducible refine cell_setNew ?_ ?_; (dsimp only; omega)) | (simp [go_sem]; done) | (simp [go_sem]; rfl) | (with_reducible refine cell_alloc _ ?_) | (with_reducible refine cell_drew ?_) | (with_reducible refine has_alloc _ ?_) | (with_reducible refine fz_old (by with_reducible assumption) ?_) | (with_reducible refine Gb.fzc (by with_reducible assumption) (by first | (with_reducible assumption) | (with_reducible exact cell_drew (by with_reducible assumption))) ?_) | (with_reducible refine Gb.fz (by with_reducible assumption) ?_ ?_) | go_size | (with_reducible refine fz_alloc ?_) | (with_reducible refine fz_set ?_) | (with_reducible refine fz_drew ?_)))))
    (first
      | (go_at_call 44; refine (HShl.out vL kL _ (Big.gb hbL kg) hkL).mono ?_; rintro x w2 ⟨vT, kT, rfl, hbT, hkT, hg2⟩)
      | (go_at_call 49; refine (HSub.out vT kT _ kg (Big.gb hbT kg) hkT).mono ?_; rintro x w3 ⟨vR, kR, rfl, hbR, hkR, hg3⟩; obtain ⟨bR, capR, rfl, hcR⟩ := Big.shape hbR; have hk0 := Big.some hbR hRn; have b1 : w3.cell? ⟨w.heap.size, 1, none⟩ = some (v) := ks; have b2 : w3.cell? ⟨w.heap.size, 2, none⟩ = some (.int .i64 e) := ks; have b3 : w3.cell? ⟨w.heap.size, 3, none⟩ = some (.bool false) := ks))
  all_goals
    (try go_split_ands)
    go_wp2_with (first
      | (go_at_call 45; refine (HOne.out _).mono ?_; rintro x w4 ⟨v1, k1, rfl, hb1, hk1, hg4⟩; have c1 : w4.cell? ⟨w.heap.size, 1, none⟩ = some (v) := ks; have c2 : w4.cell? ⟨w.heap.size, 2, none⟩ = some (.int .i64 e) := ks; have c3 : w4.cell? ⟨w.heap.size, 3, none⟩ = some (.bool false) := ks)
      | (go_at_call 44; refine (HSh1.out v1 k1 _ hb1 hk1).mono ?_; rintro x w5 ⟨vP, kP, rfl, hbP, hkP, hg5⟩; have d1 : w5.cell? ⟨w.heap.size, 1, none⟩ = some (v) := ks; have d2 : w5.cell? ⟨w.heap.size, 2, none⟩ = some (.int .i64 e) := ks; have d3 : w5.cell? ⟨w.heap.size, 3, none⟩ = some (.bool false) := ks)
      | (go_at_call 47; refine (HCmp.out _ _ vP kP _ (Big.gb hbR kg) hkR hbP hkP).mono ?_; rintro x w6 ⟨rfl, hg6⟩; have f1 : w6.cell? ⟨w.heap.size, 1, none⟩ = some (v) := ks; have f2 : w6.cell? ⟨w.heap.size, 2, none⟩ = some (.int .i64 e) := ks; have f3 : w6.cell? ⟨w.heap.size, 3, none⟩ = some (.bool false) := ks))
    go_returns
    first | exact ⟨_, rfl, _, Big.gb hbL kg, hkL, kg⟩ | exact ⟨_, _, rfl, Big.gb hbL kg, hkL, kg⟩

set_option maxRecDepth 1000000 in
set_option maxHeartbeats 4000000 in
theorem l2Cut_f {v : Value} {n M : Nat} {w : World} (h : Big w v n M) (hn : n ≤ 100000) (s e q : Int) (e0 : -1000000 ≤ e) (e1 : e ≤ 1000000) (q1 : q ≤ 1000000) (d : Nat) (hd : q - e = (d : Int)) (d1 : 1 ≤ d) (R P L : Nat) (hR : M % 2 ^ d = R) (hP : 2 ^ (d - 1) = P) (hL : M / 2 ^ d = L) (hRn : R ≠ 0) (hc : cmpZ R P = 0) :
    Calls Tryz.prog 100 #[.agg #[.int .i64 s, v, .int .i64 e, .bool true], .int .i64 q] w fun x w' => ∃ v' k, x = .returned (.tuple #[v', .int .i64 3]) ∧ Big w' v' k L ∧ k ≤ n ∧ Gb w w' := by
  have HShr : Hid (∀ w', Gb w w' → Calls Tryz.prog 124 #[v, .int .i64 d] w' fun x w'' => ∃ v' k, x = .returned v' ∧ Big w'' v' k L ∧ k ≤ n ∧ Gb w' w'') := fun w' hg => hL ▸ l2Shr_any (h.gb hg) (by omega) d (by omega)
  have HShl : Hid (∀ v' k w', Big w' v' k L → k ≤ n → Calls Tryz.prog 44 #[v', .int .i64 d] w' fun x w'' => ∃ v' k, x = .returned v' ∧ Big w'' v' k (L * 2 ^ d) ∧ k ≤ n + 70000 ∧ Gb w' w'') := fun v' k w' hb hk => (l2Shl_any hb (by omega) d (by omega)).mono (fun x w'' ⟨v'', k'', h1, h2, h3, h4⟩ => ⟨v'', k'', h1, h2, by omega, h4⟩)
  have hRR : M - L * 2 ^ d = R ∧ L * 2 ^ d ≤ M := by
    have := Nat.div_add_mod M (2 ^ d)
    rw [hL, hR, Nat.mul_comm] at this
    omega
  have HSub : Hid (∀ v2 k2 w', Gb w w' → Big w' v2 k2 (L * 2 ^ d) → k2 ≤ n + 70000 → Calls Tryz.prog 49 #[v, v2] w' fun x w'' => ∃ v' k, x = .returned v' ∧ Big w'' v' k R ∧ k ≤ n ∧ Gb w' w'') := fun v2 k2 w' hg hb hk => hRR.1 ▸ l2Sub_any (h.gb hg) (by omega) hb (by omega) hRR.2
  have HOne : Hid (∀ w', Calls Tryz.prog 45 #[.int .u64 1] w' fun x w'' => ∃ v' k, x = .returned v' ∧ Big w'' v' k 1 ∧ k ≤ 2 ∧ Gb w' w'') := fun w' => l2Big_any 1 (by omega) w'
  have hd1 : ((d : Int) - 1) = ((d - 1 : Nat) : Int) := by omega
  have HSh1 : Hid (∀ v' k w', Big w' v' k 1 → k ≤ 2 → Calls Tryz.prog 44 #[v', .int .i64 ((d : Int) - 1)] w' fun x w'' => ∃ v' k, x = .returned v' ∧ Big w'' v' k P ∧ k ≤ 70000 ∧ Gb w' w'') := fun v' k w' hb hk => by
    rw [hd1]
    refine (l2Shl_any hb (by omega) (d - 1) (by omega)).mono (fun x w'' ⟨v'', k'', h1, h2, h3, h4⟩ => ⟨v'', k'', h1, ?_, by omega, h4⟩)
    rw [Nat.one_mul, hP] at h2; exact h2
  have HCmp : Hid (∀ v1 k1 v2 k2 w', Big w' v1 k1 R → k1 ≤ n → Big w' v2 k2 P → k2 ≤ 70000 → Calls Tryz.prog 47 #[v1, v2] w' fun x w'' => x = .returned (.int .i64 (cmpZ R P)) ∧ Gb w' w'') := fun v1 k1 v2 k2 w' h1 hk1 h2 hk2 => l2Cmp_any h1 (by omega) h2 (by omega)
  have hqe : ¬ q ≤ e := by omega
  clear hR hP hL hRR h hd1
  skip
  go_enter Tryz.func100, Tryz.ntmps100
  go_wp2_with (go_at_call 124; refine (HShr.out _ kg).mono ?_; rintro x w1 ⟨vL, kL, rfl, hbL, hkL, hg1⟩; have a1 : w1.cell? ⟨w.heap.size, 1, none⟩ = some (v) := ks; have a2 : w1.cell? ⟨w.heap.size, 2, none⟩ = some (.int .i64 e) := ks; have a3 : w1.cell? ⟨w.heap.size, 3, none⟩ = some (.bool true) := ks)
  go_region_held3 (fun w' => w'.cell? ⟨w.heap.size, 1, none⟩ = some (v) ∧ w'.cell? ⟨w.heap.size, 2, none⟩ = some (.int .i64 e) ∧ w'.cell? ⟨w.heap.size, 3, none⟩ = some (.bool true))
    ((go_split_ands; (repeat' apply And.intro) <;> (repeat' (first | (with_reducible assumption) | (with_reducible refine has_of (by with_reducible assumption)) | (with_reducible refine Gr.old (by with_reducible assumption) ?_) | (with_reducible refine Gb.old (by with_reducible assumption) ?_) | (with_reducible refine cell_swap _ ?_ (by with_reducible assumption); omega) | (with_reducible refine cell_setSame ?_) | (with_reducible refine has_old (by with_reducible assumption) ?_) | (with_reducible refine has_set ?_) | (with_reducible refine cell_setOff ?_ ?_; omega) | (with_reducible refine cell_setNew ?_ ?_; (dsimp only; omega)) | (simp [go_sem]; done) | (simp [go_sem]; rfl) | (with_reducible refine cell_alloc _ ?_) | (with_reducible refine cell_drew ?_) | (with_reducible refine has_alloc _ ?_) | (with_reducible refine fz_old (by with_reducible assumption) ?_) | (with_reducible refine Gb.fzc (by with_reducible assumption) (by first | (with_reducible assumption) | (with_reducible exact cell_drew (by with_reducible assumption))) ?_) | (with_reducible refine Gb.fz (by with_reducible assumption) ?_ ?_) | go_size | (with_reducible refine fz_alloc ?_) | (with_reducible refine fz_set ?_) | (with_reducible refine fz_drew ?_)))))
    (first
      | (go_at_call 44; refine (HShl.out vL kL _ (Big.gb hbL kg) hkL).mono ?_; rintro x w2 ⟨vT, kT, rfl, hbT, hkT, hg2⟩)
      | (go_at_call 49; refine (HSub.out vT kT _ kg (Big.gb hbT kg) hkT).mono ?_; rintro x w3 ⟨vR, kR, rfl, hbR, hkR, hg3⟩; obtain ⟨bR, capR, rfl, hcR⟩ := Big.shape hbR; have hk0 := Big.some hbR hRn; have b1 : w3.cell? ⟨w.heap.size, 1, none⟩ = some (v) := ks; have b2 : w3.cell? ⟨w.heap.size, 2, none⟩ = some (.int .i64 e) := ks; have b3 : w3.cell? ⟨w.heap.size, 3, none⟩ = some (.bool true) := ks))
  all_goals
    (try go_split_ands)
    go_wp2_with (first
      | (go_at_call 45; refine (HOne.out _).mono ?_; rintro x w4 ⟨v1, k1, rfl, hb1, hk1, hg4⟩; have c1 : w4.cell? ⟨w.heap.size, 1, none⟩ = some (v) := ks; have c2 : w4.cell? ⟨w.heap.size, 2, none⟩ = some (.int .i64 e) := ks; have c3 : w4.cell? ⟨w.heap.size, 3, none⟩ = some (.bool true) := ks)
      | (go_at_call 44; refine (HSh1.out v1 k1 _ hb1 hk1).mono ?_; rintro x w5 ⟨vP, kP, rfl, hbP, hkP, hg5⟩; have d1 : w5.cell? ⟨w.heap.size, 1, none⟩ = some (v) := ks; have d2 : w5.cell? ⟨w.heap.size, 2, none⟩ = some (.int .i64 e) := ks; have d3 : w5.cell? ⟨w.heap.size, 3, none⟩ = some (.bool true) := ks)
      | (go_at_call 47; refine (HCmp.out _ _ vP kP _ (Big.gb hbR kg) hkR hbP hkP).mono ?_; rintro x w6 ⟨rfl, hg6⟩; have f1 : w6.cell? ⟨w.heap.size, 1, none⟩ = some (v) := ks; have f2 : w6.cell? ⟨w.heap.size, 2, none⟩ = some (.int .i64 e) := ks; have f3 : w6.cell? ⟨w.heap.size, 3, none⟩ = some (.bool true) := ks))
    go_returns
    first | exact ⟨_, rfl, _, Big.gb hbL kg, hkL, kg⟩ | exact ⟨_, _, rfl, Big.gb hbL kg, hkL, kg⟩

set_option maxRecDepth 1000000 in
set_option maxHeartbeats 4000000 in
theorem l2Cut_g {v : Value} {n M : Nat} {w : World} (h : Big w v n M) (hn : n ≤ 100000) (s e q : Int) (rest : Bool) (e0 : -1000000 ≤ e) (e1 : e ≤ 1000000) (q1 : q ≤ 1000000) (d : Nat) (hd : q - e = (d : Int)) (d1 : 1 ≤ d) (R P L : Nat) (hR : M % 2 ^ d = R) (hP : 2 ^ (d - 1) = P) (hL : M / 2 ^ d = L) (hRn : R ≠ 0) (hc : cmpZ R P = 1) :
    Calls Tryz.prog 100 #[.agg #[.int .i64 s, v, .int .i64 e, .bool rest], .int .i64 q] w fun x w' => ∃ v' k, x = .returned (.tuple #[v', .int .i64 3]) ∧ Big w' v' k L ∧ k ≤ n ∧ Gb w w' := by
  have HShr : Hid (∀ w', Gb w w' → Calls Tryz.prog 124 #[v, .int .i64 d] w' fun x w'' => ∃ v' k, x = .returned v' ∧ Big w'' v' k L ∧ k ≤ n ∧ Gb w' w'') := fun w' hg => hL ▸ l2Shr_any (h.gb hg) (by omega) d (by omega)
  have HShl : Hid (∀ v' k w', Big w' v' k L → k ≤ n → Calls Tryz.prog 44 #[v', .int .i64 d] w' fun x w'' => ∃ v' k, x = .returned v' ∧ Big w'' v' k (L * 2 ^ d) ∧ k ≤ n + 70000 ∧ Gb w' w'') := fun v' k w' hb hk => (l2Shl_any hb (by omega) d (by omega)).mono (fun x w'' ⟨v'', k'', h1, h2, h3, h4⟩ => ⟨v'', k'', h1, h2, by omega, h4⟩)
  have hRR : M - L * 2 ^ d = R ∧ L * 2 ^ d ≤ M := by
    have := Nat.div_add_mod M (2 ^ d)
    rw [hL, hR, Nat.mul_comm] at this
    omega
  have HSub : Hid (∀ v2 k2 w', Gb w w' → Big w' v2 k2 (L * 2 ^ d) → k2 ≤ n + 70000 → Calls Tryz.prog 49 #[v, v2] w' fun x w'' => ∃ v' k, x = .returned v' ∧ Big w'' v' k R ∧ k ≤ n ∧ Gb w' w'') := fun v2 k2 w' hg hb hk => hRR.1 ▸ l2Sub_any (h.gb hg) (by omega) hb (by omega) hRR.2
  have HOne : Hid (∀ w', Calls Tryz.prog 45 #[.int .u64 1] w' fun x w'' => ∃ v' k, x = .returned v' ∧ Big w'' v' k 1 ∧ k ≤ 2 ∧ Gb w' w'') := fun w' => l2Big_any 1 (by omega) w'
  have hd1 : ((d : Int) - 1) = ((d - 1 : Nat) : Int) := by omega
  have HSh1 : Hid (∀ v' k w', Big w' v' k 1 → k ≤ 2 → Calls Tryz.prog 44 #[v', .int .i64 ((d : Int) - 1)] w' fun x w'' => ∃ v' k, x = .returned v' ∧ Big w'' v' k P ∧ k ≤ 70000 ∧ Gb w' w'') := fun v' k w' hb hk => by
    rw [hd1]
    refine (l2Shl_any hb (by omega) (d - 1) (by omega)).mono (fun x w'' ⟨v'', k'', h1, h2, h3, h4⟩ => ⟨v'', k'', h1, ?_, by omega, h4⟩)
    rw [Nat.one_mul, hP] at h2; exact h2
  have HCmp : Hid (∀ v1 k1 v2 k2 w', Big w' v1 k1 R → k1 ≤ n → Big w' v2 k2 P → k2 ≤ 70000 → Calls Tryz.prog 47 #[v1, v2] w' fun x w'' => x = .returned (.int .i64 (cmpZ R P)) ∧ Gb w' w'') := fun v1 k1 v2 k2 w' h1 hk1 h2 hk2 => l2Cmp_any h1 (by omega) h2 (by omega)
  have hqe : ¬ q ≤ e := by omega
  clear hR hP hL hRR h hd1
  skip
  go_enter Tryz.func100, Tryz.ntmps100
  go_wp2_with (go_at_call 124; refine (HShr.out _ kg).mono ?_; rintro x w1 ⟨vL, kL, rfl, hbL, hkL, hg1⟩; have a1 : w1.cell? ⟨w.heap.size, 1, none⟩ = some (v) := ks; have a2 : w1.cell? ⟨w.heap.size, 2, none⟩ = some (.int .i64 e) := ks; have a3 : w1.cell? ⟨w.heap.size, 3, none⟩ = some (.bool rest) := ks)
  go_region_held3 (fun w' => w'.cell? ⟨w.heap.size, 1, none⟩ = some (v) ∧ w'.cell? ⟨w.heap.size, 2, none⟩ = some (.int .i64 e) ∧ w'.cell? ⟨w.heap.size, 3, none⟩ = some (.bool rest))
    ((go_split_ands; (repeat' apply And.intro) <;> (repeat' (first | (with_reducible assumption) | (with_reducible refine has_of (by with_reducible assumption)) | (with_reducible refine Gr.old (by with_reducible assumption) ?_) | (with_reducible refine Gb.old (by with_reducible assumption) ?_) | (with_reducible refine cell_swap _ ?_ (by with_reducible assumption); omega) | (with_reducible refine cell_setSame ?_) | (with_reducible refine has_old (by with_reducible assumption) ?_) | (with_reducible refine has_set ?_) | (with_reducible refine cell_setOff ?_ ?_; omega) | (with_reducible refine cell_setNew ?_ ?_; (dsimp only; omega)) | (simp [go_sem]; done) | (simp [go_sem]; rfl) | (with_reducible refine cell_alloc _ ?_) | (with_reducible refine cell_drew ?_) | (with_reducible refine has_alloc _ ?_) | (with_reducible refine fz_old (by with_reducible assumption) ?_) | (with_reducible refine Gb.fzc (by with_reducible assumption) (by first | (with_reducible assumption) | (with_reducible exact cell_drew (by with_reducible assumption))) ?_) | (with_reducible refine Gb.fz (by with_reducible assumption) ?_ ?_) | go_size | (with_reducible refine fz_alloc ?_) | (with_reducible refine fz_set ?_) | (with_reducible refine fz_drew ?_)))))
    (first
      | (go_at_call 44; refine (HShl.out vL kL _ (Big.gb hbL kg) hkL).mono ?_; rintro x w2 ⟨vT, kT, rfl, hbT, hkT, hg2⟩)
      | (go_at_call 49; refine (HSub.out vT kT _ kg (Big.gb hbT kg) hkT).mono ?_; rintro x w3 ⟨vR, kR, rfl, hbR, hkR, hg3⟩; obtain ⟨bR, capR, rfl, hcR⟩ := Big.shape hbR; have hk0 := Big.some hbR hRn; have b1 : w3.cell? ⟨w.heap.size, 1, none⟩ = some (v) := ks; have b2 : w3.cell? ⟨w.heap.size, 2, none⟩ = some (.int .i64 e) := ks; have b3 : w3.cell? ⟨w.heap.size, 3, none⟩ = some (.bool rest) := ks))
  all_goals
    (try go_split_ands)
    go_wp2_with (first
      | (go_at_call 45; refine (HOne.out _).mono ?_; rintro x w4 ⟨v1, k1, rfl, hb1, hk1, hg4⟩; have c1 : w4.cell? ⟨w.heap.size, 1, none⟩ = some (v) := ks; have c2 : w4.cell? ⟨w.heap.size, 2, none⟩ = some (.int .i64 e) := ks; have c3 : w4.cell? ⟨w.heap.size, 3, none⟩ = some (.bool rest) := ks)
      | (go_at_call 44; refine (HSh1.out v1 k1 _ hb1 hk1).mono ?_; rintro x w5 ⟨vP, kP, rfl, hbP, hkP, hg5⟩; have d1 : w5.cell? ⟨w.heap.size, 1, none⟩ = some (v) := ks; have d2 : w5.cell? ⟨w.heap.size, 2, none⟩ = some (.int .i64 e) := ks; have d3 : w5.cell? ⟨w.heap.size, 3, none⟩ = some (.bool rest) := ks)
      | (go_at_call 47; refine (HCmp.out _ _ vP kP _ (Big.gb hbR kg) hkR hbP hkP).mono ?_; rintro x w6 ⟨rfl, hg6⟩; have f1 : w6.cell? ⟨w.heap.size, 1, none⟩ = some (v) := ks; have f2 : w6.cell? ⟨w.heap.size, 2, none⟩ = some (.int .i64 e) := ks; have f3 : w6.cell? ⟨w.heap.size, 3, none⟩ = some (.bool rest) := ks))
    go_returns
    first | exact ⟨_, rfl, _, Big.gb hbL kg, hkL, kg⟩ | exact ⟨_, _, rfl, Big.gb hbL kg, hkL, kg⟩

end Go.Proofs.YtkflpogmhailhaaGreatDoor

/- spec.l2Cut whole, l2Choose, l2Over. -/
set_option linter.unusedVariables false
set_option linter.unusedSimpArgs false
namespace Go.Proofs.YtkflpogmhailhaaGreatDoor
open Go.RowKit

theorem l2Cut_any {v : Value} {n M : Nat} {w : World} (h : Big w v n M) (hn : n ≤ 100000) (s e q : Int) (rest : Bool) (e0 : -1000000 ≤ e) (e1 : e ≤ 1000000) (q0 : -1000000 ≤ q) (q1 : q ≤ 1000000) :
    Calls Tryz.prog 100 #[.agg #[.int .i64 s, v, .int .i64 e, .bool rest], .int .i64 q] w fun x w' => ∃ v' k, x = .returned (.tuple #[v', .int .i64 (cutHalf M e q rest)]) ∧ Big w' v' k (cutLo M e q) ∧ k ≤ n + 70000 ∧ Gb w w' := by
  by_cases hq : q ≤ e
  · exact l2Cut_up h hn s e q rest e0 e1 q0 hq
  · obtain ⟨d, hd⟩ : ∃ d : Nat, q - e = (d : Int) := ⟨(q - e).toNat, by omega⟩
    have d1 : 1 ≤ d := by omega
    have eLo : cutLo M e q = M / 2 ^ d := by unfold cutLo; rw [if_neg hq, hd]; rfl
    have eHa : cutHalf M e q rest = hr M d rest := by unfold cutHalf; rw [if_neg hq, hd]; rfl
    rw [eLo, eHa]
    have fin : ∀ (H : Nat), hr M d rest = H → (Calls Tryz.prog 100 #[.agg #[.int .i64 s, v, .int .i64 e, .bool rest], .int .i64 q] w fun x w' => ∃ v' k, x = .returned (.tuple #[v', .int .i64 (H : Int)]) ∧ Big w' v' k (M / 2 ^ d) ∧ k ≤ n ∧ Gb w w') →
        Calls Tryz.prog 100 #[.agg #[.int .i64 s, v, .int .i64 e, .bool rest], .int .i64 q] w fun x w' => ∃ v' k, x = .returned (.tuple #[v', .int .i64 (hr M d rest : Int)]) ∧ Big w' v' k (M / 2 ^ d) ∧ k ≤ n + 70000 ∧ Gb w w' := by
      intro H hH hc
      rw [hH]
      exact hc.mono (fun x w' ⟨v', k, h1, h2, h3, h4⟩ => ⟨v', k, h1, h2, by omega, h4⟩)
    by_cases hR : M % 2 ^ d = 0
    · cases rest
      · exact fin 0 (hr_zero M d d1 hR) (l2Cut_a h hn s e q e0 e1 q1 d hd d1 _ _ _ rfl rfl rfl hR)
      · have hp : 0 < 2 ^ (d - 1) := Nat.pow_pos (by decide)
        refine fin 1 (hr_one M d true d1 (by omega) (.inr rfl)) (l2Cut_b h hn s e q e0 e1 q1 d hd d1 _ _ _ rfl rfl rfl hR ?_)
        unfold cmpZ; rw [if_pos (by omega)]
    · rcases Nat.lt_trichotomy (M % 2 ^ d) (2 ^ (d - 1)) with c | c | c
      · refine fin 1 (hr_one M d rest d1 c (.inl hR)) (l2Cut_c h hn s e q rest e0 e1 q1 d hd d1 _ _ _ rfl rfl rfl hR ?_)
        unfold cmpZ; rw [if_pos c]
      · have hc : cmpZ (M % 2 ^ d) (2 ^ (d - 1)) = 0 := by unfold cmpZ; rw [if_neg (by omega), if_neg (by omega)]
        cases rest
        · exact fin 2 (hr_two M d d1 c) (l2Cut_d h hn s e q e0 e1 q1 d hd d1 _ _ _ rfl rfl rfl hR hc)
        · exact fin 3 (hr_three M d true d1 (by omega) (.inr rfl)) (l2Cut_f h hn s e q e0 e1 q1 d hd d1 _ _ _ rfl rfl rfl hR hc)
      · refine fin 3 (hr_three M d rest d1 (by omega) (.inl (by omega))) (l2Cut_g h hn s e q rest e0 e1 q1 d hd d1 _ _ _ rfl rfl rfl hR ?_)
        unfold cmpZ; rw [if_neg (by omega), if_pos c]

set_option maxRecDepth 1000000 in
set_option maxHeartbeats 4000000 in
theorem l2Choose_any {v : Value} {n L : Nat} {w : World} (h : Big w v n L) (hn : n ≤ 500000) (mode sign : Int) (half : Nat) (m0 : 0 ≤ mode) (m1 : mode ≤ 4) (hs : sign = 0 ∨ sign = 1) (hh : half ≤ 3) :
    Calls Tryz.prog 101 #[.int .i64 mode, .int .i64 sign, v, .int .i64 half] w fun x w' => ∃ v' k, x = .returned v' ∧ Big w' v' k (chosen mode sign L half) ∧ k ≤ n + 3 ∧ Gb w w' := by
  have HBit : ∀ b : Int, (L : Int) % 2 = b → Hid (∀ w', w' = w → Calls Tryz.prog 48 #[v, .int .i64 0] w' fun x w'' => x = .returned (.int .u32 b) ∧ w' = w'') := fun b hb w' hw => by subst hw; exact hb ▸ l2Bit_zero h (by omega)
  have HOne : Hid (∀ w', Calls Tryz.prog 45 #[.int .u64 1] w' fun x w'' => ∃ v' k, x = .returned v' ∧ Big w'' v' k 1 ∧ k ≤ 2 ∧ Gb w' w'') := fun w' => l2Big_any 1 (by omega) w'
  have HAdd : Hid (∀ v2 k2 w', Gb w w' → Big w' v2 k2 1 → k2 ≤ 2 → Calls Tryz.prog 98 #[v, v2] w' fun x w'' => ∃ v' k, x = .returned v' ∧ Big w'' v' k (L + 1) ∧ k ≤ n + 3 ∧ Gb w' w'') := fun v2 k2 w' hg hb hk => (l2Add_any (h.gb hg) (by omega) hb (by omega)).mono (fun x w'' ⟨v', k, h1, h2, h3, h4⟩ => ⟨v', k, h1, h2, by omega, h4⟩)
  have HL : Hid (Big w v n L) := h
  obtain ⟨U, hU⟩ : ∃ U, U = up mode sign L half := ⟨_, rfl⟩
  have hch : chosen mode sign L half = L + (if U then 1 else 0) := by rw [hU]; rfl
  rw [hch]
  have hcase : (mode = 0 ∧ (half : Int) = 0 ∧ U = false) ∨ (mode = 0 ∧ (half : Int) = 1 ∧ U = false) ∨ (mode = 0 ∧ (half : Int) = 2 ∧ (L : Int) % 2 = 0 ∧ U = false) ∨ (mode = 0 ∧ (half : Int) = 2 ∧ (L : Int) % 2 = 1 ∧ U = true) ∨ (mode = 0 ∧ (half : Int) = 3 ∧ U = true) ∨
      (mode = 1 ∧ (half : Int) < 2 ∧ U = false) ∨ (mode = 1 ∧ 2 ≤ (half : Int) ∧ U = true) ∨ (mode = 2 ∧ U = false) ∨
      (mode = 3 ∧ (half : Int) = 0 ∧ U = false) ∨ (mode = 3 ∧ 0 < (half : Int) ∧ sign = 0 ∧ U = true) ∨ (mode = 3 ∧ 0 < (half : Int) ∧ sign = 1 ∧ U = false) ∨
      (mode = 4 ∧ (half : Int) = 0 ∧ U = false) ∨ (mode = 4 ∧ 0 < (half : Int) ∧ sign = 0 ∧ U = false) ∨ (mode = 4 ∧ 0 < (half : Int) ∧ sign = 1 ∧ U = true) := by
    unfold up at hU
    cases U
    · have := of_decide_eq_false hU.symm
      simp only [true_and, and_true, Bool.false_eq_true, and_false, or_false, false_or]
      omega
    · have := of_decide_eq_true hU.symm
      simp only [true_and, and_true, Bool.true_eq_false, and_false, or_false, false_or]
      omega
  generalize (half : Int) = H at *
  clear hU hch h
  rcases hcase with ⟨rfl, rfl, rfl⟩ | ⟨rfl, rfl, rfl⟩ | ⟨rfl, rfl, hb, rfl⟩ | ⟨rfl, rfl, hb, rfl⟩ | ⟨rfl, rfl, rfl⟩ | ⟨rfl, c, rfl⟩ | ⟨rfl, c, rfl⟩ | ⟨rfl, rfl⟩ | ⟨rfl, rfl, rfl⟩ | ⟨rfl, c, rfl, rfl⟩ | ⟨rfl, c, rfl, rfl⟩ | ⟨rfl, rfl, rfl⟩ | ⟨rfl, c, rfl, rfl⟩ | ⟨rfl, c, rfl, rfl⟩
  all_goals
    first
      | (have HB := HBit _ hb; clear HBit hb hs)
      | (have HB : Hid True := trivial; clear HBit hs)
    go_enter Tryz.func101, Tryz.ntmps101
    go_wp2_with (first
      | (go_at_call 48; refine (HB.out _ rfl).mono ?_; rintro x w0 ⟨rfl, hw⟩; subst hw)
      | (go_at_call 45; refine (HOne.out _).mono ?_; rintro x w1 ⟨v1, k1, rfl, hb1, hk1, hg1⟩)
      | (go_at_call 98; refine (HAdd.out v1 k1 _ kg hb1 hk1).mono ?_; rintro x w2 ⟨v2, k2, rfl, hb2, hk2, hg2⟩))
    go_returns
    first
      | exact ⟨_, _, rfl, HL.out, by omega, kg⟩
      | exact ⟨_, _, rfl, hb2, by omega, kg⟩
      | exact ⟨_, rfl, _, HL.out, by omega, kg⟩
      | exact ⟨_, rfl, _, hb2, by omega, kg⟩
end Go.Proofs.YtkflpogmhailhaaGreatDoor
