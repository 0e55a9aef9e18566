/- impl's digits: the iterator hands them out, one after the other. -/
import Derived.Test.YtkflpogmhailhaaDoorRF
import Derived.Test.YtkflpogmhailhaaDoorL4Math
import Derived.Test.YtkflpogmhailhaaDoorA2
import Derived.Sort.LoopGhostIn
import Derived.Lib.BitFns
set_option linter.unusedVariables false
set_option linter.unusedSimpArgs false
namespace Go.Proofs.YtkflpogmhailhaaDoor
open Go.RowKit Go.Shelf
attribute [local go_sem] Oper.semAt_some

theorem or_nat (a b : Nat) (ha : a < 18446744073709551616) (hb : b < 18446744073709551616) : bits .or .u64 (a : Int) (b : Int) = ((a ||| b : Nat) : Int) ∧ a ||| b < 18446744073709551616 := by
  have h : a ||| b < 2 ^ 64 := Nat.or_lt_two_pow (by simpa using ha) (by simpa using hb)
  exact ⟨u64_or_nat a b ha hb, by simpa using h⟩

theorem dS_lt (c : Nat → Nat → Nat) (N k : Nat) (hN : N < 18446744073709551616) : (dS c N k).1 < 18446744073709551616 ∧ (dS c N k).2 < 18446744073709551616 := by
  induction k with
  | zero => rw [dS]; exact ⟨by dsimp only; omega, hN⟩
  | succ k ih =>
    have hw : dW k < 18446744073709551616 := by unfold dW; exact Nat.lt_of_le_of_lt (Nat.div_le_self _ _) (by decide)
    rw [dS]
    split
    · exact ⟨(or_nat _ _ ih.1 hw).2, Nat.mod_lt _ (by decide)⟩
    · exact ⟨ih.1, Nat.mod_lt _ (by decide)⟩

theorem quoCost (B D : Nat) (b v : Int) {w : World} (h : w.cell? ⟨B, 0, none⟩ = some (.int .u64 (D : Int))) :
    Calls Tryd.prog 98 #[.int .u64 b, .int .u64 v, .pointer (some ⟨B, 0, none⟩)] w fun e w' => e = .returned (.int .u64 (D : Int)) ∧ w' = w := by
  go_enter Tryd.func98, Tryd.ntmps98
  go_wp2
  go_returns
  exact ⟨rfl, rfl⟩

theorem rootCost (b v : Nat) (w : World) :
    Calls Tryd.prog 99 #[.int .u64 (b : Int), .int .u64 (v : Int)] w fun e w' => e = .returned (.int .u64 ((rootC b v : Nat) : Int)) ∧ w' = w := by
  have e1 : ((rootC b v : Nat) : Int) = IntKind.u64.wrap (IntKind.u64.wrap (2 * (b : Int)) + (v : Int)) := by rw [IntKind.wrap_u64, IntKind.wrap_u64]; unfold rootC; omega
  go_enter Tryd.func99, Tryd.ntmps99
  go_wp2
  go_returns
  exact ⟨by rw [e1]; rfl, rfl⟩

set_option maxRecDepth 100000 in
theorem quo_hands (n N Nn D n₀ B1 B2 B3 : Nat) (hNn : Nn < 18446744073709551616) (hD : D < 18446744073709551616) (hN : 1 ≤ N) (b1 : B1 < n₀) (b2 : B2 < n₀) (b3 : B3 < n₀) {w : World} (h1 : w.cell? ⟨B1, 0, none⟩ = some (.int .u64 (Nn : Int)))
    (h2 : w.cell? ⟨B2, 0, none⟩ = some (.func (.func 98) #[] #[.pointer (some ⟨B3, 0, none⟩)])) (h3 : w.cell? ⟨B3, 0, none⟩ = some (.int .u64 (D : Int))) :
    Hands Fence.wide n Tryd.prog 120 #[.pointer (some ⟨B1, 0, none⟩), .pointer (some ⟨B2, 0, none⟩)] n₀ N (fun i => #[.int .u64 ((dD (fun _ _ => D) Nn i : Nat) : Int), .int .u64 ((dR (fun _ _ => D) Nn i : Nat) : Int)]) w := by
  intro l J Jx W hW hJ hY h0
  have c1 : W.cell? ⟨B1, 0, none⟩ = some (.int .u64 (Nn : Int)) := (hW.cell (p := ⟨B1, 0, none⟩) b1).trans h1
  refine callsIn_of_wp Tryd.func120 rfl trivial ?_ rfl
  simp only [Tryd.ntmps120, List.size_toArray, List.length_cons, List.length_nil, Nat.reduceAdd, Nat.reduceSub, Array.replicate_succ, Array.replicate_zero, List.push_toArray, List.append_toArray, List.nil_append, List.cons_append]
  gi_wp2
  gi_loopg [4, 5, 6] N (fun m b lf v wr => ∃ k : Nat, k < N ∧ m = N - k ∧ b = .int .u64 ((dS (fun _ _ => D) Nn k).1 : Int) ∧ lf = .int .u64 ((dS (fun _ _ => D) Nn k).2 : Int) ∧ v = .int .u64 (dW k : Int) ∧ J k wr ∧ Below n₀ w wr)
  case atStart => exact ⟨0, by omega, rfl, by rw [dS]; rfl, by rw [dS], by unfold dW; rfl, h0, hW⟩
  case round =>
    obtain ⟨k, hk, rfl, rfl, rfl, rfl, hJk, hB⟩ := hrel
    have c2 : wr.cell? ⟨B2, 0, none⟩ = some (.func (.func 98) #[] #[.pointer (some ⟨B3, 0, none⟩)]) := (hB.cell (p := ⟨B2, 0, none⟩) b2).trans h2
    have c3 : wr.cell? ⟨B3, 0, none⟩ = some (.int .u64 (D : Int)) := (hB.cell (p := ⟨B3, 0, none⟩) b3).trans h3
    obtain ⟨fn, tmps, assign, body, hy, hR⟩ := hY k wr hk hJk
    obtain ⟨s1, s2⟩ := dS_lt (fun _ _ => D) Nn k hNn
    have hs1 : dS (fun _ _ => D) Nn (k + 1) = if D ≤ (dS (fun _ _ => D) Nn k).2 then ((dS (fun _ _ => D) Nn k).1 ||| dW k, ((dS (fun _ _ => D) Nn k).2 - D) * 2 % 18446744073709551616) else ((dS (fun _ _ => D) Nn k).1, (dS (fun _ _ => D) Nn k).2 * 2 % 18446744073709551616) := by rw [dS]
    have hd : dD (fun _ _ => D) Nn k = if D ≤ (dS (fun _ _ => D) Nn k).2 then 1 else 0 := rfl
    have hr : dR (fun _ _ => D) Nn k = if D ≤ (dS (fun _ _ => D) Nn k).2 then (dS (fun _ _ => D) Nn k).2 - D else (dS (fun _ _ => D) Nn k).2 := rfl
    have hw1 : dW k < 18446744073709551616 := by unfold dW; exact Nat.lt_of_le_of_lt (Nat.div_le_self _ _) (by decide)
    have hw2 : dW (k + 1) = dW k / 2 := by unfold dW; rw [Nat.pow_succ, Nat.div_div_eq_div_mul]
    obtain ⟨S1, hS1⟩ : ∃ x, x = dS (fun _ _ => D) Nn (k + 1) := ⟨_, rfl⟩
    obtain ⟨V1, hV1⟩ : ∃ x, x = dW (k + 1) := ⟨_, rfl⟩
    rw [← hS1] at hs1
    rw [← hV1] at hw2
    have HN : Hid (S1 = dS (fun _ _ => D) Nn (k + 1) ∧ V1 = dW (k + 1)) := ⟨hS1, hV1⟩
    have HV : Hid (V1 = dW k / 2) := hw2
    clear hS1 hV1 hw2
    generalize dS (fun _ _ => D) Nn k = st at *
    obtain ⟨b, L⟩ := st
    dsimp only at *
    generalize dW k = v at *
    generalize dD (fun _ _ => D) Nn k = dd at *
    generalize dR (fun _ _ => D) Nn k = rr at *
    have HC : Hid (∀ w, w.cell? ⟨B3, 0, none⟩ = some (.int .u64 (D : Int)) → Calls Tryd.prog 98 #[.int .u64 (b : Int), .int .u64 (v : Int), .pointer (some ⟨B3, 0, none⟩)] w fun e w' => e = .returned (.int .u64 (D : Int)) ∧ w' = w) := fun w h => quoCost B3 D _ _ h
    by_cases hle : D ≤ L
    · rw [if_pos hle] at hs1 hd hr
      subst hd
      have hle' : (D : Int) ≤ (L : Int) := by omega
      obtain ⟨o1, o2⟩ := or_nat b v s1 hw1
      generalize b ||| v = bv at *
      rw [show ((1 : Nat) : Int) = 1 from rfl] at hy
      have g1 : (L : Int) - (D : Int) = (rr : Int) := by omega
      have HR2 : Hid (S1 = (bv, rr * 2 % 18446744073709551616)) := by show _ = _; rw [hs1, hr]
      have hrr : rr < 18446744073709551616 := by omega
      clear hr hs1
      gi_wp2_with (refine ⟨trivial, fun h => (by cases h), ?_⟩; refine (callsIn_wide.2 (HC.out _ c3)).mono ?_; rintro e wq ⟨rfl, hwq⟩; subst hwq)
      refine ⟨fun h => (by cases h), ?_⟩
      refine hR.mono ?_
      rintro e W3 (⟨hlt, rfl, hJ3, hk3⟩ | ⟨heq, rfl, hJx3⟩)
      · gi_wp2
        gi_roundg (N - (k + 1))
        case rel =>
          obtain ⟨n1, n2⟩ := HN.out
          have hs1 := HR2.out
          have hv1 := HV.out
          refine ⟨k + 1, hlt, rfl, ?_, ?_, ?_, hJ3, hB.trans hk3⟩
          · rw [← n1, hs1]
          · rw [← n1, hs1]; dsimp only; go_num
          · rw [← n2, hv1]; go_num
        case measure => omega
      · gi_wp2
        refine bodyPost_ret (results_none rfl _ _ _) rfl ?_
        exact ⟨⟨_, rfl⟩, hJx3⟩
    · rw [if_neg hle] at hs1 hd hr
      subst hd
      have hle' : ¬ (D : Int) ≤ (L : Int) := by omega
      rw [show ((0 : Nat) : Int) = 0 from rfl] at hy
      subst hr
      have HR2 : Hid (S1 = (b, rr * 2 % 18446744073709551616)) := hs1
      clear hs1
      gi_wp2_with (refine ⟨trivial, fun h => (by cases h), ?_⟩; refine (callsIn_wide.2 (HC.out _ c3)).mono ?_; rintro e wq ⟨rfl, hwq⟩; subst hwq)
      refine ⟨fun h => (by cases h), ?_⟩
      refine hR.mono ?_
      rintro e W3 (⟨hlt, rfl, hJ3, hk3⟩ | ⟨heq, rfl, hJx3⟩)
      · gi_wp2
        gi_roundg (N - (k + 1))
        case rel =>
          obtain ⟨n1, n2⟩ := HN.out
          have hs1 := HR2.out
          have hv1 := HV.out
          refine ⟨k + 1, hlt, rfl, ?_, ?_, ?_, hJ3, hB.trans hk3⟩
          · rw [← n1, hs1]
          · rw [← n1, hs1]; dsimp only; go_num
          · rw [← n2, hv1]; go_num
        case measure => omega
      · gi_wp2
        refine bodyPost_ret (results_none rfl _ _ _) rfl ?_
        exact ⟨⟨_, rfl⟩, hJx3⟩

set_option maxRecDepth 100000 in
theorem root_hands (n N Nn n₀ B1 B2 : Nat) (hNn : Nn < 18446744073709551616) (hN : 1 ≤ N) (b1 : B1 < n₀) (b2 : B2 < n₀) {w : World} (h1 : w.cell? ⟨B1, 0, none⟩ = some (.int .u64 (Nn : Int)))
    (h2 : w.cell? ⟨B2, 0, none⟩ = some (.func (.func 99) #[] #[])) :
    Hands Fence.wide n Tryd.prog 120 #[.pointer (some ⟨B1, 0, none⟩), .pointer (some ⟨B2, 0, none⟩)] n₀ N (fun i => #[.int .u64 ((dD rootC Nn i : Nat) : Int), .int .u64 ((dR rootC Nn i : Nat) : Int)]) w := by
  intro l J Jx W hW hJ hY h0
  have c1 : W.cell? ⟨B1, 0, none⟩ = some (.int .u64 (Nn : Int)) := (hW.cell (p := ⟨B1, 0, none⟩) b1).trans h1
  refine callsIn_of_wp Tryd.func120 rfl trivial ?_ rfl
  simp only [Tryd.ntmps120, List.size_toArray, List.length_cons, List.length_nil, Nat.reduceAdd, Nat.reduceSub, Array.replicate_succ, Array.replicate_zero, List.push_toArray, List.append_toArray, List.nil_append, List.cons_append]
  gi_wp2
  gi_loopg [4, 5, 6] N (fun m b lf v wr => ∃ k : Nat, k < N ∧ m = N - k ∧ b = .int .u64 ((dS rootC Nn k).1 : Int) ∧ lf = .int .u64 ((dS rootC Nn k).2 : Int) ∧ v = .int .u64 (dW k : Int) ∧ J k wr ∧ Below n₀ w wr)
  case atStart => exact ⟨0, by omega, rfl, by rw [dS]; rfl, by rw [dS], by unfold dW; rfl, h0, hW⟩
  case round =>
    obtain ⟨k, hk, rfl, rfl, rfl, rfl, hJk, hB⟩ := hrel
    have c2 : wr.cell? ⟨B2, 0, none⟩ = some (.func (.func 99) #[] #[]) := (hB.cell (p := ⟨B2, 0, none⟩) b2).trans h2
    obtain ⟨fn, tmps, assign, body, hy, hR⟩ := hY k wr hk hJk
    obtain ⟨s1, s2⟩ := dS_lt rootC Nn k hNn
    have hs1 : dS rootC Nn (k + 1) = if rootC (dS rootC Nn k).1 (dW k) ≤ (dS rootC Nn k).2 then ((dS rootC Nn k).1 ||| dW k, ((dS rootC Nn k).2 - rootC (dS rootC Nn k).1 (dW k)) * 2 % 18446744073709551616) else ((dS rootC Nn k).1, (dS rootC Nn k).2 * 2 % 18446744073709551616) := by rw [dS]
    have hd : dD rootC Nn k = if rootC (dS rootC Nn k).1 (dW k) ≤ (dS rootC Nn k).2 then 1 else 0 := rfl
    have hr : dR rootC Nn k = if rootC (dS rootC Nn k).1 (dW k) ≤ (dS rootC Nn k).2 then (dS rootC Nn k).2 - rootC (dS rootC Nn k).1 (dW k) else (dS rootC Nn k).2 := rfl
    have hw1 : dW k < 18446744073709551616 := by unfold dW; exact Nat.lt_of_le_of_lt (Nat.div_le_self _ _) (by decide)
    have hw2 : dW (k + 1) = dW k / 2 := by unfold dW; rw [Nat.pow_succ, Nat.div_div_eq_div_mul]
    obtain ⟨S1, hS1⟩ : ∃ x, x = dS rootC Nn (k + 1) := ⟨_, rfl⟩
    obtain ⟨V1, hV1⟩ : ∃ x, x = dW (k + 1) := ⟨_, rfl⟩
    rw [← hS1] at hs1
    rw [← hV1] at hw2
    have HN : Hid (S1 = dS rootC Nn (k + 1) ∧ V1 = dW (k + 1)) := ⟨hS1, hV1⟩
    have HV : Hid (V1 = dW k / 2) := hw2
    clear hS1 hV1 hw2
    generalize dS rootC Nn k = st at *
    obtain ⟨b, L⟩ := st
    dsimp only at *
    generalize dW k = v at *
    generalize dD rootC Nn k = dd at *
    generalize dR rootC Nn k = rr at *
    have HC : Hid (∀ w, Calls Tryd.prog 99 #[.int .u64 (b : Int), .int .u64 (v : Int)] w fun e w' => e = .returned (.int .u64 ((rootC b v : Nat) : Int)) ∧ w' = w) := fun w => rootCost b v w
    have hD : rootC b v < 18446744073709551616 := by unfold rootC; exact Nat.mod_lt _ (by decide)
    generalize rootC b v = D at *
    by_cases hle : D ≤ L
    · rw [if_pos hle] at hs1 hd hr
      subst hd
      have hle' : (D : Int) ≤ (L : Int) := by omega
      obtain ⟨o1, o2⟩ := or_nat b v s1 hw1
      generalize b ||| v = bv at *
      rw [show ((1 : Nat) : Int) = 1 from rfl] at hy
      have g1 : (L : Int) - (D : Int) = (rr : Int) := by omega
      have HR2 : Hid (S1 = (bv, rr * 2 % 18446744073709551616)) := by show _ = _; rw [hs1, hr]
      have hrr : rr < 18446744073709551616 := by omega
      clear hr hs1
      gi_wp2_with (refine ⟨trivial, fun h => (by cases h), ?_⟩; refine (callsIn_wide.2 (HC.out _)).mono ?_; rintro e wq ⟨rfl, hwq⟩; subst hwq)
      refine ⟨fun h => (by cases h), ?_⟩
      refine hR.mono ?_
      rintro e W3 (⟨hlt, rfl, hJ3, hk3⟩ | ⟨heq, rfl, hJx3⟩)
      · gi_wp2
        gi_roundg (N - (k + 1))
        case rel =>
          obtain ⟨n1, n2⟩ := HN.out
          have hs1 := HR2.out
          have hv1 := HV.out
          refine ⟨k + 1, hlt, rfl, ?_, ?_, ?_, hJ3, hB.trans hk3⟩
          · rw [← n1, hs1]
          · rw [← n1, hs1]; dsimp only; go_num
          · rw [← n2, hv1]; go_num
        case measure => omega
      · gi_wp2
        refine bodyPost_ret (results_none rfl _ _ _) rfl ?_
        exact ⟨⟨_, rfl⟩, hJx3⟩
    · rw [if_neg hle] at hs1 hd hr
      subst hd
      have hle' : ¬ (D : Int) ≤ (L : Int) := by omega
      rw [show ((0 : Nat) : Int) = 0 from rfl] at hy
      subst hr
      have HR2 : Hid (S1 = (b, rr * 2 % 18446744073709551616)) := hs1
      clear hs1
      gi_wp2_with (refine ⟨trivial, fun h => (by cases h), ?_⟩; refine (callsIn_wide.2 (HC.out _)).mono ?_; rintro e wq ⟨rfl, hwq⟩; subst hwq)
      refine ⟨fun h => (by cases h), ?_⟩
      refine hR.mono ?_
      rintro e W3 (⟨hlt, rfl, hJ3, hk3⟩ | ⟨heq, rfl, hJx3⟩)
      · gi_wp2
        gi_roundg (N - (k + 1))
        case rel =>
          obtain ⟨n1, n2⟩ := HN.out
          have hs1 := HR2.out
          have hv1 := HV.out
          refine ⟨k + 1, hlt, rfl, ?_, ?_, ?_, hJ3, hB.trans hk3⟩
          · rw [← n1, hs1]
          · rw [← n1, hs1]; dsimp only; go_num
          · rw [← n2, hv1]; go_num
        case measure => omega
      · gi_wp2
        refine bodyPost_ret (results_none rfl _ _ _) rfl ?_
        exact ⟨⟨_, rfl⟩, hJx3⟩
end Go.Proofs.YtkflpogmhailhaaDoor
