/- spec.l2Bit at 0, spec.l2Word. -/
import Derived.Test.YtmllepdkbggpmaaDoorBigRow
import Derived.WalkLawsBesides
set_option linter.unusedVariables false
set_option linter.unusedSimpArgs false
namespace Go.Proofs.YtmllepdkbggpmaaDoor
open Go.RowKit

set_option maxHeartbeats 1000000 in
theorem l2Bit_zero {v : Value} {n N : Nat} {w : World} (h : Big w v n N) (hn : n ≤ 1000000000) :
    Calls Tryd.prog 77 #[v, .int .i64 0] w fun e w' => e = .returned (.int .u32 ((N : Int) % 2)) ∧ w = w' := by
  obtain ⟨hnm, hN, b, cap, rfl, hcap, hmx, hcell⟩ := h
  rcases Nat.eq_zero_or_pos n with rfl | hpos
  · have e : N = 0 := hnm.zero
    subst e
    clear hcell hnm hN
    go_enter Tryd.func77, Tryd.ntmps77
    go_wp2
    go_returns
    exact ⟨rfl, rfl⟩
  · have hc : w.cell? ⟨b, 0, none⟩ = some (.int .u32 (dg N 0 : Int)) := hcell 0 (by omega)
    have hd : ((dg N 0 : Nat) : Int) % 2 = (N : Int) % 2 := by unfold dg; simp only [Nat.pow_zero, Nat.div_one]; omega
    have hl := dg_lt N 0
    have HD : Hid _ := hd
    generalize dg N 0 = t at *
    clear hcell hnm hN hd
    go_enter Tryd.func77, Tryd.ntmps77
    go_wp2
    go_returns
    first
      | exact ⟨ret_congr (congrArg (Value.int IntKind.u32) HD.out), rfl⟩
      | (refine ⟨ret_congr (congrArg (Value.int IntKind.u32) ?_), rfl⟩; have := HD.out; simp; omega)

set_option maxHeartbeats 1000000 in
theorem l2Word_any {v : Value} {n N : Nat} {w : World} (h : Big w v n N) (hn : n ≤ 1000000000) (hW : N < 18446744073709551616) :
    Calls Tryd.prog 58 #[v] w fun e w' => e = .returned (.int .u64 N) ∧ w = w' := by
  obtain ⟨hnm, hN, b, cap, rfl, hcap, hmx, hcell⟩ := h
  have HC : Hid _ := hcell
  have HN : Hid _ := hN
  clear hcell hnm hN
  go_enter Tryd.func58, Tryd.ntmps58
  go_wp2
  go_loop [3, 4] (fun u i => ∃ (j W : Nat), j ≤ n ∧ u = .int .u64 W ∧ i = .int .i64 ((j : Int) - 1) ∧ Hid (W = N / 4294967296 ^ j)) (fun _ i => (intOf i + 1).toNat)
  case atStart => exact ⟨n, 0, Nat.le_refl _, rfl, by go_num, by show _ = _; rw [Nat.div_eq_of_lt HN.out]⟩
  case round =>
    obtain ⟨j, W, hj, rfl, rfl, HW⟩ := hrel
    rcases Nat.eq_zero_or_pos j with rfl | jpos
    · have e : ((W : Nat) : Int) = (N : Int) := by have := HW.out; simp at this; omega
      have E : Hid _ := e
      clear e
      go_wp2
      go_returns
      exact ⟨ret_congr (congrArg (Value.int IntKind.u64) E.out), rfl⟩
    · obtain ⟨i, rfl⟩ : ∃ i, j = i + 1 := ⟨j - 1, by omega⟩
      have hc : w.cell? ⟨b, i, none⟩ = some (.int .u32 (dg N i : Int)) := HC.out i (by omega)
      have hs := word_step N i
      have hd := dg_lt N i
      have hle := Nat.div_le_self N (4294967296 ^ i)
      rw [← HW.out] at hs
      have HS : Hid _ := hs
      have hb : W * 4294967296 + dg N i < 18446744073709551616 := by omega
      have hjj : ((i + 1 : Nat) : Int) - 1 = (i : Int) := by omega
      clear hs hle
      generalize dg N i = t at *
      go_wp2
      go_round
      case rel => exact ⟨i, W * 4294967296 + t, by omega, by go_num, by go_num, HS.out⟩
      case measure => simp [intOf] <;> omega
end Go.Proofs.YtmllepdkbggpmaaDoor
