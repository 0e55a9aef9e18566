/- spec.l2Len. -/
import Derived.Test.YtmllepdkbggpmaaDoorBigRow
import Derived.WalkLawsBesides
set_option linter.unusedVariables false
set_option linter.unusedSimpArgs false
namespace Go.Proofs.YtmllepdkbggpmaaDoor
open Go.RowKit

set_option maxHeartbeats 1000000 in
theorem l2Len_any {v : Value} {n N : Nat} {w : World} (h : Big w v n N) (hn : n ≤ 1000000000) :
    Calls Tryd.prog 37 #[v] w fun e w' => e = .returned (.int .i64 (nb N)) ∧ w = w' := by
  obtain ⟨hnm, hN, b, cap, rfl, hcap, hmx, hcell⟩ := h
  rcases Nat.eq_zero_or_pos n with rfl | hpos
  · have e : nb N = 0 := by rw [hnm.zero]; rfl
    rw [e]
    clear hcell hnm hN e
    go_enter Tryd.func37, Tryd.ntmps37
    go_wp2
    go_ret
    exact ⟨rfl, rfl⟩
  · obtain ⟨m, rfl⟩ : ∃ m, n = m + 1 := ⟨n - 1, by omega⟩
    obtain ⟨ht, hne⟩ := nb_top hnm
    have hc : w.cell? ⟨b, m, none⟩ = some (.int .u32 (dg N m : Int)) := hcell m (by omega)
    have hd := dg_lt N m
    have h32 : nb (dg N m) ≤ 32 := nb_le (by simpa using hd)
    have HT : Hid _ := ht
    generalize dg N m = t at *
    have hmm : ((m + 1 : Nat) : Int) - 1 = (m : Int) := by omega
    have hm0 : (((m + 1 : Nat) : Int) == 0) = false := by simp; omega
    clear hcell hnm hN ht hne
    go_enter Tryd.func37, Tryd.ntmps37
    go_wp2
    go_loop [3, 4] (fun i u => ∃ k s : Nat, i = .int .i64 (((m : Int) * 32 + k : Int)) ∧ u = .int .u32 s ∧ Hid (nb t = k + nb s) ∧ k ≤ 32 ∧ s < 4294967296) (fun _ u => (intOf u).toNat)
    case atStart => exact ⟨0, t, by go_num, rfl, by show _ = _; omega, by omega, hd⟩
    case round =>
      obtain ⟨k, s, rfl, rfl, HB, hk, hs⟩ := hrel
      rcases Nat.eq_zero_or_pos s with rfl | spos
      · have e : (m : Int) * 32 + k = (nb N : Int) := by
          have := HB.out; have := HT.out; rw [nb_zero] at *; omega
        have E : Hid _ := e
        clear e
        go_wp2
        go_returns
        exact ⟨ret_congr (congrArg (Value.int IntKind.i64) E.out), rfl⟩
      · have hh := nb_half s spos
        have HH : Hid (nb t = (k + 1) + nb (s / 2)) := by show _ = _; have := HB.out; omega
        have hk1 : k + 1 ≤ 32 := by have := HH.out; omega
        have spos' : (0 : Int) < (s : Int) := by omega
        clear hh
        go_wp2
        go_round
        case rel => exact ⟨k + 1, s / 2, by go_num, by go_num, HH, hk1, by omega⟩
        case measure => simp [intOf] <;> omega
end Go.Proofs.YtmllepdkbggpmaaDoor
