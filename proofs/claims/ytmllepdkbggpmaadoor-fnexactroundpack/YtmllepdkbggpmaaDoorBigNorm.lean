/- spec.l2Norm. -/
import Derived.Test.YtmllepdkbggpmaaDoorBigRow
import Derived.WalkLawsBesides
set_option linter.unusedVariables false
set_option linter.unusedSimpArgs false
namespace Go.Proofs.YtmllepdkbggpmaaDoor
open Go.RowKit

theorem Gb.fzc {W w : World} (h : Gb W w) {b o : Nat} {v : Value} (hv : W.cell? ⟨b, o, none⟩ = some v) (hz : W.frozen? ⟨b, o, none⟩ = false) : w.frozen? ⟨b, o, none⟩ = false := h.fz (cell_size hv) hz


set_option maxHeartbeats 1000000 in
theorem l2Norm_any {v : Value} {n N : Nat} {w : World} (h : Raw w v n N) (hn : n ≤ 1000000000) :
    Calls Tryd.prog 53 #[v] w fun e w' => ∃ v' k, e = .returned v' ∧ w = w' ∧ Big w v' k N ∧ k ≤ n := by
  obtain ⟨hN, b, cap, rfl, hcap, hmx, hcell⟩ := h
  have hmx' : cap ≤ 9223372036854775807 := hmx
  have HC : Hid _ := hcell
  have HN : Hid _ := hN
  have HM : Hid _ := hmx
  clear hcell hN hmx
  go_enter Tryd.func53, Tryd.ntmps53
  go_wp2
  go_loop [3] (fun i => ∃ k : Nat, k ≤ n ∧ i = .int .i64 k ∧ Hid (N < 4294967296 ^ k)) (fun i => (intOf i).toNat)
  case atStart => exact ⟨n, Nat.le_refl _, rfl, HN.out⟩
  case round =>
    obtain ⟨k, hk, rfl, HK⟩ := hrel
    rcases Nat.eq_zero_or_pos k with rfl | hpos
    · have HF : Hid (Big w (.slice (some ⟨b, 0, none⟩) 0 cap) 0 N) := ⟨⟨HK.out, .inl rfl⟩, HK.out, b, cap, rfl, Nat.zero_le _, HM.out, fun j hj => by omega⟩
      go_wp2
      go_returns
      exact ⟨_, rfl, rfl, _, HF.out, by omega⟩
    · obtain ⟨j, rfl⟩ : ∃ j, k = j + 1 := ⟨k - 1, by omega⟩
      have hc : w.cell? ⟨b, j, none⟩ = some (.int .u32 (dg N j : Int)) := HC.out j (by omega)
      have hjj : ((j + 1 : Nat) : Int) - 1 = (j : Int) := by omega
      by_cases hz : dg N j = 0
      · have HL : Hid _ := low_of_dg HK.out hz
        have hz2 : ((dg N j : Nat) : Int) = 0 := by omega
        rw [hz2] at hc
        clear hz hz2
        go_wp2
        go_round
        case rel => exact ⟨j, by omega, by go_num, HL.out⟩
        case measure => simp [intOf] <;> omega
      · have hz2 : (((dg N j : Nat) : Int) == 0) = false := by simp; omega
        have HF : Hid (Big w (.slice (some ⟨b, 0, none⟩) (j + 1) cap) (j + 1) N) := ⟨⟨HK.out, .inr (ge_of_dg hz)⟩, HK.out, b, cap, rfl, by omega, HM.out, fun i hi => HC.out i (by omega)⟩
        clear hz
        go_wp2
        go_returns
        exact ⟨_, rfl, rfl, _, HF.out, by omega⟩
end Go.Proofs.YtmllepdkbggpmaaDoor
