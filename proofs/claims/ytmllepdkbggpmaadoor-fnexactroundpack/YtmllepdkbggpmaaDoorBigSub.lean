/- spec.l2Sub. -/
import Derived.Test.YtmllepdkbggpmaaDoorBigShl
set_option linter.unusedVariables false
set_option linter.unusedSimpArgs false
namespace Go.Proofs.YtmllepdkbggpmaaDoor
open Go.RowKit

set_option maxRecDepth 1000000 in
set_option maxHeartbeats 4000000 in
theorem l2Sub_core {b cap n N b' cap' n' N' M : Nat} {w : World} (hn : n ≤ 1000000) (hN : N < 4294967296 ^ n) (hn' : n' ≤ 1000000) (hN' : N' < 4294967296 ^ n')
    (hcell : ∀ j, j < n → w.cell? ⟨b, j, none⟩ = some (.int .u32 (dg N j : Int))) (hcap : n ≤ cap) (hcell' : ∀ j, j < n' → w.cell? ⟨b', j, none⟩ = some (.int .u32 (dg N' j : Int))) (hcap' : n' ≤ cap') (hle : N' ≤ N) (hM : M = N - N') :
    Calls Tryd.prog 75 #[.slice (some ⟨b, 0, none⟩) n cap, .slice (some ⟨b', 0, none⟩) n' cap'] w fun e w' => ∃ v' k, e = .returned v' ∧ Big w' v' k M ∧ k ≤ n ∧ Gb w w' := by
  have HC : Hid _ := hcell
  have HN : Hid _ := hN
  have HC' : Hid _ := hcell'
  have HN' : Hid _ := hN'
  have HM : Hid _ := hM
  have HL : Hid _ := hle
  clear hcell hN hM hcell' hN' hle
  go_enter Tryd.func75, Tryd.ntmps75
  go_wp2
  go_loopw [5, 6, 7] (fun v c i wr => ∃ k c' : Nat, k ≤ n ∧ i = .int .i64 k ∧ c = .int .u64 c' ∧ Hid (c' = bor N N' k) ∧ Own wr w.heap.size v k M ∧ Gb w wr) (fun _ _ i _ => n - (intOf i).toNat)
  case atStart => exact ⟨0, 0, Nat.zero_le _, rfl, rfl, by show _ = _; rw [bor_zero], own_lit w _, (Gb.refl w).alloc _⟩
  case round =>
    obtain ⟨k, c, hk, rfl, rfl, HCy, hown, hgb⟩ := hrel
    have hsz := hgb.size
    have HO : Hid _ := hown
    have HG : Hid _ := hgb
    clear hown hgb
    by_cases hl : k < n
    · have hc : wr.cell? ⟨b, k, none⟩ = some (.int .u32 (dg N k : Int)) := Gb.old HG.out (HC.out k hl)
      have hl1 : (k : Int) < (n : Int) := by omega
      have e1 := sub_dg N N' k HL.out
      have e2 := bor_succ N N' k
      have c1 := bor_le N N' k
      rw [← HCy.out] at e1 e2 c1
      rw [← HM.out] at e1
      have hd0 := dg_lt N k
      have hd1 := dg_lt N' k
      have hd2 := dg_lt M k
      by_cases hl' : k < n'
      · have hc' : wr.cell? ⟨b', k, none⟩ = some (.int .u32 (dg N' k : Int)) := Gb.old HG.out (HC'.out k hl')
        have hl1' : (k : Int) < (n' : Int) := by omega
        by_cases hb : dg N k < dg N' k + c
        · rw [if_pos hb] at e1 e2
          have HDM : Hid ((dg N k : Int) + 4294967296 - ((c : Int) + (dg N' k : Int)) = (dg M k : Int)) := by show _ = _; omega
          have HE2 : Hid _ := e2
          have hb1 : (dg N k : Int) < (c : Int) + (dg N' k : Int) := by omega
          have hb2 : (dg N k : Int) + 4294967296 - ((c : Int) + (dg N' k : Int)) < 4294967296 := by omega
          clear e1 e2 hd2
          generalize dg N k = t at *
          generalize dg N' k = t' at *
          go_wp2_with (at_builtin; go_loud (refine wpList_push rfl _ _ rfl w.heap.size k M _ wr.heap.size rfl (Own.alloc HO.out _) rfl (by rw [← HDM.out]; simp [go_sem]) (by omega) (by simp [go_sem]; omega) ?_; intro v' w1 hown1 hb1))
          go_roundw
          case rel => exact ⟨k + 1, 1, by omega, by go_num, by go_num, by show _ = _; rw [HE2.out], hown1, Gb.below (Gb.alloc HG.out _) hb1 (Nat.le_refl _)⟩
          case measure => simp [intOf] <;> omega
        · rw [if_neg hb] at e1 e2
          have HDM : Hid ((dg N k : Int) - ((c : Int) + (dg N' k : Int)) = (dg M k : Int)) := by show _ = _; omega
          have HE2 : Hid _ := e2
          have hb1 : ¬ (dg N k : Int) < (c : Int) + (dg N' k : Int) := by omega
          have hb2 : (dg N k : Int) - ((c : Int) + (dg N' k : Int)) < 4294967296 := by omega
          clear e1 e2 hd2
          generalize dg N k = t at *
          generalize dg N' k = t' at *
          go_wp2_with (at_builtin; go_loud (refine wpList_push rfl _ _ rfl w.heap.size k M _ wr.heap.size rfl (Own.alloc HO.out _) rfl (by rw [← HDM.out]; simp [go_sem]) (by omega) (by simp [go_sem]; omega) ?_; intro v' w1 hown1 hb1))
          go_roundw
          case rel => exact ⟨k + 1, 0, by omega, by go_num, by go_num, by show _ = _; rw [HE2.out], hown1, Gb.below (Gb.alloc HG.out _) hb1 (Nat.le_refl _)⟩
          case measure => simp [intOf] <;> omega
      · have hl1' : ¬ (k : Int) < (n' : Int) := by omega
        have hz : dg N' k = 0 := dg_zero HN'.out (by omega)
        rw [hz] at e1 e2
        by_cases hb : dg N k < 0 + c
        · rw [if_pos hb] at e1 e2
          have HDM : Hid ((dg N k : Int) + 4294967296 - (c : Int) = (dg M k : Int)) := by show _ = _; omega
          have HE2 : Hid _ := e2
          have hb1 : (dg N k : Int) < (c : Int) := by omega
          have hb2 : (dg N k : Int) + 4294967296 - (c : Int) < 4294967296 := by omega
          clear e1 e2 hd2 hz hd1 hb
          generalize dg N k = t at *
          go_wp2_with (at_builtin; go_loud (refine wpList_push rfl _ _ rfl w.heap.size k M _ wr.heap.size rfl (Own.alloc HO.out _) rfl (by rw [← HDM.out]; simp [go_sem]) (by omega) (by simp [go_sem]; omega) ?_; intro v' w1 hown1 hb1))
          go_roundw
          case rel => exact ⟨k + 1, 1, by omega, by go_num, by go_num, by show _ = _; rw [HE2.out], hown1, Gb.below (Gb.alloc HG.out _) hb1 (Nat.le_refl _)⟩
          case measure => simp [intOf] <;> omega
        · rw [if_neg hb] at e1 e2
          have HDM : Hid ((dg N k : Int) - (c : Int) = (dg M k : Int)) := by show _ = _; omega
          have HE2 : Hid _ := e2
          have hb1 : ¬ (dg N k : Int) < (c : Int) := by omega
          have hb2 : (dg N k : Int) - (c : Int) < 4294967296 := by omega
          clear e1 e2 hd2 hz hd1 hb
          generalize dg N k = t at *
          go_wp2_with (at_builtin; go_loud (refine wpList_push rfl _ _ rfl w.heap.size k M _ wr.heap.size rfl (Own.alloc HO.out _) rfl (by rw [← HDM.out]; simp [go_sem]) (by omega) (by simp [go_sem]; omega) ?_; intro v' w1 hown1 hb1))
          go_roundw
          case rel => exact ⟨k + 1, 0, by omega, by go_num, by go_num, by show _ = _; rw [HE2.out], hown1, Gb.below (Gb.alloc HG.out _) hb1 (Nat.le_refl _)⟩
          case measure => simp [intOf] <;> omega
    · have hl1 : ¬ (k : Int) < (n : Int) := by omega
      have HF : Hid (M < 4294967296 ^ k) := by
        have h1 := HN.out
        show _ < _
        rw [HM.out, show k = n by omega]; omega
      go_wp2_with (go_at_call 53; refine (l2Norm_any (Own.raw HO.out HF.out) (by omega)).mono ?_; rintro e w' ⟨v'', k', rfl, hw, hbig, hk'⟩; subst hw)
      go_returns
      exact ⟨_, _, rfl, hbig, by omega, HG.out⟩

theorem l2Sub_any {v v2 : Value} {n N n' N' : Nat} {w : World} (h : Big w v n N) (hn : n ≤ 1000000) (h' : Big w v2 n' N') (hn' : n' ≤ 1000000) (hle : N' ≤ N) :
    Calls Tryd.prog 75 #[v, v2] w fun e w' => ∃ v' k, e = .returned v' ∧ Big w' v' k (N - N') ∧ k ≤ n ∧ Gb w w' := by
  obtain ⟨hnm, hN, b, cap, rfl, hcap, hmx, hcell⟩ := h
  obtain ⟨hnm', hN', b', cap', rfl, hcap', hmx', hcell'⟩ := h'
  exact l2Sub_core hn hN hn' hN' hcell hcap hcell' hcap' hle rfl
end Go.Proofs.YtmllepdkbggpmaaDoor
