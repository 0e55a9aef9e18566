/- spec.l2Add. -/
import Derived.Test.YtmllepdkbggpmaaDoorBigShl
set_option linter.unusedVariables false
set_option linter.unusedSimpArgs false
namespace Go.Proofs.YtmllepdkbggpmaaDoor
open Go.RowKit

set_option maxRecDepth 1000000 in
set_option maxHeartbeats 4000000 in
theorem l2Add_core {b cap n N b' cap' n' N' M : Nat} {w : World} (hn : n ≤ 1000000) (hN : N < 4294967296 ^ n) (hn' : n' ≤ 1000000) (hN' : N' < 4294967296 ^ n')
    (hcell : ∀ j, j < n → w.cell? ⟨b, j, none⟩ = some (.int .u32 (dg N j : Int))) (hcap : n ≤ cap) (hcell' : ∀ j, j < n' → w.cell? ⟨b', j, none⟩ = some (.int .u32 (dg N' j : Int))) (hcap' : n' ≤ cap') (hM : M = N + N') :
    Calls Tryd.prog 78 #[.slice (some ⟨b, 0, none⟩) n cap, .slice (some ⟨b', 0, none⟩) n' cap'] w fun e w' => ∃ v' k, e = .returned v' ∧ Big w' v' k M ∧ k ≤ n + n' + 1 ∧ Gb w w' := by
  have HC : Hid _ := hcell
  have HN : Hid _ := hN
  have HC' : Hid _ := hcell'
  have HN' : Hid _ := hN'
  have HM : Hid _ := hM
  clear hcell hN hM hcell' hN'
  go_enter Tryd.func78, Tryd.ntmps78
  go_wp2
  go_loopw [5, 6, 7] (fun v c i wr => ∃ k c' : Nat, (k ≤ n ∨ k ≤ n') ∧ i = .int .i64 k ∧ c = .int .u64 c' ∧ Hid (c' = (N % 4294967296 ^ k + N' % 4294967296 ^ k) / 4294967296 ^ k) ∧ Own wr w.heap.size v k M ∧ Gb w wr) (fun _ _ i _ => n + n' - (intOf i).toNat)
  case atStart => exact ⟨0, 0, .inl (Nat.zero_le _), rfl, rfl, by show _ = _; simp [Nat.mod_one], own_lit w _, (Gb.refl w).alloc _⟩
  case round =>
    obtain ⟨k, c, hk, rfl, rfl, HCy, hown, hgb⟩ := hrel
    have hsz := hgb.size
    have HO : Hid _ := hown
    have HG : Hid _ := hgb
    clear hown hgb
    obtain ⟨e1, e2, c1⟩ := add_carry N N' k c HCy.out
    have hd0 := dg_lt N k
    have hd1 := dg_lt N' k
    have HDM : Hid (((c : Int) + (dg N k : Int) + (dg N' k : Int)) % 4294967296 = (dg M k : Int)) := by show _ = _; rw [HM.out, e1]; omega
    have HE2 : Hid _ := e2
    clear e1 e2
    by_cases hl : k < n
    · have hc : wr.cell? ⟨b, k, none⟩ = some (.int .u32 (dg N k : Int)) := Gb.old HG.out (HC.out k hl)
      have hl1 : (k : Int) < (n : Int) := by omega
      by_cases hl' : k < n'
      · have hc' : wr.cell? ⟨b', k, none⟩ = some (.int .u32 (dg N' k : Int)) := Gb.old HG.out (HC'.out k hl')
        have hl1' : (k : Int) < (n' : Int) := by omega
        generalize dg N k = t at *
        generalize dg N' k = t' at *
        go_wp2_with (at_builtin; go_loud (refine wpList_push rfl _ _ rfl w.heap.size k M _ wr.heap.size rfl (Own.alloc HO.out _) rfl (by rw [← HDM.out]; simp [go_sem]) (by omega) (by simp [go_sem]; omega) ?_; intro v' w1 hown1 hb1))
        go_roundw
        case rel => exact ⟨k + 1, (c + t + t') / 4294967296, .inl (by omega), by go_num, by go_num, by show _ = _; rw [HE2.out], hown1, Gb.below (Gb.alloc HG.out _) hb1 (Nat.le_refl _)⟩
        case measure => simp [intOf] <;> omega
      · have hl1' : ¬ (k : Int) < (n' : Int) := by omega
        have hz : dg N' k = 0 := dg_zero HN'.out (by omega)
        rw [hz] at HE2
        have HDM2 : Hid (((c : Int) + (dg N k : Int)) % 4294967296 = (dg M k : Int)) := by show _ = _; rw [← HDM.out, hz]; simp
        clear hz HDM hd1
        generalize dg N k = t at *
        go_wp2_with (at_builtin; go_loud (refine wpList_push rfl _ _ rfl w.heap.size k M _ wr.heap.size rfl (Own.alloc HO.out _) rfl (by rw [← HDM2.out]; simp [go_sem]) (by omega) (by simp [go_sem]; omega) ?_; intro v' w1 hown1 hb1))
        go_roundw
        case rel => exact ⟨k + 1, (c + t) / 4294967296, .inl (by omega), by go_num, by go_num, by show _ = _; rw [HE2.out]; rfl, hown1, Gb.below (Gb.alloc HG.out _) hb1 (Nat.le_refl _)⟩
        case measure => simp [intOf] <;> omega
    · have hl1 : ¬ (k : Int) < (n : Int) := by omega
      have hz : dg N k = 0 := dg_zero HN.out (by omega)
      by_cases hl' : k < n'
      · have hc' : wr.cell? ⟨b', k, none⟩ = some (.int .u32 (dg N' k : Int)) := Gb.old HG.out (HC'.out k hl')
        have hl1' : (k : Int) < (n' : Int) := by omega
        rw [hz] at HE2
        have HDM2 : Hid (((c : Int) + (dg N' k : Int)) % 4294967296 = (dg M k : Int)) := by show _ = _; rw [← HDM.out, hz]; simp
        clear hz HDM hd0
        generalize dg N' k = t at *
        go_wp2_with (at_builtin; go_loud (refine wpList_push rfl _ _ rfl w.heap.size k M _ wr.heap.size rfl (Own.alloc HO.out _) rfl (by rw [← HDM2.out]; simp [go_sem]) (by omega) (by simp [go_sem]; omega) ?_; intro v' w1 hown1 hb1))
        go_roundw
        case rel => exact ⟨k + 1, (c + t) / 4294967296, .inr (by omega), by go_num, by go_num, by show _ = _; rw [HE2.out]; rfl, hown1, Gb.below (Gb.alloc HG.out _) hb1 (Nat.le_refl _)⟩
        case measure => simp [intOf] <;> omega
      · have hl1' : ¬ (k : Int) < (n' : Int) := by omega
        have HDM2 : Hid ((c : Int) = (dg M k : Int)) := by
          have := add_end HN.out HN'.out (show n ≤ k by omega) (show n' ≤ k by omega)
          show _ = _; rw [HM.out, this, ← HCy.out]
        have HF : Hid (M < 4294967296 ^ (k + 1)) := by
          have := add_lt_pw HN.out HN'.out (show n ≤ k by omega) (show n' ≤ k by omega)
          show _ < _; rw [HM.out]; exact this
        clear hz HDM hd0 hd1 HE2
        have hkb : k ≤ n + n' := by omega
        go_wp2_with (first
          | (at_builtin; go_loud (refine wpList_push rfl _ _ rfl w.heap.size k M _ wr.heap.size rfl (Own.alloc HO.out _) rfl (by rw [← HDM2.out]; simp [go_sem]) (by omega) (by simp [go_sem]; omega) ?_; intro v' w1 hown1 hb1))
          | (go_at_call 53; refine (l2Norm_any (Own.raw hown1 HF.out) (by omega)).mono ?_; rintro e w' ⟨v'', k', rfl, hw, hbig, hk'⟩; subst hw))
        go_returns
        exact ⟨_, _, rfl, hbig, by omega, Gb.below (Gb.alloc HG.out _) hb1 (Nat.le_refl _)⟩

theorem l2Add_any {v v2 : Value} {n N n' N' : Nat} {w : World} (h : Big w v n N) (hn : n ≤ 1000000) (h' : Big w v2 n' N') (hn' : n' ≤ 1000000) :
    Calls Tryd.prog 78 #[v, v2] w fun e w' => ∃ v' k, e = .returned v' ∧ Big w' v' k (N + N') ∧ k ≤ n + n' + 1 ∧ Gb w w' := by
  obtain ⟨hnm, hN, b, cap, rfl, hcap, hmx, hcell⟩ := h
  obtain ⟨hnm', hN', b', cap', rfl, hcap', hmx', hcell'⟩ := h'
  exact l2Add_core hn hN hn' hN' hcell hcap hcell' hcap' rfl
end Go.Proofs.YtmllepdkbggpmaaDoor
