/- spec.l2Norm, l2Sub and l2Add again, with the block of their answers: it is new. -/
import Derived.Test.YtkflpogmhailhaaDoorBigOwn
set_option linter.unusedVariables false
set_option linter.unusedSimpArgs false
namespace Go.Proofs.YtkflpogmhailhaaDoor
open Go.RowKit

set_option maxHeartbeats 1000000 in
theorem l2Norm_at {b cap n N : Nat} {w : World} (h : Raw w (.slice (some ⟨b, 0, none⟩) n cap) n N) (hn : n ≤ 1000000000) :
    Calls Tryd.prog 69 #[.slice (some ⟨b, 0, none⟩) n cap] w fun e w' => ∃ k, e = .returned (.slice (some ⟨b, 0, none⟩) k cap) ∧ w = w' ∧ Big w (.slice (some ⟨b, 0, none⟩) k cap) k N ∧ k ≤ n := by
  obtain ⟨hN, b1, cap1, hv, hcap, hmx, hcell⟩ := h
  cases hv
  have hmx' : cap ≤ 9223372036854775807 := hmx
  have HC : Hid _ := hcell
  have HN : Hid _ := hN
  have HM : Hid _ := hmx
  clear hcell hN hmx
  go_enter Tryd.func69, Tryd.ntmps69
  go_wp2
  go_loop [3] (fun i => ∃ k : Nat, k ≤ n ∧ i = .int .i64 k ∧ Hid (N < 4294967296 ^ k)) (fun i => (intOf i).toNat)
  case atStart => exact ⟨n, Nat.le_refl _, rfl, HN.out⟩
  case round =>
    obtain ⟨k, hk, rfl, HK⟩ := hrel
    rcases Nat.eq_zero_or_pos k with rfl | hpos
    · have HF : Hid (Big w (.slice (some ⟨b, 0, none⟩) 0 cap) 0 N) := ⟨⟨HK.out, .inl rfl⟩, HK.out, b, cap, rfl, Nat.zero_le _, HM.out, fun j hj => by omega⟩
      go_wp2
      go_returns
      exact ⟨_, rfl, rfl, HF.out, by omega⟩
    · obtain ⟨j, rfl⟩ : ∃ j, k = j + 1 := ⟨k - 1, by omega⟩
      have hc : w.cell? ⟨b, j, none⟩ = some (.int .u32 (dg N j : Int)) := HC.out j (by omega)
      have hjj : ((j + 1 : Nat) : Int) - 1 = (j : Int) := by omega
      by_cases hz : dg N j = 0
      · have HL : Hid _ := low_of_dg HK.out hz
        have hz2 : ((dg N j : Nat) : Int) = 0 := by omega
        rw [hz2] at hc
        clear hz hz2
        go_wp2
        go_round
        case rel => exact ⟨j, by omega, by go_num, HL.out⟩
        case measure => simp [intOf] <;> omega
      · have hz2 : (((dg N j : Nat) : Int) == 0) = false := by simp; omega
        have HF : Hid (Big w (.slice (some ⟨b, 0, none⟩) (j + 1) cap) (j + 1) N) := ⟨⟨HK.out, .inr (ge_of_dg hz)⟩, HK.out, b, cap, rfl, by omega, HM.out, fun i hi => HC.out i (by omega)⟩
        clear hz
        go_wp2
        go_returns
        exact ⟨_, rfl, rfl, HF.out, by omega⟩

set_option maxRecDepth 1000000 in
set_option maxHeartbeats 4000000 in
theorem l2Sub_new {b cap n N b' cap' n' N' M : Nat} {w : World} (hn : n ≤ 1000000) (hN : N < 4294967296 ^ n) (hn' : n' ≤ 1000000) (hN' : N' < 4294967296 ^ n')
    (hcell : ∀ j, j < n → w.cell? ⟨b, j, none⟩ = some (.int .u32 (dg N j : Int))) (hcap : n ≤ cap) (hcell' : ∀ j, j < n' → w.cell? ⟨b', j, none⟩ = some (.int .u32 (dg N' j : Int))) (hcap' : n' ≤ cap') (hle : N' ≤ N) (hM : M = N - N') :
    Calls Tryd.prog 35 #[.slice (some ⟨b, 0, none⟩) n cap, .slice (some ⟨b', 0, none⟩) n' cap'] w fun e w' => ∃ g c k, e = .returned (.slice (some ⟨g, 0, none⟩) k c) ∧ w.heap.size ≤ g ∧ Big w' (.slice (some ⟨g, 0, none⟩) k c) k M ∧ k ≤ n ∧ Gb w w' := by
  have HC : Hid _ := hcell
  have HN : Hid _ := hN
  have HC' : Hid _ := hcell'
  have HN' : Hid _ := hN'
  have HM : Hid _ := hM
  have HL : Hid _ := hle
  clear hcell hN hM hcell' hN' hle
  go_enter Tryd.func35, Tryd.ntmps35
  go_wp2
  go_loopw [5, 6, 7] (fun v c i wr => ∃ k c' : Nat, k ≤ n ∧ i = .int .i64 k ∧ c = .int .u64 c' ∧ Hid (c' = bor N N' k) ∧ Own wr w.heap.size v k M ∧ Gb w wr) (fun _ _ i _ => n - (intOf i).toNat)
  case atStart => exact ⟨0, 0, Nat.zero_le _, rfl, rfl, by show _ = _; rw [bor_zero], own_lit w _, (Gb.refl w).alloc _⟩
  case round =>
    obtain ⟨k, c, hk, rfl, rfl, HCy, hown, hgb⟩ := hrel
    have hsz := hgb.size
    have HO : Hid _ := hown
    have HG : Hid _ := hgb
    clear hown hgb
    by_cases hl : k < n
    · have hc : wr.cell? ⟨b, k, none⟩ = some (.int .u32 (dg N k : Int)) := Gb.old HG.out (HC.out k hl)
      have hl1 : (k : Int) < (n : Int) := by omega
      have e1 := sub_dg N N' k HL.out
      have e2 := bor_succ N N' k
      have c1 := bor_le N N' k
      rw [← HCy.out] at e1 e2 c1
      rw [← HM.out] at e1
      have hd0 := dg_lt N k
      have hd1 := dg_lt N' k
      have hd2 := dg_lt M k
      by_cases hl' : k < n'
      · have hc' : wr.cell? ⟨b', k, none⟩ = some (.int .u32 (dg N' k : Int)) := Gb.old HG.out (HC'.out k hl')
        have hl1' : (k : Int) < (n' : Int) := by omega
        by_cases hb : dg N k < dg N' k + c
        · rw [if_pos hb] at e1 e2
          have HDM : Hid ((dg N k : Int) + 4294967296 - ((c : Int) + (dg N' k : Int)) = (dg M k : Int)) := by show _ = _; omega
          have HE2 : Hid _ := e2
          have hb1 : (dg N k : Int) < (c : Int) + (dg N' k : Int) := by omega
          have hb2 : (dg N k : Int) + 4294967296 - ((c : Int) + (dg N' k : Int)) < 4294967296 := by omega
          clear e1 e2 hd2
          generalize dg N k = t at *
          generalize dg N' k = t' at *
          go_wp2_with (at_builtin; go_loud (refine wpList_push rfl _ _ rfl w.heap.size k M _ wr.heap.size rfl (Own.alloc HO.out _) rfl (by rw [← HDM.out]; simp [go_sem]) (by omega) (by simp [go_sem]; omega) ?_; intro v' w1 hown1 hb1))
          go_roundw
          case rel => exact ⟨k + 1, 1, by omega, by go_num, by go_num, by show _ = _; rw [HE2.out], hown1, Gb.below (Gb.alloc HG.out _) hb1 (Nat.le_refl _)⟩
          case measure => simp [intOf] <;> omega
        · rw [if_neg hb] at e1 e2
          have HDM : Hid ((dg N k : Int) - ((c : Int) + (dg N' k : Int)) = (dg M k : Int)) := by show _ = _; omega
          have HE2 : Hid _ := e2
          have hb1 : ¬ (dg N k : Int) < (c : Int) + (dg N' k : Int) := by omega
          have hb2 : (dg N k : Int) - ((c : Int) + (dg N' k : Int)) < 4294967296 := by omega
          clear e1 e2 hd2
          generalize dg N k = t at *
          generalize dg N' k = t' at *
          go_wp2_with (at_builtin; go_loud (refine wpList_push rfl _ _ rfl w.heap.size k M _ wr.heap.size rfl (Own.alloc HO.out _) rfl (by rw [← HDM.out]; simp [go_sem]) (by omega) (by simp [go_sem]; omega) ?_; intro v' w1 hown1 hb1))
          go_roundw
          case rel => exact ⟨k + 1, 0, by omega, by go_num, by go_num, by show _ = _; rw [HE2.out], hown1, Gb.below (Gb.alloc HG.out _) hb1 (Nat.le_refl _)⟩
          case measure => simp [intOf] <;> omega
      · have hl1' : ¬ (k : Int) < (n' : Int) := by omega
        have hz : dg N' k = 0 := dg_zero HN'.out (by omega)
        rw [hz] at e1 e2
        by_cases hb : dg N k < 0 + c
        · rw [if_pos hb] at e1 e2
          have HDM : Hid ((dg N k : Int) + 4294967296 - (c : Int) = (dg M k : Int)) := by show _ = _; omega
          have HE2 : Hid _ := e2
          have hb1 : (dg N k : Int) < (c : Int) := by omega
          have hb2 : (dg N k : Int) + 4294967296 - (c : Int) < 4294967296 := by omega
          clear e1 e2 hd2 hz hd1 hb
          generalize dg N k = t at *
          go_wp2_with (at_builtin; go_loud (refine wpList_push rfl _ _ rfl w.heap.size k M _ wr.heap.size rfl (Own.alloc HO.out _) rfl (by rw [← HDM.out]; simp [go_sem]) (by omega) (by simp [go_sem]; omega) ?_; intro v' w1 hown1 hb1))
          go_roundw
          case rel => exact ⟨k + 1, 1, by omega, by go_num, by go_num, by show _ = _; rw [HE2.out], hown1, Gb.below (Gb.alloc HG.out _) hb1 (Nat.le_refl _)⟩
          case measure => simp [intOf] <;> omega
        · rw [if_neg hb] at e1 e2
          have HDM : Hid ((dg N k : Int) - (c : Int) = (dg M k : Int)) := by show _ = _; omega
          have HE2 : Hid _ := e2
          have hb1 : ¬ (dg N k : Int) < (c : Int) := by omega
          have hb2 : (dg N k : Int) - (c : Int) < 4294967296 := by omega
          clear e1 e2 hd2 hz hd1 hb
          generalize dg N k = t at *
          go_wp2_with (at_builtin; go_loud (refine wpList_push rfl _ _ rfl w.heap.size k M _ wr.heap.size rfl (Own.alloc HO.out _) rfl (by rw [← HDM.out]; simp [go_sem]) (by omega) (by simp [go_sem]; omega) ?_; intro v' w1 hown1 hb1))
          go_roundw
          case rel => exact ⟨k + 1, 0, by omega, by go_num, by go_num, by show _ = _; rw [HE2.out], hown1, Gb.below (Gb.alloc HG.out _) hb1 (Nat.le_refl _)⟩
          case measure => simp [intOf] <;> omega
    · have hl1 : ¬ (k : Int) < (n : Int) := by omega
      have HF : Hid (M < 4294967296 ^ k) := by
        have h1 := HN.out
        show _ < _
        rw [HM.out, show k = n by omega]; omega
      obtain ⟨g, c0, rfl, hbg, hcg⟩ := Own.where HO.out
      go_wp2_with (go_at_call 69; refine (l2Norm_at (Own.raw HO.out HF.out) (by omega)).mono ?_; rintro e w' ⟨k', rfl, hw, hbig, hk'⟩; subst hw)
      go_returns
      exact ⟨_, _, _, rfl, hbg, hbig, by omega, HG.out⟩

set_option maxRecDepth 1000000 in
set_option maxHeartbeats 4000000 in
theorem l2Add_new {b cap n N b' cap' n' N' M : Nat} {w : World} (hn : n ≤ 1000000) (hN : N < 4294967296 ^ n) (hn' : n' ≤ 1000000) (hN' : N' < 4294967296 ^ n')
    (hcell : ∀ j, j < n → w.cell? ⟨b, j, none⟩ = some (.int .u32 (dg N j : Int))) (hcap : n ≤ cap) (hcell' : ∀ j, j < n' → w.cell? ⟨b', j, none⟩ = some (.int .u32 (dg N' j : Int))) (hcap' : n' ≤ cap') (hM : M = N + N') :
    Calls Tryd.prog 71 #[.slice (some ⟨b, 0, none⟩) n cap, .slice (some ⟨b', 0, none⟩) n' cap'] w fun e w' => ∃ g c k, e = .returned (.slice (some ⟨g, 0, none⟩) k c) ∧ w.heap.size ≤ g ∧ Big w' (.slice (some ⟨g, 0, none⟩) k c) k M ∧ k ≤ n + n' + 1 ∧ Gb w w' := by
  have HC : Hid _ := hcell
  have HN : Hid _ := hN
  have HC' : Hid _ := hcell'
  have HN' : Hid _ := hN'
  have HM : Hid _ := hM
  clear hcell hN hM hcell' hN'
  go_enter Tryd.func71, Tryd.ntmps71
  go_wp2
  go_loopw [5, 6, 7] (fun v c i wr => ∃ k c' : Nat, (k ≤ n ∨ k ≤ n') ∧ i = .int .i64 k ∧ c = .int .u64 c' ∧ Hid (c' = (N % 4294967296 ^ k + N' % 4294967296 ^ k) / 4294967296 ^ k) ∧ Own wr w.heap.size v k M ∧ Gb w wr) (fun _ _ i _ => n + n' - (intOf i).toNat)
  case atStart => exact ⟨0, 0, .inl (Nat.zero_le _), rfl, rfl, by show _ = _; simp [Nat.mod_one], own_lit w _, (Gb.refl w).alloc _⟩
  case round =>
    obtain ⟨k, c, hk, rfl, rfl, HCy, hown, hgb⟩ := hrel
    have hsz := hgb.size
    have HO : Hid _ := hown
    have HG : Hid _ := hgb
    clear hown hgb
    obtain ⟨e1, e2, c1⟩ := add_carry N N' k c HCy.out
    have hd0 := dg_lt N k
    have hd1 := dg_lt N' k
    have HDM : Hid (((c : Int) + (dg N k : Int) + (dg N' k : Int)) % 4294967296 = (dg M k : Int)) := by show _ = _; rw [HM.out, e1]; omega
    have HE2 : Hid _ := e2
    clear e1 e2
    by_cases hl : k < n
    · have hc : wr.cell? ⟨b, k, none⟩ = some (.int .u32 (dg N k : Int)) := Gb.old HG.out (HC.out k hl)
      have hl1 : (k : Int) < (n : Int) := by omega
      by_cases hl' : k < n'
      · have hc' : wr.cell? ⟨b', k, none⟩ = some (.int .u32 (dg N' k : Int)) := Gb.old HG.out (HC'.out k hl')
        have hl1' : (k : Int) < (n' : Int) := by omega
        generalize dg N k = t at *
        generalize dg N' k = t' at *
        go_wp2_with (at_builtin; go_loud (refine wpList_push rfl _ _ rfl w.heap.size k M _ wr.heap.size rfl (Own.alloc HO.out _) rfl (by rw [← HDM.out]; simp [go_sem]) (by omega) (by simp [go_sem]; omega) ?_; intro v' w1 hown1 hb1))
        go_roundw
        case rel => exact ⟨k + 1, (c + t + t') / 4294967296, .inl (by omega), by go_num, by go_num, by show _ = _; rw [HE2.out], hown1, Gb.below (Gb.alloc HG.out _) hb1 (Nat.le_refl _)⟩
        case measure => simp [intOf] <;> omega
      · have hl1' : ¬ (k : Int) < (n' : Int) := by omega
        have hz : dg N' k = 0 := dg_zero HN'.out (by omega)
        rw [hz] at HE2
        have HDM2 : Hid (((c : Int) + (dg N k : Int)) % 4294967296 = (dg M k : Int)) := by show _ = _; rw [← HDM.out, hz]; simp
        clear hz HDM hd1
        generalize dg N k = t at *
        go_wp2_with (at_builtin; go_loud (refine wpList_push rfl _ _ rfl w.heap.size k M _ wr.heap.size rfl (Own.alloc HO.out _) rfl (by rw [← HDM2.out]; simp [go_sem]) (by omega) (by simp [go_sem]; omega) ?_; intro v' w1 hown1 hb1))
        go_roundw
        case rel => exact ⟨k + 1, (c + t) / 4294967296, .inl (by omega), by go_num, by go_num, by show _ = _; rw [HE2.out]; rfl, hown1, Gb.below (Gb.alloc HG.out _) hb1 (Nat.le_refl _)⟩
        case measure => simp [intOf] <;> omega
    · have hl1 : ¬ (k : Int) < (n : Int) := by omega
      have hz : dg N k = 0 := dg_zero HN.out (by omega)
      by_cases hl' : k < n'
      · have hc' : wr.cell? ⟨b', k, none⟩ = some (.int .u32 (dg N' k : Int)) := Gb.old HG.out (HC'.out k hl')
        have hl1' : (k : Int) < (n' : Int) := by omega
        rw [hz] at HE2
        have HDM2 : Hid (((c : Int) + (dg N' k : Int)) % 4294967296 = (dg M k : Int)) := by show _ = _; rw [← HDM.out, hz]; simp
        clear hz HDM hd0
        generalize dg N' k = t at *
        go_wp2_with (at_builtin; go_loud (refine wpList_push rfl _ _ rfl w.heap.size k M _ wr.heap.size rfl (Own.alloc HO.out _) rfl (by rw [← HDM2.out]; simp [go_sem]) (by omega) (by simp [go_sem]; omega) ?_; intro v' w1 hown1 hb1))
        go_roundw
        case rel => exact ⟨k + 1, (c + t) / 4294967296, .inr (by omega), by go_num, by go_num, by show _ = _; rw [HE2.out]; rfl, hown1, Gb.below (Gb.alloc HG.out _) hb1 (Nat.le_refl _)⟩
        case measure => simp [intOf] <;> omega
      · have hl1' : ¬ (k : Int) < (n' : Int) := by omega
        have HDM2 : Hid ((c : Int) = (dg M k : Int)) := by
          have := add_end HN.out HN'.out (show n ≤ k by omega) (show n' ≤ k by omega)
          show _ = _; rw [HM.out, this, ← HCy.out]
        have HF : Hid (M < 4294967296 ^ (k + 1)) := by
          have := add_lt_pw HN.out HN'.out (show n ≤ k by omega) (show n' ≤ k by omega)
          show _ < _; rw [HM.out]; exact this
        clear hz HDM hd0 hd1 HE2
        have hkb : k ≤ n + n' := by omega
        go_wp2_with (first
          | (at_builtin; go_loud (refine wpList_push rfl _ _ rfl w.heap.size k M _ wr.heap.size rfl (Own.alloc HO.out _) rfl (by rw [← HDM2.out]; simp [go_sem]) (by omega) (by simp [go_sem]; omega) ?_; intro v' w1 hown1 hb1; obtain ⟨g, c0, rfl, hbg, hcg⟩ := Own.where hown1))
          | (go_at_call 69; refine (l2Norm_at (Own.raw hown1 HF.out) (by omega)).mono ?_; rintro e w' ⟨k', rfl, hw, hbig, hk'⟩; subst hw))
        go_returns
        exact ⟨_, _, _, rfl, hbg, hbig, by omega, Gb.below (Gb.alloc HG.out _) hb1 (Nat.le_refl _)⟩
end Go.Proofs.YtkflpogmhailhaaDoor
