/- spec.l2Shl, l2Shr, l2Sub, l2Add. -/
import Derived.Test.YtkflpogmhailhaaGreatDoorA7
import Derived.Deep.RegionHeld3
set_option linter.unusedVariables false
set_option linter.unusedSimpArgs false

namespace Go.Proofs.YtkflpogmhailhaaGreatDoor
open Go.RowKit

theorem own_lit (w : World) (N : Nat) : Own (w.alloc (.cells #[] 64)) w.heap.size (.slice (some ⟨w.heap.size, 0, none⟩) 0 0) 0 N := by
  refine ⟨?_, by simp⟩
  have := World.ownsRow_lit (base := w.heap.size) (e := 64) (size := 1) w #[] 0 (Nat.le_refl _) (Nat.zero_le _) rfl
  simpa [wds_zero] using this

set_option maxRecDepth 1000000 in
set_option maxHeartbeats 2000000 in
theorem l2Shl_pos {b cap n N M : Nat} {w : World} (z r : Nat) (hr : r < 32) (hz : z ≤ 1000000) (hn : n ≤ 1000000) (hpos : 0 < n) (hN : N < 4294967296 ^ n)
    (hcell : ∀ j, j < n → w.cell? ⟨b, j, none⟩ = some (.int .u32 (dg N j : Int))) (hcap : n ≤ cap) (s : Nat) (hs : s = 32 * z + r) (hM : M = N * 2 ^ (32 * z + r)) :
    Calls Tryz.prog 44 #[.slice (some ⟨b, 0, none⟩) n cap, .int .i64 s] w fun e w' => ∃ v' k, e = .returned v' ∧ Big w' v' k M ∧ k ≤ n + z + 1 ∧ Gb w w' := by
  have HC : Hid _ := hcell
  have HN : Hid _ := hN
  have HM : Hid _ := hM
  have hq : (s : Int) / 32 = (z : Int) := by omega
  have hm : (s : Int) % 32 = (r : Int) := by omega
  have hs1 : s ≤ 100000000 := by omega
  have HS : Hid _ := hs
  have n0 : ((n : Int) == 0) = false := by simp; omega
  clear hcell hN hs hM
  go_enter Tryz.func44, Tryz.ntmps44
  go_wp2
  go_loopw [5, 6] (fun v i wr => ∃ k : Nat, k ≤ z ∧ i = .int .i64 k ∧ Own wr w.heap.size v k M ∧ Gb w wr) (fun _ i _ => z - (intOf i).toNat)
  case atStart => exact ⟨0, Nat.zero_le _, rfl, own_lit w _, (Gb.refl w).alloc _⟩
  case round =>
    obtain ⟨k, hk, rfl, hown, hgb⟩ := hrel
    by_cases hlt : k < z
    · have hlt' : (k : Int) < (z : Int) := by omega
      have hd : ((dg M k : Nat) : Int) = 0 := by rw [HM.out, shl_low N r z k hlt]; rfl
      have HD : Hid _ := hd
      have hsz := hgb.size
      have HO : Hid _ := hown
      have HG : Hid _ := hgb
      clear hd hown hgb
      go_wp2_with (at_builtin; refine wpList_push rfl _ _ rfl w.heap.size k M _ wr.heap.size rfl (Own.alloc HO.out _) rfl (by rw [HD.out]; simp [go_sem]) (by omega) (by simp [go_sem]; omega) ?_; intro v' w1 hown1 hb1)
      go_roundw
      case rel => exact ⟨k + 1, by omega, by go_num, hown1, Gb.below (Gb.alloc HG.out _) hb1 (Nat.le_refl _)⟩
      case measure => simp [intOf] <;> omega
    · obtain rfl : k = z := by omega
      go_wp2
      go_loopw [5, 7, 8] (fun v c i wr' => ∃ i' c' : Nat, i' ≤ n ∧ i = .int .i64 i' ∧ c = .int .u64 c' ∧ Hid (c' = N % 4294967296 ^ i' * 2 ^ r / 4294967296 ^ i') ∧ Own wr' w.heap.size v (k + i') M ∧ Gb w wr') (fun _ _ i _ => n - (intOf i).toNat)
      case atStart => exact ⟨0, 0, Nat.zero_le _, rfl, rfl, by show _ = _; simp [Nat.mod_one], hown, hgb⟩
      case round =>
        obtain ⟨i, c, hi, rfl, rfl, HCy, hown2, hgb2⟩ := hrel
        have hcl := shl_carry_lt N r i hr
        rw [← HCy.out] at hcl
        have hsz := hgb2.size
        have HO : Hid _ := hown2
        have HG : Hid _ := hgb2
        clear hown2 hgb2
        by_cases hin : i < n
        · have hin' : (i : Int) < (n : Int) := by omega
          have hc : wr.cell? ⟨b, i, none⟩ = some (.int .u32 (dg N i : Int)) := Gb.old HG.out (HC.out i hin)
          obtain ⟨e1, e2⟩ := shl_carry N r i c HCy.out
          have hdl := dg_lt N i
          obtain ⟨b1, b2⟩ := shl_small (dg N i) r c hdl hr hcl
          have hdm : dg M (k + i) = (dg N i * 2 ^ r + c) % 4294967296 := by rw [HM.out, shl_dg, e1]
          obtain ⟨y, hy⟩ : ∃ y : Nat, y = dg N i * 2 ^ r := ⟨_, rfl⟩
          have hw1 : IntKind.u64.wrap ((dg N i : Int) * 2 ^ r) = (y : Int) := by
            have e : (dg N i : Int) * 2 ^ r = (y : Int) := by rw [hy]; push_cast; rfl
            rw [e, IntKind.wrap_u64]; omega
          rw [← hy] at b1 b2 hdm e2
          have HDM : Hid ((((y : Int) + (c : Int)) % 4294967296) = (dg M (k + i) : Int)) := by show _ = _; rw [hdm]; omega
          have HE2 : Hid _ := e2
          clear hy e1 e2 hdm
          generalize dg N i = t at *
          go_wp2_with (at_builtin; refine wpList_push rfl _ _ rfl w.heap.size (k + i) M _ wr.heap.size rfl (Own.alloc HO.out _) rfl (by rw [← HDM.out]; simp [go_sem]) (by omega) (by simp [go_sem]; omega) ?_; intro v' w1 hown1 hb1)
          go_roundw
          case rel => exact ⟨i + 1, (y + c) / 4294967296, by omega, by go_num, by go_num, by show _ = _; rw [HE2.out], hown1, Gb.below (Gb.alloc HG.out _) hb1 (Nat.le_refl _)⟩
          case measure => simp [intOf] <;> omega
        · obtain rfl : i = n := by omega
          obtain ⟨f1, f2⟩ := shl_end N r k i HN.out hr
          have HDM : Hid ((c : Int) = (dg M (k + i) : Int)) := by show _ = _; rw [HM.out, f1, ← HCy.out]
          have HF2 : Hid (M < 4294967296 ^ (k + i + 1)) := by show _ < _; rw [HM.out]; exact f2
          clear f1 f2
          go_wp2_with (first
            | (at_builtin; refine wpList_push rfl _ _ rfl w.heap.size (k + i) M _ wr.heap.size rfl (Own.alloc HO.out _) rfl (by rw [← HDM.out]; simp [go_sem]) (by omega) (by simp [go_sem]; omega) ?_; intro v' w1 hown1 hb1)
            | (go_at_call 96; refine (l2Norm_any (Own.raw hown1 HF2.out) (by omega)).mono ?_; rintro e w' ⟨v'', k', rfl, hw, hbig, hk'⟩; subst hw))
          go_returns
          exact ⟨_, _, rfl, hbig, by omega, Gb.below (Gb.alloc HG.out _) hb1 (Nat.le_refl _)⟩

theorem l2Shl_any {v : Value} {n N : Nat} {w : World} (h : Big w v n N) (hn : n ≤ 1000000) (s : Nat) (hs : s ≤ 10000000) :
    Calls Tryz.prog 44 #[v, .int .i64 s] w fun e w' => ∃ v' k, e = .returned v' ∧ Big w' v' k (N * 2 ^ s) ∧ k ≤ n + s / 32 + 1 ∧ Gb w w' := by
  obtain ⟨hnm, hN, b, cap, rfl, hcap, hmx, hcell⟩ := h
  rcases Nat.eq_zero_or_pos n with rfl | hpos
  · have e : N * 2 ^ s = N := by rw [hnm.zero]; simp
    rw [e]
    have HB : Hid (Big w (.slice (some ⟨b, 0, none⟩) 0 cap) 0 N) := ⟨hnm, hN, b, cap, rfl, hcap, hmx, hcell⟩
    clear hcell hnm hN e
    go_enter Tryz.func44, Tryz.ntmps44
    go_wp2
    go_returns
    exact ⟨_, _, rfl, HB.out, by omega, Gb.refl w⟩
  · have e : 32 * (s / 32) + s % 32 = s := by omega
    refine (l2Shl_pos (M := N * 2 ^ s) (s / 32) (s % 32) (by omega) (by omega) hn hpos hN hcell hcap s (by omega) (by rw [e])).mono ?_
    exact fun _ _ h => h
end Go.Proofs.YtkflpogmhailhaaGreatDoor

namespace Go.Proofs.YtkflpogmhailhaaGreatDoor
open Go.RowKit

theorem shr_cast (x r : Nat) : ((x / 2 ^ r % 4294967296 : Nat) : Int) = (x : Int) / 2 ^ r % 4294967296 := by
  rw [Int.natCast_emod, Int.natCast_ediv, Int.natCast_pow]; rfl

set_option maxRecDepth 1000000 in
set_option maxHeartbeats 2000000 in
theorem l2Shr_core {b cap n N M : Nat} {w : World} (z r : Nat) (hr : r < 32) (hz : z ≤ 1000000) (hn : n ≤ 1000000) (hN : N < 4294967296 ^ n)
    (hcell : ∀ j, j < n → w.cell? ⟨b, j, none⟩ = some (.int .u32 (dg N j : Int))) (hcap : n ≤ cap) (s : Nat) (hs : s = 32 * z + r) (hM : M = N / 2 ^ (32 * z + r)) :
    Calls Tryz.prog 124 #[.slice (some ⟨b, 0, none⟩) n cap, .int .i64 s] w fun e w' => ∃ v' k, e = .returned v' ∧ Big w' v' k M ∧ k ≤ n ∧ Gb w w' := by
  have HC : Hid _ := hcell
  have HN : Hid _ := hN
  have HM : Hid _ := hM
  have hq : (s : Int) / 32 = (z : Int) := by omega
  have hm : (s : Int) % 32 = (r : Int) := by omega
  have hs1 : s ≤ 100000000 := by omega
  have HS : Hid _ := hs
  clear hcell hN hs hM
  go_enter Tryz.func124, Tryz.ntmps124
  go_wp2
  go_loopw [5, 6] (fun v i wr => ∃ k j : Nat, Hid (j = z + k) ∧ Hid (k = 0 ∨ j ≤ n) ∧ j ≤ 2000000 ∧ k ≤ 1000000 ∧ i = .int .i64 j ∧ Own wr w.heap.size v k M ∧ Gb w wr) (fun _ i _ => n - (intOf i).toNat)
  case atStart => exact ⟨0, z, by show _ = _; omega, .inl rfl, by omega, by omega, by go_num, own_lit w _, (Gb.refl w).alloc _⟩
  case round =>
    obtain ⟨k, j, HJ, HK, hj2, hk2, rfl, hown, hgb⟩ := hrel
    have hsz := hgb.size
    have HO : Hid _ := hown
    have HG : Hid _ := hgb
    clear hown hgb
    by_cases hlt : j < n
    · have hlt' : (j : Int) < (n : Int) := by omega
      have hdM : dg M k = (dg N j + dg N (j + 1) * 4294967296) / 2 ^ r % 4294967296 := by rw [HM.out, HJ.out]; exact shr_dg N r z k hr
      have hc : wr.cell? ⟨b, j, none⟩ = some (.int .u32 (dg N j : Int)) := Gb.old HG.out (HC.out j hlt)
      have hd0 := dg_lt N j
      have hd1 := dg_lt N (j + 1)
      have HJN : Hid (k + 1 ≤ 1000000) := by show _ ≤ _; have := HJ.out; omega
      by_cases hlt2 : j + 1 < n
      · have hlt2' : (j : Int) + 1 < (n : Int) := by omega
        have hc2 : wr.cell? ⟨b, j + 1, none⟩ = some (.int .u32 (dg N (j + 1) : Int)) := Gb.old HG.out (HC.out (j + 1) hlt2)
        obtain ⟨x, hx⟩ : ∃ x : Nat, x = dg N j + dg N (j + 1) * 4294967296 := ⟨_, rfl⟩
        have hxi : (dg N j : Int) + (dg N (j + 1) : Int) * 4294967296 = (x : Int) := by omega
        have hx64 : x < 18446744073709551616 := by omega
        rw [← hx] at hdM
        have HDM : Hid ((x : Int) / 2 ^ r % 4294967296 = (dg M k : Int)) := by show _ = _; rw [hdM, shr_cast]
        clear hdM hx
        generalize dg N j = t0 at *
        generalize dg N (j + 1) = t1 at *
        go_wp2_with (at_builtin; go_loud (refine wpList_push rfl _ _ rfl w.heap.size k M _ wr.heap.size rfl (Own.alloc HO.out _) rfl (by rw [← HDM.out]; simp [go_sem]) (by omega) (by simp [go_sem]; omega) ?_; intro v' w1 hown1 hb1))
        go_roundw
        case rel => exact ⟨k + 1, j + 1, by show _ = _; have := HJ.out; omega, .inr (by omega), by omega, HJN.out, by go_num, hown1, Gb.below (Gb.alloc HG.out _) hb1 (Nat.le_refl _)⟩
        case measure => simp [intOf] <;> omega
      · have hnl : ¬ (j : Int) + 1 < (n : Int) := by omega
        have hz1 : dg N (j + 1) = 0 := dg_zero HN.out (by omega)
        rw [hz1] at hdM
        simp only [Nat.zero_mul, Nat.add_zero] at hdM
        have HDM : Hid ((dg N j : Int) / 2 ^ r % 4294967296 = (dg M k : Int)) := by show _ = _; rw [hdM, shr_cast]
        clear hdM hz1 hd1
        generalize dg N j = t0 at *
        go_wp2_with (at_builtin; go_loud (refine wpList_push rfl _ _ rfl w.heap.size k M _ wr.heap.size rfl (Own.alloc HO.out _) rfl (by rw [← HDM.out]; simp [go_sem]) (by omega) (by simp [go_sem]; omega) ?_; intro v' w1 hown1 hb1))
        go_roundw
        case rel => exact ⟨k + 1, j + 1, by show _ = _; have := HJ.out; omega, .inr (by omega), by omega, HJN.out, by go_num, hown1, Gb.below (Gb.alloc HG.out _) hb1 (Nat.le_refl _)⟩
        case measure => simp [intOf] <;> omega
    · have hlt' : ¬ (j : Int) < (n : Int) := by omega
      have HL : Hid (M < 4294967296 ^ k ∧ k ≤ n) := by
        have hJ := HJ.out
        rcases HK.out with rfl | hk
        · have := shr_zero N r z n HN.out (by omega)
          refine ⟨?_, by omega⟩
          rw [HM.out, this]; decide
        · have := shr_lt N r z n HN.out (by omega)
          refine ⟨?_, by omega⟩
          rw [HM.out, show k = n - z by omega]; exact this
      go_wp2_with (go_at_call 96; refine (l2Norm_any (Own.raw HO.out HL.out.1) (by have := HL.out.2; omega)).mono ?_; rintro e w' ⟨v'', k', rfl, hw, hbig, hk'⟩; subst hw)
      go_returns
      exact ⟨_, _, rfl, hbig, by have := HL.out.2; omega, HG.out⟩

theorem l2Shr_any {v : Value} {n N : Nat} {w : World} (h : Big w v n N) (hn : n ≤ 1000000) (s : Nat) (hs : s ≤ 10000000) :
    Calls Tryz.prog 124 #[v, .int .i64 s] w fun e w' => ∃ v' k, e = .returned v' ∧ Big w' v' k (N / 2 ^ s) ∧ k ≤ n ∧ Gb w w' := by
  obtain ⟨hnm, hN, b, cap, rfl, hcap, hmx, hcell⟩ := h
  have e : 32 * (s / 32) + s % 32 = s := by omega
  exact l2Shr_core (M := N / 2 ^ s) (s / 32) (s % 32) (by omega) (by omega) hn hN hcell hcap s (by omega) (by rw [e])
end Go.Proofs.YtkflpogmhailhaaGreatDoor

namespace Go.Proofs.YtkflpogmhailhaaGreatDoor
open Go.RowKit

set_option maxRecDepth 1000000 in
set_option maxHeartbeats 4000000 in
theorem l2Sub_core {b cap n N b' cap' n' N' M : Nat} {w : World} (hn : n ≤ 1000000) (hN : N < 4294967296 ^ n) (hn' : n' ≤ 1000000) (hN' : N' < 4294967296 ^ n')
    (hcell : ∀ j, j < n → w.cell? ⟨b, j, none⟩ = some (.int .u32 (dg N j : Int))) (hcap : n ≤ cap) (hcell' : ∀ j, j < n' → w.cell? ⟨b', j, none⟩ = some (.int .u32 (dg N' j : Int))) (hcap' : n' ≤ cap') (hle : N' ≤ N) (hM : M = N - N') :
    Calls Tryz.prog 49 #[.slice (some ⟨b, 0, none⟩) n cap, .slice (some ⟨b', 0, none⟩) n' cap'] w fun e w' => ∃ v' k, e = .returned v' ∧ Big w' v' k M ∧ k ≤ n ∧ Gb w w' := by
  have HC : Hid _ := hcell
  have HN : Hid _ := hN
  have HC' : Hid _ := hcell'
  have HN' : Hid _ := hN'
  have HM : Hid _ := hM
  have HL : Hid _ := hle
  clear hcell hN hM hcell' hN' hle
  go_enter Tryz.func49, Tryz.ntmps49
  go_wp2
  go_loopw [5, 6, 7] (fun v c i wr => ∃ k c' : Nat, k ≤ n ∧ i = .int .i64 k ∧ c = .int .u64 c' ∧ Hid (c' = bor N N' k) ∧ Own wr w.heap.size v k M ∧ Gb w wr) (fun _ _ i _ => n - (intOf i).toNat)
  case atStart => exact ⟨0, 0, Nat.zero_le _, rfl, rfl, by show _ = _; rw [bor_zero], own_lit w _, (Gb.refl w).alloc _⟩
  case round =>
    obtain ⟨k, c, hk, rfl, rfl, HCy, hown, hgb⟩ := hrel
    have hsz := hgb.size
    have HO : Hid _ := hown
    have HG : Hid _ := hgb
    clear hown hgb
    by_cases hl : k < n
    · have hc : wr.cell? ⟨b, k, none⟩ = some (.int .u32 (dg N k : Int)) := Gb.old HG.out (HC.out k hl)
      have hl1 : (k : Int) < (n : Int) := by omega
      have e1 := sub_dg N N' k HL.out
      have e2 := bor_succ N N' k
      have c1 := bor_le N N' k
      rw [← HCy.out] at e1 e2 c1
      rw [← HM.out] at e1
      have hd0 := dg_lt N k
      have hd1 := dg_lt N' k
      have hd2 := dg_lt M k
      by_cases hl' : k < n'
      · have hc' : wr.cell? ⟨b', k, none⟩ = some (.int .u32 (dg N' k : Int)) := Gb.old HG.out (HC'.out k hl')
        have hl1' : (k : Int) < (n' : Int) := by omega
        by_cases hb : dg N k < dg N' k + c
        · rw [if_pos hb] at e1 e2
          have HDM : Hid ((dg N k : Int) + 4294967296 - ((c : Int) + (dg N' k : Int)) = (dg M k : Int)) := by show _ = _; omega
          have HE2 : Hid _ := e2
          have hb1 : (dg N k : Int) < (c : Int) + (dg N' k : Int) := by omega
          have hb2 : (dg N k : Int) + 4294967296 - ((c : Int) + (dg N' k : Int)) < 4294967296 := by omega
          clear e1 e2 hd2
          generalize dg N k = t at *
          generalize dg N' k = t' at *
          go_wp2_with (at_builtin; go_loud (refine wpList_push rfl _ _ rfl w.heap.size k M _ wr.heap.size rfl (Own.alloc HO.out _) rfl (by rw [← HDM.out]; simp [go_sem]) (by omega) (by simp [go_sem]; omega) ?_; intro v' w1 hown1 hb1))
          go_roundw
          case rel => exact ⟨k + 1, 1, by omega, by go_num, by go_num, by show _ = _; rw [HE2.out], hown1, Gb.below (Gb.alloc HG.out _) hb1 (Nat.le_refl _)⟩
          case measure => simp [intOf] <;> omega
        · rw [if_neg hb] at e1 e2
          have HDM : Hid ((dg N k : Int) - ((c : Int) + (dg N' k : Int)) = (dg M k : Int)) := by show _ = _; omega
          have HE2 : Hid _ := e2
          have hb1 : ¬ (dg N k : Int) < (c : Int) + (dg N' k : Int) := by omega
          have hb2 : (dg N k : Int) - ((c : Int) + (dg N' k : Int)) < 4294967296 := by omega
          clear e1 e2 hd2
          generalize dg N k = t at *
          generalize dg N' k = t' at *
          go_wp2_with (at_builtin; go_loud (refine wpList_push rfl _ _ rfl w.heap.size k M _ wr.heap.size rfl (Own.alloc HO.out _) rfl (by rw [← HDM.out]; simp [go_sem]) (by omega) (by simp [go_sem]; omega) ?_; intro v' w1 hown1 hb1))
          go_roundw
          case rel => exact ⟨k + 1, 0, by omega, by go_num, by go_num, by show _ = _; rw [HE2.out], hown1, Gb.below (Gb.alloc HG.out _) hb1 (Nat.le_refl _)⟩
          case measure => simp [intOf] <;> omega
      · have hl1' : ¬ (k : Int) < (n' : Int) := by omega
        have hz : dg N' k = 0 := dg_zero HN'.out (by omega)
        rw [hz] at e1 e2
        by_cases hb : dg N k < 0 + c
        · rw [if_pos hb] at e1 e2
          have HDM : Hid ((dg N k : Int) + 4294967296 - (c : Int) = (dg M k : Int)) := by show _ = _; omega
          have HE2 : Hid _ := e2
          have hb1 : (dg N k : Int) < (c : Int) := by omega
          have hb2 : (dg N k : Int) + 4294967296 - (c : Int) < 4294967296 := by omega
          clear e1 e2 hd2 hz hd1 hb
          generalize dg N k = t at *
          go_wp2_with (at_builtin; go_loud (refine wpList_push rfl _ _ rfl w.heap.size k M _ wr.heap.size rfl (Own.alloc HO.out _) rfl (by rw [← HDM.out]; simp [go_sem]) (by omega) (by simp [go_sem]; omega) ?_; intro v' w1 hown1 hb1))
          go_roundw
          case rel => exact ⟨k + 1, 1, by omega, by go_num, by go_num, by show _ = _; rw [HE2.out], hown1, Gb.below (Gb.alloc HG.out _) hb1 (Nat.le_refl _)⟩
          case measure => simp [intOf] <;> omega
        · rw [if_neg hb] at e1 e2
          have HDM : Hid ((dg N k : Int) - (c : Int) = (dg M k : Int)) := by show _ = _; omega
          have HE2 : Hid _ := e2
          have hb1 : ¬ (dg N k : Int) < (c : Int) := by omega
          have hb2 : (dg N k : Int) - (c : Int) < 4294967296 := by omega
          clear e1 e2 hd2 hz hd1 hb
          generalize dg N k = t at *
          go_wp2_with (at_builtin; go_loud (refine wpList_push rfl _ _ rfl w.heap.size k M _ wr.heap.size rfl (Own.alloc HO.out _) rfl (by rw [← HDM.out]; simp [go_sem]) (by omega) (by simp [go_sem]; omega) ?_; intro v' w1 hown1 hb1))
          go_roundw
          case rel => exact ⟨k + 1, 0, by omega, by go_num, by go_num, by show _ = _; rw [HE2.out], hown1, Gb.below (Gb.alloc HG.out _) hb1 (Nat.le_refl _)⟩
          case measure => simp [intOf] <;> omega
    · have hl1 : ¬ (k : Int) < (n : Int) := by omega
      have HF : Hid (M < 4294967296 ^ k) := by
        have h1 := HN.out
        show _ < _
        rw [HM.out, show k = n by omega]; omega
      go_wp2_with (go_at_call 96; refine (l2Norm_any (Own.raw HO.out HF.out) (by omega)).mono ?_; rintro e w' ⟨v'', k', rfl, hw, hbig, hk'⟩; subst hw)
      go_returns
      exact ⟨_, _, rfl, hbig, by omega, HG.out⟩

theorem l2Sub_any {v v2 : Value} {n N n' N' : Nat} {w : World} (h : Big w v n N) (hn : n ≤ 1000000) (h' : Big w v2 n' N') (hn' : n' ≤ 1000000) (hle : N' ≤ N) :
    Calls Tryz.prog 49 #[v, v2] w fun e w' => ∃ v' k, e = .returned v' ∧ Big w' v' k (N - N') ∧ k ≤ n ∧ Gb w w' := by
  obtain ⟨hnm, hN, b, cap, rfl, hcap, hmx, hcell⟩ := h
  obtain ⟨hnm', hN', b', cap', rfl, hcap', hmx', hcell'⟩ := h'
  exact l2Sub_core hn hN hn' hN' hcell hcap hcell' hcap' hle rfl
end Go.Proofs.YtkflpogmhailhaaGreatDoor

namespace Go.Proofs.YtkflpogmhailhaaGreatDoor
open Go.RowKit

set_option maxRecDepth 1000000 in
set_option maxHeartbeats 4000000 in
theorem l2Add_core {b cap n N b' cap' n' N' M : Nat} {w : World} (hn : n ≤ 1000000) (hN : N < 4294967296 ^ n) (hn' : n' ≤ 1000000) (hN' : N' < 4294967296 ^ n')
    (hcell : ∀ j, j < n → w.cell? ⟨b, j, none⟩ = some (.int .u32 (dg N j : Int))) (hcap : n ≤ cap) (hcell' : ∀ j, j < n' → w.cell? ⟨b', j, none⟩ = some (.int .u32 (dg N' j : Int))) (hcap' : n' ≤ cap') (hM : M = N + N') :
    Calls Tryz.prog 98 #[.slice (some ⟨b, 0, none⟩) n cap, .slice (some ⟨b', 0, none⟩) n' cap'] w fun e w' => ∃ v' k, e = .returned v' ∧ Big w' v' k M ∧ k ≤ n + n' + 1 ∧ Gb w w' := by
  have HC : Hid _ := hcell
  have HN : Hid _ := hN
  have HC' : Hid _ := hcell'
  have HN' : Hid _ := hN'
  have HM : Hid _ := hM
  clear hcell hN hM hcell' hN'
  go_enter Tryz.func98, Tryz.ntmps98
  go_wp2
  go_loopw [5, 6, 7] (fun v c i wr => ∃ k c' : Nat, (k ≤ n ∨ k ≤ n') ∧ i = .int .i64 k ∧ c = .int .u64 c' ∧ Hid (c' = (N % 4294967296 ^ k + N' % 4294967296 ^ k) / 4294967296 ^ k) ∧ Own wr w.heap.size v k M ∧ Gb w wr) (fun _ _ i _ => n + n' - (intOf i).toNat)
  case atStart => exact ⟨0, 0, .inl (Nat.zero_le _), rfl, rfl, by show _ = _; simp [Nat.mod_one], own_lit w _, (Gb.refl w).alloc _⟩
  case round =>
    obtain ⟨k, c, hk, rfl, rfl, HCy, hown, hgb⟩ := hrel
    have hsz := hgb.size
    have HO : Hid _ := hown
    have HG : Hid _ := hgb
    clear hown hgb
    obtain ⟨e1, e2, c1⟩ := add_carry N N' k c HCy.out
    have hd0 := dg_lt N k
    have hd1 := dg_lt N' k
    have HDM : Hid (((c : Int) + (dg N k : Int) + (dg N' k : Int)) % 4294967296 = (dg M k : Int)) := by show _ = _; rw [HM.out, e1]; omega
    have HE2 : Hid _ := e2
    clear e1 e2
    by_cases hl : k < n
    · have hc : wr.cell? ⟨b, k, none⟩ = some (.int .u32 (dg N k : Int)) := Gb.old HG.out (HC.out k hl)
      have hl1 : (k : Int) < (n : Int) := by omega
      by_cases hl' : k < n'
      · have hc' : wr.cell? ⟨b', k, none⟩ = some (.int .u32 (dg N' k : Int)) := Gb.old HG.out (HC'.out k hl')
        have hl1' : (k : Int) < (n' : Int) := by omega
        generalize dg N k = t at *
        generalize dg N' k = t' at *
        go_wp2_with (at_builtin; go_loud (refine wpList_push rfl _ _ rfl w.heap.size k M _ wr.heap.size rfl (Own.alloc HO.out _) rfl (by rw [← HDM.out]; simp [go_sem]) (by omega) (by simp [go_sem]; omega) ?_; intro v' w1 hown1 hb1))
        go_roundw
        case rel => exact ⟨k + 1, (c + t + t') / 4294967296, .inl (by omega), by go_num, by go_num, by show _ = _; rw [HE2.out], hown1, Gb.below (Gb.alloc HG.out _) hb1 (Nat.le_refl _)⟩
        case measure => simp [intOf] <;> omega
      · have hl1' : ¬ (k : Int) < (n' : Int) := by omega
        have hz : dg N' k = 0 := dg_zero HN'.out (by omega)
        rw [hz] at HE2
        have HDM2 : Hid (((c : Int) + (dg N k : Int)) % 4294967296 = (dg M k : Int)) := by show _ = _; rw [← HDM.out, hz]; simp
        clear hz HDM hd1
        generalize dg N k = t at *
        go_wp2_with (at_builtin; go_loud (refine wpList_push rfl _ _ rfl w.heap.size k M _ wr.heap.size rfl (Own.alloc HO.out _) rfl (by rw [← HDM2.out]; simp [go_sem]) (by omega) (by simp [go_sem]; omega) ?_; intro v' w1 hown1 hb1))
        go_roundw
        case rel => exact ⟨k + 1, (c + t) / 4294967296, .inl (by omega), by go_num, by go_num, by show _ = _; rw [HE2.out]; rfl, hown1, Gb.below (Gb.alloc HG.out _) hb1 (Nat.le_refl _)⟩
        case measure => simp [intOf] <;> omega
    · have hl1 : ¬ (k : Int) < (n : Int) := by omega
      have hz : dg N k = 0 := dg_zero HN.out (by omega)
      by_cases hl' : k < n'
      · have hc' : wr.cell? ⟨b', k, none⟩ = some (.int .u32 (dg N' k : Int)) := Gb.old HG.out (HC'.out k hl')
        have hl1' : (k : Int) < (n' : Int) := by omega
        rw [hz] at HE2
        have HDM2 : Hid (((c : Int) + (dg N' k : Int)) % 4294967296 = (dg M k : Int)) := by show _ = _; rw [← HDM.out, hz]; simp
        clear hz HDM hd0
        generalize dg N' k = t at *
        go_wp2_with (at_builtin; go_loud (refine wpList_push rfl _ _ rfl w.heap.size k M _ wr.heap.size rfl (Own.alloc HO.out _) rfl (by rw [← HDM2.out]; simp [go_sem]) (by omega) (by simp [go_sem]; omega) ?_; intro v' w1 hown1 hb1))
        go_roundw
        case rel => exact ⟨k + 1, (c + t) / 4294967296, .inr (by omega), by go_num, by go_num, by show _ = _; rw [HE2.out]; rfl, hown1, Gb.below (Gb.alloc HG.out _) hb1 (Nat.le_refl _)⟩
        case measure => simp [intOf] <;> omega
      · have hl1' : ¬ (k : Int) < (n' : Int) := by omega
        have HDM2 : Hid ((c : Int) = (dg M k : Int)) := by
          have := add_end HN.out HN'.out (show n ≤ k by omega) (show n' ≤ k by omega)
          show _ = _; rw [HM.out, this, ← HCy.out]
        have HF : Hid (M < 4294967296 ^ (k + 1)) := by
          have := add_lt_pw HN.out HN'.out (show n ≤ k by omega) (show n' ≤ k by omega)
          show _ < _; rw [HM.out]; exact this
        clear hz HDM hd0 hd1 HE2
        have hkb : k ≤ n + n' := by omega
        go_wp2_with (first
          | (at_builtin; go_loud (refine wpList_push rfl _ _ rfl w.heap.size k M _ wr.heap.size rfl (Own.alloc HO.out _) rfl (by rw [← HDM2.out]; simp [go_sem]) (by omega) (by simp [go_sem]; omega) ?_; intro v' w1 hown1 hb1))
          | (go_at_call 96; refine (l2Norm_any (Own.raw hown1 HF.out) (by omega)).mono ?_; rintro e w' ⟨v'', k', rfl, hw, hbig, hk'⟩; subst hw))
        go_returns
        exact ⟨_, _, rfl, hbig, by omega, Gb.below (Gb.alloc HG.out _) hb1 (Nat.le_refl _)⟩

theorem l2Add_any {v v2 : Value} {n N n' N' : Nat} {w : World} (h : Big w v n N) (hn : n ≤ 1000000) (h' : Big w v2 n' N') (hn' : n' ≤ 1000000) :
    Calls Tryz.prog 98 #[v, v2] w fun e w' => ∃ v' k, e = .returned v' ∧ Big w' v' k (N + N') ∧ k ≤ n + n' + 1 ∧ Gb w w' := by
  obtain ⟨hnm, hN, b, cap, rfl, hcap, hmx, hcell⟩ := h
  obtain ⟨hnm', hN', b', cap', rfl, hcap', hmx', hcell'⟩ := h'
  exact l2Add_core hn hN hn' hN' hcell hcap hcell' hcap' rfl
end Go.Proofs.YtkflpogmhailhaaGreatDoor
