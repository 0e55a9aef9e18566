/- spec.l2Shl. -/
import Derived.Test.YtmllepdkbggpmaaDoorBigNorm
import Derived.Deep.RegionHeld3
set_option linter.unusedVariables false
set_option linter.unusedSimpArgs false
namespace Go.Proofs.YtmllepdkbggpmaaDoor
open Go.RowKit

theorem own_lit (w : World) (N : Nat) : Own (w.alloc (.cells #[] 83)) w.heap.size (.slice (some ⟨w.heap.size, 0, none⟩) 0 0) 0 N := by
  refine ⟨?_, by simp⟩
  have := World.ownsRow_lit (base := w.heap.size) (e := 83) (size := 1) w #[] 0 (Nat.le_refl _) (Nat.zero_le _) rfl
  simpa [wds_zero] using this

set_option maxRecDepth 1000000 in
set_option maxHeartbeats 2000000 in
theorem l2Shl_pos {b cap n N M : Nat} {w : World} (z r : Nat) (hr : r < 32) (hz : z ≤ 1000000) (hn : n ≤ 1000000) (hpos : 0 < n) (hN : N < 4294967296 ^ n)
    (hcell : ∀ j, j < n → w.cell? ⟨b, j, none⟩ = some (.int .u32 (dg N j : Int))) (hcap : n ≤ cap) (s : Nat) (hs : s = 32 * z + r) (hM : M = N * 2 ^ (32 * z + r)) :
    Calls Tryd.prog 73 #[.slice (some ⟨b, 0, none⟩) n cap, .int .i64 s] w fun e w' => ∃ v' k, e = .returned v' ∧ Big w' v' k M ∧ k ≤ n + z + 1 ∧ Gb w w' := by
  have HC : Hid _ := hcell
  have HN : Hid _ := hN
  have HM : Hid _ := hM
  have hq : (s : Int) / 32 = (z : Int) := by omega
  have hm : (s : Int) % 32 = (r : Int) := by omega
  have hs1 : s ≤ 100000000 := by omega
  have HS : Hid _ := hs
  have n0 : ((n : Int) == 0) = false := by simp; omega
  clear hcell hN hs hM
  go_enter Tryd.func73, Tryd.ntmps73
  go_wp2
  go_loopw [5, 6] (fun v i wr => ∃ k : Nat, k ≤ z ∧ i = .int .i64 k ∧ Own wr w.heap.size v k M ∧ Gb w wr) (fun _ i _ => z - (intOf i).toNat)
  case atStart => exact ⟨0, Nat.zero_le _, rfl, own_lit w _, (Gb.refl w).alloc _⟩
  case round =>
    obtain ⟨k, hk, rfl, hown, hgb⟩ := hrel
    by_cases hlt : k < z
    · have hlt' : (k : Int) < (z : Int) := by omega
      have hd : ((dg M k : Nat) : Int) = 0 := by rw [HM.out, shl_low N r z k hlt]; rfl
      have HD : Hid _ := hd
      have hsz := hgb.size
      have HO : Hid _ := hown
      have HG : Hid _ := hgb
      clear hd hown hgb
      go_wp2_with (at_builtin; refine wpList_push rfl _ _ rfl w.heap.size k M _ wr.heap.size rfl (Own.alloc HO.out _) rfl (by rw [HD.out]; simp [go_sem]) (by omega) (by simp [go_sem]; omega) ?_; intro v' w1 hown1 hb1)
      go_roundw
      case rel => exact ⟨k + 1, by omega, by go_num, hown1, Gb.below (Gb.alloc HG.out _) hb1 (Nat.le_refl _)⟩
      case measure => simp [intOf] <;> omega
    · obtain rfl : k = z := by omega
      go_wp2
      go_loopw [5, 7, 8] (fun v c i wr' => ∃ i' c' : Nat, i' ≤ n ∧ i = .int .i64 i' ∧ c = .int .u64 c' ∧ Hid (c' = N % 4294967296 ^ i' * 2 ^ r / 4294967296 ^ i') ∧ Own wr' w.heap.size v (k + i') M ∧ Gb w wr') (fun _ _ i _ => n - (intOf i).toNat)
      case atStart => exact ⟨0, 0, Nat.zero_le _, rfl, rfl, by show _ = _; simp [Nat.mod_one], hown, hgb⟩
      case round =>
        obtain ⟨i, c, hi, rfl, rfl, HCy, hown2, hgb2⟩ := hrel
        have hcl := shl_carry_lt N r i hr
        rw [← HCy.out] at hcl
        have hsz := hgb2.size
        have HO : Hid _ := hown2
        have HG : Hid _ := hgb2
        clear hown2 hgb2
        by_cases hin : i < n
        · have hin' : (i : Int) < (n : Int) := by omega
          have hc : wr.cell? ⟨b, i, none⟩ = some (.int .u32 (dg N i : Int)) := Gb.old HG.out (HC.out i hin)
          obtain ⟨e1, e2⟩ := shl_carry N r i c HCy.out
          have hdl := dg_lt N i
          obtain ⟨b1, b2⟩ := shl_small (dg N i) r c hdl hr hcl
          have hdm : dg M (k + i) = (dg N i * 2 ^ r + c) % 4294967296 := by rw [HM.out, shl_dg, e1]
          obtain ⟨y, hy⟩ : ∃ y : Nat, y = dg N i * 2 ^ r := ⟨_, rfl⟩
          have hw1 : IntKind.u64.wrap ((dg N i : Int) * 2 ^ r) = (y : Int) := by
            have e : (dg N i : Int) * 2 ^ r = (y : Int) := by rw [hy]; push_cast; rfl
            rw [e, IntKind.wrap_u64]; omega
          rw [← hy] at b1 b2 hdm e2
          have HDM : Hid ((((y : Int) + (c : Int)) % 4294967296) = (dg M (k + i) : Int)) := by show _ = _; rw [hdm]; omega
          have HE2 : Hid _ := e2
          clear hy e1 e2 hdm
          generalize dg N i = t at *
          go_wp2_with (at_builtin; refine wpList_push rfl _ _ rfl w.heap.size (k + i) M _ wr.heap.size rfl (Own.alloc HO.out _) rfl (by rw [← HDM.out]; simp [go_sem]) (by omega) (by simp [go_sem]; omega) ?_; intro v' w1 hown1 hb1)
          go_roundw
          case rel => exact ⟨i + 1, (y + c) / 4294967296, by omega, by go_num, by go_num, by show _ = _; rw [HE2.out], hown1, Gb.below (Gb.alloc HG.out _) hb1 (Nat.le_refl _)⟩
          case measure => simp [intOf] <;> omega
        · obtain rfl : i = n := by omega
          obtain ⟨f1, f2⟩ := shl_end N r k i HN.out hr
          have HDM : Hid ((c : Int) = (dg M (k + i) : Int)) := by show _ = _; rw [HM.out, f1, ← HCy.out]
          have HF2 : Hid (M < 4294967296 ^ (k + i + 1)) := by show _ < _; rw [HM.out]; exact f2
          clear f1 f2
          go_wp2_with (first
            | (at_builtin; refine wpList_push rfl _ _ rfl w.heap.size (k + i) M _ wr.heap.size rfl (Own.alloc HO.out _) rfl (by rw [← HDM.out]; simp [go_sem]) (by omega) (by simp [go_sem]; omega) ?_; intro v' w1 hown1 hb1)
            | (go_at_call 53; refine (l2Norm_any (Own.raw hown1 HF2.out) (by omega)).mono ?_; rintro e w' ⟨v'', k', rfl, hw, hbig, hk'⟩; subst hw))
          go_returns
          exact ⟨_, _, rfl, hbig, by omega, Gb.below (Gb.alloc HG.out _) hb1 (Nat.le_refl _)⟩

theorem l2Shl_any {v : Value} {n N : Nat} {w : World} (h : Big w v n N) (hn : n ≤ 1000000) (s : Nat) (hs : s ≤ 10000000) :
    Calls Tryd.prog 73 #[v, .int .i64 s] w fun e w' => ∃ v' k, e = .returned v' ∧ Big w' v' k (N * 2 ^ s) ∧ k ≤ n + s / 32 + 1 ∧ Gb w w' := by
  obtain ⟨hnm, hN, b, cap, rfl, hcap, hmx, hcell⟩ := h
  rcases Nat.eq_zero_or_pos n with rfl | hpos
  · have e : N * 2 ^ s = N := by rw [hnm.zero]; simp
    rw [e]
    have HB : Hid (Big w (.slice (some ⟨b, 0, none⟩) 0 cap) 0 N) := ⟨hnm, hN, b, cap, rfl, hcap, hmx, hcell⟩
    clear hcell hnm hN e
    go_enter Tryd.func73, Tryd.ntmps73
    go_wp2
    go_returns
    exact ⟨_, _, rfl, HB.out, by omega, Gb.refl w⟩
  · have e : 32 * (s / 32) + s % 32 = s := by omega
    refine (l2Shl_pos (M := N * 2 ^ s) (s / 32) (s % 32) (by omega) (by omega) hn hpos hN hcell hcap s (by omega) (by rw [e])).mono ?_
    exact fun _ _ h => h
end Go.Proofs.YtmllepdkbggpmaaDoor
