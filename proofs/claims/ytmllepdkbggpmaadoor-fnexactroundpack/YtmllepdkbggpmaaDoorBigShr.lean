/- spec.l2Shr. -/
import Derived.Test.YtmllepdkbggpmaaDoorBigShl
set_option linter.unusedVariables false
set_option linter.unusedSimpArgs false
namespace Go.Proofs.YtmllepdkbggpmaaDoor
open Go.RowKit

theorem shr_cast (x r : Nat) : ((x / 2 ^ r % 4294967296 : Nat) : Int) = (x : Int) / 2 ^ r % 4294967296 := by
  rw [Int.natCast_emod, Int.natCast_ediv, Int.natCast_pow]; rfl

set_option maxRecDepth 1000000 in
set_option maxHeartbeats 2000000 in
theorem l2Shr_core {b cap n N M : Nat} {w : World} (z r : Nat) (hr : r < 32) (hz : z ≤ 1000000) (hn : n ≤ 1000000) (hN : N < 4294967296 ^ n)
    (hcell : ∀ j, j < n → w.cell? ⟨b, j, none⟩ = some (.int .u32 (dg N j : Int))) (hcap : n ≤ cap) (s : Nat) (hs : s = 32 * z + r) (hM : M = N / 2 ^ (32 * z + r)) :
    Calls Tryd.prog 74 #[.slice (some ⟨b, 0, none⟩) n cap, .int .i64 s] w fun e w' => ∃ v' k, e = .returned v' ∧ Big w' v' k M ∧ k ≤ n ∧ Gb w w' := by
  have HC : Hid _ := hcell
  have HN : Hid _ := hN
  have HM : Hid _ := hM
  have hq : (s : Int) / 32 = (z : Int) := by omega
  have hm : (s : Int) % 32 = (r : Int) := by omega
  have hs1 : s ≤ 100000000 := by omega
  have HS : Hid _ := hs
  clear hcell hN hs hM
  go_enter Tryd.func74, Tryd.ntmps74
  go_wp2
  go_loopw [5, 6] (fun v i wr => ∃ k j : Nat, Hid (j = z + k) ∧ Hid (k = 0 ∨ j ≤ n) ∧ j ≤ 2000000 ∧ k ≤ 1000000 ∧ i = .int .i64 j ∧ Own wr w.heap.size v k M ∧ Gb w wr) (fun _ i _ => n - (intOf i).toNat)
  case atStart => exact ⟨0, z, by show _ = _; omega, .inl rfl, by omega, by omega, by go_num, own_lit w _, (Gb.refl w).alloc _⟩
  case round =>
    obtain ⟨k, j, HJ, HK, hj2, hk2, rfl, hown, hgb⟩ := hrel
    have hsz := hgb.size
    have HO : Hid _ := hown
    have HG : Hid _ := hgb
    clear hown hgb
    by_cases hlt : j < n
    · have hlt' : (j : Int) < (n : Int) := by omega
      have hdM : dg M k = (dg N j + dg N (j + 1) * 4294967296) / 2 ^ r % 4294967296 := by rw [HM.out, HJ.out]; exact shr_dg N r z k hr
      have hc : wr.cell? ⟨b, j, none⟩ = some (.int .u32 (dg N j : Int)) := Gb.old HG.out (HC.out j hlt)
      have hd0 := dg_lt N j
      have hd1 := dg_lt N (j + 1)
      have HJN : Hid (k + 1 ≤ 1000000) := by show _ ≤ _; have := HJ.out; omega
      by_cases hlt2 : j + 1 < n
      · have hlt2' : (j : Int) + 1 < (n : Int) := by omega
        have hc2 : wr.cell? ⟨b, j + 1, none⟩ = some (.int .u32 (dg N (j + 1) : Int)) := Gb.old HG.out (HC.out (j + 1) hlt2)
        obtain ⟨x, hx⟩ : ∃ x : Nat, x = dg N j + dg N (j + 1) * 4294967296 := ⟨_, rfl⟩
        have hxi : (dg N j : Int) + (dg N (j + 1) : Int) * 4294967296 = (x : Int) := by omega
        have hx64 : x < 18446744073709551616 := by omega
        rw [← hx] at hdM
        have HDM : Hid ((x : Int) / 2 ^ r % 4294967296 = (dg M k : Int)) := by show _ = _; rw [hdM, shr_cast]
        clear hdM hx
        generalize dg N j = t0 at *
        generalize dg N (j + 1) = t1 at *
        go_wp2_with (at_builtin; go_loud (refine wpList_push rfl _ _ rfl w.heap.size k M _ wr.heap.size rfl (Own.alloc HO.out _) rfl (by rw [← HDM.out]; simp [go_sem]) (by omega) (by simp [go_sem]; omega) ?_; intro v' w1 hown1 hb1))
        go_roundw
        case rel => exact ⟨k + 1, j + 1, by show _ = _; have := HJ.out; omega, .inr (by omega), by omega, HJN.out, by go_num, hown1, Gb.below (Gb.alloc HG.out _) hb1 (Nat.le_refl _)⟩
        case measure => simp [intOf] <;> omega
      · have hnl : ¬ (j : Int) + 1 < (n : Int) := by omega
        have hz1 : dg N (j + 1) = 0 := dg_zero HN.out (by omega)
        rw [hz1] at hdM
        simp only [Nat.zero_mul, Nat.add_zero] at hdM
        have HDM : Hid ((dg N j : Int) / 2 ^ r % 4294967296 = (dg M k : Int)) := by show _ = _; rw [hdM, shr_cast]
        clear hdM hz1 hd1
        generalize dg N j = t0 at *
        go_wp2_with (at_builtin; go_loud (refine wpList_push rfl _ _ rfl w.heap.size k M _ wr.heap.size rfl (Own.alloc HO.out _) rfl (by rw [← HDM.out]; simp [go_sem]) (by omega) (by simp [go_sem]; omega) ?_; intro v' w1 hown1 hb1))
        go_roundw
        case rel => exact ⟨k + 1, j + 1, by show _ = _; have := HJ.out; omega, .inr (by omega), by omega, HJN.out, by go_num, hown1, Gb.below (Gb.alloc HG.out _) hb1 (Nat.le_refl _)⟩
        case measure => simp [intOf] <;> omega
    · have hlt' : ¬ (j : Int) < (n : Int) := by omega
      have HL : Hid (M < 4294967296 ^ k ∧ k ≤ n) := by
        have hJ := HJ.out
        rcases HK.out with rfl | hk
        · have := shr_zero N r z n HN.out (by omega)
          refine ⟨?_, by omega⟩
          rw [HM.out, this]; decide
        · have := shr_lt N r z n HN.out (by omega)
          refine ⟨?_, by omega⟩
          rw [HM.out, show k = n - z by omega]; exact this
      go_wp2_with (go_at_call 53; refine (l2Norm_any (Own.raw HO.out HL.out.1) (by have := HL.out.2; omega)).mono ?_; rintro e w' ⟨v'', k', rfl, hw, hbig, hk'⟩; subst hw)
      go_returns
      exact ⟨_, _, rfl, hbig, by have := HL.out.2; omega, HG.out⟩

theorem l2Shr_any {v : Value} {n N : Nat} {w : World} (h : Big w v n N) (hn : n ≤ 1000000) (s : Nat) (hs : s ≤ 10000000) :
    Calls Tryd.prog 74 #[v, .int .i64 s] w fun e w' => ∃ v' k, e = .returned v' ∧ Big w' v' k (N / 2 ^ s) ∧ k ≤ n ∧ Gb w w' := by
  obtain ⟨hnm, hN, b, cap, rfl, hcap, hmx, hcell⟩ := h
  have e : 32 * (s / 32) + s % 32 = s := by omega
  exact l2Shr_core (M := N / 2 ^ s) (s / 32) (s % 32) (by omega) (by omega) hn hN hcell hcap s (by omega) (by rw [e])
end Go.Proofs.YtmllepdkbggpmaaDoor
