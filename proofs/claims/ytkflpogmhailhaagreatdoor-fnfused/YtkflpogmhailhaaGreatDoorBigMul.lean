/- spec.l2Mul. -/
import Derived.Test.YtkflpogmhailhaaGreatDoorBigOwn
import Derived.Test.YtkflpogmhailhaaGreatDoorA6
set_option linter.unusedVariables false
set_option linter.unusedSimpArgs false
namespace Go.Proofs.YtkflpogmhailhaaGreatDoor
open Go.RowKit

set_option maxRecDepth 1000000 in
set_option maxHeartbeats 4000000 in
theorem l2Mul_core {b cap n A b' cap' m Bv M : Nat} {w : World} (hn : n ≤ 1000000) (hA : A < 4294967296 ^ n) (hm : m ≤ 1000000) (hB : Bv < 4294967296 ^ m)
    (hcell : ∀ j, j < n → w.cell? ⟨b, j, none⟩ = some (.int .u32 (dg A j : Int))) (hcap : n ≤ cap) (hcell' : ∀ j, j < m → w.cell? ⟨b', j, none⟩ = some (.int .u32 (dg Bv j : Int))) (hcap' : m ≤ cap') (hM : M = A * Bv) :
    Calls Tryz.prog 89 #[.slice (some ⟨b, 0, none⟩) n cap, .slice (some ⟨b', 0, none⟩) m cap'] w fun e w' => ∃ v' k, e = .returned v' ∧ Big w' v' k M ∧ k ≤ n + m ∧ Gb w w' := by
  have HC : Hid _ := hcell
  have HA : Hid _ := hA
  have HC' : Hid _ := hcell'
  have HB : Hid _ := hB
  have HM : Hid _ := hM
  clear hcell hA hM hcell' hB
  go_enter Tryz.func89, Tryz.ntmps89
  go_wp2
  go_loopw [5, 6] (fun v i wr => ∃ k : Nat, k ≤ n + m ∧ i = .int .i64 k ∧ Own wr w.heap.size v k 0 ∧ Gb w wr) (fun _ i _ => n + m - (intOf i).toNat)
  case atStart => exact ⟨0, Nat.zero_le _, rfl, own_lit w _, (Gb.refl w).alloc _⟩
  case round =>
    obtain ⟨k, hk, rfl, hown, hgb⟩ := hrel
    have hsz := hgb.size
    have HO : Hid _ := hown
    have HG : Hid _ := hgb
    clear hown hgb
    by_cases hl : k < n + m
    · have hl' : (k : Int) < (n : Int) + (m : Int) := by omega
      have HD : Hid (((dg 0 k : Nat) : Int) = 0) := by show _ = _; unfold dg; simp
      go_wp2_with (at_builtin; refine wpList_push rfl _ _ rfl w.heap.size k 0 _ wr.heap.size rfl (Own.alloc HO.out _) rfl (by rw [HD.out]; simp [go_sem]) (by omega) (by simp [go_sem]; omega) ?_; intro v' w1 hown1 hb1)
      go_roundw
      case rel => exact ⟨k + 1, by omega, by go_num, hown1, Gb.below (Gb.alloc HG.out _) hb1 (Nat.le_refl _)⟩
      case measure => simp [intOf] <;> omega
    · have HSM : Hid (k = n + m) := by show _ = _; omega
      have hk2 : k ≤ 2000000 := by omega
      have hl' : ¬ (k : Int) < (n : Int) + (m : Int) := by omega
      obtain ⟨g, c0, rfl, hg, hcg⟩ := Own.where HO.out
      have HL : Hid _ := hl
      clear hl
      go_wp2
      clear hk hl'
      go_loopw [7] (fun i wr' => ∃ i' : Nat, i' ≤ n ∧ i = .int .i64 i' ∧ Own wr' w.heap.size (.slice (some ⟨g, 0, none⟩) k c0) k (A % 4294967296 ^ i' * Bv) ∧ Gb w wr') (fun i _ => n - (intOf i).toNat)
      case atStart => exact ⟨0, Nat.zero_le _, rfl, by rw [Nat.pow_zero, Nat.mod_one, Nat.zero_mul]; exact HO.out, HG.out⟩
      case round =>
        clear HO HG hsz
        obtain ⟨i, hi, rfl, hown, hgb⟩ := hrel
        have HO : Hid _ := hown
        have HG : Hid _ := hgb
        clear hown hgb
        by_cases hin : i < n
        · have hin' : (i : Int) < (n : Int) := by omega
          go_wp2
          go_loopw [8, 9] (fun c j wr' => ∃ (j' c' V : Nat), j' ≤ m ∧ j = .int .i64 j' ∧ c = .int .u64 c' ∧ Hid (MulAt A Bv m i j' V c') ∧ Own wr' w.heap.size (.slice (some ⟨g, 0, none⟩) k c0) k V ∧ Gb w wr') (fun _ j _ => m - (intOf j).toNat)
          case atStart => exact ⟨0, 0, _, Nat.zero_le _, rfl, rfl, mulAt_zero A Bv m i HB.out, HO.out, HG.out⟩
          case round =>
            clear HO HG
            obtain ⟨j, c, V, hj, rfl, rfl, HI, hown, hgb⟩ := hrel
            have HO : Hid _ := hown
            have HG : Hid _ := hgb
            clear hown hgb
            have hcl : c < 4294967296 := HI.out.2.2
            by_cases hjm : j < m
            · have hjm' : (j : Int) < (m : Int) := by omega
              obtain ⟨K, hK⟩ : ∃ K : Nat, K = i + j := ⟨_, rfl⟩
              have hKs : K < k := by have := HSM.out; omega
              have hKI : IntKind.i64.wrap ((i : Int) + (j : Int)) = (K : Int) := by rw [IntKind.wrap_i64] <;> omega
              obtain ⟨hcv, hzv⟩ := Own.at HO.out K hKs
              have hca : wr.cell? ⟨b, i, none⟩ = some (.int .u32 (dg A i : Int)) := Gb.old HG.out (HC.out i hin)
              have hcb : wr.cell? ⟨b', j, none⟩ = some (.int .u32 (dg Bv j : Int)) := Gb.old HG.out (HC'.out j hjm)
              have ha := dg_lt A i
              have hb := dg_lt Bv j
              have hv := dg_lt V K
              have hx := mul_small _ _ _ _ ha hb hv hcl
              obtain ⟨y, hy⟩ : ∃ y : Nat, y = dg A i * dg Bv j := ⟨_, rfl⟩
              rw [← hy] at hx
              obtain ⟨z, hz⟩ : ∃ z : Nat, z = y + dg V K := ⟨_, rfl⟩
              obtain ⟨x, hx0⟩ : ∃ x : Nat, x = z + c := ⟨_, rfl⟩
              have hw1 : IntKind.u64.wrap ((dg A i : Int) * (dg Bv j : Int)) = (y : Int) := by
                have e : (dg A i : Int) * (dg Bv j : Int) = (y : Int) := by rw [hy]; push_cast; rfl
                rw [e, IntKind.wrap_u64]; omega
              have hw2 : IntKind.u64.wrap ((y : Int) + (dg V K : Int)) = (z : Int) := by rw [IntKind.wrap_u64]; omega
              have hw3 : IntKind.u64.wrap ((z : Int) + (c : Int)) = (x : Int) := by rw [IntKind.wrap_u64]; omega
              rw [← hz, ← hx0] at hx
              have HS : Hid (MulAt A Bv m i (j + 1) (put V K (x % 4294967296)) (x / 4294967296)) := by
                have h := mulAt_step HI.out hjm
                rw [← hK, ← hy, ← hz, ← hx0] at h
                exact h
              have hput := Own.store HO.out K (x % 4294967296) hKs (by omega)
              have hxc : ((x % 4294967296 : Nat) : Int) = (x : Int) % 4294967296 := by omega
              rw [hxc] at hput
              have HP : Hid _ := hput
              have HK : Hid _ := hK
              clear hput hy hz hx0 hK hxc
              generalize dg A i = ta at *
              generalize dg Bv j = tb at *
              generalize dg V K = tv at *
              go_wp2
              go_region
              all_goals (try go_wp2)
              all_goals go_roundw
              all_goals first
                | exact ⟨j + 1, x / 4294967296, _, by omega, by go_num, by go_num, HS.out, Own.drew HP.out, Gb.drew (Gb.setCell HG.out hg _)⟩
                | exact ⟨j + 1, x / 4294967296, _, by omega, by go_num, by go_num, HS.out, HP.out, Gb.setCell HG.out hg _⟩
                | (simp [intOf] <;> omega)
            · have hjm' : ¬ (j : Int) < (m : Int) := by omega
              obtain rfl : j = m := by omega
              have HE : Hid _ := mulAt_end HI.out HB.out
              obtain ⟨K, hK⟩ : ∃ K : Nat, K = i + j := ⟨_, rfl⟩
              rw [← hK] at HE
              have hKs : K < k := by have := HSM.out; omega
              have hKI : IntKind.i64.wrap ((i : Int) + (j : Int)) = (K : Int) := by rw [IntKind.wrap_i64] <;> omega
              have hKJ : (i : Int) + (j : Int) = (K : Int) := by omega
              obtain ⟨hcv, hzv⟩ := Own.at HO.out K hKs
              have hput := Own.store HO.out K c hKs hcl
              rw [HE.out] at hput
              have HP : Hid _ := hput
              have HK : Hid _ := hK
              clear hput hK HE
              generalize dg V K = tv at *
              go_wp2
              go_roundw
              case rel => exact ⟨i + 1, by omega, by go_num, HP.out, Gb.setCell HG.out hg _⟩
              case measure => simp [intOf] <;> omega
        · have hin' : ¬ (i : Int) < (n : Int) := by omega
          obtain rfl : i = n := by omega
          have HF : Hid (Raw wr (.slice (some ⟨g, 0, none⟩) k c0) k M) := by
            have h1 := HO.out
            rw [Nat.mod_eq_of_lt HA.out, ← HM.out] at h1
            refine Own.raw h1 ?_
            rw [HM.out, HSM.out, Nat.pow_add]
            rcases Nat.eq_zero_or_pos Bv with e | e
            · rw [e, Nat.mul_zero]; exact Nat.mul_pos (pw_pos _) (pw_pos _)
            · exact Nat.mul_lt_mul_of_lt_of_le HA.out (Nat.le_of_lt HB.out) (pw_pos _)
          go_wp2_with (go_at_call 96; refine (l2Norm_any HF.out (by omega)).mono ?_; rintro e w' ⟨v'', k', rfl, hw, hbig, hk'⟩; subst hw)
          go_returns
          exact ⟨_, _, rfl, hbig, by have := HSM.out; omega, HG.out⟩

theorem l2Mul_any {v v2 : Value} {n N n' N' : Nat} {w : World} (h : Big w v n N) (hn : n ≤ 1000000) (h' : Big w v2 n' N') (hn' : n' ≤ 1000000) :
    Calls Tryz.prog 89 #[v, v2] w fun e w' => ∃ v' k, e = .returned v' ∧ Big w' v' k (N * N') ∧ k ≤ n + n' ∧ Gb w w' := by
  obtain ⟨hnm, hN, b, cap, rfl, hcap, hmx, hcell⟩ := h
  obtain ⟨hnm', hN', b', cap', rfl, hcap', hmx', hcell'⟩ := h'
  exact l2Mul_core hn hN hn' hN' hcell hcap hcell' hcap' rfl
end Go.Proofs.YtkflpogmhailhaaGreatDoor
