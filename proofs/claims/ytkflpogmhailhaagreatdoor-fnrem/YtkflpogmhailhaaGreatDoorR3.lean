/- A row of the model's own: its places. -/
import Derived.Test.YtkflpogmhailhaaGreatDoorBigB
import Derived.Test.YtkflpogmhailhaaGreatDoorA6
set_option linter.unusedVariables false
set_option linter.unusedSimpArgs false
namespace Go.Proofs.YtkflpogmhailhaaGreatDoor
open Go.RowKit

theorem Own.store {w : World} {base g cap n V : Nat} (h : Own w base (.slice (some ⟨g, 0, none⟩) n cap) n V) (k d : Nat) (hk : k < n) (hd : d < 4294967296) :
    Own (w.setCell ⟨g, k, none⟩ (.int .u32 (d : Int))) base (.slice (some ⟨g, 0, none⟩) n cap) n (put V k d) := by
  refine ⟨?_, h.2⟩
  rw [← wds_put n V k d hk hd]
  exact (h.1.stored k _).1
theorem Own.at {w : World} {base g cap n V : Nat} (h : Own w base (.slice (some ⟨g, 0, none⟩) n cap) n V) (k : Nat) (hk : k < n) :
    w.cell? ⟨g, k, none⟩ = some (.int .u32 (dg V k : Int)) ∧ w.frozen? ⟨g, k, none⟩ = false := by
  refine ⟨?_, h.1.frozenAt k⟩
  rw [h.1.cellAt k (by omega), wds_get n V k hk]
theorem Own.where {w : World} {base : Nat} {v : Value} {n N : Nat} (h : Own w base v n N) : ∃ g cap, v = .slice (some ⟨g, 0, none⟩) n cap ∧ base ≤ g ∧ n ≤ cap := by
  obtain ⟨⟨h1, h2⟩, h3⟩ := h
  rcases h2 with ⟨rfl, _⟩ | ⟨g, cap, cur, rfl, hb, hh, hc, hm, hs, ht⟩
  · exact absurd rfl h3
  · exact ⟨g, cap, rfl, hb, hc⟩

end Go.Proofs.YtkflpogmhailhaaGreatDoor

/- spec.l2Mul. -/
set_option linter.unusedVariables false
set_option linter.unusedSimpArgs false
namespace Go.Proofs.YtkflpogmhailhaaGreatDoor
open Go.RowKit

set_option maxRecDepth 1000000 in
set_option maxHeartbeats 4000000 in
theorem l2Mul_core {b cap n A b' cap' m Bv M : Nat} {w : World} (hn : n ≤ 1000000) (hA : A < 4294967296 ^ n) (hm : m ≤ 1000000) (hB : Bv < 4294967296 ^ m)
    (hcell : ∀ j, j < n → w.cell? ⟨b, j, none⟩ = some (.int .u32 (dg A j : Int))) (hcap : n ≤ cap) (hcell' : ∀ j, j < m → w.cell? ⟨b', j, none⟩ = some (.int .u32 (dg Bv j : Int))) (hcap' : m ≤ cap') (hM : M = A * Bv) :
    Calls Tryz.prog 89 #[.slice (some ⟨b, 0, none⟩) n cap, .slice (some ⟨b', 0, none⟩) m cap'] w fun e w' => ∃ v' k, e = .returned v' ∧ Big w' v' k M ∧ k ≤ n + m ∧ Gb w w' := by
  have HC : Hid _ := hcell
  have HA : Hid _ := hA
  have HC' : Hid _ := hcell'
  have HB : Hid _ := hB
  have HM : Hid _ := hM
  clear hcell hA hM hcell' hB
  go_enter Tryz.func89, Tryz.ntmps89
  go_wp2
  go_loopw [5, 6] (fun v i wr => ∃ k : Nat, k ≤ n + m ∧ i = .int .i64 k ∧ Own wr w.heap.size v k 0 ∧ Gb w wr) (fun _ i _ => n + m - (intOf i).toNat)
  case atStart => exact ⟨0, Nat.zero_le _, rfl, own_lit w _, (Gb.refl w).alloc _⟩
  case round =>
    obtain ⟨k, hk, rfl, hown, hgb⟩ := hrel
    have hsz := hgb.size
    have HO : Hid _ := hown
    have HG : Hid _ := hgb
    clear hown hgb
    by_cases hl : k < n + m
    · have hl' : (k : Int) < (n : Int) + (m : Int) := by omega
      have HD : Hid (((dg 0 k : Nat) : Int) = 0) := by show _ = _; unfold dg; simp
      go_wp2_with (at_builtin; refine wpList_push rfl _ _ rfl w.heap.size k 0 _ wr.heap.size rfl (Own.alloc HO.out _) rfl (by rw [HD.out]; simp [go_sem]) (by omega) (by simp [go_sem]; omega) ?_; intro v' w1 hown1 hb1)
      go_roundw
      case rel => exact ⟨k + 1, by omega, by go_num, hown1, Gb.below (Gb.alloc HG.out _) hb1 (Nat.le_refl _)⟩
      case measure => simp [intOf] <;> omega
    · have HSM : Hid (k = n + m) := by show _ = _; omega
      have hk2 : k ≤ 2000000 := by omega
      have hl' : ¬ (k : Int) < (n : Int) + (m : Int) := by omega
      obtain ⟨g, c0, rfl, hg, hcg⟩ := Own.where HO.out
      have HL : Hid _ := hl
      clear hl
      go_wp2
      clear hk hl'
      go_loopw [7] (fun i wr' => ∃ i' : Nat, i' ≤ n ∧ i = .int .i64 i' ∧ Own wr' w.heap.size (.slice (some ⟨g, 0, none⟩) k c0) k (A % 4294967296 ^ i' * Bv) ∧ Gb w wr') (fun i _ => n - (intOf i).toNat)
      case atStart => exact ⟨0, Nat.zero_le _, rfl, by rw [Nat.pow_zero, Nat.mod_one, Nat.zero_mul]; exact HO.out, HG.out⟩
      case round =>
        clear HO HG hsz
        obtain ⟨i, hi, rfl, hown, hgb⟩ := hrel
        have HO : Hid _ := hown
        have HG : Hid _ := hgb
        clear hown hgb
        by_cases hin : i < n
        · have hin' : (i : Int) < (n : Int) := by omega
          go_wp2
          go_loopw [8, 9] (fun c j wr' => ∃ (j' c' V : Nat), j' ≤ m ∧ j = .int .i64 j' ∧ c = .int .u64 c' ∧ Hid (MulAt A Bv m i j' V c') ∧ Own wr' w.heap.size (.slice (some ⟨g, 0, none⟩) k c0) k V ∧ Gb w wr') (fun _ j _ => m - (intOf j).toNat)
          case atStart => exact ⟨0, 0, _, Nat.zero_le _, rfl, rfl, mulAt_zero A Bv m i HB.out, HO.out, HG.out⟩
          case round =>
            clear HO HG
            obtain ⟨j, c, V, hj, rfl, rfl, HI, hown, hgb⟩ := hrel
            have HO : Hid _ := hown
            have HG : Hid _ := hgb
            clear hown hgb
            have hcl : c < 4294967296 := HI.out.2.2
            by_cases hjm : j < m
            · have hjm' : (j : Int) < (m : Int) := by omega
              obtain ⟨K, hK⟩ : ∃ K : Nat, K = i + j := ⟨_, rfl⟩
              have hKs : K < k := by have := HSM.out; omega
              have hKI : IntKind.i64.wrap ((i : Int) + (j : Int)) = (K : Int) := by rw [IntKind.wrap_i64] <;> omega
              obtain ⟨hcv, hzv⟩ := Own.at HO.out K hKs
              have hca : wr.cell? ⟨b, i, none⟩ = some (.int .u32 (dg A i : Int)) := Gb.old HG.out (HC.out i hin)
              have hcb : wr.cell? ⟨b', j, none⟩ = some (.int .u32 (dg Bv j : Int)) := Gb.old HG.out (HC'.out j hjm)
              have ha := dg_lt A i
              have hb := dg_lt Bv j
              have hv := dg_lt V K
              have hx := mul_small _ _ _ _ ha hb hv hcl
              obtain ⟨y, hy⟩ : ∃ y : Nat, y = dg A i * dg Bv j := ⟨_, rfl⟩
              rw [← hy] at hx
              obtain ⟨z, hz⟩ : ∃ z : Nat, z = y + dg V K := ⟨_, rfl⟩
              obtain ⟨x, hx0⟩ : ∃ x : Nat, x = z + c := ⟨_, rfl⟩
              have hw1 : IntKind.u64.wrap ((dg A i : Int) * (dg Bv j : Int)) = (y : Int) := by
                have e : (dg A i : Int) * (dg Bv j : Int) = (y : Int) := by rw [hy]; push_cast; rfl
                rw [e, IntKind.wrap_u64]; omega
              have hw2 : IntKind.u64.wrap ((y : Int) + (dg V K : Int)) = (z : Int) := by rw [IntKind.wrap_u64]; omega
              have hw3 : IntKind.u64.wrap ((z : Int) + (c : Int)) = (x : Int) := by rw [IntKind.wrap_u64]; omega
              rw [← hz, ← hx0] at hx
              have HS : Hid (MulAt A Bv m i (j + 1) (put V K (x % 4294967296)) (x / 4294967296)) := by
                have h := mulAt_step HI.out hjm
                rw [← hK, ← hy, ← hz, ← hx0] at h
                exact h
              have hput := Own.store HO.out K (x % 4294967296) hKs (by omega)
              have hxc : ((x % 4294967296 : Nat) : Int) = (x : Int) % 4294967296 := by omega
              rw [hxc] at hput
              have HP : Hid _ := hput
              have HK : Hid _ := hK
              clear hput hy hz hx0 hK hxc
              generalize dg A i = ta at *
              generalize dg Bv j = tb at *
              generalize dg V K = tv at *
              go_wp2
              go_region
              all_goals (try go_wp2)
              all_goals go_roundw
              all_goals first
                | exact ⟨j + 1, x / 4294967296, _, by omega, by go_num, by go_num, HS.out, Own.drew HP.out, Gb.drew (Gb.setCell HG.out hg _)⟩
                | exact ⟨j + 1, x / 4294967296, _, by omega, by go_num, by go_num, HS.out, HP.out, Gb.setCell HG.out hg _⟩
                | (simp [intOf] <;> omega)
            · have hjm' : ¬ (j : Int) < (m : Int) := by omega
              obtain rfl : j = m := by omega
              have HE : Hid _ := mulAt_end HI.out HB.out
              obtain ⟨K, hK⟩ : ∃ K : Nat, K = i + j := ⟨_, rfl⟩
              rw [← hK] at HE
              have hKs : K < k := by have := HSM.out; omega
              have hKI : IntKind.i64.wrap ((i : Int) + (j : Int)) = (K : Int) := by rw [IntKind.wrap_i64] <;> omega
              have hKJ : (i : Int) + (j : Int) = (K : Int) := by omega
              obtain ⟨hcv, hzv⟩ := Own.at HO.out K hKs
              have hput := Own.store HO.out K c hKs hcl
              rw [HE.out] at hput
              have HP : Hid _ := hput
              have HK : Hid _ := hK
              clear hput hK HE
              generalize dg V K = tv at *
              go_wp2
              go_roundw
              case rel => exact ⟨i + 1, by omega, by go_num, HP.out, Gb.setCell HG.out hg _⟩
              case measure => simp [intOf] <;> omega
        · have hin' : ¬ (i : Int) < (n : Int) := by omega
          obtain rfl : i = n := by omega
          have HF : Hid (Raw wr (.slice (some ⟨g, 0, none⟩) k c0) k M) := by
            have h1 := HO.out
            rw [Nat.mod_eq_of_lt HA.out, ← HM.out] at h1
            refine Own.raw h1 ?_
            rw [HM.out, HSM.out, Nat.pow_add]
            rcases Nat.eq_zero_or_pos Bv with e | e
            · rw [e, Nat.mul_zero]; exact Nat.mul_pos (pw_pos _) (pw_pos _)
            · exact Nat.mul_lt_mul_of_lt_of_le HA.out (Nat.le_of_lt HB.out) (pw_pos _)
          go_wp2_with (go_at_call 96; refine (l2Norm_any HF.out (by omega)).mono ?_; rintro e w' ⟨v'', k', rfl, hw, hbig, hk'⟩; subst hw)
          go_returns
          exact ⟨_, _, rfl, hbig, by have := HSM.out; omega, HG.out⟩

theorem l2Mul_any {v v2 : Value} {n N n' N' : Nat} {w : World} (h : Big w v n N) (hn : n ≤ 1000000) (h' : Big w v2 n' N') (hn' : n' ≤ 1000000) :
    Calls Tryz.prog 89 #[v, v2] w fun e w' => ∃ v' k, e = .returned v' ∧ Big w' v' k (N * N') ∧ k ≤ n + n' ∧ Gb w w' := by
  obtain ⟨hnm, hN, b, cap, rfl, hcap, hmx, hcell⟩ := h
  obtain ⟨hnm', hN', b', cap', rfl, hcap', hmx', hcell'⟩ := h'
  exact l2Mul_core hn hN hn' hN' hcell hcap hcell' hcap' rfl
end Go.Proofs.YtkflpogmhailhaaGreatDoor

/- spec.l2Norm, l2Sub and l2Add again, with the block of their answers: it is new. -/
set_option linter.unusedVariables false
set_option linter.unusedSimpArgs false
namespace Go.Proofs.YtkflpogmhailhaaGreatDoor
open Go.RowKit

set_option maxHeartbeats 1000000 in
theorem l2Norm_at {b cap n N : Nat} {w : World} (h : Raw w (.slice (some ⟨b, 0, none⟩) n cap) n N) (hn : n ≤ 1000000000) :
    Calls Tryz.prog 96 #[.slice (some ⟨b, 0, none⟩) n cap] w fun e w' => ∃ k, e = .returned (.slice (some ⟨b, 0, none⟩) k cap) ∧ w = w' ∧ Big w (.slice (some ⟨b, 0, none⟩) k cap) k N ∧ k ≤ n := by
  obtain ⟨hN, b1, cap1, hv, hcap, hmx, hcell⟩ := h
  cases hv
  have hmx' : cap ≤ 9223372036854775807 := hmx
  have HC : Hid _ := hcell
  have HN : Hid _ := hN
  have HM : Hid _ := hmx
  clear hcell hN hmx
  go_enter Tryz.func96, Tryz.ntmps96
  go_wp2
  go_loop [3] (fun i => ∃ k : Nat, k ≤ n ∧ i = .int .i64 k ∧ Hid (N < 4294967296 ^ k)) (fun i => (intOf i).toNat)
  case atStart => exact ⟨n, Nat.le_refl _, rfl, HN.out⟩
  case round =>
    obtain ⟨k, hk, rfl, HK⟩ := hrel
    rcases Nat.eq_zero_or_pos k with rfl | hpos
    · have HF : Hid (Big w (.slice (some ⟨b, 0, none⟩) 0 cap) 0 N) := ⟨⟨HK.out, .inl rfl⟩, HK.out, b, cap, rfl, Nat.zero_le _, HM.out, fun j hj => by omega⟩
      go_wp2
      go_returns
      exact ⟨_, rfl, rfl, HF.out, by omega⟩
    · obtain ⟨j, rfl⟩ : ∃ j, k = j + 1 := ⟨k - 1, by omega⟩
      have hc : w.cell? ⟨b, j, none⟩ = some (.int .u32 (dg N j : Int)) := HC.out j (by omega)
      have hjj : ((j + 1 : Nat) : Int) - 1 = (j : Int) := by omega
      by_cases hz : dg N j = 0
      · have HL : Hid _ := low_of_dg HK.out hz
        have hz2 : ((dg N j : Nat) : Int) = 0 := by omega
        rw [hz2] at hc
        clear hz hz2
        go_wp2
        go_round
        case rel => exact ⟨j, by omega, by go_num, HL.out⟩
        case measure => simp [intOf] <;> omega
      · have hz2 : (((dg N j : Nat) : Int) == 0) = false := by simp; omega
        have HF : Hid (Big w (.slice (some ⟨b, 0, none⟩) (j + 1) cap) (j + 1) N) := ⟨⟨HK.out, .inr (ge_of_dg hz)⟩, HK.out, b, cap, rfl, by omega, HM.out, fun i hi => HC.out i (by omega)⟩
        clear hz
        go_wp2
        go_returns
        exact ⟨_, rfl, rfl, HF.out, by omega⟩

set_option maxRecDepth 1000000 in
set_option maxHeartbeats 4000000 in
theorem l2Sub_new {b cap n N b' cap' n' N' M : Nat} {w : World} (hn : n ≤ 1000000) (hN : N < 4294967296 ^ n) (hn' : n' ≤ 1000000) (hN' : N' < 4294967296 ^ n')
    (hcell : ∀ j, j < n → w.cell? ⟨b, j, none⟩ = some (.int .u32 (dg N j : Int))) (hcap : n ≤ cap) (hcell' : ∀ j, j < n' → w.cell? ⟨b', j, none⟩ = some (.int .u32 (dg N' j : Int))) (hcap' : n' ≤ cap') (hle : N' ≤ N) (hM : M = N - N') :
    Calls Tryz.prog 49 #[.slice (some ⟨b, 0, none⟩) n cap, .slice (some ⟨b', 0, none⟩) n' cap'] w fun e w' => ∃ g c k, e = .returned (.slice (some ⟨g, 0, none⟩) k c) ∧ w.heap.size ≤ g ∧ Big w' (.slice (some ⟨g, 0, none⟩) k c) k M ∧ k ≤ n ∧ Gb w w' := by
  have HC : Hid _ := hcell
  have HN : Hid _ := hN
  have HC' : Hid _ := hcell'
  have HN' : Hid _ := hN'
  have HM : Hid _ := hM
  have HL : Hid _ := hle
  clear hcell hN hM hcell' hN' hle
  go_enter Tryz.func49, Tryz.ntmps49
  go_wp2
  go_loopw [5, 6, 7] (fun v c i wr => ∃ k c' : Nat, k ≤ n ∧ i = .int .i64 k ∧ c = .int .u64 c' ∧ Hid (c' = bor N N' k) ∧ Own wr w.heap.size v k M ∧ Gb w wr) (fun _ _ i _ => n - (intOf i).toNat)
  case atStart => exact ⟨0, 0, Nat.zero_le _, rfl, rfl, by show _ = _; rw [bor_zero], own_lit w _, (Gb.refl w).alloc _⟩
  case round =>
    obtain ⟨k, c, hk, rfl, rfl, HCy, hown, hgb⟩ := hrel
    have hsz := hgb.size
    have HO : Hid _ := hown
    have HG : Hid _ := hgb
    clear hown hgb
    by_cases hl : k < n
    · have hc : wr.cell? ⟨b, k, none⟩ = some (.int .u32 (dg N k : Int)) := Gb.old HG.out (HC.out k hl)
      have hl1 : (k : Int) < (n : Int) := by omega
      have e1 := sub_dg N N' k HL.out
      have e2 := bor_succ N N' k
      have c1 := bor_le N N' k
      rw [← HCy.out] at e1 e2 c1
      rw [← HM.out] at e1
      have hd0 := dg_lt N k
      have hd1 := dg_lt N' k
      have hd2 := dg_lt M k
      by_cases hl' : k < n'
      · have hc' : wr.cell? ⟨b', k, none⟩ = some (.int .u32 (dg N' k : Int)) := Gb.old HG.out (HC'.out k hl')
        have hl1' : (k : Int) < (n' : Int) := by omega
        by_cases hb : dg N k < dg N' k + c
        · rw [if_pos hb] at e1 e2
          have HDM : Hid ((dg N k : Int) + 4294967296 - ((c : Int) + (dg N' k : Int)) = (dg M k : Int)) := by show _ = _; omega
          have HE2 : Hid _ := e2
          have hb1 : (dg N k : Int) < (c : Int) + (dg N' k : Int) := by omega
          have hb2 : (dg N k : Int) + 4294967296 - ((c : Int) + (dg N' k : Int)) < 4294967296 := by omega
          clear e1 e2 hd2
          generalize dg N k = t at *
          generalize dg N' k = t' at *
          go_wp2_with (at_builtin; go_loud (refine wpList_push rfl _ _ rfl w.heap.size k M _ wr.heap.size rfl (Own.alloc HO.out _) rfl (by rw [← HDM.out]; simp [go_sem]) (by omega) (by simp [go_sem]; omega) ?_; intro v' w1 hown1 hb1))
          go_roundw
          case rel => exact ⟨k + 1, 1, by omega, by go_num, by go_num, by show _ = _; rw [HE2.out], hown1, Gb.below (Gb.alloc HG.out _) hb1 (Nat.le_refl _)⟩
          case measure => simp [intOf] <;> omega
        · rw [if_neg hb] at e1 e2
          have HDM : Hid ((dg N k : Int) - ((c : Int) + (dg N' k : Int)) = (dg M k : Int)) := by show _ = _; omega
          have HE2 : Hid _ := e2
          have hb1 : ¬ (dg N k : Int) < (c : Int) + (dg N' k : Int) := by omega
          have hb2 : (dg N k : Int) - ((c : Int) + (dg N' k : Int)) < 4294967296 := by omega
          clear e1 e2 hd2
          generalize dg N k = t at *
          generalize dg N' k = t' at *
          go_wp2_with (at_builtin; go_loud (refine wpList_push rfl _ _ rfl w.heap.size k M _ wr.heap.size rfl (Own.alloc HO.out _) rfl (by rw [← HDM.out]; simp [go_sem]) (by omega) (by simp [go_sem]; omega) ?_; intro v' w1 hown1 hb1))
          go_roundw
          case rel => exact ⟨k + 1, 0, by omega, by go_num, by go_num, by show _ = _; rw [HE2.out], hown1, Gb.below (Gb.alloc HG.out _) hb1 (Nat.le_refl _)⟩
          case measure => simp [intOf] <;> omega
      · have hl1' : ¬ (k : Int) < (n' : Int) := by omega
        have hz : dg N' k = 0 := dg_zero HN'.out (by omega)
        rw [hz] at e1 e2
        by_cases hb : dg N k < 0 + c
        · rw [if_pos hb] at e1 e2
          have HDM : Hid ((dg N k : Int) + 4294967296 - (c : Int) = (dg M k : Int)) := by show _ = _; omega
          have HE2 : Hid _ := e2
          have hb1 : (dg N k : Int) < (c : Int) := by omega
          have hb2 : (dg N k : Int) + 4294967296 - (c : Int) < 4294967296 := by omega
          clear e1 e2 hd2 hz hd1 hb
          generalize dg N k = t at *
          go_wp2_with (at_builtin; go_loud (refine wpList_push rfl _ _ rfl w.heap.size k M _ wr.heap.size rfl (Own.alloc HO.out _) rfl (by rw [← HDM.out]; simp [go_sem]) (by omega) (by simp [go_sem]; omega) ?_; intro v' w1 hown1 hb1))
          go_roundw
          case rel => exact ⟨k + 1, 1, by omega, by go_num, by go_num, by show _ = _; rw [HE2.out], hown1, Gb.below (Gb.alloc HG.out _) hb1 (Nat.le_refl _)⟩
          case measure => simp [intOf] <;> omega
        · rw [if_neg hb] at e1 e2
          have HDM : Hid ((dg N k : Int) - (c : Int) = (dg M k : Int)) := by show _ = _; omega
          have HE2 : Hid _ := e2
          have hb1 : ¬ (dg N k : Int) < (c : Int) := by omega
          have hb2 : (dg N k : Int) - (c : Int) < 4294967296 := by omega
          clear e1 e2 hd2 hz hd1 hb
          generalize dg N k = t at *
          go_wp2_with (at_builtin; go_loud (refine wpList_push rfl _ _ rfl w.heap.size k M _ wr.heap.size rfl (Own.alloc HO.out _) rfl (by rw [← HDM.out]; simp [go_sem]) (by omega) (by simp [go_sem]; omega) ?_; intro v' w1 hown1 hb1))
          go_roundw
          case rel => exact ⟨k + 1, 0, by omega, by go_num, by go_num, by show _ = _; rw [HE2.out], hown1, Gb.below (Gb.alloc HG.out _) hb1 (Nat.le_refl _)⟩
          case measure => simp [intOf] <;> omega
    · have hl1 : ¬ (k : Int) < (n : Int) := by omega
      have HF : Hid (M < 4294967296 ^ k) := by
        have h1 := HN.out
        show _ < _
        rw [HM.out, show k = n by omega]; omega
      obtain ⟨g, c0, rfl, hbg, hcg⟩ := Own.where HO.out
      go_wp2_with (go_at_call 96; refine (l2Norm_at (Own.raw HO.out HF.out) (by omega)).mono ?_; rintro e w' ⟨k', rfl, hw, hbig, hk'⟩; subst hw)
      go_returns
      exact ⟨_, _, _, rfl, hbg, hbig, by omega, HG.out⟩

set_option maxRecDepth 1000000 in
set_option maxHeartbeats 4000000 in
theorem l2Add_new {b cap n N b' cap' n' N' M : Nat} {w : World} (hn : n ≤ 1000000) (hN : N < 4294967296 ^ n) (hn' : n' ≤ 1000000) (hN' : N' < 4294967296 ^ n')
    (hcell : ∀ j, j < n → w.cell? ⟨b, j, none⟩ = some (.int .u32 (dg N j : Int))) (hcap : n ≤ cap) (hcell' : ∀ j, j < n' → w.cell? ⟨b', j, none⟩ = some (.int .u32 (dg N' j : Int))) (hcap' : n' ≤ cap') (hM : M = N + N') :
    Calls Tryz.prog 98 #[.slice (some ⟨b, 0, none⟩) n cap, .slice (some ⟨b', 0, none⟩) n' cap'] w fun e w' => ∃ g c k, e = .returned (.slice (some ⟨g, 0, none⟩) k c) ∧ w.heap.size ≤ g ∧ Big w' (.slice (some ⟨g, 0, none⟩) k c) k M ∧ k ≤ n + n' + 1 ∧ Gb w w' := by
  have HC : Hid _ := hcell
  have HN : Hid _ := hN
  have HC' : Hid _ := hcell'
  have HN' : Hid _ := hN'
  have HM : Hid _ := hM
  clear hcell hN hM hcell' hN'
  go_enter Tryz.func98, Tryz.ntmps98
  go_wp2
  go_loopw [5, 6, 7] (fun v c i wr => ∃ k c' : Nat, (k ≤ n ∨ k ≤ n') ∧ i = .int .i64 k ∧ c = .int .u64 c' ∧ Hid (c' = (N % 4294967296 ^ k + N' % 4294967296 ^ k) / 4294967296 ^ k) ∧ Own wr w.heap.size v k M ∧ Gb w wr) (fun _ _ i _ => n + n' - (intOf i).toNat)
  case atStart => exact ⟨0, 0, .inl (Nat.zero_le _), rfl, rfl, by show _ = _; simp [Nat.mod_one], own_lit w _, (Gb.refl w).alloc _⟩
  case round =>
    obtain ⟨k, c, hk, rfl, rfl, HCy, hown, hgb⟩ := hrel
    have hsz := hgb.size
    have HO : Hid _ := hown
    have HG : Hid _ := hgb
    clear hown hgb
    obtain ⟨e1, e2, c1⟩ := add_carry N N' k c HCy.out
    have hd0 := dg_lt N k
    have hd1 := dg_lt N' k
    have HDM : Hid (((c : Int) + (dg N k : Int) + (dg N' k : Int)) % 4294967296 = (dg M k : Int)) := by show _ = _; rw [HM.out, e1]; omega
    have HE2 : Hid _ := e2
    clear e1 e2
    by_cases hl : k < n
    · have hc : wr.cell? ⟨b, k, none⟩ = some (.int .u32 (dg N k : Int)) := Gb.old HG.out (HC.out k hl)
      have hl1 : (k : Int) < (n : Int) := by omega
      by_cases hl' : k < n'
      · have hc' : wr.cell? ⟨b', k, none⟩ = some (.int .u32 (dg N' k : Int)) := Gb.old HG.out (HC'.out k hl')
        have hl1' : (k : Int) < (n' : Int) := by omega
        generalize dg N k = t at *
        generalize dg N' k = t' at *
        go_wp2_with (at_builtin; go_loud (refine wpList_push rfl _ _ rfl w.heap.size k M _ wr.heap.size rfl (Own.alloc HO.out _) rfl (by rw [← HDM.out]; simp [go_sem]) (by omega) (by simp [go_sem]; omega) ?_; intro v' w1 hown1 hb1))
        go_roundw
        case rel => exact ⟨k + 1, (c + t + t') / 4294967296, .inl (by omega), by go_num, by go_num, by show _ = _; rw [HE2.out], hown1, Gb.below (Gb.alloc HG.out _) hb1 (Nat.le_refl _)⟩
        case measure => simp [intOf] <;> omega
      · have hl1' : ¬ (k : Int) < (n' : Int) := by omega
        have hz : dg N' k = 0 := dg_zero HN'.out (by omega)
        rw [hz] at HE2
        have HDM2 : Hid (((c : Int) + (dg N k : Int)) % 4294967296 = (dg M k : Int)) := by show _ = _; rw [← HDM.out, hz]; simp
        clear hz HDM hd1
        generalize dg N k = t at *
        go_wp2_with (at_builtin; go_loud (refine wpList_push rfl _ _ rfl w.heap.size k M _ wr.heap.size rfl (Own.alloc HO.out _) rfl (by rw [← HDM2.out]; simp [go_sem]) (by omega) (by simp [go_sem]; omega) ?_; intro v' w1 hown1 hb1))
        go_roundw
        case rel => exact ⟨k + 1, (c + t) / 4294967296, .inl (by omega), by go_num, by go_num, by show _ = _; rw [HE2.out]; rfl, hown1, Gb.below (Gb.alloc HG.out _) hb1 (Nat.le_refl _)⟩
        case measure => simp [intOf] <;> omega
    · have hl1 : ¬ (k : Int) < (n : Int) := by omega
      have hz : dg N k = 0 := dg_zero HN.out (by omega)
      by_cases hl' : k < n'
      · have hc' : wr.cell? ⟨b', k, none⟩ = some (.int .u32 (dg N' k : Int)) := Gb.old HG.out (HC'.out k hl')
        have hl1' : (k : Int) < (n' : Int) := by omega
        rw [hz] at HE2
        have HDM2 : Hid (((c : Int) + (dg N' k : Int)) % 4294967296 = (dg M k : Int)) := by show _ = _; rw [← HDM.out, hz]; simp
        clear hz HDM hd0
        generalize dg N' k = t at *
        go_wp2_with (at_builtin; go_loud (refine wpList_push rfl _ _ rfl w.heap.size k M _ wr.heap.size rfl (Own.alloc HO.out _) rfl (by rw [← HDM2.out]; simp [go_sem]) (by omega) (by simp [go_sem]; omega) ?_; intro v' w1 hown1 hb1))
        go_roundw
        case rel => exact ⟨k + 1, (c + t) / 4294967296, .inr (by omega), by go_num, by go_num, by show _ = _; rw [HE2.out]; rfl, hown1, Gb.below (Gb.alloc HG.out _) hb1 (Nat.le_refl _)⟩
        case measure => simp [intOf] <;> omega
      · have hl1' : ¬ (k : Int) < (n' : Int) := by omega
        have HDM2 : Hid ((c : Int) = (dg M k : Int)) := by
          have := add_end HN.out HN'.out (show n ≤ k by omega) (show n' ≤ k by omega)
          show _ = _; rw [HM.out, this, ← HCy.out]
        have HF : Hid (M < 4294967296 ^ (k + 1)) := by
          have := add_lt_pw HN.out HN'.out (show n ≤ k by omega) (show n' ≤ k by omega)
          show _ < _; rw [HM.out]; exact this
        clear hz HDM hd0 hd1 HE2
        have hkb : k ≤ n + n' := by omega
        go_wp2_with (first
          | (at_builtin; go_loud (refine wpList_push rfl _ _ rfl w.heap.size k M _ wr.heap.size rfl (Own.alloc HO.out _) rfl (by rw [← HDM2.out]; simp [go_sem]) (by omega) (by simp [go_sem]; omega) ?_; intro v' w1 hown1 hb1; obtain ⟨g, c0, rfl, hbg, hcg⟩ := Own.where hown1))
          | (go_at_call 96; refine (l2Norm_at (Own.raw hown1 HF.out) (by omega)).mono ?_; rintro e w' ⟨k', rfl, hw, hbig, hk'⟩; subst hw))
        go_returns
        exact ⟨_, _, _, rfl, hbg, hbig, by omega, Gb.below (Gb.alloc HG.out _) hb1 (Nat.le_refl _)⟩
end Go.Proofs.YtkflpogmhailhaaGreatDoor

/- spec.l2Bit at any place, spec.l2Div. -/
set_option linter.unusedVariables false
set_option linter.unusedSimpArgs false
namespace Go.Proofs.YtkflpogmhailhaaGreatDoor
open Go.RowKit

theorem bit_dg (N i : Nat) : dg N (i / 32) / 2 ^ (i % 32) % 2 = N / 2 ^ i % 2 := by
  unfold dg
  have e : N / 2 ^ i = N / 4294967296 ^ (i / 32) / 2 ^ (i % 32) := by
    rw [← two_pw, Nat.div_div_eq_div_mul, ← Nat.pow_add]
    congr 2
    omega
  rw [e]
  generalize N / 4294967296 ^ (i / 32) = X
  have hs : i % 32 < 32 := Nat.mod_lt _ (by decide)
  generalize i % 32 = s at hs
  have h1 : 4294967296 = 2 ^ s * 2 ^ (32 - s) := by rw [← Nat.pow_add, show s + (32 - s) = 32 by omega]
  rw [h1, Nat.mod_mul_right_div_self, show 32 - s = 31 - s + 1 by omega, Nat.pow_succ, Nat.mul_comm, Nat.mod_mul_right_mod]

set_option maxHeartbeats 1000000 in
theorem l2Bit_any {v : Value} {n N : Nat} {w : World} (h : Big w v n N) (hn : n ≤ 1000000) (i : Nat) (hi : i ≤ 32000000) :
    Calls Tryz.prog 48 #[v, .int .i64 (i : Int)] w fun e w' => e = .returned (.int .u32 ((N / 2 ^ i % 2 : Nat) : Int)) ∧ w = w' := by
  obtain ⟨hnm, hN, b, cap, rfl, hcap, hmx, hcell⟩ := h
  obtain ⟨q, hq⟩ : ∃ q : Nat, q = i / 32 := ⟨_, rfl⟩
  obtain ⟨r, hr⟩ : ∃ r : Nat, r = i % 32 := ⟨_, rfl⟩
  have q1 : (i : Int) / 32 = (q : Int) := by omega
  have r1 : (i : Int) % 32 = (r : Int) := by omega
  have hr32 : r < 32 := by omega
  have q2 : Int.tdiv (i : Int) 32 = (q : Int) := by rw [Int.tdiv_eq_ediv_of_nonneg (by omega)]; exact q1
  have r2 : Int.tmod (i : Int) 32 = (r : Int) := by rw [Int.tmod_eq_emod_of_nonneg (by omega)]; exact r1
  have hb := bit_dg N i
  rw [← hq, ← hr] at hb
  have HB : Hid _ := hb
  clear hb
  by_cases hl : q < n
  · have hc : w.cell? ⟨b, q, none⟩ = some (.int .u32 (dg N q : Int)) := hcell q hl
    have hd := dg_lt N q
    have hl' : ¬ (n : Int) ≤ (q : Int) := by omega
    generalize dg N q = t at *
    have hsh : (t : Int) / 2 ^ r = ((t / 2 ^ r : Nat) : Int) := by push_cast; rfl
    have hlt : t / 2 ^ r < 4294967296 := Nat.lt_of_le_of_lt (Nat.div_le_self _ _) hd
    rw [← HB.out]
    generalize t / 2 ^ r = u at *
    clear hcell hnm hN hq hr HB
    go_enter Tryz.func48, Tryz.ntmps48
    go_wp2
    go_returns
    refine ⟨ret_congr (congrArg (Value.int IntKind.u32) ?_), rfl⟩
    simp [go_sem]
  · have hz : N / 2 ^ i % 2 = 0 := by
      rw [← HB.out, dg_zero hN (by omega)]
      simp
    rw [hz]
    have hl' : (n : Int) ≤ (q : Int) := by omega
    clear hcell hnm hN hq hr HB
    go_enter Tryz.func48, Tryz.ntmps48
    go_wp2
    go_returns
    exact ⟨rfl, rfl⟩

theorem Own.gb {w w' : World} {base : Nat} {v : Value} {n N : Nat} (h : Own w base v n N) (k : Gb w w') : Own w' base v n N := by
  obtain ⟨⟨h1, h2⟩, h3⟩ := h
  refine ⟨⟨h1, ?_⟩, h3⟩
  rcases h2 with h2 | ⟨g, cap, cur, hv, hb, hh, hc, hm, hs, ht⟩
  · exact .inl h2
  · exact .inr ⟨g, cap, cur, hv, hb, (Below.block k g (Array.getElem?_eq_some_iff.1 hh).1).trans hh, hc, hm, hs, ht⟩

theorem wds_made (n : Nat) : (madeCells #[Value.int .u32 0] n).toList = wds n 0 := by
  apply List.ext_getElem?
  intro j
  by_cases hj : j < n
  · rw [wds_get n 0 j hj]
    have e : dg 0 j = 0 := by unfold dg; simp
    rw [e]
    simp [madeCells, hj, Nat.mod_one]
  · rw [List.getElem?_eq_none (by simp [size_madeCells]; omega), List.getElem?_eq_none (by rw [wds_length]; omega)]

theorem own_made (n : Nat) (hn : n ≤ 1000000) (w : World) :
    ∃ w', (Instr.makeSlice 58 (.int .i64 (n : Int)) (.int .i64 (n : Int))).run Tryz.prog w = .ok (.slice (some ⟨w.heap.size, 0, none⟩) n n) w' ∧ Own w' w.heap.size (.slice (some ⟨w.heap.size, 0, none⟩) n n) n 0 ∧ Gb w w' := by
  obtain ⟨i0, hi, hz0, hz1, hz2⟩ := info_parts infoWord
  obtain ⟨w', h1, h2, h3⟩ := run_makeSlice_full (P := Tryz.prog) (w := w) w.heap.size 58 64 i0 (.int .u32 0) 1 Tryz.underlying58 hi hz0 hz1 .i64 .i64 n (by omega) (by rw [hz2]; omega) (by unfold maxLen; omega) (Nat.le_refl _)
  refine ⟨w', h1, ⟨?_, by simp⟩, (Below.refl _ w).grown h3 (Nat.le_refl _) (fun k e => by cases e)⟩
  rw [← wds_made]
  have e : n * 1 = n := Nat.mul_one n
  rw [e] at h2
  exact h2

/-! One step of long division. -/
theorem div_step (A B j : Nat) (hB : 0 < B) (R : Nat) (hR : R = A / 2 ^ (j + 1) % B * 2 + A / 2 ^ j % 2) :
    (B ≤ R → R - B = A / 2 ^ j % B ∧ A / 2 ^ (j + 1) / B * 2 ^ (j + 1) + 2 ^ j = A / 2 ^ j / B * 2 ^ j) ∧ (R < B → R = A / 2 ^ j % B ∧ A / 2 ^ (j + 1) / B * 2 ^ (j + 1) = A / 2 ^ j / B * 2 ^ j) := by
  have e0 : A / 2 ^ (j + 1) = A / 2 ^ j / 2 := by rw [Nat.pow_succ, Nat.div_div_eq_div_mul]
  rw [e0] at hR ⊢
  generalize A / 2 ^ j = Y at *
  have h1 := Nat.div_add_mod (Y / 2) B
  have h2 := Nat.mod_lt (Y / 2) hB
  generalize Y / 2 / B = q at *
  generalize Y / 2 % B = r at *
  have h3 : Y = B * (2 * q) + R := by
    have : B * (2 * q) = 2 * (B * q) := by rw [Nat.mul_left_comm]
    omega
  have hp : 2 ^ (j + 1) = 2 * 2 ^ j := by rw [Nat.pow_succ, Nat.mul_comm]
  rw [hp]
  constructor
  · intro h
    have h4 : Y = B * (2 * q + 1) + (R - B) := by rw [h3, Nat.mul_add, Nat.mul_one]; omega
    have e1 : Y / B = 2 * q + 1 := by rw [h4, Nat.mul_add_div hB, Nat.div_eq_of_lt (by omega)]
    have e2 : Y % B = R - B := by rw [h4, Nat.mul_add_mod, Nat.mod_eq_of_lt (by omega)]
    refine ⟨e2.symm, ?_⟩
    rw [e1, Nat.add_mul, Nat.one_mul, ← Nat.mul_assoc, Nat.mul_comm q 2]
  · intro h
    have e1 : Y / B = 2 * q := by rw [h3, Nat.mul_add_div hB, Nat.div_eq_of_lt h, Nat.add_zero]
    have e2 : Y % B = R := by rw [h3, Nat.mul_add_mod, Nat.mod_eq_of_lt h]
    refine ⟨e2.symm, ?_⟩
    rw [e1, ← Nat.mul_assoc, Nat.mul_comm q 2]

theorem put_bit (V j : Nat) (hV : V % 2 ^ (j + 1) = 0) : dg V (j / 32) + 2 ^ (j % 32) < 4294967296 ∧ put V (j / 32) (dg V (j / 32) + 2 ^ (j % 32)) = V + 2 ^ j := by
  have hs : j % 32 < 32 := Nat.mod_lt _ (by decide)
  have hj : 2 ^ j = 2 ^ (j % 32) * 4294967296 ^ (j / 32) := by
    rw [← two_pw, ← Nat.pow_add]
    congr 1
    omega
  have h1 := put_same V (j / 32) (dg V (j / 32) + 2 ^ (j % 32))
  rw [Nat.add_mul] at h1
  refine ⟨?_, by omega⟩
  have h2 : dg V (j / 32) % 2 ^ (j % 32 + 1) = 0 := by
    have e1 : 2 ^ (j + 1) = 4294967296 ^ (j / 32) * 2 ^ (j % 32 + 1) := by rw [← two_pw, ← Nat.pow_add]; congr 1; omega
    have e2 : V / 4294967296 ^ (j / 32) % 2 ^ (j % 32 + 1) = 0 := by
      rw [e1] at hV
      rw [← Nat.mod_mul_right_div_self, hV, Nat.zero_div]
    unfold dg
    have e3 : 4294967296 = 2 ^ (j % 32 + 1) * 2 ^ (31 - j % 32) := by rw [← Nat.pow_add, show j % 32 + 1 + (31 - j % 32) = 32 by omega]
    generalize V / 4294967296 ^ (j / 32) = Y at *
    rw [e3, Nat.mod_mul_right_mod]
    exact e2
  have h3 := dg_lt V (j / 32)
  generalize j % 32 = s at *
  have e3 : 4294967296 = 2 ^ (s + 1) * 2 ^ (31 - s) := by rw [← Nat.pow_add, show s + 1 + (31 - s) = 32 by omega]
  obtain ⟨c, hc⟩ : ∃ c, dg V (j / 32) = 2 ^ (s + 1) * c := ⟨_, (Nat.mul_div_cancel' (Nat.dvd_of_mod_eq_zero h2)).symm⟩
  rw [hc] at h3 ⊢
  have hp : 2 ^ (s + 1) = 2 * 2 ^ s := by rw [Nat.pow_succ, Nat.mul_comm]
  have hp0 : 0 < 2 ^ s := Nat.pow_pos (by decide)
  have hlt : c < 2 ^ (31 - s) := by
    rw [e3] at h3
    exact Nat.lt_of_mul_lt_mul_left h3
  have h4 : 2 ^ (s + 1) * (c + 1) ≤ 2 ^ (s + 1) * 2 ^ (31 - s) := Nat.mul_le_mul_left _ hlt
  rw [← e3, Nat.mul_add, Nat.mul_one] at h4
  omega

theorem l2Sub_own {v v2 : Value} {n N n' N' : Nat} {w : World} (h : Big w v n N) (hn : n ≤ 1000000) (h' : Big w v2 n' N') (hn' : n' ≤ 1000000) (hle : N' ≤ N) :
    Calls Tryz.prog 49 #[v, v2] w fun e w' => ∃ g c k, e = .returned (.slice (some ⟨g, 0, none⟩) k c) ∧ w.heap.size ≤ g ∧ Big w' (.slice (some ⟨g, 0, none⟩) k c) k (N - N') ∧ k ≤ n ∧ Gb w w' := by
  obtain ⟨hnm, hN, b, cap, rfl, hcap, hmx, hcell⟩ := h
  obtain ⟨hnm', hN', b', cap', rfl, hcap', hmx', hcell'⟩ := h'
  exact l2Sub_new hn hN hn' hN' hcell hcap hcell' hcap' hle rfl
theorem l2Add_own {v v2 : Value} {n N n' N' : Nat} {w : World} (h : Big w v n N) (hn : n ≤ 1000000) (h' : Big w v2 n' N') (hn' : n' ≤ 1000000) :
    Calls Tryz.prog 98 #[v, v2] w fun e w' => ∃ g c k, e = .returned (.slice (some ⟨g, 0, none⟩) k c) ∧ w.heap.size ≤ g ∧ Big w' (.slice (some ⟨g, 0, none⟩) k c) k (N + N') ∧ k ≤ n + n' + 1 ∧ Gb w w' := by
  obtain ⟨hnm, hN, b, cap, rfl, hcap, hmx, hcell⟩ := h
  obtain ⟨hnm', hN', b', cap', rfl, hcap', hmx', hcell'⟩ := h'
  exact l2Add_new hn hN hn' hN' hcell hcap hcell' hcap' rfl
theorem Big.other {w : World} {g c k N b o : Nat} (v : Value) (h : Big w (.slice (some ⟨g, 0, none⟩) k c) k N) (hne : b ≠ g) : Big (w.setCell ⟨b, o, none⟩ v) (.slice (some ⟨g, 0, none⟩) k c) k N := by
  obtain ⟨hnm, hN, b1, cap, hv, hcap, hmx, hcell⟩ := h
  cases hv
  exact ⟨hnm, hN, _, _, rfl, hcap, hmx, fun j hj => cell_setNew hne (hcell j hj)⟩

set_option maxRecDepth 1000000 in
set_option maxHeartbeats 4000000 in
theorem l2Div_any {v v2 : Value} {n A n' B : Nat} {w : World} (h : Big w v n A) (hn : n ≤ 100000) (h' : Big w v2 n' B) (hn' : n' ≤ 100000) (hB : 0 < B) :
    Calls Tryz.prog 46 #[v, v2] w fun e w' => ∃ q r k k', e = .returned (.tuple #[q, r]) ∧ Big w' q k (A / B) ∧ Big w' r k' (A % B) ∧ k ≤ n ∧ k' ≤ n' + 1 ∧ Gb w w' := by
  have HA : Hid _ := h
  have HB : Hid _ := h'
  obtain ⟨hnm, hN, b, cap, rfl, hcap, hmx, hcell⟩ := h
  obtain ⟨hnm', hN', b', cap', rfl, hcap', hmx', hcell'⟩ := h'
  have hnb : nb A ≤ 32 * n := by
    rw [← two_pw] at hN
    exact nb_le hN
  obtain ⟨w1, hmk, hown, hgb⟩ := own_made n (by omega) w
  have HO : Hid _ := hown
  have HG : Hid _ := hgb
  have HN : Hid (nb A ≤ 32 * n ∧ A < 4294967296 ^ n ∧ B < 4294967296 ^ n') := ⟨hnb, hN, hN'⟩
  clear hcell hcell' hnm hnm' hown hgb hmx hmx' hN hN'
  go_enter Tryz.func46, Tryz.ntmps46
  go_wp2_with (go_at_call 97; refine (l2Len_any (Big.gb HA.out (Gb.alloc HG.out _)) (by omega)).mono ?_; rintro e w' ⟨rfl, hw'⟩; subst hw')
  go_loopw [7, 8] (fun r i wr => ∃ k rn : Nat, k ≤ nb A ∧ i = .int .i64 ((k : Int) - 1) ∧ Big wr r rn (A / 2 ^ k % B) ∧ Own wr w.heap.size (.slice (some ⟨w.heap.size, 0, none⟩) n n) n (A / 2 ^ k / B * 2 ^ k) ∧ Gb w wr) (fun _ i _ => (intOf i + 1).toNat)
  case atStart =>
    have e0 : A / 2 ^ nb A = 0 := Nat.div_eq_of_lt (nb_lt A)
    refine ⟨nb A, 0, Nat.le_refl _, by go_num, ?_, ?_, Gb.alloc HG.out _⟩
    · rw [e0, Nat.zero_mod]
      exact ⟨⟨by decide, .inl rfl⟩, (own_lit w1 0).raw (by decide)⟩
    · rw [e0, Nat.zero_div, Nat.zero_mul]
      exact Own.alloc HO.out _
  case round =>
    obtain ⟨k, rn, hk, rfl, hrb, hown, hgb⟩ := hrel
    clear HO HG
    have HO : Hid _ := hown
    have HG : Hid _ := hgb
    have HRB : Hid _ := hrb
    have hsz := hgb.size
    clear hown hgb hrb hmk
    rcases Nat.eq_zero_or_pos k with rfl | hpos
    · have hl : ¬ ((0 : Nat) : Int) - 1 ≥ 0 := by omega
      have HF : Hid (Raw wr (.slice (some ⟨w.heap.size, 0, none⟩) n n) n (A / B)) := by
        have h1 := HO.out
        rw [Nat.pow_zero, Nat.div_one, Nat.mul_one] at h1
        exact Own.raw h1 (Nat.lt_of_le_of_lt (Nat.div_le_self _ _) HN.out.2.1)
      have HR : Hid (Big wr u7 rn (A % B)) := by
        have h1 := HRB.out
        rw [Nat.pow_zero, Nat.div_one] at h1
        exact h1
      go_wp2_with (go_at_call 96; refine (l2Norm_any HF.out (by omega)).mono ?_; rintro e w' ⟨v'', k', rfl, hw, hbig, hk'⟩; subst hw)
      go_returns
      exact ⟨_, _, _, _, rfl, hbig, HR.out, by omega, Nat.le_succ_of_le (Nm.le HR.out.1 (Nat.lt_trans (Nat.mod_lt _ hB) HN.out.2.2)), HG.out⟩
    · obtain ⟨j, rfl⟩ : ∃ j, k = j + 1 := ⟨k - 1, by omega⟩
      have hjj : (((j + 1 : Nat) : Int)) - 1 = (j : Int) := by omega
      have hjn : j ≤ 3200000 := by omega
      obtain ⟨R, hR⟩ : ∃ R, R = A / 2 ^ (j + 1) % B * 2 + A / 2 ^ j % 2 := ⟨_, rfl⟩
      have hst := div_step A B j hB R hR
      have hbit : A / 2 ^ j % 2 < 2 := Nat.mod_lt _ (by decide)
      obtain ⟨bit, hbt⟩ : ∃ bit, bit = A / 2 ^ j % 2 := ⟨_, rfl⟩
      obtain ⟨r0, hr0⟩ : ∃ r0, r0 = A / 2 ^ (j + 1) % B := ⟨_, rfl⟩
      have hr0B : r0 < B := by rw [hr0]; exact Nat.mod_lt _ hB
      have hrn : rn ≤ n' := Nm.le HRB.out.1 (Nat.lt_trans (Nat.mod_lt _ hB) HN.out.2.2)
      have HShl : Hid (Calls Tryz.prog 44 #[u7, .int .i64 1] wr fun e w'' => ∃ v' k, e = .returned v' ∧ Big w'' v' k (r0 * 2) ∧ k ≤ 200000 ∧ Gb wr w'') := by
        have h1 := HRB.out
        rw [← hr0] at h1
        refine (l2Shl_any h1 (by omega) 1 (by omega)).mono ?_
        rintro e w'' ⟨v', k, rfl, hb, hk, hg⟩
        exact ⟨v', k, rfl, hb, by omega, hg⟩
      have HBit : Hid (∀ w', Gb wr w' → Calls Tryz.prog 48 #[.slice (some ⟨b, 0, none⟩) n cap, .int .i64 (j : Int)] w' fun e w'' => e = .returned (.int .u32 (bit : Int)) ∧ w' = w'') := fun w' hg => by
        rw [hbt]; exact l2Bit_any (Big.gb HA.out (Gb.trans HG.out hg)) (by omega) j (by omega)
      have HBig : Hid (∀ w', Calls Tryz.prog 45 #[.int .u64 (bit : Int)] w' fun e w'' => ∃ v' k, e = .returned v' ∧ Big w'' v' k bit ∧ k ≤ 200000 ∧ Gb w' w'') := fun w' => by
        refine (l2Big_any bit (by omega) w').mono ?_
        rintro e w'' ⟨v', k, rfl, hb, hk, hg⟩
        exact ⟨v', k, rfl, hb, by omega, hg⟩
      have HAdd : Hid (∀ w' v1 k1 v2 k2, Big w' v1 k1 (r0 * 2) → k1 ≤ 200000 → Big w' v2 k2 bit → k2 ≤ 200000 → Calls Tryz.prog 98 #[v1, v2] w' fun e w'' => ∃ g c k, e = .returned (.slice (some ⟨g, 0, none⟩) k c) ∧ w'.heap.size ≤ g ∧ Big w'' (.slice (some ⟨g, 0, none⟩) k c) k R ∧ k ≤ 500000 ∧ Gb w' w'') := fun w' v1 k1 v2 k2 h1 g1 h2 g2 => by
        refine (l2Add_own h1 (by omega) h2 (by omega)).mono ?_
        rintro e w'' ⟨g, c, k, rfl, hlt, hb, hk, hg⟩
        exact ⟨g, c, k, rfl, hlt, by rw [hR, ← hr0, ← hbt]; exact hb, by omega, hg⟩
      have hbl : (bit : Int) < 4294967296 := by omega
      obtain ⟨z, hz⟩ : ∃ z, z = cmpZ R B := ⟨_, rfl⟩
      have HCmp : Hid (∀ w' v1 k1, Big w' v1 k1 R → k1 ≤ 500000 → Gb wr w' → Calls Tryz.prog 47 #[v1, .slice (some ⟨b', 0, none⟩) n' cap'] w' fun e w'' => e = .returned (.int .i64 z) ∧ Gb w' w'') := fun w' v1 k1 h1 g1 hg => by
        rw [hz]; exact l2Cmp_any h1 (by omega) (Big.gb HB.out (Gb.trans HG.out hg)) (by omega)
      have HSt : Hid _ := hst
      have HK : Hid (j + 1 ≤ nb A) := hk
      clear hst hk hbt hr0 hR hnb
      have hzc : z = if R < B then -1 else if B < R then 1 else 0 := hz
      by_cases hle : B ≤ R
      · have hz0 : 0 ≤ z := by rw [hzc]; split <;> (try split) <;> omega
        have hz1 : z ≤ 1 := by rw [hzc]; split <;> (try split) <;> omega
        obtain ⟨s1, s2⟩ := HSt.out.1 hle
        have HSub : Hid (∀ w' v1 k1, Big w' v1 k1 R → k1 ≤ 500000 → Gb wr w' → Calls Tryz.prog 49 #[v1, .slice (some ⟨b', 0, none⟩) n' cap'] w' fun e w'' => ∃ g c k, e = .returned (.slice (some ⟨g, 0, none⟩) k c) ∧ w'.heap.size ≤ g ∧ Big w'' (.slice (some ⟨g, 0, none⟩) k c) k (A / 2 ^ j % B) ∧ Gb w' w'') := fun w' v1 k1 h1 g1 hg => by
          refine (l2Sub_own h1 (by omega) (Big.gb HB.out (Gb.trans HG.out hg)) (by omega) hle).mono ?_
          rintro e w'' ⟨g, c, k, rfl, hlt, hb, hk, hg⟩
          exact ⟨g, c, k, rfl, hlt, by rw [← s1]; exact hb, hg⟩
        clear hz hzc
        have hjq : Int.tdiv (j : Int) 32 = ((j / 32 : Nat) : Int) := by rw [Int.tdiv_eq_ediv_of_nonneg (by omega)]; omega
        have hjr : Int.tmod (j : Int) 32 = ((j % 32 : Nat) : Int) := by rw [Int.tmod_eq_emod_of_nonneg (by omega)]; omega
        have hjn2 : j / 32 < n := by have := HN.out.1; have := HK.out; omega
        obtain ⟨pb1, pb2⟩ := put_bit (A / 2 ^ (j + 1) / B * 2 ^ (j + 1)) j (Nat.mul_mod_left _ _)
        rw [s2] at pb2
        have hd0 := dg_lt (A / 2 ^ (j + 1) / B * 2 ^ (j + 1)) (j / 32)
        have hjr32 : j % 32 < 32 := Nat.mod_lt _ (by decide)
        have HOw : Hid (∀ w', Gb wr w' → Own w' w.heap.size (.slice (some ⟨w.heap.size, 0, none⟩) n n) n (A / 2 ^ (j + 1) / B * 2 ^ (j + 1))) := fun w' hg => Own.gb HO.out hg
        have HFin : Hid (∀ w' d, Gb wr w' → d = ((dg (A / 2 ^ (j + 1) / B * 2 ^ (j + 1)) (j / 32) + 2 ^ (j % 32) : Nat) : Int) → Own (w'.setCell ⟨w.heap.size, j / 32, none⟩ (.int .u32 d)) w.heap.size (.slice (some ⟨w.heap.size, 0, none⟩) n n) n (A / 2 ^ j / B * 2 ^ j)) := fun w' d hg hd => by
          rw [← pb2, hd]; exact Own.store (HOw.out w' hg) (j / 32) _ hjn2 pb1
        have HCl : Hid (∀ w', Gb wr w' → w'.cell? ⟨w.heap.size, j / 32, none⟩ = some (.int .u32 (dg (A / 2 ^ (j + 1) / B * 2 ^ (j + 1)) (j / 32) : Int)) ∧ w'.frozen? ⟨w.heap.size, j / 32, none⟩ = false) := fun w' hg => Own.at (HOw.out w' hg) (j / 32) hjn2
        have hpw : ((2 ^ (j % 32) : Nat) : Int) = 2 ^ (j % 32) := by push_cast; rfl
        have hp0 : 0 < 2 ^ (j % 32) := Nat.pow_pos (by decide)
        generalize dg (A / 2 ^ (j + 1) / B * 2 ^ (j + 1)) (j / 32) = dv at *
        generalize j / 32 = jq at *
        generalize j % 32 = jr at *
        clear pb2 s2 HSt
        obtain ⟨pw, hpw2⟩ : ∃ pw : Nat, pw = 2 ^ jr := ⟨_, rfl⟩
        rw [← hpw2] at HFin pb1 hpw hp0
        have hwr : IntKind.u32.wrap (1 * 2 ^ jr) = (pw : Int) := by rw [← hpw]; rw [IntKind.wrap_u32]; omega
        have hwr2 : IntKind.u32.wrap ((2 : Int) ^ jr) = (pw : Int) := by rw [← hpw]; rw [IntKind.wrap_u32]; omega
        have hwa : IntKind.u32.wrap ((dv : Int) + (pw : Int)) = ((dv + pw : Nat) : Int) := by rw [IntKind.wrap_u32]; omega
        clear hpw hpw2
        go_wp2_with (first
          | (go_at_call 44; refine HShl.out.mono ?_; rintro e w2 ⟨v1, k1, rfl, hb1, hk1, hg1⟩)
          | (go_at_call 48; refine (HBit.out _ hg1).mono ?_; rintro e w3 ⟨rfl, hw3⟩; subst hw3)
          | (go_at_call 45; refine (HBig.out _).mono ?_; rintro e w4 ⟨v2, k2, rfl, hb2, hk2, hg2⟩)
          | (go_at_call 98; refine (HAdd.out _ _ _ _ _ (Big.gb hb1 hg2) hk1 hb2 hk2).mono ?_; rintro e w5 ⟨g3, c3, k3, rfl, hl3, hb3, hk3, hg3⟩)
          | (go_at_call 47; refine (HCmp.out _ _ _ hb3 hk3 (Gb.trans (Gb.trans hg1 hg2) hg3)).mono ?_; rintro e w6 ⟨rfl, hg4⟩; have hG4 := Gb.trans (Gb.trans (Gb.trans hg1 hg2) hg3) hg4)
          | (go_at_call 49; refine (HSub.out _ _ _ (Big.gb hb3 hg4) hk3 hG4).mono ?_; rintro e w7 ⟨g4, c4, k4, rfl, hl4, hb4, hg5⟩; have hG5 := Gb.trans hG4 hg5; obtain ⟨hcl, hfz⟩ := HCl.out w7 hG5))
        have hsw := cell_size (HCl.out wr (Gb.refl wr)).1
        have hs4 := hG4.size
        refine ⟨⟨j, k4, by have := HK.out; omega, rfl, Big.other _ hb4 (by omega), HFin.out w7 _ hG5 (by push_cast; rfl), Gb.setCell (Gb.trans HG.out hG5) (Nat.le_refl _) _⟩, ?_⟩
        simp [intOf] <;> omega
      · obtain rfl : z = -1 := by rw [hzc, if_pos (by omega)]
        obtain ⟨s1, s2⟩ := HSt.out.2 (by omega)
        clear hz hzc
        have HS1 : Hid _ := s1
        have HS2 : Hid _ := s2
        clear s1 s2
        go_wp2_with (first
          | (go_at_call 44; refine HShl.out.mono ?_; rintro e w2 ⟨v1, k1, rfl, hb1, hk1, hg1⟩)
          | (go_at_call 48; refine (HBit.out _ hg1).mono ?_; rintro e w3 ⟨rfl, hw3⟩; subst hw3)
          | (go_at_call 45; refine (HBig.out _).mono ?_; rintro e w4 ⟨v2, k2, rfl, hb2, hk2, hg2⟩)
          | (go_at_call 98; refine (HAdd.out _ _ _ _ _ (Big.gb hb1 hg2) hk1 hb2 hk2).mono ?_; rintro e w5 ⟨g3, c3, k3, rfl, hl3, hb3, hk3, hg3⟩)
          | (go_at_call 47; refine (HCmp.out _ _ _ hb3 hk3 (Gb.trans (Gb.trans hg1 hg2) hg3)).mono ?_; rintro e w6 ⟨rfl, hg4⟩; have hG4 := Gb.trans (Gb.trans (Gb.trans hg1 hg2) hg3) hg4))
        refine ⟨⟨j, k3, by have := HK.out; omega, rfl, ?_, ?_, Gb.trans HG.out hG4⟩, ?_⟩
        · rw [← HS1.out]; exact Big.gb hb3 hg4
        · rw [← HS2.out]; exact Own.gb HO.out hG4
        · simp [intOf] <;> omega
end Go.Proofs.YtkflpogmhailhaaGreatDoor
