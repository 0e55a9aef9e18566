/- spec.l2Bit at any place, spec.l2Div. -/
import Derived.Test.YtkflpogmhailhaaDoorBigNew
set_option linter.unusedVariables false
set_option linter.unusedSimpArgs false
namespace Go.Proofs.YtkflpogmhailhaaDoor
open Go.RowKit

theorem bit_dg (N i : Nat) : dg N (i / 32) / 2 ^ (i % 32) % 2 = N / 2 ^ i % 2 := by
  unfold dg
  have e : N / 2 ^ i = N / 4294967296 ^ (i / 32) / 2 ^ (i % 32) := by
    rw [← two_pw, Nat.div_div_eq_div_mul, ← Nat.pow_add]
    congr 2
    omega
  rw [e]
  generalize N / 4294967296 ^ (i / 32) = X
  have hs : i % 32 < 32 := Nat.mod_lt _ (by decide)
  generalize i % 32 = s at hs
  have h1 : 4294967296 = 2 ^ s * 2 ^ (32 - s) := by rw [← Nat.pow_add, show s + (32 - s) = 32 by omega]
  rw [h1, Nat.mod_mul_right_div_self, show 32 - s = 31 - s + 1 by omega, Nat.pow_succ, Nat.mul_comm, Nat.mod_mul_right_mod]

set_option maxHeartbeats 1000000 in
theorem l2Bit_any {v : Value} {n N : Nat} {w : World} (h : Big w v n N) (hn : n ≤ 1000000) (i : Nat) (hi : i ≤ 32000000) :
    Calls Tryd.prog 34 #[v, .int .i64 (i : Int)] w fun e w' => e = .returned (.int .u32 ((N / 2 ^ i % 2 : Nat) : Int)) ∧ w = w' := by
  obtain ⟨hnm, hN, b, cap, rfl, hcap, hmx, hcell⟩ := h
  obtain ⟨q, hq⟩ : ∃ q : Nat, q = i / 32 := ⟨_, rfl⟩
  obtain ⟨r, hr⟩ : ∃ r : Nat, r = i % 32 := ⟨_, rfl⟩
  have q1 : (i : Int) / 32 = (q : Int) := by omega
  have r1 : (i : Int) % 32 = (r : Int) := by omega
  have hr32 : r < 32 := by omega
  have q2 : Int.tdiv (i : Int) 32 = (q : Int) := by rw [Int.tdiv_eq_ediv_of_nonneg (by omega)]; exact q1
  have r2 : Int.tmod (i : Int) 32 = (r : Int) := by rw [Int.tmod_eq_emod_of_nonneg (by omega)]; exact r1
  have hb := bit_dg N i
  rw [← hq, ← hr] at hb
  have HB : Hid _ := hb
  clear hb
  by_cases hl : q < n
  · have hc : w.cell? ⟨b, q, none⟩ = some (.int .u32 (dg N q : Int)) := hcell q hl
    have hd := dg_lt N q
    have hl' : ¬ (n : Int) ≤ (q : Int) := by omega
    generalize dg N q = t at *
    have hsh : (t : Int) / 2 ^ r = ((t / 2 ^ r : Nat) : Int) := by push_cast; rfl
    have hlt : t / 2 ^ r < 4294967296 := Nat.lt_of_le_of_lt (Nat.div_le_self _ _) hd
    rw [← HB.out]
    generalize t / 2 ^ r = u at *
    clear hcell hnm hN hq hr HB
    go_enter Tryd.func34, Tryd.ntmps34
    go_wp2
    go_returns
    refine ⟨ret_congr (congrArg (Value.int IntKind.u32) ?_), rfl⟩
    simp [go_sem]
  · have hz : N / 2 ^ i % 2 = 0 := by
      rw [← HB.out, dg_zero hN (by omega)]
      simp
    rw [hz]
    have hl' : (n : Int) ≤ (q : Int) := by omega
    clear hcell hnm hN hq hr HB
    go_enter Tryd.func34, Tryd.ntmps34
    go_wp2
    go_returns
    exact ⟨rfl, rfl⟩

theorem Own.gb {w w' : World} {base : Nat} {v : Value} {n N : Nat} (h : Own w base v n N) (k : Gb w w') : Own w' base v n N := by
  obtain ⟨⟨h1, h2⟩, h3⟩ := h
  refine ⟨⟨h1, ?_⟩, h3⟩
  rcases h2 with h2 | ⟨g, cap, cur, hv, hb, hh, hc, hm, hs, ht⟩
  · exact .inl h2
  · exact .inr ⟨g, cap, cur, hv, hb, (Below.block k g (Array.getElem?_eq_some_iff.1 hh).1).trans hh, hc, hm, hs, ht⟩

theorem wds_made (n : Nat) : (madeCells #[Value.int .u32 0] n).toList = wds n 0 := by
  apply List.ext_getElem?
  intro j
  by_cases hj : j < n
  · rw [wds_get n 0 j hj]
    have e : dg 0 j = 0 := by unfold dg; simp
    rw [e]
    simp [madeCells, hj, Nat.mod_one]
  · rw [List.getElem?_eq_none (by simp [size_madeCells]; omega), List.getElem?_eq_none (by rw [wds_length]; omega)]

theorem own_made (n : Nat) (hn : n ≤ 1000000) (w : World) :
    ∃ w', (Instr.makeSlice 40 (.int .i64 (n : Int)) (.int .i64 (n : Int))).run Tryd.prog w = .ok (.slice (some ⟨w.heap.size, 0, none⟩) n n) w' ∧ Own w' w.heap.size (.slice (some ⟨w.heap.size, 0, none⟩) n n) n 0 ∧ Gb w w' := by
  obtain ⟨i0, hi, hz0, hz1, hz2⟩ := info_parts infoWord
  obtain ⟨w', h1, h2, h3⟩ := run_makeSlice_full (P := Tryd.prog) (w := w) w.heap.size 40 46 i0 (.int .u32 0) 1 Tryd.underlying40 hi hz0 hz1 .i64 .i64 n (by omega) (by rw [hz2]; omega) (by unfold maxLen; omega) (Nat.le_refl _)
  refine ⟨w', h1, ⟨?_, by simp⟩, (Below.refl _ w).grown h3 (Nat.le_refl _) (fun k e => by cases e)⟩
  rw [← wds_made]
  have e : n * 1 = n := Nat.mul_one n
  rw [e] at h2
  exact h2

/-! One step of long division. -/
theorem div_step (A B j : Nat) (hB : 0 < B) (R : Nat) (hR : R = A / 2 ^ (j + 1) % B * 2 + A / 2 ^ j % 2) :
    (B ≤ R → R - B = A / 2 ^ j % B ∧ A / 2 ^ (j + 1) / B * 2 ^ (j + 1) + 2 ^ j = A / 2 ^ j / B * 2 ^ j) ∧ (R < B → R = A / 2 ^ j % B ∧ A / 2 ^ (j + 1) / B * 2 ^ (j + 1) = A / 2 ^ j / B * 2 ^ j) := by
  have e0 : A / 2 ^ (j + 1) = A / 2 ^ j / 2 := by rw [Nat.pow_succ, Nat.div_div_eq_div_mul]
  rw [e0] at hR ⊢
  generalize A / 2 ^ j = Y at *
  have h1 := Nat.div_add_mod (Y / 2) B
  have h2 := Nat.mod_lt (Y / 2) hB
  generalize Y / 2 / B = q at *
  generalize Y / 2 % B = r at *
  have h3 : Y = B * (2 * q) + R := by
    have : B * (2 * q) = 2 * (B * q) := by rw [Nat.mul_left_comm]
    omega
  have hp : 2 ^ (j + 1) = 2 * 2 ^ j := by rw [Nat.pow_succ, Nat.mul_comm]
  rw [hp]
  constructor
  · intro h
    have h4 : Y = B * (2 * q + 1) + (R - B) := by rw [h3, Nat.mul_add, Nat.mul_one]; omega
    have e1 : Y / B = 2 * q + 1 := by rw [h4, Nat.mul_add_div hB, Nat.div_eq_of_lt (by omega)]
    have e2 : Y % B = R - B := by rw [h4, Nat.mul_add_mod, Nat.mod_eq_of_lt (by omega)]
    refine ⟨e2.symm, ?_⟩
    rw [e1, Nat.add_mul, Nat.one_mul, ← Nat.mul_assoc, Nat.mul_comm q 2]
  · intro h
    have e1 : Y / B = 2 * q := by rw [h3, Nat.mul_add_div hB, Nat.div_eq_of_lt h, Nat.add_zero]
    have e2 : Y % B = R := by rw [h3, Nat.mul_add_mod, Nat.mod_eq_of_lt h]
    refine ⟨e2.symm, ?_⟩
    rw [e1, ← Nat.mul_assoc, Nat.mul_comm q 2]

theorem put_bit (V j : Nat) (hV : V % 2 ^ (j + 1) = 0) : dg V (j / 32) + 2 ^ (j % 32) < 4294967296 ∧ put V (j / 32) (dg V (j / 32) + 2 ^ (j % 32)) = V + 2 ^ j := by
  have hs : j % 32 < 32 := Nat.mod_lt _ (by decide)
  have hj : 2 ^ j = 2 ^ (j % 32) * 4294967296 ^ (j / 32) := by
    rw [← two_pw, ← Nat.pow_add]
    congr 1
    omega
  have h1 := put_same V (j / 32) (dg V (j / 32) + 2 ^ (j % 32))
  rw [Nat.add_mul] at h1
  refine ⟨?_, by omega⟩
  have h2 : dg V (j / 32) % 2 ^ (j % 32 + 1) = 0 := by
    have e1 : 2 ^ (j + 1) = 4294967296 ^ (j / 32) * 2 ^ (j % 32 + 1) := by rw [← two_pw, ← Nat.pow_add]; congr 1; omega
    have e2 : V / 4294967296 ^ (j / 32) % 2 ^ (j % 32 + 1) = 0 := by
      rw [e1] at hV
      rw [← Nat.mod_mul_right_div_self, hV, Nat.zero_div]
    unfold dg
    have e3 : 4294967296 = 2 ^ (j % 32 + 1) * 2 ^ (31 - j % 32) := by rw [← Nat.pow_add, show j % 32 + 1 + (31 - j % 32) = 32 by omega]
    generalize V / 4294967296 ^ (j / 32) = Y at *
    rw [e3, Nat.mod_mul_right_mod]
    exact e2
  have h3 := dg_lt V (j / 32)
  generalize j % 32 = s at *
  have e3 : 4294967296 = 2 ^ (s + 1) * 2 ^ (31 - s) := by rw [← Nat.pow_add, show s + 1 + (31 - s) = 32 by omega]
  obtain ⟨c, hc⟩ : ∃ c, dg V (j / 32) = 2 ^ (s + 1) * c := ⟨_, (Nat.mul_div_cancel' (Nat.dvd_of_mod_eq_zero h2)).symm⟩
  rw [hc] at h3 ⊢
  have hp : 2 ^ (s + 1) = 2 * 2 ^ s := by rw [Nat.pow_succ, Nat.mul_comm]
  have hp0 : 0 < 2 ^ s := Nat.pow_pos (by decide)
  have hlt : c < 2 ^ (31 - s) := by
    rw [e3] at h3
    exact Nat.lt_of_mul_lt_mul_left h3
  have h4 : 2 ^ (s + 1) * (c + 1) ≤ 2 ^ (s + 1) * 2 ^ (31 - s) := Nat.mul_le_mul_left _ hlt
  rw [← e3, Nat.mul_add, Nat.mul_one] at h4
  omega

theorem l2Sub_own {v v2 : Value} {n N n' N' : Nat} {w : World} (h : Big w v n N) (hn : n ≤ 1000000) (h' : Big w v2 n' N') (hn' : n' ≤ 1000000) (hle : N' ≤ N) :
    Calls Tryd.prog 35 #[v, v2] w fun e w' => ∃ g c k, e = .returned (.slice (some ⟨g, 0, none⟩) k c) ∧ w.heap.size ≤ g ∧ Big w' (.slice (some ⟨g, 0, none⟩) k c) k (N - N') ∧ k ≤ n ∧ Gb w w' := by
  obtain ⟨hnm, hN, b, cap, rfl, hcap, hmx, hcell⟩ := h
  obtain ⟨hnm', hN', b', cap', rfl, hcap', hmx', hcell'⟩ := h'
  exact l2Sub_new hn hN hn' hN' hcell hcap hcell' hcap' hle rfl
theorem l2Add_own {v v2 : Value} {n N n' N' : Nat} {w : World} (h : Big w v n N) (hn : n ≤ 1000000) (h' : Big w v2 n' N') (hn' : n' ≤ 1000000) :
    Calls Tryd.prog 71 #[v, v2] w fun e w' => ∃ g c k, e = .returned (.slice (some ⟨g, 0, none⟩) k c) ∧ w.heap.size ≤ g ∧ Big w' (.slice (some ⟨g, 0, none⟩) k c) k (N + N') ∧ k ≤ n + n' + 1 ∧ Gb w w' := by
  obtain ⟨hnm, hN, b, cap, rfl, hcap, hmx, hcell⟩ := h
  obtain ⟨hnm', hN', b', cap', rfl, hcap', hmx', hcell'⟩ := h'
  exact l2Add_new hn hN hn' hN' hcell hcap hcell' hcap' rfl
theorem Big.other {w : World} {g c k N b o : Nat} (v : Value) (h : Big w (.slice (some ⟨g, 0, none⟩) k c) k N) (hne : b ≠ g) : Big (w.setCell ⟨b, o, none⟩ v) (.slice (some ⟨g, 0, none⟩) k c) k N := by
  obtain ⟨hnm, hN, b1, cap, hv, hcap, hmx, hcell⟩ := h
  cases hv
  exact ⟨hnm, hN, _, _, rfl, hcap, hmx, fun j hj => cell_setNew hne (hcell j hj)⟩

set_option maxRecDepth 1000000 in
set_option maxHeartbeats 4000000 in
theorem l2Div_any {v v2 : Value} {n A n' B : Nat} {w : World} (h : Big w v n A) (hn : n ≤ 100000) (h' : Big w v2 n' B) (hn' : n' ≤ 100000) (hB : 0 < B) :
    Calls Tryd.prog 32 #[v, v2] w fun e w' => ∃ q r k k', e = .returned (.tuple #[q, r]) ∧ Big w' q k (A / B) ∧ Big w' r k' (A % B) ∧ k ≤ n ∧ k' ≤ n' + 1 ∧ Gb w w' := by
  have HA : Hid _ := h
  have HB : Hid _ := h'
  obtain ⟨hnm, hN, b, cap, rfl, hcap, hmx, hcell⟩ := h
  obtain ⟨hnm', hN', b', cap', rfl, hcap', hmx', hcell'⟩ := h'
  have hnb : nb A ≤ 32 * n := by
    rw [← two_pw] at hN
    exact nb_le hN
  obtain ⟨w1, hmk, hown, hgb⟩ := own_made n (by omega) w
  have HO : Hid _ := hown
  have HG : Hid _ := hgb
  have HN : Hid (nb A ≤ 32 * n ∧ A < 4294967296 ^ n ∧ B < 4294967296 ^ n') := ⟨hnb, hN, hN'⟩
  clear hcell hcell' hnm hnm' hown hgb hmx hmx' hN hN'
  go_enter Tryd.func32, Tryd.ntmps32
  go_wp2_with (go_at_call 70; refine (l2Len_any (Big.gb HA.out (Gb.alloc HG.out _)) (by omega)).mono ?_; rintro e w' ⟨rfl, hw'⟩; subst hw')
  go_loopw [7, 8] (fun r i wr => ∃ k rn : Nat, k ≤ nb A ∧ i = .int .i64 ((k : Int) - 1) ∧ Big wr r rn (A / 2 ^ k % B) ∧ Own wr w.heap.size (.slice (some ⟨w.heap.size, 0, none⟩) n n) n (A / 2 ^ k / B * 2 ^ k) ∧ Gb w wr) (fun _ i _ => (intOf i + 1).toNat)
  case atStart =>
    have e0 : A / 2 ^ nb A = 0 := Nat.div_eq_of_lt (nb_lt A)
    refine ⟨nb A, 0, Nat.le_refl _, by go_num, ?_, ?_, Gb.alloc HG.out _⟩
    · rw [e0, Nat.zero_mod]
      exact ⟨⟨by decide, .inl rfl⟩, (own_lit w1 0).raw (by decide)⟩
    · rw [e0, Nat.zero_div, Nat.zero_mul]
      exact Own.alloc HO.out _
  case round =>
    obtain ⟨k, rn, hk, rfl, hrb, hown, hgb⟩ := hrel
    clear HO HG
    have HO : Hid _ := hown
    have HG : Hid _ := hgb
    have HRB : Hid _ := hrb
    have hsz := hgb.size
    clear hown hgb hrb hmk
    rcases Nat.eq_zero_or_pos k with rfl | hpos
    · have hl : ¬ ((0 : Nat) : Int) - 1 ≥ 0 := by omega
      have HF : Hid (Raw wr (.slice (some ⟨w.heap.size, 0, none⟩) n n) n (A / B)) := by
        have h1 := HO.out
        rw [Nat.pow_zero, Nat.div_one, Nat.mul_one] at h1
        exact Own.raw h1 (Nat.lt_of_le_of_lt (Nat.div_le_self _ _) HN.out.2.1)
      have HR : Hid (Big wr u7 rn (A % B)) := by
        have h1 := HRB.out
        rw [Nat.pow_zero, Nat.div_one] at h1
        exact h1
      go_wp2_with (go_at_call 69; refine (l2Norm_any HF.out (by omega)).mono ?_; rintro e w' ⟨v'', k', rfl, hw, hbig, hk'⟩; subst hw)
      go_returns
      exact ⟨_, _, _, _, rfl, hbig, HR.out, by omega, Nat.le_succ_of_le (Nm.le HR.out.1 (Nat.lt_trans (Nat.mod_lt _ hB) HN.out.2.2)), HG.out⟩
    · obtain ⟨j, rfl⟩ : ∃ j, k = j + 1 := ⟨k - 1, by omega⟩
      have hjj : (((j + 1 : Nat) : Int)) - 1 = (j : Int) := by omega
      have hjn : j ≤ 3200000 := by omega
      obtain ⟨R, hR⟩ : ∃ R, R = A / 2 ^ (j + 1) % B * 2 + A / 2 ^ j % 2 := ⟨_, rfl⟩
      have hst := div_step A B j hB R hR
      have hbit : A / 2 ^ j % 2 < 2 := Nat.mod_lt _ (by decide)
      obtain ⟨bit, hbt⟩ : ∃ bit, bit = A / 2 ^ j % 2 := ⟨_, rfl⟩
      obtain ⟨r0, hr0⟩ : ∃ r0, r0 = A / 2 ^ (j + 1) % B := ⟨_, rfl⟩
      have hr0B : r0 < B := by rw [hr0]; exact Nat.mod_lt _ hB
      have hrn : rn ≤ n' := Nm.le HRB.out.1 (Nat.lt_trans (Nat.mod_lt _ hB) HN.out.2.2)
      have HShl : Hid (Calls Tryd.prog 30 #[u7, .int .i64 1] wr fun e w'' => ∃ v' k, e = .returned v' ∧ Big w'' v' k (r0 * 2) ∧ k ≤ 200000 ∧ Gb wr w'') := by
        have h1 := HRB.out
        rw [← hr0] at h1
        refine (l2Shl_any h1 (by omega) 1 (by omega)).mono ?_
        rintro e w'' ⟨v', k, rfl, hb, hk, hg⟩
        exact ⟨v', k, rfl, hb, by omega, hg⟩
      have HBit : Hid (∀ w', Gb wr w' → Calls Tryd.prog 34 #[.slice (some ⟨b, 0, none⟩) n cap, .int .i64 (j : Int)] w' fun e w'' => e = .returned (.int .u32 (bit : Int)) ∧ w' = w'') := fun w' hg => by
        rw [hbt]; exact l2Bit_any (Big.gb HA.out (Gb.trans HG.out hg)) (by omega) j (by omega)
      have HBig : Hid (∀ w', Calls Tryd.prog 31 #[.int .u64 (bit : Int)] w' fun e w'' => ∃ v' k, e = .returned v' ∧ Big w'' v' k bit ∧ k ≤ 200000 ∧ Gb w' w'') := fun w' => by
        refine (l2Big_any bit (by omega) w').mono ?_
        rintro e w'' ⟨v', k, rfl, hb, hk, hg⟩
        exact ⟨v', k, rfl, hb, by omega, hg⟩
      have HAdd : Hid (∀ w' v1 k1 v2 k2, Big w' v1 k1 (r0 * 2) → k1 ≤ 200000 → Big w' v2 k2 bit → k2 ≤ 200000 → Calls Tryd.prog 71 #[v1, v2] w' fun e w'' => ∃ g c k, e = .returned (.slice (some ⟨g, 0, none⟩) k c) ∧ w'.heap.size ≤ g ∧ Big w'' (.slice (some ⟨g, 0, none⟩) k c) k R ∧ k ≤ 500000 ∧ Gb w' w'') := fun w' v1 k1 v2 k2 h1 g1 h2 g2 => by
        refine (l2Add_own h1 (by omega) h2 (by omega)).mono ?_
        rintro e w'' ⟨g, c, k, rfl, hlt, hb, hk, hg⟩
        exact ⟨g, c, k, rfl, hlt, by rw [hR, ← hr0, ← hbt]; exact hb, by omega, hg⟩
      have hbl : (bit : Int) < 4294967296 := by omega
      obtain ⟨z, hz⟩ : ∃ z, z = cmpZ R B := ⟨_, rfl⟩
      have HCmp : Hid (∀ w' v1 k1, Big w' v1 k1 R → k1 ≤ 500000 → Gb wr w' → Calls Tryd.prog 33 #[v1, .slice (some ⟨b', 0, none⟩) n' cap'] w' fun e w'' => e = .returned (.int .i64 z) ∧ Gb w' w'') := fun w' v1 k1 h1 g1 hg => by
        rw [hz]; exact l2Cmp_any h1 (by omega) (Big.gb HB.out (Gb.trans HG.out hg)) (by omega)
      have HSt : Hid _ := hst
      have HK : Hid (j + 1 ≤ nb A) := hk
      clear hst hk hbt hr0 hR hnb
      have hzc : z = if R < B then -1 else if B < R then 1 else 0 := hz
      by_cases hle : B ≤ R
      · have hz0 : 0 ≤ z := by rw [hzc]; split <;> (try split) <;> omega
        have hz1 : z ≤ 1 := by rw [hzc]; split <;> (try split) <;> omega
        obtain ⟨s1, s2⟩ := HSt.out.1 hle
        have HSub : Hid (∀ w' v1 k1, Big w' v1 k1 R → k1 ≤ 500000 → Gb wr w' → Calls Tryd.prog 35 #[v1, .slice (some ⟨b', 0, none⟩) n' cap'] w' fun e w'' => ∃ g c k, e = .returned (.slice (some ⟨g, 0, none⟩) k c) ∧ w'.heap.size ≤ g ∧ Big w'' (.slice (some ⟨g, 0, none⟩) k c) k (A / 2 ^ j % B) ∧ Gb w' w'') := fun w' v1 k1 h1 g1 hg => by
          refine (l2Sub_own h1 (by omega) (Big.gb HB.out (Gb.trans HG.out hg)) (by omega) hle).mono ?_
          rintro e w'' ⟨g, c, k, rfl, hlt, hb, hk, hg⟩
          exact ⟨g, c, k, rfl, hlt, by rw [← s1]; exact hb, hg⟩
        clear hz hzc
        have hjq : Int.tdiv (j : Int) 32 = ((j / 32 : Nat) : Int) := by rw [Int.tdiv_eq_ediv_of_nonneg (by omega)]; omega
        have hjr : Int.tmod (j : Int) 32 = ((j % 32 : Nat) : Int) := by rw [Int.tmod_eq_emod_of_nonneg (by omega)]; omega
        have hjn2 : j / 32 < n := by have := HN.out.1; have := HK.out; omega
        obtain ⟨pb1, pb2⟩ := put_bit (A / 2 ^ (j + 1) / B * 2 ^ (j + 1)) j (Nat.mul_mod_left _ _)
        rw [s2] at pb2
        have hd0 := dg_lt (A / 2 ^ (j + 1) / B * 2 ^ (j + 1)) (j / 32)
        have hjr32 : j % 32 < 32 := Nat.mod_lt _ (by decide)
        have HOw : Hid (∀ w', Gb wr w' → Own w' w.heap.size (.slice (some ⟨w.heap.size, 0, none⟩) n n) n (A / 2 ^ (j + 1) / B * 2 ^ (j + 1))) := fun w' hg => Own.gb HO.out hg
        have HFin : Hid (∀ w' d, Gb wr w' → d = ((dg (A / 2 ^ (j + 1) / B * 2 ^ (j + 1)) (j / 32) + 2 ^ (j % 32) : Nat) : Int) → Own (w'.setCell ⟨w.heap.size, j / 32, none⟩ (.int .u32 d)) w.heap.size (.slice (some ⟨w.heap.size, 0, none⟩) n n) n (A / 2 ^ j / B * 2 ^ j)) := fun w' d hg hd => by
          rw [← pb2, hd]; exact Own.store (HOw.out w' hg) (j / 32) _ hjn2 pb1
        have HCl : Hid (∀ w', Gb wr w' → w'.cell? ⟨w.heap.size, j / 32, none⟩ = some (.int .u32 (dg (A / 2 ^ (j + 1) / B * 2 ^ (j + 1)) (j / 32) : Int)) ∧ w'.frozen? ⟨w.heap.size, j / 32, none⟩ = false) := fun w' hg => Own.at (HOw.out w' hg) (j / 32) hjn2
        have hpw : ((2 ^ (j % 32) : Nat) : Int) = 2 ^ (j % 32) := by push_cast; rfl
        have hp0 : 0 < 2 ^ (j % 32) := Nat.pow_pos (by decide)
        generalize dg (A / 2 ^ (j + 1) / B * 2 ^ (j + 1)) (j / 32) = dv at *
        generalize j / 32 = jq at *
        generalize j % 32 = jr at *
        clear pb2 s2 HSt
        obtain ⟨pw, hpw2⟩ : ∃ pw : Nat, pw = 2 ^ jr := ⟨_, rfl⟩
        rw [← hpw2] at HFin pb1 hpw hp0
        have hwr : IntKind.u32.wrap (1 * 2 ^ jr) = (pw : Int) := by rw [← hpw]; rw [IntKind.wrap_u32]; omega
        have hwr2 : IntKind.u32.wrap ((2 : Int) ^ jr) = (pw : Int) := by rw [← hpw]; rw [IntKind.wrap_u32]; omega
        have hwa : IntKind.u32.wrap ((dv : Int) + (pw : Int)) = ((dv + pw : Nat) : Int) := by rw [IntKind.wrap_u32]; omega
        clear hpw hpw2
        go_wp2_with (first
          | (go_at_call 30; refine HShl.out.mono ?_; rintro e w2 ⟨v1, k1, rfl, hb1, hk1, hg1⟩)
          | (go_at_call 34; refine (HBit.out _ hg1).mono ?_; rintro e w3 ⟨rfl, hw3⟩; subst hw3)
          | (go_at_call 31; refine (HBig.out _).mono ?_; rintro e w4 ⟨v2, k2, rfl, hb2, hk2, hg2⟩)
          | (go_at_call 71; refine (HAdd.out _ _ _ _ _ (Big.gb hb1 hg2) hk1 hb2 hk2).mono ?_; rintro e w5 ⟨g3, c3, k3, rfl, hl3, hb3, hk3, hg3⟩)
          | (go_at_call 33; refine (HCmp.out _ _ _ hb3 hk3 (Gb.trans (Gb.trans hg1 hg2) hg3)).mono ?_; rintro e w6 ⟨rfl, hg4⟩; have hG4 := Gb.trans (Gb.trans (Gb.trans hg1 hg2) hg3) hg4)
          | (go_at_call 35; refine (HSub.out _ _ _ (Big.gb hb3 hg4) hk3 hG4).mono ?_; rintro e w7 ⟨g4, c4, k4, rfl, hl4, hb4, hg5⟩; have hG5 := Gb.trans hG4 hg5; obtain ⟨hcl, hfz⟩ := HCl.out w7 hG5))
        have hsw := cell_size (HCl.out wr (Gb.refl wr)).1
        have hs4 := hG4.size
        refine ⟨⟨j, k4, by have := HK.out; omega, rfl, Big.other _ hb4 (by omega), HFin.out w7 _ hG5 (by push_cast; rfl), Gb.setCell (Gb.trans HG.out hG5) (Nat.le_refl _) _⟩, ?_⟩
        simp [intOf] <;> omega
      · obtain rfl : z = -1 := by rw [hzc, if_pos (by omega)]
        obtain ⟨s1, s2⟩ := HSt.out.2 (by omega)
        clear hz hzc
        have HS1 : Hid _ := s1
        have HS2 : Hid _ := s2
        clear s1 s2
        go_wp2_with (first
          | (go_at_call 30; refine HShl.out.mono ?_; rintro e w2 ⟨v1, k1, rfl, hb1, hk1, hg1⟩)
          | (go_at_call 34; refine (HBit.out _ hg1).mono ?_; rintro e w3 ⟨rfl, hw3⟩; subst hw3)
          | (go_at_call 31; refine (HBig.out _).mono ?_; rintro e w4 ⟨v2, k2, rfl, hb2, hk2, hg2⟩)
          | (go_at_call 71; refine (HAdd.out _ _ _ _ _ (Big.gb hb1 hg2) hk1 hb2 hk2).mono ?_; rintro e w5 ⟨g3, c3, k3, rfl, hl3, hb3, hk3, hg3⟩)
          | (go_at_call 33; refine (HCmp.out _ _ _ hb3 hk3 (Gb.trans (Gb.trans hg1 hg2) hg3)).mono ?_; rintro e w6 ⟨rfl, hg4⟩; have hG4 := Gb.trans (Gb.trans (Gb.trans hg1 hg2) hg3) hg4))
        refine ⟨⟨j, k3, by have := HK.out; omega, rfl, ?_, ?_, Gb.trans HG.out hG4⟩, ?_⟩
        · rw [← HS1.out]; exact Big.gb hb3 hg4
        · rw [← HS2.out]; exact Own.gb HO.out hG4
        · simp [intOf] <;> omega
end Go.Proofs.YtkflpogmhailhaaDoor
