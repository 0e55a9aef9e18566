/- spec.l4Root. -/
import Derived.Test.YtkflpogmhailhaaDoorBigMul
import Derived.Test.YtkflpogmhailhaaDoorL4Eq
set_option linter.unusedVariables false
set_option linter.unusedSimpArgs false
namespace Go.Proofs.YtkflpogmhailhaaDoor
open Go.RowKit

theorem root_words {A n R rn : Nat} (hA : A < 4294967296 ^ n) (hR : R * R ≤ A) (hn : Nm rn R) : rn ≤ n := by
  refine Nm.le hn (Nat.lt_of_le_of_lt ?_ hA)
  rcases Nat.eq_zero_or_pos R with rfl | h
  · exact Nat.zero_le _
  · exact Nat.le_trans (Nat.le_mul_of_pos_left R h) hR

set_option maxRecDepth 1000000 in
set_option maxHeartbeats 4000000 in
theorem l4Root_any {v : Value} {n A : Nat} {w : World} (h : Big w v n A) (hn : n ≤ 1000) :
    Calls Tryd.prog 46 #[v] w fun e w' => ∃ r k R, e = .returned r ∧ Big w' r k R ∧ k ≤ n ∧ IsRoot A R ∧ Gb w w' := by
  have HA : Hid _ := h
  obtain ⟨hnm, hN, b, cap, rfl, hcap, hmx, hcell⟩ := h
  have hnb : nb A ≤ 32 * n := by
    have h1 := hN
    rw [← two_pw] at h1
    exact nb_le h1
  obtain ⟨K, hK⟩ : ∃ K : Nat, K = (nb A + 1) / 2 := ⟨_, rfl⟩
  have hq : Int.tdiv ((nb A : Int) + 1) 2 = (K : Int) := by rw [Int.tdiv_eq_ediv_of_nonneg (by omega)]; omega
  have HN : Hid (A < 4294967296 ^ n) := hN
  have HK : Hid (A < (0 + 2 ^ (K + 1)) * (0 + 2 ^ (K + 1))) := by
    show _ < _
    have h1 := nb_lt A
    rw [Nat.zero_add, ← Nat.pow_add]
    exact Nat.lt_of_lt_of_le h1 (Nat.pow_le_pow_right (by decide) (by omega))
  have hK2 : K ≤ 16001 := by omega
  clear hcell hnm hmx hN hK
  have hnb2 : (nb A : Int) ≤ 32000 := by omega
  go_enter Tryd.func46, Tryd.ntmps46
  go_wp2_with (go_at_call 70; refine (l2Len_any (Big.gb HA.out (Gb.alloc (Gb.refl w) _)) (by omega)).mono ?_; rintro e w' ⟨rfl, hw'⟩; subst hw')
  go_loopw [3, 4] (fun r i wr => ∃ k rn R : Nat, k ≤ K + 1 ∧ i = .int .i64 ((k : Int) - 1) ∧ Big wr r rn R ∧ R * R ≤ A ∧ A < (R + 2 ^ k) * (R + 2 ^ k) ∧ Gb w wr) (fun _ i _ => (intOf i + 1).toNat)
  case atStart =>
    exact ⟨K + 1, 0, 0, Nat.le_refl _, by go_num, ⟨⟨by decide, .inl rfl⟩, (own_lit w 0).raw (by decide)⟩, Nat.zero_le _, HK.out, Gb.alloc (Gb.refl w) _⟩
  case round =>
    obtain ⟨k, rn, R, hk, rfl, hrb, hr1, hr2, hgb⟩ := hrel
    have HG : Hid _ := hgb
    have HRB : Hid _ := hrb
    have hrn : rn ≤ n := root_words HN.out hr1 hrb.1
    clear hgb hrb HK
    rcases Nat.eq_zero_or_pos k with rfl | hpos
    · have hl : ¬ ((0 : Nat) : Int) - 1 ≥ 0 := by omega
      have HF : Hid (IsRoot A R) := ⟨hr1, by rw [Nat.pow_zero] at hr2; exact hr2⟩
      clear hr1 hr2
      go_wp2
      go_returns
      first | exact ⟨_, _, _, rfl, HRB.out, hrn, HF.out, HG.out⟩ | exact ⟨_, rfl, _, _, HRB.out, hrn, HF.out, HG.out⟩ | exact ⟨_, rfl, _, HRB.out, hrn, HF.out, HG.out⟩ | exact ⟨_, rfl, _, ⟨_, HRB.out, hrn, HF.out⟩, HG.out⟩ | exact ⟨_, rfl, _, ⟨_, HRB.out, hrn, HF.out, HG.out⟩⟩ | exact ⟨_, rfl, ⟨_, _, HRB.out, hrn, HF.out⟩, HG.out⟩ | (trace_state; fail)
    · obtain ⟨j, rfl⟩ : ∃ j, k = j + 1 := ⟨k - 1, by omega⟩
      have hjj : (((j + 1 : Nat) : Int)) - 1 = (j : Int) := by omega
      have hjn : j ≤ 16001 := by omega
      have hp : R + 2 ^ (j + 1) = R + 2 ^ j + 2 ^ j := by rw [Nat.pow_succ]; omega
      rw [hp] at hr2
      obtain ⟨C, hC⟩ : ∃ C, C = R + 2 ^ j := ⟨_, rfl⟩
      have HOne : Hid (∀ w', Calls Tryd.prog 31 #[.int .u64 1] w' fun e w'' => ∃ v' k, e = .returned v' ∧ Big w'' v' k 1 ∧ k ≤ 2 ∧ Gb w' w'') := fun w' => l2Big_any 1 (by omega) w'
      have HShl : Hid (∀ w' v1 k1, Big w' v1 k1 1 → k1 ≤ 2 → Calls Tryd.prog 30 #[v1, .int .i64 (j : Int)] w' fun e w'' => ∃ v' k, e = .returned v' ∧ Big w'' v' k (2 ^ j) ∧ k ≤ 1000 ∧ Gb w' w'') := fun w' v1 k1 h1 g1 => by
        refine (l2Shl_any h1 (by omega) j (by omega)).mono ?_
        rintro e w'' ⟨v', k, rfl, hb, hk, hg⟩
        exact ⟨v', k, rfl, by rw [Nat.one_mul] at hb; exact hb, by omega, hg⟩
      have HAdd : Hid (∀ w' v2 k2, Big w' v2 k2 (2 ^ j) → k2 ≤ 1000 → Gb wr w' → Calls Tryd.prog 71 #[u3, v2] w' fun e w'' => ∃ v' k, e = .returned v' ∧ Big w'' v' k C ∧ k ≤ 3000 ∧ Gb w' w'') := fun w' v2 k2 h2 g2 hg => by
        refine (l2Add_any (Big.gb HRB.out hg) (by omega) h2 (by omega)).mono ?_
        rintro e w'' ⟨v', k, rfl, hb, hk, hg⟩
        exact ⟨v', k, rfl, by rw [hC]; exact hb, by omega, hg⟩
      have HMul : Hid (∀ w' v1 k1, Big w' v1 k1 C → k1 ≤ 3000 → Calls Tryd.prog 47 #[v1, v1] w' fun e w'' => ∃ v' k, e = .returned v' ∧ Big w'' v' k (C * C) ∧ k ≤ 6000 ∧ Gb w' w'') := fun w' v1 k1 h1 g1 => by
        refine (l2Mul_any h1 (by omega) h1 (by omega)).mono ?_
        rintro e w'' ⟨v', k, rfl, hb, hk, hg⟩
        exact ⟨v', k, rfl, hb, by omega, hg⟩
      obtain ⟨z, hz⟩ : ∃ z, z = cmpZ (C * C) A := ⟨_, rfl⟩
      have HCmp : Hid (∀ w' v1 k1, Big w' v1 k1 (C * C) → k1 ≤ 6000 → Gb wr w' → Calls Tryd.prog 33 #[v1, .slice (some ⟨b, 0, none⟩) n cap] w' fun e w'' => e = .returned (.int .i64 z) ∧ Gb w' w'') := fun w' v1 k1 h1 g1 hg => by
        rw [hz]; exact l2Cmp_any h1 (by omega) (Big.gb HA.out (Gb.trans HG.out hg)) (by omega)
      have hzc : z = if C * C < A then -1 else if A < C * C then 1 else 0 := hz
      rw [← hC] at hr2
      clear hz hp
      have HR1 : Hid (R * R ≤ A) := hr1
      have HR2 : Hid (A < (C + 2 ^ j) * (C + 2 ^ j)) := hr2
      have HCC : Hid (C = R + 2 ^ j) := hC
      have HKK : Hid (j + 1 ≤ K + 1) := hk
      clear hr1 hr2 hC hk hnb
      by_cases hle : C * C ≤ A
      · have hz0 : z ≤ 0 := by rw [hzc]; split <;> (try split) <;> omega
        have hz1 : -1 ≤ z := by rw [hzc]; split <;> (try split) <;> omega
        have HLE : Hid _ := hle
        clear hzc hle
        go_wp2_with (first
          | (go_at_call 31; refine (HOne.out _).mono ?_; rintro e w2 ⟨v1, k1, rfl, hb1, hk1, hg1⟩)
          | (go_at_call 30; refine (HShl.out _ _ _ hb1 hk1).mono ?_; rintro e w3 ⟨v2, k2, rfl, hb2, hk2, hg2⟩)
          | (go_at_call 71; refine (HAdd.out _ _ _ hb2 hk2 (Gb.trans hg1 hg2)).mono ?_; rintro e w4 ⟨v3, k3, rfl, hb3, hk3, hg3⟩)
          | (go_at_call 47; refine (HMul.out _ _ _ hb3 hk3).mono ?_; rintro e w5 ⟨v4, k4, rfl, hb4, hk4, hg4⟩)
          | (go_at_call 33; refine (HCmp.out _ _ _ hb4 hk4 (Gb.trans (Gb.trans (Gb.trans hg1 hg2) hg3) hg4)).mono ?_; rintro e w6 ⟨rfl, hg5⟩; have hG5 := Gb.trans (Gb.trans (Gb.trans (Gb.trans hg1 hg2) hg3) hg4) hg5))
        refine ⟨⟨j, k3, C, by have := HKK.out; omega, rfl, Big.gb hb3 (Gb.trans hg4 hg5), HLE.out, HR2.out, Gb.trans HG.out hG5⟩, ?_⟩
        simp [intOf] <;> omega
      · obtain rfl : z = 1 := by rw [hzc, if_neg (by omega), if_pos (by omega)]
        have HLE : Hid (A < C * C) := by show _ < _; omega
        clear hzc hle
        go_wp2_with (first
          | (go_at_call 31; refine (HOne.out _).mono ?_; rintro e w2 ⟨v1, k1, rfl, hb1, hk1, hg1⟩)
          | (go_at_call 30; refine (HShl.out _ _ _ hb1 hk1).mono ?_; rintro e w3 ⟨v2, k2, rfl, hb2, hk2, hg2⟩)
          | (go_at_call 71; refine (HAdd.out _ _ _ hb2 hk2 (Gb.trans hg1 hg2)).mono ?_; rintro e w4 ⟨v3, k3, rfl, hb3, hk3, hg3⟩)
          | (go_at_call 47; refine (HMul.out _ _ _ hb3 hk3).mono ?_; rintro e w5 ⟨v4, k4, rfl, hb4, hk4, hg4⟩)
          | (go_at_call 33; refine (HCmp.out _ _ _ hb4 hk4 (Gb.trans (Gb.trans (Gb.trans hg1 hg2) hg3) hg4)).mono ?_; rintro e w6 ⟨rfl, hg5⟩; have hG5 := Gb.trans (Gb.trans (Gb.trans (Gb.trans hg1 hg2) hg3) hg4) hg5))
        refine ⟨⟨j, rn, R, by have := HKK.out; omega, rfl, Big.gb HRB.out hG5, HR1.out, by rw [← HCC.out]; exact HLE.out, Gb.trans HG.out hG5⟩, ?_⟩
        simp [intOf] <;> omega
end Go.Proofs.YtkflpogmhailhaaDoor
