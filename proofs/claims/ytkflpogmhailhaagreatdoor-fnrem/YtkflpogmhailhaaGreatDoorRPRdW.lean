/- impl's round, whole. -/
import Derived.Test.YtkflpogmhailhaaGreatDoorB3
import Derived.Test.YtkflpogmhailhaaGreatDoorRPOver
import Derived.Test.YtkflpogmhailhaaGreatDoorRPRdP
import Derived.Test.YtkflpogmhailhaaGreatDoorA3
set_option linter.unusedVariables false
set_option linter.unusedSimpArgs false
namespace Go.Proofs.YtkflpogmhailhaaGreatDoor
open Go.RowKit

theorem or_zero (G : Nat) (hG : G < 18446744073709551616) : bits .or .u64 0 (G : Int) = (G : Int) := by
  have := u64_or_nat 0 G (by omega) hG
  rw [show ((0 : Nat) : Int) = 0 from rfl] at this
  rw [this, Nat.zero_or]
theorem or_31 (G : Nat) (hG : G < 2147483648) : bits .or .u64 2147483648 (G : Int) = 2147483648 + (G : Int) := by
  have := u64_or_nat 2147483648 G (by omega) (by omega)
  rw [show ((2147483648 : Nat) : Int) = 2147483648 from rfl] at this
  have e := Sh.or_add 31 1 G (by simpa using hG)
  simp only [Nat.reducePow, Nat.mul_one] at e
  rw [this, e]; omega
theorem or_63 (G : Nat) (hG : G < 9223372036854775808) : bits .or .u64 9223372036854775808 (G : Int) = 9223372036854775808 + (G : Int) := by
  have := u64_or_nat 9223372036854775808 G (by omega) (by omega)
  rw [show ((9223372036854775808 : Nat) : Int) = 9223372036854775808 from rfl] at this
  have e := Sh.or_add 63 1 G (by simpa using hG)
  simp only [Nat.reducePow, Nat.mul_one] at e
  rw [this, e]; omega

theorem round_num {p mn mx fb sp one inf sg nan : Int} (h : IsM p mn mx fb sp one inf sg nan) (md mode : Int) (k : Nat) (hk : IsRule mode k) (sign : Int) (hs : sign = 0 ∨ sign = 1) (e : Int) (e0 : -100000 ≤ e) (e1 : e ≤ 100000) (M : Nat) (hM0 : 0 < M) (hM : M < 340282366920938463463374607431768211456) (sticky : Bool) (hst : sticky = true → p + 2 ≤ (nb M : Int)) (w : World) :
    Calls Tryz.prog 114 #[.agg #[.int .i64 p, .int .i64 mn, .int .i64 mx, .int .i64 md, .func (.func k) #[] #[]], .int .i64 sign, .int .i64 e, .agg #[.int .u64 ((M / 18446744073709551616 : Nat) : Int), .int .u64 ((M % 18446744073709551616 : Nat) : Int)], .bool sticky] w fun x w' => ∃ z fl, RoundIs p mn mx one inf mode sign M e sticky z fl ∧ x = .returned (.agg #[.int .u64 (sv sign sg z), .int .i64 fl]) ∧ Gr w w' := by
  have hb : 24 ≤ p ∧ p ≤ 53 ∧ -1022 ≤ mn ∧ mn ≤ -126 ∧ 127 ≤ mx ∧ mx ≤ 1023 ∧ fb = p - 1 ∧ 0 < one ∧ one ≤ 4503599627370496 ∧ inf < sg ∧ sg ≤ 9223372036854775808 ∧ mn = 1 - mx ∧ 4 * one < inf := by rcases h with h | h <;> omega
  obtain ⟨b1, b2, b3, b4, b5, b6, b7, b8, b9, b10, b11, b12, b13⟩ := hb
  obtain ⟨P, hP, hone⟩ : ∃ P : Nat, (P : Int) = p - 1 ∧ one = ((2 ^ P : Nat) : Int) := by
    rcases h with ⟨rfl, rfl, rfl, rfl, rfl, rfl, rfl, rfl, rfl⟩ | ⟨rfl, rfl, rfl, rfl, rfl, rfl, rfl, rfl, rfl⟩
    · exact ⟨23, by decide, by decide⟩
    · exact ⟨52, by decide, by decide⟩
  have hinf : inf = one * (2 * mx + 1) := by rcases h with ⟨rfl, rfl, rfl, rfl, rfl, rfl, rfl, rfl, rfl⟩ | ⟨rfl, rfl, rfl, rfl, rfl, rfl, rfl, rfl, rfl⟩ <;> decide
  have hsucc : 2 ^ (P + 1) = 2 * 2 ^ P := by rw [Nat.pow_succ]; omega
  have hL : nb M ≤ 128 := nb_le (by simpa using hM)
  have hpos := nb_pos M hM0
  have hnz : (((M / 18446744073709551616 : Nat) : Int) == 0 && ((M % 18446744073709551616 : Nat) : Int) == 0) = false := by
    rw [Bool.and_eq_false_iff]
    by_cases c : M / 18446744073709551616 = 0
    · right; simp; omega
    · left; simp; omega
  obtain ⟨top, htop⟩ : ∃ top : Int, top = nb M + e - 1 := ⟨_, rfl⟩
  obtain ⟨E, hE⟩ : ∃ E : Int, max top mn = E := ⟨_, rfl⟩
  have hE2 : top < mn ∧ E = mn ∨ mn ≤ top ∧ E = top := by omega
  have HZ : Hid (∀ w, Calls Tryz.prog 141 #[.agg #[.int .u64 ((M / 18446744073709551616 : Nat) : Int), .int .u64 ((M % 18446744073709551616 : Nat) : Int)]] w fun x w' => x = .returned (.int .i64 (128 - (nb M : Int))) ∧ Gr w w') := fun w => zerosM M hM w
  have HO : Hid (∀ w, Calls Tryz.prog 142 #[.agg #[.int .i64 p, .int .i64 mn, .int .i64 mx, .int .i64 md, .func (.func k) #[] #[]], .int .i64 sign] w fun x w' => x = .returned (.agg #[.int .u64 (sv sign sg (ovMag inf mode sign)), .int .i64 20]) ∧ Gr w w') := fun w => overflow_any h md mode k hk sign hs w
  obtain ⟨z0, hz0⟩ : ∃ z0, sign = 0 ∧ z0 = 0 ∨ sign = 1 ∧ z0 = sg := by
    rcases hs with rfl | rfl
    · exact ⟨0, .inl ⟨rfl, rfl⟩⟩
    · exact ⟨sg, .inr ⟨rfl, rfl⟩⟩
  have HZe : Hid (∀ w, Calls Tryz.prog 85 #[.agg #[.int .i64 p, .int .i64 mn, .int .i64 mx], .int .i64 sign] w fun x w' => x = .returned (.int .u64 z0) ∧ Gr w w') := fun w => zero_any h sign z0 hz0 w
  have hor : ∀ G : Int, 0 ≤ G → G < inf → bits .or .u64 z0 G = sv sign sg G := by
    intro G G0 G1
    obtain ⟨g, rfl⟩ := Int.eq_ofNat_of_zero_le G0
    unfold sv
    rcases hz0 with ⟨rfl, rfl⟩ | ⟨rfl, rfl⟩
    · rw [or_zero g (by omega)]; simp
    · rcases h with ⟨_, _, _, _, _, _, _, hsg, _⟩ | ⟨_, _, _, _, _, _, _, hsg, _⟩
      · subst hsg; rw [or_31 g (by omega)]; simp
      · subst hsg; rw [or_63 g (by omega)]; simp
  have hge : (nb M : Int) - p ≤ E - fb - e := by omega
  by_cases ho : mx < E
  · have ht : mx < top := by omega
    refine (round_O h md k sign e _ _ sticky (by omega) (by omega) hnz (nb M) _ top E hL rfl (by omega) hE HZ _ HO ho w).mono ?_
    rintro x w' ⟨rfl, hg⟩
    exact ⟨_, _, ⟨top, E, _, _, _, htop, hE2, rfl, rfl, rfl, .inl ⟨ht, rfl, rfl⟩⟩, rfl, hg⟩
  · have hq : E - fb = E - p + 1 := by omega
    have hlo : cutLo M e (E - p + 1) < 2 ^ (P + 1) := cutLo_lt M e (E - p + 1) (P + 1) (by omega)
    have hch := chosen_le mode sign (cutLo M e (E - p + 1)) (cutHalf M e (E - p + 1) sticky)
    have HAt : Hid (∀ w, Calls Tryz.prog 143 #[.func (.func k) #[] #[], .int .i64 (E - fb - e), .int .i64 sign, .agg #[.int .u64 ((M / 18446744073709551616 : Nat) : Int), .int .u64 ((M % 18446744073709551616 : Nat) : Int)], .bool sticky] w fun x w' => x = .returned (.tuple #[.int .u64 ((chosen mode sign (cutLo M e (E - p + 1)) (cutHalf M e (E - p + 1) sticky) : Nat) : Int), .bool (decide (0 < cutHalf M e (E - p + 1) sticky))]) ∧ Gr w w') := fun w => roundAt_any mode k hk sign hs M hM e (E - p + 1) (E - fb - e) sticky (by omega) (by omega) (by omega) (by
      intro hd
      cases sticky
      · rfl
      · have := hst rfl; omega) (by omega) w
    obtain ⟨r, hr⟩ : ∃ r, chosen mode sign (cutLo M e (E - p + 1)) (cutHalf M e (E - p + 1) sticky) = r := ⟨_, rfl⟩
    obtain ⟨hf, hhf⟩ : ∃ hf, cutHalf M e (E - p + 1) sticky = hf := ⟨_, rfl⟩
    obtain ⟨r2, hr2⟩ : ∃ r2, chosen mode sign (cutLo M e (top - p + 1)) (cutHalf M e (top - p + 1) sticky) = r2 := ⟨_, rfl⟩
    rw [hr] at hch HAt
    rw [hhf] at HAt
    have hrr : chosen mode sign (cutLo M e (E - p + 1)) hf = r := by rw [← hhf]; exact hr
    obtain ⟨Y, hY⟩ : ∃ Y, (E - mn) * one = Y := ⟨_, rfl⟩
    have hY' : one * (E - mn) = Y := by rw [Int.mul_comm]; exact hY
    have hYb : 0 ≤ Y ∧ Y ≤ inf := by
      rw [← hY', hinf]
      exact ⟨Int.mul_nonneg (by omega) (by omega), Int.mul_le_mul_of_nonneg_left (by omega) (by omega)⟩
    have hG : (r : Int) + one * (E - mn) = Y + r := by rw [hY']; omega
    by_cases hv : inf ≤ Y + r
    · refine (round_V h md k sign e _ _ sticky (by omega) (by omega) hnz (nb M) _ top E hL rfl (by omega) hE HZ (by omega) (E - fb) (E - fb - e) r _ rfl rfl HAt (by omega) (E - mn) Y (Y + r) rfl hY rfl (by omega) (by omega) (by omega) _ HO hv w).mono ?_
      rintro x w' ⟨rfl, hg⟩
      exact ⟨_, _, ⟨top, E, r, r2, hf, htop, hE2, hhf.symm, hrr.symm, hr2.symm, .inr (.inl ⟨by omega, by rw [hG]; exact hv, rfl, rfl⟩)⟩, rfl, hg⟩
    · have HOr := hor (Y + r) (by omega) (by omega)
      rcases Nat.eq_zero_or_pos hf with c | c
      · have hdec : decide (0 < hf) = false := by rw [c]; rfl
        rw [hdec] at HAt
        refine (round_X h md k sign e _ _ sticky (by omega) (by omega) hnz (nb M) _ top E hL rfl (by omega) hE HZ (by omega) (E - fb) (E - fb - e) r rfl rfl HAt (by omega) (E - mn) Y (Y + r) rfl hY rfl (by omega) (by omega) (by omega) z0 _ HZe HOr (by omega) w).mono ?_
        rintro x w' ⟨rfl, hg⟩
        exact ⟨_, _, ⟨top, E, r, r2, hf, htop, hE2, hhf.symm, hrr.symm, hr2.symm, .inr (.inr ⟨by omega, by rw [hG]; omega, hG.symm, .inl ⟨c, rfl⟩⟩)⟩, rfl, hg⟩
      · have hdec : decide (0 < hf) = true := decide_eq_true c
        rw [hdec] at HAt
        have hlo2 : cutLo M e (top - p + 1) < 2 ^ (P + 1) := cutLo_lt M e (top - p + 1) (P + 1) (by omega)
        have hch2 := chosen_le mode sign (cutLo M e (top - p + 1)) (cutHalf M e (top - p + 1) sticky)
        rw [hr2] at hch2
        have HTi : ∀ tb : Bool, ((top < mn - 1 ∨ top = mn - 1 ∧ (r2 : Int) < 2 * one) ∧ tb = true ∨ (mn ≤ top ∨ top = mn - 1 ∧ 2 * one ≤ (r2 : Int)) ∧ tb = false) → Hid (∀ w, Calls Tryz.prog 144 #[.agg #[.int .i64 p, .int .i64 mn, .int .i64 mx, .int .i64 md, .func (.func k) #[] #[]], .int .i64 top, .int .i64 sign, .int .i64 e, .agg #[.int .u64 ((M / 18446744073709551616 : Nat) : Int), .int .u64 ((M % 18446744073709551616 : Nat) : Int)], .bool sticky] w fun x w' => x = .returned (.bool tb) ∧ Gr w w') := by
          intro tb htb w
          by_cases ht : top = mn - 1
          · have HAt2 : Hid (∀ w, Calls Tryz.prog 143 #[.func (.func k) #[] #[], .int .i64 (top - fb - e), .int .i64 sign, .agg #[.int .u64 ((M / 18446744073709551616 : Nat) : Int), .int .u64 ((M % 18446744073709551616 : Nat) : Int)], .bool sticky] w fun x w' => x = .returned (.tuple #[.int .u64 (r2 : Int), .bool (decide (0 < cutHalf M e (top - p + 1) sticky))]) ∧ Gr w w') := fun w => by
              rw [← hr2]
              exact roundAt_any mode k hk sign hs M hM e (top - p + 1) (top - fb - e) sticky (by omega) (by omega) (by omega) (by
                intro hd
                cases sticky
                · rfl
                · have := hst rfl; omega) (by omega) w
            refine tiny_eq h md k top sign e _ _ (top - fb) (top - fb - e) r2 sticky _ tb ht (by omega) (by omega) rfl rfl (by omega) (by omega) ?_ HAt2 w
            rcases htb with ⟨a, rfl⟩ | ⟨a, rfl⟩
            · rw [decide_eq_true (by omega)]
            · rw [decide_eq_false (by omega)]
          · have := tiny_ne (p := p) (mn := mn) (mx := mx) (by omega) (by omega) md k top sign e ((M / 18446744073709551616 : Nat) : Int) ((M % 18446744073709551616 : Nat) : Int) sticky (by simp; omega) w
            rcases htb with ⟨a, rfl⟩ | ⟨a, rfl⟩
            · rw [decide_eq_true (by omega)] at this; exact this
            · rw [decide_eq_false (by omega)] at this; exact this
        by_cases hty : top < mn - 1 ∨ top = mn - 1 ∧ (r2 : Int) < 2 * one
        · refine (round_T h md k sign e _ _ sticky (by omega) (by omega) hnz (nb M) _ top E hL rfl (by omega) hE HZ (by omega) (E - fb) (E - fb - e) r rfl rfl HAt (by omega) (E - mn) Y (Y + r) rfl hY rfl (by omega) (by omega) (by omega) z0 _ HZe (HTi true (.inl ⟨hty, rfl⟩)) HOr (by omega) w).mono ?_
          rintro x w' ⟨rfl, hg⟩
          exact ⟨_, _, ⟨top, E, r, r2, hf, htop, hE2, hhf.symm, hrr.symm, hr2.symm, .inr (.inr ⟨by omega, by rw [hG]; omega, hG.symm, .inr (.inl ⟨c, hty, rfl⟩)⟩)⟩, rfl, hg⟩
        · have hty2 : mn ≤ top ∨ top = mn - 1 ∧ 2 * one ≤ (r2 : Int) := by omega
          refine (round_F h md k sign e _ _ sticky (by omega) (by omega) hnz (nb M) _ top E hL rfl (by omega) hE HZ (by omega) (E - fb) (E - fb - e) r rfl rfl HAt (by omega) (E - mn) Y (Y + r) rfl hY rfl (by omega) (by omega) (by omega) z0 _ HZe (HTi false (.inr ⟨hty2, rfl⟩)) HOr (by omega) w).mono ?_
          rintro x w' ⟨rfl, hg⟩
          exact ⟨_, _, ⟨top, E, r, r2, hf, htop, hE2, hhf.symm, hrr.symm, hr2.symm, .inr (.inr ⟨by omega, by rw [hG]; omega, hG.symm, .inr (.inr ⟨c, hty2, rfl⟩)⟩)⟩, rfl, hg⟩

theorem round_zero {p mn mx fb sp one inf sg nan : Int} (h : IsM p mn mx fb sp one inf sg nan) (md : Int) (k : Nat) (sign : Int) (hs : sign = 0 ∨ sign = 1) (e : Int) (e0 : -100000 ≤ e) (e1 : e ≤ 100000) (sticky : Bool) (w : World) :
    Calls Tryz.prog 114 #[.agg #[.int .i64 p, .int .i64 mn, .int .i64 mx, .int .i64 md, .func (.func k) #[] #[]], .int .i64 sign, .int .i64 e, .agg #[.int .u64 0, .int .u64 0], .bool sticky] w fun x w' => x = .returned (.agg #[.int .u64 (sv sign sg 0), .int .i64 0]) ∧ Gr w w' := by
  refine round_Z h md k sign e sticky (by omega) (by omega) (sv sign sg 0) (fun w => zero_any h sign _ ?_ w) w
  unfold sv
  rcases hs with rfl | rfl
  · exact .inl ⟨rfl, by simp⟩
  · exact .inr ⟨rfl, by simp⟩
end Go.Proofs.YtkflpogmhailhaaGreatDoor
