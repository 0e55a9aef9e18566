/- Rem, of both sides. -/
import Derived.Test.YtkflpogmhailhaaGreatDoorH4
import Derived.Test.YtkflpogmhailhaaGreatDoorR4
import Derived.Test.YtkflpogmhailhaaGreatDoorR7
import Derived.Test.YtkflpogmhailhaaGreatDoorL4WRH
import Derived.Test.YtkflpogmhailhaaGreatDoorL4WRL
set_option linter.unusedVariables false
set_option linter.unusedSimpArgs false
namespace Go.Proofs.YtkflpogmhailhaaGreatDoor
open Go.RowKit

def remX (x y : Opd) : Nat := x.M * 2 ^ (x.e - min x.e y.e).toNat
def remD (x y : Opd) : Nat := y.M * 2 ^ (y.e - min x.e y.e).toNat
def remO (p mode : Int) (x y : Opd) : Opd :=
  if 3 ≤ max x.c y.c then ⟨max x.c y.c, 0, 0, 0⟩
  else if x.c = 2 ∨ y.c = 0 then ⟨4, 0, 0, 0⟩
  else if x.c = 0 ∨ y.c = 2 then x
  else if remM (remX x y) (remD x y) = 0 then ⟨0, x.s, 0, 0⟩
  else ⟨1, if remUp (remX x y) (remD x y) then 1 - x.s else x.s, min x.e y.e, remM (remX x y) (remD x y)⟩
theorem remO_nan (p mode : Int) (x y : Opd) (h : 3 ≤ max x.c y.c) : remO p mode x y = ⟨max x.c y.c, 0, 0, 0⟩ := by unfold remO; rw [if_pos h]
theorem remO_c (p mode : Int) (x y : Opd) (hx : VO x) (hy : VO y) : 0 ≤ (remO p mode x y).c ∧ (remO p mode x y).c ≤ 5 := by
  have := hx.c0
  have := hx.c4
  have := hy.c0
  have := hy.c4
  unfold remO
  split
  · dsimp only; omega
  · split
    · exact ⟨by dsimp only; omega, by dsimp only; omega⟩
    · split
      · omega
      · split
        · exact ⟨by dsimp only; omega, by dsimp only; omega⟩
        · exact ⟨by dsimp only; omega, by dsimp only; omega⟩

theorem and_one_nat (C : Nat) (hC : C < 18446744073709551616) : bits .and .u64 (C : Int) 1 = ((C % 2 : Nat) : Int) := by
  have h := bits_and_u64_nat C 1 hC (by decide)
  rw [Nat.and_one_is_mod] at h
  exact h
theorem and_two_nat (C : Nat) (hC : C < 18446744073709551616) : bits .and .u64 (C : Int) 2 = ((C / 2 % 2 * 2 : Nat) : Int) := by
  have h := bits_and_u64_nat C 2 hC (by decide)
  have h1 : C &&& 2 = C / 2 % 2 * 2 := by
    have e1 : (C &&& 2) % 2 ^ 2 = C % 2 ^ 2 &&& 2 % 2 ^ 2 := Nat.and_mod_two_pow
    have e2 : C &&& 2 ≤ 2 := Nat.and_le_right
    rw [Nat.mod_eq_of_lt (show C &&& 2 < 2 ^ 2 by omega)] at e1
    rw [e1]
    have e3 : C % 2 ^ 2 = 0 ∨ C % 2 ^ 2 = 1 ∨ C % 2 ^ 2 = 2 ∨ C % 2 ^ 2 = 3 := by omega
    rcases e3 with c | c | c | c <;> rw [c]
    · rw [show C / 2 % 2 = 0 by omega]; rfl
    · rw [show C / 2 % 2 = 0 by omega]; rfl
    · rw [show C / 2 % 2 = 1 by omega]; rfl
    · rw [show C / 2 % 2 = 1 by omega]; rfl
  rw [h1] at h
  exact h

theorem mod64 (F : Nat) : F % 18446744073709551616 % 2 = F % 2 ∧ F % 18446744073709551616 / 2 % 2 = F / 2 % 2 := ⟨by omega, by omega⟩

/-- The digits down to a half. -/
theorem remainder_digits (p mn mx md : Int) (k : Nat) (sx ex sy ey : Int) (A B : Nat) (hA1 : A < 9007199254740992) (hB1 : B < 9007199254740992) (hB0 : 0 < B) (hAB : A < 2 * B) (s01 : sx = 0 ∨ sx = 1) (e0 : -2000 ≤ ex) (e1 : ex ≤ 2000) (f0 : -2000 ≤ ey) (f1 : ey ≤ 2000) (P : Nat) (hP : ex - ey + 2 = ((P + 1 : Nat) : Int)) (w : World) :
    Calls Tryz.prog 40 #[.agg #[.int .i64 p, .int .i64 mn, .int .i64 mx, .int .i64 md, .func (.func k) #[] #[]], .agg #[.int .i64 sx, .int .i64 ex, .int .i64 1, .int .u64 0, .int .u64 ((A : Int)), .bool false, .int .i64 0], .agg #[.int .i64 sy, .int .i64 ey, .int .i64 1, .int .u64 0, .int .u64 ((B : Int)), .bool false, .int .i64 0]] w fun e w' => e = .returned (.agg #[.int .i64 ((if digUp (A * 2 ^ P / B) (A * 2 ^ P % B) then 1 - sx else sx)), .int .i64 (ey - 1), .int .i64 1, .int .u64 0, .int .u64 (((digM (A * 2 ^ P / B) (A * 2 ^ P % B) B : Nat) : Int)), .bool false, .int .i64 0]) ∧ Gr w w' := by
  obtain ⟨d1, d2⟩ := quo_digits A B P hAB (by omega)
  have hL : A * 2 ^ P % B < B := Nat.mod_lt _ hB0
  obtain ⟨m1, m2⟩ := mod64 (A * 2 ^ P / B)
  have hC : A * 2 ^ P / B % 18446744073709551616 < 18446744073709551616 := Nat.mod_lt _ (by decide)
  have HF : Hid (∀ w v, Digs (fun _ _ => B) A w v → Calls Tryz.prog 94 #[v, .int .i64 ((P + 1 : Nat) : Int)] w fun e w' => e = .returned (.tuple #[.int .u64 ((A * 2 ^ P / B % 18446744073709551616 : Nat) : Int), .int .u64 ((A * 2 ^ P % B : Nat) : Int)]) ∧ Gr w w') := fun w v hd => by
    have h := first_any (by omega) hd (P + 1) (by omega) (by omega)
    rw [d2, show P + 1 - 1 = P from rfl, d1] at h
    exact h
  unfold digM digUp
  rw [← m1, ← m2]
  generalize A * 2 ^ P / B % 18446744073709551616 = C at *
  generalize A * 2 ^ P % B = L at *
  have a2 := and_two_nat C hC
  have a1 := and_one_nat C hC
  have hod : ∀ t : Bool, t = decide (C / 2 % 2 = 1) → (((C / 2 % 2 * 2 : Nat) : Int) != 0) = t := fun t ht => by
    rw [ht]
    have h2 : C / 2 % 2 = 0 ∨ C / 2 % 2 = 1 := by omega
    rcases h2 with h | h <;> simp [h]
  have hha : ∀ t : Bool, t = decide (C % 2 = 1) → (((C % 2 : Nat) : Int) != 0) = t := fun t ht => by
    rw [ht]
    have h2 : C % 2 = 0 ∨ C % 2 = 1 := by omega
    rcases h2 with h | h <;> simp [h]
  have hlb : ((L : Int) != 0) = decide (L ≠ 0) := by by_cases h : L = 0 <;> simp [h]
  have HE : ∀ (o h l U : Bool), U = (h && (o || l)) → Hid (∀ w, Calls Tryz.prog 95 #[.bool false, .bool o, .bool h, .bool l] w fun e w' => e = .returned (.bool U) ∧ w = w') := fun o h l U hU w => by
    have := nearestEven_any false o h l w
    rw [show ru 0 false o h l = U from by rw [hU]; cases o <;> cases h <;> cases l <;> rfl] at this
    exact this
  by_cases hU : C % 2 = 1 ∧ (C / 2 % 2 = 1 ∨ L ≠ 0)
  · rw [decide_eq_true hU, if_pos rfl, if_pos rfl]
    have hx := xor01 sx 1 s01 (.inr rfl)
    rw [show mulS sx 1 = 1 - sx from by rcases s01 with rfl | rfl <;> decide] at hx
    exact remainder_up p mn mx md k sx ex 0 sy ey 0 false false A B (by omega) (by omega) (by omega) (by omega) (by omega) (by omega) (P + 1) hP (by omega) C L hC (by omega) _ _ _ _ _ a2 a1 (hod _ rfl) (hha _ rfl) hlb _ hx HF (HE _ _ _ _ (by simp [hU])) w
  · rw [decide_eq_false hU, if_neg (by decide), if_neg (by decide)]
    by_cases hh : C % 2 = 1
    · rw [if_pos hh]
      exact remainder_half p mn mx md k sx ex 0 sy ey 0 false false A B (by omega) (by omega) (by omega) (by omega) (by omega) (by omega) (P + 1) hP (by omega) C L hC (by omega) _ _ _ _ a2 a1 (hod _ rfl) (hha true (by simp [hh])) hlb HF (HE _ _ _ _ (by
        have h1 : ¬ (C / 2 % 2 = 1 ∨ L ≠ 0) := fun c => hU ⟨hh, c⟩
        have h2 : ¬ C / 2 % 2 = 1 := fun c => h1 (.inl c)
        have h3 : ¬ L ≠ 0 := fun c => h1 (.inr c)
        simp [h2, h3])) w
    · rw [if_neg hh]
      exact remainder_less p mn mx md k sx ex 0 sy ey 0 false false A B (by omega) (by omega) (by omega) (by omega) (by omega) (by omega) (P + 1) hP (by omega) C L hC (by omega) _ _ _ _ a2 a1 (hod _ rfl) (hha false (by simp [hh])) hlb HF (HE _ _ _ _ rfl) w

theorem digM_lt {C L B : Nat} (h : L < B) : digM C L B ≤ B := by
  unfold digM
  split
  · omega
  · split <;> omega
theorem digM_zero {C L B : Nat} (h : L < B) (h0 : digM C L B = 0) : digUp C L = false := by
  unfold digM at h0
  cases hd : digUp C L
  · rfl
  · rw [hd, if_pos rfl] at h0; omega

theorem remainder_any {f p mx one inf sg nan : Int} (hF : IsFmt f p mx one inf sg nan) (mn md : Int) (k : Nat) {a b : Int} {x y : Opd} (hx : OpdIs p mx one inf sg nan a x) (hy : OpdIs p mx one inf sg nan b y) (h3 : max x.c y.c < 3) (w : World) :
    Calls Tryz.prog 40 #[.agg #[.int .i64 p, .int .i64 mn, .int .i64 mx, .int .i64 md, .func (.func k) #[] #[]], .agg #[.int .i64 x.s, .int .i64 x.e, .int .i64 x.c, .int .u64 (((x.M / 18446744073709551616 : Nat) : Int)), .int .u64 (((x.M % 18446744073709551616 : Nat) : Int)), .bool false, .int .i64 0], .agg #[.int .i64 y.s, .int .i64 y.e, .int .i64 y.c, .int .u64 (((y.M / 18446744073709551616 : Nat) : Int)), .int .u64 (((y.M % 18446744073709551616 : Nat) : Int)), .bool false, .int .i64 0]] w fun e w' => ∃ os oe oc oh ol ot of, SameP p (remO p md x y) os oe oc oh ol ot of ∧ e = .returned (.agg #[.int .i64 os, .int .i64 oe, .int .i64 oc, .int .u64 oh, .int .u64 ol, .bool ot, .int .i64 of]) ∧ Gr w w' := by
  obtain ⟨v1, v2, v3, v4, v5, v6⟩ := opd_vo hF hx
  obtain ⟨u1, u2, u3, u4, u5, u6⟩ := opd_vo hF hy
  have hpb : 24 ≤ p ∧ p ≤ 53 := by have := hF.bounds; omega
  have c0 := v1.c0
  have d0 := u1.c0
  have s01 := v1.s01
  have hself := SameP.self p v1
  unfold remO
  rw [if_neg (show ¬ 3 ≤ max x.c y.c by omega)]
  by_cases c2 : x.c = 2
  · rw [if_pos (.inl c2), c2]
    refine (remainder_badx p mn mx md k _ _ 0 _ _ _ _ _ _ _ _ _ w).mono ?_
    rintro r w' ⟨rfl, hg⟩
    exact ⟨_, _, _, _, _, _, _, SameP.nan p 4 (by omega) (by omega), rfl, hg⟩
  · by_cases cy0 : y.c = 0
    · rw [if_pos (.inr cy0), cy0]
      refine (remainder_bady p mn mx md k _ _ _ _ _ _ _ 0 _ _ _ _ (by simp [c2]) w).mono ?_
      rintro r w' ⟨rfl, hg⟩
      exact ⟨_, _, _, _, _, _, _, SameP.nan p 4 (by omega) (by omega), rfl, hg⟩
    · rw [if_neg (show ¬ (x.c = 2 ∨ y.c = 0) by omega)]
      by_cases cx0 : x.c = 0
      · rw [if_pos (.inl cx0)]
        rw [cx0] at hself ⊢
        refine (remainder_zero p mn mx md k _ _ 0 _ _ _ _ _ _ _ _ _ (by simp [cy0]) w).mono ?_
        rintro r w' ⟨rfl, hg⟩
        exact ⟨_, _, _, _, _, _, _, hself, rfl, hg⟩
      · have cx : x.c = 1 := by omega
        by_cases cy2 : y.c = 2
        · rw [if_pos (.inr cy2), cy2]
          rw [cx] at hself ⊢
          refine (remainder_inf p mn mx md k _ _ 0 _ _ _ _ 0 _ _ _ _ w).mono ?_
          rintro r w' ⟨rfl, hg⟩
          exact ⟨_, _, _, _, _, _, _, hself, rfl, hg⟩
        · have cy : y.c = 1 := by omega
          rw [if_neg (show ¬ (x.c = 0 ∨ y.c = 2) by omega)]
          obtain ⟨Pn, hP, hP1, hP53, hA, hA2⟩ := opd_fin hF hx cx
          obtain ⟨Pn', hP', _, _, hB, hB2⟩ := opd_fin hF hy cy
          obtain rfl : Pn = Pn' := by omega
          have hA0 : 0 < x.M := Nat.lt_of_lt_of_le (Nat.pow_pos (by decide)) hA
          have hB0 : 0 < y.M := Nat.lt_of_lt_of_le (Nat.pow_pos (by decide)) hB
          have hAB : x.M < 2 * y.M := by
            have : 2 ^ Pn = 2 * 2 ^ (Pn - 1) := by rw [← Nat.pow_succ', show (Pn - 1).succ = Pn by omega]
            omega
          rw [cx] at hself
          by_cases hn : x.e - y.e + 2 < 1
          · have hX : remX x y = x.M := by unfold remX; rw [show (x.e - min x.e y.e).toNat = 0 by omega, Nat.pow_zero, Nat.mul_one]
            have hD : 2 * x.M < remD x y := by
              unfold remD
              have : 2 ^ 2 ≤ 2 ^ (y.e - min x.e y.e).toNat := Nat.pow_le_pow_right (by decide) (by omega)
              have h4 : y.M * 4 ≤ y.M * 2 ^ (y.e - min x.e y.e).toNat := Nat.mul_le_mul_left _ this
              omega
            obtain ⟨r1, r2⟩ := rem_self _ _ hD
            rw [hX, r1, r2, if_neg (by omega), if_neg (by decide), show min x.e y.e = x.e by omega, cx, cy]
            refine (remainder_low p mn mx md k _ _ 0 _ _ _ _ 0 _ _ _ _ (by omega) (by omega) (by omega) (by omega) hn w).mono ?_
            rintro r w' ⟨rfl, hg⟩
            refine ⟨_, _, _, _, _, _, _, ?_, rfl, hg⟩
            obtain ⟨xc, xs, xe, xM⟩ := x
            dsimp only at *
            rw [cx] at hself
            exact hself
          · obtain ⟨P, hP2⟩ : ∃ P : Nat, x.e - y.e + 2 = ((P + 1 : Nat) : Int) := ⟨(x.e - y.e + 1).toNat, by omega⟩
            have hL : x.M * 2 ^ P % y.M < y.M := Nat.mod_lt _ hB0
            have key : digUp (x.M * 2 ^ P / y.M) (x.M * 2 ^ P % y.M) = remUp (remX x y) (remD x y) ∧ (digM (x.M * 2 ^ P / y.M) (x.M * 2 ^ P % y.M) y.M = 0 ↔ remM (remX x y) (remD x y) = 0) ∧
                (0 < remM (remX x y) (remD x y) → ∀ s mn mx one inf mode z fl, RoundIs p mn mx one inf mode s (digM (x.M * 2 ^ P / y.M) (x.M * 2 ^ P % y.M) y.M) (y.e - 1) false z fl ↔ RoundIs p mn mx one inf mode s (remM (remX x y) (remD x y)) (min x.e y.e) false z fl) := by
              by_cases hge : y.e ≤ x.e
              · have e1 : remD x y = y.M := by unfold remD; rw [show (y.e - min x.e y.e).toNat = 0 by omega, Nat.pow_zero, Nat.mul_one]
                have e2 : x.M * 2 ^ P = 2 * remX x y := by
                  unfold remX
                  rw [show P = (x.e - min x.e y.e).toNat + 1 by omega, Nat.pow_succ, ← Nat.mul_assoc, Nat.mul_comm]
                obtain ⟨k1, k2⟩ := rem_hi (remX x y) y.M hB0
                rw [e1, e2]
                refine ⟨k1, by rw [k2]; omega, fun hpos s mn mx one inf mode z fl => ?_⟩
                rw [k2, show min x.e y.e = y.e by omega]
                have := RoundIs.scale (p := p) (mn := mn) (mx := mx) (one := one) (inf := inf) (mode := mode) (sign := s) (M := remM (remX x y) y.M) (e := y.e) (z := z) (fl := fl) 1 hpos
                rw [Nat.pow_one, Nat.mul_comm] at this
                exact this
              · have e1 : remD x y = 2 * y.M := by unfold remD; rw [show (y.e - min x.e y.e).toNat = 1 by omega, Nat.pow_one, Nat.mul_comm]
                have e2 : remX x y = x.M := by unfold remX; rw [show (x.e - min x.e y.e).toNat = 0 by omega, Nat.pow_zero, Nat.mul_one]
                have e3 : x.M * 2 ^ P = x.M := by rw [show P = 0 by omega, Nat.pow_zero, Nat.mul_one]
                obtain ⟨k1, k2⟩ := rem_lo x.M y.M hB0 hAB
                rw [e1, e2, e3]
                refine ⟨k1, by rw [k2], fun hpos s mn mx one inf mode z fl => ?_⟩
                rw [k2, show min x.e y.e = y.e - 1 by omega]
            obtain ⟨ku, kz, kr⟩ := key
            have hle := digM_lt (C := x.M * 2 ^ P / y.M) hL
            rw [show x.M / 18446744073709551616 = 0 by omega, show x.M % 18446744073709551616 = x.M by omega, show y.M / 18446744073709551616 = 0 by omega, show y.M % 18446744073709551616 = y.M by omega, cx, cy]
            refine (remainder_digits p mn mx md k x.s x.e y.s y.e x.M y.M v2 u2 hB0 hAB s01 v4 v5 u4 u5 P hP2 w).mono ?_
            rintro r w' ⟨rfl, hg⟩
            by_cases hz : remM (remX x y) (remD x y) = 0
            · rw [if_pos hz]
              have hd0 := kz.2 hz
              have hdu := digM_zero hL hd0
              refine ⟨_, _, _, _, _, _, _, .inr (.inr ⟨rfl, rfl, rfl, by rw [hd0]; rfl, by rw [hdu]; rfl, ?_, rfl, by omega, by omega⟩), rfl, hg⟩
              rw [hdu, if_neg (by decide)]; exact s01
            · rw [if_neg hz]
              refine ⟨_, _, _, _, _, _, _, .inl ⟨digM (x.M * 2 ^ P / y.M) (x.M * 2 ^ P % y.M) y.M, ?_, ?_, rfl, rfl, (show (0 : Int) ≤ 1 by omega), (show (1 : Int) ≤ 4 by omega), fun _ => ⟨by rw [ku], ?_⟩, fun _ => ⟨by omega, by omega, (fun t => by cases t), by omega, by omega, fun mn mx one inf mode z fl => ?_⟩⟩, rfl, hg⟩
              · rw [Nat.div_eq_of_lt (by omega)]; rfl
              · rw [Nat.mod_eq_of_lt (a := digM (x.M * 2 ^ P / y.M) (x.M * 2 ^ P % y.M) y.M) (by omega)]
              · split
                · omega
                · exact s01
              · exact kr (by omega) _ _ _ _ _ _ _ _
end Go.Proofs.YtkflpogmhailhaaGreatDoor

/- impl.Rem and spec.Rem; both sides. -/
set_option linter.unusedVariables false
set_option linter.unusedSimpArgs false
namespace Go.Proofs.YtkflpogmhailhaaGreatDoor
open Go.RowKit

theorem implRem_any (f a b : Int) (a0 : 0 ≤ a) (a1 : a < 18446744073709551616) (b0 : 0 ≤ b) (b1 : b < 18446744073709551616) (w : World) (hw : Fm w) :
    Calls Tryz.prog 8 #[.int .i64 f, .int .u64 a, .int .u64 b] w fun e w' => ∃ Z fl, OpRD remO f 0 a b Z fl ∧ e = .returned (.agg #[.int .u64 Z, .int .i64 fl]) ∧ Gr w w' := by
  refine implRem_of f a b (OpRD remO f 0 a b) (fun w' hg => ?_)
  have hw' := hw.gr hg
  have hm : (0 : Int) ≤ 0 ∧ (0 : Int) ≤ 4 := ⟨by omega, by omega⟩
  by_cases hf : f = 0 ∨ f = 1
  · obtain ⟨p, mx, one, inf, sg, nan, hF⟩ := fmt_of f hf
    obtain ⟨mn, fb, sp, hM, hmn, hfb⟩ := hF.m
    obtain ⟨k, hk⟩ := rule_of 0 hm.1 hm.2
    obtain ⟨x, hx, HA⟩ := opd_is hF hM a a0 a1
    obtain ⟨y, hy, HB⟩ := opd_is hF hM b b0 b1
    obtain ⟨v1, v2, v3, v4, v5, v6⟩ := opd_vo hF hx
    obtain ⟨u1, u2, u3, u4, u5, u6⟩ := opd_vo hF hy
    refine (calc_okf p mn mx 0 f k 40 a b _ _ _ _ _ _ _ _ _ _ _ _ (fun w'' hg' => settingOf_yes hF hM 0 k (fun w => ruleOf_yes 0 k hk w) (hw'.gr hg')) HA HB (SameP p (remO p 0 x y)) (fun w => ?_) (PackD p mn mx one inf sg nan 0 (remO p 0 x y)) (fun os oe oc oh ol ot of w hq => pack_anyD hM 0 k hk _ os oe oc oh ol ot of hq w)).mono ?_
    · by_cases h3 : 3 ≤ max x.c y.c
      · refine (combine_nan p mn mx 0 k _ _ _ _ _ _ _ _ _ _ _ _ 40 _ rfl h3 w).mono ?_
        rintro e w' ⟨rfl, hg⟩
        rw [remO_nan p 0 x y h3]
        exact ⟨_, _, _, _, _, _, _, SameP.nan p _ h3 (by have := v1.c4; have := u1.c4; omega), rfl, hg⟩
      · exact combine_remainder p mn mx 0 k _ _ _ _ _ _ _ _ _ _ _ _ _ rfl (by omega) _ (fun w => remainder_any hF mn 0 k hx hy (by omega) w) w
    · rintro e w'' ⟨Z, fl, hp, rfl, hg'⟩
      rw [hmn] at hp
      exact ⟨_, _, .inl ⟨p, mx, one, inf, sg, nan, x, y, hF, hm, hx, hy, hp⟩, rfl, hg'⟩
  · refine (calc_no _ _ _ _ _ f 0 a b (fun w'' hg' => settingOf_none f 0 hf (hw'.gr hg')) (fun w => invalid_any m64 w) 40).mono ?_
    rintro e w'' ⟨rfl, hg'⟩
    exact ⟨_, _, .inr (.inr ⟨hf, rfl, rfl⟩), rfl, hg'⟩

/-- A number's own word is what packing it gives. -/
theorem pack_self {f p mx one inf sg nan a mode : Int} (h : IsFmt f p mx one inf sg nan) (ha : a < 2 * sg) {x : Opd} (hx : OpdIs p mx one inf sg nan a x) (hc : x.c ≤ 1) : PackIs p (1 - mx) mx one inf sg nan mode x a 0 := by
  rcases hx with ⟨_, v, hs, hv⟩ | ⟨c, _⟩
  · have hsw : ∀ z : Int, z = v → a = sw x.s sg z := fun z hz => by
      rcases hs with ⟨h1, h2, h3⟩ | ⟨h1, h2, h3⟩
      · rw [h1, hz, h2]; simp [sw]
      · rw [h1, hz, h2]; simp [sw]
    rcases hv with ⟨e0, c0, _, _⟩ | ⟨_, _, c0, _⟩ | ⟨_, c0, _⟩ | ⟨_, c0, _⟩ | ⟨v0, v1, c0, hn⟩
    · exact .inl ⟨c0, hsw 0 e0.symm, rfl⟩
    · exfalso; omega
    · exfalso; omega
    · exfalso; omega
    · obtain ⟨_, _, _, _, hr⟩ := back_is h mode x.s v x.e (x.M : Int) v0 v1 hn
      rw [Int.toNat_natCast] at hr
      exact .inr (.inl ⟨c0, v, hr, hsw v rfl⟩)
  · exfalso; omega

set_option maxRecDepth 100000 in
theorem specRem_ok {f p mx one inf sg nan : Int} (h : IsFmt f p mx one inf sg nan) (a b : Int) (a0 : 0 ≤ a) (a1 : a < 18446744073709551616) (b0 : 0 ≤ b) (b1 : b < 18446744073709551616) {x y : Opd} (hx : OpdIs p mx one inf sg nan a x) (hy : OpdIs p mx one inf sg nan b y) (w : World) :
    Calls Tryz.prog 9 #[.int .i64 f, .int .u64 a, .int .u64 b] w fun e w' => ∃ Z fl, PackD p (1 - mx) mx one inf sg nan 0 (remO p 0 x y) Z fl ∧ e = .returned (.agg #[.int .u64 Z, .int .i64 fl]) ∧ Gb w w' := by
  obtain ⟨v1, v2, v3, v4, v5, v6⟩ := opd_vo h hx
  obtain ⟨u1, u2, u3, u4, u5, u6⟩ := opd_vo h hy
  have xc0 := v1.c0
  have xc4 := v1.c4
  have yc0 := u1.c0
  have yc4 := u1.c4
  have hb := h.bounds
  have sa0 : 0 ≤ x.s := by have := v1.s01; omega
  have sa1 : x.s ≤ 1 := by have := v1.s01; omega
  by_cases hfit : a < 2 * sg ∧ b < 2 * sg
  · obtain ⟨fa, fb'⟩ := hfit
    have HF : Hid (∀ w, Calls Tryz.prog 37 #[.int .i64 f, .int .i64 0, .int .u64 a, .int .u64 b] w fun e w' => e = .returned (.bool true) ∧ w = w') := fun w => l3Fits_yes h 0 a b (by omega) (by omega) a0 fa b0 fb' w
    have HUa := unp_det h a a0 fa hx
    have HUb := unp_det h b b0 fb' hy
    have HQ : ∀ (z : Opd) (t : Bool), t = decide (3 ≤ z.c) → Hid (∀ w, Calls Tryz.prog 42 #[.agg #[.int .i64 z.c, .int .i64 z.s, .int .i64 z.e, .int .u64 (((z.M : Nat) : Int))]] w fun e w' => e = .returned (.bool t) ∧ Gr w w') := fun z t ht w => l3Quiet_any _ _ _ _ t ht w
    have HNan : ∀ t : Bool, Hid (∀ w, Calls Tryz.prog 43 #[.int .i64 f, .bool t] w fun e w' => e = .returned (.agg #[.int .u64 nan, .int .i64 (if t then 1 else 0)]) ∧ Gr w w') := fun t w => l3Nan_any h t _ rfl w
    by_cases c1 : 3 ≤ x.c
    · rw [remO_nan p 0 x y (by omega)]
      by_cases c2 : x.c = 4
      · refine (sRem_nan1 f a b _ _ _ _ _ _ _ _ HF HUa HUb (HQ x true (by simp [c1])) (by simp [c2]) nan _ (HNan true) w).mono ?_
        rintro e w' ⟨rfl, hg⟩
        exact ⟨_, _, .inl (nan_pack _ true (by simp; omega) (by omega) (by omega)), rfl, hg⟩
      · refine (sRem_nan2 f a b _ _ _ _ _ _ _ _ HF HUa HUb (HQ x true (by simp [c1])) (by simp [c2]) (decide (y.c = 4)) (bq _ _) nan _ (HNan _) w).mono ?_
        rintro e w' ⟨rfl, hg⟩
        exact ⟨_, _, .inl (nan_pack _ _ (by rw [decide_eq_decide]; omega) (by omega) (by omega)), rfl, hg⟩
    · by_cases c2 : 3 ≤ y.c
      · rw [remO_nan p 0 x y (by omega)]
        refine (sRem_nan3 f a b _ _ _ _ _ _ _ _ HF HUa HUb (HQ x false (by simp; omega)) (HQ y true (by simp [c2])) (by simp; omega) (decide (y.c = 4)) (bq _ _) nan _ (HNan _) w).mono ?_
        rintro e w' ⟨rfl, hg⟩
        exact ⟨_, _, .inl (nan_pack _ _ (by rw [decide_eq_decide]; omega) (by omega) (by omega)), rfl, hg⟩
      · have hQa := HQ x false (by simp; omega)
        have hQb := HQ y false (by simp; omega)
        unfold remO
        rw [if_neg (show ¬ 3 ≤ max x.c y.c by omega)]
        by_cases cx2 : x.c = 2
        · rw [if_pos (.inl cx2)]
          refine (sRem_badx f a b _ _ _ _ _ _ _ _ HF HUa HUb hQa hQb cx2 nan 1 (fun w => l2Bad_fmt h w) w).mono ?_
          rintro e w' ⟨rfl, hg⟩
          exact ⟨_, _, .inl (bad_nan rfl), rfl, hg⟩
        · by_cases cy0 : y.c = 0
          · rw [if_pos (.inr cy0)]
            refine (sRem_bady f a b _ _ _ _ _ _ _ _ HF HUa HUb hQa hQb (by simp [cx2]) cy0 nan 1 (fun w => l2Bad_fmt h w) w).mono ?_
            rintro e w' ⟨rfl, hg⟩
            exact ⟨_, _, .inl (bad_nan rfl), rfl, hg⟩
          · rw [if_neg (show ¬ (x.c = 2 ∨ y.c = 0) by omega)]
            by_cases cx0 : x.c = 0
            · rw [if_pos (.inl cx0)]
              refine (sRem_zero f a b _ _ _ _ _ _ _ _ HF HUa HUb hQa hQb cx0 (by simp [cy0]) w).mono ?_
              rintro e w' ⟨rfl, hg⟩
              exact ⟨_, _, .inl (pack_self h fa hx (by omega)), rfl, hg⟩
            · have cx : x.c = 1 := by omega
              by_cases cy2 : y.c = 2
              · rw [if_pos (.inr cy2)]
                refine (sRem_inf f a b _ _ _ _ _ _ _ _ HF HUa HUb hQa hQb cx cy2 w).mono ?_
                rintro e w' ⟨rfl, hg⟩
                exact ⟨_, _, .inl (pack_self h fa hx (by omega)), rfl, hg⟩
              · have cy : y.c = 1 := by omega
                rw [if_neg (show ¬ (x.c = 0 ∨ y.c = 2) by omega)]
                have hB0 : 0 < y.M := (u1.fin cy).1
                have hd0 : 0 < remD x y := Nat.mul_pos hB0 (Nat.pow_pos (by decide))
                have HZ : ∀ (w : World), remM (remX x y) (remD x y) = 0 → Calls Tryz.prog 50 #[.int .i64 f, .int .i64 x.s] w fun e w' => ∃ z fl, PackD p (1 - mx) mx one inf sg nan 0 (if remM (remX x y) (remD x y) = 0 then (⟨0, x.s, 0, 0⟩ : Opd) else ⟨1, if remUp (remX x y) (remD x y) then 1 - x.s else x.s, min x.e y.e, remM (remX x y) (remD x y)⟩) z fl ∧ e = .returned (.agg #[.int .u64 z, .int .i64 fl]) ∧ Gr w w' := fun w hz => by
                  rw [if_pos hz]
                  refine (l3Zero_any h _ v1.s01 w).mono ?_
                  rintro e w' ⟨rfl, hg⟩
                  exact ⟨_, _, .inl (.inl ⟨rfl, rfl, rfl⟩), rfl, hg⟩
                have HR : ∀ (e : Int), e = min x.e y.e → ∀ (v : Value) (w : World), 0 < remM (remX x y) (remD x y) → BigN 1000 w v (remM (remX x y) (remD x y)) → Calls Tryz.prog 51 #[.int .i64 f, .int .i64 0, .agg #[.int .i64 (if remUp (remX x y) (remD x y) then 1 - x.s else x.s), v, .int .i64 e, .bool false]] w fun e w' => ∃ z fl, PackD p (1 - mx) mx one inf sg nan 0 (if remM (remX x y) (remD x y) = 0 then (⟨0, x.s, 0, 0⟩ : Opd) else ⟨1, if remUp (remX x y) (remD x y) then 1 - x.s else x.s, min x.e y.e, remM (remX x y) (remD x y)⟩) z fl ∧ e = .returned (.agg #[.int .u64 z, .int .i64 fl]) ∧ Gb w w' := fun e he v w hpos hB => by
                  rw [if_neg (show ¬ remM (remX x y) (remD x y) = 0 by omega), he]
                  refine (round_at h 0 (by omega) (by omega) ⟨1, if remUp (remX x y) (remD x y) then 1 - x.s else x.s, min x.e y.e, remM (remX x y) (remD x y)⟩ rfl (by dsimp only; split <;> omega) hpos (by dsimp only; omega) (by dsimp only; omega) 1000 (by omega) v w hB).mono ?_
                  rintro e w' ⟨z, fl, hp, he, hg⟩
                  exact ⟨z, fl, .inl hp, he, hg⟩
                by_cases hlt : y.e < x.e
                · exact sRem_num_hi f a b _ _ _ _ _ _ _ _ HF HUa HUb hQa hQb cx cy x.M y.M rfl rfl (by omega) (by omega) (by omega) (by omega) (by omega) (by omega) sa0 sa1 hlt (x.e - y.e).toNat (by rw [IntKind.wrap_i64]; omega) (by omega) (remX x y) (remD x y) (by unfold remX; rw [show min x.e y.e = y.e by omega]) (by unfold remD; rw [show (y.e - min x.e y.e).toNat = 0 by omega]) hd0 _ (HR y.e (by omega)) HZ w
                · exact sRem_num_lo f a b _ _ _ _ _ _ _ _ HF HUa HUb hQa hQb cx cy x.M y.M rfl rfl (by omega) (by omega) (by omega) (by omega) (by omega) (by omega) sa0 sa1 hlt (y.e - x.e).toNat (by rw [IntKind.wrap_i64]; omega) (by omega) (remX x y) (remD x y) (by unfold remX; rw [show (x.e - min x.e y.e).toNat = 0 by omega]) (by unfold remD; rw [show min x.e y.e = x.e by omega]) hd0 _ (HR x.e (by omega)) HZ w
  · refine (sRem_bad f a b (fun w => l3Fits_no f 0 a b a0 a1 b0 b1 (nofit_of h a1 b1 (by omega)) w) nan 1 (fun w => l2Bad_fmt h w) w).mono ?_
    rintro e w' ⟨rfl, hg⟩
    refine ⟨_, _, ?_, rfl, hg⟩
    have : max x.c y.c = 4 := by
      rcases (show 2 * sg ≤ a ∨ 2 * sg ≤ b by omega) with c | c
      · have := opd_wide h hx c; subst this; dsimp only at *; omega
      · have := opd_wide h hy c; subst this; dsimp only at *; omega
    rw [remO_nan p 0 x y (by omega)]
    exact .inl (bad_nan this)

theorem specRem_any (f a b : Int) (a0 : 0 ≤ a) (a1 : a < 18446744073709551616) (b0 : 0 ≤ b) (b1 : b < 18446744073709551616) (w : World) :
    Calls Tryz.prog 9 #[.int .i64 f, .int .u64 a, .int .u64 b] w fun e w' => ∃ Z fl, OpRD remO f 0 a b Z fl ∧ e = .returned (.agg #[.int .u64 Z, .int .i64 fl]) ∧ Gb w w' := by
  by_cases hf : f = 0 ∨ f = 1
  · obtain ⟨p, mx, one, inf, sg, nan, hF⟩ := fmt_of f hf
    obtain ⟨x, hx⟩ := opd_ex hF a a0 a1
    obtain ⟨y, hy⟩ := opd_ex hF b b0 b1
    refine (specRem_ok hF a b a0 a1 b0 b1 hx hy w).mono ?_
    rintro e w' ⟨Z, fl, hp, rfl, hg⟩
    exact ⟨_, _, .inl ⟨p, mx, one, inf, sg, nan, x, y, hF, ⟨by omega, by omega⟩, hx, hy, hp⟩, rfl, hg⟩
  · refine (sRem_bad f a b (fun w => l3Fits_no f 0 a b a0 a1 b0 b1 (.inr (.inl hf)) w) _ 1 (fun w => l2Bad_no f hf w) w).mono ?_
    rintro e w' ⟨rfl, hg⟩
    exact ⟨_, _, .inr (.inr ⟨hf, rfl, rfl⟩), rfl, hg⟩

theorem rem_same (f a b : Int) (a0 : 0 ≤ a) (a1 : a < 18446744073709551616) (b0 : 0 ≤ b) (b1 : b < 18446744073709551616) :
    ∃ Z fl : Int, OpRD remO f 0 a b Z fl ∧ (∀ w, Calls Tryz.prog 9 #[.int .i64 f, .int .u64 a, .int .u64 b] w fun e w' => e = .returned (.agg #[.int .u64 Z, .int .i64 fl]) ∧ Gb w w') ∧
      (∀ w, Fm w → Calls Tryz.prog 8 #[.int .i64 f, .int .u64 a, .int .u64 b] w fun e w' => e = .returned (.agg #[.int .u64 Z, .int .i64 fl]) ∧ Gr w w') :=
  both_ofD remO 9 8 _ remO_c f 0 a b a0 a1 b0 b1 (specRem_any f a b a0 a1 b0 b1) (implRem_any f a b a0 a1 b0 b1)

end Go.Proofs.YtkflpogmhailhaaGreatDoor
