/- Div, of both sides. -/
import Derived.Test.YtkflpogmhailhaaGreatDoorH4
import Derived.Test.YtkflpogmhailhaaGreatDoorHC
import Derived.Test.YtkflpogmhailhaaGreatDoorH5
set_option linter.unusedVariables false
set_option linter.unusedSimpArgs false
namespace Go.Proofs.YtkflpogmhailhaaGreatDoor
open Go.RowKit

def quoM (p : Nat) (A B : Nat) : Nat := 2 * (A * 2 ^ (p + 4) / B) + oneIf (decide (A * 2 ^ (p + 4) % B ≠ 0))
def divO (p mode : Int) (x y : Opd) : Opd :=
  if 3 ≤ max x.c y.c then ⟨max x.c y.c, 0, 0, 0⟩
  else if x.c = y.c ∧ x.c ≠ 1 then ⟨4, 0, 0, 0⟩
  else if x.c = 2 then ⟨2, mulS x.s y.s, 0, 0⟩
  else if x.c = 1 ∧ y.c = 0 then ⟨5, mulS x.s y.s, 0, 0⟩
  else if x.c = 1 ∧ y.c = 1 then ⟨1, mulS x.s y.s, x.e - y.e - (p + 4) - 1, quoM p.toNat x.M y.M⟩
  else ⟨0, mulS x.s y.s, 0, 0⟩
theorem divO_nan (p mode : Int) (x y : Opd) (h : 3 ≤ max x.c y.c) : divO p mode x y = ⟨max x.c y.c, 0, 0, 0⟩ := by unfold divO; rw [if_pos h]
theorem divO_c (p mode : Int) (x y : Opd) (hx : VO x) (hy : VO y) : 0 ≤ (divO p mode x y).c ∧ (divO p mode x y).c ≤ 5 := by
  have := hx.c0
  have := hx.c4
  have := hy.c0
  have := hy.c4
  unfold divO
  split
  · dsimp only; omega
  · split
    · exact ⟨by dsimp only; omega, by dsimp only; omega⟩
    · split
      · exact ⟨by dsimp only; omega, by dsimp only; omega⟩
      · split
        · exact ⟨by dsimp only; omega, by dsimp only; omega⟩
        · split
          · exact ⟨by dsimp only; omega, by dsimp only; omega⟩
          · exact ⟨by dsimp only; omega, by dsimp only; omega⟩
theorem mulS_01 (s t : Int) : mulS s t = 0 ∨ mulS s t = 1 := by unfold mulS; split <;> simp
theorem mulS_mod (s t : Int) (hs : s = 0 ∨ s = 1) (ht : t = 0 ∨ t = 1) : (s + t).tmod 2 = mulS s t ∧ (s + t) % 2 = mulS s t := by
  rcases hs with rfl | rfl <;> rcases ht with rfl | rfl <;> decide

/-- Enough digits, and the rest: the same number. -/
theorem quo_round {p : Int} {Pn A B : Nat} (hP : (Pn : Int) = p) (hP1 : 1 ≤ Pn) (hA : 2 ^ (Pn - 1) ≤ A) (hB : B < 2 ^ Pn) (hB0 : 0 < B) (e : Int) :
    0 < A * 2 ^ (Pn + 2) / B ∧ p + 2 ≤ (nb (A * 2 ^ (Pn + 2) / B) : Int) ∧ 0 < A * 2 ^ (Pn + 4) / B ∧ p + 2 ≤ (nb (A * 2 ^ (Pn + 4) / B) : Int) ∧
    (∀ s mn mx one inf mode z fl, RoundIs p mn mx one inf mode s (A * 2 ^ (Pn + 2) / B) (e - (p + 2)) (decide (A * 2 ^ (Pn + 2) % B ≠ 0)) z fl ↔ RoundIs p mn mx one inf mode s (quoM Pn A B) (e - (p + 4) - 1) false z fl) ∧
    (∀ s mn mx one inf mode z fl, RoundIs p mn mx one inf mode s (A * 2 ^ (Pn + 4) / B) (e - (p + 4)) (decide (A * 2 ^ (Pn + 4) % B ≠ 0)) z fl ↔ RoundIs p mn mx one inf mode s (quoM Pn A B) (e - (p + 4) - 1) false z fl) := by
  have h1 : 2 ^ (Pn + 1) * B ≤ A * 2 ^ (Pn + 2) := by
    have a1 : 2 ^ (Pn + 1) * B ≤ 2 ^ (Pn + 1) * 2 ^ Pn := Nat.mul_le_mul_left _ (Nat.le_of_lt hB)
    have a2 : 2 ^ (Pn - 1) * 2 ^ (Pn + 2) ≤ A * 2 ^ (Pn + 2) := Nat.mul_le_mul_right _ hA
    rw [← Nat.pow_add] at a1 a2
    rw [show Pn - 1 + (Pn + 2) = Pn + 1 + Pn by omega] at a2
    omega
  have h2 : 2 ^ (Pn + 1) * B ≤ A * 2 ^ (Pn + 4) := Nat.le_trans h1 (Nat.mul_le_mul_left _ (Nat.pow_le_pow_right (by decide) (by omega)))
  have n1 := quo_big A B (Pn + 2) (Pn + 1) hB0 h1
  have n2 := quo_big A B (Pn + 4) (Pn + 1) hB0 h2
  have p1 : 0 < A * 2 ^ (Pn + 2) / B := by
    rcases Nat.eq_zero_or_pos (A * 2 ^ (Pn + 2) / B) with c | c
    · rw [c, nb_zero] at n1; omega
    · exact c
  have p2 : 0 < A * 2 ^ (Pn + 4) / B := by
    rcases Nat.eq_zero_or_pos (A * 2 ^ (Pn + 4) / B) with c | c
    · rw [c, nb_zero] at n2; omega
    · exact c
  obtain ⟨c1, c2⟩ := quo_cut A B (Pn + 2) 2 hB0
  refine ⟨p1, by omega, p2, by omega, fun s mn mx one inf mode z fl => ?_, fun s mn mx one inf mode z fl => ?_⟩
  · have h := RoundIs.cut (p := p) (mn := mn) (mx := mx) (one := one) (inf := inf) (mode := mode) (sign := s) (m := A * 2 ^ (Pn + 2 + 2) / B) (e := e - (p + 4)) (z := z) (fl := fl) 2 (decide (A * 2 ^ (Pn + 2 + 2) % B ≠ 0)) (by rw [c1]; exact p1) (by omega) (by rw [c1]; omega) (decide (A * 2 ^ (Pn + 2) % B ≠ 0)) c2.symm
    rw [c1, show e - (p + 4) + ((2 : Nat) : Int) = e - (p + 2) by omega] at h
    exact h
  · exact RoundIs.rest _ p2 (by omega) (by omega)

theorem quotient_any {f p mx one inf sg nan : Int} (hF : IsFmt f p mx one inf sg nan) (mn md : Int) (k : Nat) {a b : Int} {x y : Opd} (hx : OpdIs p mx one inf sg nan a x) (hy : OpdIs p mx one inf sg nan b y) (h3 : max x.c y.c < 3) (w : World) :
    Calls Tryz.prog 80 #[.agg #[.int .i64 p, .int .i64 mn, .int .i64 mx, .int .i64 md, .func (.func k) #[] #[]], .agg #[.int .i64 x.s, .int .i64 x.e, .int .i64 x.c, .int .u64 (((x.M / 18446744073709551616 : Nat) : Int)), .int .u64 (((x.M % 18446744073709551616 : Nat) : Int)), .bool false, .int .i64 0], .agg #[.int .i64 y.s, .int .i64 y.e, .int .i64 y.c, .int .u64 (((y.M / 18446744073709551616 : Nat) : Int)), .int .u64 (((y.M % 18446744073709551616 : Nat) : Int)), .bool false, .int .i64 0]] w fun e w' => ∃ os oe oc oh ol ot of, SameP p (divO p md x y) os oe oc oh ol ot of ∧ e = .returned (.agg #[.int .i64 os, .int .i64 oe, .int .i64 oc, .int .u64 oh, .int .u64 ol, .bool ot, .int .i64 of]) ∧ Gr w w' := by
  obtain ⟨v1, v2, v3, v4, v5, v6⟩ := opd_vo hF hx
  obtain ⟨u1, u2, u3, u4, u5, u6⟩ := opd_vo hF hy
  have hpb : 24 ≤ p ∧ p ≤ 53 := by have := hF.bounds; omega
  have HT : Hid (∀ w, Calls Tryz.prog 115 #[.agg #[.int .i64 x.s, .int .i64 x.e], .agg #[.int .i64 y.s, .int .i64 y.e]] w fun e w' => e = .returned (.agg #[.int .i64 (mulS x.s y.s), .int .i64 (x.e - y.e)]) ∧ Gr w w') := fun w => through_any x.s x.e y.s y.e v1.s01 u1.s01 (by omega) (by omega) (by omega) (by omega) w
  have hms := mulS_01 x.s y.s
  have fx : x.c = 1 → _ := opd_fin hF hx
  have fy : y.c = 1 → _ := opd_fin hF hy
  have c0 := v1.c0
  have d0 := u1.c0
  obtain ⟨cx, sx, ex, Mx⟩ := x
  obtain ⟨cy, sy, ey, My⟩ := y
  dsimp only at *
  rcases (show cx = 0 ∨ cx = 1 ∨ cx = 2 by omega) with rfl | rfl | rfl <;> rcases (show cy = 0 ∨ cy = 1 ∨ cy = 2 by omega) with rfl | rfl | rfl
  · rw [show divO p md ⟨0, sx, ex, Mx⟩ ⟨0, sy, ey, My⟩ = ⟨4, 0, 0, 0⟩ from by unfold divO; dsimp only; rw [if_neg (by decide), if_pos (by decide)]]
    refine (quotient_00 p mn mx md k _ _ _ _ _ _ _ _ _ _ _ _ HT w).mono ?_
    rintro r w' ⟨rfl, hg⟩
    exact ⟨_, _, _, _, _, _, _, SameP.nan p 4 (by omega) (by omega), rfl, hg⟩
  · rw [show divO p md ⟨0, sx, ex, Mx⟩ ⟨1, sy, ey, My⟩ = ⟨0, mulS sx sy, 0, 0⟩ from by unfold divO; dsimp only; rw [if_neg (by decide), if_neg (by decide), if_neg (by decide), if_neg (by decide), if_neg (by decide)]]
    refine (quotient_01 p mn mx md k _ _ _ _ _ _ _ _ _ _ _ _ HT w).mono ?_
    rintro r w' ⟨rfl, hg⟩
    exact ⟨_, _, _, _, _, _, _, SameP.flat p _ _ _ 0 _ rfl (by omega) (by omega) (by omega) (fun _ => ⟨rfl, hms⟩), rfl, hg⟩
  · rw [show divO p md ⟨0, sx, ex, Mx⟩ ⟨2, sy, ey, My⟩ = ⟨0, mulS sx sy, 0, 0⟩ from by unfold divO; dsimp only; rw [if_neg (by decide), if_neg (by decide), if_neg (by decide), if_neg (by decide), if_neg (by decide)]]
    refine (quotient_02 p mn mx md k _ _ _ _ _ _ _ _ _ _ _ _ HT w).mono ?_
    rintro r w' ⟨rfl, hg⟩
    exact ⟨_, _, _, _, _, _, _, SameP.flat p _ _ _ 0 _ rfl (by omega) (by omega) (by omega) (fun _ => ⟨rfl, hms⟩), rfl, hg⟩
  · rw [show divO p md ⟨1, sx, ex, Mx⟩ ⟨0, sy, ey, My⟩ = ⟨5, mulS sx sy, 0, 0⟩ from by unfold divO; dsimp only; rw [if_neg (by decide), if_neg (by decide), if_neg (by decide), if_pos (by decide)]]
    refine (quotient_10 p mn mx md k _ _ _ _ _ _ _ _ _ _ _ _ HT w).mono ?_
    rintro r w' ⟨rfl, hg⟩
    exact ⟨_, _, _, _, _, _, _, .inr (.inl ⟨rfl, rfl, rfl, hms, rfl⟩), rfl, hg⟩
  · rw [show divO p md ⟨1, sx, ex, Mx⟩ ⟨1, sy, ey, My⟩ = ⟨1, mulS sx sy, ex - ey - (p + 4) - 1, quoM p.toNat Mx My⟩ from by unfold divO; dsimp only; rw [if_neg (by decide), if_neg (by decide), if_neg (by decide), if_neg (by decide), if_pos (by decide)]]
    obtain ⟨Pn, hP, hP1, hP53, hA, hA2⟩ := fx rfl
    obtain ⟨Pn', hP', _, _, hB, hB2⟩ := fy rfl
    obtain rfl : Pn = Pn' := by omega
    have hB0 : 0 < My := Nat.lt_of_lt_of_le (Nat.pow_pos (by decide)) hB
    obtain ⟨r1, r2, r3, r4, r5, r6⟩ := quo_round hP hP1 hA hB2 hB0 (ex - ey)
    have hAB : Mx < 2 * My := by
      have : 2 ^ Pn = 2 * 2 ^ (Pn - 1) := by rw [← Nat.pow_succ', show (Pn - 1).succ = Pn by omega]
      omega
    obtain ⟨d1, d2⟩ := quo_digits Mx My (Pn + 2) hAB (by omega)
    have hC : Mx * 2 ^ (Pn + 2) / My < 18446744073709551616 := by
      have h1 : Mx * 2 ^ (Pn + 2) < My * 2 ^ (Pn + 3) := by
        have : 2 ^ (Pn + 3) = 2 * 2 ^ (Pn + 2) := by rw [← Nat.pow_succ']
        rw [this, ← Nat.mul_assoc, Nat.mul_comm My 2]
        exact Nat.mul_lt_mul_of_pos_right hAB (Nat.pow_pos (by decide))
      have h2 : Mx * 2 ^ (Pn + 2) / My < 2 ^ (Pn + 3) := by rw [Nat.div_lt_iff_lt_mul hB0, Nat.mul_comm (2 ^ (Pn + 3))]; exact h1
      have h3 : 2 ^ (Pn + 3) ≤ 2 ^ 56 := Nat.pow_le_pow_right (by decide) (by omega)
      have h4 : 2 ^ 56 < 18446744073709551616 := by decide
      omega
    rw [Nat.mod_eq_of_lt hC] at d2
    rw [show p.toNat = Pn by omega]
    refine (quotient_11 p mn mx md k sx ex _ _ sy ey _ _ _ _ _ _ HT Mx My (by rw [Nat.mod_eq_of_lt (by omega)]) (by rw [Nat.mod_eq_of_lt (by omega)]) (by omega) (by omega) (mulS sx sy) (ex - ey - (p + 2)) 1 0 _ _ (fun w v hd => cut_any p mn mx md k (mulS sx sy) (ex - ey) (by omega) (by omega) (by omega) (by omega) (by omega) hd (Pn + 3) (by omega)) w).mono ?_
    rintro r w' ⟨rfl, hg⟩
    refine ⟨_, _, _, _, _, _, _, .inl ⟨Mx * 2 ^ (Pn + 2) / My, ?_, ?_, rfl, rfl, (show (0 : Int) ≤ 1 by omega), (show (1 : Int) ≤ 4 by omega), fun _ => ⟨rfl, hms⟩, fun _ => ⟨r1, by omega, fun _ => r2, by omega, by omega, fun mn mx one inf mode z fl => ?_⟩⟩, rfl, hg⟩
    · rw [Nat.div_eq_of_lt hC]; rfl
    · rw [Nat.mod_eq_of_lt hC, show Pn + 3 = Pn + 2 + 1 from rfl, d2]
    · rw [show Pn + 3 - 1 = Pn + 2 from rfl, d1]
      exact r5 _ _ _ _ _ _ _ _
  · rw [show divO p md ⟨1, sx, ex, Mx⟩ ⟨2, sy, ey, My⟩ = ⟨0, mulS sx sy, 0, 0⟩ from by unfold divO; dsimp only; rw [if_neg (by decide), if_neg (by decide), if_neg (by decide), if_neg (by decide), if_neg (by decide)]]
    refine (quotient_12 p mn mx md k _ _ _ _ _ _ _ _ _ _ _ _ HT w).mono ?_
    rintro r w' ⟨rfl, hg⟩
    exact ⟨_, _, _, _, _, _, _, SameP.flat p _ _ _ 0 _ rfl (by omega) (by omega) (by omega) (fun _ => ⟨rfl, hms⟩), rfl, hg⟩
  · rw [show divO p md ⟨2, sx, ex, Mx⟩ ⟨0, sy, ey, My⟩ = ⟨2, mulS sx sy, 0, 0⟩ from by unfold divO; dsimp only; rw [if_neg (by decide), if_neg (by decide), if_pos (by decide)]]
    refine (quotient_20 p mn mx md k _ _ _ _ _ _ _ _ _ _ _ _ HT w).mono ?_
    rintro r w' ⟨rfl, hg⟩
    exact ⟨_, _, _, _, _, _, _, SameP.flat p _ _ _ 2 _ rfl (by omega) (by omega) (by omega) (fun _ => ⟨rfl, hms⟩), rfl, hg⟩
  · rw [show divO p md ⟨2, sx, ex, Mx⟩ ⟨1, sy, ey, My⟩ = ⟨2, mulS sx sy, 0, 0⟩ from by unfold divO; dsimp only; rw [if_neg (by decide), if_neg (by decide), if_pos (by decide)]]
    refine (quotient_21 p mn mx md k _ _ _ _ _ _ _ _ _ _ _ _ HT w).mono ?_
    rintro r w' ⟨rfl, hg⟩
    exact ⟨_, _, _, _, _, _, _, SameP.flat p _ _ _ 2 _ rfl (by omega) (by omega) (by omega) (fun _ => ⟨rfl, hms⟩), rfl, hg⟩
  · rw [show divO p md ⟨2, sx, ex, Mx⟩ ⟨2, sy, ey, My⟩ = ⟨4, 0, 0, 0⟩ from by unfold divO; dsimp only; rw [if_neg (by decide), if_pos (by decide)]]
    refine (quotient_22 p mn mx md k _ _ _ _ _ _ _ _ _ _ _ _ HT w).mono ?_
    rintro r w' ⟨rfl, hg⟩
    exact ⟨_, _, _, _, _, _, _, SameP.nan p 4 (by omega) (by omega), rfl, hg⟩

theorem implDiv_any (f mode a b : Int) (a0 : 0 ≤ a) (a1 : a < 18446744073709551616) (b0 : 0 ≤ b) (b1 : b < 18446744073709551616) (w : World) (hw : Fm w) :
    Calls Tryz.prog 30 #[.int .i64 f, .int .i64 mode, .int .u64 a, .int .u64 b] w fun e w' => ∃ Z fl, OpRD divO f mode a b Z fl ∧ e = .returned (.agg #[.int .u64 Z, .int .i64 fl]) ∧ Gr w w' := by
  refine implDiv_of f mode a b (OpRD divO f mode a b) (fun w' hg => ?_)
  have hw' := hw.gr hg
  by_cases hf : f = 0 ∨ f = 1
  · obtain ⟨p, mx, one, inf, sg, nan, hF⟩ := fmt_of f hf
    obtain ⟨mn, fb, sp, hM, hmn, hfb⟩ := hF.m
    by_cases hm : 0 ≤ mode ∧ mode ≤ 4
    · obtain ⟨k, hk⟩ := rule_of mode hm.1 hm.2
      obtain ⟨x, hx, HA⟩ := opd_is hF hM a a0 a1
      obtain ⟨y, hy, HB⟩ := opd_is hF hM b b0 b1
      obtain ⟨v1, v2, v3, v4, v5, v6⟩ := opd_vo hF hx
      obtain ⟨u1, u2, u3, u4, u5, u6⟩ := opd_vo hF hy
      refine (calc_okf p mn mx mode f k 80 a b _ _ _ _ _ _ _ _ _ _ _ _ (fun w'' hg' => settingOf_yes hF hM mode k (fun w => ruleOf_yes mode k hk w) (hw'.gr hg')) HA HB (SameP p (divO p mode x y)) (fun w => ?_) (PackD p mn mx one inf sg nan mode (divO p mode x y)) (fun os oe oc oh ol ot of w hq => pack_anyD hM mode k hk _ os oe oc oh ol ot of hq w)).mono ?_
      · by_cases h3 : 3 ≤ max x.c y.c
        · refine (combine_nan p mn mx mode k _ _ _ _ _ _ _ _ _ _ _ _ 80 _ rfl h3 w).mono ?_
          rintro e w' ⟨rfl, hg⟩
          rw [divO_nan p mode x y h3]
          exact ⟨_, _, _, _, _, _, _, SameP.nan p _ h3 (by have := v1.c4; have := u1.c4; omega), rfl, hg⟩
        · exact combine_quotient p mn mx mode k _ _ _ _ _ _ _ _ _ _ _ _ _ rfl (by omega) _ (fun w => quotient_any hF mn mode k hx hy (by omega) w) w
      · rintro e w'' ⟨Z, fl, hp, rfl, hg'⟩
        rw [hmn] at hp
        exact ⟨_, _, .inl ⟨p, mx, one, inf, sg, nan, x, y, hF, hm, hx, hy, hp⟩, rfl, hg'⟩
    · refine (calc_no p mn mx mode nan f mode a b (fun w'' hg' => settingOf_bad hF hM mode (fun w => ruleOf_no mode (by omega) w) (hw'.gr hg')) (fun w => invalid_any hM w) 80).mono ?_
      rintro e w'' ⟨rfl, hg'⟩
      exact ⟨_, _, .inr (.inl ⟨p, mx, one, inf, sg, nan, hF, by omega, rfl, rfl⟩), rfl, hg'⟩
  · refine (calc_no _ _ _ _ _ f mode a b (fun w'' hg' => settingOf_none f mode hf (hw'.gr hg')) (fun w => invalid_any m64 w) 80).mono ?_
    rintro e w'' ⟨rfl, hg'⟩
    exact ⟨_, _, .inr (.inr ⟨hf, rfl, rfl⟩), rfl, hg'⟩
end Go.Proofs.YtkflpogmhailhaaGreatDoor

/- spec.Div; both sides. -/
set_option linter.unusedVariables false
set_option linter.unusedSimpArgs false
namespace Go.Proofs.YtkflpogmhailhaaGreatDoor
open Go.RowKit

theorem specDiv_ok {f p mx one inf sg nan : Int} (h : IsFmt f p mx one inf sg nan) (mode a b : Int) (hm : 0 ≤ mode ∧ mode ≤ 4) (a0 : 0 ≤ a) (a1 : a < 18446744073709551616) (b0 : 0 ≤ b) (b1 : b < 18446744073709551616) {x y : Opd} (hx : OpdIs p mx one inf sg nan a x) (hy : OpdIs p mx one inf sg nan b y) (w : World) :
    Calls Tryz.prog 29 #[.int .i64 f, .int .i64 mode, .int .u64 a, .int .u64 b] w fun e w' => ∃ Z fl, PackD p (1 - mx) mx one inf sg nan mode (divO p mode x y) Z fl ∧ e = .returned (.agg #[.int .u64 Z, .int .i64 fl]) ∧ Gb w w' := by
  obtain ⟨v1, v2, v3, v4, v5, v6⟩ := opd_vo h hx
  obtain ⟨u1, u2, u3, u4, u5, u6⟩ := opd_vo h hy
  have xc0 := v1.c0
  have xc4 := v1.c4
  have yc0 := u1.c0
  have yc4 := u1.c4
  have hb := h.bounds
  have hms := mulS_01 x.s y.s
  obtain ⟨hm1, hm2⟩ := mulS_mod x.s y.s v1.s01 u1.s01
  have sa0 : 0 ≤ x.s := by have := v1.s01; omega
  have sa1 : x.s ≤ 1 := by have := v1.s01; omega
  have sb0 : 0 ≤ y.s := by have := u1.s01; omega
  have sb1 : y.s ≤ 1 := by have := u1.s01; omega
  have fx : x.c = 1 → _ := opd_fin h hx
  have fy : y.c = 1 → _ := opd_fin h hy
  by_cases hfit : a < 2 * sg ∧ b < 2 * sg
  · obtain ⟨fa, fb'⟩ := hfit
    have HF : Hid (∀ w, Calls Tryz.prog 37 #[.int .i64 f, .int .i64 mode, .int .u64 a, .int .u64 b] w fun e w' => e = .returned (.bool true) ∧ w = w') := fun w => l3Fits_yes h mode a b hm.1 hm.2 a0 fa b0 fb' w
    have HUa := unp_det h a a0 fa hx
    have HUb := unp_det h b b0 fb' hy
    have HQ : ∀ (z : Opd) (t : Bool), t = decide (3 ≤ z.c) → Hid (∀ w, Calls Tryz.prog 42 #[.agg #[.int .i64 z.c, .int .i64 z.s, .int .i64 z.e, .int .u64 (((z.M : Nat) : Int))]] w fun e w' => e = .returned (.bool t) ∧ Gr w w') := fun z t ht w => l3Quiet_any _ _ _ _ t ht w
    have HNan : ∀ t : Bool, Hid (∀ w, Calls Tryz.prog 43 #[.int .i64 f, .bool t] w fun e w' => e = .returned (.agg #[.int .u64 nan, .int .i64 (if t then 1 else 0)]) ∧ Gr w w') := fun t w => l3Nan_any h t _ rfl w
    by_cases c1 : 3 ≤ x.c
    · rw [divO_nan p mode x y (by omega)]
      by_cases c2 : x.c = 4
      · refine (sDiv_nan1 f mode a b _ _ _ _ _ _ _ _ HF HUa HUb (HQ x true (by simp [c1])) (by simp [c2]) nan _ (HNan true) w).mono ?_
        rintro e w' ⟨rfl, hg⟩
        exact ⟨_, _, .inl (nan_pack _ true (by simp; omega) (by omega) (by omega)), rfl, hg⟩
      · refine (sDiv_nan2 f mode a b _ _ _ _ _ _ _ _ HF HUa HUb (HQ x true (by simp [c1])) (by simp [c2]) (decide (y.c = 4)) (bq _ _) nan _ (HNan _) w).mono ?_
        rintro e w' ⟨rfl, hg⟩
        exact ⟨_, _, .inl (nan_pack _ _ (by rw [decide_eq_decide]; omega) (by omega) (by omega)), rfl, hg⟩
    · by_cases c2 : 3 ≤ y.c
      · rw [divO_nan p mode x y (by omega)]
        refine (sDiv_nan3 f mode a b _ _ _ _ _ _ _ _ HF HUa HUb (HQ x false (by simp; omega)) (HQ y true (by simp [c2])) (by simp; omega) (decide (y.c = 4)) (bq _ _) nan _ (HNan _) w).mono ?_
        rintro e w' ⟨rfl, hg⟩
        exact ⟨_, _, .inl (nan_pack _ _ (by rw [decide_eq_decide]; omega) (by omega) (by omega)), rfl, hg⟩
      · have hQa := HQ x false (by simp; omega)
        have hQb := HQ y false (by simp; omega)
        unfold divO
        rw [if_neg (show ¬ 3 ≤ max x.c y.c by omega)]
        rcases (show x.c = 0 ∨ x.c = 1 ∨ x.c = 2 by omega) with cx | cx | cx <;> rcases (show y.c = 0 ∨ y.c = 1 ∨ y.c = 2 by omega) with cy | cy | cy
        · rw [if_pos (show x.c = y.c ∧ x.c ≠ 1 by omega)]
          refine (sDiv_00 f mode a b _ _ _ _ _ _ _ _ HF HUa HUb hQa hQb cx cy nan 1 (fun w => l2Bad_fmt h w) w).mono ?_
          rintro e w' ⟨rfl, hg⟩
          exact ⟨_, _, .inl (bad_nan rfl), rfl, hg⟩
        · rw [if_neg (show ¬ (x.c = y.c ∧ x.c ≠ 1) by omega), if_neg (show ¬ x.c = 2 by omega), if_neg (show ¬ (x.c = 1 ∧ y.c = 0) by omega), if_neg (show ¬ (x.c = 1 ∧ y.c = 1) by omega)]
          refine (sDiv_01 f mode a b _ _ _ _ _ _ _ _ HF HUa HUb hQa hQb cx cy _ sa0 sa1 sb0 sb1 hm1 hm2 (sw (mulS x.s y.s) sg 0) 0 (fun w => l3Zero_any h _ hms w) w).mono ?_
          rintro e w' ⟨rfl, hg⟩
          exact ⟨_, _, .inl (.inl ⟨rfl, rfl, rfl⟩), rfl, hg⟩
        · rw [if_neg (show ¬ (x.c = y.c ∧ x.c ≠ 1) by omega), if_neg (show ¬ x.c = 2 by omega), if_neg (show ¬ (x.c = 1 ∧ y.c = 0) by omega), if_neg (show ¬ (x.c = 1 ∧ y.c = 1) by omega)]
          refine (sDiv_02 f mode a b _ _ _ _ _ _ _ _ HF HUa HUb hQa hQb cx cy _ sa0 sa1 sb0 sb1 hm1 hm2 (sw (mulS x.s y.s) sg 0) 0 (fun w => l3Zero_any h _ hms w) w).mono ?_
          rintro e w' ⟨rfl, hg⟩
          exact ⟨_, _, .inl (.inl ⟨rfl, rfl, rfl⟩), rfl, hg⟩
        · rw [if_neg (show ¬ (x.c = y.c ∧ x.c ≠ 1) by omega), if_neg (show ¬ x.c = 2 by omega), if_pos ⟨cx, cy⟩]
          refine (sDiv_10 f mode a b _ _ _ _ _ _ _ _ HF HUa HUb hQa hQb cx cy _ sa0 sa1 sb0 sb1 hm1 hm2 inf (sw (mulS x.s y.s) sg inf) (fun w => l2Inf_any h w) (fun w => l2Put_any h _ _ _ ?_ (by omega) (by omega) w) w).mono ?_
          · rcases hms with c | c
            · exact .inl ⟨c, by rw [c]; simp [sw]⟩
            · exact .inr ⟨c, by rw [c]; simp [sw]⟩
          · rintro e w' ⟨rfl, hg⟩
            exact ⟨_, _, .inr ⟨rfl, rfl, rfl⟩, rfl, hg⟩
        · rw [if_neg (show ¬ (x.c = y.c ∧ x.c ≠ 1) by omega), if_neg (show ¬ x.c = 2 by omega), if_neg (show ¬ (x.c = 1 ∧ y.c = 0) by omega), if_pos ⟨cx, cy⟩]
          obtain ⟨Pn, hP, hP1, hP53, hA, hA2⟩ := fx cx
          obtain ⟨Pn', hP', _, _, hB, hB2⟩ := fy cy
          obtain rfl : Pn = Pn' := by omega
          have hB0 : 0 < y.M := Nat.lt_of_lt_of_le (Nat.pow_pos (by decide)) hB
          obtain ⟨r1, r2, r3, r4, r5, r6⟩ := quo_round hP hP1 hA hB2 hB0 (x.e - y.e)
          rw [show p.toNat = Pn by omega]
          have e4 : x.e - y.e - (((Pn + 4 : Nat)) : Int) = x.e - y.e - (p + 4) := by omega
          refine sDiv_11 f mode a b _ _ _ _ _ _ _ _ HF HUa HUb hQa hQb cx cy _ sa0 sa1 sb0 sb1 hm1 hm2 (x.e - y.e - (p + 4)) (decide (x.M * 2 ^ (Pn + 4) % y.M ≠ 0)) (x.M * 2 ^ (Pn + 4) / y.M) (fun w => ?_) _ (fun v w hB => round_atD h mode hm.1 hm.2 ⟨1, mulS x.s y.s, x.e - y.e - (p + 4) - 1, quoM Pn x.M y.M⟩ rfl hms _ r3 (x.e - y.e - (p + 4)) (by omega) (by omega) _ r4 (fun mn mx one inf mode z fl => r6 _ _ _ _ _ _ _ _) 8 (by omega) v w hB) w
          have hq := l4Quotient_any h 1 x.s x.e 1 y.s y.e x.M y.M (by omega) (by omega) hB0 sa0 sa1 sb0 sb1 _ hm1 hm2 (by omega) (by omega) (by omega) (by omega) (Pn + 4) (by omega) w
          rw [e4] at hq
          exact hq
        · rw [if_neg (show ¬ (x.c = y.c ∧ x.c ≠ 1) by omega), if_neg (show ¬ x.c = 2 by omega), if_neg (show ¬ (x.c = 1 ∧ y.c = 0) by omega), if_neg (show ¬ (x.c = 1 ∧ y.c = 1) by omega)]
          refine (sDiv_12 f mode a b _ _ _ _ _ _ _ _ HF HUa HUb hQa hQb cx cy _ sa0 sa1 sb0 sb1 hm1 hm2 (sw (mulS x.s y.s) sg 0) 0 (fun w => l3Zero_any h _ hms w) w).mono ?_
          rintro e w' ⟨rfl, hg⟩
          exact ⟨_, _, .inl (.inl ⟨rfl, rfl, rfl⟩), rfl, hg⟩
        · rw [if_neg (show ¬ (x.c = y.c ∧ x.c ≠ 1) by omega), if_pos cx]
          refine (sDiv_20 f mode a b _ _ _ _ _ _ _ _ HF HUa HUb hQa hQb cx cy _ sa0 sa1 sb0 sb1 hm1 hm2 (sw (mulS x.s y.s) sg inf) 0 (fun w => l3Infinity_any h _ hms w) w).mono ?_
          rintro e w' ⟨rfl, hg⟩
          exact ⟨_, _, .inl (.inr (.inr (.inl ⟨rfl, rfl, rfl⟩))), rfl, hg⟩
        · rw [if_neg (show ¬ (x.c = y.c ∧ x.c ≠ 1) by omega), if_pos cx]
          refine (sDiv_21 f mode a b _ _ _ _ _ _ _ _ HF HUa HUb hQa hQb cx cy _ sa0 sa1 sb0 sb1 hm1 hm2 (sw (mulS x.s y.s) sg inf) 0 (fun w => l3Infinity_any h _ hms w) w).mono ?_
          rintro e w' ⟨rfl, hg⟩
          exact ⟨_, _, .inl (.inr (.inr (.inl ⟨rfl, rfl, rfl⟩))), rfl, hg⟩
        · rw [if_pos (show x.c = y.c ∧ x.c ≠ 1 by omega)]
          refine (sDiv_22 f mode a b _ _ _ _ _ _ _ _ HF HUa HUb hQa hQb cx cy nan 1 (fun w => l2Bad_fmt h w) w).mono ?_
          rintro e w' ⟨rfl, hg⟩
          exact ⟨_, _, .inl (bad_nan rfl), rfl, hg⟩
  · refine (sDiv_bad f mode a b (fun w => l3Fits_no f mode a b a0 a1 b0 b1 (nofit_of h a1 b1 (by omega)) w) nan 1 (fun w => l2Bad_fmt h w) w).mono ?_
    rintro e w' ⟨rfl, hg⟩
    refine ⟨_, _, ?_, rfl, hg⟩
    have : max x.c y.c = 4 := by
      rcases (show 2 * sg ≤ a ∨ 2 * sg ≤ b by omega) with c | c
      · have := opd_wide h hx c; subst this; dsimp only at *; omega
      · have := opd_wide h hy c; subst this; dsimp only at *; omega
    rw [divO_nan p mode x y (by omega)]
    exact .inl (bad_nan this)

theorem specDiv_any (f mode a b : Int) (a0 : 0 ≤ a) (a1 : a < 18446744073709551616) (b0 : 0 ≤ b) (b1 : b < 18446744073709551616) (w : World) :
    Calls Tryz.prog 29 #[.int .i64 f, .int .i64 mode, .int .u64 a, .int .u64 b] w fun e w' => ∃ Z fl, OpRD divO f mode a b Z fl ∧ e = .returned (.agg #[.int .u64 Z, .int .i64 fl]) ∧ Gb w w' := by
  by_cases hf : f = 0 ∨ f = 1
  · obtain ⟨p, mx, one, inf, sg, nan, hF⟩ := fmt_of f hf
    by_cases hm : 0 ≤ mode ∧ mode ≤ 4
    · obtain ⟨x, hx⟩ := opd_ex hF a a0 a1
      obtain ⟨y, hy⟩ := opd_ex hF b b0 b1
      refine (specDiv_ok hF mode a b hm a0 a1 b0 b1 hx hy w).mono ?_
      rintro e w' ⟨Z, fl, hp, rfl, hg⟩
      exact ⟨_, _, .inl ⟨p, mx, one, inf, sg, nan, x, y, hF, hm, hx, hy, hp⟩, rfl, hg⟩
    · refine (sDiv_bad f mode a b (fun w => l3Fits_no f mode a b a0 a1 b0 b1 (.inl (by omega)) w) nan 1 (fun w => l2Bad_fmt hF w) w).mono ?_
      rintro e w' ⟨rfl, hg⟩
      exact ⟨_, _, .inr (.inl ⟨p, mx, one, inf, sg, nan, hF, by omega, rfl, rfl⟩), rfl, hg⟩
  · refine (sDiv_bad f mode a b (fun w => l3Fits_no f mode a b a0 a1 b0 b1 (.inr (.inl hf)) w) _ 1 (fun w => l2Bad_no f hf w) w).mono ?_
    rintro e w' ⟨rfl, hg⟩
    exact ⟨_, _, .inr (.inr ⟨hf, rfl, rfl⟩), rfl, hg⟩

theorem div_same (f mode a b : Int) (a0 : 0 ≤ a) (a1 : a < 18446744073709551616) (b0 : 0 ≤ b) (b1 : b < 18446744073709551616) :
    ∃ Z fl : Int, OpRD divO f mode a b Z fl ∧ (∀ w, Calls Tryz.prog 29 #[.int .i64 f, .int .i64 mode, .int .u64 a, .int .u64 b] w fun e w' => e = .returned (.agg #[.int .u64 Z, .int .i64 fl]) ∧ Gb w w') ∧
      (∀ w, Fm w → Calls Tryz.prog 30 #[.int .i64 f, .int .i64 mode, .int .u64 a, .int .u64 b] w fun e w' => e = .returned (.agg #[.int .u64 Z, .int .i64 fl]) ∧ Gr w w') :=
  both_ofD divO 29 30 _ divO_c f mode a b a0 a1 b0 b1 (specDiv_any f mode a b a0 a1 b0 b1) (implDiv_any f mode a b a0 a1 b0 b1)
end Go.Proofs.YtkflpogmhailhaaGreatDoor
