/- RoundIs of what Unpack gives is the word again. -/
import Derived.Test.YtkflpogmhailhaaDoorL2B
import Derived.Test.YtkflpogmhailhaaDoorL4O
import Derived.Test.YtkflpogmhailhaaDoorE4
import Derived.Test.YtkflpogmhailhaaDoorE3
set_option linter.unusedVariables false
set_option linter.unusedSimpArgs false
namespace Go.Proofs.YtkflpogmhailhaaDoor
open Go.RowKit

theorem chosen_zero (mode sign : Int) (lo : Nat) : chosen mode sign lo 0 = lo := by
  unfold chosen up
  rw [if_neg (by simp)]; rfl

theorem cast_pow2 (k : Nat) : ((2 ^ k : Nat) : Int) = (2 : Int) ^ k := by push_cast; rfl

theorem back_is {f p mx one inf sg nan : Int} (h : IsFmt f p mx one inf sg nan) (mode sign v e g : Int) (v0 : 0 < v) (v1 : v < inf) (hn : NormIs p mx one v e g) :
    0 < g ∧ g < 18446744073709551616 ∧ -2000 ≤ e ∧ e ≤ 2000 ∧ RoundIs p (1 - mx) mx one inf mode sign g.toNat e false v 0 := by
  obtain ⟨b1, b2, b3, b4, b5, b6, b7, b8, b9, b10, b11, b12⟩ := h.bounds
  obtain ⟨P, hP, hP63, hone⟩ := h.pow
  have hone' : one = ((2 ^ P : Nat) : Int) := by rw [cast_pow2]; exact hone
  have hinf : inf = one * (2 * mx + 1) := by rcases h with ⟨rfl, rfl, rfl, rfl, rfl, rfl, rfl⟩ | ⟨rfl, rfl, rfl, rfl, rfl, rfl, rfl⟩ <;> decide
  have hsucc : 2 ^ (P + 1) = 2 * 2 ^ P := by rw [Nat.pow_succ]; omega
  obtain ⟨k, m, e0, hm, hg, he, g1, g2⟩ := hn
  obtain ⟨G, rfl⟩ := Int.eq_ofNat_of_zero_le (show 0 ≤ g by omega)
  have hnb : nb G = P + 1 := by
    have a1 := nb_gt (N := G) (k := P) (by omega)
    have a2 := nb_le (N := G) (k := P + 1) (by omega)
    omega
  rw [Int.toNat_natCast]
  rcases hm with ⟨hv, rfl, rfl⟩ | ⟨hv, rfl, rfl⟩
  · obtain ⟨V, rfl⟩ := Int.eq_ofNat_of_zero_le (show 0 ≤ m by omega)
    have hG : G = V * 2 ^ k := by
      have : (G : Int) = ((V * 2 ^ k : Nat) : Int) := by rw [hg, Int.natCast_mul, cast_pow2]
      omega
    have hk1 : 1 ≤ k := by
      rcases Nat.eq_zero_or_pos k with c | c
      · subst c; rw [Nat.pow_zero, Nat.mul_one] at hG; omega
      · exact c
    have hk2 : k ≤ P := by
      have hVp : 1 ≤ V := by omega
      have : 2 ^ k ≤ G := by rw [hG]; exact Nat.le_mul_of_pos_left _ hVp
      have := nb_gt this
      omega
    refine ⟨by omega, by omega, by omega, by omega, ?_⟩
    have hq : ¬ (1 - mx - p + 1 ≤ e) := by omega
    have hqe : (1 - mx - p + 1 - e).toNat = k := by omega
    have hp2 : 0 < 2 ^ k := Nat.pow_pos (by decide)
    have hlo : cutLo G e (1 - mx - p + 1) = V := by unfold cutLo; rw [if_neg hq, hqe, hG, Nat.mul_div_cancel _ hp2]
    have hha : cutHalf G e (1 - mx - p + 1) false = 0 := by unfold cutHalf; rw [if_neg hq, hqe]; exact hr_zero G k hk1 (by rw [hG, Nat.mul_mod_left])
    refine ⟨nb G + e - 1, 1 - mx, V, _, 0, rfl, .inl ⟨by omega, rfl⟩, hha.symm, by rw [hlo, chosen_zero], rfl, .inr (.inr ⟨by omega, ?_, ?_, .inl ⟨rfl, rfl⟩⟩)⟩
    · rw [Int.sub_self, Int.mul_zero]; omega
    · rw [Int.sub_self, Int.mul_zero]; omega
  · have hr0 := Int.emod_nonneg v (show one ≠ 0 by omega)
    have hr1 := Int.emod_lt_of_pos v (show 0 < one by omega)
    have hdm := Int.ediv_mul_add_emod v one
    have hk : k = 0 := by
      rcases Nat.eq_zero_or_pos k with c | c
      · exact c
      · obtain ⟨j, rfl⟩ : ∃ j, k = j + 1 := ⟨k - 1, by omega⟩
        have h2 : (1 : Int) ≤ 2 ^ j := by have : (0 : Int) < 2 ^ j := Int.pow_pos (by decide); omega
        have := Int.mul_le_mul_of_nonneg_left h2 (show 0 ≤ (v % one + one) * 2 by omega)
        rw [Int.pow_succ, Int.mul_comm ((2 : Int) ^ j) 2, ← Int.mul_assoc] at hg
        omega
    subst hk
    rw [Int.pow_zero, Int.mul_one] at hg
    have hq1 : 1 ≤ v / one := by
      have := Int.le_ediv_of_mul_le (show 0 < one by omega) (show 1 * one ≤ v by omega)
      omega
    have hq2 : v / one < 2 * mx + 1 := Int.ediv_lt_of_lt_mul (by omega) (by rw [Int.mul_comm]; omega)
    refine ⟨by omega, by omega, by omega, by omega, ?_⟩
    have htop : (nb G : Int) + e - 1 = v / one - mx := by omega
    have hqe : (nb G : Int) + e - 1 - p + 1 = e := by omega
    have hlo : cutLo G e e = G := by unfold cutLo; rw [if_pos (Int.le_refl e)]; simp
    have hha : cutHalf G e e false = 0 := by unfold cutHalf; rw [if_pos (Int.le_refl e)]; rfl
    have hz : (G : Int) + one * (nb G + e - 1 - (1 - mx)) = v := by
      rw [htop, show v / one - mx - (1 - mx) = v / one - 1 by omega, Int.mul_sub, Int.mul_one, Int.mul_comm one (v / one)]
      omega
    refine ⟨nb G + e - 1, nb G + e - 1, G, G, 0, rfl, .inr ⟨by omega, rfl⟩, by rw [hqe, hha], by rw [hqe, hlo, chosen_zero], by rw [hqe, hlo, hha, chosen_zero], .inr (.inr ⟨by omega, ?_, ?_, .inl ⟨rfl, rfl⟩⟩)⟩
    · rw [hz]; exact v1
    · rw [hz]
end Go.Proofs.YtkflpogmhailhaaDoor

/- Rem, of both sides. -/
set_option linter.unusedVariables false
set_option linter.unusedSimpArgs false
namespace Go.Proofs.YtkflpogmhailhaaDoor
open Go.RowKit

def remX (x y : Opd) : Nat := x.M * 2 ^ (x.e - min x.e y.e).toNat
def remD (x y : Opd) : Nat := y.M * 2 ^ (y.e - min x.e y.e).toNat
def remO (p mode : Int) (x y : Opd) : Opd :=
  if 3 ≤ max x.c y.c then ⟨max x.c y.c, 0, 0, 0⟩
  else if x.c = 2 ∨ y.c = 0 then ⟨4, 0, 0, 0⟩
  else if x.c = 0 ∨ y.c = 2 then x
  else if remM (remX x y) (remD x y) = 0 then ⟨0, x.s, 0, 0⟩
  else ⟨1, if remUp (remX x y) (remD x y) then 1 - x.s else x.s, min x.e y.e, remM (remX x y) (remD x y)⟩
theorem remO_nan (p mode : Int) (x y : Opd) (h : 3 ≤ max x.c y.c) : remO p mode x y = ⟨max x.c y.c, 0, 0, 0⟩ := by unfold remO; rw [if_pos h]
theorem remO_c (p mode : Int) (x y : Opd) (hx : VO x) (hy : VO y) : 0 ≤ (remO p mode x y).c ∧ (remO p mode x y).c ≤ 5 := by
  have := hx.c0
  have := hx.c4
  have := hy.c0
  have := hy.c4
  unfold remO
  split
  · dsimp only; omega
  · split
    · exact ⟨by dsimp only; omega, by dsimp only; omega⟩
    · split
      · omega
      · split
        · exact ⟨by dsimp only; omega, by dsimp only; omega⟩
        · exact ⟨by dsimp only; omega, by dsimp only; omega⟩

theorem and_one_nat (C : Nat) (hC : C < 18446744073709551616) : bits .and .u64 (C : Int) 1 = ((C % 2 : Nat) : Int) := by
  have h := bits_and_u64_nat C 1 hC (by decide)
  rw [Nat.and_one_is_mod] at h
  exact h
theorem and_two_nat (C : Nat) (hC : C < 18446744073709551616) : bits .and .u64 (C : Int) 2 = ((C / 2 % 2 * 2 : Nat) : Int) := by
  have h := bits_and_u64_nat C 2 hC (by decide)
  have h1 : C &&& 2 = C / 2 % 2 * 2 := by
    have e1 : (C &&& 2) % 2 ^ 2 = C % 2 ^ 2 &&& 2 % 2 ^ 2 := Nat.and_mod_two_pow
    have e2 : C &&& 2 ≤ 2 := Nat.and_le_right
    rw [Nat.mod_eq_of_lt (show C &&& 2 < 2 ^ 2 by omega)] at e1
    rw [e1]
    have e3 : C % 2 ^ 2 = 0 ∨ C % 2 ^ 2 = 1 ∨ C % 2 ^ 2 = 2 ∨ C % 2 ^ 2 = 3 := by omega
    rcases e3 with c | c | c | c <;> rw [c]
    · rw [show C / 2 % 2 = 0 by omega]; rfl
    · rw [show C / 2 % 2 = 0 by omega]; rfl
    · rw [show C / 2 % 2 = 1 by omega]; rfl
    · rw [show C / 2 % 2 = 1 by omega]; rfl
  rw [h1] at h
  exact h

theorem mod64 (F : Nat) : F % 18446744073709551616 % 2 = F % 2 ∧ F % 18446744073709551616 / 2 % 2 = F / 2 % 2 := ⟨by omega, by omega⟩

/-- The digits down to a half. -/
theorem remainder_digits (p mn mx md : Int) (k : Nat) (sx ex sy ey : Int) (A B : Nat) (hA1 : A < 9007199254740992) (hB1 : B < 9007199254740992) (hB0 : 0 < B) (hAB : A < 2 * B) (s01 : sx = 0 ∨ sx = 1) (e0 : -2000 ≤ ex) (e1 : ex ≤ 2000) (f0 : -2000 ≤ ey) (f1 : ey ≤ 2000) (P : Nat) (hP : ex - ey + 2 = ((P + 1 : Nat) : Int)) (w : World) :
    Calls Tryd.prog 39 #[.agg #[.int .i64 p, .int .i64 mn, .int .i64 mx, .int .i64 md, .func (.func k) #[] #[]], .agg #[.int .i64 sx, .int .i64 ex, .int .i64 1, .int .u64 0, .int .u64 ((A : Int)), .bool false, .int .i64 0], .agg #[.int .i64 sy, .int .i64 ey, .int .i64 1, .int .u64 0, .int .u64 ((B : Int)), .bool false, .int .i64 0]] w fun e w' => e = .returned (.agg #[.int .i64 ((if digUp (A * 2 ^ P / B) (A * 2 ^ P % B) then 1 - sx else sx)), .int .i64 (ey - 1), .int .i64 1, .int .u64 0, .int .u64 (((digM (A * 2 ^ P / B) (A * 2 ^ P % B) B : Nat) : Int)), .bool false, .int .i64 0]) ∧ Gr w w' := by
  obtain ⟨d1, d2⟩ := quo_digits A B P hAB (by omega)
  have hL : A * 2 ^ P % B < B := Nat.mod_lt _ hB0
  obtain ⟨m1, m2⟩ := mod64 (A * 2 ^ P / B)
  have hC : A * 2 ^ P / B % 18446744073709551616 < 18446744073709551616 := Nat.mod_lt _ (by decide)
  have HF : Hid (∀ w v, Digs (fun _ _ => B) A w v → Calls Tryd.prog 78 #[v, .int .i64 ((P + 1 : Nat) : Int)] w fun e w' => e = .returned (.tuple #[.int .u64 ((A * 2 ^ P / B % 18446744073709551616 : Nat) : Int), .int .u64 ((A * 2 ^ P % B : Nat) : Int)]) ∧ Gr w w') := fun w v hd => by
    have h := first_any (by omega) hd (P + 1) (by omega) (by omega)
    rw [d2, show P + 1 - 1 = P from rfl, d1] at h
    exact h
  unfold digM digUp
  rw [← m1, ← m2]
  generalize A * 2 ^ P / B % 18446744073709551616 = C at *
  generalize A * 2 ^ P % B = L at *
  have a2 := and_two_nat C hC
  have a1 := and_one_nat C hC
  have hod : ∀ t : Bool, t = decide (C / 2 % 2 = 1) → (((C / 2 % 2 * 2 : Nat) : Int) != 0) = t := fun t ht => by
    rw [ht]
    have h2 : C / 2 % 2 = 0 ∨ C / 2 % 2 = 1 := by omega
    rcases h2 with h | h <;> simp [h]
  have hha : ∀ t : Bool, t = decide (C % 2 = 1) → (((C % 2 : Nat) : Int) != 0) = t := fun t ht => by
    rw [ht]
    have h2 : C % 2 = 0 ∨ C % 2 = 1 := by omega
    rcases h2 with h | h <;> simp [h]
  have hlb : ((L : Int) != 0) = decide (L ≠ 0) := by by_cases h : L = 0 <;> simp [h]
  have HE : ∀ (o h l U : Bool), U = (h && (o || l)) → Hid (∀ w, Calls Tryd.prog 79 #[.bool false, .bool o, .bool h, .bool l] w fun e w' => e = .returned (.bool U) ∧ w = w') := fun o h l U hU w => by
    have := nearestEven_any false o h l w
    rw [show ru 0 false o h l = U from by rw [hU]; cases o <;> cases h <;> cases l <;> rfl] at this
    exact this
  by_cases hU : C % 2 = 1 ∧ (C / 2 % 2 = 1 ∨ L ≠ 0)
  · rw [decide_eq_true hU, if_pos rfl, if_pos rfl]
    have hx := xor01 sx 1 s01 (.inr rfl)
    rw [show mulS sx 1 = 1 - sx from by rcases s01 with rfl | rfl <;> decide] at hx
    exact remainder_up p mn mx md k sx ex 0 sy ey 0 false false A B (by omega) (by omega) (by omega) (by omega) (by omega) (by omega) (P + 1) hP (by omega) C L hC (by omega) _ _ _ _ _ a2 a1 (hod _ rfl) (hha _ rfl) hlb _ hx HF (HE _ _ _ _ (by simp [hU])) w
  · rw [decide_eq_false hU, if_neg (by decide), if_neg (by decide)]
    by_cases hh : C % 2 = 1
    · rw [if_pos hh]
      exact remainder_half p mn mx md k sx ex 0 sy ey 0 false false A B (by omega) (by omega) (by omega) (by omega) (by omega) (by omega) (P + 1) hP (by omega) C L hC (by omega) _ _ _ _ a2 a1 (hod _ rfl) (hha true (by simp [hh])) hlb HF (HE _ _ _ _ (by
        have h1 : ¬ (C / 2 % 2 = 1 ∨ L ≠ 0) := fun c => hU ⟨hh, c⟩
        have h2 : ¬ C / 2 % 2 = 1 := fun c => h1 (.inl c)
        have h3 : ¬ L ≠ 0 := fun c => h1 (.inr c)
        simp [h2, h3])) w
    · rw [if_neg hh]
      exact remainder_less p mn mx md k sx ex 0 sy ey 0 false false A B (by omega) (by omega) (by omega) (by omega) (by omega) (by omega) (P + 1) hP (by omega) C L hC (by omega) _ _ _ _ a2 a1 (hod _ rfl) (hha false (by simp [hh])) hlb HF (HE _ _ _ _ rfl) w

theorem digM_lt {C L B : Nat} (h : L < B) : digM C L B ≤ B := by
  unfold digM
  split
  · omega
  · split <;> omega
theorem digM_zero {C L B : Nat} (h : L < B) (h0 : digM C L B = 0) : digUp C L = false := by
  unfold digM at h0
  cases hd : digUp C L
  · rfl
  · rw [hd, if_pos rfl] at h0; omega

theorem remainder_any {f p mx one inf sg nan : Int} (hF : IsFmt f p mx one inf sg nan) (mn md : Int) (k : Nat) {a b : Int} {x y : Opd} (hx : OpdIs p mx one inf sg nan a x) (hy : OpdIs p mx one inf sg nan b y) (h3 : max x.c y.c < 3) (w : World) :
    Calls Tryd.prog 39 #[.agg #[.int .i64 p, .int .i64 mn, .int .i64 mx, .int .i64 md, .func (.func k) #[] #[]], .agg #[.int .i64 x.s, .int .i64 x.e, .int .i64 x.c, .int .u64 (((x.M / 18446744073709551616 : Nat) : Int)), .int .u64 (((x.M % 18446744073709551616 : Nat) : Int)), .bool false, .int .i64 0], .agg #[.int .i64 y.s, .int .i64 y.e, .int .i64 y.c, .int .u64 (((y.M / 18446744073709551616 : Nat) : Int)), .int .u64 (((y.M % 18446744073709551616 : Nat) : Int)), .bool false, .int .i64 0]] w fun e w' => ∃ os oe oc oh ol ot of, SameP p (remO p md x y) os oe oc oh ol ot of ∧ e = .returned (.agg #[.int .i64 os, .int .i64 oe, .int .i64 oc, .int .u64 oh, .int .u64 ol, .bool ot, .int .i64 of]) ∧ Gr w w' := by
  obtain ⟨v1, v2, v3, v4, v5, v6⟩ := opd_vo hF hx
  obtain ⟨u1, u2, u3, u4, u5, u6⟩ := opd_vo hF hy
  have hpb : 24 ≤ p ∧ p ≤ 53 := by have := hF.bounds; omega
  have c0 := v1.c0
  have d0 := u1.c0
  have s01 := v1.s01
  have hself := SameP.self p v1
  unfold remO
  rw [if_neg (show ¬ 3 ≤ max x.c y.c by omega)]
  by_cases c2 : x.c = 2
  · rw [if_pos (.inl c2), c2]
    refine (remainder_badx p mn mx md k _ _ 0 _ _ _ _ _ _ _ _ _ w).mono ?_
    rintro r w' ⟨rfl, hg⟩
    exact ⟨_, _, _, _, _, _, _, SameP.nan p 4 (by omega) (by omega), rfl, hg⟩
  · by_cases cy0 : y.c = 0
    · rw [if_pos (.inr cy0), cy0]
      refine (remainder_bady p mn mx md k _ _ _ _ _ _ _ 0 _ _ _ _ (by simp [c2]) w).mono ?_
      rintro r w' ⟨rfl, hg⟩
      exact ⟨_, _, _, _, _, _, _, SameP.nan p 4 (by omega) (by omega), rfl, hg⟩
    · rw [if_neg (show ¬ (x.c = 2 ∨ y.c = 0) by omega)]
      by_cases cx0 : x.c = 0
      · rw [if_pos (.inl cx0)]
        rw [cx0] at hself ⊢
        refine (remainder_zero p mn mx md k _ _ 0 _ _ _ _ _ _ _ _ _ (by simp [cy0]) w).mono ?_
        rintro r w' ⟨rfl, hg⟩
        exact ⟨_, _, _, _, _, _, _, hself, rfl, hg⟩
      · have cx : x.c = 1 := by omega
        by_cases cy2 : y.c = 2
        · rw [if_pos (.inr cy2), cy2]
          rw [cx] at hself ⊢
          refine (remainder_inf p mn mx md k _ _ 0 _ _ _ _ 0 _ _ _ _ w).mono ?_
          rintro r w' ⟨rfl, hg⟩
          exact ⟨_, _, _, _, _, _, _, hself, rfl, hg⟩
        · have cy : y.c = 1 := by omega
          rw [if_neg (show ¬ (x.c = 0 ∨ y.c = 2) by omega)]
          obtain ⟨Pn, hP, hP1, hP53, hA, hA2⟩ := opd_fin hF hx cx
          obtain ⟨Pn', hP', _, _, hB, hB2⟩ := opd_fin hF hy cy
          obtain rfl : Pn = Pn' := by omega
          have hA0 : 0 < x.M := Nat.lt_of_lt_of_le (Nat.pow_pos (by decide)) hA
          have hB0 : 0 < y.M := Nat.lt_of_lt_of_le (Nat.pow_pos (by decide)) hB
          have hAB : x.M < 2 * y.M := by
            have : 2 ^ Pn = 2 * 2 ^ (Pn - 1) := by rw [← Nat.pow_succ', show (Pn - 1).succ = Pn by omega]
            omega
          rw [cx] at hself
          by_cases hn : x.e - y.e + 2 < 1
          · have hX : remX x y = x.M := by unfold remX; rw [show (x.e - min x.e y.e).toNat = 0 by omega, Nat.pow_zero, Nat.mul_one]
            have hD : 2 * x.M < remD x y := by
              unfold remD
              have : 2 ^ 2 ≤ 2 ^ (y.e - min x.e y.e).toNat := Nat.pow_le_pow_right (by decide) (by omega)
              have h4 : y.M * 4 ≤ y.M * 2 ^ (y.e - min x.e y.e).toNat := Nat.mul_le_mul_left _ this
              omega
            obtain ⟨r1, r2⟩ := rem_self _ _ hD
            rw [hX, r1, r2, if_neg (by omega), if_neg (by decide), show min x.e y.e = x.e by omega, cx, cy]
            refine (remainder_low p mn mx md k _ _ 0 _ _ _ _ 0 _ _ _ _ (by omega) (by omega) (by omega) (by omega) hn w).mono ?_
            rintro r w' ⟨rfl, hg⟩
            refine ⟨_, _, _, _, _, _, _, ?_, rfl, hg⟩
            obtain ⟨xc, xs, xe, xM⟩ := x
            dsimp only at *
            rw [cx] at hself
            exact hself
          · obtain ⟨P, hP2⟩ : ∃ P : Nat, x.e - y.e + 2 = ((P + 1 : Nat) : Int) := ⟨(x.e - y.e + 1).toNat, by omega⟩
            have hL : x.M * 2 ^ P % y.M < y.M := Nat.mod_lt _ hB0
            have key : digUp (x.M * 2 ^ P / y.M) (x.M * 2 ^ P % y.M) = remUp (remX x y) (remD x y) ∧ (digM (x.M * 2 ^ P / y.M) (x.M * 2 ^ P % y.M) y.M = 0 ↔ remM (remX x y) (remD x y) = 0) ∧
                (0 < remM (remX x y) (remD x y) → ∀ s mn mx one inf mode z fl, RoundIs p mn mx one inf mode s (digM (x.M * 2 ^ P / y.M) (x.M * 2 ^ P % y.M) y.M) (y.e - 1) false z fl ↔ RoundIs p mn mx one inf mode s (remM (remX x y) (remD x y)) (min x.e y.e) false z fl) := by
              by_cases hge : y.e ≤ x.e
              · have e1 : remD x y = y.M := by unfold remD; rw [show (y.e - min x.e y.e).toNat = 0 by omega, Nat.pow_zero, Nat.mul_one]
                have e2 : x.M * 2 ^ P = 2 * remX x y := by
                  unfold remX
                  rw [show P = (x.e - min x.e y.e).toNat + 1 by omega, Nat.pow_succ, ← Nat.mul_assoc, Nat.mul_comm]
                obtain ⟨k1, k2⟩ := rem_hi (remX x y) y.M hB0
                rw [e1, e2]
                refine ⟨k1, by rw [k2]; omega, fun hpos s mn mx one inf mode z fl => ?_⟩
                rw [k2, show min x.e y.e = y.e by omega]
                have := RoundIs.scale (p := p) (mn := mn) (mx := mx) (one := one) (inf := inf) (mode := mode) (sign := s) (M := remM (remX x y) y.M) (e := y.e) (z := z) (fl := fl) 1 hpos
                rw [Nat.pow_one, Nat.mul_comm] at this
                exact this
              · have e1 : remD x y = 2 * y.M := by unfold remD; rw [show (y.e - min x.e y.e).toNat = 1 by omega, Nat.pow_one, Nat.mul_comm]
                have e2 : remX x y = x.M := by unfold remX; rw [show (x.e - min x.e y.e).toNat = 0 by omega, Nat.pow_zero, Nat.mul_one]
                have e3 : x.M * 2 ^ P = x.M := by rw [show P = 0 by omega, Nat.pow_zero, Nat.mul_one]
                obtain ⟨k1, k2⟩ := rem_lo x.M y.M hB0 hAB
                rw [e1, e2, e3]
                refine ⟨k1, by rw [k2], fun hpos s mn mx one inf mode z fl => ?_⟩
                rw [k2, show min x.e y.e = y.e - 1 by omega]
            obtain ⟨ku, kz, kr⟩ := key
            have hle := digM_lt (C := x.M * 2 ^ P / y.M) hL
            rw [show x.M / 18446744073709551616 = 0 by omega, show x.M % 18446744073709551616 = x.M by omega, show y.M / 18446744073709551616 = 0 by omega, show y.M % 18446744073709551616 = y.M by omega, cx, cy]
            refine (remainder_digits p mn mx md k x.s x.e y.s y.e x.M y.M v2 u2 hB0 hAB s01 v4 v5 u4 u5 P hP2 w).mono ?_
            rintro r w' ⟨rfl, hg⟩
            by_cases hz : remM (remX x y) (remD x y) = 0
            · rw [if_pos hz]
              have hd0 := kz.2 hz
              have hdu := digM_zero hL hd0
              refine ⟨_, _, _, _, _, _, _, .inr (.inr ⟨rfl, rfl, rfl, by rw [hd0]; rfl, by rw [hdu]; rfl, ?_, rfl, by omega, by omega⟩), rfl, hg⟩
              rw [hdu, if_neg (by decide)]; exact s01
            · rw [if_neg hz]
              refine ⟨_, _, _, _, _, _, _, .inl ⟨digM (x.M * 2 ^ P / y.M) (x.M * 2 ^ P % y.M) y.M, ?_, ?_, rfl, rfl, (show (0 : Int) ≤ 1 by omega), (show (1 : Int) ≤ 4 by omega), fun _ => ⟨by rw [ku], ?_⟩, fun _ => ⟨by omega, by omega, (fun t => by cases t), by omega, by omega, fun mn mx one inf mode z fl => ?_⟩⟩, rfl, hg⟩
              · rw [Nat.div_eq_of_lt (by omega)]; rfl
              · rw [Nat.mod_eq_of_lt (a := digM (x.M * 2 ^ P / y.M) (x.M * 2 ^ P % y.M) y.M) (by omega)]
              · split
                · omega
                · exact s01
              · exact kr (by omega) _ _ _ _ _ _ _ _
end Go.Proofs.YtkflpogmhailhaaDoor
