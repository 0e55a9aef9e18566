/- RoundIs of what Unpack gives is the word again. -/
import Derived.Test.YtkflpogmhailhaaGreatDoorL2B
import Derived.Test.YtkflpogmhailhaaGreatDoorA1
import Derived.Test.YtkflpogmhailhaaGreatDoorC0
import Derived.Test.YtkflpogmhailhaaGreatDoorA6
set_option linter.unusedVariables false
set_option linter.unusedSimpArgs false
namespace Go.Proofs.YtkflpogmhailhaaGreatDoor
open Go.RowKit

theorem chosen_zero (mode sign : Int) (lo : Nat) : chosen mode sign lo 0 = lo := by
  unfold chosen up
  rw [if_neg (by simp)]; rfl

theorem cast_pow2 (k : Nat) : ((2 ^ k : Nat) : Int) = (2 : Int) ^ k := by push_cast; rfl

theorem back_is {f p mx one inf sg nan : Int} (h : IsFmt f p mx one inf sg nan) (mode sign v e g : Int) (v0 : 0 < v) (v1 : v < inf) (hn : NormIs p mx one v e g) :
    0 < g ∧ g < 18446744073709551616 ∧ -2000 ≤ e ∧ e ≤ 2000 ∧ RoundIs p (1 - mx) mx one inf mode sign g.toNat e false v 0 := by
  obtain ⟨b1, b2, b3, b4, b5, b6, b7, b8, b9, b10, b11, b12⟩ := h.bounds
  obtain ⟨P, hP, hP63, hone⟩ := h.pow
  have hone' : one = ((2 ^ P : Nat) : Int) := by rw [cast_pow2]; exact hone
  have hinf : inf = one * (2 * mx + 1) := by rcases h with ⟨rfl, rfl, rfl, rfl, rfl, rfl, rfl⟩ | ⟨rfl, rfl, rfl, rfl, rfl, rfl, rfl⟩ <;> decide
  have hsucc : 2 ^ (P + 1) = 2 * 2 ^ P := by rw [Nat.pow_succ]; omega
  obtain ⟨k, m, e0, hm, hg, he, g1, g2⟩ := hn
  obtain ⟨G, rfl⟩ := Int.eq_ofNat_of_zero_le (show 0 ≤ g by omega)
  have hnb : nb G = P + 1 := by
    have a1 := nb_gt (N := G) (k := P) (by omega)
    have a2 := nb_le (N := G) (k := P + 1) (by omega)
    omega
  rw [Int.toNat_natCast]
  rcases hm with ⟨hv, rfl, rfl⟩ | ⟨hv, rfl, rfl⟩
  · obtain ⟨V, rfl⟩ := Int.eq_ofNat_of_zero_le (show 0 ≤ m by omega)
    have hG : G = V * 2 ^ k := by
      have : (G : Int) = ((V * 2 ^ k : Nat) : Int) := by rw [hg, Int.natCast_mul, cast_pow2]
      omega
    have hk1 : 1 ≤ k := by
      rcases Nat.eq_zero_or_pos k with c | c
      · subst c; rw [Nat.pow_zero, Nat.mul_one] at hG; omega
      · exact c
    have hk2 : k ≤ P := by
      have hVp : 1 ≤ V := by omega
      have : 2 ^ k ≤ G := by rw [hG]; exact Nat.le_mul_of_pos_left _ hVp
      have := nb_gt this
      omega
    refine ⟨by omega, by omega, by omega, by omega, ?_⟩
    have hq : ¬ (1 - mx - p + 1 ≤ e) := by omega
    have hqe : (1 - mx - p + 1 - e).toNat = k := by omega
    have hp2 : 0 < 2 ^ k := Nat.pow_pos (by decide)
    have hlo : cutLo G e (1 - mx - p + 1) = V := by unfold cutLo; rw [if_neg hq, hqe, hG, Nat.mul_div_cancel _ hp2]
    have hha : cutHalf G e (1 - mx - p + 1) false = 0 := by unfold cutHalf; rw [if_neg hq, hqe]; exact hr_zero G k hk1 (by rw [hG, Nat.mul_mod_left])
    refine ⟨nb G + e - 1, 1 - mx, V, _, 0, rfl, .inl ⟨by omega, rfl⟩, hha.symm, by rw [hlo, chosen_zero], rfl, .inr (.inr ⟨by omega, ?_, ?_, .inl ⟨rfl, rfl⟩⟩)⟩
    · rw [Int.sub_self, Int.mul_zero]; omega
    · rw [Int.sub_self, Int.mul_zero]; omega
  · have hr0 := Int.emod_nonneg v (show one ≠ 0 by omega)
    have hr1 := Int.emod_lt_of_pos v (show 0 < one by omega)
    have hdm := Int.ediv_mul_add_emod v one
    have hk : k = 0 := by
      rcases Nat.eq_zero_or_pos k with c | c
      · exact c
      · obtain ⟨j, rfl⟩ : ∃ j, k = j + 1 := ⟨k - 1, by omega⟩
        have h2 : (1 : Int) ≤ 2 ^ j := by have : (0 : Int) < 2 ^ j := Int.pow_pos (by decide); omega
        have := Int.mul_le_mul_of_nonneg_left h2 (show 0 ≤ (v % one + one) * 2 by omega)
        rw [Int.pow_succ, Int.mul_comm ((2 : Int) ^ j) 2, ← Int.mul_assoc] at hg
        omega
    subst hk
    rw [Int.pow_zero, Int.mul_one] at hg
    have hq1 : 1 ≤ v / one := by
      have := Int.le_ediv_of_mul_le (show 0 < one by omega) (show 1 * one ≤ v by omega)
      omega
    have hq2 : v / one < 2 * mx + 1 := Int.ediv_lt_of_lt_mul (by omega) (by rw [Int.mul_comm]; omega)
    refine ⟨by omega, by omega, by omega, by omega, ?_⟩
    have htop : (nb G : Int) + e - 1 = v / one - mx := by omega
    have hqe : (nb G : Int) + e - 1 - p + 1 = e := by omega
    have hlo : cutLo G e e = G := by unfold cutLo; rw [if_pos (Int.le_refl e)]; simp
    have hha : cutHalf G e e false = 0 := by unfold cutHalf; rw [if_pos (Int.le_refl e)]; rfl
    have hz : (G : Int) + one * (nb G + e - 1 - (1 - mx)) = v := by
      rw [htop, show v / one - mx - (1 - mx) = v / one - 1 by omega, Int.mul_sub, Int.mul_one, Int.mul_comm one (v / one)]
      omega
    refine ⟨nb G + e - 1, nb G + e - 1, G, G, 0, rfl, .inr ⟨by omega, rfl⟩, by rw [hqe, hha], by rw [hqe, hlo, chosen_zero], by rw [hqe, hlo, hha, chosen_zero], .inr (.inr ⟨by omega, ?_, ?_, .inl ⟨rfl, rfl⟩⟩)⟩
    · rw [hz]; exact v1
    · rw [hz]
end Go.Proofs.YtkflpogmhailhaaGreatDoor

/- The order of two numbers. -/
set_option linter.unusedVariables false
namespace Go.Proofs.YtkflpogmhailhaaGreatDoor
open Go.RowKit

/-- The order of two numbers. -/
def cmpI (a b : Int) : Int := if a < b then -1 else if b < a then 1 else 0
theorem cmpI_lt {a b : Int} (h : a < b) : cmpI a b = -1 := by unfold cmpI; rw [if_pos h]
theorem cmpI_gt {a b : Int} (h : b < a) : cmpI a b = 1 := by unfold cmpI; rw [if_neg (by omega), if_pos h]
theorem cmpI_eq {a b : Int} (h : a = b) : cmpI a b = 0 := by unfold cmpI; rw [if_neg (by omega), if_neg (by omega)]
theorem cmpI_self (a : Int) : cmpI a a = 0 := cmpI_eq rfl
theorem cmpI_01 (a b : Int) : cmpI a b = -1 ∨ cmpI a b = 0 ∨ cmpI a b = 1 := by unfold cmpI; split <;> (try split) <;> omega
theorem cmpI_swap (a b : Int) : cmpI b a = - cmpI a b := by unfold cmpI; split <;> split <;> (try split) <;> omega

/-- The first that is not 0. -/
def or3 (a b c : Int) : Int := if a ≠ 0 then a else if b ≠ 0 then b else c
end Go.Proofs.YtkflpogmhailhaaGreatDoor

/- Chapter 5: the order of words, and whole numbers. -/
set_option linter.unusedVariables false
set_option linter.unusedSimpArgs false
namespace Go.Proofs.YtkflpogmhailhaaGreatDoor
open Go.RowKit

/-- The order of operands' magnitudes, as the program takes it. -/
def lexO (x y : Opd) : Int := or3 (cmpI x.c y.c) (cmpI x.e y.e) (cmpI (x.M : Int) (y.M : Int))
/-- The order of operands. -/
def ordO (x y : Opd) : Int := if x.s ≠ y.s then y.s - x.s else if x.s = 1 then - lexO x y else lexO x y

theorem pow2_le' {a b : Nat} (h : a ≤ b) : (2 : Int) ^ a ≤ 2 ^ b := by
  have := pow2_mono h
  have e1 : ((2 ^ a : Nat) : Int) ≤ ((2 ^ b : Nat) : Int) := by omega
  rw [pow_cast, pow_cast] at e1
  exact e1

theorem norm_k0 {one m : Int} {k : Nat} (o0 : 0 < one) (hm : one ≤ m) (hg : m * 2 ^ k < 2 * one) : k = 0 := by
  rcases Nat.eq_zero_or_pos k with c | c
  · exact c
  · exfalso
    have h2 := pow2_le' (show 1 ≤ k by omega)
    rw [Int.pow_one] at h2
    have := Int.mul_le_mul_of_nonneg_left h2 (show 0 ≤ m by omega)
    omega

/-- Numbers stand in the order of their words. -/
theorem norm_less {p mx one v e g v' e' g' : Int} (o0 : 0 < one) (v0 : 0 < v) (h : v < v') (hn : NormIs p mx one v e g) (hn' : NormIs p mx one v' e' g') : e < e' ∨ e = e' ∧ g < g' := by
  obtain ⟨k, m, e0, hm, hg, he, h1, h2⟩ := hn
  obtain ⟨k', m', e0', hm', hg', he', h1', h2'⟩ := hn'
  have hr0 := Int.emod_nonneg v (show one ≠ 0 by omega)
  have hr0' := Int.emod_nonneg v' (show one ≠ 0 by omega)
  have hr1 := Int.emod_lt_of_pos v o0
  have hr1' := Int.emod_lt_of_pos v' o0
  rcases hm with ⟨c, rfl, rfl⟩ | ⟨c, rfl, rfl⟩
  · rcases hm' with ⟨c', rfl, rfl⟩ | ⟨c', rfl, rfl⟩
    · rcases Nat.lt_trichotomy k k' with d | d | d
      · exfalso
        have a1 := pow2_le' (show k + 1 ≤ k' by omega)
        have a2 := Int.mul_le_mul_of_nonneg_left a1 (show 0 ≤ m' by omega)
        rw [Int.pow_succ, ← Int.mul_assoc] at a2
        have a3 := Int.mul_le_mul_of_nonneg_right (show m ≤ m' by omega) (show (0 : Int) ≤ 2 ^ k from Int.le_of_lt (Int.pow_pos (by decide)))
        omega
      · subst d
        have a3 := Int.mul_lt_mul_of_pos_right h (show (0 : Int) < 2 ^ k from Int.pow_pos (by decide))
        exact .inr ⟨by omega, by omega⟩
      · exact .inl (by omega)
    · have k1 : 1 ≤ k := by
        rcases Nat.eq_zero_or_pos k with d | d
        · subst d; rw [Int.pow_zero] at hg; omega
        · exact d
      have hk' := norm_k0 o0 (show one ≤ v' % one + one by omega) (by omega) (k := k')
      have := Int.le_ediv_of_mul_le o0 (show 1 * one ≤ v' by omega)
      exact .inl (by omega)
  · rcases hm' with ⟨c', rfl, rfl⟩ | ⟨c', rfl, rfl⟩
    · exfalso; omega
    · have hk := norm_k0 o0 (show one ≤ v % one + one by omega) (by omega) (k := k)
      have hk' := norm_k0 o0 (show one ≤ v' % one + one by omega) (by omega) (k := k')
      subst hk hk'
      rw [Int.pow_zero, Int.mul_one] at hg hg'
      have d1 := Int.ediv_le_ediv o0 (show v ≤ v' by omega)
      have m1 := Int.ediv_mul_add_emod v one
      have m2 := Int.ediv_mul_add_emod v' one
      by_cases q : v / one = v' / one
      · rw [q] at m1 he
        exact .inr ⟨by omega, by omega⟩
      · exact .inl (by omega)

/-- What is asked of an operand's word: its sign and magnitude. -/
def WordIs (inf sg a : Int) (x : Opd) (v : Int) : Prop := (x.s = 0 ∧ a = v ∨ x.s = 1 ∧ a = v + sg) ∧ 0 ≤ v ∧ v ≤ inf ∧ (x.c = 0 ↔ v = 0) ∧ (x.c = 2 ↔ v = inf)

theorem word_is {f p mx one inf sg nan a : Int} (h : IsFmt f p mx one inf sg nan) (a0 : 0 ≤ a) {x : Opd} (hx : OpdIs p mx one inf sg nan a x) (hc : x.c ≤ 2) : a < 2 * sg ∧ ∃ v, WordIs inf sg a x v ∧ (x.c = 1 → NormIs p mx one v x.e (x.M : Int)) ∧ (x.c ≠ 1 → x.e = 0 ∧ x.M = 0) := by
  have hb := h.bounds
  rcases hx with ⟨ha, v, hs, hv⟩ | ⟨_, rfl⟩
  · refine ⟨ha, v, ?_⟩
    unfold WordIs
    rcases hv with ⟨q, c, e, m⟩ | ⟨_, _, c, _⟩ | ⟨_, c, _⟩ | ⟨q, c, e, m⟩ | ⟨q0, q1, c, hn⟩
    · exact ⟨⟨by omega, by omega, by omega, by omega, by omega⟩, fun c' => by omega, fun _ => ⟨e, by omega⟩⟩
    · exfalso; omega
    · exfalso; omega
    · exact ⟨⟨by omega, by omega, by omega, by omega, by omega⟩, fun c' => by omega, fun _ => ⟨e, by omega⟩⟩
    · exact ⟨⟨by omega, by omega, by omega, by omega, by omega⟩, fun _ => hn, fun c' => by omega⟩
  · exfalso; dsimp only at hc; omega

/-- The order of magnitudes is that of the words. -/
theorem lex_word {f p mx one inf sg nan a b : Int} (h : IsFmt f p mx one inf sg nan) {x y : Opd} {v u : Int} (hx : WordIs inf sg a x v) (hy : WordIs inf sg b y u) (x0 : 0 ≤ x.c) (y0 : 0 ≤ y.c) (xc : x.c ≤ 2) (yc : y.c ≤ 2)
    (nx : x.c = 1 → NormIs p mx one v x.e (x.M : Int)) (zx : x.c ≠ 1 → x.e = 0 ∧ x.M = 0) (ny : y.c = 1 → NormIs p mx one u y.e (y.M : Int)) (zy : y.c ≠ 1 → y.e = 0 ∧ y.M = 0) : lexO x y = cmpI v u := by
  obtain ⟨s1, v0, v1, a1, a2⟩ := hx
  obtain ⟨t1, u0, u1, b1, b2⟩ := hy
  have hb := h.bounds
  unfold lexO or3
  rcases Int.lt_trichotomy x.c y.c with c | c | c
  · rw [cmpI_lt c, if_pos (by decide), cmpI_lt (by omega)]
  · rw [cmpI_eq c, if_neg (by decide)]
    by_cases c1 : x.c = 1
    · have n1 := nx c1
      have n2 := ny (by omega)
      rcases Int.lt_trichotomy v u with d | d | d
      · rw [cmpI_lt d]
        rcases norm_less (by omega) (by omega) d n1 n2 with e | ⟨e, e'⟩
        · rw [cmpI_lt e, if_pos (by decide)]
        · rw [cmpI_eq e, if_neg (by decide), cmpI_lt e']
      · subst d
        obtain ⟨e, e'⟩ := NormIs.one (by omega) (by omega) n1 n2
        rw [cmpI_eq e, if_neg (by decide), cmpI_eq e', cmpI_self]
      · rw [cmpI_gt d]
        rcases norm_less (by omega) (by omega) d n2 n1 with e | ⟨e, e'⟩
        · rw [cmpI_gt e, if_pos (by decide)]
        · rw [cmpI_eq e.symm, if_neg (by decide), cmpI_gt e']
    · obtain ⟨e1, e2⟩ := zx c1
      obtain ⟨e3, e4⟩ := zy (by omega)
      rw [e1, e2, e3, e4, cmpI_self, if_neg (by decide), cmpI_self, cmpI_eq (by omega)]
  · rw [cmpI_gt c, if_pos (by decide), cmpI_gt (by omega)]

/-- An operand's order, by words. -/
theorem ord_word {f p mx one inf sg nan a b : Int} (h : IsFmt f p mx one inf sg nan) (a0 : 0 ≤ a) (b0 : 0 ≤ b) {x y : Opd} (hx : OpdIs p mx one inf sg nan a x) (hy : OpdIs p mx one inf sg nan b y) (xc : x.c ≤ 2) (yc : y.c ≤ 2) :
    ∃ v u, WordIs inf sg a x v ∧ WordIs inf sg b y u ∧ lexO x y = cmpI v u := by
  obtain ⟨_, v, w1, n1, z1⟩ := word_is h a0 hx xc
  obtain ⟨_, u, w2, n2, z2⟩ := word_is h b0 hy yc
  exact ⟨v, u, w1, w2, lex_word h w1 w2 (opd_vo h hx).1.c0 (opd_vo h hy).1.c0 xc yc n1 z1 n2 z2⟩
end Go.Proofs.YtkflpogmhailhaaGreatDoor

/- A word's own operand; an answer of both sides. -/
set_option linter.unusedVariables false
set_option linter.unusedSimpArgs false
namespace Go.Proofs.YtkflpogmhailhaaGreatDoor
open Go.RowKit

/-- A word's own operand is the word again. -/
theorem pack_own {f p mx one inf sg nan a : Int} (h : IsFmt f p mx one inf sg nan) (a0 : 0 ≤ a) {x : Opd} (hx : OpdIs p mx one inf sg nan a x) (hc : x.c ≤ 2) (mode : Int) : PackIs p (1 - mx) mx one inf sg nan mode x a 0 := by
  have hb := h.bounds
  have c0 := (opd_vo h hx).1.c0
  obtain ⟨ha, v, ⟨hs, v0, v1, d0, d2⟩, hn, hz⟩ := word_is h a0 hx hc
  have e : a = sw x.s sg v := by
    unfold sw
    rcases hs with ⟨s0, rfl⟩ | ⟨s1, rfl⟩
    · rw [if_neg (by omega)]
    · rw [if_pos s1]
  rcases (show x.c = 0 ∨ x.c = 1 ∨ x.c = 2 by omega) with c | c | c
  · exact .inl ⟨c, by rw [e, d0.1 c], rfl⟩
  · refine .inr (.inl ⟨c, v, ?_, e⟩)
    obtain ⟨_, _, _, _, hr⟩ := back_is h mode x.s v x.e (x.M : Int) (by omega) (by omega) (hn c)
    rw [Int.toNat_natCast] at hr
    exact hr
  · exact .inr (.inr (.inl ⟨c, by rw [e, d2.1 c], rfl⟩))

/-- An answer of both sides, out of what each says. -/
theorem both_by {P : Int → Int → Prop} (one : ∀ Z fl Z' fl', P Z fl → P Z' fl' → Z = Z' ∧ fl = fl') (ex : ∃ Z fl, P Z fl) {S I : Nat} {args : Array Value}
    (hs : ∀ w, Calls Tryz.prog S args w fun e w' => ∃ Z fl, P Z fl ∧ e = .returned (.agg #[.int .u64 Z, .int .i64 fl]) ∧ Gb w w')
    (hi : ∀ w, Fm w → Calls Tryz.prog I args w fun e w' => ∃ Z fl, P Z fl ∧ e = .returned (.agg #[.int .u64 Z, .int .i64 fl]) ∧ Gr w w') :
    ∃ Z fl : Int, P Z fl ∧ (∀ w, Calls Tryz.prog S args w fun e w' => e = .returned (.agg #[.int .u64 Z, .int .i64 fl]) ∧ Gb w w') ∧
      (∀ w, Fm w → Calls Tryz.prog I args w fun e w' => e = .returned (.agg #[.int .u64 Z, .int .i64 fl]) ∧ Gr w w') := by
  obtain ⟨Z, fl, h⟩ := ex
  refine ⟨Z, fl, h, fun w => (hs w).mono ?_, fun w hw => (hi w hw).mono ?_⟩
  · rintro e w' ⟨Z', fl', h', rfl, hg⟩
    obtain ⟨rfl, rfl⟩ := one _ _ _ _ h h'
    exact ⟨rfl, hg⟩
  · rintro e w' ⟨Z', fl', h', rfl, hg⟩
    obtain ⟨rfl, rfl⟩ := one _ _ _ _ h h'
    exact ⟨rfl, hg⟩

end Go.Proofs.YtkflpogmhailhaaGreatDoor

/- Chapter 5: whole numbers and integers, plain mathematics. -/
set_option linter.unusedVariables false
set_option linter.unusedSimpArgs false
namespace Go.Proofs.YtkflpogmhailhaaGreatDoor
open Go.RowKit

/-- The magnitude of a number rounded to a whole number. -/
def wholeM (mode : Int) (x : Opd) : Nat := chosen mode x.s (cutLo x.M x.e 0) (cutHalf x.M x.e 0 false)
/-- Whether that is another number. -/
def wholeX (x : Opd) : Bool := decide (0 < cutHalf x.M x.e 0 false)
/-- A number rounded to a whole number. -/
def wholeO (mode : Int) (x : Opd) : Opd := if x.c = 1 ∧ x.e < 0 then (if wholeM mode x = 0 then ⟨0, x.s, 0, 0⟩ else ⟨1, x.s, 0, wholeM mode x⟩) else x

theorem cutHalf_pos' (M : Nat) (e q : Int) (h : q ≤ e) : cutHalf M e q false = 0 := by unfold cutHalf; rw [if_pos h]; rfl
theorem wholeX_no {x : Opd} (h : 0 ≤ x.e) : wholeX x = false := by unfold wholeX; rw [cutHalf_pos' _ _ _ h]; rfl
theorem wholeM_no {mode : Int} {x : Opd} (h : 0 ≤ x.e) : wholeM mode x = x.M * 2 ^ x.e.toNat := by
  unfold wholeM; rw [cutHalf_pos' _ _ _ h, chosen_zero]; unfold cutLo; rw [if_pos h, Int.sub_zero]
theorem wholeM_lt {mode : Int} {x : Opd} {P : Nat} (h : x.e < 0) (hM : x.M < 2 ^ (P + 1)) : wholeM mode x ≤ 2 ^ P := by
  have h1 := (chosen_le mode x.s (cutLo x.M x.e 0) (cutHalf x.M x.e 0 false)).2
  have h2 : cutLo x.M x.e 0 < 2 ^ P := by
    unfold cutLo
    rw [if_neg (by omega), Nat.div_lt_iff_lt_mul (Nat.pow_pos (by decide)), ← Nat.pow_add]
    have := pow2_mono (show P + 1 ≤ P + (0 - x.e).toNat by omega)
    omega
  unfold wholeM
  omega

/-- Whole numbers of at most p digits are of the format. -/
theorem whole_exact {f p mx one inf sg nan : Int} (h : IsFmt f p mx one inf sg nan) (s : Int) (M : Nat) (h0 : 0 < M) (h1 : (M : Int) ≤ 2 * one) :
    ∃ z, 0 < z ∧ z < inf ∧ ∀ mode, RoundIs p (1 - mx) mx one inf mode s M 0 false z 0 := by
  obtain ⟨P, hP, hP63, hone⟩ := h.pow
  have hone' : one = ((2 ^ P : Nat) : Int) := by rw [cast_pow2]; exact hone
  have hsucc : 2 ^ (P + 1) = 2 * 2 ^ P := by rw [Nat.pow_succ]; omega
  have hb := h.bounds
  have n0 := nb_pos M h0
  have hM1 : M ≤ 2 ^ (P + 1) := by omega
  have hn : nb M ≤ P + 2 := nb_le (by
    rw [show P + 2 = (P + 1) + 1 from rfl, Nat.pow_succ]
    have := Nat.pow_pos (n := P + 1) (show 0 < 2 by decide)
    omega)
  obtain ⟨q, hq⟩ : ∃ q : Int, (nb M : Int) + 0 - 1 - p + 1 = q := ⟨_, rfl⟩
  have hhalf : cutHalf M 0 q false = 0 := by
    by_cases c : q ≤ 0
    · exact cutHalf_pos' _ _ _ c
    · have hq1 : (q - 0).toNat = 1 := by omega
      have hM2 : M = 2 ^ (P + 1) := by
        rcases Nat.lt_or_ge M (2 ^ (P + 1)) with d | d
        · have := nb_le d; omega
        · omega
      unfold cutHalf
      rw [if_neg c, hq1]
      exact hr_zero M 1 (by decide) (by rw [hM2, hsucc]; omega)
  have hlo : cutLo M 0 q < 2 ^ (P + 1) := cutLo_lt M 0 q (P + 1) (by omega)
  have hlo0 : 2 ^ P ≤ cutLo M 0 q := cutLo_ge M 0 q P h0 (by omega)
  refine ⟨(cutLo M 0 q : Nat) + one * ((nb M : Int) + 0 - 1 - (1 - mx)), ?_, ?_, fun mode => ?_⟩
  · have := Int.mul_nonneg (show 0 ≤ one by omega) (show 0 ≤ (nb M : Int) + 0 - 1 - (1 - mx) by omega)
    omega
  · rcases h with ⟨rfl, rfl, rfl, rfl, rfl, rfl, rfl⟩ | ⟨rfl, rfl, rfl, rfl, rfl, rfl, rfl⟩ <;> omega
  · refine ⟨(nb M : Int) + 0 - 1, (nb M : Int) + 0 - 1, cutLo M 0 q, _, 0, rfl, .inr ⟨by omega, rfl⟩, by rw [hq, hhalf], by rw [hq, chosen_zero], rfl, .inr (.inr ⟨by omega, ?_, rfl, .inl ⟨rfl, rfl⟩⟩)⟩
    rcases h with ⟨rfl, rfl, rfl, rfl, rfl, rfl, rfl⟩ | ⟨rfl, rfl, rfl, rfl, rfl, rfl, rfl⟩ <;> omega

/-- The greatest magnitude of a kind with a sign. -/
def mostK (kind s : Int) : Nat :=
  if kind = 0 then (if s = 1 then 2147483648 else 2147483647)
  else if kind = 1 then (if s = 1 then 9223372036854775808 else 9223372036854775807)
  else if kind = 2 then (if s = 1 then 0 else 4294967295)
  else if kind = 3 then (if s = 1 then 0 else 18446744073709551615)
  else 0
/-- The word of an integer. -/
def wordK (s : Int) (M : Nat) : Int := if s = 1 ∧ M ≠ 0 then 18446744073709551616 - (M : Int) else (M : Int)
theorem mostK_lt (kind s : Int) : mostK kind s < 18446744073709551616 := by
  unfold mostK
  repeat' split
  all_goals decide
theorem wordK_lt (s : Int) (M : Nat) (h : M < 18446744073709551616) : 0 ≤ wordK s M ∧ wordK s M < 18446744073709551616 := by unfold wordK; split <;> omega
/-- The integer of a word: its sign and its magnitude. -/
def signK (kind w : Int) : Int := if (kind = 0 ∨ kind = 1) ∧ 9223372036854775808 ≤ w then 1 else 0
def magK (kind w : Int) : Nat := if (kind = 0 ∨ kind = 1) ∧ 9223372036854775808 ≤ w then (18446744073709551616 - w).toNat else w.toNat
theorem signK_01 (kind w : Int) : signK kind w = 0 ∨ signK kind w = 1 := by unfold signK; split <;> simp
theorem magK_lt (kind w : Int) (h0 : 0 ≤ w) (h1 : w < 18446744073709551616) : magK kind w < 18446744073709551616 := by unfold magK; split <;> omega
/-- Whether a word stands for one of its kind. -/
def fitsK (kind w : Int) : Bool := decide ((0 ≤ kind ∧ kind ≤ 3) ∧ magK kind w ≤ mostK kind (signK kind w))
end Go.Proofs.YtkflpogmhailhaaGreatDoor

/- What rounding towards zero gives, as a number; quotients and roots lie between it and the next word's. -/
set_option linter.unusedVariables false
set_option linter.unusedSimpArgs false
namespace Go.Proofs.YtkflpogmhailhaaGreatDoor

/-- A number in units of 2^-6000. -/
def nv (M : Nat) (e : Int) : Nat := M * 2 ^ (e + 6000).toNat

theorem nv_scale (m k : Nat) (e0 : Int) (h : 0 ≤ e0 - k + 6000) : nv (m * 2 ^ k) (e0 - k) = nv m e0 := by
  unfold nv
  rw [show (e0 + 6000).toNat = k + (e0 - k + 6000).toNat by omega, Nat.pow_add, Nat.mul_assoc]

theorem nv_cut (M : Nat) (e q : Int) (he : 0 ≤ e + 6000) (hq : 0 ≤ q + 6000) : nv (cutLo M e q) q ≤ nv M e ∧ nv M e < nv (cutLo M e q + 1) q := by
  unfold nv cutLo
  split
  · rename_i c
    have h1 : M * 2 ^ (e - q).toNat * 2 ^ (q + 6000).toNat = M * 2 ^ (e + 6000).toNat := by
      rw [Nat.mul_assoc, ← Nat.pow_add, show (e - q).toNat + (q + 6000).toNat = (e + 6000).toNat by omega]
    have h2 : 0 < 2 ^ (q + 6000).toNat := Nat.pow_pos (by decide)
    rw [Nat.add_mul, h1]
    omega
  · rename_i c
    have h1 : 2 ^ (q + 6000).toNat = 2 ^ (q - e).toNat * 2 ^ (e + 6000).toNat := by
      rw [← Nat.pow_add, show (q - e).toNat + (e + 6000).toNat = (q + 6000).toNat by omega]
    have hP : 0 < 2 ^ (q - e).toNat := Nat.pow_pos (by decide)
    have hE : 0 < 2 ^ (e + 6000).toNat := Nat.pow_pos (by decide)
    rw [h1, ← Nat.mul_assoc, ← Nat.mul_assoc]
    have a1 : M / 2 ^ (q - e).toNat * 2 ^ (q - e).toNat ≤ M := Nat.div_mul_le_self _ _
    have a2 : M < (M / 2 ^ (q - e).toNat + 1) * 2 ^ (q - e).toNat := by
      have := Nat.lt_div_mul_add (a := M) hP
      rw [Nat.add_mul]; omega
    exact ⟨Nat.mul_le_mul_right _ a1, Nat.mul_lt_mul_of_pos_right a2 hE⟩

theorem up_zero (s : Int) (lo half : Nat) : up 2 s lo half = false := by
  unfold up
  exact decide_eq_false (by omega)

/-- Towards zero: the word's number, and what lies above it. -/
theorem RoundIs.zeroWay {p mx one inf s : Int} {M : Nat} {e : Int} {z fl : Int} (h : RoundIs p (1 - mx) mx one inf 2 s M e false z fl) (P : Nat) (hp : p = P + 1) (ho : one = ((2 ^ P : Nat) : Int)) (hf : fl ≠ 20) :
    ∃ E : Int, (1 - mx ≤ E ∧ E ≤ mx ∨ E = 1 - mx) ∧ nb M + e - 1 ≤ E ∧ z = (cutLo M e (E - p + 1) : Int) + one * (E - (1 - mx)) ∧ (cutLo M e (E - p + 1) : Int) < 2 * one ∧ (E = 1 - mx ∨ 0 < M → one ≤ (cutLo M e (E - p + 1) : Int) ∨ E = 1 - mx) ∧ z < inf := by
  obtain ⟨top, E, r, r2, hf', h1, h2, h3, h4, h5, hc⟩ := h
  have hr : r = cutLo M e (E - p + 1) := by rw [h4]; unfold chosen; rw [up_zero]; simp
  have hlt := cutLo_lt M e (E - p + 1) (P + 1) (by omega)
  rw [Nat.pow_succ] at hlt
  rcases hc with ⟨_, _, c⟩ | ⟨_, _, _, c⟩ | ⟨c1, c2, c3, _⟩
  · exact absurd c hf
  · exact absurd c hf
  · refine ⟨E, by omega, by omega, by rw [← hr]; exact c3, by omega, fun hM => ?_, by omega⟩
    rcases h2 with ⟨a, b⟩ | ⟨a, b⟩
    · exact .inr b
    · rcases hM with hM | hM
      · exact .inr hM
      · left
        have := cutLo_ge M e (E - p + 1) P hM (by omega)
        omega

/-- The number of a word l + one * (E - mn). -/
theorem word_nv {p mx one v E m e0 : Int} (l : Nat) (P : Nat) (hp : p = P + 1) (ho : one = ((2 ^ P : Nat) : Int)) (hE : 1 - mx ≤ E) (hl : (l : Int) ≤ 2 * one) (hb : E = 1 - mx ∨ one ≤ (l : Int)) (hv : v = (l : Int) + one * (E - (1 - mx)))
    (hq : 0 ≤ E - p + 1 + 6000) (hm : v < one ∧ m = v ∧ e0 = 2 - mx - p ∨ one ≤ v ∧ m = v % one + one ∧ e0 = 1 - mx - p + v / one) : 0 ≤ m ∧ nv m.toNat e0 = nv l (E - p + 1) := by
  have o0 : 0 < one := by rw [ho]; exact Int.natCast_pos.mpr (Nat.pow_pos (by decide))
  by_cases c : (l : Int) < one
  · have hE' : E = 1 - mx := by omega
    rw [hE', Int.sub_self, Int.mul_zero] at hv
    rcases hm with ⟨a, b, d⟩ | ⟨a, b, d⟩
    · rw [b, hv, d]
      refine ⟨by omega, ?_⟩
      rw [Int.add_zero, Int.toNat_natCast, show 2 - mx - p = E - p + 1 by omega]
    · exfalso; omega
  · obtain ⟨k, hk⟩ : ∃ k : Nat, E - (1 - mx) = k := ⟨(E - (1 - mx)).toNat, by omega⟩
    rw [hk] at hv
    have hk0 : 0 ≤ one * (k : Int) := Int.mul_nonneg (by omega) (by omega)
    rcases hm with ⟨a, b, d⟩ | ⟨a, b, d⟩
    · exfalso; omega
    · by_cases c2 : (l : Int) = 2 * one
      · have hv2 : v = 0 + one * ((k : Int) + 2) := by rw [hv, c2, Int.mul_add]; omega
        have hm1 : v % one = 0 := by rw [hv2, Int.add_mul_emod_self_left]; rfl
        have hd1 : v / one = (k : Int) + 2 := by rw [hv2, Int.add_mul_ediv_left _ _ (by omega)]; simp
        rw [b, d, hm1, hd1]
        refine ⟨by omega, ?_⟩
        have h3 : l = (0 + one).toNat * 2 ^ 1 := by omega
        rw [h3, show E - p + 1 = (1 - mx - p + ((k : Int) + 2)) - ((1 : Nat) : Int) by omega, nv_scale _ _ _ (by omega)]
      · have hv2 : v = ((l : Int) - one) + one * ((k : Int) + 1) := by rw [hv, Int.mul_add]; omega
        have hm1 : v % one = (l : Int) - one := by rw [hv2, Int.add_mul_emod_self_left]; exact Int.emod_eq_of_lt (by omega) (by omega)
        have hd1 : v / one = (k : Int) + 1 := by rw [hv2, Int.add_mul_ediv_left _ _ (by omega), Int.ediv_eq_zero_of_lt (by omega) (by omega)]; omega
        rw [b, d, hm1, hd1]
        refine ⟨by omega, ?_⟩
        rw [show ((l : Int) - one + one).toNat = l by omega, show 1 - mx - p + ((k : Int) + 1) = E - p + 1 by omega]

/-- A quotient with a digit that says whether more follows, cut. -/
theorem quoz_cut (A B k d s : Nat) (hB : 0 < B) (hs : s ≤ 1) :
    (2 * (A * 2 ^ k / B) + s) / 2 ^ (d + 1) * (B * 2 ^ d) ≤ A * 2 ^ k ∧ A * 2 ^ k < ((2 * (A * 2 ^ k / B) + s) / 2 ^ (d + 1) + 1) * (B * 2 ^ d) := by
  have h1 : (2 * (A * 2 ^ k / B) + s) / 2 ^ (d + 1) = A * 2 ^ k / (B * 2 ^ d) := by
    rw [Nat.pow_succ, Nat.mul_comm (2 ^ d) 2, ← Nat.div_div_eq_div_mul, show (2 * (A * 2 ^ k / B) + s) / 2 = A * 2 ^ k / B by omega, Nat.div_div_eq_div_mul]
  rw [h1]
  have hP : 0 < B * 2 ^ d := Nat.mul_pos hB (Nat.pow_pos (by decide))
  refine ⟨Nat.div_mul_le_self _ _, ?_⟩
  have := Nat.lt_div_mul_add (a := A * 2 ^ k) hP
  rw [Nat.add_mul]; omega

/-- The same of a root. -/
theorem rootz_cut (N R d s : Nat) (h1 : R * R ≤ N) (h2 : N < (R + 1) * (R + 1)) (hs : s ≤ 1) :
    ((2 * R + s) / 2 ^ (d + 1) * 2 ^ d) * ((2 * R + s) / 2 ^ (d + 1) * 2 ^ d) ≤ N ∧ N < (((2 * R + s) / 2 ^ (d + 1) + 1) * 2 ^ d) * (((2 * R + s) / 2 ^ (d + 1) + 1) * 2 ^ d) := by
  have e1 : (2 * R + s) / 2 ^ (d + 1) = R / 2 ^ d := by
    rw [Nat.pow_succ, Nat.mul_comm (2 ^ d) 2, ← Nat.div_div_eq_div_mul, show (2 * R + s) / 2 = R by omega]
  rw [e1]
  have hP : 0 < 2 ^ d := Nat.pow_pos (by decide)
  have a1 : R / 2 ^ d * 2 ^ d ≤ R := Nat.div_mul_le_self _ _
  have a2 : R + 1 ≤ (R / 2 ^ d + 1) * 2 ^ d := by
    have := Nat.lt_div_mul_add (a := R) hP
    rw [Nat.add_mul]; omega
  exact ⟨Nat.le_trans (Nat.mul_le_mul a1 a1) h1, Nat.lt_of_lt_of_le h2 (Nat.mul_le_mul a2 a2)⟩

/-- Nothing is lost where there is no half and no rest. -/
theorem cutz_none (M : Nat) (e q : Int) (hM : 0 < M) (h0 : cutLo M e q = 0) : 0 < cutHalf M e q false := by
  unfold cutLo at h0
  unfold cutHalf
  split at h0
  · exfalso
    have := Nat.mul_pos hM (Nat.pow_pos (n := (e - q).toNat) (show 0 < 2 by decide))
    omega
  · rename_i c
    rw [if_neg c]
    unfold hr
    have hP : 0 < 2 ^ (q - e).toNat := Nat.pow_pos (by decide)
    have hlt : M < 2 ^ (q - e).toNat := by
      rcases Nat.lt_or_ge M (2 ^ (q - e).toNat) with c | c
      · exact c
      · have := Nat.div_pos c hP; omega
    obtain ⟨d, hd⟩ : ∃ d, (q - e).toNat = d + 1 := ⟨(q - e).toNat - 1, by omega⟩
    rw [hd, Nat.pow_succ] at hlt
    rw [hd, Nat.add_sub_cancel]
    by_cases c1 : M % 2 ^ d = 0
    · have h2 : M / 2 ^ d % 2 = 1 := by
        have h3 := Nat.div_add_mod M (2 ^ d)
        have h4 : M / 2 ^ d < 2 := by rw [Nat.div_lt_iff_lt_mul (Nat.pow_pos (by decide))]; omega
        have h5 : M / 2 ^ d ≠ 0 := fun h => by rw [h, c1] at h3; omega
        clear h3
        generalize M / 2 ^ d = t at *
        omega
      rw [if_pos h2]; omega
    · rw [if_pos (show M % 2 ^ d ≠ 0 ∨ false = true from .inl c1)]; omega

/-- Upwards, a number greater than 0 does not become 0. -/
theorem RoundIs.upPos {p mn mx one inf : Int} {M : Nat} {e : Int} {z fl : Int} (h : RoundIs p mn mx one inf 3 0 M e false z fl) (hM : 0 < M) (hi : 0 < inf) (ho : 0 ≤ one) : 0 < z ∧ z ≤ inf := by
  obtain ⟨top, E, r, r2, hf', h1, h2, h3, h4, h5, hc⟩ := h
  have hov : ovMag inf 3 0 = inf := by unfold ovMag; rw [if_pos (by omega)]
  rcases hc with ⟨_, c, _⟩ | ⟨_, _, c, _⟩ | ⟨c1, c2, c3, _⟩
  · rw [c, hov]; omega
  · rw [c, hov]; omega
  · have hr : 0 < r := by
      rw [h4]
      unfold chosen
      by_cases c0 : cutLo M e (E - p + 1) = 0
      · have := cutz_none M e (E - p + 1) hM c0
        rw [if_pos (by unfold up; exact decide_eq_true (by omega))]
        omega
      · omega
    have : 0 ≤ one * (E - mn) := Int.mul_nonneg ho (by omega)
    omega
end Go.Proofs.YtkflpogmhailhaaGreatDoor

/- A word's number. -/
set_option linter.unusedVariables false
set_option linter.unusedSimpArgs false
namespace Go.Proofs.YtkflpogmhailhaaGreatDoor
open Go.RowKit

theorem fmt_pow {f p mx one inf sg nan : Int} (h : IsFmt f p mx one inf sg nan) : ∃ P : Nat, p = P + 1 ∧ one = ((2 ^ P : Nat) : Int) ∧ P ≤ 52 := by
  rcases h with h | h
  · exact ⟨23, by omega, by rw [h.2.2.2.1]; decide, by omega⟩
  · exact ⟨52, by omega, by rw [h.2.2.2.1]; decide, by omega⟩

/-- A word's number. -/
theorem opd_nv {f p mx one inf sg nan v : Int} (h : IsFmt f p mx one inf sg nan) {u : Opd} (hu : OpdIs p mx one inf sg nan v u) (l : Nat) (E : Int) (hE : 1 - mx ≤ E) (hl : (l : Int) ≤ 2 * one) (hb : E = 1 - mx ∨ one ≤ (l : Int)) (hv : v = (l : Int) + one * (E - (1 - mx))) (v1 : v < inf) :
    u.s = 0 ∧ (u.c = 0 ∨ u.c = 1) ∧ nv u.M u.e = nv l (E - p + 1) := by
  obtain ⟨P, hp, ho, hP⟩ := fmt_pow h
  have hb' := h.bounds
  have hk0 : 0 ≤ one * (E - (1 - mx)) := Int.mul_nonneg (by omega) (by omega)
  rcases hu with ⟨_, v', hs, hv'⟩ | ⟨c, _⟩
  · have hs' : u.s = 0 ∧ v' = v := by omega
    refine ⟨hs'.1, ?_⟩
    rw [hs'.2] at hv'
    rcases hv' with ⟨e0, c0, _, hM⟩ | ⟨_, _, c0, _⟩ | ⟨_, c0, _⟩ | ⟨_, c0, _⟩ | ⟨v0, _, c0, hn⟩
    · refine ⟨.inl c0, ?_⟩
      have hl0 : l = 0 := by omega
      have hM0 : u.M = 0 := by omega
      rw [hl0, hM0]; unfold nv; simp
    · exfalso; omega
    · exfalso; omega
    · exfalso; omega
    · refine ⟨.inr c0, ?_⟩
      obtain ⟨_, _, n0, _⟩ := norm_bounds h v0 v1 hn
      obtain ⟨k, m, e0, hm, hg, he, _, _⟩ := hn
      obtain ⟨m0, hsv⟩ := word_nv l P hp ho hE hl hb hv (by omega) hm
      have hM : u.M = m.toNat * 2 ^ k := by
        have h1 : ((u.M : Nat) : Int) = ((m.toNat * 2 ^ k : Nat) : Int) := by
          rw [hg, Int.natCast_mul, Int.toNat_of_nonneg m0, Int.natCast_pow]; rfl
        exact Int.ofNat.inj h1
      rw [hM, he, nv_scale _ _ _ (by omega)]
      exact hsv
  · exfalso; omega

end Go.Proofs.YtkflpogmhailhaaGreatDoor

/- Numbers that are exact: what their words' operands are; whole numbers. -/
set_option linter.unusedVariables false
set_option linter.unusedSimpArgs false
namespace Go.Proofs.YtkflpogmhailhaaGreatDoor
open Go.RowKit

/-- The operand of a word without its sign. -/
theorem OpdIs.bare {f p mx one inf sg nan v s : Int} (h : IsFmt f p mx one inf sg nan) (hs : s = 0 ∨ s = 1) (v0 : 0 ≤ v) (v1 : v ≤ inf) {y : Opd} (hy : OpdIs p mx one inf sg nan (sw s sg v) y) : y.s = s ∧ OpdIs p mx one inf sg nan v ⟨y.c, 0, y.e, y.M⟩ := by
  have hb := h.bounds
  have hw : s = 0 ∧ sw s sg v = v ∨ s = 1 ∧ sw s sg v = v + sg := by
    unfold sw
    rcases hs with rfl | rfl
    · exact .inl ⟨rfl, by rw [if_neg (by decide)]⟩
    · exact .inr ⟨rfl, by rw [if_pos rfl]⟩
  rcases hy with ⟨_, v', hs', hv'⟩ | ⟨c, _⟩
  · have e : v' = v ∧ y.s = s := by omega
    obtain ⟨rfl, e2⟩ := e
    exact ⟨e2, .inl ⟨by omega, v', .inl ⟨rfl, rfl, by omega⟩, hv'⟩⟩
  · exfalso; omega

/-- Nothing is lost where there is no half and no rest. -/
theorem nv_exact (M : Nat) (e q : Int) (he : 0 ≤ e + 6000) (hq : 0 ≤ q + 6000) (h : cutHalf M e q false = 0) : nv (cutLo M e q) q = nv M e := by
  unfold nv cutLo
  by_cases c : q ≤ e
  · rw [if_pos c, Nat.mul_assoc, ← Nat.pow_add, show (e - q).toNat + (q + 6000).toNat = (e + 6000).toNat by omega]
  · rw [if_neg c]
    rw [cutHalf_neg _ _ _ _ c] at h
    obtain ⟨d, hd⟩ : ∃ d, (q - e).toNat = d + 1 := ⟨(q - e).toNat - 1, by omega⟩
    rw [hd] at h ⊢
    unfold hr at h
    rw [Nat.add_sub_cancel] at h
    have h1 : ¬ M / 2 ^ d % 2 = 1 := fun k => by rw [if_pos k] at h; omega
    have h2 : M % 2 ^ d = 0 := by
      rcases Nat.eq_zero_or_pos (M % 2 ^ d) with k | k
      · exact k
      · rw [if_pos (show M % 2 ^ d ≠ 0 ∨ false = true from .inl (by omega))] at h; omega
    have h3 := Nat.div_add_mod M (2 ^ d)
    rw [h2, Nat.add_zero] at h3
    have h4 : M / 2 ^ d = 2 * (M / 2 ^ d / 2) := by
      generalize M / 2 ^ d = t at *; omega
    have h5 : M / 2 ^ (d + 1) = M / 2 ^ d / 2 := by rw [Nat.pow_succ, Nat.div_div_eq_div_mul]
    rw [h5, show (q + 6000).toNat = (d + 1) + (e + 6000).toNat by omega, Nat.pow_add, ← Nat.mul_assoc, Nat.pow_succ]
    congr 1
    rw [← Nat.mul_assoc, Nat.mul_comm (M / 2 ^ d / 2), Nat.mul_assoc, Nat.mul_comm (M / 2 ^ d / 2) 2, ← h4]
    exact h3

/-- A number that is rounded without a flag is its word's. -/
theorem exact_word {f p mx one inf sg nan : Int} (h : IsFmt f p mx one inf sg nan) {mode s : Int} (hs : s = 0 ∨ s = 1) {M : Nat} {e z : Int} (hM : 0 < M) (e0 : -5000 ≤ e) (hr : RoundIs p (1 - mx) mx one inf mode s M e false z 0) :
    0 < z ∧ z < inf ∧ ∀ y, OpdIs p mx one inf sg nan (sw s sg z) y → y.c = 1 ∧ y.s = s ∧ nv y.M y.e = nv M e := by
  have hb := h.bounds
  obtain ⟨P, hp, ho, hP⟩ := fmt_pow h
  obtain ⟨top, E, r, r2, hf, h1, h2, h3, h4, h5, hc⟩ := hr
  have hc' : top ≤ mx ∧ (r : Int) + one * (E - (1 - mx)) < inf ∧ z = r + one * (E - (1 - mx)) ∧ hf = 0 := by omega
  obtain ⟨c1, c2, c3, c4⟩ := hc'
  have hh : cutHalf M e (E - p + 1) false = 0 := by omega
  have hr' : r = cutLo M e (E - p + 1) := by rw [h4, c4, chosen_zero]
  have hq : 0 ≤ E - p + 1 + 6000 := by omega
  have hnv := nv_exact M e (E - p + 1) (by omega) hq hh
  have hlt := cutLo_lt M e (E - p + 1) (P + 1) (by omega)
  rw [Nat.pow_succ] at hlt
  have hge : E = 1 - mx ∨ one ≤ (r : Int) := by
    rcases h2 with ⟨a, b⟩ | ⟨a, b⟩
    · exact .inl b
    · right
      have := cutLo_ge M e (E - p + 1) P hM (by omega)
      omega
  have r0 : 0 < r := by
    rcases Nat.eq_zero_or_pos r with k | k
    · have := cutz_none M e (E - p + 1) hM (by omega); omega
    · exact k
  have hk0 : 0 ≤ one * (E - (1 - mx)) := Int.mul_nonneg (by omega) (by omega)
  refine ⟨by omega, by omega, fun y hy => ?_⟩
  obtain ⟨y1, y2⟩ := OpdIs.bare h hs (by omega) (by omega) hy
  obtain ⟨_, q2, q3⟩ := opd_nv h y2 r E (by omega) (by omega) hge c3 (by omega)
  dsimp only at q2 q3
  rw [hr', hnv] at q3
  refine ⟨?_, y1, q3⟩
  rcases q2 with k | k
  · exfalso
    have := (opd_vo h hy).1.nil (by omega)
    rw [this] at q3
    unfold nv at q3
    rw [Nat.zero_mul] at q3
    have := Nat.mul_pos hM (Nat.pow_pos (n := (e + 6000).toNat) (show 0 < 2 by decide))
    omega
  · exact k

/-- The same number, another exponent. -/
theorem nv_same {M N : Nat} {e g : Int} (he : 0 ≤ e + 6000) (hle : e ≤ g) (h : nv M e = nv N g) : M = N * 2 ^ (g - e).toNat := by
  unfold nv at h
  rw [show (g + 6000).toNat = (g - e).toNat + (e + 6000).toNat by omega, Nat.pow_add, ← Nat.mul_assoc] at h
  exact Nat.eq_of_mul_eq_mul_right (Nat.pow_pos (by decide)) h

theorem RoundIs.nv {p mn mx one inf mode sign : Int} {M N : Nat} {e g z fl : Int} (hM : 0 < M) (hN : 0 < N) (he : 0 ≤ e + 6000) (hg : 0 ≤ g + 6000) (h : nv M e = nv N g) : RoundIs p mn mx one inf mode sign M e false z fl ↔ RoundIs p mn mx one inf mode sign N g false z fl := by
  rcases Int.le_total e g with c | c
  · have hM' := nv_same he c h
    have := RoundIs.scale (p := p) (mn := mn) (mx := mx) (one := one) (inf := inf) (mode := mode) (sign := sign) (e := g) (z := z) (fl := fl) (g - e).toNat hN
    rw [← hM', show g - ((g - e).toNat : Int) = e by omega] at this
    exact this
  · have hN' := nv_same hg c h.symm
    have := RoundIs.scale (p := p) (mn := mn) (mx := mx) (one := one) (inf := inf) (mode := mode) (sign := sign) (e := e) (z := z) (fl := fl) (e - g).toNat hM
    rw [← hN', show e - ((e - g).toNat : Int) = g by omega] at this
    exact this.symm

/-- A whole number rounded to a whole number. -/
theorem whole_nv {x : Opd} (hx : -5000 ≤ x.e) {N : Nat} (h : nv x.M x.e = nv N 0) (way : Int) : wholeM way x = N ∧ wholeX x = false := by
  rcases Int.lt_or_le x.e 0 with c | c
  · have hM := nv_same (by omega) (by omega) h
    have hk : (0 - x.e).toNat ≠ 0 := by omega
    have hh : cutHalf x.M x.e 0 false = 0 := by
      rw [cutHalf_neg _ _ _ _ (by omega)]
      exact hr_zero _ _ (by omega) (by rw [hM]; exact Nat.mul_mod_left _ _)
    constructor
    · unfold wholeM
      rw [hh, chosen_zero]
      unfold cutLo
      rw [if_neg (by omega)]
      have := Nat.mul_div_cancel N (Nat.pow_pos (n := (0 - x.e).toNat) (show 0 < 2 by decide))
      rw [← hM] at this
      exact this
    · unfold wholeX; rw [hh]; rfl
  · have hN := nv_same (by omega) c h.symm
    rw [Int.sub_zero] at hN
    exact ⟨by rw [wholeM_no c, hN], wholeX_no c⟩

/-- A number of few digits and a middling exponent is of the format. -/
theorem fit_exact {f p mx one inf sg nan : Int} (h : IsFmt f p mx one inf sg nan) {M : Nat} {e : Int} (hM : 0 < M) (hn : (nb M : Int) ≤ p) (t0 : 1 - mx ≤ (nb M : Int) + e - 1) (t1 : (nb M : Int) + e - 1 ≤ mx) : ∃ z, ∀ mode s, RoundIs p (1 - mx) mx one inf mode s M e false z 0 := by
  have hb := h.bounds
  obtain ⟨P, hp, ho, hP⟩ := fmt_pow h
  have hinf : inf = one * (2 * mx + 1) := by rcases h with ⟨rfl, rfl, rfl, rfl, rfl, rfl, rfl⟩ | ⟨rfl, rfl, rfl, rfl, rfl, rfl, rfl⟩ <;> decide
  obtain ⟨q, hq⟩ : ∃ q : Int, (nb M : Int) + e - 1 - p + 1 = q := ⟨_, rfl⟩
  have hh : cutHalf M e q false = 0 := cutHalf_pos _ _ _ (by omega)
  have hlt := cutLo_lt M e q (P + 1) (by omega)
  rw [Nat.pow_succ] at hlt
  have hle : one * ((nb M : Int) + e - 1 - (1 - mx)) ≤ one * (2 * mx - 1) := Int.mul_le_mul_of_nonneg_left (by omega) (by omega)
  have h3 : one * (2 * mx + 1) = one * (2 * mx - 1) + 2 * one := by rw [show 2 * mx + 1 = (2 * mx - 1) + 2 by omega, Int.mul_add]; omega
  refine ⟨(cutLo M e q : Nat) + one * ((nb M : Int) + e - 1 - (1 - mx)), fun mode s => ?_⟩
  exact ⟨(nb M : Int) + e - 1, (nb M : Int) + e - 1, cutLo M e q, _, 0, rfl, .inr ⟨by omega, rfl⟩, by rw [hq, hh], by rw [hq, chosen_zero], rfl, .inr (.inr ⟨by omega, by omega, rfl, .inl ⟨rfl, rfl⟩⟩)⟩
end Go.Proofs.YtkflpogmhailhaaGreatDoor
