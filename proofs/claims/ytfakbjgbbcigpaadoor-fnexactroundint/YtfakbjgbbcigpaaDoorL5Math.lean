/- Chapter 5: the order of words, and whole numbers. -/
import Derived.Test.YtfakbjgbbcigpaaDoorPackBack
import Derived.Test.YtfakbjgbbcigpaaDoorL3OA
import Derived.Test.YtfakbjgbbcigpaaDoorL5C
set_option linter.unusedVariables false
set_option linter.unusedSimpArgs false
namespace Go.Proofs.YtfakbjgbbcigpaaDoor
open Go.RowKit

/-- The order of operands' magnitudes, as the program takes it. -/
def lexO (x y : Opd) : Int := or3 (cmpI x.c y.c) (cmpI x.e y.e) (cmpI (x.M : Int) (y.M : Int))
/-- The order of operands. -/
def ordO (x y : Opd) : Int := if x.s ≠ y.s then y.s - x.s else if x.s = 1 then - lexO x y else lexO x y

theorem pow2_le' {a b : Nat} (h : a ≤ b) : (2 : Int) ^ a ≤ 2 ^ b := by
  have := pow2_mono h
  have e1 : ((2 ^ a : Nat) : Int) ≤ ((2 ^ b : Nat) : Int) := by omega
  rw [pow_cast, pow_cast] at e1
  exact e1

theorem norm_k0 {one m : Int} {k : Nat} (o0 : 0 < one) (hm : one ≤ m) (hg : m * 2 ^ k < 2 * one) : k = 0 := by
  rcases Nat.eq_zero_or_pos k with c | c
  · exact c
  · exfalso
    have h2 := pow2_le' (show 1 ≤ k by omega)
    rw [Int.pow_one] at h2
    have := Int.mul_le_mul_of_nonneg_left h2 (show 0 ≤ m by omega)
    omega

/-- Numbers stand in the order of their words. -/
theorem norm_less {p mx one v e g v' e' g' : Int} (o0 : 0 < one) (v0 : 0 < v) (h : v < v') (hn : NormIs p mx one v e g) (hn' : NormIs p mx one v' e' g') : e < e' ∨ e = e' ∧ g < g' := by
  obtain ⟨k, m, e0, hm, hg, he, h1, h2⟩ := hn
  obtain ⟨k', m', e0', hm', hg', he', h1', h2'⟩ := hn'
  have hr0 := Int.emod_nonneg v (show one ≠ 0 by omega)
  have hr0' := Int.emod_nonneg v' (show one ≠ 0 by omega)
  have hr1 := Int.emod_lt_of_pos v o0
  have hr1' := Int.emod_lt_of_pos v' o0
  rcases hm with ⟨c, rfl, rfl⟩ | ⟨c, rfl, rfl⟩
  · rcases hm' with ⟨c', rfl, rfl⟩ | ⟨c', rfl, rfl⟩
    · rcases Nat.lt_trichotomy k k' with d | d | d
      · exfalso
        have a1 := pow2_le' (show k + 1 ≤ k' by omega)
        have a2 := Int.mul_le_mul_of_nonneg_left a1 (show 0 ≤ m' by omega)
        rw [Int.pow_succ, ← Int.mul_assoc] at a2
        have a3 := Int.mul_le_mul_of_nonneg_right (show m ≤ m' by omega) (show (0 : Int) ≤ 2 ^ k from Int.le_of_lt (Int.pow_pos (by decide)))
        omega
      · subst d
        have a3 := Int.mul_lt_mul_of_pos_right h (show (0 : Int) < 2 ^ k from Int.pow_pos (by decide))
        exact .inr ⟨by omega, by omega⟩
      · exact .inl (by omega)
    · have k1 : 1 ≤ k := by
        rcases Nat.eq_zero_or_pos k with d | d
        · subst d; rw [Int.pow_zero] at hg; omega
        · exact d
      have hk' := norm_k0 o0 (show one ≤ v' % one + one by omega) (by omega) (k := k')
      have := Int.le_ediv_of_mul_le o0 (show 1 * one ≤ v' by omega)
      exact .inl (by omega)
  · rcases hm' with ⟨c', rfl, rfl⟩ | ⟨c', rfl, rfl⟩
    · exfalso; omega
    · have hk := norm_k0 o0 (show one ≤ v % one + one by omega) (by omega) (k := k)
      have hk' := norm_k0 o0 (show one ≤ v' % one + one by omega) (by omega) (k := k')
      subst hk hk'
      rw [Int.pow_zero, Int.mul_one] at hg hg'
      have d1 := Int.ediv_le_ediv o0 (show v ≤ v' by omega)
      have m1 := Int.ediv_mul_add_emod v one
      have m2 := Int.ediv_mul_add_emod v' one
      by_cases q : v / one = v' / one
      · rw [q] at m1 he
        exact .inr ⟨by omega, by omega⟩
      · exact .inl (by omega)

/-- What is asked of an operand's word: its sign and magnitude. -/
def WordIs (inf sg a : Int) (x : Opd) (v : Int) : Prop := (x.s = 0 ∧ a = v ∨ x.s = 1 ∧ a = v + sg) ∧ 0 ≤ v ∧ v ≤ inf ∧ (x.c = 0 ↔ v = 0) ∧ (x.c = 2 ↔ v = inf)

theorem word_is {f p mx one inf sg nan a : Int} (h : IsFmt f p mx one inf sg nan) (a0 : 0 ≤ a) {x : Opd} (hx : OpdIs p mx one inf sg nan a x) (hc : x.c ≤ 2) : a < 2 * sg ∧ ∃ v, WordIs inf sg a x v ∧ (x.c = 1 → NormIs p mx one v x.e (x.M : Int)) ∧ (x.c ≠ 1 → x.e = 0 ∧ x.M = 0) := by
  have hb := h.bounds
  rcases hx with ⟨ha, v, hs, hv⟩ | ⟨_, rfl⟩
  · refine ⟨ha, v, ?_⟩
    unfold WordIs
    rcases hv with ⟨q, c, e, m⟩ | ⟨_, _, c, _⟩ | ⟨_, c, _⟩ | ⟨q, c, e, m⟩ | ⟨q0, q1, c, hn⟩
    · exact ⟨⟨by omega, by omega, by omega, by omega, by omega⟩, fun c' => by omega, fun _ => ⟨e, by omega⟩⟩
    · exfalso; omega
    · exfalso; omega
    · exact ⟨⟨by omega, by omega, by omega, by omega, by omega⟩, fun c' => by omega, fun _ => ⟨e, by omega⟩⟩
    · exact ⟨⟨by omega, by omega, by omega, by omega, by omega⟩, fun _ => hn, fun c' => by omega⟩
  · exfalso; dsimp only at hc; omega

/-- The order of magnitudes is that of the words. -/
theorem lex_word {f p mx one inf sg nan a b : Int} (h : IsFmt f p mx one inf sg nan) {x y : Opd} {v u : Int} (hx : WordIs inf sg a x v) (hy : WordIs inf sg b y u) (x0 : 0 ≤ x.c) (y0 : 0 ≤ y.c) (xc : x.c ≤ 2) (yc : y.c ≤ 2)
    (nx : x.c = 1 → NormIs p mx one v x.e (x.M : Int)) (zx : x.c ≠ 1 → x.e = 0 ∧ x.M = 0) (ny : y.c = 1 → NormIs p mx one u y.e (y.M : Int)) (zy : y.c ≠ 1 → y.e = 0 ∧ y.M = 0) : lexO x y = cmpI v u := by
  obtain ⟨s1, v0, v1, a1, a2⟩ := hx
  obtain ⟨t1, u0, u1, b1, b2⟩ := hy
  have hb := h.bounds
  unfold lexO or3
  rcases Int.lt_trichotomy x.c y.c with c | c | c
  · rw [cmpI_lt c, if_pos (by decide), cmpI_lt (by omega)]
  · rw [cmpI_eq c, if_neg (by decide)]
    by_cases c1 : x.c = 1
    · have n1 := nx c1
      have n2 := ny (by omega)
      rcases Int.lt_trichotomy v u with d | d | d
      · rw [cmpI_lt d]
        rcases norm_less (by omega) (by omega) d n1 n2 with e | ⟨e, e'⟩
        · rw [cmpI_lt e, if_pos (by decide)]
        · rw [cmpI_eq e, if_neg (by decide), cmpI_lt e']
      · subst d
        obtain ⟨e, e'⟩ := NormIs.one (by omega) (by omega) n1 n2
        rw [cmpI_eq e, if_neg (by decide), cmpI_eq e', cmpI_self]
      · rw [cmpI_gt d]
        rcases norm_less (by omega) (by omega) d n2 n1 with e | ⟨e, e'⟩
        · rw [cmpI_gt e, if_pos (by decide)]
        · rw [cmpI_eq e.symm, if_neg (by decide), cmpI_gt e']
    · obtain ⟨e1, e2⟩ := zx c1
      obtain ⟨e3, e4⟩ := zy (by omega)
      rw [e1, e2, e3, e4, cmpI_self, if_neg (by decide), cmpI_self, cmpI_eq (by omega)]
  · rw [cmpI_gt c, if_pos (by decide), cmpI_gt (by omega)]

/-- An operand's order, by words. -/
theorem ord_word {f p mx one inf sg nan a b : Int} (h : IsFmt f p mx one inf sg nan) (a0 : 0 ≤ a) (b0 : 0 ≤ b) {x y : Opd} (hx : OpdIs p mx one inf sg nan a x) (hy : OpdIs p mx one inf sg nan b y) (xc : x.c ≤ 2) (yc : y.c ≤ 2) :
    ∃ v u, WordIs inf sg a x v ∧ WordIs inf sg b y u ∧ lexO x y = cmpI v u := by
  obtain ⟨_, v, w1, n1, z1⟩ := word_is h a0 hx xc
  obtain ⟨_, u, w2, n2, z2⟩ := word_is h b0 hy yc
  exact ⟨v, u, w1, w2, lex_word h w1 w2 (opd_vo h hx).1.c0 (opd_vo h hy).1.c0 xc yc n1 z1 n2 z2⟩
end Go.Proofs.YtfakbjgbbcigpaaDoor
