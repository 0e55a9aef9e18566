/- Sums and products, exactly: what chapter 3 answers; and that a cut number rounds like the whole. -/
import Derived.Test.YtfakbjgbbcigpaaGreatDoorA1
set_option linter.unusedVariables false
namespace Go.Proofs.YtfakbjgbbcigpaaGreatDoor

/-- An operand, or what comes of operands ahead of rounding. -/
structure Opd where
  c : Int
  s : Int
  e : Int
  M : Nat

def nilO (mode : Int) : Opd := ⟨0, if mode = 4 then 1 else 0, 0, 0⟩
def bothM (x y : Opd) : Nat × Nat := (x.M * 2 ^ (x.e - min x.e y.e).toNat, y.M * 2 ^ (y.e - min x.e y.e).toNat)
/-- The sum of two numbers that are not 0. -/
def totO (mode : Int) (x y : Opd) : Opd :=
  if x.s = y.s then ⟨1, x.s, min x.e y.e, (bothM x y).1 + (bothM x y).2⟩
  else if (bothM x y).1 = (bothM x y).2 then nilO mode
  else if (bothM x y).2 < (bothM x y).1 then ⟨1, x.s, min x.e y.e, (bothM x y).1 - (bothM x y).2⟩
  else ⟨1, y.s, min x.e y.e, (bothM x y).2 - (bothM x y).1⟩
def sumO (mode : Int) (x y : Opd) : Opd :=
  if 3 ≤ max x.c y.c then ⟨max x.c y.c, 0, 0, 0⟩
  else if y.c < x.c then x
  else if x.c < y.c then y
  else if x.c = 1 then totO mode x y
  else if x.s = y.s then x
  else if x.c = 2 then ⟨4, 0, 0, 0⟩
  else nilO mode
def mulS (s t : Int) : Int := if s = t then 0 else 1
def prodO (x y : Opd) : Opd :=
  if 3 ≤ max x.c y.c then ⟨max x.c y.c, 0, 0, 0⟩
  else if min x.c y.c = 0 ∧ max x.c y.c = 2 then ⟨4, mulS x.s y.s, x.e + y.e, 0⟩
  else if min x.c y.c = 0 then ⟨0, mulS x.s y.s, x.e + y.e, 0⟩
  else if max x.c y.c = 2 then ⟨2, mulS x.s y.s, x.e + y.e, 0⟩
  else ⟨1, mulS x.s y.s, x.e + y.e, x.M * y.M⟩
def turnO (x : Opd) : Opd := { x with s := 1 - x.s }

/-- The word and the flags of what came out. -/
def PackIs (p mn mx one inf sg nan mode : Int) (o : Opd) (Z fl : Int) : Prop :=
  o.c = 0 ∧ Z = sw o.s sg 0 ∧ fl = 0 ∨
  o.c = 1 ∧ (∃ z, RoundIs p mn mx one inf mode o.s o.M o.e false z fl ∧ Z = sw o.s sg z) ∨
  o.c = 2 ∧ Z = sw o.s sg inf ∧ fl = 0 ∨
  o.c = 3 ∧ Z = nan ∧ fl = 0 ∨
  o.c = 4 ∧ Z = nan ∧ fl = 1

theorem PackIs.one {p mn mx one inf sg nan mode : Int} {o : Opd} {Z fl Z' fl' : Int} (h : PackIs p mn mx one inf sg nan mode o Z fl) (h' : PackIs p mn mx one inf sg nan mode o Z' fl') : Z = Z' ∧ fl = fl' := by
  rcases h with ⟨a, rfl, rfl⟩ | ⟨a, z, hz, rfl⟩ | ⟨a, rfl, rfl⟩ | ⟨a, rfl, rfl⟩ | ⟨a, rfl, rfl⟩ <;>
  rcases h' with ⟨a', rfl, rfl⟩ | ⟨a', z', hz', rfl⟩ | ⟨a', rfl, rfl⟩ | ⟨a', rfl, rfl⟩ | ⟨a', rfl, rfl⟩ <;>
  first | (exfalso; omega) | exact ⟨rfl, rfl⟩ | (obtain ⟨rfl, rfl⟩ := RoundIs.one hz hz'; exact ⟨rfl, rfl⟩)

theorem RoundIs.fl {p mn mx one inf mode sign : Int} {M : Nat} {e : Int} {rest : Bool} {z fl : Int} (h : RoundIs p mn mx one inf mode sign M e rest z fl) : fl = 0 ∨ fl = 16 ∨ fl = 20 ∨ fl = 24 := by
  obtain ⟨top, E, r, r2, hf, h1, h2, h3, h4, h5, hc⟩ := h
  omega

/-- Two operands that stand for the same: a word taken apart and what is made of it. -/
theorem cut_trunc (X k : Nat) (e q : Int) (h : e + k + 1 ≤ q) :
    cutLo X e q = cutLo (X / 2 ^ k) (e + k) q ∧ cutHalf X e q false = cutHalf (X / 2 ^ k) (e + k) q (decide (X % 2 ^ k ≠ 0)) := by
  obtain ⟨d, hd⟩ : ∃ d : Nat, q - (e + k) = (d : Int) := ⟨(q - (e + k)).toNat, by omega⟩
  have hd1 : 1 ≤ d := by omega
  have e1 : (q - e).toNat = k + d := by omega
  have e2 : (q - (e + k)).toNat = d := by omega
  unfold cutLo cutHalf
  rw [if_neg (by omega), if_neg (by omega), if_neg (by omega), if_neg (by omega), e1, e2]
  have a1 : X / 2 ^ (k + d) = X / 2 ^ k / 2 ^ d := by rw [Nat.pow_add, Nat.div_div_eq_div_mul]
  refine ⟨a1, ?_⟩
  unfold hr
  have a2 : X / 2 ^ (k + d - 1) = X / 2 ^ k / 2 ^ (d - 1) := by rw [show k + d - 1 = k + (d - 1) by omega, Nat.pow_add, Nat.div_div_eq_div_mul]
  have a3 : X % 2 ^ (k + d - 1) = X % 2 ^ k + 2 ^ k * (X / 2 ^ k % 2 ^ (d - 1)) := by rw [show k + d - 1 = k + (d - 1) by omega, Nat.pow_add, Nat.mod_mul]
  rw [a2, a3]
  have hp : 0 < 2 ^ k := Nat.pow_pos (by decide)
  have a4 : (X % 2 ^ k + 2 ^ k * (X / 2 ^ k % 2 ^ (d - 1)) ≠ 0 ∨ false = true) ↔ (X / 2 ^ k % 2 ^ (d - 1) ≠ 0 ∨ decide (X % 2 ^ k ≠ 0) = true) := by
    generalize X / 2 ^ k % 2 ^ (d - 1) = R
    generalize X % 2 ^ k = S
    rcases Nat.eq_zero_or_pos R with rfl | hR
    · simp
    · have : 0 < 2 ^ k * R := Nat.mul_pos hp hR
      simp; omega
  simp only [a4]

theorem cutHalf_pos (M : Nat) (e q : Int) (h : q ≤ e) : cutHalf M e q false = 0 := by unfold cutHalf; rw [if_pos h]; rfl
theorem cutHalf_neg (M : Nat) (e q : Int) (rest : Bool) (h : ¬ q ≤ e) : cutHalf M e q rest = hr M (q - e).toNat rest := by unfold cutHalf; rw [if_neg h]

theorem cut_scale (M k : Nat) (e q : Int) : cutLo (M * 2 ^ k) (e - k) q = cutLo M e q ∧ cutHalf (M * 2 ^ k) (e - k) q false = cutHalf M e q false := by
  have hp : 0 < 2 ^ k := Nat.pow_pos (by decide)
  by_cases h : e + 1 ≤ q
  · have := cut_trunc (M * 2 ^ k) k (e - k) q (by omega)
    rw [Nat.mul_div_cancel _ hp, Nat.mul_mod_left, show e - k + k = e by omega] at this
    exact this
  · by_cases h1 : q ≤ e - k
    · rw [cutHalf_pos _ _ _ h1, cutHalf_pos _ _ _ (show q ≤ e by omega)]
      unfold cutLo
      rw [if_pos h1, if_pos (by omega)]
      refine ⟨?_, rfl⟩
      rw [Nat.mul_assoc, ← Nat.pow_add]
      congr 2
      omega
    · rw [cutHalf_neg _ _ _ _ h1, cutHalf_pos _ _ _ (show q ≤ e by omega)]
      unfold cutLo
      rw [if_neg h1, if_pos (by omega)]
      obtain ⟨d, hd⟩ : ∃ d : Nat, (q - (e - k)).toNat = d := ⟨_, rfl⟩
      obtain ⟨j, hj⟩ : ∃ j : Nat, (e - q).toNat = j := ⟨_, rfl⟩
      rw [hd, hj]
      have hk : k = j + d := by omega
      subst hk
      have e1 : M * 2 ^ (j + d) = M * 2 ^ j * 2 ^ d := by rw [Nat.pow_add, Nat.mul_assoc]
      rw [e1, Nat.mul_div_cancel _ (Nat.pow_pos (by decide))]
      refine ⟨rfl, ?_⟩
      exact hr_zero _ d (by omega) (Nat.mul_mod_left _ _)

theorem nb_scale (M k : Nat) (h : 0 < M) : nb (M * 2 ^ k) = nb M + k := by
  have hp : 0 < 2 ^ k := Nat.pow_pos (by decide)
  have := nb_shift (M * 2 ^ k) k (by rw [Nat.mul_div_cancel _ hp]; exact h)
  rw [Nat.mul_div_cancel _ hp] at this
  omega

/-- A number in finer units rounds alike. -/
theorem RoundIs.scale {p mn mx one inf mode sign : Int} {M : Nat} {e z fl : Int} (k : Nat) (hM : 0 < M) : RoundIs p mn mx one inf mode sign (M * 2 ^ k) (e - k) false z fl ↔ RoundIs p mn mx one inf mode sign M e false z fl := by
  unfold RoundIs
  have hn := nb_scale M k hM
  have e1 : ((nb (M * 2 ^ k) : Nat) : Int) + (e - k) - 1 = nb M + e - 1 := by rw [hn]; omega
  rw [e1]
  simp only [(cut_scale M k e _).1, (cut_scale M k e _).2]

/-- A number whose lowest bits are cut away, with the word that there was a rest, rounds alike. -/
theorem RoundIs.trunc {p mn mx one inf mode sign : Int} {X : Nat} {e z fl : Int} (k : Nat) (hX : 0 < X / 2 ^ k) (hp : 0 ≤ p) (hn : X % 2 ^ k ≠ 0 → p + 2 ≤ (nb (X / 2 ^ k) : Int)) :
    RoundIs p mn mx one inf mode sign (X / 2 ^ k) (e + k) (decide (X % 2 ^ k ≠ 0)) z fl ↔ RoundIs p mn mx one inf mode sign X e false z fl := by
  by_cases hc : X % 2 ^ k = 0
  · have e1 : X = X / 2 ^ k * 2 ^ k := by have := Nat.div_add_mod X (2 ^ k); rw [hc, Nat.mul_comm] at this; omega
    have := RoundIs.scale (p := p) (mn := mn) (mx := mx) (one := one) (inf := inf) (mode := mode) (sign := sign) (e := e + k) (z := z) (fl := fl) k hX
    rw [← e1, show e + k - k = e by omega] at this
    rw [this]
    simp [hc]
  · have hn' := hn hc
    have hs := nb_shift X k hX
    constructor
    · rintro ⟨top, E, r, r2, hf, h1, h2, h3, h4, h5, h6⟩
      have t1 := cut_trunc X k e (E - p + 1) (by omega)
      have t2 := cut_trunc X k e (top - p + 1) (by omega)
      refine ⟨top, E, r, r2, hf, by omega, h2, ?_, ?_, ?_, h6⟩
      · rw [t1.2]; exact h3
      · rw [t1.1]; exact h4
      · rw [t2.1, t2.2]; exact h5
    · rintro ⟨top, E, r, r2, hf, h1, h2, h3, h4, h5, h6⟩
      have t1 := cut_trunc X k e (E - p + 1) (by omega)
      have t2 := cut_trunc X k e (top - p + 1) (by omega)
      refine ⟨top, E, r, r2, hf, by omega, h2, ?_, ?_, ?_, h6⟩
      · rw [← t1.2]; exact h3
      · rw [← t1.1]; exact h4
      · rw [← t2.1, ← t2.2]; exact h5
end Go.Proofs.YtfakbjgbbcigpaaGreatDoor

/- What rounding towards zero gives, as a number; quotients and roots lie between it and the next word's. -/
set_option linter.unusedVariables false
set_option linter.unusedSimpArgs false
namespace Go.Proofs.YtfakbjgbbcigpaaGreatDoor

/-- A number in units of 2^-6000. -/
def nv (M : Nat) (e : Int) : Nat := M * 2 ^ (e + 6000).toNat

theorem nv_scale (m k : Nat) (e0 : Int) (h : 0 ≤ e0 - k + 6000) : nv (m * 2 ^ k) (e0 - k) = nv m e0 := by
  unfold nv
  rw [show (e0 + 6000).toNat = k + (e0 - k + 6000).toNat by omega, Nat.pow_add, Nat.mul_assoc]

theorem nv_cut (M : Nat) (e q : Int) (he : 0 ≤ e + 6000) (hq : 0 ≤ q + 6000) : nv (cutLo M e q) q ≤ nv M e ∧ nv M e < nv (cutLo M e q + 1) q := by
  unfold nv cutLo
  split
  · rename_i c
    have h1 : M * 2 ^ (e - q).toNat * 2 ^ (q + 6000).toNat = M * 2 ^ (e + 6000).toNat := by
      rw [Nat.mul_assoc, ← Nat.pow_add, show (e - q).toNat + (q + 6000).toNat = (e + 6000).toNat by omega]
    have h2 : 0 < 2 ^ (q + 6000).toNat := Nat.pow_pos (by decide)
    rw [Nat.add_mul, h1]
    omega
  · rename_i c
    have h1 : 2 ^ (q + 6000).toNat = 2 ^ (q - e).toNat * 2 ^ (e + 6000).toNat := by
      rw [← Nat.pow_add, show (q - e).toNat + (e + 6000).toNat = (q + 6000).toNat by omega]
    have hP : 0 < 2 ^ (q - e).toNat := Nat.pow_pos (by decide)
    have hE : 0 < 2 ^ (e + 6000).toNat := Nat.pow_pos (by decide)
    rw [h1, ← Nat.mul_assoc, ← Nat.mul_assoc]
    have a1 : M / 2 ^ (q - e).toNat * 2 ^ (q - e).toNat ≤ M := Nat.div_mul_le_self _ _
    have a2 : M < (M / 2 ^ (q - e).toNat + 1) * 2 ^ (q - e).toNat := by
      have := Nat.lt_div_mul_add (a := M) hP
      rw [Nat.add_mul]; omega
    exact ⟨Nat.mul_le_mul_right _ a1, Nat.mul_lt_mul_of_pos_right a2 hE⟩

theorem up_zero (s : Int) (lo half : Nat) : up 2 s lo half = false := by
  unfold up
  exact decide_eq_false (by omega)

/-- Towards zero: the word's number, and what lies above it. -/
theorem RoundIs.zeroWay {p mx one inf s : Int} {M : Nat} {e : Int} {z fl : Int} (h : RoundIs p (1 - mx) mx one inf 2 s M e false z fl) (P : Nat) (hp : p = P + 1) (ho : one = ((2 ^ P : Nat) : Int)) (hf : fl ≠ 20) :
    ∃ E : Int, (1 - mx ≤ E ∧ E ≤ mx ∨ E = 1 - mx) ∧ nb M + e - 1 ≤ E ∧ z = (cutLo M e (E - p + 1) : Int) + one * (E - (1 - mx)) ∧ (cutLo M e (E - p + 1) : Int) < 2 * one ∧ (E = 1 - mx ∨ 0 < M → one ≤ (cutLo M e (E - p + 1) : Int) ∨ E = 1 - mx) ∧ z < inf := by
  obtain ⟨top, E, r, r2, hf', h1, h2, h3, h4, h5, hc⟩ := h
  have hr : r = cutLo M e (E - p + 1) := by rw [h4]; unfold chosen; rw [up_zero]; simp
  have hlt := cutLo_lt M e (E - p + 1) (P + 1) (by omega)
  rw [Nat.pow_succ] at hlt
  rcases hc with ⟨_, _, c⟩ | ⟨_, _, _, c⟩ | ⟨c1, c2, c3, _⟩
  · exact absurd c hf
  · exact absurd c hf
  · refine ⟨E, by omega, by omega, by rw [← hr]; exact c3, by omega, fun hM => ?_, by omega⟩
    rcases h2 with ⟨a, b⟩ | ⟨a, b⟩
    · exact .inr b
    · rcases hM with hM | hM
      · exact .inr hM
      · left
        have := cutLo_ge M e (E - p + 1) P hM (by omega)
        omega

/-- The number of a word l + one * (E - mn). -/
theorem word_nv {p mx one v E m e0 : Int} (l : Nat) (P : Nat) (hp : p = P + 1) (ho : one = ((2 ^ P : Nat) : Int)) (hE : 1 - mx ≤ E) (hl : (l : Int) ≤ 2 * one) (hb : E = 1 - mx ∨ one ≤ (l : Int)) (hv : v = (l : Int) + one * (E - (1 - mx)))
    (hq : 0 ≤ E - p + 1 + 6000) (hm : v < one ∧ m = v ∧ e0 = 2 - mx - p ∨ one ≤ v ∧ m = v % one + one ∧ e0 = 1 - mx - p + v / one) : 0 ≤ m ∧ nv m.toNat e0 = nv l (E - p + 1) := by
  have o0 : 0 < one := by rw [ho]; exact Int.natCast_pos.mpr (Nat.pow_pos (by decide))
  by_cases c : (l : Int) < one
  · have hE' : E = 1 - mx := by omega
    rw [hE', Int.sub_self, Int.mul_zero] at hv
    rcases hm with ⟨a, b, d⟩ | ⟨a, b, d⟩
    · rw [b, hv, d]
      refine ⟨by omega, ?_⟩
      rw [Int.add_zero, Int.toNat_natCast, show 2 - mx - p = E - p + 1 by omega]
    · exfalso; omega
  · obtain ⟨k, hk⟩ : ∃ k : Nat, E - (1 - mx) = k := ⟨(E - (1 - mx)).toNat, by omega⟩
    rw [hk] at hv
    have hk0 : 0 ≤ one * (k : Int) := Int.mul_nonneg (by omega) (by omega)
    rcases hm with ⟨a, b, d⟩ | ⟨a, b, d⟩
    · exfalso; omega
    · by_cases c2 : (l : Int) = 2 * one
      · have hv2 : v = 0 + one * ((k : Int) + 2) := by rw [hv, c2, Int.mul_add]; omega
        have hm1 : v % one = 0 := by rw [hv2, Int.add_mul_emod_self_left]; rfl
        have hd1 : v / one = (k : Int) + 2 := by rw [hv2, Int.add_mul_ediv_left _ _ (by omega)]; simp
        rw [b, d, hm1, hd1]
        refine ⟨by omega, ?_⟩
        have h3 : l = (0 + one).toNat * 2 ^ 1 := by omega
        rw [h3, show E - p + 1 = (1 - mx - p + ((k : Int) + 2)) - ((1 : Nat) : Int) by omega, nv_scale _ _ _ (by omega)]
      · have hv2 : v = ((l : Int) - one) + one * ((k : Int) + 1) := by rw [hv, Int.mul_add]; omega
        have hm1 : v % one = (l : Int) - one := by rw [hv2, Int.add_mul_emod_self_left]; exact Int.emod_eq_of_lt (by omega) (by omega)
        have hd1 : v / one = (k : Int) + 1 := by rw [hv2, Int.add_mul_ediv_left _ _ (by omega), Int.ediv_eq_zero_of_lt (by omega) (by omega)]; omega
        rw [b, d, hm1, hd1]
        refine ⟨by omega, ?_⟩
        rw [show ((l : Int) - one + one).toNat = l by omega, show 1 - mx - p + ((k : Int) + 1) = E - p + 1 by omega]

/-- A quotient with a digit that says whether more follows, cut. -/
theorem quoz_cut (A B k d s : Nat) (hB : 0 < B) (hs : s ≤ 1) :
    (2 * (A * 2 ^ k / B) + s) / 2 ^ (d + 1) * (B * 2 ^ d) ≤ A * 2 ^ k ∧ A * 2 ^ k < ((2 * (A * 2 ^ k / B) + s) / 2 ^ (d + 1) + 1) * (B * 2 ^ d) := by
  have h1 : (2 * (A * 2 ^ k / B) + s) / 2 ^ (d + 1) = A * 2 ^ k / (B * 2 ^ d) := by
    rw [Nat.pow_succ, Nat.mul_comm (2 ^ d) 2, ← Nat.div_div_eq_div_mul, show (2 * (A * 2 ^ k / B) + s) / 2 = A * 2 ^ k / B by omega, Nat.div_div_eq_div_mul]
  rw [h1]
  have hP : 0 < B * 2 ^ d := Nat.mul_pos hB (Nat.pow_pos (by decide))
  refine ⟨Nat.div_mul_le_self _ _, ?_⟩
  have := Nat.lt_div_mul_add (a := A * 2 ^ k) hP
  rw [Nat.add_mul]; omega

/-- The same of a root. -/
theorem rootz_cut (N R d s : Nat) (h1 : R * R ≤ N) (h2 : N < (R + 1) * (R + 1)) (hs : s ≤ 1) :
    ((2 * R + s) / 2 ^ (d + 1) * 2 ^ d) * ((2 * R + s) / 2 ^ (d + 1) * 2 ^ d) ≤ N ∧ N < (((2 * R + s) / 2 ^ (d + 1) + 1) * 2 ^ d) * (((2 * R + s) / 2 ^ (d + 1) + 1) * 2 ^ d) := by
  have e1 : (2 * R + s) / 2 ^ (d + 1) = R / 2 ^ d := by
    rw [Nat.pow_succ, Nat.mul_comm (2 ^ d) 2, ← Nat.div_div_eq_div_mul, show (2 * R + s) / 2 = R by omega]
  rw [e1]
  have hP : 0 < 2 ^ d := Nat.pow_pos (by decide)
  have a1 : R / 2 ^ d * 2 ^ d ≤ R := Nat.div_mul_le_self _ _
  have a2 : R + 1 ≤ (R / 2 ^ d + 1) * 2 ^ d := by
    have := Nat.lt_div_mul_add (a := R) hP
    rw [Nat.add_mul]; omega
  exact ⟨Nat.le_trans (Nat.mul_le_mul a1 a1) h1, Nat.lt_of_lt_of_le h2 (Nat.mul_le_mul a2 a2)⟩

/-- Nothing is lost where there is no half and no rest. -/
theorem cutz_none (M : Nat) (e q : Int) (hM : 0 < M) (h0 : cutLo M e q = 0) : 0 < cutHalf M e q false := by
  unfold cutLo at h0
  unfold cutHalf
  split at h0
  · exfalso
    have := Nat.mul_pos hM (Nat.pow_pos (n := (e - q).toNat) (show 0 < 2 by decide))
    omega
  · rename_i c
    rw [if_neg c]
    unfold hr
    have hP : 0 < 2 ^ (q - e).toNat := Nat.pow_pos (by decide)
    have hlt : M < 2 ^ (q - e).toNat := by
      rcases Nat.lt_or_ge M (2 ^ (q - e).toNat) with c | c
      · exact c
      · have := Nat.div_pos c hP; omega
    obtain ⟨d, hd⟩ : ∃ d, (q - e).toNat = d + 1 := ⟨(q - e).toNat - 1, by omega⟩
    rw [hd, Nat.pow_succ] at hlt
    rw [hd, Nat.add_sub_cancel]
    by_cases c1 : M % 2 ^ d = 0
    · have h2 : M / 2 ^ d % 2 = 1 := by
        have h3 := Nat.div_add_mod M (2 ^ d)
        have h4 : M / 2 ^ d < 2 := by rw [Nat.div_lt_iff_lt_mul (Nat.pow_pos (by decide))]; omega
        have h5 : M / 2 ^ d ≠ 0 := fun h => by rw [h, c1] at h3; omega
        clear h3
        generalize M / 2 ^ d = t at *
        omega
      rw [if_pos h2]; omega
    · rw [if_pos (show M % 2 ^ d ≠ 0 ∨ false = true from .inl c1)]; omega

/-- Upwards, a number greater than 0 does not become 0. -/
theorem RoundIs.upPos {p mn mx one inf : Int} {M : Nat} {e : Int} {z fl : Int} (h : RoundIs p mn mx one inf 3 0 M e false z fl) (hM : 0 < M) (hi : 0 < inf) (ho : 0 ≤ one) : 0 < z ∧ z ≤ inf := by
  obtain ⟨top, E, r, r2, hf', h1, h2, h3, h4, h5, hc⟩ := h
  have hov : ovMag inf 3 0 = inf := by unfold ovMag; rw [if_pos (by omega)]
  rcases hc with ⟨_, c, _⟩ | ⟨_, _, c, _⟩ | ⟨c1, c2, c3, _⟩
  · rw [c, hov]; omega
  · rw [c, hov]; omega
  · have hr : 0 < r := by
      rw [h4]
      unfold chosen
      by_cases c0 : cutLo M e (E - p + 1) = 0
      · have := cutz_none M e (E - p + 1) hM c0
        rw [if_pos (by unfold up; exact decide_eq_true (by omega))]
        omega
      · omega
    have : 0 ≤ one * (E - mn) := Int.mul_nonneg ho (by omega)
    omega
end Go.Proofs.YtfakbjgbbcigpaaGreatDoor
