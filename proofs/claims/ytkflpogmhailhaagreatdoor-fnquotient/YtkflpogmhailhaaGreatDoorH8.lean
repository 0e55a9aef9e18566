/- What rounding towards zero gives, as a number; quotients and roots lie between it and the next word's. -/
import Derived.Test.YtkflpogmhailhaaGreatDoorA6
import Derived.Test.YtkflpogmhailhaaGreatDoorC0
import Derived.Test.YtkflpogmhailhaaGreatDoorH6
import Derived.Test.YtkflpogmhailhaaGreatDoorH7
set_option linter.unusedVariables false
set_option linter.unusedSimpArgs false
namespace Go.Proofs.YtkflpogmhailhaaGreatDoor

/-- A number in units of 2^-6000. -/
def nv (M : Nat) (e : Int) : Nat := M * 2 ^ (e + 6000).toNat

theorem nv_scale (m k : Nat) (e0 : Int) (h : 0 ≤ e0 - k + 6000) : nv (m * 2 ^ k) (e0 - k) = nv m e0 := by
  unfold nv
  rw [show (e0 + 6000).toNat = k + (e0 - k + 6000).toNat by omega, Nat.pow_add, Nat.mul_assoc]

theorem nv_cut (M : Nat) (e q : Int) (he : 0 ≤ e + 6000) (hq : 0 ≤ q + 6000) : nv (cutLo M e q) q ≤ nv M e ∧ nv M e < nv (cutLo M e q + 1) q := by
  unfold nv cutLo
  split
  · rename_i c
    have h1 : M * 2 ^ (e - q).toNat * 2 ^ (q + 6000).toNat = M * 2 ^ (e + 6000).toNat := by
      rw [Nat.mul_assoc, ← Nat.pow_add, show (e - q).toNat + (q + 6000).toNat = (e + 6000).toNat by omega]
    have h2 : 0 < 2 ^ (q + 6000).toNat := Nat.pow_pos (by decide)
    rw [Nat.add_mul, h1]
    omega
  · rename_i c
    have h1 : 2 ^ (q + 6000).toNat = 2 ^ (q - e).toNat * 2 ^ (e + 6000).toNat := by
      rw [← Nat.pow_add, show (q - e).toNat + (e + 6000).toNat = (q + 6000).toNat by omega]
    have hP : 0 < 2 ^ (q - e).toNat := Nat.pow_pos (by decide)
    have hE : 0 < 2 ^ (e + 6000).toNat := Nat.pow_pos (by decide)
    rw [h1, ← Nat.mul_assoc, ← Nat.mul_assoc]
    have a1 : M / 2 ^ (q - e).toNat * 2 ^ (q - e).toNat ≤ M := Nat.div_mul_le_self _ _
    have a2 : M < (M / 2 ^ (q - e).toNat + 1) * 2 ^ (q - e).toNat := by
      have := Nat.lt_div_mul_add (a := M) hP
      rw [Nat.add_mul]; omega
    exact ⟨Nat.mul_le_mul_right _ a1, Nat.mul_lt_mul_of_pos_right a2 hE⟩

theorem up_zero (s : Int) (lo half : Nat) : up 2 s lo half = false := by
  unfold up
  exact decide_eq_false (by omega)

/-- Towards zero: the word's number, and what lies above it. -/
theorem RoundIs.zeroWay {p mx one inf s : Int} {M : Nat} {e : Int} {z fl : Int} (h : RoundIs p (1 - mx) mx one inf 2 s M e false z fl) (P : Nat) (hp : p = P + 1) (ho : one = ((2 ^ P : Nat) : Int)) (hf : fl ≠ 20) :
    ∃ E : Int, (1 - mx ≤ E ∧ E ≤ mx ∨ E = 1 - mx) ∧ nb M + e - 1 ≤ E ∧ z = (cutLo M e (E - p + 1) : Int) + one * (E - (1 - mx)) ∧ (cutLo M e (E - p + 1) : Int) < 2 * one ∧ (E = 1 - mx ∨ 0 < M → one ≤ (cutLo M e (E - p + 1) : Int) ∨ E = 1 - mx) ∧ z < inf := by
  obtain ⟨top, E, r, r2, hf', h1, h2, h3, h4, h5, hc⟩ := h
  have hr : r = cutLo M e (E - p + 1) := by rw [h4]; unfold chosen; rw [up_zero]; simp
  have hlt := cutLo_lt M e (E - p + 1) (P + 1) (by omega)
  rw [Nat.pow_succ] at hlt
  rcases hc with ⟨_, _, c⟩ | ⟨_, _, _, c⟩ | ⟨c1, c2, c3, _⟩
  · exact absurd c hf
  · exact absurd c hf
  · refine ⟨E, by omega, by omega, by rw [← hr]; exact c3, by omega, fun hM => ?_, by omega⟩
    rcases h2 with ⟨a, b⟩ | ⟨a, b⟩
    · exact .inr b
    · rcases hM with hM | hM
      · exact .inr hM
      · left
        have := cutLo_ge M e (E - p + 1) P hM (by omega)
        omega

/-- The number of a word l + one * (E - mn). -/
theorem word_nv {p mx one v E m e0 : Int} (l : Nat) (P : Nat) (hp : p = P + 1) (ho : one = ((2 ^ P : Nat) : Int)) (hE : 1 - mx ≤ E) (hl : (l : Int) ≤ 2 * one) (hb : E = 1 - mx ∨ one ≤ (l : Int)) (hv : v = (l : Int) + one * (E - (1 - mx)))
    (hq : 0 ≤ E - p + 1 + 6000) (hm : v < one ∧ m = v ∧ e0 = 2 - mx - p ∨ one ≤ v ∧ m = v % one + one ∧ e0 = 1 - mx - p + v / one) : 0 ≤ m ∧ nv m.toNat e0 = nv l (E - p + 1) := by
  have o0 : 0 < one := by rw [ho]; exact Int.natCast_pos.mpr (Nat.pow_pos (by decide))
  by_cases c : (l : Int) < one
  · have hE' : E = 1 - mx := by omega
    rw [hE', Int.sub_self, Int.mul_zero] at hv
    rcases hm with ⟨a, b, d⟩ | ⟨a, b, d⟩
    · rw [b, hv, d]
      refine ⟨by omega, ?_⟩
      rw [Int.add_zero, Int.toNat_natCast, show 2 - mx - p = E - p + 1 by omega]
    · exfalso; omega
  · obtain ⟨k, hk⟩ : ∃ k : Nat, E - (1 - mx) = k := ⟨(E - (1 - mx)).toNat, by omega⟩
    rw [hk] at hv
    have hk0 : 0 ≤ one * (k : Int) := Int.mul_nonneg (by omega) (by omega)
    rcases hm with ⟨a, b, d⟩ | ⟨a, b, d⟩
    · exfalso; omega
    · by_cases c2 : (l : Int) = 2 * one
      · have hv2 : v = 0 + one * ((k : Int) + 2) := by rw [hv, c2, Int.mul_add]; omega
        have hm1 : v % one = 0 := by rw [hv2, Int.add_mul_emod_self_left]; rfl
        have hd1 : v / one = (k : Int) + 2 := by rw [hv2, Int.add_mul_ediv_left _ _ (by omega)]; simp
        rw [b, d, hm1, hd1]
        refine ⟨by omega, ?_⟩
        have h3 : l = (0 + one).toNat * 2 ^ 1 := by omega
        rw [h3, show E - p + 1 = (1 - mx - p + ((k : Int) + 2)) - ((1 : Nat) : Int) by omega, nv_scale _ _ _ (by omega)]
      · have hv2 : v = ((l : Int) - one) + one * ((k : Int) + 1) := by rw [hv, Int.mul_add]; omega
        have hm1 : v % one = (l : Int) - one := by rw [hv2, Int.add_mul_emod_self_left]; exact Int.emod_eq_of_lt (by omega) (by omega)
        have hd1 : v / one = (k : Int) + 1 := by rw [hv2, Int.add_mul_ediv_left _ _ (by omega), Int.ediv_eq_zero_of_lt (by omega) (by omega)]; omega
        rw [b, d, hm1, hd1]
        refine ⟨by omega, ?_⟩
        rw [show ((l : Int) - one + one).toNat = l by omega, show 1 - mx - p + ((k : Int) + 1) = E - p + 1 by omega]

/-- A quotient with a digit that says whether more follows, cut. -/
theorem quoz_cut (A B k d s : Nat) (hB : 0 < B) (hs : s ≤ 1) :
    (2 * (A * 2 ^ k / B) + s) / 2 ^ (d + 1) * (B * 2 ^ d) ≤ A * 2 ^ k ∧ A * 2 ^ k < ((2 * (A * 2 ^ k / B) + s) / 2 ^ (d + 1) + 1) * (B * 2 ^ d) := by
  have h1 : (2 * (A * 2 ^ k / B) + s) / 2 ^ (d + 1) = A * 2 ^ k / (B * 2 ^ d) := by
    rw [Nat.pow_succ, Nat.mul_comm (2 ^ d) 2, ← Nat.div_div_eq_div_mul, show (2 * (A * 2 ^ k / B) + s) / 2 = A * 2 ^ k / B by omega, Nat.div_div_eq_div_mul]
  rw [h1]
  have hP : 0 < B * 2 ^ d := Nat.mul_pos hB (Nat.pow_pos (by decide))
  refine ⟨Nat.div_mul_le_self _ _, ?_⟩
  have := Nat.lt_div_mul_add (a := A * 2 ^ k) hP
  rw [Nat.add_mul]; omega

/-- The same of a root. -/
theorem rootz_cut (N R d s : Nat) (h1 : R * R ≤ N) (h2 : N < (R + 1) * (R + 1)) (hs : s ≤ 1) :
    ((2 * R + s) / 2 ^ (d + 1) * 2 ^ d) * ((2 * R + s) / 2 ^ (d + 1) * 2 ^ d) ≤ N ∧ N < (((2 * R + s) / 2 ^ (d + 1) + 1) * 2 ^ d) * (((2 * R + s) / 2 ^ (d + 1) + 1) * 2 ^ d) := by
  have e1 : (2 * R + s) / 2 ^ (d + 1) = R / 2 ^ d := by
    rw [Nat.pow_succ, Nat.mul_comm (2 ^ d) 2, ← Nat.div_div_eq_div_mul, show (2 * R + s) / 2 = R by omega]
  rw [e1]
  have hP : 0 < 2 ^ d := Nat.pow_pos (by decide)
  have a1 : R / 2 ^ d * 2 ^ d ≤ R := Nat.div_mul_le_self _ _
  have a2 : R + 1 ≤ (R / 2 ^ d + 1) * 2 ^ d := by
    have := Nat.lt_div_mul_add (a := R) hP
    rw [Nat.add_mul]; omega
  exact ⟨Nat.le_trans (Nat.mul_le_mul a1 a1) h1, Nat.lt_of_lt_of_le h2 (Nat.mul_le_mul a2 a2)⟩

/-- Nothing is lost where there is no half and no rest. -/
theorem cutz_none (M : Nat) (e q : Int) (hM : 0 < M) (h0 : cutLo M e q = 0) : 0 < cutHalf M e q false := by
  unfold cutLo at h0
  unfold cutHalf
  split at h0
  · exfalso
    have := Nat.mul_pos hM (Nat.pow_pos (n := (e - q).toNat) (show 0 < 2 by decide))
    omega
  · rename_i c
    rw [if_neg c]
    unfold hr
    have hP : 0 < 2 ^ (q - e).toNat := Nat.pow_pos (by decide)
    have hlt : M < 2 ^ (q - e).toNat := by
      rcases Nat.lt_or_ge M (2 ^ (q - e).toNat) with c | c
      · exact c
      · have := Nat.div_pos c hP; omega
    obtain ⟨d, hd⟩ : ∃ d, (q - e).toNat = d + 1 := ⟨(q - e).toNat - 1, by omega⟩
    rw [hd, Nat.pow_succ] at hlt
    rw [hd, Nat.add_sub_cancel]
    by_cases c1 : M % 2 ^ d = 0
    · have h2 : M / 2 ^ d % 2 = 1 := by
        have h3 := Nat.div_add_mod M (2 ^ d)
        have h4 : M / 2 ^ d < 2 := by rw [Nat.div_lt_iff_lt_mul (Nat.pow_pos (by decide))]; omega
        have h5 : M / 2 ^ d ≠ 0 := fun h => by rw [h, c1] at h3; omega
        clear h3
        generalize M / 2 ^ d = t at *
        omega
      rw [if_pos h2]; omega
    · rw [if_pos (show M % 2 ^ d ≠ 0 ∨ false = true from .inl c1)]; omega

/-- Upwards, a number greater than 0 does not become 0. -/
theorem RoundIs.upPos {p mn mx one inf : Int} {M : Nat} {e : Int} {z fl : Int} (h : RoundIs p mn mx one inf 3 0 M e false z fl) (hM : 0 < M) (hi : 0 < inf) (ho : 0 ≤ one) : 0 < z ∧ z ≤ inf := by
  obtain ⟨top, E, r, r2, hf', h1, h2, h3, h4, h5, hc⟩ := h
  have hov : ovMag inf 3 0 = inf := by unfold ovMag; rw [if_pos (by omega)]
  rcases hc with ⟨_, c, _⟩ | ⟨_, _, c, _⟩ | ⟨c1, c2, c3, _⟩
  · rw [c, hov]; omega
  · rw [c, hov]; omega
  · have hr : 0 < r := by
      rw [h4]
      unfold chosen
      by_cases c0 : cutLo M e (E - p + 1) = 0
      · have := cutz_none M e (E - p + 1) hM c0
        rw [if_pos (by unfold up; exact decide_eq_true (by omega))]
        omega
      · omega
    have : 0 ≤ one * (E - mn) := Int.mul_nonneg ho (by omega)
    omega
end Go.Proofs.YtkflpogmhailhaaGreatDoor

/- A word's number. -/
set_option linter.unusedVariables false
set_option linter.unusedSimpArgs false
namespace Go.Proofs.YtkflpogmhailhaaGreatDoor
open Go.RowKit

theorem fmt_pow {f p mx one inf sg nan : Int} (h : IsFmt f p mx one inf sg nan) : ∃ P : Nat, p = P + 1 ∧ one = ((2 ^ P : Nat) : Int) ∧ P ≤ 52 := by
  rcases h with h | h
  · exact ⟨23, by omega, by rw [h.2.2.2.1]; decide, by omega⟩
  · exact ⟨52, by omega, by rw [h.2.2.2.1]; decide, by omega⟩

/-- A word's number. -/
theorem opd_nv {f p mx one inf sg nan v : Int} (h : IsFmt f p mx one inf sg nan) {u : Opd} (hu : OpdIs p mx one inf sg nan v u) (l : Nat) (E : Int) (hE : 1 - mx ≤ E) (hl : (l : Int) ≤ 2 * one) (hb : E = 1 - mx ∨ one ≤ (l : Int)) (hv : v = (l : Int) + one * (E - (1 - mx))) (v1 : v < inf) :
    u.s = 0 ∧ (u.c = 0 ∨ u.c = 1) ∧ nv u.M u.e = nv l (E - p + 1) := by
  obtain ⟨P, hp, ho, hP⟩ := fmt_pow h
  have hb' := h.bounds
  have hk0 : 0 ≤ one * (E - (1 - mx)) := Int.mul_nonneg (by omega) (by omega)
  rcases hu with ⟨_, v', hs, hv'⟩ | ⟨c, _⟩
  · have hs' : u.s = 0 ∧ v' = v := by omega
    refine ⟨hs'.1, ?_⟩
    rw [hs'.2] at hv'
    rcases hv' with ⟨e0, c0, _, hM⟩ | ⟨_, _, c0, _⟩ | ⟨_, c0, _⟩ | ⟨_, c0, _⟩ | ⟨v0, _, c0, hn⟩
    · refine ⟨.inl c0, ?_⟩
      have hl0 : l = 0 := by omega
      have hM0 : u.M = 0 := by omega
      rw [hl0, hM0]; unfold nv; simp
    · exfalso; omega
    · exfalso; omega
    · exfalso; omega
    · refine ⟨.inr c0, ?_⟩
      obtain ⟨_, _, n0, _⟩ := norm_bounds h v0 v1 hn
      obtain ⟨k, m, e0, hm, hg, he, _, _⟩ := hn
      obtain ⟨m0, hsv⟩ := word_nv l P hp ho hE hl hb hv (by omega) hm
      have hM : u.M = m.toNat * 2 ^ k := by
        have h1 : ((u.M : Nat) : Int) = ((m.toNat * 2 ^ k : Nat) : Int) := by
          rw [hg, Int.natCast_mul, Int.toNat_of_nonneg m0, Int.natCast_pow]; rfl
        exact Int.ofNat.inj h1
      rw [hM, he, nv_scale _ _ _ (by omega)]
      exact hsv
  · exfalso; omega

end Go.Proofs.YtkflpogmhailhaaGreatDoor

/- Quotients and roots rounded towards zero lie between the word's number and the next word's. -/
set_option linter.unusedVariables false
set_option linter.unusedSimpArgs false
namespace Go.Proofs.YtkflpogmhailhaaGreatDoor
open Go.RowKit

theorem pow_le_nb {M k : Nat} (h : 2 ^ k ≤ M) : k < nb M := by
  have h1 := nb_lt M
  rcases Nat.lt_or_ge k (nb M) with c | c
  · exact c
  · have := pow2_mono c; omega

/-- 6000, kept from being worked out. -/
def nvN : Nat := 6000
theorem nvN_is : nvN = 6000 := rfl

theorem nv_mul (A B : Nat) (e g : Int) (he : 0 ≤ e + 6000) (hg : 0 ≤ g + 6000) (hs : 0 ≤ e + g + 6000) : nv A e * nv B g = nv (A * B) (e + g) * 2 ^ nvN := by
  have hN := nvN_is
  unfold nv
  rw [Nat.mul_assoc (A * B), ← Nat.pow_add, show (e + g + 6000).toNat + nvN = (e + 6000).toNat + (g + 6000).toNat by omega, Nat.pow_add]
  simp only [Nat.mul_assoc, Nat.mul_comm, Nat.mul_left_comm]

/-- The quotient towards zero. -/
theorem quo_between {f p mx one inf sg nan : Int} (h : IsFmt f p mx one inf sg nan) {A B : Nat} {xe ye s z fl : Int} (hA : one ≤ (A : Int)) (hA2 : (A : Int) < 2 * one) (hB : one ≤ (B : Int)) (hB2 : (B : Int) < 2 * one) (x0 : -2000 ≤ xe) (x1 : xe ≤ 2000) (y0 : -2000 ≤ ye) (y1 : ye ≤ 2000)
    (hr : RoundIs p (1 - mx) mx one inf 2 s (quoM p.toNat A B) (xe - ye - (p + 4) - 1) false z fl) (hf : fl ≠ 20) :
    ∃ (l : Nat) (E : Int), 1 - mx ≤ E ∧ (l : Int) < 2 * one ∧ (E = 1 - mx ∨ one ≤ (l : Int)) ∧ z = (l : Int) + one * (E - (1 - mx)) ∧ z < inf ∧ 0 ≤ E - p + 1 + 6000 ∧
      nv l (E - p + 1) * nv B ye ≤ nv A xe * 2 ^ nvN ∧ nv A xe * 2 ^ nvN < nv (l + 1) (E - p + 1) * nv B ye := by
  obtain ⟨P, hp, ho, hP⟩ := fmt_pow h
  have hb := h.bounds
  have hB0 : 0 < B := by omega
  have hpn : p.toNat = P + 1 := by omega
  have hq : 2 ^ (P + 4) ≤ A * 2 ^ (p.toNat + 4) / B := by
    rw [Nat.le_div_iff_mul_le hB0, hpn, show P + 1 + 4 = P + 4 + 1 by omega, Nat.pow_succ 2 (P + 4), Nat.mul_comm A, Nat.mul_assoc]
    exact Nat.mul_le_mul_left _ (by omega)
  have hM : 2 ^ (P + 5) ≤ quoM p.toNat A B := by unfold quoM; rw [Nat.pow_succ]; omega
  have hn := pow_le_nb hM
  obtain ⟨E, hE, hE2, hz, hl, hc, hi⟩ := hr.zeroWay P hp ho hf
  have hM0 : 0 < quoM p.toNat A B := Nat.lt_of_lt_of_le (Nat.pow_pos (by decide)) hM
  refine ⟨_, E, by omega, hl, by have := hc (.inr hM0); omega, hz, hi, by omega, ?_⟩
  obtain ⟨d, hd⟩ : ∃ d : Nat, E - p + 1 = xe - ye - (p + 4) - 1 + (d + 1 : Nat) := ⟨(E - p + 1 - (xe - ye - (p + 4))).toNat, by omega⟩
  have hcut : cutLo (quoM p.toNat A B) (xe - ye - (p + 4) - 1) (E - p + 1) = quoM p.toNat A B / 2 ^ (d + 1) := by
    unfold cutLo
    rw [if_neg (by omega), show (E - p + 1 - (xe - ye - (p + 4) - 1)).toNat = d + 1 by omega]
  rw [hcut]
  obtain ⟨q1, q2⟩ := quoz_cut A B (p.toNat + 4) d (oneIf (decide (A * 2 ^ (p.toNat + 4) % B ≠ 0))) hB0 (oneIf_le _)
  have hqm : quoM p.toNat A B = 2 * (A * 2 ^ (p.toNat + 4) / B) + oneIf (decide (A * 2 ^ (p.toNat + 4) % B ≠ 0)) := rfl
  rw [← hqm] at q1 q2
  generalize quoM p.toNat A B / 2 ^ (d + 1) = L at *
  have key : ∀ t : Nat, nv t (E - p + 1) * nv B ye = t * (B * 2 ^ d) * 2 ^ (xe - (p + 4) + 12000).toNat := fun t => by
    unfold nv
    rw [show t * (B * 2 ^ d) * 2 ^ (xe - (p + 4) + 12000).toNat = t * B * (2 ^ d * 2 ^ (xe - (p + 4) + 12000).toNat) by simp only [Nat.mul_assoc], ← Nat.pow_add,
      show d + (xe - (p + 4) + 12000).toNat = (E - p + 1 + 6000).toNat + (ye + 6000).toNat by omega, Nat.pow_add]
    simp only [Nat.mul_assoc, Nat.mul_comm, Nat.mul_left_comm]
  have key2 : nv A xe * 2 ^ nvN = A * 2 ^ (p.toNat + 4) * 2 ^ (xe - (p + 4) + 12000).toNat := by
    have hN := nvN_is
    unfold nv
    rw [Nat.mul_assoc, Nat.mul_assoc, ← Nat.pow_add, ← Nat.pow_add, show (xe + 6000).toNat + nvN = p.toNat + 4 + (xe - (p + 4) + 12000).toNat by omega]
  rw [key, key, key2]
  exact ⟨Nat.mul_le_mul_right _ q1, Nat.mul_lt_mul_of_pos_right q2 (Nat.pow_pos (by decide))⟩

/-- The root towards zero. -/
theorem root_between {f p mx one inf sg nan : Int} (h : IsFmt f p mx one inf sg nan) {A : Nat} {xe s z fl : Int} (hA : one ≤ (A : Int)) (hA2 : (A : Int) < 2 * one) (x0 : -2000 ≤ xe) (x1 : xe ≤ 2000)
    (hr : RoundIs p (1 - mx) mx one inf 2 s (sqM (sqPl p xe) A) ((xe - sqPl p xe) / 2 - 1) false z fl) (hf : fl ≠ 20) :
    ∃ (l : Nat) (E : Int), 1 - mx ≤ E ∧ (l : Int) < 2 * one ∧ (E = 1 - mx ∨ one ≤ (l : Int)) ∧ z = (l : Int) + one * (E - (1 - mx)) ∧ z < inf ∧ 0 ≤ E - p + 1 + 6000 ∧
      nv l (E - p + 1) * nv l (E - p + 1) ≤ nv A xe * 2 ^ nvN ∧ nv A xe * 2 ^ nvN < nv (l + 1) (E - p + 1) * nv (l + 1) (E - p + 1) := by
  obtain ⟨P, hp, ho, hP⟩ := fmt_pow h
  have hb := h.bounds
  have hN := nvN_is
  have hpl : (sqPl p xe = P + 9 ∨ sqPl p xe = P + 10) ∧ (xe - (sqPl p xe : Int)) % 2 = 0 := by
    unfold sqPl; split <;> omega
  obtain ⟨r1, r2⟩ := rootN_is (A * 2 ^ sqPl p xe)
  have hA3 : 2 ^ P ≤ A := by omega
  have hbig : 2 ^ (P + 4) * 2 ^ (P + 4) ≤ A * 2 ^ sqPl p xe := by
    rw [← Nat.pow_add, show P + 4 + (P + 4) = P + (P + 8) by omega, Nat.pow_add]
    exact Nat.mul_le_mul hA3 (pow2_mono (by omega))
  have hR : 2 ^ (P + 4) ≤ rootN (A * 2 ^ sqPl p xe) := by
    rcases Nat.lt_or_ge (rootN (A * 2 ^ sqPl p xe)) (2 ^ (P + 4)) with c | c
    · exfalso
      have := Nat.mul_le_mul (show rootN (A * 2 ^ sqPl p xe) + 1 ≤ 2 ^ (P + 4) from c) (show rootN (A * 2 ^ sqPl p xe) + 1 ≤ 2 ^ (P + 4) from c)
      omega
    · exact c
  have hM : 2 ^ (P + 5) ≤ sqM (sqPl p xe) A := by unfold sqM; rw [Nat.pow_succ]; omega
  have hn := pow_le_nb hM
  obtain ⟨E, hE, hE2, hz, hl, hc, hi⟩ := hr.zeroWay P hp ho hf
  have hM0 : 0 < sqM (sqPl p xe) A := Nat.lt_of_lt_of_le (Nat.pow_pos (by decide)) hM
  refine ⟨_, E, by omega, hl, by have := hc (.inr hM0); omega, hz, hi, by omega, ?_⟩
  obtain ⟨d, hd⟩ : ∃ d : Nat, E - p + 1 = (xe - sqPl p xe) / 2 - 1 + (d + 1 : Nat) := ⟨(E - p + 1 - (xe - sqPl p xe) / 2).toNat, by omega⟩
  have hcut : cutLo (sqM (sqPl p xe) A) ((xe - sqPl p xe) / 2 - 1) (E - p + 1) = sqM (sqPl p xe) A / 2 ^ (d + 1) := by
    unfold cutLo
    rw [if_neg (by omega), show (E - p + 1 - ((xe - sqPl p xe) / 2 - 1)).toNat = d + 1 by omega]
  rw [hcut]
  obtain ⟨q1, q2⟩ := rootz_cut (A * 2 ^ sqPl p xe) (rootN (A * 2 ^ sqPl p xe)) d (oneIf (decide (rootN (A * 2 ^ sqPl p xe) * rootN (A * 2 ^ sqPl p xe) ≠ A * 2 ^ sqPl p xe))) r1 r2 (oneIf_le _)
  have hqm : sqM (sqPl p xe) A = 2 * rootN (A * 2 ^ sqPl p xe) + oneIf (decide (rootN (A * 2 ^ sqPl p xe) * rootN (A * 2 ^ sqPl p xe) ≠ A * 2 ^ sqPl p xe)) := rfl
  rw [← hqm] at q1 q2
  generalize sqM (sqPl p xe) A / 2 ^ (d + 1) = L at *
  have key : ∀ t : Nat, nv t (E - p + 1) * nv t (E - p + 1) = t * 2 ^ d * (t * 2 ^ d) * 2 ^ (xe - sqPl p xe + 12000).toNat := fun t => by
    unfold nv
    rw [show t * 2 ^ d * (t * 2 ^ d) * 2 ^ (xe - sqPl p xe + 12000).toNat = t * t * (2 ^ d * (2 ^ d * 2 ^ (xe - sqPl p xe + 12000).toNat)) by simp only [Nat.mul_assoc, Nat.mul_comm, Nat.mul_left_comm], ← Nat.pow_add, ← Nat.pow_add,
      show d + (d + (xe - sqPl p xe + 12000).toNat) = (E - p + 1 + 6000).toNat + (E - p + 1 + 6000).toNat by omega, Nat.pow_add]
    simp only [Nat.mul_assoc, Nat.mul_comm, Nat.mul_left_comm]
  have key2 : nv A xe * 2 ^ nvN = A * 2 ^ sqPl p xe * 2 ^ (xe - sqPl p xe + 12000).toNat := by
    unfold nv
    rw [Nat.mul_assoc, Nat.mul_assoc, ← Nat.pow_add, ← Nat.pow_add, show (xe + 6000).toNat + nvN = sqPl p xe + (xe - sqPl p xe + 12000).toNat by omega]
  rw [key, key, key2]
  exact ⟨Nat.mul_le_mul_right _ q1, Nat.mul_lt_mul_of_pos_right q2 (Nat.pow_pos (by decide))⟩
end Go.Proofs.YtkflpogmhailhaaGreatDoor

/- The sign of a product less a number, rounded upwards. -/
set_option linter.unusedVariables false
set_option linter.unusedSimpArgs false
namespace Go.Proofs.YtkflpogmhailhaaGreatDoor
open Go.RowKit

theorem both_nv (x y : Opd) (hx : 0 ≤ x.e + 6000) (hy : 0 ≤ y.e + 6000) : (bothM x y).1 * 2 ^ (min x.e y.e + 6000).toNat = nv x.M x.e ∧ (bothM x y).2 * 2 ^ (min x.e y.e + 6000).toNat = nv y.M y.e := by
  unfold bothM nv
  dsimp only
  rw [Nat.mul_assoc, Nat.mul_assoc, ← Nat.pow_add, ← Nat.pow_add, show (x.e - min x.e y.e).toNat + (min x.e y.e + 6000).toNat = (x.e + 6000).toNat by omega, show (y.e - min x.e y.e).toNat + (min x.e y.e + 6000).toNat = (y.e + 6000).toNat by omega]
  exact ⟨rfl, rfl⟩

theorem both_lt (x y : Opd) (hx : 0 ≤ x.e + 6000) (hy : 0 ≤ y.e + 6000) : ((bothM x y).2 < (bothM x y).1 ↔ nv y.M y.e < nv x.M x.e) := by
  obtain ⟨h1, h2⟩ := both_nv x y hx hy
  rw [← h1, ← h2]
  exact (Nat.mul_lt_mul_right (Nat.pow_pos (by decide))).symm

theorem RoundIs.nonneg {p mn mx one inf mode sign : Int} {M : Nat} {e : Int} {rest : Bool} {z fl : Int} (h : RoundIs p mn mx one inf mode sign M e rest z fl) (ho : 0 ≤ one) (hi : 0 < inf) : 0 ≤ z := by
  obtain ⟨top, E, r, r2, hf', h1, h2, h3, h4, h5, hc⟩ := h
  have hov : 0 ≤ ovMag inf mode sign := by unfold ovMag; split <;> omega
  have : 0 ≤ one * (E - mn) := Int.mul_nonneg ho (by omega)
  rcases hc with ⟨_, c, _⟩ | ⟨_, _, c, _⟩ | ⟨c1, c2, c3, _⟩ <;> omega

theorem above_is {f p mx one inf sg nan Z fl : Int} (h : IsFmt f p mx one inf sg nan) (u y x : Opd) (us : u.s = 0) (uc : u.c = 0 ∨ u.c = 1) (u0 : u.c = 0 → u.M = 0) (ue0 : -2000 ≤ u.e) (yc : y.c = 1) (ys : y.s = 0) (ye0 : -2000 ≤ y.e) (xc : x.c = 1) (xs : x.s = 1) (xe0 : -2000 ≤ x.e)
    (hp : PackIs p (1 - mx) mx one inf sg nan 3 (sumO 3 (prodO u y) x) Z fl) :
    (nv x.M x.e * 2 ^ nvN < nv u.M u.e * nv y.M y.e → 0 < Z ∧ Z < sg) ∧ (nv u.M u.e * nv y.M y.e ≤ nv x.M x.e * 2 ^ nvN → Z = 0 ∨ sg ≤ Z) := by
  have hb := h.bounds
  have neg : ∀ o : Opd, o.c = 1 → o.s = 1 → PackIs p (1 - mx) mx one inf sg nan 3 o Z fl → sg ≤ Z := fun o oc os ho => by
    rcases ho with ⟨c, _⟩ | ⟨c, z, hz, hZ⟩ | ⟨c, _⟩ | ⟨c, _⟩ | ⟨c, _⟩
    · omega
    · have := hz.nonneg (by omega) (by omega)
      rw [hZ, os]; unfold sw; rw [if_pos rfl]; omega
    · omega
    · omega
    · omega
  rcases uc with c | c
  · have hpr : prodO u y = ⟨0, 0, u.e + y.e, 0⟩ := by
      unfold prodO mulS
      rw [if_neg (by omega), if_neg (by omega), if_pos (by omega), if_pos (by omega)]
    have hsm : sumO 3 (prodO u y) x = x := by
      rw [hpr]; unfold sumO; dsimp only
      rw [if_neg (by omega), if_neg (by omega), if_pos (by omega)]
    rw [hsm] at hp
    refine ⟨fun hl => ?_, fun _ => .inr (neg x xc xs hp)⟩
    exfalso
    have : nv u.M u.e = 0 := by rw [u0 c]; unfold nv; rw [Nat.zero_mul]
    rw [this, Nat.zero_mul] at hl
    omega
  · have hpr : prodO u y = ⟨1, 0, u.e + y.e, u.M * y.M⟩ := by
      unfold prodO mulS
      rw [if_neg (by omega), if_neg (by omega), if_neg (by omega), if_neg (by omega), if_pos (by omega)]
    have hsm : sumO 3 (prodO u y) x = totO 3 (prodO u y) x := by
      rw [hpr]; unfold sumO; dsimp only
      rw [if_neg (by omega), if_neg (by omega), if_neg (by omega), if_pos rfl]
    rw [hsm] at hp
    rw [nv_mul u.M y.M u.e y.e (by omega) (by omega) (by omega)]
    have hlt := both_lt (prodO u y) x (by rw [hpr]; dsimp only; omega) (by omega)
    have hPe : nv (prodO u y).M (prodO u y).e = nv (u.M * y.M) (u.e + y.e) := by rw [hpr]
    rw [hPe] at hlt
    have hPs : (prodO u y).s = 0 := by rw [hpr]
    have hk : 0 < 2 ^ nvN := Nat.pow_pos (by decide)
    rw [Nat.mul_lt_mul_right hk, Nat.mul_le_mul_right_iff hk, ← hlt]
    generalize hL : (bothM (prodO u y) x).1 = L at *
    generalize hR : (bothM (prodO u y) x).2 = R at *
    have hsplit : totO 3 (prodO u y) x = if L = R then nilO 3 else if R < L then ⟨1, (prodO u y).s, min (prodO u y).e x.e, L - R⟩ else ⟨1, x.s, min (prodO u y).e x.e, R - L⟩ := by
      unfold totO
      rw [if_neg (by omega), hL, hR]
    rw [hsplit] at hp
    refine ⟨fun hl => ?_, fun hl => ?_⟩
    · rw [if_neg (by omega), if_pos hl] at hp
      rcases hp with ⟨c, _⟩ | ⟨_, z, hz, hZ⟩ | ⟨c, _⟩ | ⟨c, _⟩ | ⟨c, _⟩
      · exact absurd c (by dsimp only; decide)
      · dsimp only at hz hZ
        rw [hPs] at hz hZ
        obtain ⟨z0, z1⟩ := hz.upPos (by omega) (by omega) (by omega)
        rw [hZ]; unfold sw; rw [if_neg (by decide)]; omega
      · exact absurd c (by dsimp only; decide)
      · exact absurd c (by dsimp only; decide)
      · exact absurd c (by dsimp only; decide)
    · have hRL : ¬ R < L := fun c' => by have := hlt.mp c'; omega
      by_cases e : L = R
      · rw [if_pos e] at hp
        have hn : nilO 3 = ⟨0, 0, 0, 0⟩ := rfl
        rw [hn] at hp
        rcases hp with ⟨_, hZ, _⟩ | ⟨c, _⟩ | ⟨c, _⟩ | ⟨c, _⟩ | ⟨c, _⟩
        · left; rw [hZ]; rfl
        · exact absurd c (by dsimp only; decide)
        · exact absurd c (by dsimp only; decide)
        · exact absurd c (by dsimp only; decide)
        · exact absurd c (by dsimp only; decide)
      · rw [if_neg e, if_neg hRL] at hp
        exact .inr (neg ⟨1, x.s, min (prodO u y).e x.e, R - L⟩ rfl xs hp)
end Go.Proofs.YtkflpogmhailhaaGreatDoor
