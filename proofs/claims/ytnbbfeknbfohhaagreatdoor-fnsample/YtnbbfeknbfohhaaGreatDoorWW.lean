import Derived.Test.YtnbbfeknbfohhaaGreatDoorA6
import Derived.Test.YtnbbfeknbfohhaaGreatDoorC0
import Derived.Test.YtnbbfeknbfohhaaGreatDoorL5c
import Derived.Test.YtnbbfeknbfohhaaGreatDoorL5d
import Derived.Test.YtnbbfeknbfohhaaGreatDoorC5
import Derived.Test.YtnbbfeknbfohhaaGreatDoorC3
import Derived.Test.YtnbbfeknbfohhaaGreatDoorH5
import Derived.Test.YtnbbfeknbfohhaaGreatDoorY2
set_option linter.unusedVariables false
set_option linter.unusedSimpArgs false
namespace Go.Proofs.YtnbbfeknbfohhaaGreatDoor
def nv (M : Nat) (e : Int) : Nat := M * 2 ^ (e + 6000).toNat
theorem nv_scale (m k : Nat) (e0 : Int) (h : 0 ≤ e0 - k + 6000) : nv (m * 2 ^ k) (e0 - k) = nv m e0 := by
 unfold nv
 rw [show (e0 + 6000).toNat = k + (e0 - k + 6000).toNat by omega, Nat.pow_add, Nat.mul_assoc]
theorem word_nv {p mx one v E m e0 : Int} (l : Nat) (P : Nat) (hp : p = P + 1) (ho : one = ((2 ^ P : Nat) : Int)) (hE : 1 - mx ≤ E) (hl : (l : Int) ≤ 2 * one) (hb : E = 1 - mx ∨ one ≤ (l : Int)) (hv : v = (l : Int) + one * (E - (1 - mx)))
  (hq : 0 ≤ E - p + 1 + 6000) (hm : v < one ∧ m = v ∧ e0 = 2 - mx - p ∨ one ≤ v ∧ m = v % one + one ∧ e0 = 1 - mx - p + v / one) : 0 ≤ m ∧ nv m.toNat e0 = nv l (E - p + 1) := by
 have o0 : 0 < one := by rw [ho]; exact Int.natCast_pos.mpr (Nat.pow_pos (by decide))
 by_cases c : (l : Int) < one
 ·have hE' : E = 1 - mx := by omega
  rw [hE', Int.sub_self, Int.mul_zero] at hv
  rcases hm with ⟨a, b, d⟩ | ⟨a, b, d⟩
  ·rw [b, hv, d]
   refine ⟨by omega, ?_⟩
   rw [Int.add_zero, Int.toNat_natCast, show 2 - mx - p = E - p + 1 by omega]
  ·exfalso; omega
 ·obtain ⟨k, hk⟩ : ∃ k : Nat, E - (1 - mx) = k := ⟨(E - (1 - mx)).toNat, by omega⟩
  rw [hk] at hv
  have hk0 : 0 ≤ one * (k : Int) := Int.mul_nonneg (by omega) (by omega)
  rcases hm with ⟨a, b, d⟩ | ⟨a, b, d⟩
  ·exfalso; omega
  ·by_cases c2 : (l : Int) = 2 * one
   ·have hv2 : v = 0 + one * ((k : Int) + 2) := by rw [hv, c2, Int.mul_add]; omega
    have hm1 : v % one = 0 := by rw [hv2, Int.add_mul_emod_self_left]; rfl
    have hd1 : v / one = (k : Int) + 2 := by rw [hv2, Int.add_mul_ediv_left _ _ (by omega)]; simp
    rw [b, d, hm1, hd1]
    refine ⟨by omega, ?_⟩
    have h3 : l = (0 + one).toNat * 2 ^ 1 := by omega
    rw [h3, show E - p + 1 = (1 - mx - p + ((k : Int) + 2)) - ((1 : Nat) : Int) by omega, nv_scale _ _ _ (by omega)]
   ·have hv2 : v = ((l : Int) - one) + one * ((k : Int) + 1) := by rw [hv, Int.mul_add]; omega
    have hm1 : v % one = (l : Int) - one := by rw [hv2, Int.add_mul_emod_self_left]; exact Int.emod_eq_of_lt (by omega) (by omega)
    have hd1 : v / one = (k : Int) + 1 := by rw [hv2, Int.add_mul_ediv_left _ _ (by omega), Int.ediv_eq_zero_of_lt (by omega) (by omega)]; omega
    rw [b, d, hm1, hd1]
    refine ⟨by omega, ?_⟩
    rw [show ((l : Int) - one + one).toNat = l by omega, show 1 - mx - p + ((k : Int) + 1) = E - p + 1 by omega]
theorem cutz_none (M : Nat) (e q : Int) (hM : 0 < M) (h0 : cutLo M e q = 0) : 0 < cutHalf M e q false := by
 unfold cutLo at h0
 unfold cutHalf
 split at h0
 ·exfalso
  have := Nat.mul_pos hM (Nat.pow_pos (n := (e - q).toNat) (show 0 < 2 by decide))
  omega
 ·rename_i c
  rw [if_neg c]
  unfold hr
  have hP : 0 < 2 ^ (q - e).toNat := Nat.pow_pos (by decide)
  have hlt : M < 2 ^ (q - e).toNat := by
   rcases Nat.lt_or_ge M (2 ^ (q - e).toNat) with c | c
   ·exact c
   ·have := Nat.div_pos c hP; omega
  obtain ⟨d, hd⟩ : ∃ d, (q - e).toNat = d + 1 := ⟨(q - e).toNat - 1, by omega⟩
  rw [hd, Nat.pow_succ] at hlt
  rw [hd, Nat.add_sub_cancel]
  by_cases c1 : M % 2 ^ d = 0
  ·have h2 : M / 2 ^ d % 2 = 1 := by
    have h3 := Nat.div_add_mod M (2 ^ d)
    have h4 : M / 2 ^ d < 2 := by rw [Nat.div_lt_iff_lt_mul (Nat.pow_pos (by decide))]; omega
    have h5 : M / 2 ^ d ≠ 0 := fun h => by rw [h, c1] at h3; omega
    clear h3
    generalize M / 2 ^ d = t at *
    omega
   rw [if_pos h2]; omega
  ·rw [if_pos (show M % 2 ^ d ≠ 0 ∨ false = true from .inl c1)]; omega
end Go.Proofs.YtnbbfeknbfohhaaGreatDoor
namespace Go.Proofs.YtnbbfeknbfohhaaGreatDoor
open Go.RowKit
theorem fmt_pow {f p mx one inf sg nan : Int} (h : IsFmt f p mx one inf sg nan) : ∃ P : Nat, p = P + 1 ∧ one = ((2 ^ P : Nat) : Int) ∧ P ≤ 52 := by
 rcases h with h | h
 ·exact ⟨23, by omega, by rw [h.2.2.2.1]; decide, by omega⟩
 ·exact ⟨52, by omega, by rw [h.2.2.2.1]; decide, by omega⟩
theorem opd_nv {f p mx one inf sg nan v : Int} (h : IsFmt f p mx one inf sg nan) {u : Opd} (hu : OpdIs p mx one inf sg nan v u) (l : Nat) (E : Int) (hE : 1 - mx ≤ E) (hl : (l : Int) ≤ 2 * one) (hb : E = 1 - mx ∨ one ≤ (l : Int)) (hv : v = (l : Int) + one * (E - (1 - mx))) (v1 : v < inf) :
  u.s = 0 ∧ (u.c = 0 ∨ u.c = 1) ∧ nv u.M u.e = nv l (E - p + 1) := by
 obtain ⟨P, hp, ho, hP⟩ := fmt_pow h
 have hb' := h.bounds
 have hk0 : 0 ≤ one * (E - (1 - mx)) := Int.mul_nonneg (by omega) (by omega)
 rcases hu with ⟨_, v', hs, hv'⟩ | ⟨c, _⟩
 ·have hs' : u.s = 0 ∧ v' = v := by omega
  refine ⟨hs'.1, ?_⟩
  rw [hs'.2] at hv'
  rcases hv' with ⟨e0, c0, _, hM⟩ | ⟨_, _, c0, _⟩ | ⟨_, c0, _⟩ | ⟨_, c0, _⟩ | ⟨v0, _, c0, hn⟩
  ·refine ⟨.inl c0, ?_⟩
   have hl0 : l = 0 := by omega
   have hM0 : u.M = 0 := by omega
   rw [hl0, hM0]; unfold nv; simp
  ·exfalso; omega
  ·exfalso; omega
  ·exfalso; omega
  ·refine ⟨.inr c0, ?_⟩
   obtain ⟨_, _, n0, _⟩ := norm_bounds h v0 v1 hn
   obtain ⟨k, m, e0, hm, hg, he, _, _⟩ := hn
   obtain ⟨m0, hsv⟩ := word_nv l P hp ho hE hl hb hv (by omega) hm
   have hM : u.M = m.toNat * 2 ^ k := by
    have h1 : ((u.M : Nat) : Int) = ((m.toNat * 2 ^ k : Nat) : Int) := by
     rw [hg, Int.natCast_mul, Int.toNat_of_nonneg m0, Int.natCast_pow]; rfl
    exact Int.ofNat.inj h1
   rw [hM, he, nv_scale _ _ _ (by omega)]
   exact hsv
 ·exfalso; omega
end Go.Proofs.YtnbbfeknbfohhaaGreatDoor
namespace Go.Proofs.YtnbbfeknbfohhaaGreatDoor
open Go.RowKit
theorem OpdIs.bare {f p mx one inf sg nan v s : Int} (h : IsFmt f p mx one inf sg nan) (hs : s = 0 ∨ s = 1) (v0 : 0 ≤ v) (v1 : v ≤ inf) {y : Opd} (hy : OpdIs p mx one inf sg nan (sw s sg v) y) : y.s = s ∧ OpdIs p mx one inf sg nan v ⟨y.c, 0, y.e, y.M⟩ := by
 have hb := h.bounds
 have hw : s = 0 ∧ sw s sg v = v ∨ s = 1 ∧ sw s sg v = v + sg := by
  unfold sw
  rcases hs with rfl | rfl
  ·exact .inl ⟨rfl, by rw [if_neg (by decide)]⟩
  ·exact .inr ⟨rfl, by rw [if_pos rfl]⟩
 rcases hy with ⟨_, v', hs', hv'⟩ | ⟨c, _⟩
 ·have e : v' = v ∧ y.s = s := by omega
  obtain ⟨rfl, e2⟩ := e
  exact ⟨e2, .inl ⟨by omega, v', .inl ⟨rfl, rfl, by omega⟩, hv'⟩⟩
 ·exfalso; omega
theorem nv_exact (M : Nat) (e q : Int) (he : 0 ≤ e + 6000) (hq : 0 ≤ q + 6000) (h : cutHalf M e q false = 0) : nv (cutLo M e q) q = nv M e := by
 unfold nv cutLo
 by_cases c : q ≤ e
 ·rw [if_pos c, Nat.mul_assoc, ← Nat.pow_add, show (e - q).toNat + (q + 6000).toNat = (e + 6000).toNat by omega]
 ·rw [if_neg c]
  rw [cutHalf_neg _ _ _ _ c] at h
  obtain ⟨d, hd⟩ : ∃ d, (q - e).toNat = d + 1 := ⟨(q - e).toNat - 1, by omega⟩
  rw [hd] at h ⊢
  unfold hr at h
  rw [Nat.add_sub_cancel] at h
  have h1 : ¬ M / 2 ^ d % 2 = 1 := fun k => by rw [if_pos k] at h; omega
  have h2 : M % 2 ^ d = 0 := by
   rcases Nat.eq_zero_or_pos (M % 2 ^ d) with k | k
   ·exact k
   ·rw [if_pos (show M % 2 ^ d ≠ 0 ∨ false = true from .inl (by omega))] at h; omega
  have h3 := Nat.div_add_mod M (2 ^ d)
  rw [h2, Nat.add_zero] at h3
  have h4 : M / 2 ^ d = 2 * (M / 2 ^ d / 2) := by
   generalize M / 2 ^ d = t at *; omega
  have h5 : M / 2 ^ (d + 1) = M / 2 ^ d / 2 := by rw [Nat.pow_succ, Nat.div_div_eq_div_mul]
  rw [h5, show (q + 6000).toNat = (d + 1) + (e + 6000).toNat by omega, Nat.pow_add, ← Nat.mul_assoc, Nat.pow_succ]
  congr 1
  rw [← Nat.mul_assoc, Nat.mul_comm (M / 2 ^ d / 2), Nat.mul_assoc, Nat.mul_comm (M / 2 ^ d / 2) 2, ← h4]
  exact h3
theorem exact_word {f p mx one inf sg nan : Int} (h : IsFmt f p mx one inf sg nan) {mode s : Int} (hs : s = 0 ∨ s = 1) {M : Nat} {e z : Int} (hM : 0 < M) (e0 : -5000 ≤ e) (hr : RoundIs p (1 - mx) mx one inf mode s M e false z 0) :
  0 < z ∧ z < inf ∧ ∀ y, OpdIs p mx one inf sg nan (sw s sg z) y → y.c = 1 ∧ y.s = s ∧ nv y.M y.e = nv M e := by
 have hb := h.bounds
 obtain ⟨P, hp, ho, hP⟩ := fmt_pow h
 obtain ⟨top, E, r, r2, hf, h1, h2, h3, h4, h5, hc⟩ := hr
 have hc' : top ≤ mx ∧ (r : Int) + one * (E - (1 - mx)) < inf ∧ z = r + one * (E - (1 - mx)) ∧ hf = 0 := by omega
 obtain ⟨c1, c2, c3, c4⟩ := hc'
 have hh : cutHalf M e (E - p + 1) false = 0 := by omega
 have hr' : r = cutLo M e (E - p + 1) := by rw [h4, c4, chosen_zero]
 have hq : 0 ≤ E - p + 1 + 6000 := by omega
 have hnv := nv_exact M e (E - p + 1) (by omega) hq hh
 have hlt := cutLo_lt M e (E - p + 1) (P + 1) (by omega)
 rw [Nat.pow_succ] at hlt
 have hge : E = 1 - mx ∨ one ≤ (r : Int) := by
  rcases h2 with ⟨a, b⟩ | ⟨a, b⟩
  ·exact .inl b
  ·right
   have := cutLo_ge M e (E - p + 1) P hM (by omega)
   omega
 have r0 : 0 < r := by
  rcases Nat.eq_zero_or_pos r with k | k
  ·have := cutz_none M e (E - p + 1) hM (by omega); omega
  ·exact k
 have hk0 : 0 ≤ one * (E - (1 - mx)) := Int.mul_nonneg (by omega) (by omega)
 refine ⟨by omega, by omega, fun y hy => ?_⟩
 obtain ⟨y1, y2⟩ := OpdIs.bare h hs (by omega) (by omega) hy
 obtain ⟨_, q2, q3⟩ := opd_nv h y2 r E (by omega) (by omega) hge c3 (by omega)
 dsimp only at q2 q3
 rw [hr', hnv] at q3
 refine ⟨?_, y1, q3⟩
 rcases q2 with k | k
 ·exfalso
  have := (opd_vo h hy).1.nil (by omega)
  rw [this] at q3
  unfold nv at q3
  rw [Nat.zero_mul] at q3
  have := Nat.mul_pos hM (Nat.pow_pos (n := (e + 6000).toNat) (show 0 < 2 by decide))
  omega
 ·exact k
theorem nv_same {M N : Nat} {e g : Int} (he : 0 ≤ e + 6000) (hle : e ≤ g) (h : nv M e = nv N g) : M = N * 2 ^ (g - e).toNat := by
 unfold nv at h
 rw [show (g + 6000).toNat = (g - e).toNat + (e + 6000).toNat by omega, Nat.pow_add, ← Nat.mul_assoc] at h
 exact Nat.eq_of_mul_eq_mul_right (Nat.pow_pos (by decide)) h
theorem RoundIs.nv {p mn mx one inf mode sign : Int} {M N : Nat} {e g z fl : Int} (hM : 0 < M) (hN : 0 < N) (he : 0 ≤ e + 6000) (hg : 0 ≤ g + 6000) (h : nv M e = nv N g) : RoundIs p mn mx one inf mode sign M e false z fl ↔ RoundIs p mn mx one inf mode sign N g false z fl := by
 rcases Int.le_total e g with c | c
 ·have hM' := nv_same he c h
  have := RoundIs.scale (p := p) (mn := mn) (mx := mx) (one := one) (inf := inf) (mode := mode) (sign := sign) (e := g) (z := z) (fl := fl) (g - e).toNat hN
  rw [← hM', show g - ((g - e).toNat : Int) = e by omega] at this
  exact this
 ·have hN' := nv_same hg c h.symm
  have := RoundIs.scale (p := p) (mn := mn) (mx := mx) (one := one) (inf := inf) (mode := mode) (sign := sign) (e := e) (z := z) (fl := fl) (e - g).toNat hM
  rw [← hN', show e - ((e - g).toNat : Int) = g by omega] at this
  exact this.symm
theorem whole_nv {x : Opd} (hx : -5000 ≤ x.e) {N : Nat} (h : nv x.M x.e = nv N 0) (way : Int) : wholeM way x = N ∧ wholeX x = false := by
 rcases Int.lt_or_le x.e 0 with c | c
 ·have hM := nv_same (by omega) (by omega) h
  have hk : (0 - x.e).toNat ≠ 0 := by omega
  have hh : cutHalf x.M x.e 0 false = 0 := by
   rw [cutHalf_neg _ _ _ _ (by omega)]
   exact hr_zero _ _ (by omega) (by rw [hM]; exact Nat.mul_mod_left _ _)
  constructor
  ·unfold wholeM
   rw [hh, chosen_zero]
   unfold cutLo
   rw [if_neg (by omega)]
   have := Nat.mul_div_cancel N (Nat.pow_pos (n := (0 - x.e).toNat) (show 0 < 2 by decide))
   rw [← hM] at this
   exact this
  ·unfold wholeX; rw [hh]; rfl
 ·have hN := nv_same (by omega) c h.symm
  rw [Int.sub_zero] at hN
  exact ⟨by rw [wholeM_no c, hN], wholeX_no c⟩
end Go.Proofs.YtnbbfeknbfohhaaGreatDoor
namespace Go.Proofs.YtnbbfeknbfohhaaGreatDoor
open Go.RowKit
theorem sw_in {f p mx one inf sg nan s v : Int} (h : IsFmt f p mx one inf sg nan) (hs : s = 0 ∨ s = 1) (v0 : 0 ≤ v) (v1 : v ≤ inf) : 0 ≤ sw s sg v ∧ sw s sg v < 2 * sg ∧ sw s sg v < 18446744073709551616 := by
 have hb := h.bounds
 unfold sw
 split <;> omega
theorem opd_nil {f p mx one inf sg nan s : Int} (h : IsFmt f p mx one inf sg nan) (hs : s = 0 ∨ s = 1) {y : Opd} (hy : OpdIs p mx one inf sg nan (sw s sg 0) y) : y.s = s ∧ y.e = 0 ∧ y.M = 0 ∧ y.c = 0 := by
 have hb := h.bounds
 obtain ⟨y1, y2⟩ := OpdIs.bare h hs (by omega) (by omega) hy
 rcases y2 with ⟨_, v', hs', hv'⟩ | ⟨c, _⟩
 ·dsimp only at hs' hv'
  have : v' = 0 := by omega
  subst this
  rcases hv' with ⟨q, c, e, m⟩ | ⟨_, _, c, _⟩ | ⟨_, c, _⟩ | ⟨q, c, e, m⟩ | ⟨q0, q1, c, _⟩
  ·exact ⟨y1, e, by omega, c⟩
  all_goals (exfalso; omega)
 ·exfalso; omega
theorem rint_opd {f p mx one inf sg nan mode a Z : Int} (a0 : 0 ≤ a) (a1 : a < 18446744073709551616) (hF : IsFmt f p mx one inf sg nan) {x : Opd} (hx : OpdIs p mx one inf sg nan a x) (xc : x.c ≤ 2) (hp : PackIs p (1 - mx) mx one inf sg nan mode (wholeO mode x) Z 0) :
  (0 ≤ Z ∧ Z < 2 * sg ∧ Z < 18446744073709551616) ∧ ∃ y, OpdIs p mx one inf sg nan Z y ∧ y.c ≤ 2 ∧ y.s = x.s ∧ (x.c ≤ 1 → y.c ≤ 1 ∧ ∀ way, wholeM way y = wholeM mode x) ∧ wfl y = 0 ∧ ∀ way, PackIs p (1 - mx) mx one inf sg nan way (wholeO way y) Z 0 := by
 have hb := hF.bounds
 obtain ⟨v1, v2, v3, v4, v5, v6⟩ := opd_vo hF hx
 have hs := v1.s01
 have x0 := v1.c0
 by_cases hn : x.c = 1 ∧ x.e < 0
 ·obtain ⟨c, e⟩ := hn
  obtain ⟨hl, hz0, hz1⟩ := whole_pack hF hx mode c e
  rcases Nat.eq_zero_or_pos (wholeM mode x) with h0 | h0
  ·obtain ⟨rfl, _⟩ := PackIs.one hp (hz0 h0)
   have hsw := sw_in hF hs (Int.le_refl 0) (show (0 : Int) ≤ inf by omega)
   obtain ⟨y, hy⟩ := opd_ex hF _ hsw.1 hsw.2.2
   obtain ⟨q1, q2, q3, q4⟩ := opd_nil hF hs hy
   have hny : ¬ (y.c = 1 ∧ y.e < 0) := by omega
   refine ⟨hsw, y, hy, by omega, q1, fun _ => ⟨by omega, fun way => ?_⟩, wfl_self (a := a) hF hny, fun way => ?_⟩
   ·rw [wholeM_no (by omega), q3, h0, Nat.zero_mul]
   ·rw [wholeO_self hny]; exact pack_own hF hsw.1 hy (by omega) way
  ·obtain ⟨z, hr, hpz⟩ := hz1 h0
   obtain ⟨rfl, _⟩ := PackIs.one hp hpz
   obtain ⟨z0, z1, hy'⟩ := exact_word hF hs h0 (by omega) (hr mode)
   have hsw := sw_in hF hs (show 0 ≤ z by omega) (show z ≤ inf by omega)
   obtain ⟨y, hy⟩ := opd_ex hF _ hsw.1 hsw.2.2
   obtain ⟨q1, q2, q3⟩ := hy' y hy
   have hye := (opd_vo hF hy).2.2.2.1
   have hw := fun way => whole_nv (x := y) (by omega) q3 way
   refine ⟨hsw, y, hy, by omega, q2, fun _ => ⟨by omega, fun way => (hw way).1⟩, ?_, fun way => ?_⟩
   ·unfold wfl; rw [(hw 0).2, if_neg (by simp)]
   ·by_cases hny : y.c = 1 ∧ y.e < 0
    ·unfold wholeO
     rw [if_pos hny, (hw way).1, if_neg (by omega), q2]
     exact .inr (.inl ⟨rfl, z, hr way, rfl⟩)
    ·rw [wholeO_self hny]; exact pack_own hF hsw.1 hy (by omega) way
 ·rw [wholeO_self hn] at hp
  obtain ⟨rfl, _⟩ := PackIs.one hp (pack_own hF a0 hx xc mode)
  obtain ⟨ha, v, _, _, hzz⟩ := word_is hF a0 hx xc
  refine ⟨⟨a0, ha, a1⟩, x, hx, xc, rfl, fun hc => ⟨hc, fun way => ?_⟩, wfl_self (a := Z) hF hn, fun way => ?_⟩
  ·have he : 0 ≤ x.e := by
    rcases (show x.c = 1 ∨ x.c ≠ 1 by omega) with k | k
    ·omega
    ·have := hzz k; omega
   rw [wholeM_no he, wholeM_no he]
  ·rw [wholeO_self hn]; exact pack_own hF a0 hx xc way
end Go.Proofs.YtnbbfeknbfohhaaGreatDoor
namespace Go.Proofs.YtnbbfeknbfohhaaGreatDoor
open Go.RowKit
theorem f647 : IsFmt 1 53 1023 4503599627370496 9218868437227405312 9223372036854775808 9221120237041090560 := .inr ⟨rfl, rfl, rfl, rfl, rfl, rfl, rfl⟩
theorem fmt7 {p mx one inf sg nan : Int} (h : IsFmt 1 p mx one inf sg nan) : p = 53 ∧ mx = 1023 ∧ one = 4503599627370496 ∧ inf = 9218868437227405312 ∧ sg = 9223372036854775808 ∧ nan = 9221120237041090560 := h.one f647
abbrev Opd7 (a : Int) (x : Opd) : Prop := OpdIs 53 1023 4503599627370496 9218868437227405312 9223372036854775808 9221120237041090560 a x
abbrev Pack7 (mode : Int) (x : Opd) (Z fl : Int) : Prop := PackIs 53 (1 - 1023) 1023 4503599627370496 9218868437227405312 9223372036854775808 9221120237041090560 mode x Z fl
theorem round_le {mode s : Int} {M : Nat} {e : Int} {b : Bool} {z fl : Int} (hr : RoundIs 53 (1 - 1023) 1023 4503599627370496 9218868437227405312 mode s M e b z fl) : 0 ≤ z ∧ z ≤ 9218868437227405312 := by
 obtain ⟨top, E, r, r2, hf, h1, h2, h3, h4, h5, h6⟩ := hr
 have hov : ovMag 9218868437227405312 mode s = 9218868437227405312 ∨ ovMag 9218868437227405312 mode s = 9218868437227405312 - 1 := by unfold ovMag; split <;> simp
 rcases h6 with ⟨_, rfl, _⟩ | ⟨_, _, rfl, _⟩ | ⟨_, h7, rfl, _⟩ <;> omega
theorem pack_7 {mode : Int} {o : Opd} {Z fl : Int} (h : Pack7 mode o Z fl) : Wo Z ∧ (9223372036854775808 ≤ Z → Z % 9223372036854775808 ≤ 9218868437227405312) ∧ (o.s = 1 → o.c ≤ 2 → 9223372036854775808 ≤ Z) := by
 have hsw : ∀ z, 0 ≤ z → z ≤ 9218868437227405312 → Wo (sw o.s 9223372036854775808 z) ∧ (9223372036854775808 ≤ sw o.s 9223372036854775808 z → sw o.s 9223372036854775808 z % 9223372036854775808 ≤ 9218868437227405312) ∧ (o.s = 1 → o.c ≤ 2 → 9223372036854775808 ≤ sw o.s 9223372036854775808 z) := by
  intro z z0 z1
  unfold sw Wo
  split <;> omega
 rcases h with ⟨_, rfl, _⟩ | ⟨_, z, hz, rfl⟩ | ⟨_, rfl, _⟩ | ⟨c, rfl, _⟩ | ⟨c, rfl, _⟩
 ·exact hsw 0 (by omega) (by omega)
 ·have := round_le hz
  exact hsw z this.1 this.2
 ·exact hsw _ (by omega) (by omega)
 ·exact ⟨Wo.c _, by omega, by omega⟩
 ·exact ⟨Wo.c _, by omega, by omega⟩
open Classical in
noncomputable def pick (P : Int → Int → Prop) : Int := if h : ∃ Z fl, P Z fl then Classical.choose h else 0
theorem pick_eq {P : Int → Int → Prop} (one : ∀ {Z fl Z' fl'}, P Z fl → P Z' fl' → Z = Z' ∧ fl = fl') {Z fl : Int} (h : P Z fl) : pick P = Z := by
 have hex : ∃ Z fl, P Z fl := ⟨Z, fl, h⟩
 unfold pick; rw [dif_pos hex]; obtain ⟨fl', h'⟩ := Classical.choose_spec hex; exact (one h' h).1
noncomputable def o7 : O7 := ⟨fun n => pick (FromIs 1 0 1 (n % 18446744073709551616)), fun a b => pick (OpR subO 1 0 a b), fun a b => pick (OpR mulO 1 0 a b), fun a => pick (RIntIs 1 4 a false), fun a => pick (ToIntIs 1 2 3 a), fun a => pick (ToIntIs 1 0 1 a)⟩
theorem opr_7 {R : Int → Opd → Opd → Opd} {a b Z fl : Int} (h : OpR R 1 0 a b Z fl) : ∃ x y, Opd7 a x ∧ Opd7 b y ∧ Pack7 0 (R 0 x y) Z fl := by
 rcases h with ⟨p, mx, one, inf, sg, nan, x, y, hF, hm, hx, hy, hp⟩ | ⟨p, mx, one, inf, sg, nan, hF, hm, rfl, rfl⟩ | ⟨hF, _⟩
 ·obtain ⟨rfl, rfl, rfl, rfl, rfl, rfl⟩ := fmt7 hF
  exact ⟨x, y, hx, hy, hp⟩
 ·omega
 ·omega
theorem sub_ex {a b : Int} (ha : Wo a) (hb : Wo b) : ∃ Z fl, OpR subO 1 0 a b Z fl := by obtain ⟨Z, fl, h, _⟩ := sub_same 1 0 a b ha.1 ha.2 hb.1 hb.2; exact ⟨Z, fl, h⟩
theorem mul_ex {a b : Int} (ha : Wo a) (hb : Wo b) : ∃ Z fl, OpR mulO 1 0 a b Z fl := by obtain ⟨Z, fl, h, _⟩ := mul_same 1 0 a b ha.1 ha.2 hb.1 hb.2; exact ⟨Z, fl, h⟩
theorem wordK_in (s : Int) (M : Nat) (h : M < 18446744073709551616) : Wo (wordK s M) := by unfold wordK Wo; split <;> omega
theorem most_in (kind s : Int) : mostK kind s < 18446744073709551616 := by unfold mostK; (repeat' split) <;> omega
theorem toInt_7 {mode kind a Z fl : Int} (h : ToIntIs 1 mode kind a Z fl) : Wo Z := by
 rcases h with ⟨p, mx, one, inf, sg, nan, x, hF, ha, hm, hk, hx, hp⟩ | ⟨_, rfl, _⟩
 ·have hm := most_in kind x.s
  rcases hp with ⟨_, rfl, _⟩ | ⟨_, c, rfl, _⟩ | ⟨_, _, rfl, _⟩
  ·exact wordK_in _ _ (most_in kind 0)
  ·exact wordK_in _ _ (by omega)
  ·exact wordK_in _ _ hm
 ·exact Wo.c 0
theorem rint_7 {mode a Z fl : Int} {ex : Bool} (h : RIntIs 1 mode a ex Z fl) : Wo Z := by
 rcases h with ⟨p, mx, one, inf, sg, nan, x, hF, hm, hx, hp⟩ | ⟨p, mx, one, inf, sg, nan, hF, hm, rfl, rfl⟩ | ⟨_, rfl, _⟩
 ·obtain ⟨rfl, rfl, rfl, rfl, rfl, rfl⟩ := fmt7 hF
  rcases hp with ⟨_, rfl, _⟩ | ⟨_, hp, _⟩
  ·exact Wo.c _
  ·exact (pack_7 hp).1
 ·obtain ⟨rfl, rfl, rfl, rfl, rfl, rfl⟩ := fmt7 hF
  exact Wo.c _
 ·exact Wo.c _
theorem from_7 {mode kind a Z fl : Int} (h : FromIs 1 mode kind a Z fl) : Wo Z := by
 rcases h with ⟨p, mx, one, inf, sg, nan, hF, hm, hk, hp⟩ | ⟨p, mx, one, inf, sg, nan, hF, hm, rfl, rfl⟩ | ⟨_, rfl, _⟩
 ·obtain ⟨rfl, rfl, rfl, rfl, rfl, rfl⟩ := fmt7 hF
  exact (pack_7 hp).1
 ·obtain ⟨rfl, rfl, rfl, rfl, rfl, rfl⟩ := fmt7 hF
  exact Wo.c _
 ·exact Wo.c _
theorem o7_sub {a b Z fl : Int} (h : OpR subO 1 0 a b Z fl) : o7.sub a b = Z := pick_eq OpR.one h
theorem o7_mul {a b Z fl : Int} (h : OpR mulO 1 0 a b Z fl) : o7.mul a b = Z := pick_eq OpR.one h
theorem o7_int {n Z fl : Int} (h : FromIs 1 0 1 (n % 18446744073709551616) Z fl) : o7.int n = Z := pick_eq FromIs.one h
theorem o7_rint {a Z fl : Int} (h : RIntIs 1 4 a false Z fl) : o7.rint a = Z := pick_eq RIntIs.one h
theorem o7_fix {a Z fl : Int} (h : ToIntIs 1 2 3 a Z fl) : o7.fix a = Z := pick_eq ToIntIs.one h
theorem o7_whole {a Z fl : Int} (h : ToIntIs 1 0 1 a Z fl) : o7.whole a = Z := pick_eq ToIntIs.one h
theorem o7_in : o7.In where
 int n := by obtain ⟨Z, fl, h⟩ := from_ex 1 0 1 (n % 18446744073709551616); rw [o7_int h]; exact from_7 h
 sub ha hb := by obtain ⟨Z, fl, h⟩ := sub_ex ha hb; obtain ⟨x, y, _, _, hp⟩ := opr_7 h; rw [o7_sub h]; exact (pack_7 hp).1
 subn ha hb := by obtain ⟨Z, fl, h⟩ := sub_ex ha hb; obtain ⟨x, y, _, _, hp⟩ := opr_7 h; rw [o7_sub h]; exact (pack_7 hp).2.1
 mul ha hb := by obtain ⟨Z, fl, h⟩ := mul_ex ha hb; obtain ⟨x, y, _, _, hp⟩ := opr_7 h; rw [o7_mul h]; exact (pack_7 hp).1
 rint ha := by obtain ⟨Z, fl, h⟩ := rint_ex 1 4 _ false ha.1 ha.2; rw [o7_rint h]; exact rint_7 h
 fix ha := by obtain ⟨Z, fl, h⟩ := toInt_ex 1 2 3 _ ha.1 ha.2; rw [o7_fix h]; exact toInt_7 h
 whole ha := by obtain ⟨Z, fl, h⟩ := toInt_ex 1 0 1 _ ha.1 ha.2; rw [o7_whole h]; exact toInt_7 h
theorem pow_opd (s k : Int) (hs : s = 0 ∨ s = 1) (k0 : -1022 ≤ k) (k1 : k ≤ 1023) : Opd7 (sw s 9223372036854775808 (4503599627370496 * (k + 1023))) ⟨1, s, k - 52, 4503599627370496⟩ := by
 refine .inl ⟨by unfold sw; split <;> omega, 4503599627370496 * (k + 1023), ?_, .inr (.inr (.inr (.inr ⟨by omega, by omega, rfl, 0, 4503599627370496, k - 52, .inr ⟨by omega, by omega, by omega⟩, by dsimp only; decide, by dsimp only; omega, by dsimp only; decide, by dsimp only; decide⟩)))⟩
 rcases hs with rfl | rfl
 ·exact .inl ⟨rfl, by unfold sw; rw [if_neg (by decide)], by unfold sw; rw [if_neg (by decide)]; omega⟩
 ·exact .inr ⟨rfl, by unfold sw; rw [if_pos rfl]; omega, by unfold sw; rw [if_pos rfl]; omega⟩
theorem mul_is {a b s t k j : Int} (hs : s = 0 ∨ s = 1) (ht : t = 0 ∨ t = 1) (k0 : -1022 ≤ k) (k1 : k ≤ 1023) (j0 : -1022 ≤ j) (j1 : j ≤ 1023) (ha : a = sw s 9223372036854775808 (4503599627370496 * (k + 1023))) (hb : b = sw t 9223372036854775808 (4503599627370496 * (j + 1023))) {z : Int}
  (hr : RoundIs 53 (1 - 1023) 1023 4503599627370496 9218868437227405312 0 (mulS s t) 20282409603651670423947251286016 (k - 52 + (j - 52)) false z 0) : o7.mul a b = sw (mulS s t) 9223372036854775808 z := by
 refine o7_mul (fl := 0) (.inl ⟨53, 1023, 4503599627370496, 9218868437227405312, 9223372036854775808, 9221120237041090560, ⟨1, s, k - 52, 4503599627370496⟩, ⟨1, t, j - 52, 4503599627370496⟩, f647, ⟨by decide, by decide⟩, ha ▸ pow_opd s k hs k0 k1, hb ▸ pow_opd t j ht j0 j1, ?_⟩)
 have e : mulO 0 ⟨1, s, k - 52, 4503599627370496⟩ ⟨1, t, j - 52, 4503599627370496⟩ = ⟨1, mulS s t, k - 52 + (j - 52), 20282409603651670423947251286016⟩ := by
  unfold mulO prodO
  dsimp only
  rw [if_neg (by decide), if_neg (by decide), if_neg (by decide), if_neg (by decide)]
 rw [e]
 exact .inr (.inl ⟨rfl, z, hr, rfl⟩)
theorem from_is {kind n s z : Int} {M : Nat} (hk : fitsK kind n = true) (hM : magK kind n = M) (hs : signK kind n = s) (h0 : M ≠ 0) (hr : RoundIs 53 (1 - 1023) 1023 4503599627370496 9218868437227405312 0 s M 0 false z 0) : FromIs 1 0 kind n (sw s 9223372036854775808 z) 0 := by
 refine .inl ⟨53, 1023, 4503599627370496, 9218868437227405312, 9223372036854775808, 9221120237041090560, f647, ⟨by decide, by decide⟩, hk, ?_⟩
 have hi : intO kind n = ⟨1, s, 0, M⟩ := by unfold intO; rw [hM, hs, if_neg h0]
 rw [hi]
 exact .inr (.inl ⟨rfl, z, hr, rfl⟩)
theorem i41n : o7.int (-2199023255552) = 14015202040376983552 := o7_int (n := -2199023255552) (from_is (M := 2199023255552) (s := 1) (z := 4791830003522207744) (by decide) (by decide) (by decide) (by decide) ⟨41, 41, 4503599627370496, 4503599627370496, 0, by decide, .inr ⟨by decide, rfl⟩, by decide, by decide, by decide, .inr (.inr ⟨by decide, by decide, by decide, .inl ⟨rfl, rfl⟩⟩)⟩)
theorem i41 : o7.int (2199023255552) = 4791830003522207744 := o7_int (n := 2199023255552) (from_is (M := 2199023255552) (s := 0) (z := 4791830003522207744) (by decide) (by decide) (by decide) (by decide) ⟨41, 41, 4503599627370496, 4503599627370496, 0, by decide, .inr ⟨by decide, rfl⟩, by decide, by decide, by decide, .inr (.inr ⟨by decide, by decide, by decide, .inl ⟨rfl, rfl⟩⟩)⟩)
theorem i1 : o7.int (1) = 4607182418800017408 := o7_int (n := 1) (from_is (M := 1) (s := 0) (z := 4607182418800017408) (by decide) (by decide) (by decide) (by decide) ⟨0, 0, 4503599627370496, 4503599627370496, 0, by decide, .inr ⟨by decide, rfl⟩, by decide, by decide, by decide, .inr (.inr ⟨by decide, by decide, by decide, .inl ⟨rfl, rfl⟩⟩)⟩)
theorem i2 : o7.int (2) = 4611686018427387904 := o7_int (n := 2) (from_is (M := 2) (s := 0) (z := 4611686018427387904) (by decide) (by decide) (by decide) (by decide) ⟨1, 1, 4503599627370496, 4503599627370496, 0, by decide, .inr ⟨by decide, rfl⟩, by decide, by decide, by decide, .inr (.inr ⟨by decide, by decide, by decide, .inl ⟨rfl, rfl⟩⟩)⟩)
theorem i0 : o7.int 0 = 0 := o7_int (n := 0) (fl := 0) (.inl ⟨53, 1023, 4503599627370496, 9218868437227405312, 9223372036854775808, 9221120237041090560, f647, ⟨by decide, by decide⟩, by decide, .inl ⟨rfl, rfl, rfl⟩⟩)
theorem f32 : FromIs 1 0 3 4294967296 c32 0 := from_is (M := 4294967296) (s := 0) (by decide) (by decide) (by decide) (by decide) ⟨32, 32, 4503599627370496, 4503599627370496, 0, by decide, .inr ⟨by decide, rfl⟩, by decide, by decide, by decide, .inr (.inr ⟨by decide, by decide, by decide, .inl ⟨rfl, rfl⟩⟩)⟩
theorem f63 : FromIs 1 0 3 9223372036854775808 c63 0 := from_is (M := 9223372036854775808) (s := 0) (by decide) (by decide) (by decide) (by decide) ⟨63, 63, 4503599627370496, 4503599627370496, 0, by decide, .inr ⟨by decide, rfl⟩, by decide, by decide, by decide, .inr (.inr ⟨by decide, by decide, by decide, .inl ⟨rfl, rfl⟩⟩)⟩
theorem m41n : o7.mul 14015202040376983552 hfC = 14010698440749613056 := mul_is (s := 1) (t := 0) (k := 41) (j := -1) (z := 4787326403894837248) (by decide) (by decide) (by decide) (by decide) (by decide) (by decide) (by decide) (by decide) ⟨40, 40, 4503599627370496, 4503599627370496, 0, by decide, .inr ⟨by decide, rfl⟩, by decide, by decide, by decide, .inr (.inr ⟨by decide, by decide, by decide, .inl ⟨rfl, rfl⟩⟩)⟩
theorem m41 : o7.mul 4791830003522207744 hfC = 4787326403894837248 := mul_is (s := 0) (t := 0) (k := 41) (j := -1) (z := 4787326403894837248) (by decide) (by decide) (by decide) (by decide) (by decide) (by decide) (by decide) (by decide) ⟨40, 40, 4503599627370496, 4503599627370496, 0, by decide, .inr ⟨by decide, rfl⟩, by decide, by decide, by decide, .inr (.inr ⟨by decide, by decide, by decide, .inl ⟨rfl, rfl⟩⟩)⟩
theorem m1 : o7.mul 4607182418800017408 hfC = 4602678819172646912 := mul_is (s := 0) (t := 0) (k := 0) (j := -1) (z := 4602678819172646912) (by decide) (by decide) (by decide) (by decide) (by decide) (by decide) (by decide) (by decide) ⟨-1, -1, 4503599627370496, 4503599627370496, 0, by decide, .inr ⟨by decide, rfl⟩, by decide, by decide, by decide, .inr (.inr ⟨by decide, by decide, by decide, .inl ⟨rfl, rfl⟩⟩)⟩
theorem m2 : o7.mul 4611686018427387904 hfC = 4607182418800017408 := mul_is (s := 0) (t := 0) (k := 1) (j := -1) (z := 4607182418800017408) (by decide) (by decide) (by decide) (by decide) (by decide) (by decide) (by decide) (by decide) ⟨0, 0, 4503599627370496, 4503599627370496, 0, by decide, .inr ⟨by decide, rfl⟩, by decide, by decide, by decide, .inr (.inr ⟨by decide, by decide, by decide, .inl ⟨rfl, rfl⟩⟩)⟩
theorem mh : o7.mul 4602678819172646912 hfC = 4598175219545276416 := mul_is (s := 0) (t := 0) (k := -1) (j := -1) (z := 4598175219545276416) (by decide) (by decide) (by decide) (by decide) (by decide) (by decide) (by decide) (by decide) ⟨-2, -2, 4503599627370496, 4503599627370496, 0, by decide, .inr ⟨by decide, rfl⟩, by decide, by decide, by decide, .inr (.inr ⟨by decide, by decide, by decide, .inl ⟨rfl, rfl⟩⟩)⟩
theorem mq : o7.mul 4598175219545276416 hfC = 4593671619917905920 := mul_is (s := 0) (t := 0) (k := -2) (j := -1) (z := 4593671619917905920) (by decide) (by decide) (by decide) (by decide) (by decide) (by decide) (by decide) (by decide) ⟨-3, -3, 4503599627370496, 4503599627370496, 0, by decide, .inr ⟨by decide, rfl⟩, by decide, by decide, by decide, .inr (.inr ⟨by decide, by decide, by decide, .inl ⟨rfl, rfl⟩⟩)⟩
theorem m0 : o7.mul 0 hfC = 0 := by
 refine o7_mul (fl := 0) (.inl ⟨53, 1023, 4503599627370496, 9218868437227405312, 9223372036854775808, 9221120237041090560, ⟨0, 0, 0, 0⟩, ⟨1, 0, -1 - 52, 4503599627370496⟩, f647, ⟨by decide, by decide⟩, .inl ⟨by decide, 0, .inl ⟨rfl, rfl, by decide⟩, .inl ⟨rfl, rfl, rfl, rfl⟩⟩, (show sw 0 9223372036854775808 (4503599627370496 * (-1 + 1023)) = hfC by decide) ▸ pow_opd 0 (-1) (by decide) (by decide) (by decide), ?_⟩)
 exact .inl ⟨rfl, rfl, rfl⟩
theorem neg_7 {x : Int} (hx : Wo x) (h0 : 9223372036854775808 ≤ x) (h1 : x % 9223372036854775808 ≤ 9218868437227405312) : o7.fix (o7.mul x c32) = 0 := by
 have opd_neg : ∀ {a : Int} {y : Opd}, 9223372036854775808 ≤ a → a % 9223372036854775808 ≤ 9218868437227405312 → a < 18446744073709551616 → Opd7 a y → y.s = 1 ∧ y.c ≤ 2 := by
  intro a y a0 a1 a2 hy
  rcases hy with ⟨_, v, hs, hv⟩ | ⟨c, _⟩
  ·rcases hs with ⟨_, _, c⟩ | ⟨hs, rfl, _⟩
   ·omega
   ·refine ⟨hs, ?_⟩
    rcases hv with ⟨_, c, _⟩ | ⟨c, _⟩ | ⟨c, _⟩ | ⟨_, c, _⟩ | ⟨_, _, c, _⟩ <;> omega
  ·omega
 obtain ⟨Z, fl, h⟩ := mul_ex hx (Wo.c c32)
 rw [o7_mul h]
 obtain ⟨u, v, hu, hv, hp⟩ := opr_7 h
 obtain rfl := hv.one f647 (pow_opd 0 32 (by decide) (by decide) (by decide))
 obtain ⟨us, uc⟩ := opd_neg h0 h1 hx.2 hu
 have u0 := (opd_vo f647 hu).1.c0
 obtain ⟨p1, p2, p3⟩ := pack_7 hp
 have hpo : (mulO 0 u ⟨1, 0, 32 - 52, 4503599627370496⟩).s = 1 ∧ (mulO 0 u ⟨1, 0, 32 - 52, 4503599627370496⟩).c ≤ 2 := by
  unfold mulO prodO
  have hm : mulS u.s 0 = 1 := by rw [us]; decide
  dsimp only
  rw [if_neg (by omega), if_neg (by omega), hm]
  (repeat' split) <;> exact ⟨rfl, by dsimp only; omega⟩
 have hZ := p3 hpo.1 hpo.2
 obtain ⟨T, f, hT⟩ := toInt_ex 1 2 3 Z p1.1 p1.2
 rw [o7_fix hT]
 rcases hT with ⟨p, mx, one, inf, sg, nan, y, hF, hlt, hm, hk, hy, ho⟩ | ⟨_, rfl, _⟩
 ·obtain ⟨rfl, rfl, rfl, rfl, rfl, rfl⟩ := fmt7 hF
  obtain ⟨ys, yc⟩ := opd_neg hZ (p2 hZ) p1.2 hy
  have hmk : mostK 3 y.s = 0 := by rw [ys]; decide
  have hw : ∀ M : Nat, M = 0 → wordK y.s M = 0 := by intro M hM; subst hM; unfold wordK; simp
  rcases ho with ⟨c, _⟩ | ⟨_, c, rfl, _⟩ | ⟨_, _, rfl, _⟩
  ·omega
  ·exact hw _ (by omega)
  ·exact hw _ hmk
 ·rfl
theorem whole_7 {a T fl : Int} (ha : Wo a) (h0 : a % 9223372036854775808 ≤ 4787326403894837248) (h : ToIntIs 1 2 1 (o7.rint a) T fl) : o7.whole (o7.rint a) = T := by
 obtain ⟨Z, f1, hZ⟩ := rint_ex 1 4 a false ha.1 ha.2
 rw [o7_rint hZ] at h ⊢
 rcases hZ with ⟨p, mx, one, inf, sg, nan, x, hF, hm, hx, hp⟩ | ⟨p, mx, one, inf, sg, nan, hF, hm, _⟩ | ⟨c, _⟩
 ·obtain ⟨rfl, rfl, rfl, rfl, rfl, rfl⟩ := fmt7 hF
  have xc : x.c ≤ 1 := by
   rcases hx with ⟨_, v, hs, hv⟩ | ⟨c, _⟩
   ·have hvl : v ≤ 4787326403894837248 := by rcases hs with ⟨_, rfl, _⟩ | ⟨_, rfl, _⟩ <;> have := ha.1 <;> have := ha.2 <;> omega
    rcases hv with ⟨_, c, _⟩ | ⟨c, _⟩ | ⟨c, _⟩ | ⟨c, _⟩ | ⟨_, _, c, _⟩ <;> omega
   ·have := ha.2; omega
  rcases hp with ⟨c, _⟩ | ⟨_, hp, _⟩
  ·omega
  obtain ⟨⟨z0, z1, z2⟩, y, hy, yc, ys, hw, _⟩ := rint_opd ha.1 ha.2 f647 hx (by omega) hp
  have hw' := (hw xc).2
  rcases h with ⟨p, mx, one, inf, sg, nan, y', hF', hlt, hm', hk, hy', ho⟩ | ⟨c, _⟩
  ·obtain ⟨rfl, rfl, rfl, rfl, rfl, rfl⟩ := fmt7 hF'
   obtain rfl := hy.one f647 hy'
   refine o7_whole (fl := fl) (.inl ⟨_, _, _, _, _, _, y, f647, hlt, ⟨by decide, by decide⟩, hk, hy, ?_⟩)
   unfold ToIntO at ho ⊢
   rw [hw' 2] at ho
   rw [hw' 0]
   exact ho
  ·unfold NoTo at c; omega
 ·omega
 ·omega
end Go.Proofs.YtnbbfeknbfohhaaGreatDoor
