import Derived.Test.YtnbbfeknbfohhaaGreatDoorA6
import Derived.Test.YtnbbfeknbfohhaaGreatDoorC0
import Derived.Test.YtnbbfeknbfohhaaGreatDoorL5a
import Derived.Test.YtnbbfeknbfohhaaGreatDoorX0
import Derived.Test.YtnbbfeknbfohhaaGreatDoorC3
set_option linter.unusedVariables false
set_option linter.unusedSimpArgs false
namespace Go.Proofs.YtnbbfeknbfohhaaGreatDoor
def nv (M : Nat) (e : Int) : Nat := M * 2 ^ (e + 6000).toNat
theorem nv_scale (m k : Nat) (e0 : Int) (h : 0 ≤ e0 - k + 6000) : nv (m * 2 ^ k) (e0 - k) = nv m e0 := by
 unfold nv
 rw [show (e0 + 6000).toNat = k + (e0 - k + 6000).toNat by omega, Nat.pow_add, Nat.mul_assoc]
theorem nv_cut (M : Nat) (e q : Int) (he : 0 ≤ e + 6000) (hq : 0 ≤ q + 6000) : nv (cutLo M e q) q ≤ nv M e ∧ nv M e < nv (cutLo M e q + 1) q := by
 unfold nv cutLo
 split
 ·rename_i c
  have h1 : M * 2 ^ (e - q).toNat * 2 ^ (q + 6000).toNat = M * 2 ^ (e + 6000).toNat := by
   rw [Nat.mul_assoc, ← Nat.pow_add, show (e - q).toNat + (q + 6000).toNat = (e + 6000).toNat by omega]
  have h2 : 0 < 2 ^ (q + 6000).toNat := Nat.pow_pos (by decide)
  rw [Nat.add_mul, h1]
  omega
 ·rename_i c
  have h1 : 2 ^ (q + 6000).toNat = 2 ^ (q - e).toNat * 2 ^ (e + 6000).toNat := by
   rw [← Nat.pow_add, show (q - e).toNat + (e + 6000).toNat = (q + 6000).toNat by omega]
  have hP : 0 < 2 ^ (q - e).toNat := Nat.pow_pos (by decide)
  have hE : 0 < 2 ^ (e + 6000).toNat := Nat.pow_pos (by decide)
  rw [h1, ← Nat.mul_assoc, ← Nat.mul_assoc]
  have a1 : M / 2 ^ (q - e).toNat * 2 ^ (q - e).toNat ≤ M := Nat.div_mul_le_self _ _
  have a2 : M < (M / 2 ^ (q - e).toNat + 1) * 2 ^ (q - e).toNat := by
   have := Nat.lt_div_mul_add (a := M) hP
   rw [Nat.add_mul]; omega
  exact ⟨Nat.mul_le_mul_right _ a1, Nat.mul_lt_mul_of_pos_right a2 hE⟩
theorem word_nv {p mx one v E m e0 : Int} (l : Nat) (P : Nat) (hp : p = P + 1) (ho : one = ((2 ^ P : Nat) : Int)) (hE : 1 - mx ≤ E) (hl : (l : Int) ≤ 2 * one) (hb : E = 1 - mx ∨ one ≤ (l : Int)) (hv : v = (l : Int) + one * (E - (1 - mx)))
  (hq : 0 ≤ E - p + 1 + 6000) (hm : v < one ∧ m = v ∧ e0 = 2 - mx - p ∨ one ≤ v ∧ m = v % one + one ∧ e0 = 1 - mx - p + v / one) : 0 ≤ m ∧ nv m.toNat e0 = nv l (E - p + 1) := by
 have o0 : 0 < one := by rw [ho]; exact Int.natCast_pos.mpr (Nat.pow_pos (by decide))
 by_cases c : (l : Int) < one
 ·have hE' : E = 1 - mx := by omega
  rw [hE', Int.sub_self, Int.mul_zero] at hv
  rcases hm with ⟨a, b, d⟩ | ⟨a, b, d⟩
  ·rw [b, hv, d]
   refine ⟨by omega, ?_⟩
   rw [Int.add_zero, Int.toNat_natCast, show 2 - mx - p = E - p + 1 by omega]
  ·exfalso; omega
 ·obtain ⟨k, hk⟩ : ∃ k : Nat, E - (1 - mx) = k := ⟨(E - (1 - mx)).toNat, by omega⟩
  rw [hk] at hv
  have hk0 : 0 ≤ one * (k : Int) := Int.mul_nonneg (by omega) (by omega)
  rcases hm with ⟨a, b, d⟩ | ⟨a, b, d⟩
  ·exfalso; omega
  ·by_cases c2 : (l : Int) = 2 * one
   ·have hv2 : v = 0 + one * ((k : Int) + 2) := by rw [hv, c2, Int.mul_add]; omega
    have hm1 : v % one = 0 := by rw [hv2, Int.add_mul_emod_self_left]; rfl
    have hd1 : v / one = (k : Int) + 2 := by rw [hv2, Int.add_mul_ediv_left _ _ (by omega)]; simp
    rw [b, d, hm1, hd1]
    refine ⟨by omega, ?_⟩
    have h3 : l = (0 + one).toNat * 2 ^ 1 := by omega
    rw [h3, show E - p + 1 = (1 - mx - p + ((k : Int) + 2)) - ((1 : Nat) : Int) by omega, nv_scale _ _ _ (by omega)]
   ·have hv2 : v = ((l : Int) - one) + one * ((k : Int) + 1) := by rw [hv, Int.mul_add]; omega
    have hm1 : v % one = (l : Int) - one := by rw [hv2, Int.add_mul_emod_self_left]; exact Int.emod_eq_of_lt (by omega) (by omega)
    have hd1 : v / one = (k : Int) + 1 := by rw [hv2, Int.add_mul_ediv_left _ _ (by omega), Int.ediv_eq_zero_of_lt (by omega) (by omega)]; omega
    rw [b, d, hm1, hd1]
    refine ⟨by omega, ?_⟩
    rw [show ((l : Int) - one + one).toNat = l by omega, show 1 - mx - p + ((k : Int) + 1) = E - p + 1 by omega]
open Go.RowKit
theorem fmt_pow {f p mx one inf sg nan : Int} (h : IsFmt f p mx one inf sg nan) : ∃ P : Nat, p = P + 1 ∧ one = ((2 ^ P : Nat) : Int) ∧ P ≤ 52 := by
 rcases h with h | h
 ·exact ⟨23, by omega, by rw [h.2.2.2.1]; decide, by omega⟩
 ·exact ⟨52, by omega, by rw [h.2.2.2.1]; decide, by omega⟩
theorem opd_nv {f p mx one inf sg nan v : Int} (h : IsFmt f p mx one inf sg nan) {u : Opd} (hu : OpdIs p mx one inf sg nan v u) (l : Nat) (E : Int) (hE : 1 - mx ≤ E) (hl : (l : Int) ≤ 2 * one) (hb : E = 1 - mx ∨ one ≤ (l : Int)) (hv : v = (l : Int) + one * (E - (1 - mx))) (v1 : v < inf) :
  u.s = 0 ∧ (u.c = 0 ∨ u.c = 1) ∧ nv u.M u.e = nv l (E - p + 1) := by
 obtain ⟨P, hp, ho, hP⟩ := fmt_pow h
 have hb' := h.bounds
 have hk0 : 0 ≤ one * (E - (1 - mx)) := Int.mul_nonneg (by omega) (by omega)
 rcases hu with ⟨_, v', hs, hv'⟩ | ⟨c, _⟩
 ·have hs' : u.s = 0 ∧ v' = v := by omega
  refine ⟨hs'.1, ?_⟩
  rw [hs'.2] at hv'
  rcases hv' with ⟨e0, c0, _, hM⟩ | ⟨_, _, c0, _⟩ | ⟨_, c0, _⟩ | ⟨_, c0, _⟩ | ⟨v0, _, c0, hn⟩
  ·refine ⟨.inl c0, ?_⟩
   have hl0 : l = 0 := by omega
   have hM0 : u.M = 0 := by omega
   rw [hl0, hM0]; unfold nv; simp
  ·exfalso; omega
  ·exfalso; omega
  ·exfalso; omega
  ·refine ⟨.inr c0, ?_⟩
   obtain ⟨_, _, n0, _⟩ := norm_bounds h v0 v1 hn
   obtain ⟨k, m, e0, hm, hg, he, _, _⟩ := hn
   obtain ⟨m0, hsv⟩ := word_nv l P hp ho hE hl hb hv (by omega) hm
   have hM : u.M = m.toNat * 2 ^ k := by
    have h1 : ((u.M : Nat) : Int) = ((m.toNat * 2 ^ k : Nat) : Int) := by
     rw [hg, Int.natCast_mul, Int.toNat_of_nonneg m0, Int.natCast_pow]; rfl
    exact Int.ofNat.inj h1
   rw [hM, he, nv_scale _ _ _ (by omega)]
   exact hsv
 ·exfalso; omega
theorem OpdIs.bare {f p mx one inf sg nan v s : Int} (h : IsFmt f p mx one inf sg nan) (hs : s = 0 ∨ s = 1) (v0 : 0 ≤ v) (v1 : v ≤ inf) {y : Opd} (hy : OpdIs p mx one inf sg nan (sw s sg v) y) : y.s = s ∧ OpdIs p mx one inf sg nan v ⟨y.c, 0, y.e, y.M⟩ := by
 have hb := h.bounds
 have hw : s = 0 ∧ sw s sg v = v ∨ s = 1 ∧ sw s sg v = v + sg := by
  unfold sw
  rcases hs with rfl | rfl
  ·exact .inl ⟨rfl, by rw [if_neg (by decide)]⟩
  ·exact .inr ⟨rfl, by rw [if_pos rfl]⟩
 rcases hy with ⟨_, v', hs', hv'⟩ | ⟨c, _⟩
 ·have e : v' = v ∧ y.s = s := by omega
  obtain ⟨rfl, e2⟩ := e
  exact ⟨e2, .inl ⟨by omega, v', .inl ⟨rfl, rfl, by omega⟩, hv'⟩⟩
 ·exfalso; omega
theorem nv_same {M N : Nat} {e g : Int} (he : 0 ≤ e + 6000) (hle : e ≤ g) (h : nv M e = nv N g) : M = N * 2 ^ (g - e).toNat := by
 unfold nv at h
 rw [show (g + 6000).toNat = (g - e).toNat + (e + 6000).toNat by omega, Nat.pow_add, ← Nat.mul_assoc] at h
 exact Nat.eq_of_mul_eq_mul_right (Nat.pow_pos (by decide)) h
theorem RoundIs.nv {p mn mx one inf mode sign : Int} {M N : Nat} {e g z fl : Int} (hM : 0 < M) (hN : 0 < N) (he : 0 ≤ e + 6000) (hg : 0 ≤ g + 6000) (h : nv M e = nv N g) : RoundIs p mn mx one inf mode sign M e false z fl ↔ RoundIs p mn mx one inf mode sign N g false z fl := by
 rcases Int.le_total e g with c | c
 ·have hM' := nv_same he c h
  have := RoundIs.scale (p := p) (mn := mn) (mx := mx) (one := one) (inf := inf) (mode := mode) (sign := sign) (e := g) (z := z) (fl := fl) (g - e).toNat hN
  rw [← hM', show g - ((g - e).toNat : Int) = e by omega] at this
  exact this
 ·have hN' := nv_same hg c h.symm
  have := RoundIs.scale (p := p) (mn := mn) (mx := mx) (one := one) (inf := inf) (mode := mode) (sign := sign) (e := e) (z := z) (fl := fl) (e - g).toNat hM
  rw [← hN', show e - ((e - g).toNat : Int) = g by omega] at this
  exact this.symm
def Nr (x y e : Int) : Prop := -e ≤ x - y ∧ x - y ≤ e
def In' (x b : Int) : Prop := -b ≤ x ∧ x ≤ b
theorem nr_prod {d e k K : Int} (h0 : -e ≤ d) (h1 : d ≤ e) (k0 : -K ≤ k) (k1 : k ≤ K) : -(K * e) ≤ k * d ∧ k * d ≤ K * e := by
 have a1 := Int.mul_nonneg (show 0 ≤ K - k by omega) (show 0 ≤ e + d by omega)
 have a2 := Int.mul_nonneg (show 0 ≤ K + k by omega) (show 0 ≤ e - d by omega)
 have a3 := Int.mul_nonneg (show 0 ≤ K - k by omega) (show 0 ≤ e - d by omega)
 have a4 := Int.mul_nonneg (show 0 ≤ K + k by omega) (show 0 ≤ e + d by omega)
 simp only [Int.mul_add, Int.mul_sub, Int.add_mul, Int.sub_mul] at a1 a2 a3 a4
 omega
theorem In'.mul {x b y c : Int} (h : In' x b) (h' : In' y c) : In' (x * y) (b * c) := by
 have := nr_prod h'.1 h'.2 h.1 h.2
 exact this
theorem Nr.mul {x y e k K : Int} (h : Nr x y e) (hk : In' k K) : Nr (k * x) (k * y) (K * e) := by
 have := nr_prod h.1 h.2 hk.1 hk.2
 unfold Nr
 rw [Int.mul_sub] at this
 exact this
theorem le_div {x y S : Int} (hS : 0 < S) (h : x * S ≤ y * S) : x ≤ y := Int.le_of_mul_le_mul_right h hS
theorem Nr.div {x y e S : Int} (hS : 0 < S) (h : Nr (x * S) (y * S) (e * S)) : Nr x y e := by
 obtain ⟨h0, h1⟩ := h
 rw [← Int.sub_mul] at h0 h1
 rw [← Int.neg_mul] at h0
 exact ⟨le_div hS h0, le_div hS h1⟩
theorem In'.div {x e S : Int} (hS : 0 < S) (h : In' (x * S) (e * S)) : In' x e := by
 obtain ⟨h0, h1⟩ := h
 rw [← Int.neg_mul] at h0
 exact ⟨le_div hS h0, le_div hS h1⟩
structure Ap (o : Ops) (V : Int → Int → Prop) (U : Int) : Prop where
 u0 : 0 < U
 add : ∀ {a b x y : Int}, V a x → V b y → In' (x + y) (4503599627370496 * U) → ∃ z, V (o.add a b) z ∧ Nr z (x + y) U
 sub : ∀ {a b x y : Int}, V a x → V b y → In' (x - y) (4503599627370496 * U) → ∃ z, V (o.sub a b) z ∧ Nr z (x - y) U
 mul : ∀ {a b x y : Int}, V a x → V b y → In' (x * y) (4503599627370496 * U * (4194304 * U)) → ∃ z, V (o.mul a b) z ∧ Nr (z * (4194304 * U)) (x * y) (U * (4194304 * U))
 tn : ∀ {a x : Int}, V a x → V (tnW a) (-x)
 fn : ∀ {a x y : Int}, V a x → V a y → x = y
 half : V halfC (2097152 * U)
def VC (V : Int → Int → Prop) (a : Int × Int) (p q : Int) : Prop := V a.1 p ∧ V a.2 q
def Rts (o : Ops) (V : Int → Int → Prop) (U : Int) : Prop := ∀ k j : Nat, 2 ≤ k → k ≤ 6 → 4 * j < 2 ^ k → ∃ r s, VC V (o.rt k (2 * j)) r s ∧ In' r (4194304 * U) ∧ In' s (4194304 * U) ∧ Nr (4194304 * (r * r + s * s)) (4194304 * (4194304 * U * (4194304 * U))) (U * (4194304 * U))
variable {o : Ops} {V : Int → Int → Prop} {U : Int}
theorem Ap.cMul (H : Ap o V U) {a b : Int × Int} {p q r s B : Int} (ha : VC V a p q) (hb : VC V b r s) (hB : B ≤ 1125899906842624 * U)
  (h1 : In' (p * r) (B * (4194304 * U))) (h2 : In' (q * s) (B * (4194304 * U))) (h3 : In' (p * s) (B * (4194304 * U))) (h4 : In' (q * r) (B * (4194304 * U))) :
  ∃ t1 t2, VC V (o.cMul a b) t1 t2 ∧ Nr (t1 * (4194304 * U)) (p * r - q * s) (3 * U * (4194304 * U)) ∧ Nr (t2 * (4194304 * U)) (p * s + q * r) (3 * U * (4194304 * U)) ∧ In' t1 (2 * B + 3 * U) ∧ In' t2 (2 * B + 3 * U) := by
 have u0 := H.u0
 obtain ⟨S, hS⟩ : ∃ S, S = 4194304 * U := ⟨_, rfl⟩
 have S0 : 0 < S := by omega
 have hM := @Ap.mul o V U H
 rw [← hS] at h1 h2 h3 h4 hM ⊢
 have big : ∀ {x : Int}, In' x (B * S) → In' x (4503599627370496 * U * S) := fun h => by
  have : B * S ≤ 4503599627370496 * U * S := Int.mul_le_mul_of_nonneg_right (by omega) (by omega)
  exact ⟨by have := h.1; omega, by have := h.2; omega⟩
 have one : ∀ {m x : Int}, In' x (B * S) → Nr (m * S) x (U * S) → In' m (B + U) := fun {m x} h h' => by
  refine In'.div S0 ?_
  rw [Int.add_mul]
  exact ⟨by have := h.1; have := h'.1; omega, by have := h.2; have := h'.2; omega⟩
 obtain ⟨m1, v1, n1⟩ := hM ha.1 hb.1 (big h1)
 obtain ⟨m2, v2, n2⟩ := hM ha.2 hb.2 (big h2)
 obtain ⟨m3, v3, n3⟩ := hM ha.1 hb.2 (big h3)
 obtain ⟨m4, v4, n4⟩ := hM ha.2 hb.1 (big h4)
 have i1 := one h1 n1
 have i2 := one h2 n2
 have i3 := one h3 n3
 have i4 := one h4 n4
 unfold In' at i1 i2 i3 i4
 obtain ⟨t1, w1, k1⟩ := H.sub v1 v2 (by unfold In'; omega)
 obtain ⟨t2, w2, k2⟩ := H.add v3 v4 (by unfold In'; omega)
 have kk : ∀ {t m : Int}, Nr t m U → -(U * S) ≤ t * S - m * S ∧ t * S - m * S ≤ U * S := fun {t m} h => by
  rw [← Int.sub_mul, ← Int.neg_mul]
  exact ⟨Int.mul_le_mul_of_nonneg_right h.1 (by omega), Int.mul_le_mul_of_nonneg_right h.2 (by omega)⟩
 have q1 := kk k1
 have q2 := kk k2
 rw [Int.sub_mul] at q1
 rw [Int.add_mul] at q2
 have e3 : 3 * U * S = U * S + U * S + U * S := by rw [Int.mul_assoc]; omega
 unfold Nr at n1 n2 n3 n4 k1 k2
 exact ⟨t1, t2, ⟨w1, w2⟩, by unfold Nr; rw [e3]; omega, by unfold Nr; rw [e3]; omega, by unfold In'; omega, by unfold In'; omega⟩
theorem Ap.half' (H : Ap o V U) {a x : Int} (ha : V a x) (hx : In' x (4503599627370496 * U)) : ∃ z, V (o.mul a halfC) z ∧ Nr (2 * z) x (2 * U) := by
 have u0 := H.u0
 have hp : In' (x * (2097152 * U)) (4503599627370496 * U * (4194304 * U)) := by
  have := In'.mul hx (c := 2097152 * U) (y := 2097152 * U) ⟨by omega, by omega⟩
  have h2 : 4503599627370496 * U * (2097152 * U) ≤ 4503599627370496 * U * (4194304 * U) := Int.mul_le_mul_of_nonneg_left (by omega) (by omega)
  unfold In' at *; omega
 obtain ⟨z, hz, hn⟩ := H.mul ha H.half hp
 refine ⟨z, hz, ?_⟩
 obtain ⟨W, hW⟩ : ∃ W, W = 2097152 * U := ⟨_, rfl⟩
 have e : 4194304 * U = 2 * W := by omega
 rw [e, ← hW] at hn
 refine Nr.div (S := W) (by omega) ?_
 have e1 : z * (2 * W) = 2 * z * W := by rw [Int.mul_comm 2 z, Int.mul_assoc]
 have e2 : U * (2 * W) = 2 * U * W := by rw [Int.mul_comm 2 U, Int.mul_assoc]
 rw [e1, e2] at hn
 exact hn
theorem Ap.stepT (H : Ap o V U) (R : Rts o V U) {k j : Nat} (k2 : 2 ≤ k) (k6 : k ≤ 6) (hj : 4 * j < 2 ^ k) {a b : Int × Int} {p q x y B : Int} (ha : VC V a p q) (hb : VC V b x y) (hB : B ≤ 281474976710656 * U) (b0 : U ≤ B)
  (hp : In' p B) (hq : In' q B) (hx : In' x B) (hy : In' y B) :
  ∃ r s t1 t2 z0 y0 z1 y1, VC V (o.rt k (2 * j)) r s ∧ In' r (4194304 * U) ∧ In' s (4194304 * U) ∧ Nr (4194304 * (r * r + s * s)) (4194304 * (4194304 * U * (4194304 * U))) (U * (4194304 * U)) ∧
   Nr (t1 * (4194304 * U)) (r * x - s * y) (3 * U * (4194304 * U)) ∧ Nr (t2 * (4194304 * U)) (r * y + s * x) (3 * U * (4194304 * U)) ∧ In' t1 (2 * B + 3 * U) ∧ In' t2 (2 * B + 3 * U) ∧
   VC V (o.cAdd a (o.cMul (o.rt k (2 * j)) b)) z0 y0 ∧ VC V (o.cSub a (o.cMul (o.rt k (2 * j)) b)) z1 y1 ∧ Nr z0 (p + t1) U ∧ Nr y0 (q + t2) U ∧ Nr z1 (p - t1) U ∧ Nr y1 (q - t2) U := by
 have u0 := H.u0
 obtain ⟨r, s, hr, r1, s1, hn⟩ := R k j k2 k6 hj
 have cm : ∀ {m v : Int}, In' m (4194304 * U) → In' v B → In' (m * v) (B * (4194304 * U)) := fun h h' => by have := In'.mul h h'; rw [Int.mul_comm B]; exact this
 obtain ⟨t1, t2, ht, n1, n2, i1, i2⟩ := H.cMul hr hb (show B ≤ 1125899906842624 * U by omega) (cm r1 hx) (cm s1 hy) (cm r1 hy) (cm s1 hx)
 unfold In' at i1 i2 hp hq
 obtain ⟨z0, v0, m0⟩ := H.add ha.1 ht.1 (by unfold In'; omega)
 obtain ⟨y0, v1, m1⟩ := H.add ha.2 ht.2 (by unfold In'; omega)
 obtain ⟨z1, v2, m2⟩ := H.sub ha.1 ht.1 (by unfold In'; omega)
 obtain ⟨y1, v3, m3⟩ := H.sub ha.2 ht.2 (by unfold In'; omega)
 exact ⟨r, s, t1, t2, z0, y0, z1, y1, hr, r1, s1, hn, n1, n2, by unfold In'; omega, by unfold In'; omega, ⟨v0, v1⟩, ⟨v2, v3⟩, m0, m1, m2, m3⟩
theorem Ap.tr (H : Ap o V U) (R : Rts o V U) : ∀ (k : Nat) (cs : Nat → Int) (B : Int), 1 ≤ k → k ≤ 6 → 4 * U ≤ B → B * 4 ^ (k - 1) ≤ 281474976710656 * U → (∀ i, i < 2 ^ k → ∃ x, V (cs i) x ∧ In' x B) → ∀ i, 2 * i < 2 ^ k → ∃ p q, VC V (o.tr k cs i) p q ∧ In' p (B * 4 ^ (k - 1)) ∧ In' q (B * 4 ^ (k - 1))
 | 0, _, _, h, _, _, _, _ => absurd h (by decide)
 | 1, cs, B, _, _, _, _, hc => fun i hi => by
  obtain ⟨x, hx, bx⟩ := hc 0 (by decide)
  obtain ⟨y, hy, byy⟩ := hc 1 (by decide)
  simp only [Ops.tr]
  exact ⟨x, y, ⟨hx, hy⟩, by simpa using bx, by simpa using byy⟩
 | k + 2, cs, B, _, k6, b0, hB, hc => fun i hi => by
  have u0 := H.u0
  have e2 : 2 ^ (k + 2) = 2 * 2 ^ (k + 1) := by rw [Nat.pow_succ, Nat.mul_comm]
  have e8 : (4 : Int) ^ (k + 2 - 1) = 4 * 4 ^ (k + 1 - 1) := by show (4 : Int) ^ (k + 1) = 4 * 4 ^ k; rw [Int.pow_succ, Int.mul_comm]
  have p8 : (0 : Int) < 4 ^ (k + 1 - 1) := Int.pow_pos (by decide)
  obtain ⟨C, hC⟩ : ∃ C, C = B * (4 : Int) ^ (k + 1 - 1) := ⟨_, rfl⟩
  have eC : B * (4 : Int) ^ (k + 2 - 1) = 4 * C := by rw [e8, hC, Int.mul_left_comm]
  have cB : 4 * U ≤ C := by
   have : B * 1 ≤ B * (4 : Int) ^ (k + 1 - 1) := Int.mul_le_mul_of_nonneg_left (by omega) (by omega)
   omega
  rw [eC] at hB ⊢
  obtain ⟨p, q, h1, bp, bq⟩ := Ap.tr H R (k + 1) (fun m => cs (2 * m)) B (by omega) (by omega) b0 (by omega) (fun i hi => hc _ (by omega)) (i / 2) (by omega)
  obtain ⟨x, y, h2, bx, byy⟩ := Ap.tr H R (k + 1) (fun m => cs (2 * m + 1)) B (by omega) (by omega) b0 (by omega) (fun i hi => hc _ (by omega)) (i / 2) (by omega)
  rw [← hC] at bp bq bx byy
  obtain ⟨r, s, t1, t2, z0, y0, z1, y1, _, _, _, _, _, _, i1, i2, v0, v1, n0, n1, n2, n3⟩ := H.stepT R (k := k + 2) (j := i / 2) (by omega) k6 (by omega) h1 h2 (show C ≤ 281474976710656 * U by omega) (by omega) bp bq bx byy
  unfold In' Nr at *
  simp only [Ops.tr]
  split
  ·exact ⟨z0, y0, v0, by omega, by omega⟩
  ·exact ⟨z1, y1, v1, by omega, by omega⟩
def eE (U : Int) : Nat → Int → Int
 | 0, d => d
 | 1, d => d
 | k + 2, d => eE U (k + 1) (2 * d + 12 * U)
theorem Ap.backA (H : Ap o V U) {p t z0 z1 z0' z1' d : Int} {a b : Int} (h0 : Nr z0 (p + t) U) (h1 : Nr z1 (p - t) U) (g0 : Nr z0' z0 d) (g1 : Nr z1' z1 d) (ha : V a z0') (hb : V b z1') (hp : In' p (281474976710656 * U)) (hd : d ≤ 281474976710656 * U) :
  ∃ p', V (o.mul (o.add a b) halfC) p' ∧ Nr p' p (2 * d + 12 * U) := by
 have u0 := H.u0
 unfold Nr In' at *
 obtain ⟨m, hm, nm⟩ := H.add ha hb (by unfold In'; omega)
 unfold Nr at nm
 obtain ⟨z, hz, nz⟩ := H.half' hm (by unfold In'; omega)
 unfold Nr at nz
 exact ⟨z, hz, by omega, by omega⟩
theorem Ap.backB (H : Ap o V U) {w a b : Int × Int} {r s x y t1 t2 p q z0 y0 z1 y1 z0' y0' z1' y1' d : Int} (hw : VC V w r s) (r1 : In' r (4194304 * U)) (s1 : In' s (4194304 * U)) (hn : Nr (4194304 * (r * r + s * s)) (4194304 * (4194304 * U * (4194304 * U))) (U * (4194304 * U)))
  (n1 : Nr (t1 * (4194304 * U)) (r * x - s * y) (3 * U * (4194304 * U))) (n2 : Nr (t2 * (4194304 * U)) (r * y + s * x) (3 * U * (4194304 * U))) (i1 : In' t1 (140737488355328 * U)) (i2 : In' t2 (140737488355328 * U)) (bx : In' x (8796093022208 * U)) (byy : In' y (8796093022208 * U))
  (h0 : Nr z0 (p + t1) U) (h0' : Nr y0 (q + t2) U) (h1 : Nr z1 (p - t1) U) (h1' : Nr y1 (q - t2) U) (g0 : Nr z0' z0 d) (g0' : Nr y0' y0 d) (g1 : Nr z1' z1 d) (g1' : Nr y1' y1 d) (ha : VC V a z0' y0') (hb : VC V b z1' y1') (hd : d ≤ 70368744177664 * U) :
  ∃ x' y', VC V (o.cHalf (o.cMul (o.cSub a b) (cConj w))) x' y' ∧ Nr x' x (2 * d + 12 * U) ∧ Nr y' y (2 * d + 12 * U) := by
 have u0 := H.u0
 obtain ⟨S, hS⟩ : ∃ S, S = 4194304 * U := ⟨_, rfl⟩
 have S0 : 0 < S := by omega
 unfold Nr at h0 h0' h1 h1' g0 g0' g1 g1'
 unfold In' at i1 i2
 obtain ⟨D1, v1, m1⟩ := H.sub ha.1 hb.1 (by unfold In'; omega)
 obtain ⟨D2, v2, m2⟩ := H.sub ha.2 hb.2 (by unfold In'; omega)
 unfold Nr at m1 m2
 have d1 : Nr D1 (2 * t1) (2 * d + 3 * U) := by unfold Nr; omega
 have d2 : Nr D2 (2 * t2) (2 * d + 3 * U) := by unfold Nr; omega
 have b1 : In' D1 (1125899906842624 * U) := by unfold In'; unfold Nr at d1; omega
 have b2 : In' D2 (1125899906842624 * U) := by unfold In'; unfold Nr at d2; omega
 have s1' : In' (-s) (4194304 * U) := by unfold In' at *; omega
 have hc : VC V (cConj w) r (-s) := ⟨hw.1, H.tn hw.2⟩
 obtain ⟨c1, c2, hC, k1, k2, j1, j2⟩ := H.cMul (a := o.cSub a b) (b := cConj w) ⟨v1, v2⟩ hc (Int.le_refl _) (In'.mul b1 r1) (In'.mul b2 s1') (In'.mul b1 s1') (In'.mul b2 r1)
 -- what the product stands for
 have dl := (show 0 ≤ 2 * d + 3 * U by unfold Nr at d1; omega)
 have near : ∀ {D t X : Int}, Nr D (2 * t) (2 * d + 3 * U) → Nr (t * S) X (3 * U * S) → Nr (D * S) (2 * X) ((2 * d + 9 * U) * S) := by
  intro D t X h h'
  have e1 := Nr.mul h (k := S) (K := S) ⟨by omega, by omega⟩
  rw [Int.mul_comm S D, Int.mul_comm S (2 * t), Int.mul_assoc 2 t S, Int.mul_comm S (2 * d + 3 * U)] at e1
  have e2 : (2 * d + 9 * U) * S = (2 * d + 3 * U) * S + 2 * (3 * U * S) := by rw [← Int.mul_assoc 2, ← Int.add_mul]; congr 1; omega
  unfold Nr at *
  rw [e2]
  omega
 rw [← hS] at n1 n2 r1 s1 hn s1' k1 k2
 have p1 := near d1 n1
 have p2 := near d2 n2
 have gg : ∀ {m n X Y : Int}, In' m S → In' n S → Nr (D1 * S) (2 * X) ((2 * d + 9 * U) * S) → Nr (D2 * S) (2 * Y) ((2 * d + 9 * U) * S) → Nr ((D1 * m + D2 * n) * S) (2 * (m * X + n * Y)) (2 * ((2 * d + 9 * U) * S * S)) := by
  intro m n X Y hm hn h h'
  have e1 := Nr.mul h hm
  have e2 := Nr.mul h' hn
  have f0 : S * ((2 * d + 9 * U) * S) = (2 * d + 9 * U) * S * S := Int.mul_comm _ _
  have f1 : (D1 * m + D2 * n) * S = m * (D1 * S) + n * (D2 * S) := by rw [Int.add_mul, Int.mul_assoc, Int.mul_assoc, Int.mul_left_comm m, Int.mul_left_comm n]
  have f2 : 2 * (m * X + n * Y) = m * (2 * X) + n * (2 * Y) := by rw [Int.mul_add, Int.mul_left_comm m, Int.mul_left_comm n]
  rw [f0] at e1 e2
  rw [f1, f2]
  unfold Nr at *
  omega
 have hrs : ∀ {X : Int}, In' X (8796093022208 * U) → Nr (2 * (X * (r * r + s * s))) (2 * (X * (S * S))) (U * S * S) := by
  intro X hX
  have e1 := Nr.mul hn hX
  have f1 : ∀ z : Int, X * (4194304 * z) = 4194304 * (X * z) := fun z => Int.mul_left_comm _ _ _
  rw [f1, f1] at e1
  have f2 : 8796093022208 * U * (U * S) = 4194304 * (2097152 * U * (U * S)) := by rw [← Int.mul_assoc 4194304 (2097152 * U) (U * S), show 4194304 * (2097152 * U) = 8796093022208 * U by omega]
  have f3 : 2097152 * U * (U * S) * 2 = U * S * S := by
   have : 2097152 * U * 2 = S := by omega
   rw [Int.mul_comm, ← Int.mul_assoc, Int.mul_comm 2, this, Int.mul_comm]
  rw [f2] at e1
  rw [← f3]
  unfold Nr at *
  omega
 have fin : ∀ {c M X : Int}, Nr (c * S) M (3 * U * S) → Nr (M * S) (2 * (X * (r * r + s * s))) (2 * ((2 * d + 9 * U) * S * S)) → In' X (8796093022208 * U) → Nr c (2 * X) (4 * d + 22 * U) := by
  intro c M X hc hM hX
  have e0 := hrs hX
  have e1 := Nr.mul hc (k := S) (K := S) ⟨by omega, by omega⟩
  refine Nr.div S0 (Nr.div S0 ?_)
  have f1 : c * S * S = S * (c * S) := Int.mul_comm _ _
  have f2 : 2 * X * S * S = 2 * (X * (S * S)) := by rw [Int.mul_assoc, Int.mul_assoc]
  have f3 : (4 * d + 22 * U) * S * S = S * (3 * U * S) + 2 * ((2 * d + 9 * U) * S * S) + U * S * S := by
   rw [Int.mul_comm S, ← Int.mul_assoc 2, ← Int.mul_assoc 2, ← Int.add_mul, ← Int.add_mul, ← Int.add_mul, ← Int.add_mul]
   congr 2; omega
  rw [f1, f2, f3]
  rw [Int.mul_comm M S] at hM
  unfold Nr at *
  omega
 have x1 : Nr ((D1 * r - D2 * -s) * S) (2 * (x * (r * r + s * s))) (2 * ((2 * d + 9 * U) * S * S)) := by
  have := gg r1 s1 p1 p2
  rw [show D1 * r - D2 * -s = D1 * r + D2 * s by rw [Int.mul_neg]; omega, show x * (r * r + s * s) = r * (r * x - s * y) + s * (r * y + s * x) by grind]
  exact this
 have x2 : Nr ((D1 * -s + D2 * r) * S) (2 * (y * (r * r + s * s))) (2 * ((2 * d + 9 * U) * S * S)) := by
  have := gg s1' r1 p1 p2
  rw [show y * (r * r + s * s) = -s * (r * x - s * y) + r * (r * y + s * x) by grind]
  exact this
 have y1 := fin k1 x1 bx
 have y2 := fin k2 x2 byy
 unfold In' at j1 j2
 obtain ⟨x', w1, l1⟩ := H.half' hC.1 (by unfold In'; omega)
 obtain ⟨y', w2, l2⟩ := H.half' hC.2 (by unfold In'; omega)
 unfold Nr at *
 exact ⟨x', y', ⟨w1, w2⟩, by omega, by omega⟩
theorem Ap.back (H : Ap o V U) (R : Rts o V U) : ∀ (k : Nat) (cs x : Nat → Int) (B d : Int) (zs : Nat → Int × Int), 1 ≤ k → k ≤ 6 → 4 * U ≤ B → B * 4 ^ (k - 1) ≤ 8796093022208 * U → (d + 12 * U) * 2 ^ k ≤ 8796093022208 * U → 0 ≤ d → (∀ i, i < 2 ^ k → V (cs i) (x i) ∧ In' (x i) B) →
  (∀ j, 2 * j < 2 ^ k → ∀ p q, VC V (o.tr k cs j) p q → ∃ p' q', VC V (zs j) p' q' ∧ Nr p' p d ∧ Nr q' q d) → ∀ i, i < 2 ^ k → ∃ y, V (o.bk k zs i) y ∧ Nr y (x i) (eE U k d)
 | 0, _, _, _, _, _, h, _, _, _, _, _, _, _ => absurd h (by decide)
 | 1, cs, x, B, d, zs, _, _, _, _, _, _, hc, hz => fun i hi => by
  obtain ⟨p', q', hv, n1, n2⟩ := hz 0 (by decide) (x 0) (x 1) (by simp only [Ops.tr]; exact ⟨(hc 0 (by decide)).1, (hc 1 (by decide)).1⟩)
  simp only [Ops.bk, eE]
  rcases (show i = 0 ∨ i = 1 by omega) with rfl | rfl
  ·exact ⟨p', hv.1, n1⟩
  ·exact ⟨q', hv.2, n2⟩
 | k + 2, cs, x, B, d, zs, _, k6, b0, hB, hd, d0, hc, hz => fun i hi => by
  have u0 := H.u0
  have e2 : 2 ^ (k + 2) = 2 * 2 ^ (k + 1) := by rw [Nat.pow_succ, Nat.mul_comm]
  have e2' : (2 : Int) ^ (k + 2) = 2 * 2 ^ (k + 1) := by rw [Int.pow_succ, Int.mul_comm]
  have e8 : (4 : Int) ^ (k + 2 - 1) = 4 * 4 ^ (k + 1 - 1) := by show (4 : Int) ^ (k + 1) = 4 * 4 ^ k; rw [Int.pow_succ, Int.mul_comm]
  obtain ⟨C, hC⟩ : ∃ C, C = B * (4 : Int) ^ (k + 1 - 1) := ⟨_, rfl⟩
  have eC : B * (4 : Int) ^ (k + 2 - 1) = 4 * C := by rw [e8, hC, Int.mul_left_comm]
  have p8 : (0 : Int) < 4 ^ (k + 1 - 1) := Int.pow_pos (by decide)
  have cB : 4 * U ≤ C := by
   have : B * 1 ≤ B * (4 : Int) ^ (k + 1 - 1) := Int.mul_le_mul_of_nonneg_left (by omega) (by omega)
   omega
  rw [eC] at hB
  have dd : d ≤ 8796093022208 * U := by
   have p2 : (1 : Int) ≤ 2 ^ (k + 2) := Int.pow_pos (by decide)
   have : (d + 12 * U) * 1 ≤ (d + 12 * U) * 2 ^ (k + 2) := Int.mul_le_mul_of_nonneg_left p2 (by omega)
   omega
  have hd' : (2 * d + 12 * U + 12 * U) * 2 ^ (k + 1) ≤ 8796093022208 * U := by
   rw [e2', ← Int.mul_assoc] at hd
   rw [show 2 * d + 12 * U + 12 * U = (d + 12 * U) * 2 by omega]
   exact hd
  have ce : ∀ i, i < 2 ^ (k + 1) → V (cs (2 * i)) (x (2 * i)) ∧ In' (x (2 * i)) B := fun i hi => hc _ (by omega)
  have co : ∀ i, i < 2 ^ (k + 1) → V (cs (2 * i + 1)) (x (2 * i + 1)) ∧ In' (x (2 * i + 1)) B := fun i hi => hc _ (by omega)
  have te := Ap.tr H R (k + 1) (fun m => cs (2 * m)) B (by omega) (by omega) b0 (by omega) (fun i hi => ⟨_, ce i hi⟩)
  have tO := Ap.tr H R (k + 1) (fun m => cs (2 * m + 1)) B (by omega) (by omega) b0 (by omega) (fun i hi => ⟨_, co i hi⟩)
  rw [← hC] at te tO
  -- two places that belong together
  have st : ∀ j, 2 * j < 2 ^ (k + 1) → ∀ {p q u v : Int}, VC V (o.tr (k + 1) (fun m => cs (2 * m)) j) p q → VC V (o.tr (k + 1) (fun m => cs (2 * m + 1)) j) u v → In' p (8796093022208 * U) → In' q (8796093022208 * U) → In' u (8796093022208 * U) → In' v (8796093022208 * U) →
    (∃ p' q', VC V (o.bkA zs j) p' q' ∧ Nr p' p (2 * d + 12 * U) ∧ Nr q' q (2 * d + 12 * U)) ∧ ∃ u' v', VC V (o.bkB (k + 2) zs j) u' v' ∧ Nr u' u (2 * d + 12 * U) ∧ Nr v' v (2 * d + 12 * U) := by
   intro j hj p q u v h1 h2 bp bq bu bv
   obtain ⟨r, s, t1, t2, z0, y0, z1, y1, hr, r1, s1, hn, n1, n2, i1, i2, v0, v1, m0, m0', m1, m1'⟩ := H.stepT R (k := k + 2) (j := j) (by omega) k6 (by omega) h1 h2 (show 8796093022208 * U ≤ 281474976710656 * U by omega) (by omega) bp bq bu bv
   obtain ⟨a0, a1, ha, g0, g0'⟩ := hz (2 * j) (by omega) z0 y0 (by simp only [Ops.tr]; rw [if_pos (by omega), show 2 * j / 2 = j by omega]; exact v0)
   obtain ⟨b0, b1, hb, g1, g1'⟩ := hz (2 * j + 1) (by omega) z1 y1 (by simp only [Ops.tr]; rw [if_neg (by omega), show (2 * j + 1) / 2 = j by omega]; exact v1)
   have w1 : In' p (281474976710656 * U) := by unfold In' at *; omega
   have w2 : In' q (281474976710656 * U) := by unfold In' at *; omega
   obtain ⟨p', hp', np⟩ := H.backA m0 m1 g0 g1 ha.1 hb.1 w1 (by omega)
   obtain ⟨q', hq', nq⟩ := H.backA m0' m1' g0' g1' ha.2 hb.2 w2 (by omega)
   refine ⟨⟨p', q', ⟨hp', hq'⟩, np, nq⟩, ?_⟩
   exact H.backB hr r1 s1 hn n1 n2 (by unfold In' at *; omega) (by unfold In' at *; omega) (by unfold In' at *; omega) (by unfold In' at *; omega) m0 m0' m1 m1' g0 g0' g1 g1' ha hb (by omega)
  have wide : ∀ {z : Int}, In' z C → In' z (8796093022208 * U) := fun h => by unfold In' at *; omega
  simp only [Ops.bk, eE]
  split
  ·have := Ap.back H R (k + 1) (fun m => cs (2 * m)) (fun m => x (2 * m)) B (2 * d + 12 * U) (o.bkA zs) (by omega) (by omega) b0 (by omega) hd' (by omega) ce (fun j hj p q hv => ?_) (i / 2) (by omega)
   ·rw [show 2 * (i / 2) = i by omega] at this
    exact this
   ·obtain ⟨p0, q0, h1, bp, bq⟩ := te j hj
    obtain ⟨u, v, h2, bu, bv⟩ := tO j hj
    obtain rfl := H.fn hv.1 h1.1
    obtain rfl := H.fn hv.2 h1.2
    exact (st j hj h1 h2 (wide bp) (wide bq) (wide bu) (wide bv)).1
  ·have := Ap.back H R (k + 1) (fun m => cs (2 * m + 1)) (fun m => x (2 * m + 1)) B (2 * d + 12 * U) (o.bkB (k + 2) zs) (by omega) (by omega) b0 (by omega) hd' (by omega) co (fun j hj p q hv => ?_) (i / 2) (by omega)
   ·rw [show 2 * (i / 2) + 1 = i by omega] at this
    exact this
   ·obtain ⟨p0, q0, h1, bp, bq⟩ := te j hj
    obtain ⟨u, v, h2, bu, bv⟩ := tO j hj
    obtain rfl := H.fn hv.1 h2.1
    obtain rfl := H.fn hv.2 h2.2
    exact (st j hj h1 h2 (wide bp) (wide bq) (wide bu) (wide bv)).2
def eU : Nat := 5978
def uN : Nat := 2 ^ eU
def sN : Nat := 2 ^ (22 + eU)
theorem sN_eq : sN = 4194304 * uN := by
 unfold sN uN
 rw [Nat.pow_add, show (2 : Nat) ^ 22 = 4194304 by decide]
theorem uN_pos : 0 < uN := by unfold uN; exact Nat.pow_pos (by decide)
theorem sS_eq : ((sN : Nat) : Int) = 4194304 * ((uN : Nat) : Int) := by rw [sN_eq]; omega
def ov (o : Opd) : Int := if o.s = 1 then -((nv o.M o.e : Nat) : Int) else ((nv o.M o.e : Nat) : Int)
abbrev Op64 (a : Int) (o : Opd) : Prop := OpdIs 53 1023 4503599627370496 9218868437227405312 9223372036854775808 9221120237041090560 a o
abbrev Pk64 (o : Opd) (Z fl : Int) : Prop := PackIs 53 (1 - 1023) 1023 4503599627370496 9218868437227405312 9223372036854775808 9221120237041090560 0 o Z fl
theorem f64' : IsFmt 1 53 1023 4503599627370496 9218868437227405312 9223372036854775808 9221120237041090560 := .inr ⟨rfl, rfl, rfl, rfl, rfl, rfl, rfl⟩
def Vl (a x : Int) : Prop := Wd a ∧ ∃ o, Op64 a o ∧ o.c ≤ 1 ∧ x = ov o
theorem Vl.one {a x y : Int} (h : Vl a x) (h' : Vl a y) : x = y := by
 obtain ⟨_, o, ho, _, rfl⟩ := h
 obtain ⟨_, o', ho', _, rfl⟩ := h'
 rw [OpdIs.one f64' ho ho']
theorem nv_zero (e : Int) : nv 0 e = 0 := by unfold nv; simp
theorem nv_add (A B : Nat) (e : Int) : nv (A + B) e = nv A e + nv B e := by unfold nv; rw [Nat.add_mul]
theorem nv_le {A B : Nat} (e : Int) (h : A ≤ B) : nv A e ≤ nv B e := by unfold nv; exact Nat.mul_le_mul_right _ h
theorem nv_one (q : Int) (h : q ≤ -22) : nv 1 q ≤ uN := by unfold nv uN; rw [Nat.one_mul]; exact pow2_mono (by unfold eU; omega)
theorem word_vl {s : Int} (hs : s = 0 ∨ s = 1) (l : Nat) (E z : Int) (hE : 1 - 1023 ≤ E) (E1 : E ≤ 1000) (hl : (l : Int) ≤ 9007199254740992) (hb : E = 1 - 1023 ∨ 4503599627370496 ≤ (l : Int)) (hz : z = (l : Int) + 4503599627370496 * (E - (1 - 1023))) :
  Vl (sw s 9223372036854775808 z) (ov ⟨1, s, E - 53 + 1, l⟩) := by
 have hw : Wd (sw s 9223372036854775808 z) := by unfold sw Wd; split <;> omega
 obtain ⟨y, hy⟩ := opd_ex f64' _ hw.1 hw.2
 obtain ⟨y1, y2⟩ := OpdIs.bare f64' hs (v := z) (by omega) (by omega) hy
 obtain ⟨_, q2, q3⟩ := opd_nv f64' y2 l E hE (by omega) hb hz (by omega)
 refine ⟨hw, y, hy, by dsimp only at q2; omega, ?_⟩
 dsimp only at q3
 unfold ov
 dsimp only
 rw [q3, y1]
theorem round_vl {s : Int} (hs : s = 0 ∨ s = 1) {M : Nat} {e z fl : Int} (hM : 0 < M) (e0 : -5000 ≤ e) (hr : RoundIs 53 (1 - 1023) 1023 4503599627370496 9218868437227405312 0 s M e false z fl) (hb : nv M e ≤ 4503599627370496 * uN) :
  ∃ x, Vl (sw s 9223372036854775808 z) x ∧ Nr x (ov ⟨1, s, e, M⟩) uN := by
 obtain ⟨top, E, r, r2, hf, h1, h2, h3, h4, h5, hc⟩ := hr
 have t30 : top ≤ 30 := by
  rcases Int.lt_or_le 30 top with c | c
  ·exfalso
   have a1 := nb_ge M hM
   have a2 := nb_pos M hM
   have a3 : 2 ^ (nb M - 1) * 2 ^ (e + 6000).toNat ≤ nv M e := Nat.mul_le_mul_right _ a1
   rw [← Nat.pow_add] at a3
   have a4 := pow2_mono (show 53 + eU ≤ nb M - 1 + (e + 6000).toNat by unfold eU; omega)
   have a5 : (2 : Nat) ^ (53 + eU) = 9007199254740992 * uN := by
    unfold uN
    rw [Nat.pow_add, show (2 : Nat) ^ 53 = 9007199254740992 by decide]
   have := uN_pos
   omega
  ·exact c
 have hE : E ≤ 30 ∧ 1 - 1023 ≤ E ∧ top ≤ E := by omega
 obtain ⟨q, hq⟩ : ∃ q, q = E - 53 + 1 := ⟨_, rfl⟩
 rw [← hq] at h3 h4
 obtain ⟨n1, n2⟩ := nv_cut M e q (by omega) (by omega)
 have hlt := cutLo_lt M e q 53 (by omega)
 rw [show (2 : Nat) ^ 53 = 9007199254740992 by decide] at hlt
 obtain ⟨c1, c2⟩ := chosen_le 0 s (cutLo M e q) hf
 rw [← h4] at c1 c2
 have hge : E = 1 - 1023 ∨ 4503599627370496 ≤ (r : Int) := by
  rcases h2 with ⟨a, b⟩ | ⟨a, b⟩
  ·exact .inl b
  ·right
   have := cutLo_ge M e q 52 hM (by omega)
   rw [show (2 : Nat) ^ 52 = 4503599627370496 by decide] at this
   omega
 have hz : z = (r : Int) + 4503599627370496 * (E - (1 - 1023)) := by omega
 refine ⟨_, word_vl hs r E z hE.2.1 (by omega) (by omega) hge hz, ?_⟩
 rw [← hq]
 have l1 := nv_le q c1
 have l2 := nv_le q c2
 rw [nv_add] at n2 l2
 have l3 := nv_one q (by omega)
 unfold Nr ov
 dsimp only
 split <;> omega
theorem pack_vl {o : Opd} {Z fl : Int} (hp : Pk64 o Z fl) (hs : o.s = 0 ∨ o.s = 1) (hc : o.c = 0 ∧ o.M = 0 ∨ o.c = 1 ∧ 0 < o.M) (e0 : -5000 ≤ o.e) (hb : In' (ov o) (4503599627370496 * uN)) : ∃ x, Vl Z x ∧ Nr x (ov o) uN := by
 have u0 := uN_pos
 rcases hp with ⟨c, rfl, _⟩ | ⟨c, z, hz, rfl⟩ | ⟨c, _⟩ | ⟨c, _⟩ | ⟨c, _⟩
 ·have := word_vl hs 0 (1 - 1023) 0 (by omega) (by omega) (by omega) (.inl rfl) (by omega)
  refine ⟨_, this, ?_⟩
  have hM : o.M = 0 := by rcases hc with h | h <;> omega
  unfold Nr ov
  dsimp only
  rw [hM, nv_zero, nv_zero]
  split <;> omega
 ·have hM : 0 < o.M := by rcases hc with h | h <;> omega
  have hb' : nv o.M o.e ≤ 4503599627370496 * uN := by
   unfold In' ov at hb
   split at hb <;> omega
  exact round_vl (s := o.s) (M := o.M) (e := o.e) hs hM e0 hz hb'
 all_goals (exfalso; omega)
structure Fin' (o : Opd) : Prop where
 s : o.s = 0 ∨ o.s = 1
 c : o.c = 0 ∧ o.M = 0 ∨ o.c = 1 ∧ 0 < o.M
 e : -5000 ≤ o.e
theorem Op64.fin {a : Int} {o : Opd} (h : Op64 a o) (hc : o.c ≤ 1) : Fin' o ∧ -2000 ≤ o.e ∧ o.e ≤ 2000 := by
 obtain ⟨v, _, hM, e1, e2, _⟩ := opd_vo f64' h
 have := v.c0
 refine ⟨⟨v.s01, ?_, by omega⟩, e1, e2⟩
 rcases (show o.c = 0 ∨ o.c = 1 by omega) with c | c
 ·exact .inl ⟨c, hM (by omega)⟩
 ·exact .inr ⟨c, (v.fin c).1⟩
theorem ov_nil {o : Opd} (h : o.M = 0) : ov o = 0 := by unfold ov; rw [h, nv_zero]; split <;> rfl
theorem ov_turn {o : Opd} (hs : o.s = 0 ∨ o.s = 1) : ov (turnO o) = -ov o := by
 unfold ov turnO
 dsimp only
 rcases hs with h | h <;> rw [h]
 ·rw [if_pos (by decide), if_neg (by decide)]
 ·rw [if_neg (by decide), if_pos rfl, Int.neg_neg]
theorem sum_ov {x y : Opd} (hx : Fin' x) (hy : Fin' y) : Fin' (sumO 0 x y) ∧ ov (sumO 0 x y) = ov x + ov y := by
 have cx := hx.c
 have cy := hy.c
 have nil : Fin' (nilO 0) ∧ ov (nilO 0) = 0 := ⟨⟨.inl rfl, .inl ⟨rfl, rfl⟩, by decide⟩, ov_nil rfl⟩
 unfold sumO
 rw [if_neg (by omega)]
 by_cases h1 : y.c < x.c
 ·rw [if_pos h1, ov_nil (o := y) (by omega), Int.add_zero]; exact ⟨hx, rfl⟩
 rw [if_neg h1]
 by_cases h2 : x.c < y.c
 ·rw [if_pos h2, ov_nil (o := x) (by omega), Int.zero_add]; exact ⟨hy, rfl⟩
 rw [if_neg h2]
 by_cases h3 : x.c = 1
 ·rw [if_pos h3]
  have ex := hx.e
  have ey := hy.e
  have n1 : nv (bothM x y).1 (min x.e y.e) = nv x.M x.e := by
   have := nv_scale x.M (x.e - min x.e y.e).toNat x.e (by omega)
   rw [show x.e - ((x.e - min x.e y.e).toNat : Int) = min x.e y.e by omega] at this
   exact this
  have n2 : nv (bothM x y).2 (min x.e y.e) = nv y.M y.e := by
   have := nv_scale y.M (y.e - min x.e y.e).toNat y.e (by omega)
   rw [show y.e - ((y.e - min x.e y.e).toNat : Int) = min x.e y.e by omega] at this
   exact this
  have m1 : 0 < (bothM x y).1 := Nat.mul_pos (by omega) (Nat.pow_pos (by decide))
  have em : -5000 ≤ min x.e y.e := by omega
  have hs := hx.s
  have ht := hy.s
  unfold totO
  generalize (bothM x y).1 = A at *
  generalize (bothM x y).2 = B at *
  generalize min x.e y.e = m at *
  by_cases s1 : x.s = y.s
  ·rw [if_pos s1]
   refine ⟨⟨hs, .inr ⟨rfl, by dsimp only; omega⟩, em⟩, ?_⟩
   unfold ov
   dsimp only
   rw [nv_add, n1, n2, ← s1]
   split <;> omega
  ·rw [if_neg s1]
   by_cases a1 : A = B
   ·rw [if_pos a1]
    refine ⟨nil.1, ?_⟩
    rw [a1] at n1
    rw [nil.2]
    unfold ov
    split <;> split <;> omega
   ·rw [if_neg a1]
    by_cases a2 : B < A
    ·have hn : nv A m = nv (A - B) m + nv B m := by rw [← nv_add]; congr 1; omega
     rw [if_pos a2]
     refine ⟨⟨hs, .inr ⟨rfl, by dsimp only; omega⟩, em⟩, ?_⟩
     unfold ov
     dsimp only
     split <;> split <;> omega
    ·have hn : nv B m = nv (B - A) m + nv A m := by rw [← nv_add]; congr 1; omega
     rw [if_neg a2]
     refine ⟨⟨ht, .inr ⟨rfl, by dsimp only; omega⟩, em⟩, ?_⟩
     unfold ov
     dsimp only
     split <;> split <;> omega
 ·rw [if_neg h3]
  have mx : x.M = 0 := by omega
  have my : y.M = 0 := by omega
  rw [ov_nil mx, ov_nil my]
  by_cases h4 : x.s = y.s
  ·rw [if_pos h4, ov_nil mx]; exact ⟨hx, rfl⟩
  ·rw [if_neg h4, if_neg (by omega)]; exact nil
theorem prod_ov {x y : Opd} (hx : Fin' x) (hy : Fin' y) (ex : -2000 ≤ x.e) (ey : -2000 ≤ y.e) : Fin' (prodO x y) ∧ ov (prodO x y) * (sN : Int) = ov x * ov y := by
 have cx := hx.c
 have cy := hy.c
 have ms : mulS x.s y.s = 0 ∨ mulS x.s y.s = 1 := by unfold mulS; split <;> simp
 unfold prodO
 rw [if_neg (by omega), if_neg (by omega)]
 by_cases h1 : min x.c y.c = 0
 ·rw [if_pos h1]
  refine ⟨⟨ms, .inl ⟨rfl, rfl⟩, by dsimp only; omega⟩, ?_⟩
  rw [ov_nil rfl, Int.zero_mul]
  rcases (show x.M = 0 ∨ y.M = 0 by omega) with h | h
  ·rw [ov_nil h, Int.zero_mul]
  ·rw [ov_nil h, Int.mul_zero]
 ·rw [if_neg h1, if_neg (by omega)]
  have m1 : 0 < x.M := by omega
  have m2 : 0 < y.M := by omega
  refine ⟨⟨ms, .inr ⟨rfl, Nat.mul_pos m1 m2⟩, by dsimp only; omega⟩, ?_⟩
  have hn : nv (x.M * y.M) (x.e + y.e) * sN = nv x.M x.e * nv y.M y.e := by
   unfold nv sN
   rw [Nat.mul_assoc, ← Nat.pow_add, show (x.e + y.e + 6000).toNat + (22 + eU) = (x.e + 6000).toNat + (y.e + 6000).toNat by unfold eU; omega, Nat.pow_add, Nat.mul_mul_mul_comm]
  have hn' : ((nv (x.M * y.M) (x.e + y.e) : Nat) : Int) * (sN : Int) = ((nv x.M x.e : Nat) : Int) * ((nv y.M y.e : Nat) : Int) := by exact_mod_cast hn
  unfold ov mulS
  dsimp only
  rcases hx.s with h | h <;> rcases hy.s with h' | h' <;> rw [h, h'] <;> simp [hn', Int.neg_mul, Int.mul_neg]
end Go.Proofs.YtnbbfeknbfohhaaGreatDoor
