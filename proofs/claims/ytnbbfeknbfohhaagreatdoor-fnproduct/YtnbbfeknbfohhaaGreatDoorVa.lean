import Derived.Test.YtnbbfeknbfohhaaGreatDoorA6
import Derived.Test.YtnbbfeknbfohhaaGreatDoorC0
import Derived.Test.YtnbbfeknbfohhaaGreatDoorL5a
import Derived.Test.YtnbbfeknbfohhaaGreatDoorX0
import Derived.Test.YtnbbfeknbfohhaaGreatDoorC3
set_option linter.unusedVariables false
set_option linter.unusedSimpArgs false
namespace Go.Proofs.YtnbbfeknbfohhaaGreatDoor
def nv (M : Nat) (e : Int) : Nat := M * 2 ^ (e + 6000).toNat
theorem uT (m k : Nat) (e0 : Int) (h : 0 ≤ e0 - k + 6000) : nv (m * 2 ^ k) (e0 - k) = nv m e0 := by
 unfold nv
 rw [show (e0 + 6000).toNat = k + (e0 - k + 6000).toNat by omega, Nat.pow_add, Nat.mul_assoc]
theorem aAI (M : Nat) (e q : Int) (he : 0 ≤ e + 6000) (hq : 0 ≤ q + 6000) : nv (aT M e q) q ≤ nv M e ∧ nv M e < nv (aT M e q + 1) q := by
 unfold nv aT
 split
 ·rename_i c
  have h1 : M * 2 ^ (e - q).toNat * 2 ^ (q + 6000).toNat = M * 2 ^ (e + 6000).toNat := by
   rw [Nat.mul_assoc, ← Nat.pow_add, show (e - q).toNat + (q + 6000).toNat = (e + 6000).toNat by omega]
  have h2 : 0 < 2 ^ (q + 6000).toNat := Nat.pow_pos de
  rw [Nat.add_mul, h1]
  omega
 ·rename_i c
  have h1 : 2 ^ (q + 6000).toNat = 2 ^ (q - e).toNat * 2 ^ (e + 6000).toNat := by
   rw [← Nat.pow_add, show (q - e).toNat + (e + 6000).toNat = (q + 6000).toNat by omega]
  have hP : 0 < 2 ^ (q - e).toNat := Nat.pow_pos de
  have hE : 0 < 2 ^ (e + 6000).toNat := Nat.pow_pos de
  rw [h1, ← Nat.mul_assoc, ← Nat.mul_assoc]
  have a1 : M / 2 ^ (q - e).toNat * 2 ^ (q - e).toNat ≤ M := Nat.div_mul_le_self _ _
  have a2 : M < (M / 2 ^ (q - e).toNat + 1) * 2 ^ (q - e).toNat := by
   have := Nat.lt_div_mul_add (a := M) hP
   rw [Nat.add_mul]; omega
  exact ⟨Nat.mul_le_mul_right _ a1, Nat.mul_lt_mul_of_pos_right a2 hE⟩
theorem WM {p mx one v E m e0 : Int} (l : Nat) (P : Nat) (hp : p = P + 1) (ho : one = ((2 ^ P : Nat) : Int)) (hE : 1 - mx ≤ E) (hl : (l : Int) ≤ 2 * one) (hb : E = 1 - mx ∨ one ≤ (l : Int)) (hv : v = (l : Int) + one * (E - (1 - mx)))
  (hq : 0 ≤ E - p + 1 + 6000) (hm : v < one ∧ m = v ∧ e0 = 2 - mx - p ∨ one ≤ v ∧ m = v % one + one ∧ e0 = 1 - mx - p + v / one) : 0 ≤ m ∧ nv m.toNat e0 = nv l (E - p + 1) := by
 have o0 : 0 < one := by rw [ho]; exact Int.natCast_pos.mpr (Nat.pow_pos de)
 by_cases c : (l : Int) < one
 ·have hE' : E = 1 - mx := om
  rw [hE', Int.sub_self, Int.mul_zero] at hv
  rcases hm with ⟨a, b, d⟩ | ⟨a, b, d⟩
  ·rw [b, hv, d]
   refine ⟨om, ?_⟩
   rw [Int.add_zero, Int.toNat_natCast, show 2 - mx - p = E - p + 1 by omega]
  ·exfalso; omega
 ·obtain ⟨k, hk⟩ : ∃ k : Nat, E - (1 - mx) = k := ⟨(E - (1 - mx)).toNat, om⟩
  rw [hk] at hv
  have hk0 : 0 ≤ one * (k : Int) := Int.mul_nonneg om om
  rcases hm with ⟨a, b, d⟩ | ⟨a, b, d⟩
  ·exfalso; omega
  ·by_cases c2 : (l : Int) = 2 * one
   ·have hv2 : v = 0 + one * ((k : Int) + 2) := by rw [hv, c2, Int.mul_add]; omega
    have hm1 : v % one = 0 := by rw [hv2, Int.add_mul_emod_self_left]; rfl
    have hd1 : v / one = (k : Int) + 2 := by rw [hv2, Int.add_mul_ediv_left _ _ (by omega)]; simp
    rw [b, d, hm1, hd1]
    refine ⟨om, ?_⟩
    have h3 : l = (0 + one).toNat * 2 ^ 1 := om
    rw [h3, show E - p + 1 = (1 - mx - p + ((k : Int) + 2)) - ((1 : Nat) : Int) by omega, uT _ _ _ (by omega)]
   ·have hv2 : v = ((l : Int) - one) + one * ((k : Int) + 1) := by rw [hv, Int.mul_add]; omega
    have hm1 : v % one = (l : Int) - one := by rw [hv2, Int.add_mul_emod_self_left]; exact Int.emod_eq_of_lt om om
    have hd1 : v / one = (k : Int) + 1 := by rw [hv2, Int.add_mul_ediv_left _ _ om, Int.ediv_eq_zero_of_lt om (by omega)]; omega
    rw [b, d, hm1, hd1]
    refine ⟨om, ?_⟩
    rw [show ((l : Int) - one + one).toNat = l by omega, show 1 - mx - p + ((k : Int) + 1) = E - p + 1 by omega]
open Go.RowKit
theorem Yh {f p mx one inf sg nan : Int} (h : aI f p mx one inf sg nan) : ∃ P : Nat, p = P + 1 ∧ one = ((2 ^ P : Nat) : Int) ∧ P ≤ 52 := by
 rcases h with h | h
 ·exact ⟨23, om, by rw [h.2.2.2.1]; decide, om⟩
 ·exact ⟨52, om, by rw [h.2.2.2.1]; decide, om⟩
theorem aAG {f p mx one inf sg nan v : Int} (h : aI f p mx one inf sg nan) {u : bI} (hu : bZ p mx one inf sg nan v u) (l : Nat) (E : Int) (hE : 1 - mx ≤ E) (hl : (l : Int) ≤ 2 * one) (hb : E = 1 - mx ∨ one ≤ (l : Int)) (hv : v = (l : Int) + one * (E - (1 - mx))) (v1 : v < inf) :
  u.s = 0 ∧ (u.c = 0 ∨ u.c = 1) ∧ nv u.M u.e = nv l (E - p + 1) := by
 obtain ⟨P, hp, ho, hP⟩ := Yh h
 have hb' := h.bounds
 have hk0 : 0 ≤ one * (E - (1 - mx)) := Int.mul_nonneg om om
 rcases hu with ⟨_, v', hs, hv'⟩ | ⟨c, _⟩
 ·have hs' : u.s = 0 ∧ v' = v := om
  refine ⟨hs'.1, ?_⟩
  rw [hs'.2] at hv'
  rcases hv' with ⟨e0, c0, _, hM⟩ | ⟨_, _, c0, _⟩ | ⟨_, c0, _⟩ | ⟨_, c0, _⟩ | ⟨v0, _, c0, hn⟩
  ·refine ⟨.inl c0, ?_⟩
   have hl0 : l = 0 := om
   have hM0 : u.M = 0 := om
   rw [hl0, hM0]; unfold nv; simp
  ·exfalso; omega
  ·exfalso; omega
  ·exfalso; omega
  ·refine ⟨.inr c0, ?_⟩
   obtain ⟨_, _, n0, _⟩ := xk h v0 v1 hn
   obtain ⟨k, m, e0, hm, hg, he, _, _⟩ := hn
   obtain ⟨m0, hsv⟩ := WM l P hp ho hE hl hb hv om hm
   have hM : u.M = m.toNat * 2 ^ k := by
    have h1 : ((u.M : Nat) : Int) = ((m.toNat * 2 ^ k : Nat) : Int) := by
     rw [hg, Int.natCast_mul, Int.toNat_of_nonneg m0, Int.natCast_pow]; rfl
    exact Int.ofNat.inj h1
   rw [hM, he, uT _ _ _ (by omega)]
   exact hsv
 ·exfalso; omega
theorem bZ.bare {f p mx one inf sg nan v s : Int} (h : aI f p mx one inf sg nan) (hs : s = 0 ∨ s = 1) (v0 : 0 ≤ v) (v1 : v ≤ inf) {y : bI} (hy : bZ p mx one inf sg nan (sw s sg v) y) : y.s = s ∧ bZ p mx one inf sg nan v ⟨y.c, 0, y.e, y.M⟩ := by
 have hb := h.bounds
 have hw : s = 0 ∧ sw s sg v = v ∨ s = 1 ∧ sw s sg v = v + sg := by
  unfold sw
  rcases hs with rfl | rfl
  ·exact .inl ⟨rfl, by rw [if_neg (by decide)]⟩
  ·exact .inr ⟨rfl, by rw [if_pos rfl]⟩
 rcases hy with ⟨_, v', hs', hv'⟩ | ⟨c, _⟩
 ·have e : v' = v ∧ y.s = s := om
  obtain ⟨rfl, e2⟩ := e
  exact ⟨e2, .inl ⟨om, v', .inl ⟨rfl, rfl, om⟩, hv'⟩⟩
 ·exfalso; omega
theorem Nv {M N : Nat} {e g : Int} (he : 0 ≤ e + 6000) (hle : e ≤ g) (h : nv M e = nv N g) : M = N * 2 ^ (g - e).toNat := by
 unfold nv at h
 rw [show (g + 6000).toNat = (g - e).toNat + (e + 6000).toNat by omega, Nat.pow_add, ← Nat.mul_assoc] at h
 exact Nat.eq_of_mul_eq_mul_right (Nat.pow_pos de) h
theorem aH.nv {p mn mx one inf mode sign : Int} {M N : Nat} {e g z fl : Int} (hM : 0 < M) (hN : 0 < N) (he : 0 ≤ e + 6000) (hg : 0 ≤ g + 6000) (h : nv M e = nv N g) : aH p mn mx one inf mode sign M e false z fl ↔ aH p mn mx one inf mode sign N g false z fl := by
 rcases Int.le_total e g with c | c
 ·have hM' := Nv he c h
  have := aH.scale (p := p) (mn := mn) (mx := mx) (one := one) (inf := inf) (mode := mode) (sign := sign) (e := g) (z := z) (fl := fl) (g - e).toNat hN
  rw [← hM', show g - ((g - e).toNat : Int) = e by omega] at this
  exact this
 ·have hN' := Nv hg c h.symm
  have := aH.scale (p := p) (mn := mn) (mx := mx) (one := one) (inf := inf) (mode := mode) (sign := sign) (e := e) (z := z) (fl := fl) (e - g).toNat hM
  rw [← hN', show e - ((e - g).toNat : Int) = g by omega] at this
  exact this.symm
def Nr (x y e : Int) : Prop := -e ≤ x - y ∧ x - y ≤ e
def In' (x b : Int) : Prop := -b ≤ x ∧ x ≤ b
theorem jO {d e k K : Int} (h0 : -e ≤ d) (h1 : d ≤ e) (k0 : -K ≤ k) (k1 : k ≤ K) : -(K * e) ≤ k * d ∧ k * d ≤ K * e := by
 have a1 := Int.mul_nonneg (show 0 ≤ K - k by omega) (show 0 ≤ e + d by omega)
 have a2 := Int.mul_nonneg (show 0 ≤ K + k by omega) (show 0 ≤ e - d by omega)
 have a3 := Int.mul_nonneg (show 0 ≤ K - k by omega) (show 0 ≤ e - d by omega)
 have a4 := Int.mul_nonneg (show 0 ≤ K + k by omega) (show 0 ≤ e + d by omega)
 simp only [Int.mul_add, Int.mul_sub, Int.add_mul, Int.sub_mul] at a1 a2 a3 a4
 omega
theorem In'.mul {x b y c : Int} (h : In' x b) (h' : In' y c) : In' (x * y) (b * c) := by
 have := jO h'.1 h'.2 h.1 h.2
 exact this
theorem Nr.mul {x y e k K : Int} (h : Nr x y e) (hk : In' k K) : Nr (k * x) (k * y) (K * e) := by
 have := jO h.1 h.2 hk.1 hk.2
 unfold Nr
 rw [Int.mul_sub] at this
 exact this
theorem DR {x y S : Int} (hS : 0 < S) (h : x * S ≤ y * S) : x ≤ y := Int.le_of_mul_le_mul_right h hS
theorem Nr.div {x y e S : Int} (hS : 0 < S) (h : Nr (x * S) (y * S) (e * S)) : Nr x y e := by
 obtain ⟨h0, h1⟩ := h
 rw [← Int.sub_mul] at h0 h1
 rw [← Int.neg_mul] at h0
 exact ⟨DR hS h0, DR hS h1⟩
theorem In'.div {x e S : Int} (hS : 0 < S) (h : In' (x * S) (e * S)) : In' x e := by
 obtain ⟨h0, h1⟩ := h
 rw [← Int.neg_mul] at h0
 exact ⟨DR hS h0, DR hS h1⟩
def VC (V : Int → Int → Prop) (a : Int × Int) (p q : Int) : Prop := V a.1 p ∧ V a.2 q
variable {o : Ops} {V : Int → Int → Prop} {U : Int}
def eU : Nat := 5978
def uN : Nat := 2 ^ eU
def sN : Nat := 2 ^ (22 + eU)
theorem aBU : sN = 4194304 * uN := by
 unfold sN uN
 rw [Nat.pow_add, show (2 : Nat) ^ 22 = 4194304 by decide]
theorem I7 : 0 < uN := by unfold uN; exact Nat.pow_pos de
theorem w_ : ((sN : Nat) : Int) = 4194304 * ((uN : Nat) : Int) := by rw [aBU]; omega
def ov (o : bI) : Int := if o.s = 1 then -((nv o.M o.e : Nat) : Int) else ((nv o.M o.e : Nat) : Int)
abbrev uh (a : Int) (o : bI) : Prop := bZ 53 1023 4503599627370496 9218868437227405312 9223372036854775808 9221120237041090560 a o
abbrev V4 (o : bI) (Z fl : Int) : Prop := bV 53 (1 - 1023) 1023 4503599627370496 9218868437227405312 9223372036854775808 9221120237041090560 0 o Z fl
theorem sD : aI 1 53 1023 4503599627370496 9218868437227405312 9223372036854775808 9221120237041090560 := .inr ⟨rfl, rfl, rfl, rfl, rfl, rfl, rfl⟩
def Vl (a x : Int) : Prop := Wd a ∧ ∃ o, uh a o ∧ o.c ≤ 1 ∧ x = ov o
theorem Vl.one {a x y : Int} (h : Vl a x) (h' : Vl a y) : x = y := by
 obtain ⟨_, o, ho, _, rfl⟩ := h
 obtain ⟨_, o', ho', _, rfl⟩ := h'
 rw [bZ.one sD ho ho']
theorem DC (e : Int) : nv 0 e = 0 := by unfold nv; simp
theorem DF (A B : Nat) (e : Int) : nv (A + B) e = nv A e + nv B e := by unfold nv; rw [Nat.add_mul]
theorem ZJ {A B : Nat} (e : Int) (h : A ≤ B) : nv A e ≤ nv B e := by unfold nv; exact Nat.mul_le_mul_right _ h
theorem CY {s : Int} (hs : s = 0 ∨ s = 1) (l : Nat) (E z : Int) (hE : 1 - 1023 ≤ E) (E1 : E ≤ 1000) (hl : (l : Int) ≤ 9007199254740992) (hb : E = 1 - 1023 ∨ 4503599627370496 ≤ (l : Int)) (hz : z = (l : Int) + 4503599627370496 * (E - (1 - 1023))) :
  Vl (sw s 9223372036854775808 z) (ov ⟨1, s, E - 53 + 1, l⟩) := by
 have hw : Wd (sw s 9223372036854775808 z) := by unfold sw Wd; split <;> omega
 obtain ⟨y, hy⟩ := jk sD _ hw.1 hw.2
 obtain ⟨y1, y2⟩ := bZ.bare sD hs (v := z) om om hy
 obtain ⟨_, q2, q3⟩ := aAG sD y2 l E hE om hb hz om
 refine ⟨hw, y, hy, by dsimp only at q2; omega, ?_⟩
 dsimp only at q3
 unfold ov
 dsimp only
 rw [q3, y1]
structure Fin' (o : bI) : Prop where
 s : o.s = 0 ∨ o.s = 1
 c : o.c = 0 ∧ o.M = 0 ∨ o.c = 1 ∧ 0 < o.M
 e : -5000 ≤ o.e
theorem uh.fin {a : Int} {o : bI} (h : uh a o) (hc : o.c ≤ 1) : Fin' o ∧ -2000 ≤ o.e ∧ o.e ≤ 2000 := by
 obtain ⟨v, _, hM, e1, e2, _⟩ := dA sD h
 have := v.c0
 refine ⟨⟨v.nN, ?_, om⟩, e1, e2⟩
 rcases (show o.c = 0 ∨ o.c = 1 by omega) with c | c
 ·exact .inl ⟨c, hM om⟩
 ·exact .inr ⟨c, (v.fin c).1⟩
theorem n_ {o : bI} (h : o.M = 0) : ov o = 0 := by unfold ov; rw [h, DC]; split <;> rfl
theorem Ns {o : bI} (hs : o.s = 0 ∨ o.s = 1) : ov (jZ o) = -ov o := by
 unfold ov jZ
 dsimp only
 rcases hs with h | h <;> rw [h]
 ·rw [if_pos de, if_neg (by decide)]
 ·rw [if_neg de, if_pos rfl, Int.neg_neg]
theorem Tj {x y : bI} (hx : Fin' x) (hy : Fin' y) : Fin' (fM 0 x y) ∧ ov (fM 0 x y) = ov x + ov y := by
 have cx := hx.c
 have cy := hy.c
 have nil : Fin' (xX 0) ∧ ov (xX 0) = 0 := ⟨⟨.inl rfl, .inl ⟨rfl, rfl⟩, de⟩, n_ rfl⟩
 unfold fM
 rw [if_neg (by omega)]
 by_cases h1 : y.c < x.c
 ·rw [if_pos h1, n_ (o := y) om, Int.add_zero]; exact ⟨hx, rfl⟩
 rw [if_neg h1]
 by_cases h2 : x.c < y.c
 ·rw [if_pos h2, n_ (o := x) om, Int.zero_add]; exact ⟨hy, rfl⟩
 rw [if_neg h2]
 by_cases h3 : x.c = 1
 ·rw [if_pos h3]
  have ex := hx.e
  have ey := hy.e
  have n1 : nv (ig x y).1 (min x.e y.e) = nv x.M x.e := by
   have := uT x.M (x.e - min x.e y.e).toNat x.e om
   rw [show x.e - ((x.e - min x.e y.e).toNat : Int) = min x.e y.e by omega] at this
   exact this
  have n2 : nv (ig x y).2 (min x.e y.e) = nv y.M y.e := by
   have := uT y.M (y.e - min x.e y.e).toNat y.e om
   rw [show y.e - ((y.e - min x.e y.e).toNat : Int) = min x.e y.e by omega] at this
   exact this
  have m1 : 0 < (ig x y).1 := Nat.mul_pos om (Nat.pow_pos de)
  have em : -5000 ≤ min x.e y.e := om
  have hs := hx.s
  have ht := hy.s
  unfold ou
  generalize (ig x y).1 = A at *
  generalize (ig x y).2 = B at *
  generalize min x.e y.e = m at *
  by_cases s1 : x.s = y.s
  ·rw [if_pos s1]
   refine ⟨⟨hs, .inr ⟨rfl, by dsimp only; omega⟩, em⟩, ?_⟩
   unfold ov
   dsimp only
   rw [DF, n1, n2, ← s1]
   split <;> omega
  ·rw [if_neg s1]
   by_cases a1 : A = B
   ·rw [if_pos a1]
    refine ⟨nil.1, ?_⟩
    rw [a1] at n1
    rw [nil.2]
    unfold ov
    split <;> split <;> omega
   ·rw [if_neg a1]
    by_cases a2 : B < A
    ·have hn : nv A m = nv (A - B) m + nv B m := by rw [← DF]; congr 1; omega
     rw [if_pos a2]
     refine ⟨⟨hs, .inr ⟨rfl, by dsimp only; omega⟩, em⟩, ?_⟩
     unfold ov
     dsimp only
     split <;> split <;> omega
    ·have hn : nv B m = nv (B - A) m + nv A m := by rw [← DF]; congr 1; omega
     rw [if_neg a2]
     refine ⟨⟨ht, .inr ⟨rfl, by dsimp only; omega⟩, em⟩, ?_⟩
     unfold ov
     dsimp only
     split <;> split <;> omega
 ·rw [if_neg h3]
  have mx : x.M = 0 := om
  have my : y.M = 0 := om
  rw [n_ mx, n_ my]
  by_cases h4 : x.s = y.s
  ·rw [if_pos h4, n_ mx]; exact ⟨hx, rfl⟩
  ·rw [if_neg h4, if_neg (by omega)]; exact nil
theorem XH {x y : bI} (hx : Fin' x) (hy : Fin' y) (ex : -2000 ≤ x.e) (ey : -2000 ≤ y.e) : Fin' (cu x y) ∧ ov (cu x y) * (sN : Int) = ov x * ov y := by
 have cx := hx.c
 have cy := hy.c
 have ms : mulS x.s y.s = 0 ∨ mulS x.s y.s = 1 := by unfold mulS; split <;> simp
 unfold cu
 rw [if_neg om, if_neg (by omega)]
 by_cases h1 : min x.c y.c = 0
 ·rw [if_pos h1]
  refine ⟨⟨ms, .inl ⟨rfl, rfl⟩, by dsimp only; omega⟩, ?_⟩
  rw [n_ rfl, Int.zero_mul]
  rcases (show x.M = 0 ∨ y.M = 0 by omega) with h | h
  ·rw [n_ h, Int.zero_mul]
  ·rw [n_ h, Int.mul_zero]
 ·rw [if_neg h1, if_neg (by omega)]
  have m1 : 0 < x.M := om
  have m2 : 0 < y.M := om
  refine ⟨⟨ms, .inr ⟨rfl, Nat.mul_pos m1 m2⟩, by dsimp only; omega⟩, ?_⟩
  have hn : nv (x.M * y.M) (x.e + y.e) * sN = nv x.M x.e * nv y.M y.e := by
   unfold nv sN
   rw [Nat.mul_assoc, ← Nat.pow_add, show (x.e + y.e + 6000).toNat + (22 + eU) = (x.e + 6000).toNat + (y.e + 6000).toNat by unfold eU; omega, Nat.pow_add, Nat.mul_mul_mul_comm]
  have hn' : ((nv (x.M * y.M) (x.e + y.e) : Nat) : Int) * (sN : Int) = ((nv x.M x.e : Nat) : Int) * ((nv y.M y.e : Nat) : Int) := by exact_mod_cast hn
  unfold ov mulS
  dsimp only
  rcases hx.s with h | h <;> rcases hy.s with h' | h' <;> rw [h, h'] <;> simp [hn', Int.neg_mul, Int.mul_neg]
