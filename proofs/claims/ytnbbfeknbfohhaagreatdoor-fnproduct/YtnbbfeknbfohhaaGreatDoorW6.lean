import Derived.Test.YtnbbfeknbfohhaaGreatDoorC2
import Derived.Test.YtnbbfeknbfohhaaGreatDoorC5
import Derived.Test.YtnbbfeknbfohhaaGreatDoorC3
import Derived.Test.YtnbbfeknbfohhaaGreatDoorH5
import Derived.Test.YtnbbfeknbfohhaaGreatDoorH7
import Derived.Test.YtnbbfeknbfohhaaGreatDoorG3
import Derived.Test.YtnbbfeknbfohhaaGreatDoorX0
set_option linter.unusedVariables false
set_option linter.unusedSimpArgs false
open Go.Ending renaming returned → J
namespace Go.Proofs.YtnbbfeknbfohhaaGreatDoor
open Go.RowKit
theorem aBZ {f p mx one inf sg nan mode s : Int} {M : Nat} {e : Int} {b : Bool} {z fl : Int} (h : aI f p mx one inf sg nan) (hr : aH p (1 - mx) mx one inf mode s M e b z fl) : 0 ≤ z ∧ z < sg := by
 have hb := h.bounds
 obtain ⟨top, E, r, r2, hf, h1, h2, h3, h4, h5, h6⟩ := hr
 have hov : iw inf mode s = inf ∨ iw inf mode s = inf - 1 := by unfold iw; split <;> simp
 have hE : 0 ≤ one * (E - (1 - mx)) := Int.mul_nonneg om om
 rcases h6 with ⟨_, rfl, _⟩ | ⟨_, _, rfl, _⟩ | ⟨_, h7, rfl, _⟩
 ·omega
 ·omega
 ·generalize one * (E - (1 - mx)) = Q at *
  omega
theorem Uf {f p mx one inf sg nan mode : Int} {o : bI} {Z fl : Int} (h : aI f p mx one inf sg nan) (hp : bV p (1 - mx) mx one inf sg nan mode o Z fl) : Wd Z := by
 have hb := h.bounds
 have hsg : 2 * sg ≤ 18446744073709551616 := by
  rcases h with ⟨_, _, _, _, _, rfl, _⟩ | ⟨_, _, _, _, _, rfl, _⟩ <;> omega
 have hsw : ∀ z, 0 ≤ z → z < sg → Wd (sw o.s sg z) := by
  intro z z0 z1
  unfold sw Wd
  split <;> omega
 rcases hp with ⟨_, rfl, _⟩ | ⟨_, z, hz, rfl⟩ | ⟨_, rfl, _⟩ | ⟨_, rfl, _⟩ | ⟨_, rfl, _⟩
 ·exact hsw 0 om om
 ·have := aBZ h hz
  exact hsw z this.1 this.2
 ·exact hsw inf om om
 ·unfold Wd; omega
 ·unfold Wd; omega
theorem JM {f p mx one inf sg nan : Int} (h : aI f p mx one inf sg nan) : Wd nan := by
 rcases h with ⟨_, _, _, _, _, _, rfl⟩ | ⟨_, _, _, _, _, _, rfl⟩ <;> (unfold Wd; omega)
theorem qm.wd {R : Int → bI → bI → bI} {f mode a b Z fl : Int} (h : qm R f mode a b Z fl) : Wd Z := by
 rcases h with ⟨p, mx, one, inf, sg, nan, x, y, hF, hm, hx, hy, hp⟩ | ⟨p, mx, one, inf, sg, nan, hF, hm, rfl, rfl⟩ | ⟨hF, rfl, rfl⟩
 ·exact Uf hF hp
 ·exact JM hF
 ·unfold Wd; omega
theorem kH.wd {R : Int → Int → bI → bI → bI} {f mode a b Z fl : Int} (h : kH R f mode a b Z fl) : Wd Z := by
 rcases h with ⟨p, mx, one, inf, sg, nan, x, y, hF, hm, hx, hy, hp⟩ | ⟨p, mx, one, inf, sg, nan, hF, hm, rfl, rfl⟩ | ⟨hF, rfl, rfl⟩
 ·rcases hp with hp | ⟨_, rfl, _⟩
  ·exact Uf hF hp
  ·have hb := hF.bounds
   rcases hF with ⟨_, _, _, _, rfl, rfl, _⟩ | ⟨_, _, _, _, rfl, rfl, _⟩ <;> (unfold Wd sw; split <;> omega)
 ·exact JM hF
 ·unfold Wd; omega
open Classical in
noncomputable def C_ (a b : Int) : Int := if h : ∃ Z fl, qm fM 1 0 a b Z fl then Classical.choose h else 0
open Classical in
noncomputable def IZ (a b : Int) : Int := if h : ∃ Z fl, qm vV 1 0 a b Z fl then Classical.choose h else 0
open Classical in
noncomputable def EL (a b : Int) : Int := if h : ∃ Z fl, qm r_ 1 0 a b Z fl then Classical.choose h else 0
open Classical in
noncomputable def EN (a b : Int) : Int := if h : ∃ Z fl, kH divO 1 0 a b Z fl then Classical.choose h else 0
open Classical in
noncomputable def yN (a : Int) : Int := if h : ∃ Z fl, kH jl 1 0 a a Z fl then Classical.choose h else 0
theorem rF {a b Z fl : Int} (h : qm fM 1 0 a b Z fl) : C_ a b = Z := by
 have hex : ∃ Z fl, qm fM 1 0 a b Z fl := ⟨Z, fl, h⟩
 unfold C_; rw [dif_pos hex]; obtain ⟨qA, h'⟩ := Classical.choose_spec hex; exact (qm.one h' h).1
theorem yu {a b Z fl : Int} (h : qm vV 1 0 a b Z fl) : IZ a b = Z := by
 have hex : ∃ Z fl, qm vV 1 0 a b Z fl := ⟨Z, fl, h⟩
 unfold IZ; rw [dif_pos hex]; obtain ⟨qA, h'⟩ := Classical.choose_spec hex; exact (qm.one h' h).1
theorem uy {a b Z fl : Int} (h : qm r_ 1 0 a b Z fl) : EL a b = Z := by
 have hex : ∃ Z fl, qm r_ 1 0 a b Z fl := ⟨Z, fl, h⟩
 unfold EL; rw [dif_pos hex]; obtain ⟨qA, h'⟩ := Classical.choose_spec hex; exact (qm.one h' h).1
theorem uz {a b Z fl : Int} (h : kH divO 1 0 a b Z fl) : EN a b = Z := by
 have hex : ∃ Z fl, kH divO 1 0 a b Z fl := ⟨Z, fl, h⟩
 unfold EN; rw [dif_pos hex]; obtain ⟨qA, h'⟩ := Classical.choose_spec hex; exact (kH.one h' h).1
theorem uw {a Z fl : Int} (h : kH jl 1 0 a a Z fl) : yN a = Z := by
 have hex : ∃ Z fl, kH jl 1 0 a a Z fl := ⟨Z, fl, h⟩
 unfold yN; rw [dif_pos hex]; obtain ⟨qA, h'⟩ := Classical.choose_spec hex; exact (kH.one h' h).1
open Classical in
noncomputable def EM (n : Int) : Int := if h : ∃ Z fl, gQ 1 0 1 (n % 18446744073709551616) Z fl then Classical.choose h else 0
theorem rE {n Z fl : Int} (h : gQ 1 0 1 (n % 18446744073709551616) Z fl) : EM n = Z := by
 have hex : ∃ Z fl, gQ 1 0 1 (n % 18446744073709551616) Z fl := ⟨Z, fl, h⟩
 unfold EM; rw [dif_pos hex]; obtain ⟨qA, h'⟩ := Classical.choose_spec hex; exact (gQ.one h' h).1
theorem gQ.wd {f mode kind a Z fl : Int} (h : gQ f mode kind a Z fl) : Wd Z := by
 rcases h with ⟨p, mx, one, inf, sg, nan, hF, hm, hk, hp⟩ | ⟨p, mx, one, inf, sg, nan, hF, hm, rfl, rfl⟩ | ⟨hF, rfl, rfl⟩
 ·exact Uf hF hp
 ·exact JM hF
 ·unfold Wd; omega
theorem f64 : aI 1 53 1023 4503599627370496 9218868437227405312 9223372036854775808 9221120237041090560 := .inr ⟨rfl, rfl, rfl, rfl, rfl, rfl, rfl⟩
theorem Ad (n : Nat) (h0 : 0 < n) (h1 : n < 1000) (z : Int) (hz : aH 53 (1 - 1023) 1023 4503599627370496 9218868437227405312 0 0 n 0 false z 0) : gQ 1 0 1 (n : Int) z 0 := by
 have hs : eH 1 (n : Int) = 0 := by unfold eH; rw [if_neg (by omega)]
 have hM : iH 1 (n : Int) = n := by unfold iH; rw [if_neg (by omega)]; omega
 refine .inl ⟨53, 1023, 4503599627370496, 9218868437227405312, 9223372036854775808, 9221120237041090560, f64, ⟨om, om⟩, ?_, ?_⟩
 ·unfold jK
  rw [hs, hM, show dX 1 0 = 9223372036854775807 by decide]
  exact decide_eq_true om
 ·unfold sW
  rw [hs, hM, if_neg (by omega)]
  exact .inr (.inl ⟨rfl, z, hz, rfl⟩)
theorem aAH : gQ 1 0 1 1 4607182418800017408 0 := Ad 1 de de _ ⟨0, 0, 4503599627370496, 4503599627370496, 0, de, .inr ⟨de, rfl⟩, de, de, de, .inr (.inr ⟨de, de, de, .inl ⟨rfl, rfl⟩⟩)⟩
theorem aAi : gQ 1 0 1 2 4611686018427387904 0 := Ad 2 de de _ ⟨1, 1, 4503599627370496, 4503599627370496, 0, de, .inr ⟨de, rfl⟩, de, de, de, .inr (.inr ⟨de, de, de, .inl ⟨rfl, rfl⟩⟩)⟩
theorem Ye : kH divO 1 0 4607182418800017408 4611686018427387904 4602678819172646912 0 := by
 refine .inl ⟨53, 1023, 4503599627370496, 9218868437227405312, 9223372036854775808, 9221120237041090560, ⟨1, 0, -52, 4503599627370496⟩, ⟨1, 0, -51, 4503599627370496⟩, f64, ⟨om, om⟩, ?_, ?_, .inl ?_⟩
 ·exact .inl ⟨de, 4607182418800017408, .inl ⟨rfl, rfl, de⟩, .inr (.inr (.inr (.inr ⟨de, de, rfl, 0, 4503599627370496, -52, .inr ⟨de, de, de⟩, de, de, de, de⟩)))⟩
 ·exact .inl ⟨de, 4611686018427387904, .inl ⟨rfl, rfl, de⟩, .inr (.inr (.inr (.inr ⟨de, de, rfl, 0, 4503599627370496, -51, .inr ⟨de, de, de⟩, de, de, de, de⟩)))⟩
 ·have e : divO 53 0 ⟨1, 0, -52, 4503599627370496⟩ ⟨1, 0, -51, 4503599627370496⟩ = ⟨1, 0, -59, 288230376151711744⟩ := by
   unfold divO
   rw [if_neg de, if_neg de, if_neg de, if_neg de, if_pos (by decide)]
   rfl
  rw [e]
  exact .inr (.inl ⟨rfl, 4602678819172646912, ⟨-1, -1, 4503599627370496, 4503599627370496, 0, de, .inr ⟨de, rfl⟩, de, de, de, .inr (.inr ⟨de, de, de, .inl ⟨rfl, rfl⟩⟩)⟩, rfl⟩)
noncomputable def dJ : Ops := ⟨EM, C_, IZ, EL, EN, yN⟩
theorem Nu : dJ.In where
 int n := by obtain ⟨Z, fl, h⟩ := NW 1 0 1 (n % 18446744073709551616); show Wd (EM n); rw [rE h]; exact h.wd
 add ha hb := by obtain ⟨Z, fl, h, h1, h2⟩ := add_same 1 0 _ _ ha.1 ha.2 hb.1 hb.2; show Wd (C_ _ _); rw [rF h]; exact h.wd
 sub ha hb := by obtain ⟨Z, fl, h, h1, h2⟩ := uF 1 0 _ _ ha.1 ha.2 hb.1 hb.2; show Wd (IZ _ _); rw [yu h]; exact h.wd
 mul ha hb := by obtain ⟨Z, fl, h, h1, h2⟩ := uV 1 0 _ _ ha.1 ha.2 hb.1 hb.2; show Wd (EL _ _); rw [uy h]; exact h.wd
 div ha hb := by obtain ⟨Z, fl, h, h1, h2⟩ := Ai 1 0 _ _ ha.1 ha.2 hb.1 hb.2; show Wd (EN _ _); rw [uz h]; exact h.wd
 sqrt ha := by obtain ⟨Z, fl, h, h1, h2⟩ := vW 1 0 _ ha.1 ha.2; show Wd (yN _); rw [uw h]; exact h.wd
theorem aAE : dJ.S where
 one := rE (n := 1) aAH
 half := by
  have h2 : EM 2 = 4611686018427387904 := rE (n := 2) aAi
  show EN _ (EM 2) = _
  rw [h2]
  exact uz Ye
 int n u n0 n1 hu := by
  subst hu
  intro w
  have h0 : 0 ≤ n % 18446744073709551616 := Int.emod_nonneg _ om
  have h1 : n % 18446744073709551616 < 18446744073709551616 := Int.emod_lt_of_pos _ om
  refine (xR 1 0 1 (n % 18446744073709551616) h0 h1 w).mono ?_
  rintro e w' ⟨Z, fl, hp, he, hg⟩
  exact ⟨fl, by rw [show dJ.int n = Z from rE hp]; exact he, hg⟩
 add ha hb := by obtain ⟨Z, fl, h, h1, h2⟩ := add_same 1 0 _ _ ha.1 ha.2 hb.1 hb.2; intro w; show Calls _ _ _ _ (fun e w' => ∃ fl, e = J (.agg #[.int .u64 (C_ _ _), _]) ∧ _); rw [rF h]; exact (h1 w).mono fun e w' h => ⟨fl, h⟩
 sub ha hb := by obtain ⟨Z, fl, h, h1, h2⟩ := uF 1 0 _ _ ha.1 ha.2 hb.1 hb.2; intro w; show Calls _ _ _ _ (fun e w' => ∃ fl, e = J (.agg #[.int .u64 (IZ _ _), _]) ∧ _); rw [yu h]; exact (h1 w).mono fun e w' h => ⟨fl, h⟩
 mul ha hb := by obtain ⟨Z, fl, h, h1, h2⟩ := uV 1 0 _ _ ha.1 ha.2 hb.1 hb.2; intro w; show Calls _ _ _ _ (fun e w' => ∃ fl, e = J (.agg #[.int .u64 (EL _ _), _]) ∧ _); rw [uy h]; exact (h1 w).mono fun e w' h => ⟨fl, h⟩
 div ha hb := by obtain ⟨Z, fl, h, h1, h2⟩ := Ai 1 0 _ _ ha.1 ha.2 hb.1 hb.2; intro w; show Calls _ _ _ _ (fun e w' => ∃ fl, e = J (.agg #[.int .u64 (EN _ _), _]) ∧ _); rw [uz h]; exact (h1 w).mono fun e w' h => ⟨fl, h⟩
 sqrt ha := by obtain ⟨Z, fl, h, h1, h2⟩ := vW 1 0 _ ha.1 ha.2; intro w; show Calls _ _ _ _ (fun e w' => ∃ fl, e = J (.agg #[.int .u64 (yN _), _]) ∧ _); rw [uw h]; exact (h1 w).mono fun e w' h => ⟨fl, h⟩
theorem aAF : dJ.I where
 add ha hb := by obtain ⟨Z, fl, h, h1, h2⟩ := add_same 1 0 _ _ ha.1 ha.2 hb.1 hb.2; intro w hw; show Calls _ _ _ _ (fun e w' => ∃ fl, e = J (.agg #[.int .u64 (C_ _ _), _]) ∧ _); rw [rF h]; exact (h2 w hw).mono fun e w' h => ⟨fl, h⟩
 sub ha hb := by obtain ⟨Z, fl, h, h1, h2⟩ := uF 1 0 _ _ ha.1 ha.2 hb.1 hb.2; intro w hw; show Calls _ _ _ _ (fun e w' => ∃ fl, e = J (.agg #[.int .u64 (IZ _ _), _]) ∧ _); rw [yu h]; exact (h2 w hw).mono fun e w' h => ⟨fl, h⟩
 mul ha hb := by obtain ⟨Z, fl, h, h1, h2⟩ := uV 1 0 _ _ ha.1 ha.2 hb.1 hb.2; intro w hw; show Calls _ _ _ _ (fun e w' => ∃ fl, e = J (.agg #[.int .u64 (EL _ _), _]) ∧ _); rw [uy h]; exact (h2 w hw).mono fun e w' h => ⟨fl, h⟩
 div ha hb := by obtain ⟨Z, fl, h, h1, h2⟩ := Ai 1 0 _ _ ha.1 ha.2 hb.1 hb.2; intro w hw; show Calls _ _ _ _ (fun e w' => ∃ fl, e = J (.agg #[.int .u64 (EN _ _), _]) ∧ _); rw [uz h]; exact (h2 w hw).mono fun e w' h => ⟨fl, h⟩
 sqrt ha := by obtain ⟨Z, fl, h, h1, h2⟩ := vW 1 0 _ ha.1 ha.2; intro w hw; show Calls _ _ _ _ (fun e w' => ∃ fl, e = J (.agg #[.int .u64 (yN _), _]) ∧ _); rw [uw h]; exact (h2 w hw).mono fun e w' h => ⟨fl, h⟩
