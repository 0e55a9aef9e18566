import Derived.Test.YtnbbfeknbfohhaaGreatDoorC2
import Derived.Test.YtnbbfeknbfohhaaGreatDoorC5
import Derived.Test.YtnbbfeknbfohhaaGreatDoorC3
import Derived.Test.YtnbbfeknbfohhaaGreatDoorH5
import Derived.Test.YtnbbfeknbfohhaaGreatDoorH7
import Derived.Test.YtnbbfeknbfohhaaGreatDoorG3
import Derived.Test.YtnbbfeknbfohhaaGreatDoorX0
set_option linter.unusedVariables false
set_option linter.unusedSimpArgs false
open Go.Ending renaming returned → J
namespace Go.Proofs.YtnbbfeknbfohhaaGreatDoor
open Go.RowKit
theorem rb_in {f p mx one inf sg nan mode s : Int} {M : Nat} {e : Int} {b : Bool} {z fl : Int} (h : IsFmt f p mx one inf sg nan) (hr : RoundIs p (1 - mx) mx one inf mode s M e b z fl) : 0 ≤ z ∧ z < sg := by
 have hb := h.bounds
 obtain ⟨top, E, r, r2, hf, h1, h2, h3, h4, h5, h6⟩ := hr
 have hov : ovMag inf mode s = inf ∨ ovMag inf mode s = inf - 1 := by unfold ovMag; split <;> simp
 have hE : 0 ≤ one * (E - (1 - mx)) := Int.mul_nonneg (by omega) (by omega)
 rcases h6 with ⟨_, rfl, _⟩ | ⟨_, _, rfl, _⟩ | ⟨_, h7, rfl, _⟩
 ·omega
 ·omega
 ·generalize one * (E - (1 - mx)) = Q at *
  omega
theorem pk_in {f p mx one inf sg nan mode : Int} {o : Opd} {Z fl : Int} (h : IsFmt f p mx one inf sg nan) (hp : PackIs p (1 - mx) mx one inf sg nan mode o Z fl) : Wd Z := by
 have hb := h.bounds
 have hsg : 2 * sg ≤ 18446744073709551616 := by
  rcases h with ⟨_, _, _, _, _, rfl, _⟩ | ⟨_, _, _, _, _, rfl, _⟩ <;> omega
 have hsw : ∀ z, 0 ≤ z → z < sg → Wd (sw o.s sg z) := by
  intro z z0 z1
  unfold sw Wd
  split <;> omega
 rcases hp with ⟨_, rfl, _⟩ | ⟨_, z, hz, rfl⟩ | ⟨_, rfl, _⟩ | ⟨_, rfl, _⟩ | ⟨_, rfl, _⟩
 ·exact hsw 0 (by omega) (by omega)
 ·have := rb_in h hz
  exact hsw z this.1 this.2
 ·exact hsw inf (by omega) (by omega)
 ·unfold Wd; omega
 ·unfold Wd; omega
theorem nan_in {f p mx one inf sg nan : Int} (h : IsFmt f p mx one inf sg nan) : Wd nan := by
 rcases h with ⟨_, _, _, _, _, _, rfl⟩ | ⟨_, _, _, _, _, _, rfl⟩ <;> (unfold Wd; omega)
theorem OpR.wd {R : Int → Opd → Opd → Opd} {f mode a b Z fl : Int} (h : OpR R f mode a b Z fl) : Wd Z := by
 rcases h with ⟨p, mx, one, inf, sg, nan, x, y, hF, hm, hx, hy, hp⟩ | ⟨p, mx, one, inf, sg, nan, hF, hm, rfl, rfl⟩ | ⟨hF, rfl, rfl⟩
 ·exact pk_in hF hp
 ·exact nan_in hF
 ·unfold Wd; omega
theorem OpRD.wd {R : Int → Int → Opd → Opd → Opd} {f mode a b Z fl : Int} (h : OpRD R f mode a b Z fl) : Wd Z := by
 rcases h with ⟨p, mx, one, inf, sg, nan, x, y, hF, hm, hx, hy, hp⟩ | ⟨p, mx, one, inf, sg, nan, hF, hm, rfl, rfl⟩ | ⟨hF, rfl, rfl⟩
 ·rcases hp with hp | ⟨_, rfl, _⟩
  ·exact pk_in hF hp
  ·have hb := hF.bounds
   rcases hF with ⟨_, _, _, _, rfl, rfl, _⟩ | ⟨_, _, _, _, rfl, rfl, _⟩ <;> (unfold Wd sw; split <;> omega)
 ·exact nan_in hF
 ·unfold Wd; omega
open Classical in
noncomputable def wAdd (a b : Int) : Int := if h : ∃ Z fl, OpR sumO 1 0 a b Z fl then Classical.choose h else 0
open Classical in
noncomputable def wSub (a b : Int) : Int := if h : ∃ Z fl, OpR subO 1 0 a b Z fl then Classical.choose h else 0
open Classical in
noncomputable def wMul (a b : Int) : Int := if h : ∃ Z fl, OpR mulO 1 0 a b Z fl then Classical.choose h else 0
open Classical in
noncomputable def wDiv (a b : Int) : Int := if h : ∃ Z fl, OpRD divO 1 0 a b Z fl then Classical.choose h else 0
open Classical in
noncomputable def wSqrt (a : Int) : Int := if h : ∃ Z fl, OpRD sqrtO 1 0 a a Z fl then Classical.choose h else 0
theorem wAdd_eq {a b Z fl : Int} (h : OpR sumO 1 0 a b Z fl) : wAdd a b = Z := by
 have hex : ∃ Z fl, OpR sumO 1 0 a b Z fl := ⟨Z, fl, h⟩
 unfold wAdd; rw [dif_pos hex]; obtain ⟨fl', h'⟩ := Classical.choose_spec hex; exact (OpR.one h' h).1
theorem wSub_eq {a b Z fl : Int} (h : OpR subO 1 0 a b Z fl) : wSub a b = Z := by
 have hex : ∃ Z fl, OpR subO 1 0 a b Z fl := ⟨Z, fl, h⟩
 unfold wSub; rw [dif_pos hex]; obtain ⟨fl', h'⟩ := Classical.choose_spec hex; exact (OpR.one h' h).1
theorem wMul_eq {a b Z fl : Int} (h : OpR mulO 1 0 a b Z fl) : wMul a b = Z := by
 have hex : ∃ Z fl, OpR mulO 1 0 a b Z fl := ⟨Z, fl, h⟩
 unfold wMul; rw [dif_pos hex]; obtain ⟨fl', h'⟩ := Classical.choose_spec hex; exact (OpR.one h' h).1
theorem wDiv_eq {a b Z fl : Int} (h : OpRD divO 1 0 a b Z fl) : wDiv a b = Z := by
 have hex : ∃ Z fl, OpRD divO 1 0 a b Z fl := ⟨Z, fl, h⟩
 unfold wDiv; rw [dif_pos hex]; obtain ⟨fl', h'⟩ := Classical.choose_spec hex; exact (OpRD.one h' h).1
theorem wSqrt_eq {a Z fl : Int} (h : OpRD sqrtO 1 0 a a Z fl) : wSqrt a = Z := by
 have hex : ∃ Z fl, OpRD sqrtO 1 0 a a Z fl := ⟨Z, fl, h⟩
 unfold wSqrt; rw [dif_pos hex]; obtain ⟨fl', h'⟩ := Classical.choose_spec hex; exact (OpRD.one h' h).1
open Classical in
noncomputable def wInt (n : Int) : Int := if h : ∃ Z fl, FromIs 1 0 1 (n % 18446744073709551616) Z fl then Classical.choose h else 0
theorem wInt_eq {n Z fl : Int} (h : FromIs 1 0 1 (n % 18446744073709551616) Z fl) : wInt n = Z := by
 have hex : ∃ Z fl, FromIs 1 0 1 (n % 18446744073709551616) Z fl := ⟨Z, fl, h⟩
 unfold wInt; rw [dif_pos hex]; obtain ⟨fl', h'⟩ := Classical.choose_spec hex; exact (FromIs.one h' h).1
theorem FromIs.wd {f mode kind a Z fl : Int} (h : FromIs f mode kind a Z fl) : Wd Z := by
 rcases h with ⟨p, mx, one, inf, sg, nan, hF, hm, hk, hp⟩ | ⟨p, mx, one, inf, sg, nan, hF, hm, rfl, rfl⟩ | ⟨hF, rfl, rfl⟩
 ·exact pk_in hF hp
 ·exact nan_in hF
 ·unfold Wd; omega
theorem f64 : IsFmt 1 53 1023 4503599627370496 9218868437227405312 9223372036854775808 9221120237041090560 := .inr ⟨rfl, rfl, rfl, rfl, rfl, rfl, rfl⟩
theorem from_small (n : Nat) (h0 : 0 < n) (h1 : n < 1000) (z : Int) (hz : RoundIs 53 (1 - 1023) 1023 4503599627370496 9218868437227405312 0 0 n 0 false z 0) : FromIs 1 0 1 (n : Int) z 0 := by
 have hs : signK 1 (n : Int) = 0 := by unfold signK; rw [if_neg (by omega)]
 have hM : magK 1 (n : Int) = n := by unfold magK; rw [if_neg (by omega)]; omega
 refine .inl ⟨53, 1023, 4503599627370496, 9218868437227405312, 9223372036854775808, 9221120237041090560, f64, ⟨by omega, by omega⟩, ?_, ?_⟩
 ·unfold fitsK
  rw [hs, hM, show mostK 1 0 = 9223372036854775807 by decide]
  exact decide_eq_true (by omega)
 ·unfold intO
  rw [hs, hM, if_neg (by omega)]
  exact .inr (.inl ⟨rfl, z, hz, rfl⟩)
theorem one_is : FromIs 1 0 1 1 4607182418800017408 0 := from_small 1 (by decide) (by decide) _ ⟨0, 0, 4503599627370496, 4503599627370496, 0, by decide, .inr ⟨by decide, rfl⟩, by decide, by decide, by decide, .inr (.inr ⟨by decide, by decide, by decide, .inl ⟨rfl, rfl⟩⟩)⟩
theorem two_is : FromIs 1 0 1 2 4611686018427387904 0 := from_small 2 (by decide) (by decide) _ ⟨1, 1, 4503599627370496, 4503599627370496, 0, by decide, .inr ⟨by decide, rfl⟩, by decide, by decide, by decide, .inr (.inr ⟨by decide, by decide, by decide, .inl ⟨rfl, rfl⟩⟩)⟩
theorem half_is : OpRD divO 1 0 4607182418800017408 4611686018427387904 4602678819172646912 0 := by
 refine .inl ⟨53, 1023, 4503599627370496, 9218868437227405312, 9223372036854775808, 9221120237041090560, ⟨1, 0, -52, 4503599627370496⟩, ⟨1, 0, -51, 4503599627370496⟩, f64, ⟨by omega, by omega⟩, ?_, ?_, .inl ?_⟩
 ·exact .inl ⟨by decide, 4607182418800017408, .inl ⟨rfl, rfl, by decide⟩, .inr (.inr (.inr (.inr ⟨by decide, by decide, rfl, 0, 4503599627370496, -52, .inr ⟨by decide, by decide, by decide⟩, by decide, by decide, by decide, by decide⟩)))⟩
 ·exact .inl ⟨by decide, 4611686018427387904, .inl ⟨rfl, rfl, by decide⟩, .inr (.inr (.inr (.inr ⟨by decide, by decide, rfl, 0, 4503599627370496, -51, .inr ⟨by decide, by decide, by decide⟩, by decide, by decide, by decide, by decide⟩)))⟩
 ·have e : divO 53 0 ⟨1, 0, -52, 4503599627370496⟩ ⟨1, 0, -51, 4503599627370496⟩ = ⟨1, 0, -59, 288230376151711744⟩ := by
   unfold divO
   rw [if_neg (by decide), if_neg (by decide), if_neg (by decide), if_neg (by decide), if_pos (by decide)]
   rfl
  rw [e]
  exact .inr (.inl ⟨rfl, 4602678819172646912, ⟨-1, -1, 4503599627370496, 4503599627370496, 0, by decide, .inr ⟨by decide, rfl⟩, by decide, by decide, by decide, .inr (.inr ⟨by decide, by decide, by decide, .inl ⟨rfl, rfl⟩⟩)⟩, rfl⟩)
noncomputable def opsW : Ops := ⟨wInt, wAdd, wSub, wMul, wDiv, wSqrt⟩
theorem opsW_in : opsW.In where
 int n := by obtain ⟨Z, fl, h⟩ := from_ex 1 0 1 (n % 18446744073709551616); show Wd (wInt n); rw [wInt_eq h]; exact h.wd
 add ha hb := by obtain ⟨Z, fl, h, h1, h2⟩ := add_same 1 0 _ _ ha.1 ha.2 hb.1 hb.2; show Wd (wAdd _ _); rw [wAdd_eq h]; exact h.wd
 sub ha hb := by obtain ⟨Z, fl, h, h1, h2⟩ := sub_same 1 0 _ _ ha.1 ha.2 hb.1 hb.2; show Wd (wSub _ _); rw [wSub_eq h]; exact h.wd
 mul ha hb := by obtain ⟨Z, fl, h, h1, h2⟩ := mul_same 1 0 _ _ ha.1 ha.2 hb.1 hb.2; show Wd (wMul _ _); rw [wMul_eq h]; exact h.wd
 div ha hb := by obtain ⟨Z, fl, h, h1, h2⟩ := div_same 1 0 _ _ ha.1 ha.2 hb.1 hb.2; show Wd (wDiv _ _); rw [wDiv_eq h]; exact h.wd
 sqrt ha := by obtain ⟨Z, fl, h, h1, h2⟩ := sqrt_same 1 0 _ ha.1 ha.2; show Wd (wSqrt _); rw [wSqrt_eq h]; exact h.wd
theorem opsW_s : opsW.S where
 one := wInt_eq (n := 1) one_is
 half := by
  have h2 : wInt 2 = 4611686018427387904 := wInt_eq (n := 2) two_is
  show wDiv _ (wInt 2) = _
  rw [h2]
  exact wDiv_eq half_is
 int n u n0 n1 hu := by
  subst hu
  intro w
  have h0 : 0 ≤ n % 18446744073709551616 := Int.emod_nonneg _ (by omega)
  have h1 : n % 18446744073709551616 < 18446744073709551616 := Int.emod_lt_of_pos _ (by omega)
  refine (specFromInt_any 1 0 1 (n % 18446744073709551616) h0 h1 w).mono ?_
  rintro e w' ⟨Z, fl, hp, he, hg⟩
  exact ⟨fl, by rw [show opsW.int n = Z from wInt_eq hp]; exact he, hg⟩
 add ha hb := by obtain ⟨Z, fl, h, h1, h2⟩ := add_same 1 0 _ _ ha.1 ha.2 hb.1 hb.2; intro w; show Calls _ _ _ _ (fun e w' => ∃ fl, e = J (.agg #[.int .u64 (wAdd _ _), _]) ∧ _); rw [wAdd_eq h]; exact (h1 w).mono fun e w' h => ⟨fl, h⟩
 sub ha hb := by obtain ⟨Z, fl, h, h1, h2⟩ := sub_same 1 0 _ _ ha.1 ha.2 hb.1 hb.2; intro w; show Calls _ _ _ _ (fun e w' => ∃ fl, e = J (.agg #[.int .u64 (wSub _ _), _]) ∧ _); rw [wSub_eq h]; exact (h1 w).mono fun e w' h => ⟨fl, h⟩
 mul ha hb := by obtain ⟨Z, fl, h, h1, h2⟩ := mul_same 1 0 _ _ ha.1 ha.2 hb.1 hb.2; intro w; show Calls _ _ _ _ (fun e w' => ∃ fl, e = J (.agg #[.int .u64 (wMul _ _), _]) ∧ _); rw [wMul_eq h]; exact (h1 w).mono fun e w' h => ⟨fl, h⟩
 div ha hb := by obtain ⟨Z, fl, h, h1, h2⟩ := div_same 1 0 _ _ ha.1 ha.2 hb.1 hb.2; intro w; show Calls _ _ _ _ (fun e w' => ∃ fl, e = J (.agg #[.int .u64 (wDiv _ _), _]) ∧ _); rw [wDiv_eq h]; exact (h1 w).mono fun e w' h => ⟨fl, h⟩
 sqrt ha := by obtain ⟨Z, fl, h, h1, h2⟩ := sqrt_same 1 0 _ ha.1 ha.2; intro w; show Calls _ _ _ _ (fun e w' => ∃ fl, e = J (.agg #[.int .u64 (wSqrt _), _]) ∧ _); rw [wSqrt_eq h]; exact (h1 w).mono fun e w' h => ⟨fl, h⟩
theorem opsW_i : opsW.I where
 add ha hb := by obtain ⟨Z, fl, h, h1, h2⟩ := add_same 1 0 _ _ ha.1 ha.2 hb.1 hb.2; intro w hw; show Calls _ _ _ _ (fun e w' => ∃ fl, e = J (.agg #[.int .u64 (wAdd _ _), _]) ∧ _); rw [wAdd_eq h]; exact (h2 w hw).mono fun e w' h => ⟨fl, h⟩
 sub ha hb := by obtain ⟨Z, fl, h, h1, h2⟩ := sub_same 1 0 _ _ ha.1 ha.2 hb.1 hb.2; intro w hw; show Calls _ _ _ _ (fun e w' => ∃ fl, e = J (.agg #[.int .u64 (wSub _ _), _]) ∧ _); rw [wSub_eq h]; exact (h2 w hw).mono fun e w' h => ⟨fl, h⟩
 mul ha hb := by obtain ⟨Z, fl, h, h1, h2⟩ := mul_same 1 0 _ _ ha.1 ha.2 hb.1 hb.2; intro w hw; show Calls _ _ _ _ (fun e w' => ∃ fl, e = J (.agg #[.int .u64 (wMul _ _), _]) ∧ _); rw [wMul_eq h]; exact (h2 w hw).mono fun e w' h => ⟨fl, h⟩
 div ha hb := by obtain ⟨Z, fl, h, h1, h2⟩ := div_same 1 0 _ _ ha.1 ha.2 hb.1 hb.2; intro w hw; show Calls _ _ _ _ (fun e w' => ∃ fl, e = J (.agg #[.int .u64 (wDiv _ _), _]) ∧ _); rw [wDiv_eq h]; exact (h2 w hw).mono fun e w' h => ⟨fl, h⟩
 sqrt ha := by obtain ⟨Z, fl, h, h1, h2⟩ := sqrt_same 1 0 _ ha.1 ha.2; intro w hw; show Calls _ _ _ _ (fun e w' => ∃ fl, e = J (.agg #[.int .u64 (wSqrt _), _]) ∧ _); rw [wSqrt_eq h]; exact (h2 w hw).mono fun e w' h => ⟨fl, h⟩
end Go.Proofs.YtnbbfeknbfohhaaGreatDoor
