import Derived.Test.YtnbbfeknbfohhaaGreatDoorL5b
import Derived.Test.YtnbbfeknbfohhaaGreatDoorL5c
import Derived.Test.YtnbbfeknbfohhaaGreatDoorL5a
import Derived.Test.YtnbbfeknbfohhaaGreatDoorH4
import Derived.Test.YtnbbfeknbfohhaaGreatDoorL5TI
import Derived.Test.YtnbbfeknbfohhaaGreatDoorG3
set_option linter.unusedVariables false
set_option linter.unusedSimpArgs false
set_option maxHeartbeats 40000000
namespace Go.Proofs.YtnbbfeknbfohhaaGreatDoor
open Go.RowKit
def wfl (x : Opd) : Int := if x.c = 1 ∧ wholeX x = true then 16 else 0
def RIntO (p mx one inf sg nan mode : Int) (x : Opd) (ex : Bool) (Z fl : Int) : Prop :=
 3 ≤ x.c ∧ Z = nan ∧ fl = (if x.c = 4 then 1 else 0) ∨ x.c ≤ 2 ∧ PackIs p (1 - mx) mx one inf sg nan mode (wholeO mode x) Z 0 ∧ fl = (if ex then wfl x else 0)
def RIntIs (f mode a : Int) (ex : Bool) (Z fl : Int) : Prop :=
 (∃ p mx one inf sg nan x, IsFmt f p mx one inf sg nan ∧ (0 ≤ mode ∧ mode ≤ 4) ∧ OpdIs p mx one inf sg nan a x ∧ RIntO p mx one inf sg nan mode x ex Z fl) ∨
 (∃ p mx one inf sg nan, IsFmt f p mx one inf sg nan ∧ (mode < 0 ∨ 4 < mode) ∧ Z = nan ∧ fl = 1) ∨
 (¬ (f = 0 ∨ f = 1) ∧ Z = 9221120237041090560 ∧ fl = 1)
theorem RIntIs.one {f mode a : Int} {ex : Bool} {Z fl Z' fl' : Int} (h : RIntIs f mode a ex Z fl) (h' : RIntIs f mode a ex Z' fl') : Z = Z' ∧ fl = fl' := by
 rcases h with ⟨p, mx, one, inf, sg, nan, x, hF, hm, hx, hp⟩ | ⟨p, mx, one, inf, sg, nan, hF, hm, rfl, rfl⟩ | ⟨hF, rfl, rfl⟩ <;>
 rcases h' with ⟨p', mx', one', inf', sg', nan', x', hF', hm', hx', hp'⟩ | ⟨p', mx', one', inf', sg', nan', hF', hm', rfl, rfl⟩ | ⟨hF', rfl, rfl⟩
 ·obtain ⟨rfl, rfl, rfl, rfl, rfl, rfl⟩ := hF.one hF'
  obtain rfl := hx.one hF hx'
  rcases hp with ⟨c, rfl, rfl⟩ | ⟨c, hp, rfl⟩ <;> rcases hp' with ⟨c', rfl, rfl⟩ | ⟨c', hp', rfl⟩
  ·exact ⟨rfl, rfl⟩
  ·exfalso; omega
  ·exfalso; omega
  ·exact ⟨(PackIs.one hp hp').1, rfl⟩
 ·exfalso; omega
 ·exact absurd hF.yes.symm (by simp [hF'])
 ·exfalso; omega
 ·obtain ⟨rfl, rfl, rfl, rfl, rfl, rfl⟩ := hF.one hF'
  exact ⟨rfl, rfl⟩
 ·exact absurd hF.yes.symm (by simp [hF'])
 ·exact absurd hF'.yes.symm (by simp [hF])
 ·exact absurd hF'.yes.symm (by simp [hF])
 ·exact ⟨rfl, rfl⟩
theorem wholeO_self {mode : Int} {x : Opd} (h : ¬ (x.c = 1 ∧ x.e < 0)) : wholeO mode x = x := by unfold wholeO; rw [if_neg h]
theorem wfl_self {f p mx one inf sg nan a : Int} (hF : IsFmt f p mx one inf sg nan) {x : Opd} (h : ¬ (x.c = 1 ∧ x.e < 0)) : wfl x = 0 := by
 unfold wfl
 by_cases c : x.c = 1
 ·rw [wholeX_no (x := x) (by omega), if_neg (by simp)]
 ·rw [if_neg (fun h => c h.1)]
theorem wfl_01 (x : Opd) : wfl x = 0 ∨ wfl x = 16 := by unfold wfl; split <;> simp
theorem or_wfl (x : Opd) : bits .or .i64 0 (wfl x) = wfl x := by rcases wfl_01 x with h | h <;> rw [h] <;> decide +kernel
theorem whole_pack {f p mx one inf sg nan a : Int} (hF : IsFmt f p mx one inf sg nan) {x : Opd} (hx : OpdIs p mx one inf sg nan a x) (mode : Int) (c : x.c = 1) (e : x.e < 0) :
  ((wholeM mode x : Nat) : Int) ≤ one ∧ (wholeM mode x = 0 → PackIs p (1 - mx) mx one inf sg nan mode (wholeO mode x) (sw x.s sg 0) 0) ∧
  (0 < wholeM mode x → ∃ z, (∀ md, RoundIs p (1 - mx) mx one inf md x.s (wholeM mode x) 0 false z 0) ∧ PackIs p (1 - mx) mx one inf sg nan mode (wholeO mode x) (sw x.s sg z) 0) := by
 obtain ⟨P, hP, hP63, hone⟩ := hF.pow
 have hone' : one = ((2 ^ P : Nat) : Int) := by rw [cast_pow2]; exact hone
 have hM : x.M < 2 ^ (P + 1) := by
  have hb := hF.bounds
  rcases hx with ⟨_, hu⟩ | ⟨_, rfl⟩
  ·obtain ⟨h1, h2, h3, h4, h5, h6, h7, h8, h9⟩ := unpack_bounds hF hu
   rw [Nat.pow_succ]; omega
  ·cases c
 have hl := wholeM_lt (mode := mode) e hM
 have hw : wholeO mode x = if wholeM mode x = 0 then ⟨0, x.s, 0, 0⟩ else ⟨1, x.s, 0, wholeM mode x⟩ := by unfold wholeO; rw [if_pos ⟨c, e⟩]
 refine ⟨by omega, fun h0 => ?_, fun h0 => ?_⟩
 ·rw [hw, if_pos h0]; exact .inl ⟨rfl, rfl, rfl⟩
 ·obtain ⟨z, z0, z1, hz⟩ := whole_exact hF x.s (wholeM mode x) h0 (by omega)
  refine ⟨z, hz, ?_⟩
  rw [hw, if_neg (by omega)]
  exact .inr (.inl ⟨rfl, z, hz mode, rfl⟩)
theorem same_nan' (m : Int) (h3 : 3 ≤ m) (h4 : m ≤ 4) : SameV ⟨m, 0, 0, 0⟩ 0 0 m 0 0 false := ⟨0, by simp, by simp, Same.self ⟨m, 0, 0, 0⟩ (fun c => by dsimp only at c; omega), by omega, by omega, fun c => by omega⟩
theorem calcWhole_any {f p mx one inf sg nan a : Int} (hF : IsFmt f p mx one inf sg nan) (mode : Int) (hm : 0 ≤ mode ∧ mode ≤ 4) (a0 : 0 ≤ a) (a1 : a < 18446744073709551616) {x : Opd} (hx : OpdIs p mx one inf sg nan a x) {w : World} (hw : Fm w) :
  Calls Tryz.prog 130 #[.int .i64 f, .int .i64 mode, .func (.func 75) #[] #[], .int .u64 a, .int .u64 a] w fun e w' => ∃ z fl, RIntO p mx one inf sg nan mode x true z fl ∧ e = .returned (.agg #[.int .u64 z, .int .i64 fl]) ∧ Gr w w' := by
 obtain ⟨mn, fb, sp, hM, hmn, hfb⟩ := hF.m
 obtain ⟨k, hk⟩ := rule_of mode hm.1 hm.2
 obtain ⟨x', hx', HA⟩ := opd_is hF hM a a0 a1
 obtain rfl := hx.one hF hx'
 obtain ⟨v1, v2, v3, v4, v5, v6⟩ := opd_vo hF hx
 have hb := hF.bounds
 have xc0 := v1.c0; have xc4 := v1.c4
 refine calc_okf p mn mx mode f k 75 a a _ _ _ _ _ _ _ _ _ _ _ _ (fun w'' hg' => settingOf_yes hF hM mode k (fun w => ruleOf_yes mode k hk w) (hw.gr hg')) HA HA
  (fun os oe oc oh ol ot of => 3 ≤ x.c ∧ SameV ⟨x.c, 0, 0, 0⟩ os oe oc oh ol ot ∧ of = 0 ∨ x.c ≤ 2 ∧ ¬ (x.c = 1 ∧ x.e < 0) ∧ SameV x os oe oc oh ol ot ∧ of = 0 ∨ (x.c = 1 ∧ x.e < 0) ∧ os = x.s ∧ oe = 0 ∧ oc = 1 ∧ oh = 0 ∧ ol = ((wholeM mode x : Nat) : Int) ∧ ot = false ∧ of = wfl x)
  (fun w => ?_) _ (fun os oe oc oh ol ot of w hq => ?_)
 ·by_cases cn : 3 ≤ x.c
  ·refine (combine_nan p mn mx mode k _ _ _ _ _ _ _ _ _ _ _ _ _ x.c (by omega) cn w).mono ?_
   rintro e w' ⟨rfl, hg⟩
   exact ⟨_, _, _, _, _, _, _, .inl ⟨cn, same_nan' _ cn xc4, rfl⟩, rfl, hg⟩
  ·refine combine_toWhole p mn mx mode k _ _ _ _ _ _ _ _ _ _ _ _ x.c (by omega) (by omega) _ (fun w => ?_) w
   by_cases c : x.c = 1
   ·by_cases e : x.e < 0
    ·have hl := (whole_pack hF hx mode c e).1
     have HR : ∀ b : Bool, decide (0 < cutHalf x.M x.e 0 false) = b → KR 161 #[.func (.func k) #[] #[], .int .i64 (0 - x.e), .int .i64 x.s, .agg #[.int .u64 ((x.M / 18446744073709551616 : Nat) : Int), .int .u64 ((x.M % 18446744073709551616 : Nat) : Int)], .bool false] (.tuple #[.int .u64 ((wholeM mode x : Nat) : Int), .bool b]) := fun b hb' w => hb' ▸ roundAt_any mode k hk x.s v1.s01 x.M (by omega) x.e 0 (0 - x.e) false rfl (by omega) (by omega) (fun _ => rfl) (by
       have h1 := (chosen_le mode x.s (cutLo x.M x.e 0) (cutHalf x.M x.e 0 false)).1
       unfold wholeM at hl; omega) w
     have hn : wrap64 (-x.e) = 0 - x.e := by
      rw [show -x.e = 0 - x.e by omega]
      unfold wrap64
      omega
     have ce : decide (0 ≤ x.e) = false := by simp; omega
     by_cases hh : 0 < cutHalf x.M x.e 0 false
     ·refine (toWhole_x p mn mx mode k _ _ _ _ _ _ _ _ _ _ _ _ (0 - x.e) _ c ce hn (HR true (by simp [hh])) w).mono ?_
      rintro r w' ⟨rfl, hg⟩
      exact ⟨_, _, _, _, _, _, _, .inr (.inr ⟨⟨c, e⟩, rfl, rfl, rfl, rfl, rfl, rfl, by unfold wfl wholeX; rw [if_pos ⟨c, by simp [hh]⟩]⟩), rfl, hg⟩
     ·refine (toWhole_w p mn mx mode k _ _ _ _ _ _ _ _ _ _ _ _ (0 - x.e) _ c ce hn (HR false (by simp [hh])) w).mono ?_
      rintro r w' ⟨rfl, hg⟩
      exact ⟨_, _, _, _, _, _, _, .inr (.inr ⟨⟨c, e⟩, rfl, rfl, rfl, rfl, rfl, rfl, by unfold wfl wholeX; rw [if_neg (by simp [hh])]⟩), rfl, hg⟩
    ·refine (toWhole_e p mn mx mode k _ _ _ _ _ _ _ _ _ _ _ _ c (by simp; omega) w).mono ?_
     rintro r w' ⟨rfl, hg⟩
     exact ⟨_, _, _, _, _, _, _, .inr (.inl ⟨by omega, fun h => e h.2, c ▸ v1.same, rfl⟩), rfl, hg⟩
   ·refine (toWhole_c p mn mx mode k _ _ _ _ _ _ _ _ _ _ _ _ (by simp [c]) w).mono ?_
    rintro r w' ⟨rfl, hg⟩
    exact ⟨_, _, _, _, _, _, _, .inr (.inl ⟨by omega, fun h => c h.1, v1.same, rfl⟩), rfl, hg⟩
 ·rcases hq with ⟨cn, hs, rfl⟩ | ⟨c2, hn, hs, rfl⟩ | ⟨⟨c, e⟩, rfl, rfl, rfl, rfl, rfl, rfl, rfl⟩
  ·refine (pack_any hM mode k hk _ os oe oc oh ol ot hs w).mono ?_
   rintro r w' ⟨Z, fl, hp, rfl, hg⟩
   refine ⟨Z, fl, .inl ⟨cn, ?_⟩, rfl, hg⟩
   rcases hp with ⟨d, _⟩ | ⟨d, _⟩ | ⟨d, _⟩ | ⟨d, rfl, rfl⟩ | ⟨d, rfl, rfl⟩ <;> dsimp only at d
   ·omega
   ·omega
   ·omega
   ·exact ⟨rfl, by rw [if_neg (by omega)]⟩
   ·exact ⟨rfl, by rw [if_pos d]⟩
  ·refine (pack_any hM mode k hk _ os oe oc oh ol ot hs w).mono ?_
   rintro r w' ⟨Z, fl, hp, rfl, hg⟩
   rw [hmn] at hp
   obtain ⟨rfl, rfl⟩ := PackIs.one hp (pack_own hF a0 hx c2 mode)
   refine ⟨_, _, .inr ⟨c2, ?_, ?_⟩, rfl, hg⟩
   ·rw [wholeO_self hn]; exact hp
   ·rw [wfl_self (a := Z) hF hn]; rfl
  ·obtain ⟨hl, hz0, hz1⟩ := whole_pack hF hx mode c e
   refine (pack_1f p mn mx mode k x.s 0 0 ((wholeM mode x : Nat) : Int) false (wfl x) (fun z fl => PackIs p (1 - mx) mx one inf sg nan mode (wholeO mode x) z 0 ∧ fl = 0) (fun _ => wfl x) (fun z fl h => by rw [h.2]; exact or_wfl x) (fun w => ?_) w).mono ?_
   ·rcases Nat.eq_zero_or_pos (wholeM mode x) with h0 | h0
    ·rw [h0]
     refine (round_Z hM mode k x.s 0 false (by omega) (by omega) (sw x.s sg 0) (fun w => zero_any hM x.s _ ?_ w) w).mono ?_
     ·rcases v1.s01 with h | h <;> rw [h]
      ·exact .inl ⟨rfl, by simp [sw]⟩
      ·exact .inr ⟨rfl, by simp [sw]⟩
     ·rintro r w' ⟨rfl, hg⟩
      exact ⟨_, _, ⟨hz0 h0, rfl⟩, rfl, hg⟩
    ·obtain ⟨z, hr, hp⟩ := hz1 h0
     have := round_num hM mode mode k hk x.s v1.s01 0 (by omega) (by omega) (wholeM mode x) h0 (by omega) false (fun h => by cases h) w
     rw [show wholeM mode x / 18446744073709551616 = 0 by omega, show wholeM mode x % 18446744073709551616 = wholeM mode x by omega] at this
     refine this.mono ?_
     rintro r w' ⟨z', fl, hr', rfl, hg⟩
     rw [hmn] at hr'
     obtain ⟨rfl, rfl⟩ := RoundIs.one hr' (hr mode)
     exact ⟨_, _, ⟨by rw [sv_sw]; exact hp, rfl⟩, rfl, hg⟩
   ·rintro r w' ⟨z, fl, ⟨hp, rfl⟩, rfl, hg⟩
    exact ⟨_, _, .inr ⟨by omega, hp, by rw [if_pos rfl]⟩, rfl, hg⟩
theorem andNot16 {fl : Int} (h : fl = 0 ∨ fl = 1 ∨ fl = 16) : bits .andNot .i64 fl 16 = if fl = 16 then 0 else fl := by rcases h with rfl | rfl | rfl <;> decide +kernel
theorem implRoundInt_any (f mode a : Int) (ex : Bool) (a0 : 0 ≤ a) (a1 : a < 18446744073709551616) (w : World) (hw : Fm w) :
  Calls Tryz.prog 41 #[.int .i64 f, .int .i64 mode, .int .u64 a, .bool ex] w fun e w' => ∃ Z fl, RIntIs f mode a ex Z fl ∧ e = .returned (.agg #[.int .u64 Z, .int .i64 fl]) ∧ Gr w w' := by
 have bad : ∀ (nan : Int), RIntIs f mode a ex nan 1 → (∀ w', Gr w w' → Calls Tryz.prog 130 #[.int .i64 f, .int .i64 mode, .func (.func 75) #[] #[], .int .u64 a, .int .u64 a] w' fun e w'' => e = .returned (.agg #[.int .u64 nan, .int .i64 1]) ∧ Gr w' w'') → Calls Tryz.prog 41 #[.int .i64 f, .int .i64 mode, .int .u64 a, .bool ex] w fun e w' => ∃ Z fl, RIntIs f mode a ex Z fl ∧ e = .returned (.agg #[.int .u64 Z, .int .i64 fl]) ∧ Gr w w' := by
  intro nan hR HC
  have HC' : Hid (∀ w', Gr w w' → Calls Tryz.prog 130 #[.int .i64 f, .int .i64 mode, .func (.func 75) #[] #[], .int .u64 a, .int .u64 a] w' fun e w'' => ∃ z fl, (z = nan ∧ fl = 1) ∧ e = .returned (.agg #[.int .u64 z, .int .i64 fl]) ∧ Gr w' w'') := fun w' hg => (HC w' hg).mono (fun e w'' ⟨h1, h2⟩ => ⟨nan, 1, ⟨rfl, rfl⟩, h1, h2⟩)
  cases ex
  ·refine (rint_n f mode a _ (fun _ => 1) (fun z fl h => by rw [h.2]; decide +kernel) HC').mono ?_
   rintro e w' ⟨z, fl, ⟨rfl, rfl⟩, rfl, hg⟩
   exact ⟨_, _, hR, rfl, hg⟩
  ·refine (rint_x f mode a _ HC').mono ?_
   rintro e w' ⟨z, fl, ⟨rfl, rfl⟩, rfl, hg⟩
   exact ⟨_, _, hR, rfl, hg⟩
 by_cases hf : f = 0 ∨ f = 1
 ·obtain ⟨p, mx, one, inf, sg, nan, hF⟩ := fmt_of f hf
  obtain ⟨mn, fb, sp, hM, hmn, hfb⟩ := hF.m
  by_cases hm : 0 ≤ mode ∧ mode ≤ 4
  ·obtain ⟨x, hx⟩ := opd_ex hF a a0 a1
   have HC : Hid (∀ w', Gr w w' → Calls Tryz.prog 130 #[.int .i64 f, .int .i64 mode, .func (.func 75) #[] #[], .int .u64 a, .int .u64 a] w' fun e w'' => ∃ z fl, RIntO p mx one inf sg nan mode x true z fl ∧ e = .returned (.agg #[.int .u64 z, .int .i64 fl]) ∧ Gr w' w'') := fun w' hg => calcWhole_any hF mode hm a0 a1 hx (hw.gr hg)
   have hfl : ∀ z fl, RIntO p mx one inf sg nan mode x true z fl → fl = 0 ∨ fl = 1 ∨ fl = 16 := by
    rintro z fl (⟨_, _, rfl⟩ | ⟨_, _, rfl⟩)
    ·split <;> simp
    ·rw [if_pos rfl]; rcases wfl_01 x with h | h <;> simp [h]
   cases ex
   ·refine (rint_n f mode a _ (fun fl => if fl = 16 then 0 else fl) (fun z fl h => andNot16 (hfl z fl h)) HC).mono ?_
    rintro e w' ⟨z, fl, h, rfl, hg⟩
    refine ⟨_, _, .inl ⟨p, mx, one, inf, sg, nan, x, hF, hm, hx, ?_⟩, rfl, hg⟩
    rcases h with ⟨c, rfl, rfl⟩ | ⟨c, hp, rfl⟩
    ·exact .inl ⟨c, rfl, by split <;> simp⟩
    ·refine .inr ⟨c, hp, ?_⟩
     rw [if_pos rfl]
     rcases wfl_01 x with h | h <;> simp [h]
   ·refine (rint_x f mode a _ HC).mono ?_
    rintro e w' ⟨z, fl, h, rfl, hg⟩
    exact ⟨_, _, .inl ⟨p, mx, one, inf, sg, nan, x, hF, hm, hx, h⟩, rfl, hg⟩
  ·exact bad nan (.inr (.inl ⟨p, mx, one, inf, sg, nan, hF, by omega, rfl, rfl⟩)) (fun w' hg => calc_no p mn mx mode nan f mode a a (fun w'' hg' => settingOf_bad hF hM mode (fun w => ruleOf_no mode (by omega) w) (hw.gr (hg.trans hg'))) (fun w => invalid_any hM w) 75)
 ·exact bad _ (.inr (.inr ⟨hf, rfl, rfl⟩)) (fun w' hg => calc_no _ _ _ _ _ f mode a a (fun w'' hg' => settingOf_none f mode hf (hw.gr (hg.trans hg'))) (fun w => invalid_any m64 w) 75)
theorem l5Whole_any {f p mx one inf sg nan a : Int} (hF : IsFmt f p mx one inf sg nan) {x : Opd} (hx : OpdIs p mx one inf sg nan a x) (mode : Int) (hm : 0 ≤ mode ∧ mode ≤ 4) (b k c : Nat) (w : World) (hB : BigN 2 w (.slice (some ⟨b, 0, none⟩) k c) x.M) :
  Calls Tryz.prog 120 #[.int .i64 mode, .agg #[.int .i64 x.s, .slice (some ⟨b, 0, none⟩) k c, .int .i64 x.e, .bool false]] w fun e w' => ∃ b k c, BigN 70005 w' (.slice (some ⟨b, 0, none⟩) k c) (wholeM mode x) ∧ e = .returned (.tuple #[.slice (some ⟨b, 0, none⟩) k c, .bool (!wholeX x)]) ∧ Gb w w' := by
 obtain ⟨v1, v2, v3, v4, v5, v6⟩ := opd_vo hF hx
 refine l5Whole_walk mode x.s x.e x.M (cutLo x.M x.e 0) (wholeM mode x) ((cutHalf x.M x.e 0 false : Nat) : Int) (!wholeX x) ?_ _ w (fun w' hg => ?_) (fun v' w' hb => ?_) b k c rfl
 ·unfold wholeX
  rcases Nat.eq_zero_or_pos (cutHalf x.M x.e 0 false) with h | h
  ·rw [h]; rfl
  ·rw [decide_eq_true h]; simp; omega
 ·obtain ⟨n, hn, hb⟩ := BigN.gb hB hg
  refine (l2Cut_any hb (by omega) x.s x.e 0 false (by omega) (by omega) (by omega) (by omega)).mono ?_
  rintro r w'' ⟨v', k', rfl, hb', hk', hg'⟩
  obtain ⟨b', c', rfl, _⟩ := hb'.shape
  exact ⟨b', k', c', ⟨k', by omega, hb'⟩, rfl, hg'⟩
 ·obtain ⟨n, hn, hb⟩ := hb
  exact big_slice ((l2Choose_any hb (by omega) mode x.s (cutHalf x.M x.e 0 false) hm.1 hm.2 v1.s01 (cutHalf_le _ _ _ _)).mono (fun e w' ⟨v, k, c1, c2, c3, c4⟩ => ⟨v, k, c1, c2, by omega, c4⟩))
theorem specRoundInt_any (f mode a : Int) (ex : Bool) (a0 : 0 ≤ a) (a1 : a < 18446744073709551616) (w : World) :
  Calls Tryz.prog 32 #[.int .i64 f, .int .i64 mode, .int .u64 a, .bool ex] w fun e w' => ∃ Z fl, RIntIs f mode a ex Z fl ∧ e = .returned (.agg #[.int .u64 Z, .int .i64 fl]) ∧ Gb w w' := by
 by_cases hf : f = 0 ∨ f = 1
 ·obtain ⟨p, mx, one, inf, sg, nan, hF⟩ := fmt_of f hf
  by_cases hm : 0 ≤ mode ∧ mode ≤ 4
  ·obtain ⟨x, hx⟩ := opd_ex hF a a0 a1
   obtain ⟨v1, v2, v3, v4, v5, v6⟩ := opd_vo hF hx
   have xc0 := v1.c0; have xc4 := v1.c4
   have fin : ∀ Z fl, RIntO p mx one inf sg nan mode x ex Z fl → (Calls Tryz.prog 32 #[.int .i64 f, .int .i64 mode, .int .u64 a, .bool ex] w fun e w' => e = .returned (.agg #[.int .u64 Z, .int .i64 fl]) ∧ Gb w w') → Calls Tryz.prog 32 #[.int .i64 f, .int .i64 mode, .int .u64 a, .bool ex] w fun e w' => ∃ Z fl, RIntIs f mode a ex Z fl ∧ e = .returned (.agg #[.int .u64 Z, .int .i64 fl]) ∧ Gb w w' := fun Z fl hp h => h.mono (fun e w' ⟨h1, h2⟩ => ⟨Z, fl, .inl ⟨p, mx, one, inf, sg, nan, x, hF, hm, hx, hp⟩, h1, h2⟩)
   by_cases fa : a < 2 * sg
   ·have HFi : KW 117 #[.int .i64 f, .int .i64 mode, .int .u64 a, .int .u64 a] (.bool true) := fun w => l3Fits_yes hF mode a a hm.1 hm.2 a0 fa a0 fa w
    have HU := unp_det hF a a0 fa hx
    have HQ : ∀ (b : Bool), b = decide (3 ≤ x.c) → KR 118 #[.agg #[.int .i64 x.c, .int .i64 x.s, .int .i64 x.e, .int .u64 (((x.M : Nat) : Int))]] (.bool b) := fun b hb w => l3Quiet_any _ _ _ _ b hb w
    by_cases cn : 3 ≤ x.c
    ·refine fin nan (if decide (x.c = 4) then 1 else 0) (.inl ⟨cn, rfl, by simp⟩) (sRint_nan f mode a _ _ _ _ nan _ (decide (x.c = 4)) ex HFi HU (HQ true (by simp [cn])) (bq _ _) (fun w => l3Nan_any hF _ _ rfl w) w)
    ·have hQ := HQ false (by simp; omega)
     by_cases hn : x.c = 1 ∧ x.e < 0
     ·obtain ⟨c, e⟩ := hn
      obtain ⟨hl, hz0, hz1⟩ := whole_pack hF hx mode c e
      have hb := hF.bounds
      have HN : Hid (∀ w, Calls Tryz.prog 121 #[.agg #[.int .i64 x.c, .int .i64 x.s, .int .i64 x.e, .int .u64 (((x.M : Nat) : Int))]] w fun e w' => ∃ b k cc, BigN 2 w' (.slice (some ⟨b, 0, none⟩) k cc) x.M ∧ e = .returned (.agg #[.int .i64 x.s, .slice (some ⟨b, 0, none⟩) k cc, .int .i64 x.e, .bool false]) ∧ Gb w w') := fun w => l3Number_any _ _ _ x.M (by omega) w
      have HW : Hid (∀ b k c w, BigN 2 w (.slice (some ⟨b, 0, none⟩) k c) x.M → Calls Tryz.prog 120 #[.int .i64 mode, .agg #[.int .i64 x.s, .slice (some ⟨b, 0, none⟩) k c, .int .i64 x.e, .bool false]] w fun e w' => ∃ b k c, BigN 70005 w' (.slice (some ⟨b, 0, none⟩) k c) (wholeM mode x) ∧ e = .returned (.tuple #[.slice (some ⟨b, 0, none⟩) k c, .bool (!wholeX x)]) ∧ Gb w w') := fun b k c w hB => l5Whole_any hF hx mode hm b k c w hB
      have HZ : KR 64 #[.int .i64 f, .int .i64 x.s] (.agg #[.int .u64 (sw x.s sg 0), .int .i64 0]) := fun w => l3Zero_any hF x.s v1.s01 w
      have ce : decide (0 ≤ x.e) = false := by simp; omega
      have hfl : ∀ b : Bool, wholeX x = b → wfl x = if b then 16 else 0 := by
       intro b hb'
       unfold wfl
       rw [hb']
       cases b
       ·rw [if_neg (by simp)]; rfl
       ·rw [if_pos ⟨c, rfl⟩]; rfl
      rcases Nat.eq_zero_or_pos (wholeM mode x) with h0 | h0
      ·have hp := hz0 h0
       cases ex
       ·exact fin _ 0 (.inr ⟨by omega, hp, rfl⟩) (sRint_0n f mode a _ _ _ _ _ x.M (wholeM mode x) false (!wholeX x) rfl h0 HFi HU hQ c ce HN HW HZ w)
       ·cases hb' : wholeX x
        ·refine fin _ 0 (.inr ⟨by omega, hp, by rw [if_pos rfl, hfl _ hb']; rfl⟩) (sRint_0w f mode a _ _ _ _ _ x.M (wholeM mode x) true (!wholeX x) ⟨rfl, by rw [hb']; rfl⟩ h0 HFi HU hQ c ce HN HW HZ w)
        ·refine fin _ 16 (.inr ⟨by omega, hp, by rw [if_pos rfl, hfl _ hb']; rfl⟩) (sRint_0x f mode a _ _ _ _ _ x.M (wholeM mode x) true (!wholeX x) ⟨rfl, by rw [hb']; rfl⟩ h0 HFi HU hQ c ce HN HW HZ w)
      ·obtain ⟨z, hr, hp⟩ := hz1 h0
       have HR : Hid (∀ v w, BigN 70005 w v (wholeM mode x) → Calls Tryz.prog 65 #[.int .i64 f, .int .i64 0, .agg #[.int .i64 x.s, v, .int .i64 0, .bool false]] w fun e w' => e = .returned (.agg #[.int .u64 (sw x.s sg z), .int .i64 0]) ∧ Gb w w') := fun v w hB => (round_at hF 0 (by omega) (by omega) ⟨1, x.s, 0, wholeM mode x⟩ rfl v1.s01 h0 (by dsimp only; omega) (by dsimp only; omega) 70005 (by omega) v w hB).mono (by
         rintro e w' ⟨Z, fl, hpk, rfl, hg⟩
         rcases hpk with ⟨d, _⟩ | ⟨d, z', hz', rfl⟩ | ⟨d, _⟩ | ⟨d, _⟩ | ⟨d, _⟩ <;> dsimp only at d
         ·omega
         ·obtain ⟨rfl, rfl⟩ := RoundIs.one hz' (hr 0)
          exact ⟨rfl, hg⟩
         ·omega
         ·omega
         ·omega)
       cases ex
       ·exact fin _ 0 (.inr ⟨by omega, hp, rfl⟩) (sRint_1n f mode a _ _ _ _ _ _ x.M (wholeM mode x) false (!wholeX x) rfl h0 HFi HU hQ c ce HN HW HZ HR w)
       ·cases hb' : wholeX x
        ·refine fin _ 0 (.inr ⟨by omega, hp, by rw [if_pos rfl, hfl _ hb']; rfl⟩) (sRint_1w f mode a _ _ _ _ _ _ x.M (wholeM mode x) true (!wholeX x) ⟨rfl, by rw [hb']; rfl⟩ h0 HFi HU hQ c ce HN HW HZ HR w)
        ·refine fin _ 16 (.inr ⟨by omega, hp, by rw [if_pos rfl, hfl _ hb']; rfl⟩) (sRint_1x f mode a _ _ _ _ _ _ x.M (wholeM mode x) true (!wholeX x) ⟨rfl, by rw [hb']; rfl⟩ h0 HFi HU hQ c ce HN HW HZ HR w)
     ·have hp : RIntO p mx one inf sg nan mode x ex a 0 := .inr ⟨by omega, by rw [wholeO_self hn]; exact pack_own hF a0 hx (by omega) mode, by rw [wfl_self (a := a) hF hn]; split <;> rfl⟩
      by_cases c : x.c = 1
      ·exact fin a 0 hp (sRint_e f mode a _ _ _ _ ex HFi HU hQ c (by simp; omega) w)
      ·exact fin a 0 hp (sRint_c f mode a _ _ _ _ ex HFi HU hQ c w)
   ·refine fin nan 1 ?_ (sRint_bad f mode a nan 1 ex (fun w => l3Fits_no f mode a a a0 a1 a0 a1 (nofit_of hF a1 a1 (by omega)) w) (fun w => l2Bad_fmt hF w) w)
    have := opd_wide hF hx (by omega); subst this
    exact .inl ⟨by decide, rfl, rfl⟩
  ·refine (sRint_bad f mode a nan 1 ex (fun w => l3Fits_no f mode a a a0 a1 a0 a1 (.inl (by omega)) w) (fun w => l2Bad_fmt hF w) w).mono ?_
   rintro e w' ⟨rfl, hg⟩
   exact ⟨_, _, .inr (.inl ⟨p, mx, one, inf, sg, nan, hF, by omega, rfl, rfl⟩), rfl, hg⟩
 ·refine (sRint_bad f mode a _ 1 ex (fun w => l3Fits_no f mode a a a0 a1 a0 a1 (.inr (.inl hf)) w) (fun w => l2Bad_no f hf w) w).mono ?_
  rintro e w' ⟨rfl, hg⟩
  exact ⟨_, _, .inr (.inr ⟨hf, rfl, rfl⟩), rfl, hg⟩
theorem rint_ex (f mode a : Int) (ex : Bool) (a0 : 0 ≤ a) (a1 : a < 18446744073709551616) : ∃ Z fl, RIntIs f mode a ex Z fl := by
 by_cases hf : f = 0 ∨ f = 1
 ·obtain ⟨p, mx, one, inf, sg, nan, hF⟩ := fmt_of f hf
  by_cases hm : 0 ≤ mode ∧ mode ≤ 4
  ·obtain ⟨x, hx⟩ := opd_ex hF a a0 a1
   have v1 := (opd_vo hF hx).1
   have := v1.c0
   have fin : ∀ Z fl, RIntO p mx one inf sg nan mode x ex Z fl → ∃ Z fl, RIntIs f mode a ex Z fl := fun Z fl h => ⟨Z, fl, .inl ⟨p, mx, one, inf, sg, nan, x, hF, hm, hx, h⟩⟩
   by_cases cn : 3 ≤ x.c
   ·exact fin _ _ (.inl ⟨cn, rfl, rfl⟩)
   ·by_cases hn : x.c = 1 ∧ x.e < 0
    ·obtain ⟨_, h0, h1⟩ := whole_pack hF hx mode hn.1 hn.2
     rcases Nat.eq_zero_or_pos (wholeM mode x) with h | h
     ·exact fin _ _ (.inr ⟨by omega, h0 h, rfl⟩)
     ·obtain ⟨z, _, hp⟩ := h1 h
      exact fin _ _ (.inr ⟨by omega, hp, rfl⟩)
    ·exact fin a _ (.inr ⟨by omega, by rw [wholeO_self hn]; exact pack_own hF a0 hx (by omega) mode, rfl⟩)
  ·exact ⟨_, _, .inr (.inl ⟨p, mx, one, inf, sg, nan, hF, by omega, rfl, rfl⟩)⟩
 ·exact ⟨_, _, .inr (.inr ⟨hf, rfl, rfl⟩)⟩
end Go.Proofs.YtnbbfeknbfohhaaGreatDoor
namespace Go.Proofs.YtnbbfeknbfohhaaGreatDoor
open Go.RowKit
def tw (kind s : Int) (N : Nat) : Int × Bool := if N ≤ mostK kind s then (wordK s N, true) else (wordK s (mostK kind s), false)
theorem wrap_neg (N : Nat) (h : N < 18446744073709551616) : IntKind.u64.wrap (-(N : Int)) = wordK 1 N := by
 rw [IntKind.wrap_u64]; unfold wordK
 by_cases c : N = 0
 ·subst c; rfl
 ·rw [if_pos ⟨rfl, c⟩]; omega
theorem wordK_0 (N : Nat) : wordK 0 N = (N : Int) := by unfold wordK; rw [if_neg (by simp)]
theorem toWord_0_any (s : Int) (hs : s = 0 ∨ s = 1) (N : Nat) (hN : N < 340282366920938463463374607431768211456) (w : World) :
  Calls Tryz.prog 268 #[.agg #[.int .i32 (-2147483648), .int .i32 2147483647], .int .i64 s, .agg #[.int .u64 ((N / 18446744073709551616 : Nat) : Int), .int .u64 ((N % 18446744073709551616 : Nat) : Int)]] w fun e w' => e = .returned (.tuple #[.int .u64 (tw 0 s N).1, .bool (tw 0 s N).2]) ∧ Gr w w' := by
 unfold tw
 rcases hs with rfl | rfl
 ·have hm : mostK 0 0 = 2147483647 := by decide
  have he : wordK 0 (mostK 0 0) = 2147483647 := by rw [hm]; decide
  rw [he, hm]
  by_cases c : N / 18446744073709551616 = 0
  ·by_cases c2 : N ≤ 2147483647
   ·rw [if_pos c2]
    have hl : N % 18446744073709551616 = N := by omega
    rw [hl, c]
    exact (wordK_0 N).symm ▸ toWord_00_ok _ _ rfl (decide_eq_false (by omega)) w
   ·rw [if_neg c2]
    exact toWord_00_big _ _ (by omega) (decide_eq_true (by omega)) w
  ·rw [if_neg (by omega)]
   exact toWord_00_far _ _ (by simp; omega) w
 ·have hm : mostK 0 1 = 2147483648 := by decide
  have he : wordK 1 (mostK 0 1) = 18446744071562067968 := by rw [hm]; decide
  rw [he, hm]
  by_cases c : N / 18446744073709551616 = 0
  ·by_cases c2 : N ≤ 2147483648
   ·rw [if_pos c2]
    have hl : N % 18446744073709551616 = N := by omega
    rw [hl, c]
    exact toWord_01_ok _ _ _ rfl (decide_eq_false (by omega)) (wrap_neg N (by omega)) w
   ·rw [if_neg c2]
    exact toWord_01_big _ _ (by omega) (decide_eq_true (by omega)) w
  ·rw [if_neg (by omega)]
   exact toWord_01_far _ _ (by simp; omega) w
theorem toWord_1_any (s : Int) (hs : s = 0 ∨ s = 1) (N : Nat) (hN : N < 340282366920938463463374607431768211456) (w : World) :
  Calls Tryz.prog 271 #[.agg #[.int .i64 (-9223372036854775808), .int .i64 9223372036854775807], .int .i64 s, .agg #[.int .u64 ((N / 18446744073709551616 : Nat) : Int), .int .u64 ((N % 18446744073709551616 : Nat) : Int)]] w fun e w' => e = .returned (.tuple #[.int .u64 (tw 1 s N).1, .bool (tw 1 s N).2]) ∧ Gr w w' := by
 unfold tw
 rcases hs with rfl | rfl
 ·have hm : mostK 1 0 = 9223372036854775807 := by decide
  have he : wordK 0 (mostK 1 0) = 9223372036854775807 := by rw [hm]; decide
  rw [he, hm]
  by_cases c : N / 18446744073709551616 = 0
  ·by_cases c2 : N ≤ 9223372036854775807
   ·rw [if_pos c2]
    have hl : N % 18446744073709551616 = N := by omega
    rw [hl, c]
    exact (wordK_0 N).symm ▸ toWord_10_ok _ _ rfl (decide_eq_false (by omega)) w
   ·rw [if_neg c2]
    exact toWord_10_big _ _ (by omega) (decide_eq_true (by omega)) w
  ·rw [if_neg (by omega)]
   exact toWord_10_far _ _ (by simp; omega) w
 ·have hm : mostK 1 1 = 9223372036854775808 := by decide
  have he : wordK 1 (mostK 1 1) = 9223372036854775808 := by rw [hm]; decide
  rw [he, hm]
  by_cases c : N / 18446744073709551616 = 0
  ·by_cases c2 : N ≤ 9223372036854775808
   ·rw [if_pos c2]
    have hl : N % 18446744073709551616 = N := by omega
    rw [hl, c]
    exact toWord_11_ok _ _ _ rfl (decide_eq_false (by omega)) (wrap_neg N (by omega)) w
   ·rw [if_neg c2]
    exact toWord_11_big _ _ (by omega) (decide_eq_true (by omega)) w
  ·rw [if_neg (by omega)]
   exact toWord_11_far _ _ (by simp; omega) w
theorem toWord_2_any (s : Int) (hs : s = 0 ∨ s = 1) (N : Nat) (hN : N < 340282366920938463463374607431768211456) (w : World) :
  Calls Tryz.prog 273 #[.agg #[.int .u32 0, .int .u32 4294967295], .int .i64 s, .agg #[.int .u64 ((N / 18446744073709551616 : Nat) : Int), .int .u64 ((N % 18446744073709551616 : Nat) : Int)]] w fun e w' => e = .returned (.tuple #[.int .u64 (tw 2 s N).1, .bool (tw 2 s N).2]) ∧ Gr w w' := by
 unfold tw
 rcases hs with rfl | rfl
 ·have hm : mostK 2 0 = 4294967295 := by decide
  have he : wordK 0 (mostK 2 0) = 4294967295 := by rw [hm]; decide
  rw [he, hm]
  by_cases c : N / 18446744073709551616 = 0
  ·by_cases c2 : N ≤ 4294967295
   ·rw [if_pos c2]
    have hl : N % 18446744073709551616 = N := by omega
    rw [hl, c]
    exact (wordK_0 N).symm ▸ toWord_20_ok _ _ rfl (decide_eq_false (by omega)) w
   ·rw [if_neg c2]
    exact toWord_20_big _ _ (by omega) (decide_eq_true (by omega)) w
  ·rw [if_neg (by omega)]
   exact toWord_20_far _ _ (by simp; omega) w
 ·have hm : mostK 2 1 = 0 := by decide
  have he : wordK 1 (mostK 2 1) = 0 := by rw [hm]; decide
  rw [he, hm]
  by_cases c : N / 18446744073709551616 = 0
  ·by_cases c2 : N ≤ 0
   ·rw [if_pos c2]
    have hl : N % 18446744073709551616 = N := by omega
    rw [hl, c]
    exact toWord_21_ok _ _ _ rfl (decide_eq_false (by omega)) (wrap_neg N (by omega)) w
   ·rw [if_neg c2]
    exact toWord_21_big _ _ (by omega) (decide_eq_true (by omega)) w
  ·rw [if_neg (by omega)]
   exact toWord_21_far _ _ (by simp; omega) w
theorem toWord_3_any (s : Int) (hs : s = 0 ∨ s = 1) (N : Nat) (hN : N < 340282366920938463463374607431768211456) (w : World) :
  Calls Tryz.prog 275 #[.agg #[.int .u64 0, .int .u64 18446744073709551615], .int .i64 s, .agg #[.int .u64 ((N / 18446744073709551616 : Nat) : Int), .int .u64 ((N % 18446744073709551616 : Nat) : Int)]] w fun e w' => e = .returned (.tuple #[.int .u64 (tw 3 s N).1, .bool (tw 3 s N).2]) ∧ Gr w w' := by
 unfold tw
 rcases hs with rfl | rfl
 ·have hm : mostK 3 0 = 18446744073709551615 := by decide
  have he : wordK 0 (mostK 3 0) = 18446744073709551615 := by rw [hm]; decide
  rw [he, hm]
  by_cases c : N / 18446744073709551616 = 0
  ·by_cases c2 : N ≤ 18446744073709551615
   ·rw [if_pos c2]
    have hl : N % 18446744073709551616 = N := by omega
    rw [hl, c]
    exact (wordK_0 N).symm ▸ toWord_30_ok _ _ rfl (decide_eq_false (by omega)) w
   ·rw [if_neg c2]
    exact toWord_30_big _ _ (by omega) (decide_eq_true (by omega)) w
  ·rw [if_neg (by omega)]
   exact toWord_30_far _ _ (by simp; omega) w
 ·have hm : mostK 3 1 = 0 := by decide
  have he : wordK 1 (mostK 3 1) = 0 := by rw [hm]; decide
  rw [he, hm]
  by_cases c : N / 18446744073709551616 = 0
  ·by_cases c2 : N ≤ 0
   ·rw [if_pos c2]
    have hl : N % 18446744073709551616 = N := by omega
    rw [hl, c]
    exact toWord_31_ok _ _ _ rfl (decide_eq_false (by omega)) (wrap_neg N (by omega)) w
   ·rw [if_neg c2]
    exact toWord_31_big _ _ (by omega) (decide_eq_true (by omega)) w
  ·rw [if_neg (by omega)]
   exact toWord_31_far _ _ (by simp; omega) w
def ToIntO (mode kind : Int) (x : Opd) (Z fl : Int) : Prop :=
 3 ≤ x.c ∧ Z = wordK 0 (mostK kind 0) ∧ fl = 1 ∨
 x.c ≤ 1 ∧ wholeM mode x ≤ mostK kind x.s ∧ Z = wordK x.s (wholeM mode x) ∧ fl = wfl x ∨
 x.c ≤ 2 ∧ (x.c = 2 ∨ mostK kind x.s < wholeM mode x) ∧ Z = wordK x.s (mostK kind x.s) ∧ fl = 1
def NoTo (f mode kind a : Int) : Prop := ¬ (0 ≤ mode ∧ mode ≤ 4) ∨ ¬ (0 ≤ kind ∧ kind ≤ 3) ∨ ¬ (f = 0 ∨ f = 1) ∨ f = 0 ∧ 4294967296 ≤ a
def ToIntIs (f mode kind a Z fl : Int) : Prop :=
 (∃ p mx one inf sg nan x, IsFmt f p mx one inf sg nan ∧ a < 2 * sg ∧ (0 ≤ mode ∧ mode ≤ 4) ∧ (0 ≤ kind ∧ kind ≤ 3) ∧ OpdIs p mx one inf sg nan a x ∧ ToIntO mode kind x Z fl) ∨ NoTo f mode kind a ∧ Z = 0 ∧ fl = 1
theorem ToIntO.one {mode kind : Int} {x : Opd} (hx : 0 ≤ x.c) {Z fl Z' fl' : Int} (h : ToIntO mode kind x Z fl) (h' : ToIntO mode kind x Z' fl') : Z = Z' ∧ fl = fl' := by
 rcases h with ⟨c, rfl, rfl⟩ | ⟨c, d, rfl, rfl⟩ | ⟨c, d, rfl, rfl⟩ <;> rcases h' with ⟨c', rfl, rfl⟩ | ⟨c', d', rfl, rfl⟩ | ⟨c', d', rfl, rfl⟩ <;> first | exact ⟨rfl, rfl⟩ | (exfalso; omega)
theorem noTo_fit {f p mx one inf sg nan a : Int} (h : IsFmt f p mx one inf sg nan) (ha : a < 2 * sg) : ¬ (¬ (f = 0 ∨ f = 1) ∨ f = 0 ∧ 4294967296 ≤ a) := by
 rcases h with ⟨rfl, rfl, rfl, rfl, rfl, rfl, rfl⟩ | ⟨rfl, rfl, rfl, rfl, rfl, rfl, rfl⟩ <;> omega
theorem ToIntIs.one {f mode kind a Z fl Z' fl' : Int} (h : ToIntIs f mode kind a Z fl) (h' : ToIntIs f mode kind a Z' fl') : Z = Z' ∧ fl = fl' := by
 rcases h with ⟨p, mx, one, inf, sg, nan, x, hF, ha, hm, hk, hx, hp⟩ | ⟨hn, rfl, rfl⟩ <;>
 rcases h' with ⟨p', mx', one', inf', sg', nan', x', hF', ha', hm', hk', hx', hp'⟩ | ⟨hn', rfl, rfl⟩
 ·obtain ⟨rfl, rfl, rfl, rfl, rfl, rfl⟩ := hF.one hF'
  obtain rfl := hx.one hF hx'
  exact ToIntO.one (opd_vo hF hx).1.c0 hp hp'
 ·have := noTo_fit hF ha; unfold NoTo at hn'; exfalso; rcases hn' with h | h | h <;> first | exact h hm | exact h hk | exact this h
 ·have := noTo_fit hF' ha'; unfold NoTo at hn; exfalso; rcases hn with h | h | h <;> first | exact h hm' | exact h hk' | exact this h
 ·exact ⟨rfl, rfl⟩
theorem toInt_ex (f mode kind a : Int) (a0 : 0 ≤ a) (a1 : a < 18446744073709551616) : ∃ Z fl, ToIntIs f mode kind a Z fl := by
 by_cases hn : NoTo f mode kind a
 ·exact ⟨_, _, .inr ⟨hn, rfl, rfl⟩⟩
 ·unfold NoTo at hn
  have hm : 0 ≤ mode ∧ mode ≤ 4 := by omega
  have hk : 0 ≤ kind ∧ kind ≤ 3 := by omega
  have hf : f = 0 ∨ f = 1 := by omega
  obtain ⟨p, mx, one, inf, sg, nan, hF⟩ := fmt_of f hf
  have ha : a < 2 * sg := by rcases hF with ⟨rfl, rfl, rfl, rfl, rfl, rfl, rfl⟩ | ⟨rfl, rfl, rfl, rfl, rfl, rfl, rfl⟩ <;> omega
  obtain ⟨x, hx⟩ := opd_ex hF a a0 a1
  have c0 := (opd_vo hF hx).1.c0
  have fin : ∀ Z fl, ToIntO mode kind x Z fl → ∃ Z fl, ToIntIs f mode kind a Z fl := fun Z fl h => ⟨Z, fl, .inl ⟨p, mx, one, inf, sg, nan, x, hF, ha, hm, hk, hx, h⟩⟩
  by_cases c : 3 ≤ x.c
  ·exact fin _ _ (.inl ⟨c, rfl, rfl⟩)
  ·by_cases d : x.c = 2 ∨ mostK kind x.s < wholeM mode x
   ·exact fin _ _ (.inr (.inr ⟨by omega, d, rfl, rfl⟩))
   ·exact fin _ _ (.inr (.inl ⟨by omega, by omega, rfl, rfl⟩))
theorem shl5 (M : Nat) (n : Nat) (hM : M < 340282366920938463463374607431768211456) (hn : n ≤ 128) (h : M * 2 ^ n < 340282366920938463463374607431768211456) (w : World) :
  Calls Tryz.prog 162 #[.agg #[.int .u64 ((M / 18446744073709551616 : Nat) : Int), .int .u64 ((M % 18446744073709551616 : Nat) : Int)], .int .i64 n] w fun e w' => e = .returned (.agg #[.int .u64 ((M * 2 ^ n / 18446744073709551616 : Nat) : Int), .int .u64 ((M * 2 ^ n % 18446744073709551616 : Nat) : Int)]) ∧ Gr w w' := by
 have e0 : ((M / 18446744073709551616 : Nat) : Int) * 18446744073709551616 + ((M % 18446744073709551616 : Nat) : Int) = (M : Int) := by omega
 have hk : (bnd (n : Int)).toNat = n := by unfold bnd; rw [if_neg (by omega), if_neg (by omega)]; simp
 refine (shiftLeft_any _ _ (n : Int) (by omega) (by omega) (by omega) (by omega) w).mono ?_
 rintro e w' ⟨rfl, hg⟩
 refine ⟨ret_w ?_ ?_, hg⟩
 ·unfold shlHi; rw [hk, e0, cast_mul]; omega
 ·unfold shlLo; rw [hk, e0, cast_mul]; omega
theorem combWhole_any {f p mx one inf sg nan a : Int} (hF : IsFmt f p mx one inf sg nan) (mn mode : Int) (hm : 0 ≤ mode ∧ mode ≤ 4) (k : Nat) (hk : IsRule mode k) (a0 : 0 ≤ a) {x : Opd} (hx : OpdIs p mx one inf sg nan a x) :
  ∃ (os oe oc oh ol of : Int) (ot : Bool) (N : Nat), (∀ w, Calls Tryz.prog 74 #[.agg #[.int .i64 p, .int .i64 mn, .int .i64 mx, .int .i64 mode, .func (.func k) #[] #[]], .func (.func 75) #[] #[], .agg #[.int .i64 x.s, .int .i64 x.e, .int .i64 x.c, .int .u64 (((x.M / 18446744073709551616 : Nat) : Int)), .int .u64 (((x.M % 18446744073709551616 : Nat) : Int)), .bool false, .int .i64 0], .agg #[.int .i64 x.s, .int .i64 x.e, .int .i64 x.c, .int .u64 (((x.M / 18446744073709551616 : Nat) : Int)), .int .u64 (((x.M % 18446744073709551616 : Nat) : Int)), .bool false, .int .i64 0]] w fun e w' => e = .returned (.agg #[.int .i64 os, .int .i64 oe, .int .i64 oc, .int .u64 oh, .int .u64 ol, .bool ot, .int .i64 of]) ∧ Gr w w') ∧
   (∀ w, Calls Tryz.prog 76 #[.agg #[.int .i64 os, .int .i64 oe, .int .i64 oc, .int .u64 oh, .int .u64 ol, .bool ot, .int .i64 of]] w fun e w' => e = .returned (.agg #[.int .u64 ((N / 18446744073709551616 : Nat) : Int), .int .u64 ((N % 18446744073709551616 : Nat) : Int)]) ∧ Gr w w') ∧ N < 340282366920938463463374607431768211456 ∧ (os = 0 ∨ os = 1) ∧
   (3 ≤ x.c ∧ os = 0 ∧ N = 18446744073709551616 ∨ x.c = 2 ∧ os = x.s ∧ N = 18446744073709551616 ∨ x.c ≤ 1 ∧ os = x.s ∧ of = wfl x ∧ (N = wholeM mode x ∨ 18446744073709551616 ≤ N ∧ 18446744073709551616 ≤ wholeM mode x)) := by
 obtain ⟨v1, v2, v3, v4, v5, v6⟩ := opd_vo hF hx
 have hb := hF.bounds
 have xc0 := v1.c0; have xc4 := v1.c4
 have big1 : (18446744073709551616 : Nat) / 18446744073709551616 = 1 ∧ (18446744073709551616 : Nat) % 18446744073709551616 = 0 := by decide
 by_cases cn : 3 ≤ x.c
 ·refine ⟨0, 0, x.c, 0, 0, 0, false, 18446744073709551616, fun w => combine_nan p mn mx mode k _ _ _ _ _ _ _ _ _ _ _ _ _ x.c (by omega) cn w, fun w => ?_, by decide, .inl rfl, .inl ⟨cn, rfl, rfl⟩⟩
  rw [big1.1, big1.2]
  exact size_far 0 0 x.c 0 0 0 false (decide_eq_true (by omega)) w
 ·have comb : ∀ os oe oc oh ol ot of, (∀ w, Calls Tryz.prog 75 #[.agg #[.int .i64 p, .int .i64 mn, .int .i64 mx, .int .i64 mode, .func (.func k) #[] #[]], .agg #[.int .i64 x.s, .int .i64 x.e, .int .i64 x.c, .int .u64 (((x.M / 18446744073709551616 : Nat) : Int)), .int .u64 (((x.M % 18446744073709551616 : Nat) : Int)), .bool false, .int .i64 0], .agg #[.int .i64 x.s, .int .i64 x.e, .int .i64 x.c, .int .u64 (((x.M / 18446744073709551616 : Nat) : Int)), .int .u64 (((x.M % 18446744073709551616 : Nat) : Int)), .bool false, .int .i64 0]] w fun e w' => e = .returned (.agg #[.int .i64 os, .int .i64 oe, .int .i64 oc, .int .u64 oh, .int .u64 ol, .bool ot, .int .i64 of]) ∧ Gr w w') → ∀ w, Calls Tryz.prog 74 #[.agg #[.int .i64 p, .int .i64 mn, .int .i64 mx, .int .i64 mode, .func (.func k) #[] #[]], .func (.func 75) #[] #[], .agg #[.int .i64 x.s, .int .i64 x.e, .int .i64 x.c, .int .u64 (((x.M / 18446744073709551616 : Nat) : Int)), .int .u64 (((x.M % 18446744073709551616 : Nat) : Int)), .bool false, .int .i64 0], .agg #[.int .i64 x.s, .int .i64 x.e, .int .i64 x.c, .int .u64 (((x.M / 18446744073709551616 : Nat) : Int)), .int .u64 (((x.M % 18446744073709551616 : Nat) : Int)), .bool false, .int .i64 0]] w fun e w' => e = .returned (.agg #[.int .i64 os, .int .i64 oe, .int .i64 oc, .int .u64 oh, .int .u64 ol, .bool ot, .int .i64 of]) ∧ Gr w w' := by
   intro os oe oc oh ol ot of h w
   refine (combine_toWhole p mn mx mode k _ _ _ _ _ _ _ _ _ _ _ _ x.c (by omega) (by omega) (fun a b c d e f g => a = os ∧ b = oe ∧ c = oc ∧ d = oh ∧ e = ol ∧ f = ot ∧ g = of) (fun w => (h w).mono (fun e w' ⟨h1, h2⟩ => ⟨_, _, _, _, _, _, _, ⟨rfl, rfl, rfl, rfl, rfl, rfl, rfl⟩, h1, h2⟩)) w).mono ?_
   rintro e w' ⟨_, _, _, _, _, _, _, ⟨rfl, rfl, rfl, rfl, rfl, rfl, rfl⟩, rfl, hg⟩
   exact ⟨rfl, hg⟩
  by_cases c2 : x.c = 2
  ·refine ⟨x.s, x.e, x.c, _, _, 0, false, 18446744073709551616, comb _ _ _ _ _ _ _ (fun w => toWhole_c p mn mx mode k _ _ _ _ _ _ _ _ _ _ _ _ (by simp [c2]) w), fun w => ?_, by decide, v1.s01, .inr (.inl ⟨c2, rfl, rfl⟩)⟩
   rw [big1.1, big1.2]
   exact size_far _ _ _ _ _ _ _ (decide_eq_true (by omega)) w
  ·by_cases hn : x.c = 1 ∧ x.e < 0
   ·obtain ⟨c, e⟩ := hn
    have hl := (whole_pack hF hx mode c e).1
    have HR : ∀ b : Bool, decide (0 < cutHalf x.M x.e 0 false) = b → KR 161 #[.func (.func k) #[] #[], .int .i64 (0 - x.e), .int .i64 x.s, .agg #[.int .u64 ((x.M / 18446744073709551616 : Nat) : Int), .int .u64 ((x.M % 18446744073709551616 : Nat) : Int)], .bool false] (.tuple #[.int .u64 ((wholeM mode x : Nat) : Int), .bool b]) := fun b hb' w => hb' ▸ roundAt_any mode k hk x.s v1.s01 x.M (by omega) x.e 0 (0 - x.e) false rfl (by omega) (by omega) (fun _ => rfl) (by
      have h1 := (chosen_le mode x.s (cutLo x.M x.e 0) (cutHalf x.M x.e 0 false)).1
      unfold wholeM at hl; omega) w
    have hn : wrap64 (-x.e) = 0 - x.e := by
     rw [show -x.e = 0 - x.e by omega]
     unfold wrap64
     omega
    have ce : decide (0 ≤ x.e) = false := by simp; omega
    have hsz : ∀ fl w, Calls Tryz.prog 76 #[.agg #[.int .i64 x.s, .int .i64 0, .int .i64 1, .int .u64 0, .int .u64 (((wholeM mode x : Nat) : Int)), .bool false, .int .i64 fl]] w fun e w' => e = .returned (.agg #[.int .u64 ((wholeM mode x / 18446744073709551616 : Nat) : Int), .int .u64 ((wholeM mode x % 18446744073709551616 : Nat) : Int)]) ∧ Gr w w' := by
     intro fl w
     have h0 := shl5 (wholeM mode x) 0 (by omega) (by omega) (by omega)
     rw [Nat.pow_zero, Nat.mul_one, show wholeM mode x / 18446744073709551616 = 0 by omega, show wholeM mode x % 18446744073709551616 = wholeM mode x by omega] at h0
     rw [show wholeM mode x / 18446744073709551616 = 0 by omega, show wholeM mode x % 18446744073709551616 = wholeM mode x by omega]
     exact size_num _ 0 1 _ _ fl 0 _ _ false (by decide) (by decide) (fun w => h0 w) w
    by_cases hh : 0 < cutHalf x.M x.e 0 false
    ·refine ⟨x.s, 0, 1, 0, _, 16, false, wholeM mode x, comb _ _ _ _ _ _ _ (fun w => toWhole_x p mn mx mode k _ _ _ _ _ _ _ _ _ _ _ _ (0 - x.e) _ c ce hn (HR true (by simp [hh])) w), hsz 16, by omega, v1.s01, .inr (.inr ⟨by omega, rfl, ?_, .inl rfl⟩)⟩
     unfold wfl wholeX; rw [if_pos ⟨c, by simp [hh]⟩]
    ·refine ⟨x.s, 0, 1, 0, _, 0, false, wholeM mode x, comb _ _ _ _ _ _ _ (fun w => toWhole_w p mn mx mode k _ _ _ _ _ _ _ _ _ _ _ _ (0 - x.e) _ c ce hn (HR false (by simp [hh])) w), hsz 0, by omega, v1.s01, .inr (.inr ⟨by omega, rfl, ?_, .inl rfl⟩)⟩
     unfold wfl wholeX; rw [if_neg (by simp [hh])]
   ·have he : 0 ≤ x.e := by
     by_cases c : x.c = 1
     ·omega
     ·obtain ⟨_, v, _, _, hz⟩ := word_is hF a0 hx (by omega)
      have := hz c; omega
    have hw := wholeM_no (mode := mode) he
    obtain ⟨n, hnn⟩ : ∃ n : Nat, min x.e 64 = (n : Int) := ⟨(min x.e 64).toNat, by omega⟩
    have hn64 : n ≤ 64 := by omega
    have hlt : x.M * 2 ^ n < 340282366920938463463374607431768211456 := by
     have h1 := pow2_mono hn64
     have h2 : x.M * 2 ^ n ≤ x.M * 2 ^ 64 := Nat.mul_le_mul_left _ h1
     have h3 : (2 : Nat) ^ 64 = 18446744073709551616 := by decide
     rw [h3] at h2
     omega
    refine ⟨x.s, x.e, x.c, _, _, 0, false, x.M * 2 ^ n, comb _ _ _ _ _ _ _ (fun w => ?_), fun w => size_num _ _ _ _ _ _ (n : Int) _ _ _ (decide_eq_false (by omega)) hnn (fun w => shl5 x.M n (by omega) (by omega) hlt w) w, hlt, v1.s01, .inr (.inr ⟨by omega, rfl, (wfl_self (a := a) hF hn).symm, ?_⟩)⟩
    ·by_cases c : x.c = 1
     ·refine (toWhole_e p mn mx mode k _ _ _ _ _ _ _ _ _ _ _ _ c (by simp; omega) w).mono ?_
      rintro r w' ⟨rfl, hg⟩
      exact ⟨by rw [c], hg⟩
     ·exact toWhole_c p mn mx mode k _ _ _ _ _ _ _ _ _ _ _ _ (by simp [c]) w
    ·rw [hw]
     by_cases c64 : x.e ≤ 64
     ·left
      rw [show x.e.toNat = n by omega]
     ·have hnE : n = 64 := by omega
      rcases Nat.eq_zero_or_pos x.M with m0 | m0
      ·left; rw [m0]; simp
      ·right
       subst hnE
       have h3 : (2 : Nat) ^ 64 = 18446744073709551616 := by decide
       have h1 := pow2_mono (show 64 ≤ x.e.toNat by omega)
       have h2 : x.M * 2 ^ 64 ≤ x.M * 2 ^ x.e.toNat := Nat.mul_le_mul_left _ h1
       rw [h3] at h2 ⊢
       omega
theorem implToInt_ok {f p mx one inf sg nan a : Int} (hF : IsFmt f p mx one inf sg nan) (mode kind : Int) (hm : 0 ≤ mode ∧ mode ≤ 4) (hkd : 0 ≤ kind ∧ kind ≤ 3) (a0 : 0 ≤ a) (a1 : a < 18446744073709551616) (ha : a < 2 * sg) {x : Opd} (hx : OpdIs p mx one inf sg nan a x) {w : World} (hw : Fm w) :
  Calls Tryz.prog 23 #[.int .i64 f, .int .i64 mode, .int .i64 kind, .int .u64 a] w fun e w' => ∃ Z fl, ToIntO mode kind x Z fl ∧ e = .returned (.agg #[.int .u64 Z, .int .i64 fl]) ∧ Gr w w' := by
 obtain ⟨mn, fb, sp, hM, hmn, hfb⟩ := hF.m
 obtain ⟨k, hk⟩ := rule_of mode hm.1 hm.2
 obtain ⟨x', hx', HA⟩ := opd_is hF hM a a0 a1
 obtain rfl := hx.one hF hx'
 have xc0 := (opd_vo hF hx).1.c0
 obtain ⟨os, oe, oc, oh, ol, of, ot, N, HC, HZ, hN, hos, hcase⟩ := combWhole_any hF mn mode hm k hk a0 hx
 have HS : Hid (∀ w', Gr w w' → Calls Tryz.prog 70 #[.int .i64 f, .int .i64 mode] w' fun x w'' => x = .returned (.tuple #[.agg #[.int .i64 p, .int .i64 mn, .int .i64 mx, .int .i64 mode, .func (.func k) #[] #[]], .bool true]) ∧ Gr w' w'') := fun w'' hg' => settingOf_yes hF hM mode k (fun w => ruleOf_yes mode k hk w) (hw.gr hg')
 have HFi : KR 72 #[.agg #[.int .i64 p, .int .i64 mn, .int .i64 mx], .int .u64 a] (.bool true) := fun w => by
  have := fits_any hM a a0 a1 w
  rw [decide_eq_true ha] at this
  exact this
 have hl0 := mostK_lt kind os
 have fin : ∀ (q : Bool) (z : Int), tw kind os N = (z, q) → ToIntO mode kind x z (if q then of else 1) := by
  intro q z htw
  unfold tw at htw
  by_cases c : N ≤ mostK kind os
  ·rw [if_pos c] at htw
   injection htw with h1 h2
   subst h1 h2
   rcases hcase with ⟨_, _, rfl⟩ | ⟨_, _, rfl⟩ | ⟨c1, rfl, rfl, hw | ⟨hw, _⟩⟩
   ·omega
   ·omega
   ·rw [hw] at c ⊢
    exact .inr (.inl ⟨c1, c, rfl, rfl⟩)
   ·omega
  ·rw [if_neg c] at htw
   injection htw with h1 h2
   subst h1 h2
   rcases hcase with ⟨c3, rfl, rfl⟩ | ⟨c2, rfl, rfl⟩ | ⟨c1, rfl, rfl, hw | ⟨_, hw⟩⟩
   ·exact .inl ⟨c3, rfl, rfl⟩
   ·exact .inr (.inr ⟨by omega, .inl c2, rfl, rfl⟩)
   ·exact .inr (.inr ⟨by omega, .inr (by omega), rfl, rfl⟩)
   ·exact .inr (.inr ⟨by omega, .inr (by omega), rfl, rfl⟩)
 obtain ⟨⟨z, q⟩, htw⟩ : ∃ r, tw kind os N = r := ⟨_, rfl⟩
 have hO := fin q z htw
 rcases (show kind = 0 ∨ kind = 1 ∨ kind = 2 ∨ kind = 3 by omega) with rfl | rfl | rfl | rfl
 ·have HT : KR 268 #[.agg #[.int .i32 (-2147483648), .int .i32 2147483647], .int .i64 os, .agg #[.int .u64 ((N / 18446744073709551616 : Nat) : Int), .int .u64 ((N % 18446744073709551616 : Nat) : Int)]] (.tuple #[.int .u64 z, .bool q]) := fun w => by
   have := toWord_0_any os hos N hN w
   rw [htw] at this
   exact this
  cases hq : q
  ·refine (to_n0 p mn mx mode f 0 a _ _ _ _ _ os oe oc oh ol of _ _ z _ ot q hq k HS (fun w => kindOf_0 w) HFi HA HC HZ HT).mono ?_
   rintro e w' ⟨rfl, hg⟩
   rw [hq] at hO
   exact ⟨_, _, hO, rfl, hg⟩
  ·refine (to_y0 p mn mx mode f 0 a _ _ _ _ _ os oe oc oh ol of _ _ z _ ot q hq k HS (fun w => kindOf_0 w) HFi HA HC HZ HT).mono ?_
   rintro e w' ⟨rfl, hg⟩
   rw [hq] at hO
   exact ⟨_, _, hO, rfl, hg⟩
 ·have HT : KR 271 #[.agg #[.int .i64 (-9223372036854775808), .int .i64 9223372036854775807], .int .i64 os, .agg #[.int .u64 ((N / 18446744073709551616 : Nat) : Int), .int .u64 ((N % 18446744073709551616 : Nat) : Int)]] (.tuple #[.int .u64 z, .bool q]) := fun w => by
   have := toWord_1_any os hos N hN w
   rw [htw] at this
   exact this
  cases hq : q
  ·refine (to_n1 p mn mx mode f 1 a _ _ _ _ _ os oe oc oh ol of _ _ z _ ot q hq k HS (fun w => kindOf_1 w) HFi HA HC HZ HT).mono ?_
   rintro e w' ⟨rfl, hg⟩
   rw [hq] at hO
   exact ⟨_, _, hO, rfl, hg⟩
  ·refine (to_y1 p mn mx mode f 1 a _ _ _ _ _ os oe oc oh ol of _ _ z _ ot q hq k HS (fun w => kindOf_1 w) HFi HA HC HZ HT).mono ?_
   rintro e w' ⟨rfl, hg⟩
   rw [hq] at hO
   exact ⟨_, _, hO, rfl, hg⟩
 ·have HT : KR 273 #[.agg #[.int .u32 0, .int .u32 4294967295], .int .i64 os, .agg #[.int .u64 ((N / 18446744073709551616 : Nat) : Int), .int .u64 ((N % 18446744073709551616 : Nat) : Int)]] (.tuple #[.int .u64 z, .bool q]) := fun w => by
   have := toWord_2_any os hos N hN w
   rw [htw] at this
   exact this
  cases hq : q
  ·refine (to_n2 p mn mx mode f 2 a _ _ _ _ _ os oe oc oh ol of _ _ z _ ot q hq k HS (fun w => kindOf_2 w) HFi HA HC HZ HT).mono ?_
   rintro e w' ⟨rfl, hg⟩
   rw [hq] at hO
   exact ⟨_, _, hO, rfl, hg⟩
  ·refine (to_y2 p mn mx mode f 2 a _ _ _ _ _ os oe oc oh ol of _ _ z _ ot q hq k HS (fun w => kindOf_2 w) HFi HA HC HZ HT).mono ?_
   rintro e w' ⟨rfl, hg⟩
   rw [hq] at hO
   exact ⟨_, _, hO, rfl, hg⟩
 ·have HT : KR 275 #[.agg #[.int .u64 0, .int .u64 18446744073709551615], .int .i64 os, .agg #[.int .u64 ((N / 18446744073709551616 : Nat) : Int), .int .u64 ((N % 18446744073709551616 : Nat) : Int)]] (.tuple #[.int .u64 z, .bool q]) := fun w => by
   have := toWord_3_any os hos N hN w
   rw [htw] at this
   exact this
  cases hq : q
  ·refine (to_n3 p mn mx mode f 3 a _ _ _ _ _ os oe oc oh ol of _ _ z _ ot q hq k HS (fun w => kindOf_3 w) HFi HA HC HZ HT).mono ?_
   rintro e w' ⟨rfl, hg⟩
   rw [hq] at hO
   exact ⟨_, _, hO, rfl, hg⟩
  ·refine (to_y3 p mn mx mode f 3 a _ _ _ _ _ os oe oc oh ol of _ _ z _ ot q hq k HS (fun w => kindOf_3 w) HFi HA HC HZ HT).mono ?_
   rintro e w' ⟨rfl, hg⟩
   rw [hq] at hO
   exact ⟨_, _, hO, rfl, hg⟩
theorem kindOf_some (kind : Int) : ∃ (kv : Value) (kb : Bool), (∀ w, Calls Tryz.prog 71 #[.int .i64 kind] w fun e w' => e = .returned (.tuple #[kv, .bool kb]) ∧ Gr w w') ∧ (0 ≤ kind ∧ kind ≤ 3 → kb = true) ∧ (¬ (0 ≤ kind ∧ kind ≤ 3) → kb = false ∧ kv = Value.nilIface) := by
 by_cases h : 0 ≤ kind ∧ kind ≤ 3
 ·rcases (show kind = 0 ∨ kind = 1 ∨ kind = 2 ∨ kind = 3 by omega) with rfl | rfl | rfl | rfl
  ·exact ⟨_, true, kindOf_0, fun _ => rfl, fun h => absurd (by omega) h⟩
  ·exact ⟨_, true, kindOf_1, fun _ => rfl, fun h => absurd (by omega) h⟩
  ·exact ⟨_, true, kindOf_2, fun _ => rfl, fun h => absurd (by omega) h⟩
  ·exact ⟨_, true, kindOf_3, fun _ => rfl, fun h => absurd (by omega) h⟩
 ·exact ⟨_, false, kindOf_no kind h, fun h' => absurd h' h, fun _ => ⟨rfl, rfl⟩⟩
theorem implToInt_any (f mode kind a : Int) (a0 : 0 ≤ a) (a1 : a < 18446744073709551616) (w : World) (hw : Fm w) :
  Calls Tryz.prog 23 #[.int .i64 f, .int .i64 mode, .int .i64 kind, .int .u64 a] w fun e w' => ∃ Z fl, ToIntIs f mode kind a Z fl ∧ e = .returned (.agg #[.int .u64 Z, .int .i64 fl]) ∧ Gr w w' := by
 obtain ⟨kv, kb, HK, hk1, hk0⟩ := kindOf_some kind
 have bad : NoTo f mode kind a → (Calls Tryz.prog 23 #[.int .i64 f, .int .i64 mode, .int .i64 kind, .int .u64 a] w fun e w' => e = .returned (.agg #[.int .u64 0, .int .i64 1]) ∧ Gr w w') → Calls Tryz.prog 23 #[.int .i64 f, .int .i64 mode, .int .i64 kind, .int .u64 a] w fun e w' => ∃ Z fl, ToIntIs f mode kind a Z fl ∧ e = .returned (.agg #[.int .u64 Z, .int .i64 fl]) ∧ Gr w w' := fun hn h => h.mono (fun e w' ⟨h1, h2⟩ => ⟨0, 1, .inr ⟨hn, rfl, rfl⟩, h1, h2⟩)
 by_cases hf : f = 0 ∨ f = 1
 ·obtain ⟨p, mx, one, inf, sg, nan, hF⟩ := fmt_of f hf
  obtain ⟨mn, fb, sp, hM, hmn, hfb⟩ := hF.m
  by_cases hm : 0 ≤ mode ∧ mode ≤ 4
  ·obtain ⟨k, hk⟩ := rule_of mode hm.1 hm.2
   have HS : Hid (∀ w', Gr w w' → Calls Tryz.prog 70 #[.int .i64 f, .int .i64 mode] w' fun x w'' => x = .returned (.tuple #[.agg #[.int .i64 p, .int .i64 mn, .int .i64 mx, .int .i64 mode, .func (.func k) #[] #[]], .bool true]) ∧ Gr w' w'') := fun w'' hg' => settingOf_yes hF hM mode k (fun w => ruleOf_yes mode k hk w) (hw.gr hg')
   by_cases hkd : 0 ≤ kind ∧ kind ≤ 3
   ·obtain rfl := hk1 hkd
    by_cases ha : a < 2 * sg
    ·obtain ⟨x, hx⟩ := opd_ex hF a a0 a1
     refine (implToInt_ok hF mode kind hm hkd a0 a1 ha hx hw).mono ?_
     rintro e w' ⟨Z, fl, h, rfl, hg⟩
     exact ⟨_, _, .inl ⟨p, mx, one, inf, sg, nan, x, hF, ha, hm, hkd, hx, h⟩, rfl, hg⟩
    ·refine bad (.inr (.inr (.inr ?_))) (to_no3 p mn mx mode f mode kind a k kv HS HK (fun w => ?_))
     ·rcases hF with ⟨rfl, rfl, rfl, rfl, rfl, rfl, rfl⟩ | ⟨rfl, rfl, rfl, rfl, rfl, rfl, rfl⟩ <;> omega
     ·have := fits_any hM a a0 a1 w
      rw [decide_eq_false ha] at this
      exact this
   ·obtain ⟨rfl, rfl⟩ := hk0 hkd
    exact bad (.inr (.inl hkd)) (to_no2 p mn mx mode f mode kind a k HS HK)
  ·exact bad (.inl hm) (to_no1 p mn mx mode f mode kind a kv kb (fun w'' hg' => settingOf_bad hF hM mode (fun w => ruleOf_no mode (by omega) w) (hw.gr hg')) HK)
 ·exact bad (.inr (.inr (.inl hf))) (to_no1 _ _ _ _ f mode kind a kv kb (fun w'' hg' => settingOf_none f mode hf (hw.gr hg')) HK)
theorem l5Word_any (s : Int) (hs : s = 0 ∨ s = 1) (K : Nat) (hK : K ≤ 1000000) (N : Nat) (hN : N < 18446744073709551616) (b k c : Nat) (w : World) (hB : BigN K w (.slice (some ⟨b, 0, none⟩) k c) N) :
  Calls Tryz.prog 127 #[.int .i64 s, .slice (some ⟨b, 0, none⟩) k c] w fun e w' => e = .returned (.int .u64 (wordK s N)) ∧ Gb w w' := by
 refine l5Word_walk s (N : Int) _ ?_ b k c (fun w' hg => ?_)
 ·rcases hs with rfl | rfl
  ·exact .inr ⟨rfl, (wordK_0 N).symm⟩
  ·exact .inl ⟨rfl, by rw [Int.zero_sub]; exact wrap_neg N hN, wrap_neg N hN⟩
 ·obtain ⟨n, hn, hb⟩ := BigN.gb hB hg
  refine (l2Word_any hb (by omega) hN).mono ?_
  rintro e w'' ⟨rfl, hg'⟩
  exact ⟨rfl, by first | exact hg' | (subst hg'; exact Gb.refl _)⟩
theorem bits_ne (kind : Int) (h : 0 ≤ kind ∧ kind ≤ 3) : (bitsK kind == 0) = false := by
 rcases (show kind = 0 ∨ kind = 1 ∨ kind = 2 ∨ kind = 3 by omega) with rfl | rfl | rfl | rfl <;> decide
theorem bits_no (kind : Int) (h : ¬ (0 ≤ kind ∧ kind ≤ 3)) : bitsK kind = 0 := by unfold bitsK; rw [if_neg (by omega), if_neg (by omega)]
theorem specToInt_any (f mode kind a : Int) (a0 : 0 ≤ a) (a1 : a < 18446744073709551616) (w : World) :
  Calls Tryz.prog 39 #[.int .i64 f, .int .i64 mode, .int .i64 kind, .int .u64 a] w fun e w' => ∃ Z fl, ToIntIs f mode kind a Z fl ∧ e = .returned (.agg #[.int .u64 Z, .int .i64 fl]) ∧ Gb w w' := by
 have bad : NoTo f mode kind a → (Calls Tryz.prog 39 #[.int .i64 f, .int .i64 mode, .int .i64 kind, .int .u64 a] w fun e w' => e = .returned (.agg #[.int .u64 0, .int .i64 1]) ∧ Gb w w') → Calls Tryz.prog 39 #[.int .i64 f, .int .i64 mode, .int .i64 kind, .int .u64 a] w fun e w' => ∃ Z fl, ToIntIs f mode kind a Z fl ∧ e = .returned (.agg #[.int .u64 Z, .int .i64 fl]) ∧ Gb w w' := fun hn h => h.mono (fun e w' ⟨h1, h2⟩ => ⟨0, 1, .inr ⟨hn, rfl, rfl⟩, h1, h2⟩)
 by_cases hkd : 0 ≤ kind ∧ kind ≤ 3
 ·have HK : KW 126 #[.int .i64 kind] (.tuple #[.int .i64 (bitsK kind), .bool (sgnK kind)]) := fun w => l5Kind_any kind w
  have hB0 := bits_ne kind hkd
  by_cases hm : 0 ≤ mode ∧ mode ≤ 4
  ·have HY : KW 62 #[.int .i64 mode] (.bool true) := fun w => l2Way_any mode true (by simp [hm]) w
   by_cases hf : f = 0 ∨ f = 1
   ·obtain ⟨p, mx, one, inf, sg, nan, hF⟩ := fmt_of f hf
    by_cases ha : a < 2 * sg
    ·have HFi : KW 110 #[.int .i64 f, .int .u64 a] (.bool true) := fun w => l2Fits_yes hF a a0 ha w
     obtain ⟨x, hx⟩ := opd_ex hF a a0 a1
     obtain ⟨v1, v2, v3, v4, v5, v6⟩ := opd_vo hF hx
     have xc0 := v1.c0; have xc4 := v1.c4
     have HU := unp_det hF a a0 ha hx
     have HQ : ∀ (b : Bool), b = decide (3 ≤ x.c) → KR 118 #[.agg #[.int .i64 x.c, .int .i64 x.s, .int .i64 x.e, .int .u64 (((x.M : Nat) : Int))]] (.bool b) := fun b hb w => l3Quiet_any _ _ _ _ b hb w
     have fin : ∀ Z fl, ToIntO mode kind x Z fl → (Calls Tryz.prog 39 #[.int .i64 f, .int .i64 mode, .int .i64 kind, .int .u64 a] w fun e w' => e = .returned (.agg #[.int .u64 Z, .int .i64 fl]) ∧ Gb w w') → Calls Tryz.prog 39 #[.int .i64 f, .int .i64 mode, .int .i64 kind, .int .u64 a] w fun e w' => ∃ Z fl, ToIntIs f mode kind a Z fl ∧ e = .returned (.agg #[.int .u64 Z, .int .i64 fl]) ∧ Gb w w' := fun Z fl hp h => h.mono (fun e w' ⟨h1, h2⟩ => ⟨Z, fl, .inl ⟨p, mx, one, inf, sg, nan, x, hF, ha, hm, hkd, hx, hp⟩, h1, h2⟩)
     have HM : ∀ s, s = 0 ∨ s = 1 → Hid (∀ w, Calls Tryz.prog 128 #[.int .i64 kind, .int .i64 s] w fun e w' => ∃ b k c, BigN 20 w' (.slice (some ⟨b, 0, none⟩) k c) (mostK kind s) ∧ e = .returned (.slice (some ⟨b, 0, none⟩) k c) ∧ Gb w w') := fun s hs w => l5Most_any kind s hs w
     have HW : ∀ s, s = 0 ∨ s = 1 → Hid (∀ b k c w, BigN 20 w (.slice (some ⟨b, 0, none⟩) k c) (mostK kind s) → Calls Tryz.prog 127 #[.int .i64 s, .slice (some ⟨b, 0, none⟩) k c] w fun e w' => e = .returned (.int .u64 (wordK s (mostK kind s))) ∧ Gb w w') := fun s hs b k c w hB => l5Word_any s hs 20 (by omega) _ (mostK_lt kind s) b k c w hB
     by_cases cn : 3 ≤ x.c
     ·exact fin _ _ (.inl ⟨cn, rfl, rfl⟩) (sToInt_nan f mode kind a _ _ _ _ _ _ _ _ hB0 HK HY HFi HU (HQ true (by simp [cn])) (HM 0 (.inl rfl)) (HW 0 (.inl rfl)) w)
     ·have hQ := HQ false (by simp; omega)
      have hms := HM x.s v1.s01
      have hws := HW x.s v1.s01
      by_cases c2 : x.c = 2
      ·exact fin _ _ (.inr (.inr ⟨by omega, .inl c2, rfl, rfl⟩)) (sToInt_inf f mode kind a _ _ _ _ _ _ _ _ hB0 HK HY HFi HU hQ c2 hms hws w)
      ·by_cases far : 200 < x.e
       ·refine fin _ _ (.inr (.inr ⟨by omega, .inr ?_, rfl, rfl⟩)) (sToInt_far f mode kind a _ _ _ _ _ _ _ _ hB0 HK HY HFi HU hQ c2 (decide_eq_true far) hms hws w)
        have hc1 : x.c = 1 := by
         rcases (show x.c = 0 ∨ x.c = 1 by omega) with h | h
         ·obtain ⟨_, v, _, _, hz⟩ := word_is hF a0 hx (by omega)
          have := hz (by omega); omega
         ·exact h
        rw [wholeM_no (by omega)]
        have h1 := pow2_mono (show 64 ≤ x.e.toNat by omega)
        have h3 : (2 : Nat) ^ 64 = 18446744073709551616 := by decide
        have h2 : 1 * 2 ^ x.e.toNat ≤ x.M * 2 ^ x.e.toNat := Nat.mul_le_mul_right _ (v1.fin hc1).1
        have := mostK_lt kind x.s
        omega
       ·have HN : Hid (∀ w, Calls Tryz.prog 121 #[.agg #[.int .i64 x.c, .int .i64 x.s, .int .i64 x.e, .int .u64 (((x.M : Nat) : Int))]] w fun e w' => ∃ b k cc, BigN 2 w' (.slice (some ⟨b, 0, none⟩) k cc) x.M ∧ e = .returned (.agg #[.int .i64 x.s, .slice (some ⟨b, 0, none⟩) k cc, .int .i64 x.e, .bool false]) ∧ Gb w w') := fun w => l3Number_any _ _ _ x.M (by omega) w
        have HWh : Hid (∀ b k c w, BigN 2 w (.slice (some ⟨b, 0, none⟩) k c) x.M → Calls Tryz.prog 120 #[.int .i64 mode, .agg #[.int .i64 x.s, .slice (some ⟨b, 0, none⟩) k c, .int .i64 x.e, .bool false]] w fun e w' => ∃ b k c, BigN 70005 w' (.slice (some ⟨b, 0, none⟩) k c) (wholeM mode x) ∧ e = .returned (.tuple #[.slice (some ⟨b, 0, none⟩) k c, .bool (!wholeX x)]) ∧ Gb w w') := fun b k c w hB => l5Whole_any hF hx mode hm b k c w hB
        have HC : Hid (∀ v v' w, BigN 70005 w v (wholeM mode x) → BigN 20 w v' (mostK kind x.s) → Calls Tryz.prog 129 #[v, v'] w fun e w' => e = .returned (.int .i64 (cmpZ (wholeM mode x) (mostK kind x.s))) ∧ Gb w w') := fun v v' w ⟨n, h1, h2⟩ ⟨n', h1', h2'⟩ => l2Cmp_any h2 (by omega) h2' (by omega)
        have hX : wholeX x = true → x.c = 1 := by
         intro h
         rcases (show x.c = 0 ∨ x.c = 1 by omega) with hc | hc
         ·obtain ⟨_, v, _, _, hz⟩ := word_is hF a0 hx (by omega)
          rw [wholeX_no (x := x) (by have := hz (by omega); omega)] at h
          cases h
         ·exact hc
        by_cases hle : wholeM mode x ≤ mostK kind x.s
        ·have hd : decide (cmpZ (wholeM mode x) (mostK kind x.s) ≤ 0) = true := decide_eq_true (by unfold cmpZ; split <;> (try split) <;> omega)
         have HWw : Hid (∀ b k c w, BigN 70005 w (.slice (some ⟨b, 0, none⟩) k c) (wholeM mode x) → Calls Tryz.prog 127 #[.int .i64 x.s, .slice (some ⟨b, 0, none⟩) k c] w fun e w' => e = .returned (.int .u64 (wordK x.s (wholeM mode x))) ∧ Gb w w') := fun b k c w hB => l5Word_any x.s v1.s01 70005 (by omega) _ (by have := mostK_lt kind x.s; omega) b k c w hB
         cases hxx : wholeX x
         ·refine fin _ _ (.inr (.inl ⟨by omega, hle, rfl, ?_⟩)) (sToInt_okw f mode kind a _ _ _ _ _ _ _ _ _ x.M _ _ (by rw [hxx]; rfl) hB0 HK HY HFi HU hQ c2 (decide_eq_false far) HN HWh hms HC hd HWw w)
          unfold wfl; rw [hxx, if_neg (by simp)]
         ·refine fin _ _ (.inr (.inl ⟨by omega, hle, rfl, ?_⟩)) (sToInt_okx f mode kind a _ _ _ _ _ _ _ _ _ x.M _ _ (by rw [hxx]; rfl) hB0 HK HY HFi HU hQ c2 (decide_eq_false far) HN HWh hms HC hd HWw w)
          unfold wfl; rw [hxx, if_pos ⟨hX hxx, rfl⟩]
        ·have hd : decide (cmpZ (wholeM mode x) (mostK kind x.s) ≤ 0) = false := decide_eq_false (by unfold cmpZ; rw [if_neg (by omega), if_pos (by omega)]; omega)
         exact fin _ _ (.inr (.inr ⟨by omega, .inr (by omega), rfl, rfl⟩)) (sToInt_out f mode kind a _ _ _ _ _ _ _ _ _ x.M _ _ hB0 HK HY HFi HU hQ c2 (decide_eq_false far) HN HWh hms HC hd hws w)
    ·have hno : f = 0 ∧ 4294967296 ≤ a := by rcases hF with ⟨rfl, rfl, rfl, rfl, rfl, rfl, rfl⟩ | ⟨rfl, rfl, rfl, rfl, rfl, rfl, rfl⟩ <;> omega
     exact bad (.inr (.inr (.inr hno))) (sToInt_bad3 f mode kind a _ _ hB0 HK HY (fun w => l2Fits_no f a a0 (.inr hno) w) w)
   ·exact bad (.inr (.inr (.inl hf))) (sToInt_bad3 f mode kind a _ _ hB0 HK HY (fun w => l2Fits_no f a a0 (.inl hf) w) w)
  ·exact bad (.inl hm) (sToInt_bad2 f mode kind a _ _ hB0 HK (fun w => l2Way_any mode false (by simp; omega) w) w)
 ·have hb := bits_no kind hkd
  exact bad (.inr (.inl hkd)) (sToInt_bad1 f mode kind a (sgnK kind) (fun w => hb ▸ l5Kind_any kind w) w)
end Go.Proofs.YtnbbfeknbfohhaaGreatDoor
namespace Go.Proofs.YtnbbfeknbfohhaaGreatDoor
open Go.RowKit
theorem beq_dec (x y : Int) : (x == y) = decide (x = y) := by by_cases h : x = y <;> simp [h]
theorem fw_0 (a : Int) (a0 : 0 ≤ a) (a1 : a < 18446744073709551616) : ∃ s m : Int, (fitsK 0 a = true → s = signK 0 a ∧ m = ((magK 0 a : Nat) : Int)) ∧ ∀ w, Calls Tryz.prog 267 #[.agg #[.int .i32 (-2147483648), .int .i32 2147483647], .int .u64 a] w fun e w' => e = .returned (.tuple #[.int .i64 s, .int .u64 m, .bool (fitsK 0 a)]) ∧ Gr w w' := by
 obtain ⟨x, hx⟩ : ∃ x, IntKind.i32.wrap a = x := ⟨_, rfl⟩
 have hx' := hx
 rw [IntKind.wrap_i32] at hx'
 have hft : fitsK 0 a = decide (IntKind.u64.wrap x = a) := by
  unfold fitsK
  rw [IntKind.wrap_u64, decide_eq_decide]
  by_cases h : 9223372036854775808 ≤ a
  ·have e1 : signK 0 a = 1 := by unfold signK; rw [if_pos ⟨.inl rfl, h⟩]
   have e2 : magK 0 a = (18446744073709551616 - a).toNat := by unfold magK; rw [if_pos ⟨.inl rfl, h⟩]
   rw [e1, e2, show mostK 0 1 = 2147483648 by decide]; omega
  ·have e1 : signK 0 a = 0 := by unfold signK; rw [if_neg (fun k => h k.2)]
   have e2 : magK 0 a = a.toNat := by unfold magK; rw [if_neg (fun k => h k.2)]
   rw [e1, e2, show mostK 0 0 = 2147483647 by decide]; omega
 have hd := hft
 rw [hd]
 by_cases c : x < 0
 ·refine ⟨1, IntKind.u64.wrap (-a), fun h => ?_, fun w => fromWord_0n a x _ _ _ hx c rfl (beq_dec _ _) rfl w⟩
  have := of_decide_eq_true h
  rw [IntKind.wrap_u64] at this
  have hh : 9223372036854775808 ≤ a := by omega
  unfold signK magK
  rw [if_pos ⟨.inl rfl, hh⟩, if_pos ⟨.inl rfl, hh⟩, IntKind.wrap_u64]
  exact ⟨rfl, by omega⟩
 ·refine ⟨0, a, fun h => ?_, fun w => fromWord_0p a x _ _ hx (by omega) rfl (beq_dec _ _) w⟩
  have := of_decide_eq_true h
  rw [IntKind.wrap_u64] at this
  have hh : ¬ 9223372036854775808 ≤ a := by omega
  unfold signK magK
  rw [if_neg (fun k => hh k.2), if_neg (fun k => hh k.2)]
  exact ⟨rfl, by omega⟩
theorem fw_1 (a : Int) (a0 : 0 ≤ a) (a1 : a < 18446744073709551616) : ∃ s m : Int, (fitsK 1 a = true → s = signK 1 a ∧ m = ((magK 1 a : Nat) : Int)) ∧ ∀ w, Calls Tryz.prog 270 #[.agg #[.int .i64 (-9223372036854775808), .int .i64 9223372036854775807], .int .u64 a] w fun e w' => e = .returned (.tuple #[.int .i64 s, .int .u64 m, .bool (fitsK 1 a)]) ∧ Gr w w' := by
 obtain ⟨x, hx⟩ : ∃ x, IntKind.i64.wrap a = x := ⟨_, rfl⟩
 have hx' := hx
 rw [IntKind.wrap_i64] at hx'
 have hft : fitsK 1 a = decide (IntKind.u64.wrap x = a) := by
  unfold fitsK
  rw [IntKind.wrap_u64, decide_eq_decide]
  by_cases h : 9223372036854775808 ≤ a
  ·have e1 : signK 1 a = 1 := by unfold signK; rw [if_pos ⟨.inr rfl, h⟩]
   have e2 : magK 1 a = (18446744073709551616 - a).toNat := by unfold magK; rw [if_pos ⟨.inr rfl, h⟩]
   rw [e1, e2, show mostK 1 1 = 9223372036854775808 by decide]; omega
  ·have e1 : signK 1 a = 0 := by unfold signK; rw [if_neg (fun k => h k.2)]
   have e2 : magK 1 a = a.toNat := by unfold magK; rw [if_neg (fun k => h k.2)]
   rw [e1, e2, show mostK 1 0 = 9223372036854775807 by decide]; omega
 have hd := hft
 rw [hd]
 by_cases c : x < 0
 ·refine ⟨1, IntKind.u64.wrap (-a), fun h => ?_, fun w => fromWord_1n a x _ _ _ hx c rfl (beq_dec _ _) rfl w⟩
  have hh : 9223372036854775808 ≤ a := by omega
  unfold signK magK
  rw [if_pos ⟨.inr rfl, hh⟩, if_pos ⟨.inr rfl, hh⟩, IntKind.wrap_u64]
  exact ⟨rfl, by omega⟩
 ·refine ⟨0, a, fun h => ?_, fun w => fromWord_1p a x _ _ hx (by omega) rfl (beq_dec _ _) w⟩
  have hh : ¬ 9223372036854775808 ≤ a := by omega
  unfold signK magK
  rw [if_neg (fun k => hh k.2), if_neg (fun k => hh k.2)]
  exact ⟨rfl, by omega⟩
theorem fw_2 (a : Int) (a0 : 0 ≤ a) (a1 : a < 18446744073709551616) : ∃ s m : Int, (fitsK 2 a = true → s = signK 2 a ∧ m = ((magK 2 a : Nat) : Int)) ∧ ∀ w, Calls Tryz.prog 272 #[.agg #[.int .u32 0, .int .u32 4294967295], .int .u64 a] w fun e w' => e = .returned (.tuple #[.int .i64 s, .int .u64 m, .bool (fitsK 2 a)]) ∧ Gr w w' := by
 obtain ⟨x, hx⟩ : ∃ x, IntKind.u32.wrap a = x := ⟨_, rfl⟩
 have hx' := hx
 rw [IntKind.wrap_u32] at hx'
 have hsg : signK 2 a = 0 := by unfold signK; rw [if_neg (by omega)]
 have hmg : magK 2 a = a.toNat := by unfold magK; rw [if_neg (by omega)]
 have hft : fitsK 2 a = decide (IntKind.u64.wrap x = a) := by
  unfold fitsK
  rw [hsg, hmg]
  rw [IntKind.wrap_u64, decide_eq_decide, show mostK 2 0 = 4294967295 by decide]
  omega
 rw [hft, hsg, hmg]
 exact ⟨0, a, fun _ => ⟨rfl, by omega⟩, fun w => fromWord_2p a x _ _ hx (by omega) rfl (beq_dec _ _) w⟩
theorem fw_3 (a : Int) (a0 : 0 ≤ a) (a1 : a < 18446744073709551616) : ∃ s m : Int, (fitsK 3 a = true → s = signK 3 a ∧ m = ((magK 3 a : Nat) : Int)) ∧ ∀ w, Calls Tryz.prog 274 #[.agg #[.int .u64 0, .int .u64 18446744073709551615], .int .u64 a] w fun e w' => e = .returned (.tuple #[.int .i64 s, .int .u64 m, .bool (fitsK 3 a)]) ∧ Gr w w' := by
 have hsg : signK 3 a = 0 := by unfold signK; rw [if_neg (by omega)]
 have hmg : magK 3 a = a.toNat := by unfold magK; rw [if_neg (by omega)]
 have hft : fitsK 3 a = true := by
  unfold fitsK
  rw [hsg, hmg]
  rw [show mostK 3 0 = 18446744073709551615 by decide]
  exact decide_eq_true (by omega)
 rw [hft, hsg, hmg]
 exact ⟨0, a, fun _ => ⟨rfl, by omega⟩, fun w => fromWord_3p a a0 (by rw [IntKind.wrap_u64]; omega) w⟩
theorem implFromInt_any (f mode kind a : Int) (a0 : 0 ≤ a) (a1 : a < 18446744073709551616) (w : World) (hw : Fm w) :
  Calls Tryz.prog 97 #[.int .i64 f, .int .i64 mode, .int .i64 kind, .int .u64 a] w fun e w' => ∃ Z fl, FromIs f mode kind a Z fl ∧ e = .returned (.agg #[.int .u64 Z, .int .i64 fl]) ∧ Gr w w' := by
 have fin : ∀ Z, FromIs f mode kind a Z 1 → (Calls Tryz.prog 97 #[.int .i64 f, .int .i64 mode, .int .i64 kind, .int .u64 a] w fun e w' => e = .returned (.agg #[.int .u64 Z, .int .i64 1]) ∧ Gr w w') → Calls Tryz.prog 97 #[.int .i64 f, .int .i64 mode, .int .i64 kind, .int .u64 a] w fun e w' => ∃ Z fl, FromIs f mode kind a Z fl ∧ e = .returned (.agg #[.int .u64 Z, .int .i64 fl]) ∧ Gr w w' := fun Z hp h => h.mono (fun e w' ⟨h1, h2⟩ => ⟨Z, 1, hp, h1, h2⟩)
 have kn : ∃ (kv : Value) (kb : Bool), ∀ w, Calls Tryz.prog 71 #[.int .i64 kind] w fun e w' => e = .returned (.tuple #[kv, .bool kb]) ∧ Gr w w' := by
  by_cases hk : 0 ≤ kind ∧ kind ≤ 3
  ·rcases (show kind = 0 ∨ kind = 1 ∨ kind = 2 ∨ kind = 3 by omega) with rfl | rfl | rfl | rfl
   ·exact ⟨_, _, kindOf_0⟩
   ·exact ⟨_, _, kindOf_1⟩
   ·exact ⟨_, _, kindOf_2⟩
   ·exact ⟨_, _, kindOf_3⟩
  ·exact ⟨_, _, fun w => kindOf_no kind hk w⟩
 obtain ⟨kv, kb, HKn⟩ := kn
 by_cases hf : f = 0 ∨ f = 1
 ·obtain ⟨p, mx, one, inf, sg, nan, hF⟩ := fmt_of f hf
  obtain ⟨mn, fb, sp, hM, hmn, hfb⟩ := hF.m
  have HN : KR 176 #[.agg #[.int .i64 p, .int .i64 mn, .int .i64 mx]] (.agg #[.int .u64 nan, .int .i64 1]) := fun w => invalid_any hM w
  by_cases hm : 0 ≤ mode ∧ mode ≤ 4
  ·obtain ⟨k, hk⟩ := rule_of mode hm.1 hm.2
   have HS : Hid (∀ w', Gr w w' → Calls Tryz.prog 70 #[.int .i64 f, .int .i64 mode] w' fun x w'' => x = .returned (.tuple #[.agg #[.int .i64 p, .int .i64 mn, .int .i64 mx, .int .i64 mode, .func (.func k) #[] #[]], .bool true]) ∧ Gr w' w'') := fun w'' hg' => settingOf_yes hF hM mode k (fun w => ruleOf_yes mode k hk w) (hw.gr hg')
   have bad : fitsK kind a = false → FromIs f mode kind a nan 1 := fun h => .inr (.inl ⟨p, mx, one, inf, sg, nan, hF, .inr h, rfl, rfl⟩)
   have HR : ∀ s m, s = signK kind a → m = ((magK kind a : Nat) : Int) → Hid (∀ w, Calls Tryz.prog 186 #[.agg #[.int .i64 p, .int .i64 mn, .int .i64 mx, .int .i64 mode, .func (.func k) #[] #[]], .int .i64 s, .int .i64 0, .agg #[.int .u64 0, .int .u64 m], .bool false] w fun e w' => ∃ z fl, PackIs p (1 - mx) mx one inf sg nan mode (intO kind a) z fl ∧ e = .returned (.agg #[.int .u64 z, .int .i64 fl]) ∧ Gr w w') := by
    intro s m hs hm' w
    subst hs hm'
    have hlt := magK_lt kind a a0 a1
    rcases Nat.eq_zero_or_pos (magK kind a) with h0 | h0
    ·have hs0 : signK kind a = 0 := by
      unfold magK at h0
      unfold signK
      by_cases c : (kind = 0 ∨ kind = 1) ∧ 9223372036854775808 ≤ a
      ·rw [if_pos c] at h0; exfalso; omega
      ·rw [if_neg c]
     rw [h0, hs0]
     refine (round_Z hM mode k 0 0 false (by omega) (by omega) (sw 0 sg 0) (fun w => zero_any hM 0 _ (.inl ⟨rfl, by simp [sw]⟩) w) w).mono ?_
     rintro e w' ⟨rfl, hg⟩
     refine ⟨_, _, ?_, rfl, hg⟩
     unfold intO; rw [if_pos h0]; exact .inl ⟨rfl, rfl, rfl⟩
    ·have := round_num hM mode mode k hk (signK kind a) (signK_01 kind a) 0 (by omega) (by omega) (magK kind a) h0 (by omega) false (fun h => by cases h) w
     rw [show magK kind a / 18446744073709551616 = 0 by omega, show magK kind a % 18446744073709551616 = magK kind a by omega] at this
     refine this.mono ?_
     rintro e w' ⟨z, fl, hr, rfl, hg⟩
     rw [hmn] at hr
     refine ⟨_, _, ?_, rfl, hg⟩
     unfold intO; rw [if_neg (by omega)]
     exact .inr (.inl ⟨rfl, z, hr, by rw [sv_sw]⟩)
   have ok : fitsK kind a = true → (∃ s m, (s = signK kind a ∧ m = ((magK kind a : Nat) : Int)) ∧ Calls Tryz.prog 97 #[.int .i64 f, .int .i64 mode, .int .i64 kind, .int .u64 a] w fun e w' => ∃ z fl, PackIs p (1 - mx) mx one inf sg nan mode (intO kind a) z fl ∧ e = .returned (.agg #[.int .u64 z, .int .i64 fl]) ∧ Gr w w') → Calls Tryz.prog 97 #[.int .i64 f, .int .i64 mode, .int .i64 kind, .int .u64 a] w fun e w' => ∃ Z fl, FromIs f mode kind a Z fl ∧ e = .returned (.agg #[.int .u64 Z, .int .i64 fl]) ∧ Gr w w' := fun hq ⟨s, m, _, h⟩ => h.mono (fun e w' ⟨z, fl, h0, h1, h2⟩ => ⟨z, fl, .inl ⟨p, mx, one, inf, sg, nan, hF, hm, hq, h0⟩, h1, h2⟩)
   by_cases hkd : 0 ≤ kind ∧ kind ≤ 3
   ·rcases (show kind = 0 ∨ kind = 1 ∨ kind = 2 ∨ kind = 3 by omega) with rfl | rfl | rfl | rfl
    ·obtain ⟨s, m, he, HW⟩ := fw_0 a a0 a1
     cases hq : fitsK 0 a <;> rw [hq] at HW he
     ·exact fin nan (bad hq) (from_bad0 p mn mx mode nan f mode 0 a s m k HS kindOf_0 HW HN)
     ·exact ok hq ⟨s, m, he rfl, from_ok0 p mn mx mode f mode 0 a s m k HS kindOf_0 HW _ (HR s m (he rfl).1 (he rfl).2)⟩
    ·obtain ⟨s, m, he, HW⟩ := fw_1 a a0 a1
     cases hq : fitsK 1 a <;> rw [hq] at HW he
     ·exact fin nan (bad hq) (from_bad1 p mn mx mode nan f mode 1 a s m k HS kindOf_1 HW HN)
     ·exact ok hq ⟨s, m, he rfl, from_ok1 p mn mx mode f mode 1 a s m k HS kindOf_1 HW _ (HR s m (he rfl).1 (he rfl).2)⟩
    ·obtain ⟨s, m, he, HW⟩ := fw_2 a a0 a1
     cases hq : fitsK 2 a <;> rw [hq] at HW he
     ·exact fin nan (bad hq) (from_bad2 p mn mx mode nan f mode 2 a s m k HS kindOf_2 HW HN)
     ·exact ok hq ⟨s, m, he rfl, from_ok2 p mn mx mode f mode 2 a s m k HS kindOf_2 HW _ (HR s m (he rfl).1 (he rfl).2)⟩
    ·obtain ⟨s, m, he, HW⟩ := fw_3 a a0 a1
     cases hq : fitsK 3 a <;> rw [hq] at HW he
     ·exact fin nan (bad hq) (from_bad3 p mn mx mode nan f mode 3 a s m k HS kindOf_3 HW HN)
     ·exact ok hq ⟨s, m, he rfl, from_ok3 p mn mx mode f mode 3 a s m k HS kindOf_3 HW _ (HR s m (he rfl).1 (he rfl).2)⟩
   ·exact fin nan (bad (by unfold fitsK; exact decide_eq_false (fun h => hkd h.1))) (from_no2 p mn mx mode nan f mode kind a k HS (fun w => kindOf_no kind hkd w) HN)
  ·exact fin nan (.inr (.inl ⟨p, mx, one, inf, sg, nan, hF, .inl hm, rfl, rfl⟩)) (from_no1 p mn mx mode nan f mode kind a kv kb (fun w'' hg' => settingOf_bad hF hM mode (fun w => ruleOf_no mode (by omega) w) (hw.gr hg')) HKn HN)
 ·exact fin _ (.inr (.inr ⟨hf, rfl, rfl⟩)) (from_no1 _ _ _ _ _ f mode kind a kv kb (fun w'' hg' => settingOf_none f mode hf (hw.gr hg')) HKn (fun w => invalid_any m64 w))
end Go.Proofs.YtnbbfeknbfohhaaGreatDoor
