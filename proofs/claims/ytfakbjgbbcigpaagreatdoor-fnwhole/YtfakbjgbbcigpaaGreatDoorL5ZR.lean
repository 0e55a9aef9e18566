/- RoundInt: both sides. -/
import Derived.Test.YtfakbjgbbcigpaaGreatDoorG4
import Derived.Test.YtfakbjgbbcigpaaGreatDoorL5WS
import Derived.Test.YtfakbjgbbcigpaaGreatDoorG1
import Derived.Test.YtfakbjgbbcigpaaGreatDoorL4NC
import Derived.Test.YtfakbjgbbcigpaaGreatDoorL3N
set_option linter.unusedVariables false
set_option linter.unusedSimpArgs false
namespace Go.Proofs.YtfakbjgbbcigpaaGreatDoor
open Go.RowKit

/-- The flag of a number that is not whole. -/
def wfl (x : Opd) : Int := if x.c = 1 ∧ wholeX x = true then 16 else 0
def RIntO (p mx one inf sg nan mode : Int) (x : Opd) (ex : Bool) (Z fl : Int) : Prop :=
  3 ≤ x.c ∧ Z = nan ∧ fl = (if x.c = 4 then 1 else 0) ∨ x.c ≤ 2 ∧ PackIs p (1 - mx) mx one inf sg nan mode (wholeO mode x) Z 0 ∧ fl = (if ex then wfl x else 0)
/-- What RoundInt answers. -/
def RIntIs (f mode a : Int) (ex : Bool) (Z fl : Int) : Prop :=
  (∃ p mx one inf sg nan x, IsFmt f p mx one inf sg nan ∧ (0 ≤ mode ∧ mode ≤ 4) ∧ OpdIs p mx one inf sg nan a x ∧ RIntO p mx one inf sg nan mode x ex Z fl) ∨
  (∃ p mx one inf sg nan, IsFmt f p mx one inf sg nan ∧ (mode < 0 ∨ 4 < mode) ∧ Z = nan ∧ fl = 1) ∨
  (¬ (f = 0 ∨ f = 1) ∧ Z = 9221120237041090560 ∧ fl = 1)

theorem RIntIs.one {f mode a : Int} {ex : Bool} {Z fl Z' fl' : Int} (h : RIntIs f mode a ex Z fl) (h' : RIntIs f mode a ex Z' fl') : Z = Z' ∧ fl = fl' := by
  rcases h with ⟨p, mx, one, inf, sg, nan, x, hF, hm, hx, hp⟩ | ⟨p, mx, one, inf, sg, nan, hF, hm, rfl, rfl⟩ | ⟨hF, rfl, rfl⟩ <;>
  rcases h' with ⟨p', mx', one', inf', sg', nan', x', hF', hm', hx', hp'⟩ | ⟨p', mx', one', inf', sg', nan', hF', hm', rfl, rfl⟩ | ⟨hF', rfl, rfl⟩
  · obtain ⟨rfl, rfl, rfl, rfl, rfl, rfl⟩ := hF.one hF'
    obtain rfl := hx.one hF hx'
    rcases hp with ⟨c, rfl, rfl⟩ | ⟨c, hp, rfl⟩ <;> rcases hp' with ⟨c', rfl, rfl⟩ | ⟨c', hp', rfl⟩
    · exact ⟨rfl, rfl⟩
    · exfalso; omega
    · exfalso; omega
    · exact ⟨(PackIs.one hp hp').1, rfl⟩
  · exfalso; omega
  · exact absurd hF.yes.symm (by simp [hF'])
  · exfalso; omega
  · obtain ⟨rfl, rfl, rfl, rfl, rfl, rfl⟩ := hF.one hF'
    exact ⟨rfl, rfl⟩
  · exact absurd hF.yes.symm (by simp [hF'])
  · exact absurd hF'.yes.symm (by simp [hF])
  · exact absurd hF'.yes.symm (by simp [hF])
  · exact ⟨rfl, rfl⟩

theorem wholeO_self {mode : Int} {x : Opd} (h : ¬ (x.c = 1 ∧ x.e < 0)) : wholeO mode x = x := by unfold wholeO; rw [if_neg h]
theorem wfl_self {f p mx one inf sg nan a : Int} (hF : IsFmt f p mx one inf sg nan) {x : Opd} (h : ¬ (x.c = 1 ∧ x.e < 0)) : wfl x = 0 := by
  unfold wfl
  by_cases c : x.c = 1
  · rw [wholeX_no (x := x) (by omega), if_neg (by simp)]
  · rw [if_neg (fun h => c h.1)]
theorem wfl_01 (x : Opd) : wfl x = 0 ∨ wfl x = 16 := by unfold wfl; split <;> simp
theorem or_wfl (x : Opd) : bits .or .i64 0 (wfl x) = wfl x := by rcases wfl_01 x with h | h <;> rw [h] <;> decide +kernel

/-- A whole number's word, whatever the way of rounding. -/
theorem whole_pack {f p mx one inf sg nan a : Int} (hF : IsFmt f p mx one inf sg nan) {x : Opd} (hx : OpdIs p mx one inf sg nan a x) (mode : Int) (c : x.c = 1) (e : x.e < 0) :
    ((wholeM mode x : Nat) : Int) ≤ one ∧ (wholeM mode x = 0 → PackIs p (1 - mx) mx one inf sg nan mode (wholeO mode x) (sw x.s sg 0) 0) ∧
    (0 < wholeM mode x → ∃ z, (∀ md, RoundIs p (1 - mx) mx one inf md x.s (wholeM mode x) 0 false z 0) ∧ PackIs p (1 - mx) mx one inf sg nan mode (wholeO mode x) (sw x.s sg z) 0) := by
  obtain ⟨P, hP, hP63, hone⟩ := hF.pow
  have hone' : one = ((2 ^ P : Nat) : Int) := by rw [cast_pow2]; exact hone
  have hM : x.M < 2 ^ (P + 1) := by
    have hb := hF.bounds
    rcases hx with ⟨_, hu⟩ | ⟨_, rfl⟩
    · obtain ⟨h1, h2, h3, h4, h5, h6, h7, h8, h9⟩ := unpack_bounds hF hu
      rw [Nat.pow_succ]; omega
    · cases c
  have hl := wholeM_lt (mode := mode) e hM
  have hw : wholeO mode x = if wholeM mode x = 0 then ⟨0, x.s, 0, 0⟩ else ⟨1, x.s, 0, wholeM mode x⟩ := by unfold wholeO; rw [if_pos ⟨c, e⟩]
  refine ⟨by omega, fun h0 => ?_, fun h0 => ?_⟩
  · rw [hw, if_pos h0]; exact .inl ⟨rfl, rfl, rfl⟩
  · obtain ⟨z, z0, z1, hz⟩ := whole_exact hF x.s (wholeM mode x) h0 (by omega)
    refine ⟨z, hz, ?_⟩
    rw [hw, if_neg (by omega)]
    exact .inr (.inl ⟨rfl, z, hz mode, rfl⟩)

theorem same_nan' (m : Int) (h3 : 3 ≤ m) (h4 : m ≤ 4) : SameV ⟨m, 0, 0, 0⟩ 0 0 m 0 0 false := ⟨0, by simp, by simp, Same.self ⟨m, 0, 0, 0⟩ (fun c => by dsimp only at c; omega), by omega, by omega, fun c => by omega⟩

set_option maxHeartbeats 2000000 in
theorem calcWhole_any {f p mx one inf sg nan a : Int} (hF : IsFmt f p mx one inf sg nan) (mode : Int) (hm : 0 ≤ mode ∧ mode ≤ 4) (a0 : 0 ≤ a) (a1 : a < 18446744073709551616) {x : Opd} (hx : OpdIs p mx one inf sg nan a x) {w : World} (hw : Fm w) :
    Calls Tryz.prog 54 #[.int .i64 f, .int .i64 mode, .func (.func 38) #[] #[], .int .u64 a, .int .u64 a] w fun e w' => ∃ z fl, RIntO p mx one inf sg nan mode x true z fl ∧ e = .returned (.agg #[.int .u64 z, .int .i64 fl]) ∧ Gr w w' := by
  obtain ⟨mn, fb, sp, hM, hmn, hfb⟩ := hF.m
  obtain ⟨k, hk⟩ := rule_of mode hm.1 hm.2
  obtain ⟨x', hx', HA⟩ := opd_is hF hM a a0 a1
  obtain rfl := hx.one hF hx'
  obtain ⟨v1, v2, v3, v4, v5, v6⟩ := opd_vo hF hx
  have hb := hF.bounds
  have xc0 := v1.c0; have xc4 := v1.c4
  refine calc_okf p mn mx mode f k 38 a a _ _ _ _ _ _ _ _ _ _ _ _ (fun w'' hg' => settingOf_yes hF hM mode k (fun w => ruleOf_yes mode k hk w) (hw.gr hg')) HA HA
    (fun os oe oc oh ol ot of => 3 ≤ x.c ∧ SameV ⟨x.c, 0, 0, 0⟩ os oe oc oh ol ot ∧ of = 0 ∨ x.c ≤ 2 ∧ ¬ (x.c = 1 ∧ x.e < 0) ∧ SameV x os oe oc oh ol ot ∧ of = 0 ∨ (x.c = 1 ∧ x.e < 0) ∧ os = x.s ∧ oe = 0 ∧ oc = 1 ∧ oh = 0 ∧ ol = ((wholeM mode x : Nat) : Int) ∧ ot = false ∧ of = wfl x)
    (fun w => ?_) _ (fun os oe oc oh ol ot of w hq => ?_)
  · by_cases cn : 3 ≤ x.c
    · refine (combine_nan p mn mx mode k _ _ _ _ _ _ _ _ _ _ _ _ _ x.c (by omega) cn w).mono ?_
      rintro e w' ⟨rfl, hg⟩
      exact ⟨_, _, _, _, _, _, _, .inl ⟨cn, same_nan' _ cn xc4, rfl⟩, rfl, hg⟩
    · refine combine_toWhole p mn mx mode k _ _ _ _ _ _ _ _ _ _ _ _ x.c (by omega) (by omega) _ (fun w => ?_) w
      by_cases c : x.c = 1
      · by_cases e : x.e < 0
        · have hl := (whole_pack hF hx mode c e).1
          have HR : ∀ b : Bool, decide (0 < cutHalf x.M x.e 0 false) = b → Hid (∀ w, Calls Tryz.prog 73 #[.func (.func k) #[] #[], .int .i64 (0 - x.e), .int .i64 x.s, .agg #[.int .u64 ((x.M / 18446744073709551616 : Nat) : Int), .int .u64 ((x.M % 18446744073709551616 : Nat) : Int)], .bool false] w fun r w' => r = .returned (.tuple #[.int .u64 ((wholeM mode x : Nat) : Int), .bool b]) ∧ Gr w w') := fun b hb' w => hb' ▸ roundAt_any mode k hk x.s v1.s01 x.M (by omega) x.e 0 (0 - x.e) false rfl (by omega) (by omega) (fun _ => rfl) (by
              have h1 := (chosen_le mode x.s (cutLo x.M x.e 0) (cutHalf x.M x.e 0 false)).1
              unfold wholeM at hl; omega) w
          have hn : wrap64 (-x.e) = 0 - x.e := by
            rw [show -x.e = 0 - x.e by omega]
            unfold wrap64
            omega
          have ce : decide (0 ≤ x.e) = false := by simp; omega
          by_cases hh : 0 < cutHalf x.M x.e 0 false
          · refine (toWhole_x p mn mx mode k _ _ _ _ _ _ _ _ _ _ _ _ (0 - x.e) _ c ce hn (HR true (by simp [hh])) w).mono ?_
            rintro r w' ⟨rfl, hg⟩
            exact ⟨_, _, _, _, _, _, _, .inr (.inr ⟨⟨c, e⟩, rfl, rfl, rfl, rfl, rfl, rfl, by unfold wfl wholeX; rw [if_pos ⟨c, by simp [hh]⟩]⟩), rfl, hg⟩
          · refine (toWhole_w p mn mx mode k _ _ _ _ _ _ _ _ _ _ _ _ (0 - x.e) _ c ce hn (HR false (by simp [hh])) w).mono ?_
            rintro r w' ⟨rfl, hg⟩
            exact ⟨_, _, _, _, _, _, _, .inr (.inr ⟨⟨c, e⟩, rfl, rfl, rfl, rfl, rfl, rfl, by unfold wfl wholeX; rw [if_neg (by simp [hh])]⟩), rfl, hg⟩
        · refine (toWhole_e p mn mx mode k _ _ _ _ _ _ _ _ _ _ _ _ c (by simp; omega) w).mono ?_
          rintro r w' ⟨rfl, hg⟩
          exact ⟨_, _, _, _, _, _, _, .inr (.inl ⟨by omega, fun h => e h.2, c ▸ v1.same, rfl⟩), rfl, hg⟩
      · refine (toWhole_c p mn mx mode k _ _ _ _ _ _ _ _ _ _ _ _ (by simp [c]) w).mono ?_
        rintro r w' ⟨rfl, hg⟩
        exact ⟨_, _, _, _, _, _, _, .inr (.inl ⟨by omega, fun h => c h.1, v1.same, rfl⟩), rfl, hg⟩
  · rcases hq with ⟨cn, hs, rfl⟩ | ⟨c2, hn, hs, rfl⟩ | ⟨⟨c, e⟩, rfl, rfl, rfl, rfl, rfl, rfl, rfl⟩
    · refine (pack_any hM mode k hk _ os oe oc oh ol ot hs w).mono ?_
      rintro r w' ⟨Z, fl, hp, rfl, hg⟩
      refine ⟨Z, fl, .inl ⟨cn, ?_⟩, rfl, hg⟩
      rcases hp with ⟨d, _⟩ | ⟨d, _⟩ | ⟨d, _⟩ | ⟨d, rfl, rfl⟩ | ⟨d, rfl, rfl⟩ <;> dsimp only at d
      · omega
      · omega
      · omega
      · exact ⟨rfl, by rw [if_neg (by omega)]⟩
      · exact ⟨rfl, by rw [if_pos d]⟩
    · refine (pack_any hM mode k hk _ os oe oc oh ol ot hs w).mono ?_
      rintro r w' ⟨Z, fl, hp, rfl, hg⟩
      rw [hmn] at hp
      obtain ⟨rfl, rfl⟩ := PackIs.one hp (pack_own hF a0 hx c2 mode)
      refine ⟨_, _, .inr ⟨c2, ?_, ?_⟩, rfl, hg⟩
      · rw [wholeO_self hn]; exact hp
      · rw [wfl_self (a := Z) hF hn]; rfl
    · obtain ⟨hl, hz0, hz1⟩ := whole_pack hF hx mode c e
      refine (pack_1f p mn mx mode k x.s 0 0 ((wholeM mode x : Nat) : Int) false (wfl x) (fun z fl => PackIs p (1 - mx) mx one inf sg nan mode (wholeO mode x) z 0 ∧ fl = 0) (fun _ => wfl x) (fun z fl h => by rw [h.2]; exact or_wfl x) (fun w => ?_) w).mono ?_
      · rcases Nat.eq_zero_or_pos (wholeM mode x) with h0 | h0
        · rw [h0]
          refine (round_Z hM mode k x.s 0 false (by omega) (by omega) (sw x.s sg 0) (fun w => zero_any hM x.s _ ?_ w) w).mono ?_
          · rcases v1.s01 with h | h <;> rw [h]
            · exact .inl ⟨rfl, by simp [sw]⟩
            · exact .inr ⟨rfl, by simp [sw]⟩
          · rintro r w' ⟨rfl, hg⟩
            exact ⟨_, _, ⟨hz0 h0, rfl⟩, rfl, hg⟩
        · obtain ⟨z, hr, hp⟩ := hz1 h0
          have := round_num hM mode mode k hk x.s v1.s01 0 (by omega) (by omega) (wholeM mode x) h0 (by omega) false (fun h => by cases h) w
          rw [show wholeM mode x / 18446744073709551616 = 0 by omega, show wholeM mode x % 18446744073709551616 = wholeM mode x by omega] at this
          refine this.mono ?_
          rintro r w' ⟨z', fl, hr', rfl, hg⟩
          rw [hmn] at hr'
          obtain ⟨rfl, rfl⟩ := RoundIs.one hr' (hr mode)
          exact ⟨_, _, ⟨by rw [sv_sw]; exact hp, rfl⟩, rfl, hg⟩
      · rintro r w' ⟨z, fl, ⟨hp, rfl⟩, rfl, hg⟩
        exact ⟨_, _, .inr ⟨by omega, hp, by rw [if_pos rfl]⟩, rfl, hg⟩

theorem andNot16 {fl : Int} (h : fl = 0 ∨ fl = 1 ∨ fl = 16) : bits .andNot .i64 fl 16 = if fl = 16 then 0 else fl := by rcases h with rfl | rfl | rfl <;> decide +kernel

theorem implRoundInt_any (f mode a : Int) (ex : Bool) (a0 : 0 ≤ a) (a1 : a < 18446744073709551616) (w : World) (hw : Fm w) :
    Calls Tryz.prog 15 #[.int .i64 f, .int .i64 mode, .int .u64 a, .bool ex] w fun e w' => ∃ Z fl, RIntIs f mode a ex Z fl ∧ e = .returned (.agg #[.int .u64 Z, .int .i64 fl]) ∧ Gr w w' := by
  have bad : ∀ (nan : Int), RIntIs f mode a ex nan 1 → (∀ w', Gr w w' → Calls Tryz.prog 54 #[.int .i64 f, .int .i64 mode, .func (.func 38) #[] #[], .int .u64 a, .int .u64 a] w' fun e w'' => e = .returned (.agg #[.int .u64 nan, .int .i64 1]) ∧ Gr w' w'') → Calls Tryz.prog 15 #[.int .i64 f, .int .i64 mode, .int .u64 a, .bool ex] w fun e w' => ∃ Z fl, RIntIs f mode a ex Z fl ∧ e = .returned (.agg #[.int .u64 Z, .int .i64 fl]) ∧ Gr w w' := by
    intro nan hR HC
    have HC' : Hid (∀ w', Gr w w' → Calls Tryz.prog 54 #[.int .i64 f, .int .i64 mode, .func (.func 38) #[] #[], .int .u64 a, .int .u64 a] w' fun e w'' => ∃ z fl, (z = nan ∧ fl = 1) ∧ e = .returned (.agg #[.int .u64 z, .int .i64 fl]) ∧ Gr w' w'') := fun w' hg => (HC w' hg).mono (fun e w'' ⟨h1, h2⟩ => ⟨nan, 1, ⟨rfl, rfl⟩, h1, h2⟩)
    cases ex
    · refine (rint_n f mode a _ (fun _ => 1) (fun z fl h => by rw [h.2]; decide +kernel) HC').mono ?_
      rintro e w' ⟨z, fl, ⟨rfl, rfl⟩, rfl, hg⟩
      exact ⟨_, _, hR, rfl, hg⟩
    · refine (rint_x f mode a _ HC').mono ?_
      rintro e w' ⟨z, fl, ⟨rfl, rfl⟩, rfl, hg⟩
      exact ⟨_, _, hR, rfl, hg⟩
  by_cases hf : f = 0 ∨ f = 1
  · obtain ⟨p, mx, one, inf, sg, nan, hF⟩ := fmt_of f hf
    obtain ⟨mn, fb, sp, hM, hmn, hfb⟩ := hF.m
    by_cases hm : 0 ≤ mode ∧ mode ≤ 4
    · obtain ⟨x, hx⟩ := opd_ex hF a a0 a1
      have HC : Hid (∀ w', Gr w w' → Calls Tryz.prog 54 #[.int .i64 f, .int .i64 mode, .func (.func 38) #[] #[], .int .u64 a, .int .u64 a] w' fun e w'' => ∃ z fl, RIntO p mx one inf sg nan mode x true z fl ∧ e = .returned (.agg #[.int .u64 z, .int .i64 fl]) ∧ Gr w' w'') := fun w' hg => calcWhole_any hF mode hm a0 a1 hx (hw.gr hg)
      have hfl : ∀ z fl, RIntO p mx one inf sg nan mode x true z fl → fl = 0 ∨ fl = 1 ∨ fl = 16 := by
        rintro z fl (⟨_, _, rfl⟩ | ⟨_, _, rfl⟩)
        · split <;> simp
        · rw [if_pos rfl]; rcases wfl_01 x with h | h <;> simp [h]
      cases ex
      · refine (rint_n f mode a _ (fun fl => if fl = 16 then 0 else fl) (fun z fl h => andNot16 (hfl z fl h)) HC).mono ?_
        rintro e w' ⟨z, fl, h, rfl, hg⟩
        refine ⟨_, _, .inl ⟨p, mx, one, inf, sg, nan, x, hF, hm, hx, ?_⟩, rfl, hg⟩
        rcases h with ⟨c, rfl, rfl⟩ | ⟨c, hp, rfl⟩
        · exact .inl ⟨c, rfl, by split <;> simp⟩
        · refine .inr ⟨c, hp, ?_⟩
          rw [if_pos rfl]
          rcases wfl_01 x with h | h <;> simp [h]
      · refine (rint_x f mode a _ HC).mono ?_
        rintro e w' ⟨z, fl, h, rfl, hg⟩
        exact ⟨_, _, .inl ⟨p, mx, one, inf, sg, nan, x, hF, hm, hx, h⟩, rfl, hg⟩
    · exact bad nan (.inr (.inl ⟨p, mx, one, inf, sg, nan, hF, by omega, rfl, rfl⟩)) (fun w' hg => calc_no p mn mx mode nan f mode a a (fun w'' hg' => settingOf_bad hF hM mode (fun w => ruleOf_no mode (by omega) w) (hw.gr (hg.trans hg'))) (fun w => invalid_any hM w) 38)
  · exact bad _ (.inr (.inr ⟨hf, rfl, rfl⟩)) (fun w' hg => calc_no _ _ _ _ _ f mode a a (fun w'' hg' => settingOf_none f mode hf (hw.gr (hg.trans hg'))) (fun w => invalid_any m64 w) 38)

theorem l5Whole_any {f p mx one inf sg nan a : Int} (hF : IsFmt f p mx one inf sg nan) {x : Opd} (hx : OpdIs p mx one inf sg nan a x) (mode : Int) (hm : 0 ≤ mode ∧ mode ≤ 4) (b k c : Nat) (w : World) (hB : BigN 2 w (.slice (some ⟨b, 0, none⟩) k c) x.M) :
    Calls Tryz.prog 52 #[.int .i64 mode, .agg #[.int .i64 x.s, .slice (some ⟨b, 0, none⟩) k c, .int .i64 x.e, .bool false]] w fun e w' => ∃ b k c, BigN 70005 w' (.slice (some ⟨b, 0, none⟩) k c) (wholeM mode x) ∧ e = .returned (.tuple #[.slice (some ⟨b, 0, none⟩) k c, .bool (!wholeX x)]) ∧ Gb w w' := by
  obtain ⟨v1, v2, v3, v4, v5, v6⟩ := opd_vo hF hx
  refine l5Whole_walk mode x.s x.e x.M (cutLo x.M x.e 0) (wholeM mode x) ((cutHalf x.M x.e 0 false : Nat) : Int) (!wholeX x) ?_ _ w (fun w' hg => ?_) (fun v' w' hb => ?_) b k c rfl
  · unfold wholeX
    rcases Nat.eq_zero_or_pos (cutHalf x.M x.e 0 false) with h | h
    · rw [h]; rfl
    · rw [decide_eq_true h]; simp; omega
  · obtain ⟨n, hn, hb⟩ := BigN.gb hB hg
    refine (l2Cut_any hb (by omega) x.s x.e 0 false (by omega) (by omega) (by omega) (by omega)).mono ?_
    rintro r w'' ⟨v', k', rfl, hb', hk', hg'⟩
    obtain ⟨b', c', rfl, _⟩ := hb'.shape
    exact ⟨b', k', c', ⟨k', by omega, hb'⟩, rfl, hg'⟩
  · obtain ⟨n, hn, hb⟩ := hb
    exact big_slice ((l2Choose_any hb (by omega) mode x.s (cutHalf x.M x.e 0 false) hm.1 hm.2 v1.s01 (cutHalf_le _ _ _ _)).mono (fun e w' ⟨v, k, c1, c2, c3, c4⟩ => ⟨v, k, c1, c2, by omega, c4⟩))

set_option maxHeartbeats 2000000 in
theorem specRoundInt_any (f mode a : Int) (ex : Bool) (a0 : 0 ≤ a) (a1 : a < 18446744073709551616) (w : World) :
    Calls Tryz.prog 16 #[.int .i64 f, .int .i64 mode, .int .u64 a, .bool ex] w fun e w' => ∃ Z fl, RIntIs f mode a ex Z fl ∧ e = .returned (.agg #[.int .u64 Z, .int .i64 fl]) ∧ Gb w w' := by
  by_cases hf : f = 0 ∨ f = 1
  · obtain ⟨p, mx, one, inf, sg, nan, hF⟩ := fmt_of f hf
    by_cases hm : 0 ≤ mode ∧ mode ≤ 4
    · obtain ⟨x, hx⟩ := opd_ex hF a a0 a1
      obtain ⟨v1, v2, v3, v4, v5, v6⟩ := opd_vo hF hx
      have xc0 := v1.c0; have xc4 := v1.c4
      have fin : ∀ Z fl, RIntO p mx one inf sg nan mode x ex Z fl → (Calls Tryz.prog 16 #[.int .i64 f, .int .i64 mode, .int .u64 a, .bool ex] w fun e w' => e = .returned (.agg #[.int .u64 Z, .int .i64 fl]) ∧ Gb w w') → Calls Tryz.prog 16 #[.int .i64 f, .int .i64 mode, .int .u64 a, .bool ex] w fun e w' => ∃ Z fl, RIntIs f mode a ex Z fl ∧ e = .returned (.agg #[.int .u64 Z, .int .i64 fl]) ∧ Gb w w' := fun Z fl hp h => h.mono (fun e w' ⟨h1, h2⟩ => ⟨Z, fl, .inl ⟨p, mx, one, inf, sg, nan, x, hF, hm, hx, hp⟩, h1, h2⟩)
      by_cases fa : a < 2 * sg
      · have HFi : Hid (∀ w, Calls Tryz.prog 55 #[.int .i64 f, .int .i64 mode, .int .u64 a, .int .u64 a] w fun e w' => e = .returned (.bool true) ∧ w = w') := fun w => l3Fits_yes hF mode a a hm.1 hm.2 a0 fa a0 fa w
        have HU := unp_det hF a a0 fa hx
        have HQ : ∀ (b : Bool), b = decide (3 ≤ x.c) → Hid (∀ w, Calls Tryz.prog 45 #[.agg #[.int .i64 x.c, .int .i64 x.s, .int .i64 x.e, .int .u64 (((x.M : Nat) : Int))]] w fun e w' => e = .returned (.bool b) ∧ Gr w w') := fun b hb w => l3Quiet_any _ _ _ _ b hb w
        by_cases cn : 3 ≤ x.c
        · refine fin nan (if decide (x.c = 4) then 1 else 0) (.inl ⟨cn, rfl, by simp⟩) (sRint_nan f mode a _ _ _ _ nan _ (decide (x.c = 4)) ex HFi HU (HQ true (by simp [cn])) (bq _ _) (fun w => l3Nan_any hF _ _ rfl w) w)
        · have hQ := HQ false (by simp; omega)
          by_cases hn : x.c = 1 ∧ x.e < 0
          · obtain ⟨c, e⟩ := hn
            obtain ⟨hl, hz0, hz1⟩ := whole_pack hF hx mode c e
            have hb := hF.bounds
            have HN : Hid (∀ w, Calls Tryz.prog 48 #[.agg #[.int .i64 x.c, .int .i64 x.s, .int .i64 x.e, .int .u64 (((x.M : Nat) : Int))]] w fun e w' => ∃ b k cc, BigN 2 w' (.slice (some ⟨b, 0, none⟩) k cc) x.M ∧ e = .returned (.agg #[.int .i64 x.s, .slice (some ⟨b, 0, none⟩) k cc, .int .i64 x.e, .bool false]) ∧ Gb w w') := fun w => l3Number_any _ _ _ x.M (by omega) w
            have HW : Hid (∀ b k c w, BigN 2 w (.slice (some ⟨b, 0, none⟩) k c) x.M → Calls Tryz.prog 52 #[.int .i64 mode, .agg #[.int .i64 x.s, .slice (some ⟨b, 0, none⟩) k c, .int .i64 x.e, .bool false]] w fun e w' => ∃ b k c, BigN 70005 w' (.slice (some ⟨b, 0, none⟩) k c) (wholeM mode x) ∧ e = .returned (.tuple #[.slice (some ⟨b, 0, none⟩) k c, .bool (!wholeX x)]) ∧ Gb w w') := fun b k c w hB => l5Whole_any hF hx mode hm b k c w hB
            have HZ : Hid (∀ w, Calls Tryz.prog 29 #[.int .i64 f, .int .i64 x.s] w fun e w' => e = .returned (.agg #[.int .u64 (sw x.s sg 0), .int .i64 0]) ∧ Gr w w') := fun w => l3Zero_any hF x.s v1.s01 w
            have ce : decide (0 ≤ x.e) = false := by simp; omega
            have hfl : ∀ b : Bool, wholeX x = b → wfl x = if b then 16 else 0 := by
              intro b hb'
              unfold wfl
              rw [hb']
              cases b
              · rw [if_neg (by simp)]; rfl
              · rw [if_pos ⟨c, rfl⟩]; rfl
            rcases Nat.eq_zero_or_pos (wholeM mode x) with h0 | h0
            · have hp := hz0 h0
              cases ex
              · exact fin _ 0 (.inr ⟨by omega, hp, rfl⟩) (sRint_0n f mode a _ _ _ _ _ x.M (wholeM mode x) false (!wholeX x) rfl h0 HFi HU hQ c ce HN HW HZ w)
              · cases hb' : wholeX x
                · refine fin _ 0 (.inr ⟨by omega, hp, by rw [if_pos rfl, hfl _ hb']; rfl⟩) (sRint_0w f mode a _ _ _ _ _ x.M (wholeM mode x) true (!wholeX x) ⟨rfl, by rw [hb']; rfl⟩ h0 HFi HU hQ c ce HN HW HZ w)
                · refine fin _ 16 (.inr ⟨by omega, hp, by rw [if_pos rfl, hfl _ hb']; rfl⟩) (sRint_0x f mode a _ _ _ _ _ x.M (wholeM mode x) true (!wholeX x) ⟨rfl, by rw [hb']; rfl⟩ h0 HFi HU hQ c ce HN HW HZ w)
            · obtain ⟨z, hr, hp⟩ := hz1 h0
              have HR : Hid (∀ v w, BigN 70005 w v (wholeM mode x) → Calls Tryz.prog 30 #[.int .i64 f, .int .i64 0, .agg #[.int .i64 x.s, v, .int .i64 0, .bool false]] w fun e w' => e = .returned (.agg #[.int .u64 (sw x.s sg z), .int .i64 0]) ∧ Gb w w') := fun v w hB => (round_at hF 0 (by omega) (by omega) ⟨1, x.s, 0, wholeM mode x⟩ rfl v1.s01 h0 (by dsimp only; omega) (by dsimp only; omega) 70005 (by omega) v w hB).mono (by
                  rintro e w' ⟨Z, fl, hpk, rfl, hg⟩
                  rcases hpk with ⟨d, _⟩ | ⟨d, z', hz', rfl⟩ | ⟨d, _⟩ | ⟨d, _⟩ | ⟨d, _⟩ <;> dsimp only at d
                  · omega
                  · obtain ⟨rfl, rfl⟩ := RoundIs.one hz' (hr 0)
                    exact ⟨rfl, hg⟩
                  · omega
                  · omega
                  · omega)
              cases ex
              · exact fin _ 0 (.inr ⟨by omega, hp, rfl⟩) (sRint_1n f mode a _ _ _ _ _ _ x.M (wholeM mode x) false (!wholeX x) rfl h0 HFi HU hQ c ce HN HW HZ HR w)
              · cases hb' : wholeX x
                · refine fin _ 0 (.inr ⟨by omega, hp, by rw [if_pos rfl, hfl _ hb']; rfl⟩) (sRint_1w f mode a _ _ _ _ _ _ x.M (wholeM mode x) true (!wholeX x) ⟨rfl, by rw [hb']; rfl⟩ h0 HFi HU hQ c ce HN HW HZ HR w)
                · refine fin _ 16 (.inr ⟨by omega, hp, by rw [if_pos rfl, hfl _ hb']; rfl⟩) (sRint_1x f mode a _ _ _ _ _ _ x.M (wholeM mode x) true (!wholeX x) ⟨rfl, by rw [hb']; rfl⟩ h0 HFi HU hQ c ce HN HW HZ HR w)
          · have hp : RIntO p mx one inf sg nan mode x ex a 0 := .inr ⟨by omega, by rw [wholeO_self hn]; exact pack_own hF a0 hx (by omega) mode, by rw [wfl_self (a := a) hF hn]; split <;> rfl⟩
            by_cases c : x.c = 1
            · exact fin a 0 hp (sRint_e f mode a _ _ _ _ ex HFi HU hQ c (by simp; omega) w)
            · exact fin a 0 hp (sRint_c f mode a _ _ _ _ ex HFi HU hQ c w)
      · refine fin nan 1 ?_ (sRint_bad f mode a nan 1 ex (fun w => l3Fits_no f mode a a a0 a1 a0 a1 (nofit_of hF a1 a1 (by omega)) w) (fun w => l2Bad_fmt hF w) w)
        have := opd_wide hF hx (by omega); subst this
        exact .inl ⟨by decide, rfl, rfl⟩
    · refine (sRint_bad f mode a nan 1 ex (fun w => l3Fits_no f mode a a a0 a1 a0 a1 (.inl (by omega)) w) (fun w => l2Bad_fmt hF w) w).mono ?_
      rintro e w' ⟨rfl, hg⟩
      exact ⟨_, _, .inr (.inl ⟨p, mx, one, inf, sg, nan, hF, by omega, rfl, rfl⟩), rfl, hg⟩
  · refine (sRint_bad f mode a _ 1 ex (fun w => l3Fits_no f mode a a a0 a1 a0 a1 (.inr (.inl hf)) w) (fun w => l2Bad_no f hf w) w).mono ?_
    rintro e w' ⟨rfl, hg⟩
    exact ⟨_, _, .inr (.inr ⟨hf, rfl, rfl⟩), rfl, hg⟩

theorem rint_ex (f mode a : Int) (ex : Bool) (a0 : 0 ≤ a) (a1 : a < 18446744073709551616) : ∃ Z fl, RIntIs f mode a ex Z fl := by
  by_cases hf : f = 0 ∨ f = 1
  · obtain ⟨p, mx, one, inf, sg, nan, hF⟩ := fmt_of f hf
    by_cases hm : 0 ≤ mode ∧ mode ≤ 4
    · obtain ⟨x, hx⟩ := opd_ex hF a a0 a1
      have v1 := (opd_vo hF hx).1
      have := v1.c0
      have fin : ∀ Z fl, RIntO p mx one inf sg nan mode x ex Z fl → ∃ Z fl, RIntIs f mode a ex Z fl := fun Z fl h => ⟨Z, fl, .inl ⟨p, mx, one, inf, sg, nan, x, hF, hm, hx, h⟩⟩
      by_cases cn : 3 ≤ x.c
      · exact fin _ _ (.inl ⟨cn, rfl, rfl⟩)
      · by_cases hn : x.c = 1 ∧ x.e < 0
        · obtain ⟨_, h0, h1⟩ := whole_pack hF hx mode hn.1 hn.2
          rcases Nat.eq_zero_or_pos (wholeM mode x) with h | h
          · exact fin _ _ (.inr ⟨by omega, h0 h, rfl⟩)
          · obtain ⟨z, _, hp⟩ := h1 h
            exact fin _ _ (.inr ⟨by omega, hp, rfl⟩)
        · exact fin a _ (.inr ⟨by omega, by rw [wholeO_self hn]; exact pack_own hF a0 hx (by omega) mode, rfl⟩)
    · exact ⟨_, _, .inr (.inl ⟨p, mx, one, inf, sg, nan, hF, by omega, rfl, rfl⟩)⟩
  · exact ⟨_, _, .inr (.inr ⟨hf, rfl, rfl⟩)⟩

theorem rint_same (f mode a : Int) (ex : Bool) (a0 : 0 ≤ a) (a1 : a < 18446744073709551616) :
    ∃ Z fl : Int, RIntIs f mode a ex Z fl ∧ (∀ w, Calls Tryz.prog 16 #[.int .i64 f, .int .i64 mode, .int .u64 a, .bool ex] w fun e w' => e = .returned (.agg #[.int .u64 Z, .int .i64 fl]) ∧ Gb w w') ∧
      (∀ w, Fm w → Calls Tryz.prog 15 #[.int .i64 f, .int .i64 mode, .int .u64 a, .bool ex] w fun e w' => e = .returned (.agg #[.int .u64 Z, .int .i64 fl]) ∧ Gr w w') :=
  both_by (fun _ _ _ _ h h' => RIntIs.one h h') (rint_ex f mode a ex a0 a1) (specRoundInt_any f mode a ex a0 a1) (implRoundInt_any f mode a ex a0 a1)

end Go.Proofs.YtfakbjgbbcigpaaGreatDoor
