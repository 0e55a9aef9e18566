/- The answers of Sub, of both sides. -/
import Derived.Test.YtpfmfbadeebeeaaDoorL3Z
import Derived.Test.YtpfmfbadeebeeaaDoorL3WS
import Derived.Test.YtpfmfbadeebeeaaDoorL3LD
set_option linter.unusedVariables false
set_option linter.unusedSimpArgs false
namespace Go.Proofs.YtpfmfbadeebeeaaDoor
open Go.RowKit

theorem difference_sum (p mn mx md : Int) (k : Nat) (x y : Opd) (hx : VO x) (hy : VO y) (h2 : max x.c y.c < 3) (w : World) :
    Calls Tryd.prog 63 #[.agg #[.int .i64 p, .int .i64 mn, .int .i64 mx, .int .i64 md, .func (.func k) #[] #[]], .agg #[.int .i64 x.s, .int .i64 x.e, .int .i64 x.c, .int .u64 (((x.M / 18446744073709551616 : Nat) : Int)), .int .u64 (((x.M % 18446744073709551616 : Nat) : Int)), .bool false], .agg #[.int .i64 y.s, .int .i64 y.e, .int .i64 y.c, .int .u64 (((y.M / 18446744073709551616 : Nat) : Int)), .int .u64 (((y.M % 18446744073709551616 : Nat) : Int)), .bool false]] w fun e w' => ∃ os oe oc oh ol ot, SameV (sumO md x (turnO y)) os oe oc oh ol ot ∧ e = .returned (.agg #[.int .i64 os, .int .i64 oe, .int .i64 oc, .int .u64 oh, .int .u64 ol, .bool ot]) ∧ Gr w w' :=
  difference_any p mn mx md k _ _ _ _ _ _ _ _ _ _ _ _ (1 - y.s) (by rcases hy.s01 with e | e <;> rw [e] <;> decide +kernel) _ (fun w => sum_any p mn mx md k x (turnO y) hx hy.turn h2 w) w


theorem combine_difference_any (p mn mx md : Int) (k : Nat) (x y : Opd) (hx : VO x) (hy : VO y) (w : World) :
    Calls Tryd.prog 81 #[.agg #[.int .i64 p, .int .i64 mn, .int .i64 mx, .int .i64 md, .func (.func k) #[] #[]], .func (.func 63) #[] #[], .agg #[.int .i64 x.s, .int .i64 x.e, .int .i64 x.c, .int .u64 (((x.M / 18446744073709551616 : Nat) : Int)), .int .u64 (((x.M % 18446744073709551616 : Nat) : Int)), .bool false], .agg #[.int .i64 y.s, .int .i64 y.e, .int .i64 y.c, .int .u64 (((y.M / 18446744073709551616 : Nat) : Int)), .int .u64 (((y.M % 18446744073709551616 : Nat) : Int)), .bool false]] w fun e w' => ∃ os oe oc oh ol ot, SameV (sumO md x (turnO y)) os oe oc oh ol ot ∧ e = .returned (.agg #[.int .i64 os, .int .i64 oe, .int .i64 oc, .int .u64 oh, .int .u64 ol, .bool ot]) ∧ Gr w w' := by
  by_cases h : 3 ≤ max x.c y.c
  · refine (combine_nan p mn mx md k _ _ _ _ _ _ _ _ _ _ _ _ 63 _ rfl h w).mono ?_
    rintro r w' ⟨rfl, hg⟩
    have := hx.c4
    have := hy.c4
    rw [sumO_nan md x (turnO y) h]
    exact ⟨_, _, _, _, _, _, nan_same _ h (show max x.c y.c ≤ 4 by omega), rfl, hg⟩
  · exact combine_difference p mn mx md k _ _ _ _ _ _ _ _ _ _ _ _ _ rfl (by omega) _ (fun w => difference_sum p mn mx md k x y hx hy (by omega) w) w


def subO (mode : Int) (x y : Opd) : Opd := sumO mode x (turnO y)

theorem implSub_any (f mode a b : Int) (a0 : 0 ≤ a) (a1 : a < 18446744073709551616) (b0 : 0 ≤ b) (b1 : b < 18446744073709551616) (w : World) (hw : Fm w) :
    Calls Tryd.prog 23 #[.int .i64 f, .int .i64 mode, .int .u64 a, .int .u64 b] w fun e w' => ∃ Z fl, OpR subO f mode a b Z fl ∧ e = .returned (.agg #[.int .u64 Z, .int .i64 fl]) ∧ Gr w w' := by
  refine implSub_of f mode a b (OpR subO f mode a b) (fun w' hg => ?_)
  have hw' := hw.gr hg
  by_cases hf : f = 0 ∨ f = 1
  · obtain ⟨p, mx, one, inf, sg, nan, hF⟩ := fmt_of f hf
    obtain ⟨mn, fb, sp, hM, hmn, hfb⟩ := hF.m
    by_cases hm : 0 ≤ mode ∧ mode ≤ 4
    · obtain ⟨k, hk⟩ := rule_of mode hm.1 hm.2
      obtain ⟨x, hx, HA⟩ := opd_is hF hM a a0 a1
      obtain ⟨y, hy, HB⟩ := opd_is hF hM b b0 b1
      obtain ⟨v1, v2, v3, v4, v5, v6⟩ := opd_vo hF hx
      obtain ⟨u1, u2, u3, u4, u5, u6⟩ := opd_vo hF hy
      refine (calc_ok p mn mx mode f k 63 a b _ _ _ _ _ _ _ _ _ _ _ _ (fun w'' hg' => settingOf_yes hF hM mode k (fun w => ruleOf_yes mode k hk w) (hw'.gr hg')) HA HB (SameV (subO mode x y)) (fun w => combine_difference_any p mn mx mode k x y v1 u1 w) (PackIs p mn mx one inf sg nan mode (subO mode x y)) (fun os oe oc oh ol ot w hq => pack_any hM mode k hk _ os oe oc oh ol ot hq w)).mono ?_
      rintro e w'' ⟨Z, fl, hp, rfl, hg'⟩
      rw [hmn] at hp
      exact ⟨_, _, .inl ⟨p, mx, one, inf, sg, nan, x, y, hF, hm, hx, hy, hp⟩, rfl, hg'⟩
    · refine (calc_no p mn mx mode nan f mode a b (fun w'' hg' => settingOf_bad hF hM mode (fun w => ruleOf_no mode (by omega) w) (hw'.gr hg')) (fun w => invalid_any hM w) 63).mono ?_
      rintro e w'' ⟨rfl, hg'⟩
      exact ⟨_, _, .inr (.inl ⟨p, mx, one, inf, sg, nan, hF, by omega, rfl, rfl⟩), rfl, hg'⟩
  · refine (calc_no _ _ _ _ _ f mode a b (fun w'' hg' => settingOf_none f mode hf (hw'.gr hg')) (fun w => invalid_any m64 w) 63).mono ?_
    rintro e w'' ⟨rfl, hg'⟩
    exact ⟨_, _, .inr (.inr ⟨hf, rfl, rfl⟩), rfl, hg'⟩

/-- The word with its sign turned. -/
theorem turned_opd {f p mx one inf sg nan : Int} (h : IsFmt f p mx one inf sg nan) (b z : Int) (b0 : 0 ≤ b) (hb : b < 2 * sg) (hz : b < sg ∧ z = b + sg ∨ sg ≤ b ∧ z = b - sg) {y : Opd} (hy : OpdIs p mx one inf sg nan b y) : 0 ≤ z ∧ z < 2 * sg ∧ OpdIs p mx one inf sg nan z (turnO y) := by
  have hbd := h.bounds
  rcases hy with ⟨_, v, hs, hc⟩ | ⟨c, _⟩
  · refine ⟨by omega, by omega, .inl ⟨by omega, v, ?_, hc⟩⟩
    unfold turnO
    dsimp only
    rcases hs with ⟨s0, rfl, s1⟩ | ⟨s0, rfl, s1⟩
    · rw [s0]; exact .inr ⟨by omega, by omega, by omega⟩
    · rw [s0]; exact .inl ⟨by omega, by omega, by omega⟩
  · exfalso; omega

theorem specSub_ok {f p mx one inf sg nan : Int} (h : IsFmt f p mx one inf sg nan) (mode a b : Int) (hm : 0 ≤ mode ∧ mode ≤ 4) (a0 : 0 ≤ a) (a1 : a < 18446744073709551616) (b0 : 0 ≤ b) (b1 : b < 18446744073709551616) {x y : Opd} (hx : OpdIs p mx one inf sg nan a x) (hy : OpdIs p mx one inf sg nan b y) (w : World) :
    Calls Tryd.prog 22 #[.int .i64 f, .int .i64 mode, .int .u64 a, .int .u64 b] w fun e w' => ∃ Z fl, PackIs p (1 - mx) mx one inf sg nan mode (subO mode x y) Z fl ∧ e = .returned (.agg #[.int .u64 Z, .int .i64 fl]) ∧ Gb w w' := by
  have hbd := h.bounds
  by_cases hfit : a < 2 * sg ∧ b < 2 * sg
  · obtain ⟨fa, fb'⟩ := hfit
    obtain ⟨z, hz⟩ : ∃ z, b < sg ∧ z = b + sg ∨ sg ≤ b ∧ z = b - sg := by
      by_cases c : b < sg
      · exact ⟨_, .inl ⟨c, rfl⟩⟩
      · exact ⟨_, .inr ⟨by omega, rfl⟩⟩
    obtain ⟨z0, z1, hz2⟩ := turned_opd h b z b0 fb' hz hy
    exact sSub_ok f mode a b z (fun w => l3Fits_yes h mode a b hm.1 hm.2 a0 fa b0 fb' w) (fun w => l3Turned_any h b z b0 fb' hz w) _ (fun w => specAdd_ok h mode a z hm a0 a1 z0 (by omega) hx hz2 w) w
  · refine (sSub_bad f mode a b (fun w => l3Fits_no f mode a b a0 a1 b0 b1 (nofit_of h a1 b1 (by omega)) w) nan 1 (fun w => l2Bad_fmt h w) w).mono ?_
    rintro e w' ⟨rfl, hg⟩
    refine ⟨_, _, ?_, rfl, hg⟩
    obtain ⟨v1, _⟩ := opd_vo h hx
    obtain ⟨u1, _⟩ := opd_vo h hy
    have xc4 := v1.c4
    have yc4 := u1.c4
    have : max x.c (turnO y).c = 4 := by
      show max x.c y.c = 4
      rcases (show 2 * sg ≤ a ∨ 2 * sg ≤ b by omega) with c | c
      · have := opd_wide h hx c; subst this; dsimp only at *; omega
      · have := opd_wide h hy c; subst this; dsimp only at *; omega
    unfold subO
    rw [sumO_nan mode x (turnO y) (by omega)]
    exact bad_nan this


theorem specSub_any (f mode a b : Int) (a0 : 0 ≤ a) (a1 : a < 18446744073709551616) (b0 : 0 ≤ b) (b1 : b < 18446744073709551616) (w : World) :
    Calls Tryd.prog 22 #[.int .i64 f, .int .i64 mode, .int .u64 a, .int .u64 b] w fun e w' => ∃ Z fl, OpR subO f mode a b Z fl ∧ e = .returned (.agg #[.int .u64 Z, .int .i64 fl]) ∧ Gb w w' := by
  by_cases hf : f = 0 ∨ f = 1
  · obtain ⟨p, mx, one, inf, sg, nan, hF⟩ := fmt_of f hf
    by_cases hm : 0 ≤ mode ∧ mode ≤ 4
    · obtain ⟨x, hx⟩ := opd_ex hF a a0 a1
      obtain ⟨y, hy⟩ := opd_ex hF b b0 b1
      refine (specSub_ok hF mode a b hm a0 a1 b0 b1 hx hy w).mono ?_
      rintro e w' ⟨Z, fl, hp, rfl, hg⟩
      exact ⟨_, _, .inl ⟨p, mx, one, inf, sg, nan, x, y, hF, hm, hx, hy, hp⟩, rfl, hg⟩
    · refine (sSub_bad f mode a b (fun w => l3Fits_no f mode a b a0 a1 b0 b1 (.inl (by omega)) w) nan 1 (fun w => l2Bad_fmt hF w) w).mono ?_
      rintro e w' ⟨rfl, hg⟩
      exact ⟨_, _, .inr (.inl ⟨p, mx, one, inf, sg, nan, hF, by omega, rfl, rfl⟩), rfl, hg⟩
  · refine (sSub_bad f mode a b (fun w => l3Fits_no f mode a b a0 a1 b0 b1 (.inr (.inl hf)) w) _ 1 (fun w => l2Bad_no f hf w) w).mono ?_
    rintro e w' ⟨rfl, hg⟩
    exact ⟨_, _, .inr (.inr ⟨hf, rfl, rfl⟩), rfl, hg⟩


theorem sub_same (f mode a b : Int) (a0 : 0 ≤ a) (a1 : a < 18446744073709551616) (b0 : 0 ≤ b) (b1 : b < 18446744073709551616) :
    ∃ Z fl : Int, OpR subO f mode a b Z fl ∧ (∀ w, Calls Tryd.prog 22 #[.int .i64 f, .int .i64 mode, .int .u64 a, .int .u64 b] w fun e w' => e = .returned (.agg #[.int .u64 Z, .int .i64 fl]) ∧ Gb w w') ∧
      (∀ w, Fm w → Calls Tryd.prog 23 #[.int .i64 f, .int .i64 mode, .int .u64 a, .int .u64 b] w fun e w' => e = .returned (.agg #[.int .u64 Z, .int .i64 fl]) ∧ Gr w w') :=
  both_of subO 22 23 (fun mode x y hx hy _ _ _ _ _ _ => sumO_c mode x (turnO y) hx hy.turn) f mode a b a0 a1 b0 b1 (specSub_any f mode a b a0 a1 b0 b1) (implSub_any f mode a b a0 a1 b0 b1)


set_option maxRecDepth 100000 in
set_option maxHeartbeats 2000000 in
theorem lawSub (f mode a b : Int) (f0 : -9223372036854775808 ≤ f) (f1 : f < 9223372036854775808) (m0 : -9223372036854775808 ≤ mode) (m1 : mode < 9223372036854775808) (a0 : 0 ≤ a) (a1 : a < 18446744073709551616) (b0 : 0 ≤ b) (b1 : b < 18446744073709551616) {w : World} (hw : Fm w) :
    Calls Tryd.prog 8 #[.int .i64 f, .int .i64 mode, .int .u64 a, .int .u64 b] w fun e w' => e = .returned (.bool true) ∧ Gb w w' := by
  obtain ⟨Z, fl, _, HA, HB⟩ := sub_same f mode a b a0 a1 b0 b1
  have HS : Hid (∀ w, Calls Tryd.prog 22 #[.int .i64 f, .int .i64 mode, .int .u64 a, .int .u64 b] w fun x w' => x = .returned (.agg #[.int .u64 Z, .int .i64 fl]) ∧ Gb w w') := HA
  have HI : Hid (∀ w', Gb w w' → Calls Tryd.prog 23 #[.int .i64 f, .int .i64 mode, .int .u64 a, .int .u64 b] w' fun x w'' => x = .returned (.agg #[.int .u64 Z, .int .i64 fl]) ∧ Gr w' w'') := fun w' hg => HB w' (hw.gb hg)
  clear HA HB hw
  go_enter Tryd.func8, Tryd.ntmps8
  go_wp2_with (first
    | (go_at_call 22; refine (HS.out _).mono ?_; rintro x w2 ⟨rfl, hg_w2⟩)
    | (go_at_call 23; refine (HI.out _ Gb.g).mono ?_; rintro x w3 ⟨rfl, hg_w3⟩; have r0 : w3.cell? ⟨w2.heap.size, 0, none⟩ = some (.int .u64 Z) := hg_w3.c; have rA0 := (fun ob => cell_alloc ob r0); have r1 : w3.cell? ⟨w2.heap.size, 1, none⟩ = some (.int .i64 fl) := hg_w3.c; have rA1 := (fun ob => cell_alloc ob r1))
    | (go_at_call 17; refine (eqResult_same Z fl _).mono ?_; rintro x w4 ⟨rfl, hg_w4⟩))
  go_returns
  exact ⟨rfl, Gb.g⟩
end Go.Proofs.YtpfmfbadeebeeaaDoor
