/- Convert: both sides. -/
import Derived.Test.YtfakbjgbbcigpaaGreatDoorL5VW
import Derived.Test.YtfakbjgbbcigpaaGreatDoorC0
set_option linter.unusedVariables false
set_option linter.unusedSimpArgs false
namespace Go.Proofs.YtfakbjgbbcigpaaGreatDoor
open Go.RowKit

/-- What Convert answers. -/
def ConvIs (f t mode a Z fl : Int) : Prop :=
  (∃ p mx one inf sg nan p' mx' one' inf' sg' nan' x, IsFmt t p mx one inf sg nan ∧ (0 ≤ mode ∧ mode ≤ 4) ∧ IsFmt f p' mx' one' inf' sg' nan' ∧ OpdIs p' mx' one' inf' sg' nan' a x ∧ PackIs p (1 - mx) mx one inf sg nan mode x Z fl) ∨
  (∃ p mx one inf sg nan, IsFmt t p mx one inf sg nan ∧ (¬ (0 ≤ mode ∧ mode ≤ 4) ∨ ¬ (f = 0 ∨ f = 1)) ∧ Z = nan ∧ fl = 1) ∨
  (¬ (t = 0 ∨ t = 1) ∧ Z = 9221120237041090560 ∧ fl = 1)

theorem ConvIs.one {f t mode a Z fl Z' fl' : Int} (h : ConvIs f t mode a Z fl) (h' : ConvIs f t mode a Z' fl') : Z = Z' ∧ fl = fl' := by
  rcases h with ⟨p, mx, one, inf, sg, nan, q, mq, oq, iq, sq, nq, x, hF, hm, hG, hx, hp⟩ | ⟨p, mx, one, inf, sg, nan, hF, hm, rfl, rfl⟩ | ⟨hF, rfl, rfl⟩ <;>
  rcases h' with ⟨p', mx', one', inf', sg', nan', q', mq', oq', iq', sq', nq', x', hF', hm', hG', hx', hp'⟩ | ⟨p', mx', one', inf', sg', nan', hF', hm', rfl, rfl⟩ | ⟨hF', rfl, rfl⟩
  · obtain ⟨rfl, rfl, rfl, rfl, rfl, rfl⟩ := hF.one hF'
    obtain ⟨rfl, rfl, rfl, rfl, rfl, rfl⟩ := hG.one hG'
    obtain rfl := hx.one hG hx'
    exact PackIs.one hp hp'
  · have := hG.yes; rcases hm' with h | h
    · exact absurd hm h
    · exact absurd (of_decide_eq_true this.symm) h
  · exact absurd hF.yes.symm (by simp [hF'])
  · have := hG'.yes; rcases hm with h | h
    · exact absurd hm' h
    · exact absurd (of_decide_eq_true this.symm) h
  · obtain ⟨rfl, rfl, rfl, rfl, rfl, rfl⟩ := hF.one hF'
    exact ⟨rfl, rfl⟩
  · exact absurd hF.yes.symm (by simp [hF'])
  · exact absurd hF'.yes.symm (by simp [hF])
  · exact absurd hF'.yes.symm (by simp [hF])
  · exact ⟨rfl, rfl⟩

theorem implConvert_any (f t mode a : Int) (a0 : 0 ≤ a) (a1 : a < 18446744073709551616) (w : World) (hw : Fm w) :
    Calls Tryz.prog 10 #[.int .i64 f, .int .i64 t, .int .i64 mode, .int .u64 a] w fun e w' => ∃ Z fl, ConvIs f t mode a Z fl ∧ e = .returned (.agg #[.int .u64 Z, .int .i64 fl]) ∧ Gr w w' := by
  have FO : (∃ p' mx' one' inf' sg' nan' mn' fb' sp', IsFmt f p' mx' one' inf' sg' nan' ∧ IsM p' mn' mx' fb' sp' one' inf' sg' nan') ∨ ¬ (f = 0 ∨ f = 1) := by
    by_cases hf : f = 0 ∨ f = 1
    · obtain ⟨p, mx, one, inf, sg, nan, hF⟩ := fmt_of f hf
      obtain ⟨mn, fb, sp, hM, _, _⟩ := hF.m
      exact .inl ⟨_, _, _, _, _, _, _, _, _, hF, hM⟩
    · exact .inr hf
  by_cases ht : t = 0 ∨ t = 1
  · obtain ⟨p, mx, one, inf, sg, nan, hF⟩ := fmt_of t ht
    obtain ⟨mn, fb, sp, hM, hmn, hfb⟩ := hF.m
    by_cases hm : 0 ≤ mode ∧ mode ≤ 4
    · obtain ⟨k, hk⟩ := rule_of mode hm.1 hm.2
      rcases FO with ⟨p', mx', one', inf', sg', nan', mn', fb', sp', hG, hM'⟩ | hf
      · obtain ⟨x, hx, HA⟩ := opd_is hG hM' a a0 a1
        obtain ⟨v1, v2, v3, v4, v5, v6⟩ := opd_vo hG hx
        refine (conv_ok p mn mx mode f t a p' mn' mx' _ _ _ _ _ _ k (fun w'' hg' => settingOf_yes hF hM mode k (fun w => ruleOf_yes mode k hk w) (hw.gr hg')) (fun w'' hg' => formatOf_yes hG hM' (hw.gr hg')) HA (PackIs p mn mx one inf sg nan mode x) (fun w => pack_any hM mode k hk x _ _ _ _ _ _ v1.same w)).mono ?_
        rintro e w'' ⟨Z, fl, hp, rfl, hg'⟩
        rw [hmn] at hp
        exact ⟨_, _, .inl ⟨p, mx, one, inf, sg, nan, _, _, _, _, _, _, x, hF, hm, hG, hx, hp⟩, rfl, hg'⟩
      · refine (conv_no3 p mn mx mode nan f t mode a 0 0 0 k (fun w'' hg' => settingOf_yes hF hM mode k (fun w => ruleOf_yes mode k hk w) (hw.gr hg')) (fun w'' hg' => formatOf_no f hf w'') (fun w => invalid_any hM w)).mono ?_
        rintro e w'' ⟨rfl, hg'⟩
        exact ⟨_, _, .inr (.inl ⟨p, mx, one, inf, sg, nan, hF, .inr hf, rfl, rfl⟩), rfl, hg'⟩
    · rcases FO with ⟨p', mx', one', inf', sg', nan', mn', fb', sp', hG, hM'⟩ | hf
      · refine (conv_no2 p mn mx mode nan f t mode a p' mn' mx' 0 (fun w'' hg' => settingOf_bad hF hM mode (fun w => ruleOf_no mode (by omega) w) (hw.gr hg')) (fun w'' hg' => formatOf_yes hG hM' (hw.gr hg')) (fun w => invalid_any hM w)).mono ?_
        rintro e w'' ⟨rfl, hg'⟩
        exact ⟨_, _, .inr (.inl ⟨p, mx, one, inf, sg, nan, hF, .inl hm, rfl, rfl⟩), rfl, hg'⟩
      · refine (conv_no1 p mn mx mode nan f t mode a 0 0 0 0 (fun w'' hg' => settingOf_bad hF hM mode (fun w => ruleOf_no mode (by omega) w) (hw.gr hg')) (fun w'' hg' => formatOf_no f hf w'') (fun w => invalid_any hM w)).mono ?_
        rintro e w'' ⟨rfl, hg'⟩
        exact ⟨_, _, .inr (.inl ⟨p, mx, one, inf, sg, nan, hF, .inl hm, rfl, rfl⟩), rfl, hg'⟩
  · rcases FO with ⟨p', mx', one', inf', sg', nan', mn', fb', sp', hG, hM'⟩ | hf
    · refine (conv_no2 _ _ _ _ _ f t mode a p' mn' mx' 0 (fun w'' hg' => settingOf_none t mode ht (hw.gr hg')) (fun w'' hg' => formatOf_yes hG hM' (hw.gr hg')) (fun w => invalid_any m64 w)).mono ?_
      rintro e w'' ⟨rfl, hg'⟩
      exact ⟨_, _, .inr (.inr ⟨ht, rfl, rfl⟩), rfl, hg'⟩
    · refine (conv_no1 _ _ _ _ _ f t mode a 0 0 0 0 (fun w'' hg' => settingOf_none t mode ht (hw.gr hg')) (fun w'' hg' => formatOf_no f hf w'') (fun w => invalid_any m64 w)).mono ?_
      rintro e w'' ⟨rfl, hg'⟩
      exact ⟨_, _, .inr (.inr ⟨ht, rfl, rfl⟩), rfl, hg'⟩

theorem specConvert_any (f t mode a : Int) (a0 : 0 ≤ a) (a1 : a < 18446744073709551616) (w : World) :
    Calls Tryz.prog 11 #[.int .i64 f, .int .i64 t, .int .i64 mode, .int .u64 a] w fun e w' => ∃ Z fl, ConvIs f t mode a Z fl ∧ e = .returned (.agg #[.int .u64 Z, .int .i64 fl]) ∧ Gb w w' := by
  by_cases ht : t = 0 ∨ t = 1
  · obtain ⟨p, mx, one, inf, sg, nan, hF⟩ := fmt_of t ht
    have HFm : Hid (∀ w, Calls Tryz.prog 26 #[.int .i64 t] w fun e w' => e = .returned (.bool true) ∧ w = w') := fun w => l2Format_any t true (by simp [ht]) w
    by_cases hm : 0 ≤ mode ∧ mode ≤ 4
    · have HWy : Hid (∀ w, Calls Tryz.prog 27 #[.int .i64 mode] w fun e w' => e = .returned (.bool true) ∧ w = w') := fun w => l2Way_any mode true (by simp [hm]) w
      by_cases hf : f = 0 ∨ f = 1
      · obtain ⟨p', mx', one', inf', sg', nan', hG⟩ := fmt_of f hf
        obtain ⟨x, hx⟩ := opd_ex hG a a0 a1
        obtain ⟨v1, v2, v3, v4, v5, v6⟩ := opd_vo hG hx
        have xc0 := v1.c0; have xc4 := v1.c4
        have fin : ∀ Z fl, PackIs p (1 - mx) mx one inf sg nan mode x Z fl → ConvIs f t mode a Z fl := fun Z fl hp => .inl ⟨p, mx, one, inf, sg, nan, _, _, _, _, _, _, x, hF, hm, hG, hx, hp⟩
        by_cases fa : a < 2 * sg'
        · have HFi : Hid (∀ w, Calls Tryz.prog 43 #[.int .i64 f, .int .u64 a] w fun e w' => e = .returned (.bool true) ∧ w = w') := fun w => l2Fits_yes hG a a0 fa w
          have HU := unp_det hG a a0 fa hx
          have HQ : ∀ (b : Bool), b = decide (3 ≤ x.c) → Hid (∀ w, Calls Tryz.prog 45 #[.agg #[.int .i64 x.c, .int .i64 x.s, .int .i64 x.e, .int .u64 (((x.M : Nat) : Int))]] w fun e w' => e = .returned (.bool b) ∧ Gr w w') := fun b hb w => l3Quiet_any _ _ _ _ b hb w
          by_cases cn : 3 ≤ x.c
          · refine (sConv_nan f t mode a _ _ _ _ nan _ (decide (x.c = 4)) HFm HWy HFi HU (HQ true (by simp [cn])) (bq _ _) (fun w => l3Nan_any hF _ _ rfl w) w).mono ?_
            rintro e w' ⟨rfl, hg⟩
            refine ⟨_, _, fin _ _ ?_, rfl, hg⟩
            by_cases c4 : x.c = 4
            · rw [if_pos (by simp [c4])]; exact .inr (.inr (.inr (.inr ⟨c4, rfl, rfl⟩)))
            · rw [if_neg (by simp [c4])]; exact .inr (.inr (.inr (.inl ⟨by omega, rfl, rfl⟩)))
          · have hQ := HQ false (by simp; omega)
            rcases (show x.c = 0 ∨ x.c = 1 ∨ x.c = 2 by omega) with c | c | c
            · refine (sConv_zero f t mode a _ _ _ _ (sw x.s sg 0) 0 HFm HWy HFi HU hQ c (fun w => l3Zero_any hF x.s v1.s01 w) w).mono ?_
              rintro e w' ⟨rfl, hg⟩
              exact ⟨_, _, fin _ _ (.inl ⟨c, rfl, rfl⟩), rfl, hg⟩
            · refine (sConv_num f t mode a _ _ _ _ x.M HFm HWy HFi HU hQ c (fun w => l3Number_any _ _ _ x.M (by omega) w) (PackIs p (1 - mx) mx one inf sg nan mode x) (fun v w hB => round_at hF mode hm.1 hm.2 x c v1.s01 (v1.fin c).1 (by omega) (by omega) 2 (by omega) v w hB) w).mono ?_
              rintro e w' ⟨Z, fl, hp, rfl, hg⟩
              exact ⟨_, _, fin _ _ hp, rfl, hg⟩
            · refine (sConv_inf f t mode a _ _ _ _ (sw x.s sg inf) 0 HFm HWy HFi HU hQ c (fun w => l3Infinity_any hF x.s v1.s01 w) w).mono ?_
              rintro e w' ⟨rfl, hg⟩
              exact ⟨_, _, fin _ _ (.inr (.inr (.inl ⟨c, rfl, rfl⟩))), rfl, hg⟩
        · have hno : f = 0 ∧ 4294967296 ≤ a := by rcases hG with ⟨rfl, rfl, rfl, rfl, rfl, rfl, rfl⟩ | ⟨rfl, rfl, rfl, rfl, rfl, rfl, rfl⟩ <;> omega
          refine (sConv_bad3 f t mode a nan 1 HFm HWy (fun w => l2Fits_no f a a0 (.inr hno) w) (fun w => l2Bad_fmt hF w) w).mono ?_
          rintro e w' ⟨rfl, hg⟩
          have := opd_wide hG hx (by omega)
          exact ⟨_, _, fin _ _ (bad_nan (by rw [this])), rfl, hg⟩
      · refine (sConv_bad3 f t mode a nan 1 HFm HWy (fun w => l2Fits_no f a a0 (.inl hf) w) (fun w => l2Bad_fmt hF w) w).mono ?_
        rintro e w' ⟨rfl, hg⟩
        exact ⟨_, _, .inr (.inl ⟨p, mx, one, inf, sg, nan, hF, .inr hf, rfl, rfl⟩), rfl, hg⟩
    · refine (sConv_bad2 f t mode a nan 1 HFm (fun w => l2Way_any mode false (by simp; omega) w) (fun w => l2Bad_fmt hF w) w).mono ?_
      rintro e w' ⟨rfl, hg⟩
      exact ⟨_, _, .inr (.inl ⟨p, mx, one, inf, sg, nan, hF, .inl hm, rfl, rfl⟩), rfl, hg⟩
  · refine (sConv_bad1 f t mode a _ 1 (fun w => l2Format_any t false (by simp; omega) w) (fun w => l2Bad_no t ht w) w).mono ?_
    rintro e w' ⟨rfl, hg⟩
    exact ⟨_, _, .inr (.inr ⟨ht, rfl, rfl⟩), rfl, hg⟩

theorem conv_ex (f t mode a : Int) (a0 : 0 ≤ a) (a1 : a < 18446744073709551616) : ∃ Z fl, ConvIs f t mode a Z fl := by
  by_cases ht : t = 0 ∨ t = 1
  · obtain ⟨p, mx, one, inf, sg, nan, hF⟩ := fmt_of t ht
    by_cases hm : 0 ≤ mode ∧ mode ≤ 4
    · by_cases hf : f = 0 ∨ f = 1
      · obtain ⟨p', mx', one', inf', sg', nan', hG⟩ := fmt_of f hf
        obtain ⟨x, hx⟩ := opd_ex hG a a0 a1
        have v1 := (opd_vo hG hx).1
        obtain ⟨Z, fl, hp⟩ := pack_is p (1 - mx) mx one inf sg nan mode x v1.c0 v1.c4
        exact ⟨Z, fl, .inl ⟨p, mx, one, inf, sg, nan, _, _, _, _, _, _, x, hF, hm, hG, hx, hp⟩⟩
      · exact ⟨_, _, .inr (.inl ⟨p, mx, one, inf, sg, nan, hF, .inr hf, rfl, rfl⟩)⟩
    · exact ⟨_, _, .inr (.inl ⟨p, mx, one, inf, sg, nan, hF, .inl hm, rfl, rfl⟩)⟩
  · exact ⟨_, _, .inr (.inr ⟨ht, rfl, rfl⟩)⟩

theorem conv_same (f t mode a : Int) (a0 : 0 ≤ a) (a1 : a < 18446744073709551616) :
    ∃ Z fl : Int, ConvIs f t mode a Z fl ∧ (∀ w, Calls Tryz.prog 11 #[.int .i64 f, .int .i64 t, .int .i64 mode, .int .u64 a] w fun e w' => e = .returned (.agg #[.int .u64 Z, .int .i64 fl]) ∧ Gb w w') ∧
      (∀ w, Fm w → Calls Tryz.prog 10 #[.int .i64 f, .int .i64 t, .int .i64 mode, .int .u64 a] w fun e w' => e = .returned (.agg #[.int .u64 Z, .int .i64 fl]) ∧ Gr w w') := by
  obtain ⟨Z, fl, h⟩ := conv_ex f t mode a a0 a1
  refine ⟨Z, fl, h, fun w => (specConvert_any f t mode a a0 a1 w).mono ?_, fun w hw => (implConvert_any f t mode a a0 a1 w hw).mono ?_⟩
  · rintro e w' ⟨Z', fl', h', rfl, hg⟩
    obtain ⟨rfl, rfl⟩ := ConvIs.one h h'
    exact ⟨rfl, hg⟩
  · rintro e w' ⟨Z', fl', h', rfl, hg⟩
    obtain ⟨rfl, rfl⟩ := ConvIs.one h h'
    exact ⟨rfl, hg⟩

end Go.Proofs.YtfakbjgbbcigpaaGreatDoor
