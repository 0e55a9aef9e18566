/- Compare: both sides. -/
import Derived.Test.YtpcblkmfnbjphaaDoorL5ZO
import Derived.Test.YtpcblkmfnbjphaaDoorL5CI
import Derived.Test.YtpcblkmfnbjphaaDoorL5PW
import Derived.Test.YtpcblkmfnbjphaaDoorL3YA
set_option linter.unusedVariables false
set_option linter.unusedSimpArgs false
namespace Go.Proofs.YtpcblkmfnbjphaaDoor
open Go.RowKit

def CmpO (x y : Opd) (s : Bool) (r fl : Int) : Prop :=
  max x.c y.c = 4 ∧ r = 2 ∧ fl = 1 ∨ max x.c y.c = 3 ∧ s = true ∧ r = 2 ∧ fl = 1 ∨ max x.c y.c = 3 ∧ s = false ∧ r = 2 ∧ fl = 0 ∨ max x.c y.c = 0 ∧ r = 0 ∧ fl = 0 ∨ (max x.c y.c = 1 ∨ max x.c y.c = 2) ∧ r = ordO x y ∧ fl = 0
/-- What Compare answers. -/
def CmpIs (f a b : Int) (s : Bool) (r fl : Int) : Prop :=
  (∃ p mx one inf sg nan x y, IsFmt f p mx one inf sg nan ∧ OpdIs p mx one inf sg nan a x ∧ OpdIs p mx one inf sg nan b y ∧ CmpO x y s r fl) ∨ (¬ (f = 0 ∨ f = 1) ∧ r = 2 ∧ fl = 1)

theorem CmpO.ex (x y : Opd) (hx : VO x) (hy : VO y) (s : Bool) : ∃ r fl, CmpO x y s r fl := by
  have := hx.c0; have := hx.c4; have := hy.c0; have := hy.c4
  unfold CmpO
  rcases (show max x.c y.c = 4 ∨ max x.c y.c = 3 ∨ max x.c y.c = 0 ∨ (max x.c y.c = 1 ∨ max x.c y.c = 2) by omega) with h | h | h | h
  · exact ⟨_, _, .inl ⟨h, rfl, rfl⟩⟩
  · cases s
    · exact ⟨_, _, .inr (.inr (.inl ⟨h, rfl, rfl, rfl⟩))⟩
    · exact ⟨_, _, .inr (.inl ⟨h, rfl, rfl, rfl⟩)⟩
  · exact ⟨_, _, .inr (.inr (.inr (.inl ⟨h, rfl, rfl⟩)))⟩
  · exact ⟨_, _, .inr (.inr (.inr (.inr ⟨h, rfl, rfl⟩)))⟩
theorem CmpO.one {x y : Opd} {s : Bool} {r fl r' fl' : Int} (h : CmpO x y s r fl) (h' : CmpO x y s r' fl') : r = r' ∧ fl = fl' := by
  unfold CmpO at h h'
  generalize max x.c y.c = m at *
  generalize ordO x y = d at *
  cases s <;> simp at h h' <;> omega

theorem implCompare_any (f a b : Int) (s : Bool) (a0 : 0 ≤ a) (a1 : a < 18446744073709551616) (b0 : 0 ≤ b) (b1 : b < 18446744073709551616) (w : World) (hw : Fm w) :
    Calls Tryd.prog 12 #[.int .i64 f, .int .u64 a, .int .u64 b, .bool s] w fun e w' => ∃ r fl, CmpIs f a b s r fl ∧ e = .returned (.tuple #[.int .i64 r, .int .i64 fl]) ∧ Gr w w' := by
  by_cases hf : f = 0 ∨ f = 1
  · obtain ⟨p, mx, one, inf, sg, nan, hF⟩ := fmt_of f hf
    obtain ⟨mn, fb, sp, hM, hmn, hfb⟩ := hF.m
    obtain ⟨x, hx, HA⟩ := opd_is hF hM a a0 a1
    obtain ⟨y, hy, HB⟩ := opd_is hF hM b b0 b1
    obtain ⟨v1, v2, v3, v4, v5, v6⟩ := opd_vo hF hx
    obtain ⟨u1, u2, u3, u4, u5, u6⟩ := opd_vo hF hy
    obtain ⟨r, fl, hc⟩ := CmpO.ex x y v1 u1 s
    refine (cmp_ok p mn mx f a b _ _ _ _ _ _ _ _ _ _ _ r fl (ordO x y) false false s (fun w' hg => formatOf_yes hF hM (hw.gr hg)) HA HB rfl hc (fun w => order_any x y v1 u1 (by omega) (by omega) w)).mono ?_
    rintro e w' ⟨rfl, hg⟩
    exact ⟨r, fl, .inl ⟨p, mx, one, inf, sg, nan, x, y, hF, hx, hy, hc⟩, rfl, hg⟩
  · refine (cmp_no f a b s (fun w => formatOf_no f hf w) w).mono ?_
    rintro e w' ⟨rfl, hg⟩
    exact ⟨2, 1, .inr ⟨hf, rfl, rfl⟩, rfl, hg⟩

theorem specCompare_any (f a b : Int) (s : Bool) (a0 : 0 ≤ a) (a1 : a < 18446744073709551616) (b0 : 0 ≤ b) (b1 : b < 18446744073709551616) (w : World) :
    Calls Tryd.prog 11 #[.int .i64 f, .int .u64 a, .int .u64 b, .bool s] w fun e w' => ∃ r fl, CmpIs f a b s r fl ∧ e = .returned (.tuple #[.int .i64 r, .int .i64 fl]) ∧ Gr w w' := by
  by_cases hf : f = 0 ∨ f = 1
  · obtain ⟨p, mx, one, inf, sg, nan, hF⟩ := fmt_of f hf
    obtain ⟨x, hx⟩ := opd_ex hF a a0 a1
    obtain ⟨y, hy⟩ := opd_ex hF b b0 b1
    obtain ⟨v1, v2, v3, v4, v5, v6⟩ := opd_vo hF hx
    obtain ⟨u1, u2, u3, u4, u5, u6⟩ := opd_vo hF hy
    have xc0 := v1.c0; have xc4 := v1.c4; have yc0 := u1.c0; have yc4 := u1.c4
    have fin : ∀ r fl, CmpO x y s r fl → (Calls Tryd.prog 11 #[.int .i64 f, .int .u64 a, .int .u64 b, .bool s] w fun e w' => e = .returned (.tuple #[.int .i64 r, .int .i64 fl]) ∧ Gr w w') → Calls Tryd.prog 11 #[.int .i64 f, .int .u64 a, .int .u64 b, .bool s] w fun e w' => ∃ r fl, CmpIs f a b s r fl ∧ e = .returned (.tuple #[.int .i64 r, .int .i64 fl]) ∧ Gr w w' := fun r fl hc h => h.mono (fun e w' ⟨h1, h2⟩ => ⟨r, fl, .inl ⟨p, mx, one, inf, sg, nan, x, y, hF, hx, hy, hc⟩, h1, h2⟩)
    by_cases fa : a < 2 * sg
    · by_cases fb : b < 2 * sg
      · have HFa : Hid (∀ w, Calls Tryd.prog 30 #[.int .i64 f, .int .u64 a] w fun e w' => e = .returned (.bool true) ∧ w = w') := fun w => l2Fits_yes hF a a0 fa w
        have HFb : Hid (∀ w, Calls Tryd.prog 30 #[.int .i64 f, .int .u64 b] w fun e w' => e = .returned (.bool true) ∧ w = w') := fun w => l2Fits_yes hF b b0 fb w
        have HUa := unp_det hF a a0 fa hx
        have HUb := unp_det hF b b0 fb hy
        have HQ : ∀ (z : Opd) (t : Bool), t = decide (3 ≤ z.c) → Hid (∀ w, Calls Tryd.prog 32 #[.agg #[.int .i64 z.c, .int .i64 z.s, .int .i64 z.e, .int .u64 (((z.M : Nat) : Int))]] w fun e w' => e = .returned (.bool t) ∧ Gr w w') := fun z t ht w => l3Quiet_any _ _ _ _ t ht w
        by_cases cn : 3 ≤ max x.c y.c
        · refine fin 2 (if s || decide (x.c = 4) || decide (y.c = 4) then 1 else 0) ?_ (sCmp_nan f a b _ _ _ _ _ _ _ _ _ s (decide (3 ≤ x.c)) (decide (3 ≤ y.c)) (by simp; omega) (decide (x.c = 4)) (decide (y.c = 4)) (bq _ _) (bq _ _) rfl HFa HFb HUa HUb (HQ x _ rfl) (HQ y _ rfl) w)
          unfold CmpO
          by_cases c4 : max x.c y.c = 4
          · refine .inl ⟨c4, rfl, ?_⟩
            rw [if_pos]
            have : x.c = 4 ∨ y.c = 4 := by omega
            simp only [Bool.or_eq_true, decide_eq_true_eq]
            omega
          · have e1 : decide (x.c = 4) = false := by simp; omega
            have e2 : decide (y.c = 4) = false := by simp; omega
            rw [e1, e2]
            cases s
            · exact .inr (.inr (.inl ⟨by omega, rfl, rfl, rfl⟩))
            · exact .inr (.inl ⟨by omega, rfl, rfl, rfl⟩)
        · refine fin (ordW x y) 0 ?_ (sCmp_ord f a b _ _ _ _ _ _ _ _ _ s HFa HFb HUa HUb (HQ x false (by simp; omega)) (HQ y false (by simp; omega)) (fun w => l5Order_any hF a0 b0 hx hy (by omega) (by omega) w) w)
          unfold CmpO ordW
          by_cases c : max x.c y.c = 0
          · rw [if_pos c]; exact .inr (.inr (.inr (.inl ⟨c, rfl, rfl⟩)))
          · rw [if_neg c]; exact .inr (.inr (.inr (.inr ⟨by omega, rfl, rfl⟩)))
      · refine fin 2 1 (.inl ⟨?_, rfl, rfl⟩) (sCmp_bad2 f a b s (fun w => l2Fits_yes hF a a0 fa w) (fun w => l2Fits_no f b b0 (.inr (nofit2 hF b1 (by omega))) w) w)
        have := opd_wide hF hy (by omega); subst this; dsimp only at *; omega
    · refine fin 2 1 (.inl ⟨?_, rfl, rfl⟩) (sCmp_bad1 f a b s (fun w => l2Fits_no f a a0 (.inr (nofit2 hF a1 (by omega))) w) w)
      have := opd_wide hF hx (by omega); subst this; dsimp only at *; omega
  · refine (sCmp_bad1 f a b s (fun w => l2Fits_no f a a0 (.inl hf) w) w).mono ?_
    rintro e w' ⟨rfl, hg⟩
    exact ⟨2, 1, .inr ⟨hf, rfl, rfl⟩, rfl, hg⟩

theorem CmpIs.one {f a b : Int} {s : Bool} {r fl r' fl' : Int} (h : CmpIs f a b s r fl) (h' : CmpIs f a b s r' fl') : r = r' ∧ fl = fl' := by
  rcases h with ⟨p, mx, one, inf, sg, nan, x, y, hF, hx, hy, hp⟩ | ⟨hF, rfl, rfl⟩ <;>
  rcases h' with ⟨p', mx', one', inf', sg', nan', x', y', hF', hx', hy', hp'⟩ | ⟨hF', rfl, rfl⟩
  · obtain ⟨rfl, rfl, rfl, rfl, rfl, rfl⟩ := hF.one hF'
    obtain rfl := hx.one hF hx'
    obtain rfl := hy.one hF hy'
    exact CmpO.one hp hp'
  · exact absurd hF.yes.symm (by simp [hF'])
  · exact absurd hF'.yes.symm (by simp [hF])
  · exact ⟨rfl, rfl⟩

theorem compare_same (f a b : Int) (s : Bool) (a0 : 0 ≤ a) (a1 : a < 18446744073709551616) (b0 : 0 ≤ b) (b1 : b < 18446744073709551616) :
    ∃ r fl : Int, CmpIs f a b s r fl ∧ (∀ w, Calls Tryd.prog 11 #[.int .i64 f, .int .u64 a, .int .u64 b, .bool s] w fun e w' => e = .returned (.tuple #[.int .i64 r, .int .i64 fl]) ∧ Gr w w') ∧
      (∀ w, Fm w → Calls Tryd.prog 12 #[.int .i64 f, .int .u64 a, .int .u64 b, .bool s] w fun e w' => e = .returned (.tuple #[.int .i64 r, .int .i64 fl]) ∧ Gr w w') := by
  have hex : ∃ r fl : Int, CmpIs f a b s r fl := by
    by_cases hf : f = 0 ∨ f = 1
    · obtain ⟨p, mx, one, inf, sg, nan, hF⟩ := fmt_of f hf
      obtain ⟨x, hx⟩ := opd_ex hF a a0 a1
      obtain ⟨y, hy⟩ := opd_ex hF b b0 b1
      obtain ⟨r, fl, h⟩ := CmpO.ex x y (opd_vo hF hx).1 (opd_vo hF hy).1 s
      exact ⟨r, fl, .inl ⟨p, mx, one, inf, sg, nan, x, y, hF, hx, hy, h⟩⟩
    · exact ⟨2, 1, .inr ⟨hf, rfl, rfl⟩⟩
  obtain ⟨r, fl, h⟩ := hex
  refine ⟨r, fl, h, fun w => (specCompare_any f a b s a0 a1 b0 b1 w).mono ?_, fun w hw => (implCompare_any f a b s a0 a1 b0 b1 w hw).mono ?_⟩
  · rintro e w' ⟨r', fl', h', rfl, hg⟩
    obtain ⟨rfl, rfl⟩ := CmpIs.one h h'
    exact ⟨rfl, hg⟩
  · rintro e w' ⟨r', fl', h', rfl, hg⟩
    obtain ⟨rfl, rfl⟩ := CmpIs.one h h'
    exact ⟨rfl, hg⟩

set_option maxRecDepth 100000 in
set_option maxHeartbeats 2000000 in
theorem lawCompare (f a b : Int) (s : Bool) (f0 : -9223372036854775808 ≤ f) (f1 : f < 9223372036854775808) (a0 : 0 ≤ a) (a1 : a < 18446744073709551616) (b0 : 0 ≤ b) (b1 : b < 18446744073709551616) {w : World} (hw : Fm w) :
    Calls Tryd.prog 3 #[.int .i64 f, .int .u64 a, .int .u64 b, .bool s] w fun e w' => e = .returned (.bool true) ∧ Gb w w' := by
  obtain ⟨r, fl, _, HA, HB⟩ := compare_same f a b s a0 a1 b0 b1
  have HS : Hid (∀ w, Calls Tryd.prog 11 #[.int .i64 f, .int .u64 a, .int .u64 b, .bool s] w fun x w' => x = .returned (.tuple #[.int .i64 r, .int .i64 fl]) ∧ Gr w w') := HA
  have HI : Hid (∀ w', Gb w w' → Calls Tryd.prog 12 #[.int .i64 f, .int .u64 a, .int .u64 b, .bool s] w' fun x w'' => x = .returned (.tuple #[.int .i64 r, .int .i64 fl]) ∧ Gr w' w'') := fun w' hg => HB w' (hw.gb hg)
  clear HA HB hw
  go_enter Tryd.func3, Tryd.ntmps3
  go_wp2_with (first
    | (go_at_call 11; refine (HS.out _).mono ?_; rintro x w2 ⟨rfl, hg_w2⟩)
    | (go_at_call 12; refine (HI.out _ Gb.g).mono ?_; rintro x w3 ⟨rfl, hg_w3⟩))
  go_returns
  exact ⟨rfl, Gb.g⟩
end Go.Proofs.YtpcblkmfnbjphaaDoor
