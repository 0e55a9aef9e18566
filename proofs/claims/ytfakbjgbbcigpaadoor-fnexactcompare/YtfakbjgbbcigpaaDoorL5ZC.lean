/- Compare: both sides. -/
import Derived.Test.YtfakbjgbbcigpaaDoorL5ZO
import Derived.Test.YtfakbjgbbcigpaaDoorK2
import Derived.Test.YtfakbjgbbcigpaaDoorL5PW
import Derived.Test.YtfakbjgbbcigpaaDoorL3YA
set_option linter.unusedVariables false
set_option linter.unusedSimpArgs false
namespace Go.Proofs.YtfakbjgbbcigpaaDoor
open Go.RowKit

theorem specCompare_any (f a b : Int) (s : Bool) (a0 : 0 ≤ a) (a1 : a < 18446744073709551616) (b0 : 0 ≤ b) (b1 : b < 18446744073709551616) (w : World) :
    Calls Tryd.prog 11 #[.int .i64 f, .int .u64 a, .int .u64 b, .bool s] w fun e w' => ∃ r fl, CmpIs f a b s r fl ∧ e = .returned (.tuple #[.int .i64 r, .int .i64 fl]) ∧ Gr w w' := by
  by_cases hf : f = 0 ∨ f = 1
  · obtain ⟨p, mx, one, inf, sg, nan, hF⟩ := fmt_of f hf
    obtain ⟨x, hx⟩ := opd_ex hF a a0 a1
    obtain ⟨y, hy⟩ := opd_ex hF b b0 b1
    obtain ⟨v1, v2, v3, v4, v5, v6⟩ := opd_vo hF hx
    obtain ⟨u1, u2, u3, u4, u5, u6⟩ := opd_vo hF hy
    have xc0 := v1.c0; have xc4 := v1.c4; have yc0 := u1.c0; have yc4 := u1.c4
    have fin : ∀ r fl, CmpO x y s r fl → (Calls Tryd.prog 11 #[.int .i64 f, .int .u64 a, .int .u64 b, .bool s] w fun e w' => e = .returned (.tuple #[.int .i64 r, .int .i64 fl]) ∧ Gr w w') → Calls Tryd.prog 11 #[.int .i64 f, .int .u64 a, .int .u64 b, .bool s] w fun e w' => ∃ r fl, CmpIs f a b s r fl ∧ e = .returned (.tuple #[.int .i64 r, .int .i64 fl]) ∧ Gr w w' := fun r fl hc h => h.mono (fun e w' ⟨h1, h2⟩ => ⟨r, fl, .inl ⟨p, mx, one, inf, sg, nan, x, y, hF, hx, hy, hc⟩, h1, h2⟩)
    by_cases fa : a < 2 * sg
    · by_cases fb : b < 2 * sg
      · have HFa : Hid (∀ w, Calls Tryd.prog 30 #[.int .i64 f, .int .u64 a] w fun e w' => e = .returned (.bool true) ∧ w = w') := fun w => l2Fits_yes hF a a0 fa w
        have HFb : Hid (∀ w, Calls Tryd.prog 30 #[.int .i64 f, .int .u64 b] w fun e w' => e = .returned (.bool true) ∧ w = w') := fun w => l2Fits_yes hF b b0 fb w
        have HUa := unp_det hF a a0 fa hx
        have HUb := unp_det hF b b0 fb hy
        have HQ : ∀ (z : Opd) (t : Bool), t = decide (3 ≤ z.c) → Hid (∀ w, Calls Tryd.prog 32 #[.agg #[.int .i64 z.c, .int .i64 z.s, .int .i64 z.e, .int .u64 (((z.M : Nat) : Int))]] w fun e w' => e = .returned (.bool t) ∧ Gr w w') := fun z t ht w => l3Quiet_any _ _ _ _ t ht w
        by_cases cn : 3 ≤ max x.c y.c
        · refine fin 2 (if s || decide (x.c = 4) || decide (y.c = 4) then 1 else 0) ?_ (sCmp_nan f a b _ _ _ _ _ _ _ _ _ s (decide (3 ≤ x.c)) (decide (3 ≤ y.c)) (by simp; omega) (decide (x.c = 4)) (decide (y.c = 4)) (bq _ _) (bq _ _) rfl HFa HFb HUa HUb (HQ x _ rfl) (HQ y _ rfl) w)
          unfold CmpO
          by_cases c4 : max x.c y.c = 4
          · refine .inl ⟨c4, rfl, ?_⟩
            rw [if_pos]
            have : x.c = 4 ∨ y.c = 4 := by omega
            simp only [Bool.or_eq_true, decide_eq_true_eq]
            omega
          · have e1 : decide (x.c = 4) = false := by simp; omega
            have e2 : decide (y.c = 4) = false := by simp; omega
            rw [e1, e2]
            cases s
            · exact .inr (.inr (.inl ⟨by omega, rfl, rfl, rfl⟩))
            · exact .inr (.inl ⟨by omega, rfl, rfl, rfl⟩)
        · refine fin (ordW x y) 0 ?_ (sCmp_ord f a b _ _ _ _ _ _ _ _ _ s HFa HFb HUa HUb (HQ x false (by simp; omega)) (HQ y false (by simp; omega)) (fun w => l5Order_any hF a0 b0 hx hy (by omega) (by omega) w) w)
          unfold CmpO ordW
          by_cases c : max x.c y.c = 0
          · rw [if_pos c]; exact .inr (.inr (.inr (.inl ⟨c, rfl, rfl⟩)))
          · rw [if_neg c]; exact .inr (.inr (.inr (.inr ⟨by omega, rfl, rfl⟩)))
      · refine fin 2 1 (.inl ⟨?_, rfl, rfl⟩) (sCmp_bad2 f a b s (fun w => l2Fits_yes hF a a0 fa w) (fun w => l2Fits_no f b b0 (.inr (nofit2 hF b1 (by omega))) w) w)
        have := opd_wide hF hy (by omega); subst this; dsimp only at *; omega
    · refine fin 2 1 (.inl ⟨?_, rfl, rfl⟩) (sCmp_bad1 f a b s (fun w => l2Fits_no f a a0 (.inr (nofit2 hF a1 (by omega))) w) w)
      have := opd_wide hF hx (by omega); subst this; dsimp only at *; omega
  · refine (sCmp_bad1 f a b s (fun w => l2Fits_no f a a0 (.inl hf) w) w).mono ?_
    rintro e w' ⟨rfl, hg⟩
    exact ⟨2, 1, .inr ⟨hf, rfl, rfl⟩, rfl, hg⟩

theorem compare_same (f a b : Int) (s : Bool) (a0 : 0 ≤ a) (a1 : a < 18446744073709551616) (b0 : 0 ≤ b) (b1 : b < 18446744073709551616) :
    ∃ r fl : Int, CmpIs f a b s r fl ∧ (∀ w, Calls Tryd.prog 11 #[.int .i64 f, .int .u64 a, .int .u64 b, .bool s] w fun e w' => e = .returned (.tuple #[.int .i64 r, .int .i64 fl]) ∧ Gr w w') ∧
      (∀ w, Fm w → Calls Tryd.prog 12 #[.int .i64 f, .int .u64 a, .int .u64 b, .bool s] w fun e w' => e = .returned (.tuple #[.int .i64 r, .int .i64 fl]) ∧ Gr w w') := by
  have hex : ∃ r fl : Int, CmpIs f a b s r fl := by
    by_cases hf : f = 0 ∨ f = 1
    · obtain ⟨p, mx, one, inf, sg, nan, hF⟩ := fmt_of f hf
      obtain ⟨x, hx⟩ := opd_ex hF a a0 a1
      obtain ⟨y, hy⟩ := opd_ex hF b b0 b1
      obtain ⟨r, fl, h⟩ := CmpO.ex x y (opd_vo hF hx).1 (opd_vo hF hy).1 s
      exact ⟨r, fl, .inl ⟨p, mx, one, inf, sg, nan, x, y, hF, hx, hy, h⟩⟩
    · exact ⟨2, 1, .inr ⟨hf, rfl, rfl⟩⟩
  obtain ⟨r, fl, h⟩ := hex
  refine ⟨r, fl, h, fun w => (specCompare_any f a b s a0 a1 b0 b1 w).mono ?_, fun w hw => (implCompare_any f a b s a0 a1 b0 b1 w hw).mono ?_⟩
  · rintro e w' ⟨r', fl', h', rfl, hg⟩
    obtain ⟨rfl, rfl⟩ := CmpIs.one h h'
    exact ⟨rfl, hg⟩
  · rintro e w' ⟨r', fl', h', rfl, hg⟩
    obtain ⟨rfl, rfl⟩ := CmpIs.one h h'
    exact ⟨rfl, hg⟩

end Go.Proofs.YtfakbjgbbcigpaaDoor
