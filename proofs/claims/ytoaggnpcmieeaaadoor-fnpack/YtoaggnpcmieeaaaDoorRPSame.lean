/- Both RoundPacks. -/
import Derived.Test.YtoaggnpcmieeaaaDoorRPImpl
import Derived.Test.YtoaggnpcmieeaaaDoorRPSt
import Derived.Test.YtoaggnpcmieeaaaDoorRPTop
import Derived.Test.YtoaggnpcmieeaaaDoorRPSpec
set_option linter.unusedVariables false
set_option linter.unusedSimpArgs false
namespace Go.Proofs.YtoaggnpcmieeaaaDoor
open Go.RowKit

/-- Both RoundPacks answer alike, at every argument. -/
theorem rp_same (f mode sign exp : Int) (h l : Nat) (sticky : Bool) (h1 : h < 18446744073709551616) (l1 : l < 18446744073709551616) :
    ∃ z fl : Int, (∀ w, Calls Tryd.prog 12 #[.int .i64 f, .int .i64 mode, .int .i64 sign, .int .i64 exp, .agg #[.int .u64 (h : Nat), .int .u64 (l : Nat)], .bool sticky] w fun x w' => x = .returned (.agg #[.int .u64 z, .int .i64 fl]) ∧ Gb w w') ∧
      (∀ w, Fm w → Calls Tryd.prog 14 #[.int .i64 f, .int .i64 mode, .int .i64 sign, .int .i64 exp, .agg #[.int .u64 (h : Nat), .int .u64 (l : Nat)], .bool sticky] w fun x w' => x = .returned (.agg #[.int .u64 z, .int .i64 fl]) ∧ Gr w w') := by
  by_cases hf : f = 0 ∨ f = 1
  · obtain ⟨p, mx, one, inf, sg, nan, hF⟩ : ∃ p mx one inf sg nan, IsFmt f p mx one inf sg nan := by
      rcases hf with rfl | rfl
      · exact ⟨_, _, _, _, _, _, .inl ⟨rfl, rfl, rfl, rfl, rfl, rfl, rfl⟩⟩
      · exact ⟨_, _, _, _, _, _, .inr ⟨rfl, rfl, rfl, rfl, rfl, rfl, rfl⟩⟩
    obtain ⟨mn, fb, sp, hm, hmn, hfb⟩ := hF.m
    obtain ⟨b1, b2, b3, b4, b5, b6, b7, b8, b9, b10, b11, b12⟩ := hF.bounds
    by_cases hv : (0 ≤ mode ∧ mode ≤ 4) ∧ (0 ≤ sign ∧ sign ≤ 1) ∧ -100000 ≤ exp ∧ exp ≤ 100000
    · obtain ⟨⟨m0, m1⟩, ⟨s0, s1⟩, e0, e1⟩ := hv
      obtain ⟨k, hk⟩ := rule_of mode m0 m1
      have HW : ∀ w, Fm w → Hid (∀ w', Gr w w' → Calls Tryd.prog 40 #[.int .i64 f, .int .i64 mode] w' fun x w'' => x = .returned (.tuple #[.agg #[.int .i64 p, .int .i64 mn, .int .i64 mx, .int .i64 mode, .func (.func k) #[] #[]], .bool true]) ∧ Gr w' w'') := fun w hw w' hg => settingOf_yes hF hm mode k (fun w => ruleOf_yes mode k hk w) (hw.gr hg)
      obtain ⟨M, hM⟩ : ∃ M, h * 18446744073709551616 + l = M := ⟨_, rfl⟩
      have hMb : M < 340282366920938463463374607431768211456 := by omega
      have hMh : M / 18446744073709551616 = h := by omega
      have hMl : M % 18446744073709551616 = l := by omega
      by_cases hst : sticky = true ∧ (nb M : Int) < p + 2
      · obtain ⟨rfl, hn⟩ := hst
        refine ⟨nan, 1, fun w => specRP_sticky hF mode sign exp h l h1 l1 m0 m1 s0 s1 e0 e1 (by rw [hM]; exact hn) w, fun w hw => ?_⟩
        refine implRP_sticky hm f mode sign exp _ _ k (HW w hw) s0 s1 e0 e1 (fun w => ?_)
        have := stickyFits_any (mn := mn) (mx := mx) b1 b2 M hMb false (by symm; exact decide_eq_false (by omega)) w
        rw [hMh, hMl] at this
        exact this
      · have hst2 : sticky = true → p + 2 ≤ (nb M : Int) := fun c => by
          rcases Int.lt_or_le (nb M : Int) (p + 2) with k | k
          · exact absurd ⟨c, k⟩ hst
          · exact k
        have HSt : sticky = true → Hid (∀ w, Calls Tryd.prog 42 #[.agg #[.int .i64 p, .int .i64 mn, .int .i64 mx], .agg #[.int .u64 (h : Nat), .int .u64 (l : Nat)]] w fun x w' => x = .returned (.bool true) ∧ Gr w w') := fun c w => by
          have := stickyFits_any (mn := mn) (mx := mx) b1 b2 M hMb true (by symm; exact decide_eq_true (hst2 c)) w
          rw [hMh, hMl] at this
          exact this
        rcases Nat.eq_zero_or_pos M with hz | hpos
        · have hs0 : sticky = false := by
            cases sticky
            · rfl
            · have := hst2 rfl
              rw [hz, nb_zero] at this
              omega
          subst hs0
          obtain rfl : h = 0 := by omega
          obtain rfl : l = 0 := by omega
          refine ⟨sw sign sg 0, 0, fun w => specRP_zero hF mode sign exp m0 m1 s0 s1 e0 e1 w, fun w hw => ?_⟩
          refine (implRP_ok f mode sign exp _ _ k false (HW w hw) s0 s1 e0 e1 HSt (fun z fl => z = sw sign sg 0 ∧ fl = 0) (fun w => ?_)).mono ?_
          · refine (round_zero hm mode k sign (by omega) exp e0 e1 false w).mono ?_
            rintro x w' ⟨rfl, hg⟩
            exact ⟨_, _, ⟨sv_sw _ _ _, rfl⟩, rfl, hg⟩
          · rintro x w' ⟨z, fl, ⟨rfl, rfl⟩, rfl, hg⟩
            exact ⟨rfl, hg⟩
        · obtain ⟨z, fl, hri⟩ := round_is p mn mx one inf mode sign M exp sticky
          refine ⟨sw sign sg z, fl, fun w => ?_, fun w hw => ?_⟩
          · refine (specRP_num hF mode sign exp h l sticky h1 l1 m0 m1 s0 s1 e0 e1 (by omega) (by rw [hM]; exact hst2) w).mono ?_
            rintro x w' ⟨z', fl', hri', _, _, rfl, hg⟩
            rw [hM, ← hmn] at hri'
            obtain ⟨rfl, rfl⟩ := RoundIs.one hri hri'
            exact ⟨rfl, hg⟩
          · refine (implRP_ok f mode sign exp _ _ k sticky (HW w hw) s0 s1 e0 e1 HSt (fun z' fl' => z' = sw sign sg z ∧ fl' = fl) (fun w => ?_)).mono ?_
            · have := round_num hm mode mode k hk sign (by omega) exp e0 e1 M hpos hMb sticky hst2 w
              rw [hMh, hMl] at this
              refine this.mono ?_
              rintro x w' ⟨z', fl', hri', rfl, hg⟩
              obtain ⟨rfl, rfl⟩ := RoundIs.one hri hri'
              exact ⟨_, _, ⟨sv_sw _ _ _, rfl⟩, rfl, hg⟩
            · rintro x w' ⟨z', fl', ⟨rfl, rfl⟩, rfl, hg⟩
              exact ⟨rfl, hg⟩
    · refine ⟨nan, 1, fun w => specRP_bad hF mode sign exp h l sticky (by omega) w, fun w hw => ?_⟩
      by_cases hmode : 0 ≤ mode ∧ mode ≤ 4
      · obtain ⟨k, hk⟩ := rule_of mode hmode.1 hmode.2
        exact implRP_out hm f mode sign exp _ _ k sticky (fun w' hg => settingOf_yes hF hm mode k (fun w => ruleOf_yes mode k hk w) (hw.gr hg)) (by omega)
      · exact implRP_way hm f mode sign exp _ _ sticky (fun w' hg => settingOf_bad hF hm mode (fun w => ruleOf_no mode (by omega) w) (hw.gr hg))
  · exact ⟨_, 1, fun w => specRP_none f mode sign exp h l sticky hf w, fun w hw => implRP_none f mode sign exp _ _ sticky hf hw⟩

end Go.Proofs.YtoaggnpcmieeaaaDoor
