/- laws.FnExactRoundPack. -/
import Derived.Test.YtpfmfbadeebeeaaDoorRPImpl
import Derived.Test.YtpfmfbadeebeeaaDoorRPTop
import Derived.Test.YtpfmfbadeebeeaaDoorA2
import Derived.Test.YtpfmfbadeebeeaaDoorRPSpec
set_option linter.unusedVariables false
set_option linter.unusedSimpArgs false
namespace Go.Proofs.YtpfmfbadeebeeaaDoor
open Go.RowKit

/-- Both RoundPacks answer alike, at every argument. -/
theorem rp_same (f mode sign exp : Int) (h l : Nat) (sticky : Bool) (h1 : h < 18446744073709551616) (l1 : l < 18446744073709551616) :
    ∃ z fl : Int, (∀ w, Calls Tryd.prog 14 #[.int .i64 f, .int .i64 mode, .int .i64 sign, .int .i64 exp, .agg #[.int .u64 (h : Nat), .int .u64 (l : Nat)], .bool sticky] w fun x w' => x = .returned (.agg #[.int .u64 z, .int .i64 fl]) ∧ Gb w w') ∧
      (∀ w, Fm w → Calls Tryd.prog 16 #[.int .i64 f, .int .i64 mode, .int .i64 sign, .int .i64 exp, .agg #[.int .u64 (h : Nat), .int .u64 (l : Nat)], .bool sticky] w fun x w' => x = .returned (.agg #[.int .u64 z, .int .i64 fl]) ∧ Gr w w') := by
  by_cases hf : f = 0 ∨ f = 1
  · obtain ⟨p, mx, one, inf, sg, nan, hF⟩ : ∃ p mx one inf sg nan, IsFmt f p mx one inf sg nan := by
      rcases hf with rfl | rfl
      · exact ⟨_, _, _, _, _, _, .inl ⟨rfl, rfl, rfl, rfl, rfl, rfl, rfl⟩⟩
      · exact ⟨_, _, _, _, _, _, .inr ⟨rfl, rfl, rfl, rfl, rfl, rfl, rfl⟩⟩
    obtain ⟨mn, fb, sp, hm, hmn, hfb⟩ := hF.m
    obtain ⟨b1, b2, b3, b4, b5, b6, b7, b8, b9, b10, b11, b12⟩ := hF.bounds
    by_cases hv : (0 ≤ mode ∧ mode ≤ 4) ∧ (0 ≤ sign ∧ sign ≤ 1) ∧ -100000 ≤ exp ∧ exp ≤ 100000
    · obtain ⟨⟨m0, m1⟩, ⟨s0, s1⟩, e0, e1⟩ := hv
      obtain ⟨k, hk⟩ := rule_of mode m0 m1
      have HW : ∀ w, Fm w → Hid (∀ w', Gr w w' → Calls Tryd.prog 46 #[.int .i64 f, .int .i64 mode] w' fun x w'' => x = .returned (.tuple #[.agg #[.int .i64 p, .int .i64 mn, .int .i64 mx, .int .i64 mode, .func (.func k) #[] #[]], .bool true]) ∧ Gr w' w'') := fun w hw w' hg => settingOf_yes hF hm mode k (fun w => ruleOf_yes mode k hk w) (hw.gr hg)
      obtain ⟨M, hM⟩ : ∃ M, h * 18446744073709551616 + l = M := ⟨_, rfl⟩
      have hMb : M < 340282366920938463463374607431768211456 := by omega
      have hMh : M / 18446744073709551616 = h := by omega
      have hMl : M % 18446744073709551616 = l := by omega
      by_cases hst : sticky = true ∧ (nb M : Int) < p + 2
      · obtain ⟨rfl, hn⟩ := hst
        refine ⟨nan, 1, fun w => specRP_sticky hF mode sign exp h l h1 l1 m0 m1 s0 s1 e0 e1 (by rw [hM]; exact hn) w, fun w hw => ?_⟩
        refine implRP_sticky hm f mode sign exp _ _ k (HW w hw) s0 s1 e0 e1 (fun w => ?_)
        have := stickyFits_any (mn := mn) (mx := mx) b1 b2 M hMb false (by symm; exact decide_eq_false (by omega)) w
        rw [hMh, hMl] at this
        exact this
      · have hst2 : sticky = true → p + 2 ≤ (nb M : Int) := fun c => by
          rcases Int.lt_or_le (nb M : Int) (p + 2) with k | k
          · exact absurd ⟨c, k⟩ hst
          · exact k
        have HSt : sticky = true → Hid (∀ w, Calls Tryd.prog 48 #[.agg #[.int .i64 p, .int .i64 mn, .int .i64 mx], .agg #[.int .u64 (h : Nat), .int .u64 (l : Nat)]] w fun x w' => x = .returned (.bool true) ∧ Gr w w') := fun c w => by
          have := stickyFits_any (mn := mn) (mx := mx) b1 b2 M hMb true (by symm; exact decide_eq_true (hst2 c)) w
          rw [hMh, hMl] at this
          exact this
        rcases Nat.eq_zero_or_pos M with hz | hpos
        · have hs0 : sticky = false := by
            cases sticky
            · rfl
            · have := hst2 rfl
              rw [hz, nb_zero] at this
              omega
          subst hs0
          obtain rfl : h = 0 := by omega
          obtain rfl : l = 0 := by omega
          refine ⟨sw sign sg 0, 0, fun w => specRP_zero hF mode sign exp m0 m1 s0 s1 e0 e1 w, fun w hw => ?_⟩
          refine (implRP_ok f mode sign exp _ _ k false (HW w hw) s0 s1 e0 e1 HSt (fun z fl => z = sw sign sg 0 ∧ fl = 0) (fun w => ?_)).mono ?_
          · refine (round_zero hm mode k sign (by omega) exp e0 e1 false w).mono ?_
            rintro x w' ⟨rfl, hg⟩
            exact ⟨_, _, ⟨sv_sw _ _ _, rfl⟩, rfl, hg⟩
          · rintro x w' ⟨z, fl, ⟨rfl, rfl⟩, rfl, hg⟩
            exact ⟨rfl, hg⟩
        · obtain ⟨z, fl, hri⟩ := round_is p mn mx one inf mode sign M exp sticky
          refine ⟨sw sign sg z, fl, fun w => ?_, fun w hw => ?_⟩
          · refine (specRP_num hF mode sign exp h l sticky h1 l1 m0 m1 s0 s1 e0 e1 (by omega) (by rw [hM]; exact hst2) w).mono ?_
            rintro x w' ⟨z', fl', hri', _, _, rfl, hg⟩
            rw [hM, ← hmn] at hri'
            obtain ⟨rfl, rfl⟩ := RoundIs.one hri hri'
            exact ⟨rfl, hg⟩
          · refine (implRP_ok f mode sign exp _ _ k sticky (HW w hw) s0 s1 e0 e1 HSt (fun z' fl' => z' = sw sign sg z ∧ fl' = fl) (fun w => ?_)).mono ?_
            · have := round_num hm mode mode k hk sign (by omega) exp e0 e1 M hpos hMb sticky hst2 w
              rw [hMh, hMl] at this
              refine this.mono ?_
              rintro x w' ⟨z', fl', hri', rfl, hg⟩
              obtain ⟨rfl, rfl⟩ := RoundIs.one hri hri'
              exact ⟨_, _, ⟨sv_sw _ _ _, rfl⟩, rfl, hg⟩
            · rintro x w' ⟨z', fl', ⟨rfl, rfl⟩, rfl, hg⟩
              exact ⟨rfl, hg⟩
    · refine ⟨nan, 1, fun w => specRP_bad hF mode sign exp h l sticky (by omega) w, fun w hw => ?_⟩
      by_cases hmode : 0 ≤ mode ∧ mode ≤ 4
      · obtain ⟨k, hk⟩ := rule_of mode hmode.1 hmode.2
        exact implRP_out hm f mode sign exp _ _ k sticky (fun w' hg => settingOf_yes hF hm mode k (fun w => ruleOf_yes mode k hk w) (hw.gr hg)) (by omega)
      · exact implRP_way hm f mode sign exp _ _ sticky (fun w' hg => settingOf_bad hF hm mode (fun w => ruleOf_no mode (by omega) w) (hw.gr hg))
  · exact ⟨_, 1, fun w => specRP_none f mode sign exp h l sticky hf w, fun w hw => implRP_none f mode sign exp _ _ sticky hf hw⟩

theorem toWide_gr (a0 a1 : Int) (w : World) :
    Calls Tryd.prog 15 #[.agg #[.int .u64 a0, .int .u64 a1]] w fun e w' => e = .returned (.agg #[.int .u64 a0, .int .u64 a1]) ∧ Gr w w' := by
  go_enter Tryd.func15, Tryd.ntmps15
  go_wp2
  go_returns
  exact ⟨rfl, kr⟩
set_option maxRecDepth 100000 in
set_option maxHeartbeats 2000000 in
theorem lawRP (f mode sign exp mh ml : Int) (sticky : Bool) (f0 : -9223372036854775808 ≤ f) (f1 : f < 9223372036854775808) (m0 : -9223372036854775808 ≤ mode) (m1 : mode < 9223372036854775808) (s0 : -9223372036854775808 ≤ sign) (s1 : sign < 9223372036854775808) (e0 : -9223372036854775808 ≤ exp) (e1 : exp < 9223372036854775808) (h0 : 0 ≤ mh) (h1 : mh < 18446744073709551616) (l0 : 0 ≤ ml) (l1 : ml < 18446744073709551616) {w : World} (hw : Fm w) :
    Calls Tryd.prog 5 #[.int .i64 f, .int .i64 mode, .int .i64 sign, .int .i64 exp, .agg #[.int .u64 mh, .int .u64 ml], .bool sticky] w fun e w' => e = .returned (.bool true) ∧ Gb w w' := by
  obtain ⟨h, rfl⟩ := Int.eq_ofNat_of_zero_le h0
  obtain ⟨l, rfl⟩ := Int.eq_ofNat_of_zero_le l0
  obtain ⟨z, fl, HA, HB⟩ := rp_same f mode sign exp h l sticky (by omega) (by omega)
  generalize ((h : Nat) : Int) = mh at *
  generalize ((l : Nat) : Int) = ml at *
  have HS : Hid (∀ w, Calls Tryd.prog 14 #[.int .i64 f, .int .i64 mode, .int .i64 sign, .int .i64 exp, .agg #[.int .u64 mh, .int .u64 ml], .bool sticky] w fun x w' => x = .returned (.agg #[.int .u64 z, .int .i64 fl]) ∧ Gb w w') := HA
  have HI : Hid (∀ w', Gb w w' → Calls Tryd.prog 16 #[.int .i64 f, .int .i64 mode, .int .i64 sign, .int .i64 exp, .agg #[.int .u64 mh, .int .u64 ml], .bool sticky] w' fun x w'' => x = .returned (.agg #[.int .u64 z, .int .i64 fl]) ∧ Gr w' w'') := fun w' hg => HB w' (hw.gb hg)
  clear HA HB hw
  go_enter Tryd.func5, Tryd.ntmps5
  go_wp2_with (first
    | (go_at_call 15; refine (toWide_gr _ _ _).mono ?_; rintro x wt ⟨rfl, hg_wt⟩; (try (have ts0 : wt.cell? ⟨w2.heap.size, 0, none⟩ = some (.int .u64 z) := kb; have ts1 : wt.cell? ⟨w2.heap.size, 1, none⟩ = some (.int .i64 fl) := kb)))
    | (go_at_call 14; refine (HS.out _).mono ?_; rintro x w2 ⟨rfl, hg_w2⟩; have q0 : w2.cell? ⟨w.heap.size, 0, none⟩ = some (.int .u64 mh) := kb; have q1 : w2.cell? ⟨w.heap.size, 1, none⟩ = some (.int .u64 ml) := kb; have Q0 := (fun ob => cell_alloc ob q0); have Q1 := (fun ob => cell_alloc ob q1))
    | (go_at_call 16; refine (HI.out _ kg).mono ?_; rintro x w3 ⟨rfl, hg_w3⟩; have r0 : w3.cell? ⟨w2.heap.size, 0, none⟩ = some (.int .u64 z) := kb; have r1 : w3.cell? ⟨w2.heap.size, 1, none⟩ = some (.int .i64 fl) := kb; have R0 := (fun ob => cell_alloc ob r0); have R1 := (fun ob => cell_alloc ob r1))
    | (go_at_call 17; refine (eqResult_same z fl _).mono ?_; rintro x w4 ⟨rfl, hg_w4⟩))
  go_returns
  exact ⟨rfl, kg⟩
end Go.Proofs.YtpfmfbadeebeeaaDoor
