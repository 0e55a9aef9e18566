/- laws.FnExactRoundPack. -/
import Derived.Test.YtmllepdkbggpmaaDoorRPImpl
import Derived.Test.YtmllepdkbggpmaaDoorRPSpec
set_option linter.unusedVariables false
set_option linter.unusedSimpArgs false
namespace Go.Proofs.YtmllepdkbggpmaaDoor
open Go.RowKit

/-- There is an answer. -/
theorem round_is (p mn mx one inf mode sign : Int) (M : Nat) (e : Int) (rest : Bool) : ∃ z fl, RoundIs p mn mx one inf mode sign M e rest z fl := by
  obtain ⟨top, htop⟩ : ∃ top : Int, top = nb M + e - 1 := ⟨_, rfl⟩
  obtain ⟨E, hE⟩ : ∃ E : Int, top < mn ∧ E = mn ∨ mn ≤ top ∧ E = top := by
    by_cases c : top < mn
    · exact ⟨mn, .inl ⟨c, rfl⟩⟩
    · exact ⟨top, .inr ⟨by omega, rfl⟩⟩
  obtain ⟨hf, hhf⟩ : ∃ hf, hf = cutHalf M e (E - p + 1) rest := ⟨_, rfl⟩
  obtain ⟨r, hr⟩ : ∃ r, r = chosen mode sign (cutLo M e (E - p + 1)) hf := ⟨_, rfl⟩
  obtain ⟨r2, hr2⟩ : ∃ r2, r2 = chosen mode sign (cutLo M e (top - p + 1)) (cutHalf M e (top - p + 1) rest) := ⟨_, rfl⟩
  by_cases c1 : mx < top
  · exact ⟨_, _, top, E, r, r2, hf, htop, hE, hhf, hr, hr2, .inl ⟨c1, rfl, rfl⟩⟩
  · by_cases c2 : inf ≤ r + one * (E - mn)
    · exact ⟨_, _, top, E, r, r2, hf, htop, hE, hhf, hr, hr2, .inr (.inl ⟨by omega, c2, rfl, rfl⟩)⟩
    · rcases Nat.eq_zero_or_pos hf with c3 | c3
      · exact ⟨_, _, top, E, r, r2, hf, htop, hE, hhf, hr, hr2, .inr (.inr ⟨by omega, by omega, rfl, .inl ⟨c3, rfl⟩⟩)⟩
      · by_cases c4 : top < mn - 1 ∨ top = mn - 1 ∧ (r2 : Int) < 2 * one
        · exact ⟨_, _, top, E, r, r2, hf, htop, hE, hhf, hr, hr2, .inr (.inr ⟨by omega, by omega, rfl, .inr (.inl ⟨c3, c4, rfl⟩)⟩)⟩
        · exact ⟨_, _, top, E, r, r2, hf, htop, hE, hhf, hr, hr2, .inr (.inr ⟨by omega, by omega, rfl, .inr (.inr ⟨c3, by omega, rfl⟩)⟩)⟩

theorem rule_of (mode : Int) (m0 : 0 ≤ mode) (m1 : mode ≤ 4) : ∃ k, IsRule mode k := by
  unfold IsRule
  rcases (show mode = 0 ∨ mode = 1 ∨ mode = 2 ∨ mode = 3 ∨ mode = 4 by omega) with rfl | rfl | rfl | rfl | rfl
  · exact ⟨_, .inl ⟨rfl, rfl⟩⟩
  · exact ⟨_, .inr (.inl ⟨rfl, rfl⟩)⟩
  · exact ⟨_, .inr (.inr (.inl ⟨rfl, rfl⟩))⟩
  · exact ⟨_, .inr (.inr (.inr (.inl ⟨rfl, rfl⟩)))⟩
  · exact ⟨_, .inr (.inr (.inr (.inr ⟨rfl, rfl⟩)))⟩

theorem sv_sw (sign sg z : Int) : sv sign sg z = sw sign sg z := by unfold sv sw; split <;> omega

/-- Both RoundPacks answer alike, at every argument. -/
theorem rp_same (f mode sign exp : Int) (h l : Nat) (sticky : Bool) (h1 : h < 18446744073709551616) (l1 : l < 18446744073709551616) :
    ∃ z fl : Int, (∀ w, Calls Tryd.prog 12 #[.int .i64 f, .int .i64 mode, .int .i64 sign, .int .i64 exp, .agg #[.int .u64 (h : Nat), .int .u64 (l : Nat)], .bool sticky] w fun x w' => x = .returned (.agg #[.int .u64 z, .int .i64 fl]) ∧ Gb w w') ∧
      (∀ w, Fm w → Calls Tryd.prog 14 #[.int .i64 f, .int .i64 mode, .int .i64 sign, .int .i64 exp, .agg #[.int .u64 (h : Nat), .int .u64 (l : Nat)], .bool sticky] w fun x w' => x = .returned (.agg #[.int .u64 z, .int .i64 fl]) ∧ Gr w w') := by
  by_cases hf : f = 0 ∨ f = 1
  · obtain ⟨p, mx, one, inf, sg, nan, hF⟩ : ∃ p mx one inf sg nan, IsFmt f p mx one inf sg nan := by
      rcases hf with rfl | rfl
      · exact ⟨_, _, _, _, _, _, .inl ⟨rfl, rfl, rfl, rfl, rfl, rfl, rfl⟩⟩
      · exact ⟨_, _, _, _, _, _, .inr ⟨rfl, rfl, rfl, rfl, rfl, rfl, rfl⟩⟩
    obtain ⟨mn, fb, sp, hm, hmn, hfb⟩ := hF.m
    obtain ⟨b1, b2, b3, b4, b5, b6, b7, b8, b9, b10, b11, b12⟩ := hF.bounds
    by_cases hv : (0 ≤ mode ∧ mode ≤ 4) ∧ (0 ≤ sign ∧ sign ≤ 1) ∧ -100000 ≤ exp ∧ exp ≤ 100000
    · obtain ⟨⟨m0, m1⟩, ⟨s0, s1⟩, e0, e1⟩ := hv
      obtain ⟨k, hk⟩ := rule_of mode m0 m1
      have HW : Hid (∀ w, Calls Tryd.prog 41 #[.int .i64 mode] w fun x w' => x = .returned (.tuple #[.func (.func k) #[] #[], .bool true]) ∧ Gr w w') := fun w => ruleOf_yes mode k hk w
      obtain ⟨M, hM⟩ : ∃ M, h * 18446744073709551616 + l = M := ⟨_, rfl⟩
      have hMb : M < 340282366920938463463374607431768211456 := by omega
      have hMh : M / 18446744073709551616 = h := by omega
      have hMl : M % 18446744073709551616 = l := by omega
      by_cases hst : sticky = true ∧ (nb M : Int) < p + 2
      · obtain ⟨rfl, hn⟩ := hst
        refine ⟨nan, 1, fun w => specRP_sticky hF mode sign exp h l h1 l1 m0 m1 s0 s1 e0 e1 (by rw [hM]; exact hn) w, fun w hw => ?_⟩
        refine implRP_sticky (ri_of hF hm mode hw) sign exp _ _ _ HW s0 s1 e0 e1 (fun w => ?_)
        have := stickyFits_any (mn := mn) (mx := mx) b1 b2 M hMb false (by symm; exact decide_eq_false (by omega)) w
        rw [hMh, hMl] at this
        exact this
      · have hst2 : sticky = true → p + 2 ≤ (nb M : Int) := fun c => by
          rcases Int.lt_or_le (nb M : Int) (p + 2) with k | k
          · exact absurd ⟨c, k⟩ hst
          · exact k
        have HSt : sticky = true → Hid (∀ w, Calls Tryd.prog 42 #[.agg #[.int .i64 p, .int .i64 mn, .int .i64 mx], .agg #[.int .u64 (h : Nat), .int .u64 (l : Nat)]] w fun x w' => x = .returned (.bool true) ∧ Gr w w') := fun c w => by
          have := stickyFits_any (mn := mn) (mx := mx) b1 b2 M hMb true (by symm; exact decide_eq_true (hst2 c)) w
          rw [hMh, hMl] at this
          exact this
        rcases Nat.eq_zero_or_pos M with hz | hpos
        · have hs0 : sticky = false := by
            cases sticky
            · rfl
            · have := hst2 rfl
              rw [hz, nb_zero] at this
              omega
          subst hs0
          obtain rfl : h = 0 := by omega
          obtain rfl : l = 0 := by omega
          refine ⟨sw sign sg 0, 0, fun w => specRP_zero hF mode sign exp m0 m1 s0 s1 e0 e1 w, fun w hw => ?_⟩
          refine (implRP_ok (ri_of hF hm mode hw) sign exp _ _ false _ HW s0 s1 e0 e1 HSt (fun z fl => z = sw sign sg 0 ∧ fl = 0) (fun w => ?_)).mono ?_
          · refine (round_zero hm (.func (.func k) #[] #[]) sign (by omega) exp e0 e1 false w).mono ?_
            rintro x w' ⟨rfl, hg⟩
            exact ⟨_, _, ⟨sv_sw _ _ _, rfl⟩, rfl, hg⟩
          · rintro x w' ⟨z, fl, ⟨rfl, rfl⟩, rfl, hg⟩
            exact ⟨rfl, hg⟩
        · obtain ⟨z, fl, hri⟩ := round_is p mn mx one inf mode sign M exp sticky
          refine ⟨sw sign sg z, fl, fun w => ?_, fun w hw => ?_⟩
          · refine (specRP_num hF mode sign exp h l sticky h1 l1 m0 m1 s0 s1 e0 e1 (by omega) (by rw [hM]; exact hst2) w).mono ?_
            rintro x w' ⟨z', fl', hri', _, _, rfl, hg⟩
            rw [hM, ← hmn] at hri'
            obtain ⟨rfl, rfl⟩ := RoundIs.one hri hri'
            exact ⟨rfl, hg⟩
          · refine (implRP_ok (ri_of hF hm mode hw) sign exp _ _ sticky _ HW s0 s1 e0 e1 HSt (fun z' fl' => z' = sw sign sg z ∧ fl' = fl) (fun w => ?_)).mono ?_
            · have := round_num hm mode k hk sign (by omega) exp e0 e1 M hpos hMb sticky hst2 w
              rw [hMh, hMl] at this
              refine this.mono ?_
              rintro x w' ⟨z', fl', hri', rfl, hg⟩
              obtain ⟨rfl, rfl⟩ := RoundIs.one hri hri'
              exact ⟨_, _, ⟨sv_sw _ _ _, rfl⟩, rfl, hg⟩
            · rintro x w' ⟨z', fl', ⟨rfl, rfl⟩, rfl, hg⟩
              exact ⟨rfl, hg⟩
    · refine ⟨nan, 1, fun w => specRP_bad hF mode sign exp h l sticky (by omega) w, fun w hw => ?_⟩
      by_cases hmode : 0 ≤ mode ∧ mode ≤ 4
      · obtain ⟨k, hk⟩ := rule_of mode hmode.1 hmode.2
        exact implRP_bad (ri_of hF hm mode hw) sign exp _ _ sticky (.func (.func k) #[] #[]) (.inr ⟨fun w => ruleOf_yes mode k hk w, by omega⟩)
      · exact implRP_bad (ri_of hF hm mode hw) sign exp _ _ sticky Value.nilFunc (.inl (fun w => ruleOf_no mode (by omega) w))
  · exact ⟨_, 1, fun w => specRP_none f mode sign exp h l sticky hf w, fun w hw => implRP_none f mode sign exp _ _ sticky hf hw⟩

theorem toWide_gr (a0 a1 : Int) (w : World) :
    Calls Tryd.prog 13 #[.agg #[.int .u64 a0, .int .u64 a1]] w fun e w' => e = .returned (.agg #[.int .u64 a0, .int .u64 a1]) ∧ Gr w w' := by
  go_enter Tryd.func13, Tryd.ntmps13
  go_wp2
  go_returns
  exact ⟨rfl, by (repeat' (first | (with_reducible assumption) | (with_reducible exact Gr.refl _) | (with_reducible refine Gr.alloc ?_ _ _) | (with_reducible refine Gr.drew ?_) | (with_reducible refine Gr.setCell ?_ ?_ _) | (with_reducible refine Gr.trans ?_ (by with_reducible assumption)) | go_size))⟩
theorem eqResult_same (z fl : Int) (w : World) :
    Calls Tryd.prog 15 #[.agg #[.int .u64 z, .int .i64 fl], .agg #[.int .u64 z, .int .i64 fl]] w fun e w' => e = .returned (.bool true) ∧ Gr w w' := by
  go_enter Tryd.func15, Tryd.ntmps15
  go_wp2
  go_returns
  exact ⟨rfl, by (repeat' (first | (with_reducible assumption) | (with_reducible exact Gr.refl _) | (with_reducible refine Gr.alloc ?_ _ _) | (with_reducible refine Gr.drew ?_) | (with_reducible refine Gr.setCell ?_ ?_ _) | (with_reducible refine Gr.trans ?_ (by with_reducible assumption)) | go_size))⟩

set_option maxRecDepth 100000 in
set_option maxHeartbeats 2000000 in
theorem lawRP (f mode sign exp mh ml : Int) (sticky : Bool) (f0 : -9223372036854775808 ≤ f) (f1 : f < 9223372036854775808) (m0 : -9223372036854775808 ≤ mode) (m1 : mode < 9223372036854775808) (s0 : -9223372036854775808 ≤ sign) (s1 : sign < 9223372036854775808) (e0 : -9223372036854775808 ≤ exp) (e1 : exp < 9223372036854775808) (h0 : 0 ≤ mh) (h1 : mh < 18446744073709551616) (l0 : 0 ≤ ml) (l1 : ml < 18446744073709551616) {w : World} (hw : Fm w) :
    Calls Tryd.prog 5 #[.int .i64 f, .int .i64 mode, .int .i64 sign, .int .i64 exp, .agg #[.int .u64 mh, .int .u64 ml], .bool sticky] w fun e w' => e = .returned (.bool true) ∧ Gb w w' := by
  obtain ⟨h, rfl⟩ := Int.eq_ofNat_of_zero_le h0
  obtain ⟨l, rfl⟩ := Int.eq_ofNat_of_zero_le l0
  obtain ⟨z, fl, HA, HB⟩ := rp_same f mode sign exp h l sticky (by omega) (by omega)
  generalize ((h : Nat) : Int) = mh at *
  generalize ((l : Nat) : Int) = ml at *
  have HS : Hid (∀ w, Calls Tryd.prog 12 #[.int .i64 f, .int .i64 mode, .int .i64 sign, .int .i64 exp, .agg #[.int .u64 mh, .int .u64 ml], .bool sticky] w fun x w' => x = .returned (.agg #[.int .u64 z, .int .i64 fl]) ∧ Gb w w') := HA
  have HI : Hid (∀ w', Gb w w' → Calls Tryd.prog 14 #[.int .i64 f, .int .i64 mode, .int .i64 sign, .int .i64 exp, .agg #[.int .u64 mh, .int .u64 ml], .bool sticky] w' fun x w'' => x = .returned (.agg #[.int .u64 z, .int .i64 fl]) ∧ Gr w' w'') := fun w' hg => HB w' (hw.gb hg)
  clear HA HB hw
  go_enter Tryd.func5, Tryd.ntmps5
  go_wp2_with (first
    | (go_at_call 13; refine (toWide_gr _ _ _).mono ?_; rintro x wt ⟨rfl, hg_wt⟩; (try (have ts0 : wt.cell? ⟨w2.heap.size, 0, none⟩ = some (.int .u64 z) := (by (repeat' (first | (with_reducible assumption) | (with_reducible refine has_of (by with_reducible assumption)) | (with_reducible refine Gr.old (by with_reducible assumption) ?_) | (with_reducible refine Gb.old (by with_reducible assumption) ?_) | (with_reducible refine cell_swap _ ?_ (by with_reducible assumption); omega) | (with_reducible refine cell_setSame ?_) | (with_reducible refine has_old (by with_reducible assumption) ?_) | (with_reducible refine has_set ?_) | (with_reducible refine cell_setOff ?_ ?_; omega) | (with_reducible refine cell_setNew ?_ ?_; (dsimp only; omega)) | (simp [go_sem]; done) | (simp [go_sem]; rfl) | (with_reducible refine cell_alloc _ ?_) | (with_reducible refine cell_drew ?_) | (with_reducible refine has_alloc _ ?_) | (with_reducible refine fz_old (by with_reducible assumption) ?_) | (with_reducible refine Gb.fzc (by with_reducible assumption) (by first | (with_reducible assumption) | (with_reducible exact cell_drew (by with_reducible assumption))) ?_) | (with_reducible refine Gb.fz (by with_reducible assumption) ?_ ?_) | go_size | (with_reducible refine fz_alloc ?_) | (with_reducible refine fz_set ?_) | (with_reducible refine fz_drew ?_)))); have ts1 : wt.cell? ⟨w2.heap.size, 1, none⟩ = some (.int .i64 fl) := (by (repeat' (first | (with_reducible assumption) | (with_reducible refine has_of (by with_reducible assumption)) | (with_reducible refine Gr.old (by with_reducible assumption) ?_) | (with_reducible refine Gb.old (by with_reducible assumption) ?_) | (with_reducible refine cell_swap _ ?_ (by with_reducible assumption); omega) | (with_reducible refine cell_setSame ?_) | (with_reducible refine has_old (by with_reducible assumption) ?_) | (with_reducible refine has_set ?_) | (with_reducible refine cell_setOff ?_ ?_; omega) | (with_reducible refine cell_setNew ?_ ?_; (dsimp only; omega)) | (simp [go_sem]; done) | (simp [go_sem]; rfl) | (with_reducible refine cell_alloc _ ?_) | (with_reducible refine cell_drew ?_) | (with_reducible refine has_alloc _ ?_) | (with_reducible refine fz_old (by with_reducible assumption) ?_) | (with_reducible refine Gb.fzc (by with_reducible assumption) (by first | (with_reducible assumption) | (with_reducible exact cell_drew (by with_reducible assumption))) ?_) | (with_reducible refine Gb.fz (by with_reducible assumption) ?_ ?_) | go_size | (with_reducible refine fz_alloc ?_) | (with_reducible refine fz_set ?_) | (with_reducible refine fz_drew ?_)))))))
    | (go_at_call 12; refine (HS.out _).mono ?_; rintro x w2 ⟨rfl, hg_w2⟩; have q0 : w2.cell? ⟨w.heap.size, 0, none⟩ = some (.int .u64 mh) := (by (repeat' (first | (with_reducible assumption) | (with_reducible refine has_of (by with_reducible assumption)) | (with_reducible refine Gr.old (by with_reducible assumption) ?_) | (with_reducible refine Gb.old (by with_reducible assumption) ?_) | (with_reducible refine cell_swap _ ?_ (by with_reducible assumption); omega) | (with_reducible refine cell_setSame ?_) | (with_reducible refine has_old (by with_reducible assumption) ?_) | (with_reducible refine has_set ?_) | (with_reducible refine cell_setOff ?_ ?_; omega) | (with_reducible refine cell_setNew ?_ ?_; (dsimp only; omega)) | (simp [go_sem]; done) | (simp [go_sem]; rfl) | (with_reducible refine cell_alloc _ ?_) | (with_reducible refine cell_drew ?_) | (with_reducible refine has_alloc _ ?_) | (with_reducible refine fz_old (by with_reducible assumption) ?_) | (with_reducible refine Gb.fzc (by with_reducible assumption) (by first | (with_reducible assumption) | (with_reducible exact cell_drew (by with_reducible assumption))) ?_) | (with_reducible refine Gb.fz (by with_reducible assumption) ?_ ?_) | go_size | (with_reducible refine fz_alloc ?_) | (with_reducible refine fz_set ?_) | (with_reducible refine fz_drew ?_)))); have q1 : w2.cell? ⟨w.heap.size, 1, none⟩ = some (.int .u64 ml) := (by (repeat' (first | (with_reducible assumption) | (with_reducible refine has_of (by with_reducible assumption)) | (with_reducible refine Gr.old (by with_reducible assumption) ?_) | (with_reducible refine Gb.old (by with_reducible assumption) ?_) | (with_reducible refine cell_swap _ ?_ (by with_reducible assumption); omega) | (with_reducible refine cell_setSame ?_) | (with_reducible refine has_old (by with_reducible assumption) ?_) | (with_reducible refine has_set ?_) | (with_reducible refine cell_setOff ?_ ?_; omega) | (with_reducible refine cell_setNew ?_ ?_; (dsimp only; omega)) | (simp [go_sem]; done) | (simp [go_sem]; rfl) | (with_reducible refine cell_alloc _ ?_) | (with_reducible refine cell_drew ?_) | (with_reducible refine has_alloc _ ?_) | (with_reducible refine fz_old (by with_reducible assumption) ?_) | (with_reducible refine Gb.fzc (by with_reducible assumption) (by first | (with_reducible assumption) | (with_reducible exact cell_drew (by with_reducible assumption))) ?_) | (with_reducible refine Gb.fz (by with_reducible assumption) ?_ ?_) | go_size | (with_reducible refine fz_alloc ?_) | (with_reducible refine fz_set ?_) | (with_reducible refine fz_drew ?_)))); have Q0 := (fun ob => cell_alloc ob q0); have Q1 := (fun ob => cell_alloc ob q1))
    | (go_at_call 14; refine (HI.out _ (by (repeat' (first | (with_reducible assumption) | (with_reducible exact Gb.refl _) | (with_reducible exact Hid.out (by with_reducible assumption)) | (with_reducible refine Gb.alloc ?_ _) | (with_reducible refine Gb.drew ?_) | (with_reducible refine Gb.setCell ?_ ?_ _) | (with_reducible refine Gb.trans ?_ (by with_reducible assumption)) | (with_reducible refine Gb.trans ?_ (Gr.gb (by with_reducible assumption))) | go_size)))).mono ?_; rintro x w3 ⟨rfl, hg_w3⟩; have r0 : w3.cell? ⟨w2.heap.size, 0, none⟩ = some (.int .u64 z) := (by (repeat' (first | (with_reducible assumption) | (with_reducible refine has_of (by with_reducible assumption)) | (with_reducible refine Gr.old (by with_reducible assumption) ?_) | (with_reducible refine Gb.old (by with_reducible assumption) ?_) | (with_reducible refine cell_swap _ ?_ (by with_reducible assumption); omega) | (with_reducible refine cell_setSame ?_) | (with_reducible refine has_old (by with_reducible assumption) ?_) | (with_reducible refine has_set ?_) | (with_reducible refine cell_setOff ?_ ?_; omega) | (with_reducible refine cell_setNew ?_ ?_; (dsimp only; omega)) | (simp [go_sem]; done) | (simp [go_sem]; rfl) | (with_reducible refine cell_alloc _ ?_) | (with_reducible refine cell_drew ?_) | (with_reducible refine has_alloc _ ?_) | (with_reducible refine fz_old (by with_reducible assumption) ?_) | (with_reducible refine Gb.fzc (by with_reducible assumption) (by first | (with_reducible assumption) | (with_reducible exact cell_drew (by with_reducible assumption))) ?_) | (with_reducible refine Gb.fz (by with_reducible assumption) ?_ ?_) | go_size | (with_reducible refine fz_alloc ?_) | (with_reducible refine fz_set ?_) | (with_reducible refine fz_drew ?_)))); have r1 : w3.cell? ⟨w2.heap.size, 1, none⟩ = some (.int .i64 fl) := (by (repeat' (first | (with_reducible assumption) | (with_reducible refine has_of (by with_reducible assumption)) | (with_reducible refine Gr.old (by with_reducible assumption) ?_) | (with_reducible refine Gb.old (by with_reducible assumption) ?_) | (with_reducible refine cell_swap _ ?_ (by with_reducible assumption); omega) | (with_reducible refine cell_setSame ?_) | (with_reducible refine has_old (by with_reducible assumption) ?_) | (with_reducible refine has_set ?_) | (with_reducible refine cell_setOff ?_ ?_; omega) | (with_reducible refine cell_setNew ?_ ?_; (dsimp only; omega)) | (simp [go_sem]; done) | (simp [go_sem]; rfl) | (with_reducible refine cell_alloc _ ?_) | (with_reducible refine cell_drew ?_) | (with_reducible refine has_alloc _ ?_) | (with_reducible refine fz_old (by with_reducible assumption) ?_) | (with_reducible refine Gb.fzc (by with_reducible assumption) (by first | (with_reducible assumption) | (with_reducible exact cell_drew (by with_reducible assumption))) ?_) | (with_reducible refine Gb.fz (by with_reducible assumption) ?_ ?_) | go_size | (with_reducible refine fz_alloc ?_) | (with_reducible refine fz_set ?_) | (with_reducible refine fz_drew ?_)))); have R0 := (fun ob => cell_alloc ob r0); have R1 := (fun ob => cell_alloc ob r1))
    | (go_at_call 15; refine (eqResult_same z fl _).mono ?_; rintro x w4 ⟨rfl, hg_w4⟩))
  go_returns
  exact ⟨rfl, by (repeat' (first | (with_reducible assumption) | (with_reducible exact Gb.refl _) | (with_reducible exact Hid.out (by with_reducible assumption)) | (with_reducible refine Gb.alloc ?_ _) | (with_reducible refine Gb.drew ?_) | (with_reducible refine Gb.setCell ?_ ?_ _) | (with_reducible refine Gb.trans ?_ (by with_reducible assumption)) | (with_reducible refine Gb.trans ?_ (Gr.gb (by with_reducible assumption))) | go_size))⟩
end Go.Proofs.YtmllepdkbggpmaaDoor
