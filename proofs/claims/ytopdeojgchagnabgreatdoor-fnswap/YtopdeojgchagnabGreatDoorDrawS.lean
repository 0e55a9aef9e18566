/- spec's drawing functions of chapter 3: l3DrawTwo. -/
import Derived.Test.YtopdeojgchagnabGreatDoorDrawB
import Derived.BigQuiet
import Derived.WalkSmall
import Derived.Deep.QuietTactic
import Derived.Test.YtopdeojgchagnabGreatDoorL2B
import Derived.Test.YtopdeojgchagnabGreatDoorL3Tn
set_option linter.unusedVariables false
set_option linter.unusedSimpArgs false
namespace Go.Proofs.YtopdeojgchagnabGreatDoor
open Go.RowKit

theorem turned_is (sg v : Int) (h : 0 < sg) : ∃ z, (v < sg ∧ z = v + sg ∨ sg ≤ v ∧ z = v - sg) := by
  by_cases c : v < sg
  · exact ⟨_, .inl ⟨c, rfl⟩⟩
  · exact ⟨_, .inr ⟨by omega, rfl⟩⟩

theorem Gr.drewN {W w : World} (h : Gr W w) (n : Nat) : Gr W (w.drewN n) := by
  obtain ⟨⟨⟨a1, a2, a3⟩, b, c⟩, d⟩ := h
  exact ⟨⟨⟨a1, a2, a3⟩, b, c⟩, below_drewN d n⟩

/-- What l3DrawTwo gives. -/
def TwoDraw (p : Nat) (w : World) (x : Ending) (w' : World) : Prop := ∃ (f m u v : Int) (j : Nat), -10 ≤ f ∧ f ≤ 10 ∧ -10 ≤ m ∧ m ≤ 10 ∧ 0 ≤ u ∧ u < 18446744073709551616 ∧ 0 ≤ v ∧ v < 18446744073709551616 ∧ j ≤ p + 50 ∧ x = .returned (.tuple #[.int .i64 f, .int .i64 m, .int .u64 u, .int .u64 v, .int .i64 j]) ∧ Gr w w'

set_option maxRecDepth 100000 in
set_option maxHeartbeats 8000000 in
theorem drawTwo_any (a : Option Addr) (len cap p : Nat) (w : World) (hC : CodeRow w a len) (hp : p ≤ 600) :
    Calls Tryz.prog 35 #[.slice a len cap, .int .i64 p] w (TwoDraw p w) := by
  have HC : Hid (CodeRow w a len) := hC
  clear hC
  go_enter Tryz.func35, Tryz.ntmps35
  go_upto_region 2 with (go_at_call 89; refine (drawFormat_any a len cap p _ HC.out (by omega)).mono ?_; rintro x w' ⟨f, m, f0, f1, m0, m1, rfl, hw⟩; subst hw)
  go_upto_region 3 with (go_at_call 36; refine (take_any a len cap (p + 2) 8 _ HC.out (by omega) (by omega) (by omega)).mono ?_; rintro x w' ⟨hw8, h0, h1, rfl, hw⟩; subst hw)
  go_upto_region 4 with (go_at_call 36; refine (take_any a len cap (p + 2 + 1) 16 _ HC.out (by omega) (by omega) (by omega)).mono ?_; rintro x w' ⟨x16, x0, x1, rfl, hw⟩; subst hw)
  go_upto_region 5 with (go_at_call 56; refine (drawAny_any a len cap (p + 2 + 1 + 1) f _ HC.out (by omega)).mono ?_; rintro x w' ⟨u, j1, u0, u1, hj1, rfl, hw⟩; subst hw)
  go_upto_region 6 with (go_at_call 56; refine (drawAny_any a len cap j1 f _ HC.out (by omega)).mono ?_; rintro x w' ⟨v, j2, v0, v1, hj2, rfl, hw⟩; subst hw)
  rcases fit_or f u u0 u1 with ⟨pp, mx, one, inf, sg, nan, hF, hu⟩ | hno
  · have hb := hF.bounds
    obtain ⟨z, hz⟩ := turned_is sg u (by omega)
    have HFt : Hid (∀ w, Calls Tryz.prog 72 #[.int .i64 f, .int .u64 u] w fun e w' => e = .returned (.bool true) ∧ w = w') := fun w => l2Fits_yes hF u u0 hu w
    have HTn : Hid (∀ w, Calls Tryz.prog 61 #[.int .i64 f, .int .u64 u] w fun e w' => e = .returned (.int .u64 z) ∧ w = w') := fun w => l3Turned_any hF u z u0 hu hz w
    have HSg : Hid (∀ w, Calls Tryz.prog 62 #[.int .i64 f] w fun e w' => e = .returned (.int .u64 sg) ∧ w = w') := fun w => l2Sign_any hF w
    have HIn : Hid (∀ w, Calls Tryz.prog 59 #[.int .i64 f] w fun e w' => e = .returned (.int .u64 inf) ∧ w = w') := fun w => l2Inf_any hF w
    have HP : Hid (∀ w, Calls Tryz.prog 74 #[.int .i64 f] w fun e w' => e = .returned (.int .i64 pp) ∧ w = w') := fun w => l2P_any hF w
    have HTw : Hid (∀ w, Calls Tryz.prog 73 #[.int .i64 (pp - 1)] w fun e w' => e = .returned (.int .u64 one) ∧ w = w') := fun w => l2One_any hF w
    have z0 : 0 ≤ z ∧ z < 2 * sg := by omega
    clear hz hb
    rcases hF with ⟨rfl, rfl, rfl, rfl, rfl, rfl, rfl⟩ | ⟨rfl, rfl, rfl, rfl, rfl, rfl, rfl⟩
    · skip
      go_upto_region 8 with (go_at_call 72; refine (HFt.out _).mono ?_; rintro x w' ⟨rfl, hw⟩; subst hw)
      rcases (show hw8 = 0 ∨ hw8 = 1 ∨ hw8 = 2 ∨ ((hw8 == 0) = false ∧ (hw8 == 1) = false ∧ (hw8 == 2) = false) by simp; omega) with rfl | rfl | rfl | ⟨k0, k1, k2⟩
      · go_upto_region 10 with (go_at_call 61; refine (HTn.out _).mono ?_; rintro x w' ⟨rfl, hw⟩; subst hw)
        obtain ⟨r, hr⟩ : ∃ r, Int.tmod z 2147483648 = r := ⟨_, rfl⟩
        have r0 : 0 ≤ r := by rw [← hr]; exact (tmod_small z 2147483648 (by omega) (by omega)).1
        rcases (show 8 < r ∧ r < 2139095032 ∨ r ≤ 8 ∨ 8 < r ∧ 2139095032 ≤ r by omega) with ⟨c1, c2⟩ | c1 | ⟨c1, c2⟩
        · have d1 : decide (8 < r) = true := decide_eq_true c1
          have d2 : decide (r < 2139095032) = true := decide_eq_true c2
          go_quiet (first | (go_at_call 62; refine Calls.quiet_of_same ((HSg.out _).mono (fun e w' h => ⟨h.1, h.2.symm⟩))) | (go_at_call 59; refine Calls.quiet_of_same ((HIn.out _).mono (fun e w' h => ⟨h.1, h.2.symm⟩))))
          all_goals go_wp2
          all_goals go_returns
          all_goals exact ⟨_, m, u, _, j2, by omega, by omega, m0, m1, u0, u1, by first | omega | (simp only [IntKind.wrap_u64]; omega), by first | omega | (simp only [IntKind.wrap_u64]; omega), by omega, rfl, by first | exact Gr.refl _ | exact Gr.drewN (Gr.refl _) _ | exact Gr.drew (Gr.refl _)⟩
        · have d1 : decide (8 < r) = false := decide_eq_false (by omega)
          go_quiet (first | (go_at_call 62; refine Calls.quiet_of_same ((HSg.out _).mono (fun e w' h => ⟨h.1, h.2.symm⟩))) | (go_at_call 59; refine Calls.quiet_of_same ((HIn.out _).mono (fun e w' h => ⟨h.1, h.2.symm⟩))))
          all_goals go_wp2
          all_goals go_returns
          all_goals exact ⟨_, m, u, _, j2, by omega, by omega, m0, m1, u0, u1, by first | omega | (simp only [IntKind.wrap_u64]; omega), by first | omega | (simp only [IntKind.wrap_u64]; omega), by omega, rfl, by first | exact Gr.refl _ | exact Gr.drewN (Gr.refl _) _ | exact Gr.drew (Gr.refl _)⟩
        · have d1 : decide (8 < r) = true := decide_eq_true c1
          have d2 : decide (r < 2139095032) = false := decide_eq_false (by omega)
          go_quiet (first | (go_at_call 62; refine Calls.quiet_of_same ((HSg.out _).mono (fun e w' h => ⟨h.1, h.2.symm⟩))) | (go_at_call 59; refine Calls.quiet_of_same ((HIn.out _).mono (fun e w' h => ⟨h.1, h.2.symm⟩))))
          all_goals go_wp2
          all_goals go_returns
          all_goals exact ⟨_, m, u, _, j2, by omega, by omega, m0, m1, u0, u1, by first | omega | (simp only [IntKind.wrap_u64]; omega), by first | omega | (simp only [IntKind.wrap_u64]; omega), by omega, rfl, by first | exact Gr.refl _ | exact Gr.drewN (Gr.refl _) _ | exact Gr.drew (Gr.refl _)⟩
      · go_wp2
        go_returns
        exact ⟨_, m, u, _, j2, by omega, by omega, m0, m1, u0, u1, by first | omega | (simp only [IntKind.wrap_u64]; omega), by first | omega | (simp only [IntKind.wrap_u64]; omega), by omega, rfl, by first | exact Gr.refl _ | exact Gr.drewN (Gr.refl _) _ | exact Gr.drew (Gr.refl _)⟩
      · go_upto_region 17 with (first | (go_at_call 74; refine (HP.out _).mono ?_; rintro x w' ⟨rfl, hw⟩; subst hw) | (go_at_call 73; refine (HTw.out _).mono ?_; rintro x w' ⟨rfl, hw⟩; subst hw) | (go_at_call 61; refine (HTn.out _).mono ?_; rintro x w' ⟨rfl, hw⟩; subst hw))
        all_goals go_quiet (first | (go_at_call 62; refine Calls.quiet_of_same ((HSg.out _).mono (fun e w' h => ⟨h.1, h.2.symm⟩))) | (go_at_call 59; refine Calls.quiet_of_same ((HIn.out _).mono (fun e w' h => ⟨h.1, h.2.symm⟩))))
        all_goals go_wp2
        all_goals go_returns
        all_goals exact ⟨_, m, u, _, j2, by omega, by omega, m0, m1, u0, u1, by first | omega | (simp only [IntKind.wrap_u64]; omega), by first | omega | (simp only [IntKind.wrap_u64]; omega), by omega, rfl, by first | exact Gr.refl _ | exact Gr.drewN (Gr.refl _) _ | exact Gr.drew (Gr.refl _)⟩
      · go_wp2
        go_returns
        exact ⟨_, m, u, _, j2, by omega, by omega, m0, m1, u0, u1, by first | omega | (simp only [IntKind.wrap_u64]; omega), by first | omega | (simp only [IntKind.wrap_u64]; omega), by omega, rfl, by first | exact Gr.refl _ | exact Gr.drewN (Gr.refl _) _ | exact Gr.drew (Gr.refl _)⟩
    · skip
      go_upto_region 8 with (go_at_call 72; refine (HFt.out _).mono ?_; rintro x w' ⟨rfl, hw⟩; subst hw)
      rcases (show hw8 = 0 ∨ hw8 = 1 ∨ hw8 = 2 ∨ ((hw8 == 0) = false ∧ (hw8 == 1) = false ∧ (hw8 == 2) = false) by simp; omega) with rfl | rfl | rfl | ⟨k0, k1, k2⟩
      · go_upto_region 10 with (go_at_call 61; refine (HTn.out _).mono ?_; rintro x w' ⟨rfl, hw⟩; subst hw)
        obtain ⟨r, hr⟩ : ∃ r, Int.tmod z 9223372036854775808 = r := ⟨_, rfl⟩
        have r0 : 0 ≤ r := by rw [← hr]; exact (tmod_small z 9223372036854775808 (by omega) (by omega)).1
        rcases (show 8 < r ∧ r < 9218868437227405304 ∨ r ≤ 8 ∨ 8 < r ∧ 9218868437227405304 ≤ r by omega) with ⟨c1, c2⟩ | c1 | ⟨c1, c2⟩
        · have d1 : decide (8 < r) = true := decide_eq_true c1
          have d2 : decide (r < 9218868437227405304) = true := decide_eq_true c2
          go_quiet (first | (go_at_call 62; refine Calls.quiet_of_same ((HSg.out _).mono (fun e w' h => ⟨h.1, h.2.symm⟩))) | (go_at_call 59; refine Calls.quiet_of_same ((HIn.out _).mono (fun e w' h => ⟨h.1, h.2.symm⟩))))
          all_goals go_wp2
          all_goals go_returns
          all_goals exact ⟨_, m, u, _, j2, by omega, by omega, m0, m1, u0, u1, by first | omega | (simp only [IntKind.wrap_u64]; omega), by first | omega | (simp only [IntKind.wrap_u64]; omega), by omega, rfl, by first | exact Gr.refl _ | exact Gr.drewN (Gr.refl _) _ | exact Gr.drew (Gr.refl _)⟩
        · have d1 : decide (8 < r) = false := decide_eq_false (by omega)
          go_quiet (first | (go_at_call 62; refine Calls.quiet_of_same ((HSg.out _).mono (fun e w' h => ⟨h.1, h.2.symm⟩))) | (go_at_call 59; refine Calls.quiet_of_same ((HIn.out _).mono (fun e w' h => ⟨h.1, h.2.symm⟩))))
          all_goals go_wp2
          all_goals go_returns
          all_goals exact ⟨_, m, u, _, j2, by omega, by omega, m0, m1, u0, u1, by first | omega | (simp only [IntKind.wrap_u64]; omega), by first | omega | (simp only [IntKind.wrap_u64]; omega), by omega, rfl, by first | exact Gr.refl _ | exact Gr.drewN (Gr.refl _) _ | exact Gr.drew (Gr.refl _)⟩
        · have d1 : decide (8 < r) = true := decide_eq_true c1
          have d2 : decide (r < 9218868437227405304) = false := decide_eq_false (by omega)
          go_quiet (first | (go_at_call 62; refine Calls.quiet_of_same ((HSg.out _).mono (fun e w' h => ⟨h.1, h.2.symm⟩))) | (go_at_call 59; refine Calls.quiet_of_same ((HIn.out _).mono (fun e w' h => ⟨h.1, h.2.symm⟩))))
          all_goals go_wp2
          all_goals go_returns
          all_goals exact ⟨_, m, u, _, j2, by omega, by omega, m0, m1, u0, u1, by first | omega | (simp only [IntKind.wrap_u64]; omega), by first | omega | (simp only [IntKind.wrap_u64]; omega), by omega, rfl, by first | exact Gr.refl _ | exact Gr.drewN (Gr.refl _) _ | exact Gr.drew (Gr.refl _)⟩
      · go_wp2
        go_returns
        exact ⟨_, m, u, _, j2, by omega, by omega, m0, m1, u0, u1, by first | omega | (simp only [IntKind.wrap_u64]; omega), by first | omega | (simp only [IntKind.wrap_u64]; omega), by omega, rfl, by first | exact Gr.refl _ | exact Gr.drewN (Gr.refl _) _ | exact Gr.drew (Gr.refl _)⟩
      · go_upto_region 17 with (first | (go_at_call 74; refine (HP.out _).mono ?_; rintro x w' ⟨rfl, hw⟩; subst hw) | (go_at_call 73; refine (HTw.out _).mono ?_; rintro x w' ⟨rfl, hw⟩; subst hw) | (go_at_call 61; refine (HTn.out _).mono ?_; rintro x w' ⟨rfl, hw⟩; subst hw))
        all_goals go_quiet (first | (go_at_call 62; refine Calls.quiet_of_same ((HSg.out _).mono (fun e w' h => ⟨h.1, h.2.symm⟩))) | (go_at_call 59; refine Calls.quiet_of_same ((HIn.out _).mono (fun e w' h => ⟨h.1, h.2.symm⟩))))
        all_goals go_wp2
        all_goals go_returns
        all_goals exact ⟨_, m, u, _, j2, by omega, by omega, m0, m1, u0, u1, by first | omega | (simp only [IntKind.wrap_u64]; omega), by first | omega | (simp only [IntKind.wrap_u64]; omega), by omega, rfl, by first | exact Gr.refl _ | exact Gr.drewN (Gr.refl _) _ | exact Gr.drew (Gr.refl _)⟩
      · go_wp2
        go_returns
        exact ⟨_, m, u, _, j2, by omega, by omega, m0, m1, u0, u1, by first | omega | (simp only [IntKind.wrap_u64]; omega), by first | omega | (simp only [IntKind.wrap_u64]; omega), by omega, rfl, by first | exact Gr.refl _ | exact Gr.drewN (Gr.refl _) _ | exact Gr.drew (Gr.refl _)⟩
  · have HFt : Hid (∀ w, Calls Tryz.prog 72 #[.int .i64 f, .int .u64 u] w fun e w' => e = .returned (.bool false) ∧ w = w') := fun w => l2Fits_no f u u0 hno w
    clear hno
    go_wp2_with (go_at_call 72; refine (HFt.out _).mono ?_; rintro x w' ⟨rfl, hw⟩; subst hw)
    go_returns
    exact ⟨f, m, u, v, j2, f0, f1, m0, m1, u0, u1, v0, v1, by omega, rfl, by first | exact Gr.refl _ | exact Gr.drewN (Gr.refl _) _ | exact Gr.drew (Gr.refl _)⟩
end Go.Proofs.YtopdeojgchagnabGreatDoor
