/- spec.DrawAdd, spec.DrawFma. -/
import Derived.Test.YtopdeojgchagnabGreatDoorDrawS
import Derived.Test.YtopdeojgchagnabGreatDoorA7
set_option linter.unusedVariables false
set_option linter.unusedSimpArgs false
namespace Go.Proofs.YtopdeojgchagnabGreatDoor
open Go.RowKit

theorem Gb.drewN {W w : World} (h : Gb W w) (n : Nat) : Gb W (w.drewN n) := below_drewN h n

def AddDraw (w : World) (x : Ending) (w' : World) : Prop := ∃ f m u v : Int, -10 ≤ f ∧ f ≤ 10 ∧ -10 ≤ m ∧ m ≤ 10 ∧ 0 ≤ u ∧ u < 18446744073709551616 ∧ 0 ≤ v ∧ v < 18446744073709551616 ∧ x = .returned (.tuple #[.int .i64 f, .int .i64 m, .int .u64 u, .int .u64 v]) ∧ Gr w w'
def FmaDraw (w : World) (x : Ending) (w' : World) : Prop := ∃ f m u v t : Int, -10 ≤ f ∧ f ≤ 10 ∧ -10 ≤ m ∧ m ≤ 10 ∧ 0 ≤ u ∧ u < 18446744073709551616 ∧ 0 ≤ v ∧ v < 18446744073709551616 ∧ 0 ≤ t ∧ t < 18446744073709551616 ∧ x = .returned (.tuple #[.int .i64 f, .int .i64 m, .int .u64 u, .int .u64 v, .int .u64 t]) ∧ Gb w w'

set_option maxRecDepth 100000 in
set_option maxHeartbeats 2000000 in
theorem drawAdd_any (a : Option Addr) (len cap : Nat) (w : World) (hC : CodeRow w a len) : Calls Tryz.prog 14 #[.slice a len cap] w (AddDraw w) := by
  have HC : Hid (CodeRow w a len) := hC
  clear hC
  go_enter Tryz.func14, Tryz.ntmps14
  go_wp2_with (go_at_call 35; refine (drawTwo_any a len cap 0 _ HC.out (by omega)).mono ?_; rintro x w1 ⟨f, m, u, v, j, f0, f1, m0, m1, u0, u1, v0, v1, hj, rfl, hg_w1⟩)
  go_returns
  exact ⟨f, m, u, v, f0, f1, m0, m1, u0, u1, v0, v1, rfl, hg_w1⟩

set_option maxRecDepth 100000 in
set_option maxHeartbeats 8000000 in
theorem drawFma_any (a : Option Addr) (len cap : Nat) (w : World) (hC : CodeRow w a len)
    (HFi : Hid (∀ f mode a b : Int, 0 ≤ a → a < 18446744073709551616 → 0 ≤ b → b < 18446744073709551616 → (∃ p mx one inf sg nan, IsFmt f p mx one inf sg nan ∧ Hid (∀ w, Calls Tryz.prog 37 #[.int .i64 f, .int .i64 mode, .int .u64 a, .int .u64 b] w fun e w' => e = .returned (.bool true) ∧ w = w')) ∨ Hid (∀ w, Calls Tryz.prog 37 #[.int .i64 f, .int .i64 mode, .int .u64 a, .int .u64 b] w fun e w' => e = .returned (.bool false) ∧ w = w')))
    (HMu : Hid (∀ f p mx one inf sg nan a b : Int, IsFmt f p mx one inf sg nan → 0 ≤ a → a < 18446744073709551616 → 0 ≤ b → b < 18446744073709551616 → ∃ Z fl : Int, 0 ≤ Z ∧ Z < 2 * sg ∧ Hid (∀ w, Calls Tryz.prog 18 #[.int .i64 f, .int .i64 0, .int .u64 a, .int .u64 b] w fun e w' => e = .returned (.agg #[.int .u64 Z, .int .i64 fl]) ∧ Gb w w'))) :
    Calls Tryz.prog 16 #[.slice a len cap] w (FmaDraw w) := by
  have HC : Hid (∀ w', Gr w w' → CodeRow w' a len) := fun w' hg => hC.gr hg
  clear hC
  go_enter Tryz.func16, Tryz.ntmps16
  go_upto_region 2 with (go_at_call 35; refine (drawTwo_any a len cap 0 _ (HC.out _ (Gr.refl _)) (by omega)).mono ?_; rintro x w1 ⟨f, m, u, v, j, f0, f1, m0, m1, u0, u1, v0, v1, hj, rfl, hg_w1⟩)
  go_upto_region 3 with (go_at_call 36; refine (take_any a len cap j 8 _ (HC.out _ hg_w1) (by omega) (by omega) (by omega)).mono ?_; rintro x w' ⟨hw8, h0, h1, rfl, hw⟩; subst hw)
  go_upto_region 4 with (go_at_call 56; refine (drawAny_any a len cap (j + 1) f _ (HC.out _ hg_w1) (by omega)).mono ?_; rintro x w' ⟨t, j1, t0, t1, hj1, rfl, hw⟩; subst hw)
  go_upto_region 5 with (go_at_call 36; refine (take_any a len cap j1 5 _ (HC.out _ hg_w1) (by omega) (by omega) (by omega)).mono ?_; rintro x w' ⟨x5, x0, x1, rfl, hw⟩; subst hw)
  have hgb1 : Gb w w1 := hg_w1.gb
  rcases (show hw8 = 3 ∨ ((hw8 == 3) = false ∧ 3 ≤ hw8) ∨ ((hw8 == 3) = false ∧ hw8 < 3) by simp; omega) with rfl | ⟨k1, k2⟩ | ⟨k1, k2⟩
  · by_cases hf : f = 0 ∨ f = 1
    · obtain ⟨pp, mx, one, inf, sg, nan, hF⟩ : ∃ p mx one inf sg nan, IsFmt f p mx one inf sg nan := by
        rcases hf with rfl | rfl
        · exact ⟨_, _, _, _, _, _, .inl ⟨rfl, rfl, rfl, rfl, rfl, rfl, rfl⟩⟩
        · exact ⟨_, _, _, _, _, _, .inr ⟨rfl, rfl, rfl, rfl, rfl, rfl, rfl⟩⟩
      have hb := hF.bounds
      have HFm : Hid (∀ w, Calls Tryz.prog 57 #[.int .i64 f] w fun e w' => e = .returned (.bool true) ∧ w = w') := fun w => l2Format_any f true (IsFmt.yes hF) w
      have HIn : Hid (∀ w, Calls Tryz.prog 59 #[.int .i64 f] w fun e w' => e = .returned (.int .u64 inf) ∧ w = w') := fun w => l2Inf_any hF w
      have HNa : Hid (∀ w, Calls Tryz.prog 60 #[.int .i64 f] w fun e w' => e = .returned (.int .u64 nan) ∧ w = w') := fun w => l2Nan_any hF w
      have HPu : Hid (∀ s v w, (s = 0 ∨ s = 1) → 0 ≤ v → v < 18446744073709551616 → Calls Tryz.prog 58 #[.int .i64 f, .int .i64 s, .int .u64 v] w fun e w' => ∃ z : Int, 0 ≤ z ∧ z < 18446744073709551616 ∧ e = .returned (.int .u64 z) ∧ w = w') := fun s v w hs v0 v1 => l2Put_some hF s v hs v0 v1 w
      clear hF hf
      rcases (show x5 = 0 ∨ x5 = 1 ∨ x5 = 2 ∨ x5 = 3 ∨ x5 = 4 by omega) with rfl | rfl | rfl | rfl | rfl
      all_goals
        go_wp2_with (first
          | (go_at_call 57; refine (HFm.out _).mono ?_; rintro x w' ⟨rfl, hw⟩; subst hw)
          | (go_at_call 59; refine (HIn.out _).mono ?_; rintro x w' ⟨rfl, hw⟩; subst hw)
          | (go_at_call 60; refine (HNa.out _).mono ?_; rintro x w' ⟨rfl, hw⟩; subst hw)
          | (go_at_call 58; refine (HPu.out _ _ _ (by omega) (by omega) (by omega)).mono ?_; rintro x w' ⟨z, z0, z1, rfl, hw⟩; subst hw))
        go_returns
        exact ⟨f, m, _, _, _, f0, f1, m0, m1, by omega, by omega, by omega, by omega, by first | omega | (simp only [IntKind.wrap_u64]; omega), by first | omega | (simp only [IntKind.wrap_u64]; omega), rfl, hgb1⟩
    · have HFm : Hid (∀ w, Calls Tryz.prog 57 #[.int .i64 f] w fun e w' => e = .returned (.bool false) ∧ w = w') := fun w => l2Format_any f false (by symm; simp; omega) w
      clear hf
      go_wp2_with (go_at_call 57; refine (HFm.out _).mono ?_; rintro x w' ⟨rfl, hw⟩; subst hw)
      go_returns
      exact ⟨f, m, u, v, t, f0, f1, m0, m1, u0, u1, v0, v1, t0, t1, rfl, hgb1⟩
  · go_wp2
    go_returns
    exact ⟨f, m, u, v, t, f0, f1, m0, m1, u0, u1, v0, v1, t0, t1, rfl, hgb1⟩
  · rcases HFi.out f m u v u0 u1 v0 v1 with ⟨pp, mx, one, inf, sg, nan, hF, HFt⟩ | HFt
    · have hb := hF.bounds
      obtain ⟨Z, fl, Z0, Z1, HM⟩ := HMu.out f pp mx one inf sg nan u v hF u0 u1 v0 v1
      obtain ⟨z, hz⟩ := turned_is sg Z (by omega)
      have HTn : Hid (∀ w, Calls Tryz.prog 61 #[.int .i64 f, .int .u64 Z] w fun e w' => e = .returned (.int .u64 z) ∧ w = w') := fun w => l3Turned_any hF Z z Z0 Z1 hz w
      have HSg : Hid (∀ w, Calls Tryz.prog 62 #[.int .i64 f] w fun e w' => e = .returned (.int .u64 sg) ∧ w = w') := fun w => l2Sign_any hF w
      have HIn : Hid (∀ w, Calls Tryz.prog 59 #[.int .i64 f] w fun e w' => e = .returned (.int .u64 inf) ∧ w = w') := fun w => l2Inf_any hF w
      have z0 : 0 ≤ z ∧ z < 2 * sg := by omega
      clear hz hb HMu HFi
      rcases hF with ⟨rfl, rfl, rfl, rfl, rfl, rfl, rfl⟩ | ⟨rfl, rfl, rfl, rfl, rfl, rfl, rfl⟩
      · go_upto_region 15 with (first
          | (go_at_call 37; refine (HFt.out _).mono ?_; rintro x w' ⟨rfl, hw⟩; subst hw)
          | (go_at_call 18; refine (HM.out _).mono ?_; rintro x w2 ⟨rfl, hg_w2⟩)
          | (go_at_call 61; refine (HTn.out _).mono ?_; rintro x w' ⟨rfl, hw⟩; subst hw))
        obtain ⟨r, hr⟩ : ∃ r, Int.tmod z 2147483648 = r := ⟨_, rfl⟩
        have r0 : 0 ≤ r := by rw [← hr]; exact (tmod_small z 2147483648 (by omega) (by omega)).1
        rcases (show 4 < r ∧ r < 2139095036 ∨ r ≤ 4 ∨ 4 < r ∧ 2139095036 ≤ r by omega) with ⟨c1, c2⟩ | c1 | ⟨c1, c2⟩
        · have d1 : decide (4 < r) = true := decide_eq_true c1
          have d2 : decide (r < 2139095036) = true := decide_eq_true c2
          go_quiet (first | (go_at_call 62; refine Calls.quiet_of_same ((HSg.out _).mono (fun e w' h => ⟨h.1, h.2.symm⟩))) | (go_at_call 59; refine Calls.quiet_of_same ((HIn.out _).mono (fun e w' h => ⟨h.1, h.2.symm⟩))))
          go_wp2
          go_returns
          exact ⟨_, m, u, v, _, by omega, by omega, m0, m1, u0, u1, v0, v1, by first | omega | (simp only [IntKind.wrap_u64]; omega), by first | omega | (simp only [IntKind.wrap_u64]; omega), rfl, Gb.drewN ((hgb1.trans hg_w2).alloc _) _⟩
        · have d1 : decide (4 < r) = false := decide_eq_false (by omega)
          go_quiet (first | (go_at_call 62; refine Calls.quiet_of_same ((HSg.out _).mono (fun e w' h => ⟨h.1, h.2.symm⟩))) | (go_at_call 59; refine Calls.quiet_of_same ((HIn.out _).mono (fun e w' h => ⟨h.1, h.2.symm⟩))))
          go_wp2
          go_returns
          exact ⟨_, m, u, v, _, by omega, by omega, m0, m1, u0, u1, v0, v1, by first | omega | (simp only [IntKind.wrap_u64]; omega), by first | omega | (simp only [IntKind.wrap_u64]; omega), rfl, Gb.drewN ((hgb1.trans hg_w2).alloc _) _⟩
        · have d1 : decide (4 < r) = true := decide_eq_true c1
          have d2 : decide (r < 2139095036) = false := decide_eq_false (by omega)
          go_quiet (first | (go_at_call 62; refine Calls.quiet_of_same ((HSg.out _).mono (fun e w' h => ⟨h.1, h.2.symm⟩))) | (go_at_call 59; refine Calls.quiet_of_same ((HIn.out _).mono (fun e w' h => ⟨h.1, h.2.symm⟩))))
          go_wp2
          go_returns
          exact ⟨_, m, u, v, _, by omega, by omega, m0, m1, u0, u1, v0, v1, by first | omega | (simp only [IntKind.wrap_u64]; omega), by first | omega | (simp only [IntKind.wrap_u64]; omega), rfl, Gb.drewN ((hgb1.trans hg_w2).alloc _) _⟩
      · go_upto_region 15 with (first
          | (go_at_call 37; refine (HFt.out _).mono ?_; rintro x w' ⟨rfl, hw⟩; subst hw)
          | (go_at_call 18; refine (HM.out _).mono ?_; rintro x w2 ⟨rfl, hg_w2⟩)
          | (go_at_call 61; refine (HTn.out _).mono ?_; rintro x w' ⟨rfl, hw⟩; subst hw))
        obtain ⟨r, hr⟩ : ∃ r, Int.tmod z 9223372036854775808 = r := ⟨_, rfl⟩
        have r0 : 0 ≤ r := by rw [← hr]; exact (tmod_small z 9223372036854775808 (by omega) (by omega)).1
        rcases (show 4 < r ∧ r < 9218868437227405308 ∨ r ≤ 4 ∨ 4 < r ∧ 9218868437227405308 ≤ r by omega) with ⟨c1, c2⟩ | c1 | ⟨c1, c2⟩
        · have d1 : decide (4 < r) = true := decide_eq_true c1
          have d2 : decide (r < 9218868437227405308) = true := decide_eq_true c2
          go_quiet (first | (go_at_call 62; refine Calls.quiet_of_same ((HSg.out _).mono (fun e w' h => ⟨h.1, h.2.symm⟩))) | (go_at_call 59; refine Calls.quiet_of_same ((HIn.out _).mono (fun e w' h => ⟨h.1, h.2.symm⟩))))
          go_wp2
          go_returns
          exact ⟨_, m, u, v, _, by omega, by omega, m0, m1, u0, u1, v0, v1, by first | omega | (simp only [IntKind.wrap_u64]; omega), by first | omega | (simp only [IntKind.wrap_u64]; omega), rfl, Gb.drewN ((hgb1.trans hg_w2).alloc _) _⟩
        · have d1 : decide (4 < r) = false := decide_eq_false (by omega)
          go_quiet (first | (go_at_call 62; refine Calls.quiet_of_same ((HSg.out _).mono (fun e w' h => ⟨h.1, h.2.symm⟩))) | (go_at_call 59; refine Calls.quiet_of_same ((HIn.out _).mono (fun e w' h => ⟨h.1, h.2.symm⟩))))
          go_wp2
          go_returns
          exact ⟨_, m, u, v, _, by omega, by omega, m0, m1, u0, u1, v0, v1, by first | omega | (simp only [IntKind.wrap_u64]; omega), by first | omega | (simp only [IntKind.wrap_u64]; omega), rfl, Gb.drewN ((hgb1.trans hg_w2).alloc _) _⟩
        · have d1 : decide (4 < r) = true := decide_eq_true c1
          have d2 : decide (r < 9218868437227405308) = false := decide_eq_false (by omega)
          go_quiet (first | (go_at_call 62; refine Calls.quiet_of_same ((HSg.out _).mono (fun e w' h => ⟨h.1, h.2.symm⟩))) | (go_at_call 59; refine Calls.quiet_of_same ((HIn.out _).mono (fun e w' h => ⟨h.1, h.2.symm⟩))))
          go_wp2
          go_returns
          exact ⟨_, m, u, v, _, by omega, by omega, m0, m1, u0, u1, v0, v1, by first | omega | (simp only [IntKind.wrap_u64]; omega), by first | omega | (simp only [IntKind.wrap_u64]; omega), rfl, Gb.drewN ((hgb1.trans hg_w2).alloc _) _⟩
    · clear HMu HFi
      go_wp2_with (go_at_call 37; refine (HFt.out _).mono ?_; rintro x w' ⟨rfl, hw⟩; subst hw)
      go_returns
      exact ⟨f, m, u, v, t, f0, f1, m0, m1, u0, u1, v0, v1, t0, t1, rfl, hgb1⟩
end Go.Proofs.YtopdeojgchagnabGreatDoor
