/- impl's Add and Mul over calculate. -/
import Derived.Test.YtkflpogmhailhaaGreatDoorH4
import Derived.Test.YtkflpogmhailhaaGreatDoorRC1
import Derived.Test.YtkflpogmhailhaaGreatDoorC0
set_option linter.unusedVariables false
set_option linter.unusedSimpArgs false
namespace Go.Proofs.YtkflpogmhailhaaGreatDoor
open Go.RowKit

set_option maxRecDepth 1000000 in
set_option maxHeartbeats 4000000 in
theorem implAdd_of (f mode a b : Int) (R : Int → Int → Prop) {w : World} (HC : Hid (∀ w', Gr w w' → Calls Tryz.prog 39 #[.int .i64 f, .int .i64 mode, .func (.func 55) #[] #[], .int .u64 a, .int .u64 b] w' fun e w'' => ∃ z fl, R z fl ∧ e = .returned (.agg #[.int .u64 z, .int .i64 fl]) ∧ Gr w' w'')) :
    Calls Tryz.prog 13 #[.int .i64 f, .int .i64 mode, .int .u64 a, .int .u64 b] w fun e w' => ∃ z fl, R z fl ∧ e = .returned (.agg #[.int .u64 z, .int .i64 fl]) ∧ Gr w w' := by
  go_enter Tryz.func13, Tryz.ntmps13
  go_wp2_with (go_at_call 39; refine (HC.out _ Gr.g).mono ?_; rintro e w1 ⟨z, fl, hr, rfl, hg_w1⟩; have ar0 : w1.cell? ⟨w.heap.size, 0, none⟩ = some (.int .u64 0) := hg_w1.c; have arz0 : w1.frozen? ⟨w.heap.size, 0, none⟩ = false := hg_w1.z; have ar1 : w1.cell? ⟨w.heap.size, 1, none⟩ = some (.int .i64 0) := hg_w1.c; have arz1 : w1.frozen? ⟨w.heap.size, 1, none⟩ = false := hg_w1.z)
  refine bodyPost_ret (v := .agg #[.int .u64 z, .int .i64 fl]) (by simp [results, Tryz.results13, go_sem, ar0, ar1]) rfl ⟨z, fl, hr, rfl, ?_⟩
  exact Gr.g


set_option maxRecDepth 1000000 in
set_option maxHeartbeats 4000000 in
theorem implMul_of (f mode a b : Int) (R : Int → Int → Prop) {w : World} (HC : Hid (∀ w', Gr w w' → Calls Tryz.prog 39 #[.int .i64 f, .int .i64 mode, .func (.func 66) #[] #[], .int .u64 a, .int .u64 b] w' fun e w'' => ∃ z fl, R z fl ∧ e = .returned (.agg #[.int .u64 z, .int .i64 fl]) ∧ Gr w' w'')) :
    Calls Tryz.prog 17 #[.int .i64 f, .int .i64 mode, .int .u64 a, .int .u64 b] w fun e w' => ∃ z fl, R z fl ∧ e = .returned (.agg #[.int .u64 z, .int .i64 fl]) ∧ Gr w w' := by
  go_enter Tryz.func17, Tryz.ntmps17
  go_wp2_with (go_at_call 39; refine (HC.out _ Gr.g).mono ?_; rintro e w1 ⟨z, fl, hr, rfl, hg_w1⟩; have ar0 : w1.cell? ⟨w.heap.size, 0, none⟩ = some (.int .u64 0) := hg_w1.c; have arz0 : w1.frozen? ⟨w.heap.size, 0, none⟩ = false := hg_w1.z; have ar1 : w1.cell? ⟨w.heap.size, 1, none⟩ = some (.int .i64 0) := hg_w1.c; have arz1 : w1.frozen? ⟨w.heap.size, 1, none⟩ = false := hg_w1.z)
  refine bodyPost_ret (v := .agg #[.int .u64 z, .int .i64 fl]) (by simp [results, Tryz.results17, go_sem, ar0, ar1]) rfl ⟨z, fl, hr, rfl, ?_⟩
  exact Gr.g

end Go.Proofs.YtkflpogmhailhaaGreatDoor

/- The answer of Add: the program. -/
set_option linter.unusedVariables false
set_option linter.unusedSimpArgs false
namespace Go.Proofs.YtkflpogmhailhaaGreatDoor
open Go.RowKit

theorem implAdd_any (f mode a b : Int) (a0 : 0 ≤ a) (a1 : a < 18446744073709551616) (b0 : 0 ≤ b) (b1 : b < 18446744073709551616) (w : World) (hw : Fm w) :
    Calls Tryz.prog 13 #[.int .i64 f, .int .i64 mode, .int .u64 a, .int .u64 b] w fun e w' => ∃ Z fl, OpR sumO f mode a b Z fl ∧ e = .returned (.agg #[.int .u64 Z, .int .i64 fl]) ∧ Gr w w' := by
  refine implAdd_of f mode a b (OpR sumO f mode a b) (fun w' hg => ?_)
  have hw' := hw.gr hg
  by_cases hf : f = 0 ∨ f = 1
  · obtain ⟨p, mx, one, inf, sg, nan, hF⟩ := fmt_of f hf
    obtain ⟨mn, fb, sp, hM, hmn, hfb⟩ := hF.m
    by_cases hm : 0 ≤ mode ∧ mode ≤ 4
    · obtain ⟨k, hk⟩ := rule_of mode hm.1 hm.2
      obtain ⟨x, hx, HA⟩ := opd_is hF hM a a0 a1
      obtain ⟨y, hy, HB⟩ := opd_is hF hM b b0 b1
      obtain ⟨v1, v2, v3, v4, v5, v6⟩ := opd_vo hF hx
      obtain ⟨u1, u2, u3, u4, u5, u6⟩ := opd_vo hF hy
      refine (calc_ok p mn mx mode f k 55 a b _ _ _ _ _ _ _ _ _ _ _ _ (fun w'' hg' => settingOf_yes hF hM mode k (fun w => ruleOf_yes mode k hk w) (hw'.gr hg')) HA HB (SameV (sumO mode x y)) (fun w => combine_sum_any p mn mx mode k x y v1 u1 w) (PackIs p mn mx one inf sg nan mode (sumO mode x y)) (fun os oe oc oh ol ot w hq => pack_any hM mode k hk _ os oe oc oh ol ot hq w)).mono ?_
      rintro e w'' ⟨Z, fl, hp, rfl, hg'⟩
      rw [hmn] at hp
      exact ⟨_, _, .inl ⟨p, mx, one, inf, sg, nan, x, y, hF, hm, hx, hy, hp⟩, rfl, hg'⟩
    · refine (calc_no p mn mx mode nan f mode a b (fun w'' hg' => settingOf_bad hF hM mode (fun w => ruleOf_no mode (by omega) w) (hw'.gr hg')) (fun w => invalid_any hM w) 55).mono ?_
      rintro e w'' ⟨rfl, hg'⟩
      exact ⟨_, _, .inr (.inl ⟨p, mx, one, inf, sg, nan, hF, by omega, rfl, rfl⟩), rfl, hg'⟩
  · refine (calc_no _ _ _ _ _ f mode a b (fun w'' hg' => settingOf_none f mode hf (hw'.gr hg')) (fun w => invalid_any m64 w) 55).mono ?_
    rintro e w'' ⟨rfl, hg'⟩
    exact ⟨_, _, .inr (.inr ⟨hf, rfl, rfl⟩), rfl, hg'⟩

end Go.Proofs.YtkflpogmhailhaaGreatDoor
