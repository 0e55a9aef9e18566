/- impl.difference, impl.Sub: the ways through them. -/
import Derived.Test.YtkflpogmhailhaaGreatDoorB5
import Derived.Deep.DeepCutAuto
import Derived.Test.YtkflpogmhailhaaGreatDoorC2
set_option linter.unusedVariables false
set_option linter.unusedSimpArgs false
namespace Go.Proofs.YtkflpogmhailhaaGreatDoor
open Go.RowKit


set_option maxRecDepth 100000 in
set_option maxHeartbeats 1000000 in
theorem difference_any (p mn mx md : Int) (k : Nat) (sx ex cx xh xl sy ey cy yh yl : Int) (tx ty : Bool) (z : Int) (hz : bits .xor .i64 sy 1 = z) (Q : Int → Int → Int → Int → Int → Bool → Prop) (HT : Hid (∀ w, Calls Tryz.prog 55 #[.agg #[.int .i64 p, .int .i64 mn, .int .i64 mx, .int .i64 md, .func (.func k) #[] #[]], .agg #[.int .i64 sx, .int .i64 ex, .int .i64 cx, .int .u64 xh, .int .u64 xl, .bool tx, .int .i64 0], .agg #[.int .i64 z, .int .i64 ey, .int .i64 cy, .int .u64 yh, .int .u64 yl, .bool ty, .int .i64 0]] w fun e w' => ∃ os oe oc oh ol ot, Q os oe oc oh ol ot ∧ e = .returned (.agg #[.int .i64 os, .int .i64 oe, .int .i64 oc, .int .u64 oh, .int .u64 ol, .bool ot, .int .i64 0]) ∧ Gr w w')) (w : World) :
    Calls Tryz.prog 73 #[.agg #[.int .i64 p, .int .i64 mn, .int .i64 mx, .int .i64 md, .func (.func k) #[] #[]], .agg #[.int .i64 sx, .int .i64 ex, .int .i64 cx, .int .u64 xh, .int .u64 xl, .bool tx, .int .i64 0], .agg #[.int .i64 sy, .int .i64 ey, .int .i64 cy, .int .u64 yh, .int .u64 yl, .bool ty, .int .i64 0]] w fun e w' => ∃ os oe oc oh ol ot, Q os oe oc oh ol ot ∧ e = .returned (.agg #[.int .i64 os, .int .i64 oe, .int .i64 oc, .int .u64 oh, .int .u64 ol, .bool ot, .int .i64 0]) ∧ Gr w w' := by
  go_enter Tryz.func73, Tryz.ntmps73
  go_wp2_with (go_at_call 55; refine (HT.out _).mono ?_; rintro e w1 ⟨os, oe, oc, oh, ol, ot, hq, rfl, hg_w1⟩; have ar0 : w1.cell? ⟨w.heap.size + 1 + 1 + 1, 0, none⟩ = some (.int .i64 0) := hg_w1.c; have arz0 : w1.frozen? ⟨w.heap.size + 1 + 1 + 1, 0, none⟩ = false := hg_w1.z; have ar1 : w1.cell? ⟨w.heap.size + 1 + 1 + 1, 1, none⟩ = some (.int .i64 0) := hg_w1.c; have arz1 : w1.frozen? ⟨w.heap.size + 1 + 1 + 1, 1, none⟩ = false := hg_w1.z; have ar2 : w1.cell? ⟨w.heap.size + 1 + 1 + 1, 2, none⟩ = some (.int .i64 0) := hg_w1.c; have arz2 : w1.frozen? ⟨w.heap.size + 1 + 1 + 1, 2, none⟩ = false := hg_w1.z; have ar3 : w1.cell? ⟨w.heap.size + 1 + 1 + 1, 3, none⟩ = some (.int .u64 0) := hg_w1.c; have arz3 : w1.frozen? ⟨w.heap.size + 1 + 1 + 1, 3, none⟩ = false := hg_w1.z; have ar4 : w1.cell? ⟨w.heap.size + 1 + 1 + 1, 4, none⟩ = some (.int .u64 0) := hg_w1.c; have arz4 : w1.frozen? ⟨w.heap.size + 1 + 1 + 1, 4, none⟩ = false := hg_w1.z; have ar5 : w1.cell? ⟨w.heap.size + 1 + 1 + 1, 5, none⟩ = some (.bool false) := hg_w1.c; have arz5 : w1.frozen? ⟨w.heap.size + 1 + 1 + 1, 5, none⟩ = false := hg_w1.z; have ar6 : w1.cell? ⟨w.heap.size + 1 + 1 + 1, 6, none⟩ = some (.int .i64 0) := hg_w1.c; have arz6 : w1.frozen? ⟨w.heap.size + 1 + 1 + 1, 6, none⟩ = false := hg_w1.z)
  refine bodyPost_ret (v := .agg #[.int .i64 os, .int .i64 oe, .int .i64 oc, .int .u64 oh, .int .u64 ol, .bool ot, .int .i64 0]) (by simp [results, Tryz.results73, go_sem, ar0, ar1, ar2, ar3, ar4, ar5, ar6]) rfl ⟨os, oe, oc, oh, ol, ot, hq, rfl, ?_⟩
  exact Gr.g

set_option maxRecDepth 100000 in
set_option maxHeartbeats 1000000 in
theorem combine_difference (p mn mx md : Int) (k : Nat) (sx ex cx xh xl sy ey cy yh yl : Int) (tx ty : Bool) (m : Int) (hm : max cx cy = m) (h3 : m < 3) (Q : Int → Int → Int → Int → Int → Bool → Prop) (HO : Hid (∀ w, Calls Tryz.prog 73 #[.agg #[.int .i64 p, .int .i64 mn, .int .i64 mx, .int .i64 md, .func (.func k) #[] #[]], .agg #[.int .i64 sx, .int .i64 ex, .int .i64 cx, .int .u64 xh, .int .u64 xl, .bool tx, .int .i64 0], .agg #[.int .i64 sy, .int .i64 ey, .int .i64 cy, .int .u64 yh, .int .u64 yl, .bool ty, .int .i64 0]] w fun e w' => ∃ os oe oc oh ol ot, Q os oe oc oh ol ot ∧ e = .returned (.agg #[.int .i64 os, .int .i64 oe, .int .i64 oc, .int .u64 oh, .int .u64 ol, .bool ot, .int .i64 0]) ∧ Gr w w')) (w : World) :
    Calls Tryz.prog 71 #[.agg #[.int .i64 p, .int .i64 mn, .int .i64 mx, .int .i64 md, .func (.func k) #[] #[]], .func (.func 73) #[] #[], .agg #[.int .i64 sx, .int .i64 ex, .int .i64 cx, .int .u64 xh, .int .u64 xl, .bool tx, .int .i64 0], .agg #[.int .i64 sy, .int .i64 ey, .int .i64 cy, .int .u64 yh, .int .u64 yl, .bool ty, .int .i64 0]] w fun e w' => ∃ os oe oc oh ol ot, Q os oe oc oh ol ot ∧ e = .returned (.agg #[.int .i64 os, .int .i64 oe, .int .i64 oc, .int .u64 oh, .int .u64 ol, .bool ot, .int .i64 0]) ∧ Gr w w' := by
  go_enter Tryz.func71, Tryz.ntmps71
  go_wp2_with (go_at_call 73; refine (HO.out _).mono ?_; rintro e w1 ⟨os, oe, oc, oh, ol, ot, hq, rfl, hg_w1⟩; have ar0 : w1.cell? ⟨w.heap.size + 1 + 1 + 1, 0, none⟩ = some (.int .i64 0) := hg_w1.c; have arz0 : w1.frozen? ⟨w.heap.size + 1 + 1 + 1, 0, none⟩ = false := hg_w1.z; have ar1 : w1.cell? ⟨w.heap.size + 1 + 1 + 1, 1, none⟩ = some (.int .i64 0) := hg_w1.c; have arz1 : w1.frozen? ⟨w.heap.size + 1 + 1 + 1, 1, none⟩ = false := hg_w1.z; have ar2 : w1.cell? ⟨w.heap.size + 1 + 1 + 1, 2, none⟩ = some (.int .i64 0) := hg_w1.c; have arz2 : w1.frozen? ⟨w.heap.size + 1 + 1 + 1, 2, none⟩ = false := hg_w1.z; have ar3 : w1.cell? ⟨w.heap.size + 1 + 1 + 1, 3, none⟩ = some (.int .u64 0) := hg_w1.c; have arz3 : w1.frozen? ⟨w.heap.size + 1 + 1 + 1, 3, none⟩ = false := hg_w1.z; have ar4 : w1.cell? ⟨w.heap.size + 1 + 1 + 1, 4, none⟩ = some (.int .u64 0) := hg_w1.c; have arz4 : w1.frozen? ⟨w.heap.size + 1 + 1 + 1, 4, none⟩ = false := hg_w1.z; have ar5 : w1.cell? ⟨w.heap.size + 1 + 1 + 1, 5, none⟩ = some (.bool false) := hg_w1.c; have arz5 : w1.frozen? ⟨w.heap.size + 1 + 1 + 1, 5, none⟩ = false := hg_w1.z; have ar6 : w1.cell? ⟨w.heap.size + 1 + 1 + 1, 6, none⟩ = some (.int .i64 0) := hg_w1.c; have arz6 : w1.frozen? ⟨w.heap.size + 1 + 1 + 1, 6, none⟩ = false := hg_w1.z)
  refine bodyPost_ret (v := .agg #[.int .i64 os, .int .i64 oe, .int .i64 oc, .int .u64 oh, .int .u64 ol, .bool ot, .int .i64 0]) (by simp [results, Tryz.results71, go_sem, ar0, ar1, ar2, ar3, ar4, ar5, ar6]) rfl ⟨os, oe, oc, oh, ol, ot, hq, rfl, ?_⟩
  exact Gr.g

set_option maxRecDepth 1000000 in
set_option maxHeartbeats 4000000 in
theorem implSub_of (f mode a b : Int) (R : Int → Int → Prop) {w : World} (HC : Hid (∀ w', Gr w w' → Calls Tryz.prog 39 #[.int .i64 f, .int .i64 mode, .func (.func 73) #[] #[], .int .u64 a, .int .u64 b] w' fun e w'' => ∃ z fl, R z fl ∧ e = .returned (.agg #[.int .u64 z, .int .i64 fl]) ∧ Gr w' w'')) :
    Calls Tryz.prog 20 #[.int .i64 f, .int .i64 mode, .int .u64 a, .int .u64 b] w fun e w' => ∃ z fl, R z fl ∧ e = .returned (.agg #[.int .u64 z, .int .i64 fl]) ∧ Gr w w' := by
  go_enter Tryz.func20, Tryz.ntmps20
  go_wp2_with (go_at_call 39; refine (HC.out _ Gr.g).mono ?_; rintro e w1 ⟨z, fl, hr, rfl, hg_w1⟩; have ar0 : w1.cell? ⟨w.heap.size, 0, none⟩ = some (.int .u64 0) := hg_w1.c; have arz0 : w1.frozen? ⟨w.heap.size, 0, none⟩ = false := hg_w1.z; have ar1 : w1.cell? ⟨w.heap.size, 1, none⟩ = some (.int .i64 0) := hg_w1.c; have arz1 : w1.frozen? ⟨w.heap.size, 1, none⟩ = false := hg_w1.z)
  refine bodyPost_ret (v := .agg #[.int .u64 z, .int .i64 fl]) (by simp [results, Tryz.results20, go_sem, ar0, ar1]) rfl ⟨z, fl, hr, rfl, ?_⟩
  exact Gr.g
end Go.Proofs.YtkflpogmhailhaaGreatDoor

/- impl.Sub. -/
set_option linter.unusedVariables false
set_option linter.unusedSimpArgs false
namespace Go.Proofs.YtkflpogmhailhaaGreatDoor
open Go.RowKit

theorem difference_sum (p mn mx md : Int) (k : Nat) (x y : Opd) (hx : VO x) (hy : VO y) (h2 : max x.c y.c < 3) (w : World) :
    Calls Tryz.prog 73 #[.agg #[.int .i64 p, .int .i64 mn, .int .i64 mx, .int .i64 md, .func (.func k) #[] #[]], .agg #[.int .i64 x.s, .int .i64 x.e, .int .i64 x.c, .int .u64 (((x.M / 18446744073709551616 : Nat) : Int)), .int .u64 (((x.M % 18446744073709551616 : Nat) : Int)), .bool false, .int .i64 0], .agg #[.int .i64 y.s, .int .i64 y.e, .int .i64 y.c, .int .u64 (((y.M / 18446744073709551616 : Nat) : Int)), .int .u64 (((y.M % 18446744073709551616 : Nat) : Int)), .bool false, .int .i64 0]] w fun e w' => ∃ os oe oc oh ol ot, SameV (sumO md x (turnO y)) os oe oc oh ol ot ∧ e = .returned (.agg #[.int .i64 os, .int .i64 oe, .int .i64 oc, .int .u64 oh, .int .u64 ol, .bool ot, .int .i64 0]) ∧ Gr w w' :=
  difference_any p mn mx md k _ _ _ _ _ _ _ _ _ _ _ _ (1 - y.s) (by rcases hy.s01 with e | e <;> rw [e] <;> decide +kernel) _ (fun w => sum_any p mn mx md k x (turnO y) hx hy.turn h2 w) w


theorem combine_difference_any (p mn mx md : Int) (k : Nat) (x y : Opd) (hx : VO x) (hy : VO y) (w : World) :
    Calls Tryz.prog 71 #[.agg #[.int .i64 p, .int .i64 mn, .int .i64 mx, .int .i64 md, .func (.func k) #[] #[]], .func (.func 73) #[] #[], .agg #[.int .i64 x.s, .int .i64 x.e, .int .i64 x.c, .int .u64 (((x.M / 18446744073709551616 : Nat) : Int)), .int .u64 (((x.M % 18446744073709551616 : Nat) : Int)), .bool false, .int .i64 0], .agg #[.int .i64 y.s, .int .i64 y.e, .int .i64 y.c, .int .u64 (((y.M / 18446744073709551616 : Nat) : Int)), .int .u64 (((y.M % 18446744073709551616 : Nat) : Int)), .bool false, .int .i64 0]] w fun e w' => ∃ os oe oc oh ol ot, SameV (sumO md x (turnO y)) os oe oc oh ol ot ∧ e = .returned (.agg #[.int .i64 os, .int .i64 oe, .int .i64 oc, .int .u64 oh, .int .u64 ol, .bool ot, .int .i64 0]) ∧ Gr w w' := by
  by_cases h : 3 ≤ max x.c y.c
  · refine (combine_nan p mn mx md k _ _ _ _ _ _ _ _ _ _ _ _ 73 _ rfl h w).mono ?_
    rintro r w' ⟨rfl, hg⟩
    have := hx.c4
    have := hy.c4
    rw [sumO_nan md x (turnO y) h]
    exact ⟨_, _, _, _, _, _, nan_same _ h (show max x.c y.c ≤ 4 by omega), rfl, hg⟩
  · exact combine_difference p mn mx md k _ _ _ _ _ _ _ _ _ _ _ _ _ rfl (by omega) _ (fun w => difference_sum p mn mx md k x y hx hy (by omega) w) w


def subO (mode : Int) (x y : Opd) : Opd := sumO mode x (turnO y)

theorem implSub_any (f mode a b : Int) (a0 : 0 ≤ a) (a1 : a < 18446744073709551616) (b0 : 0 ≤ b) (b1 : b < 18446744073709551616) (w : World) (hw : Fm w) :
    Calls Tryz.prog 20 #[.int .i64 f, .int .i64 mode, .int .u64 a, .int .u64 b] w fun e w' => ∃ Z fl, OpR subO f mode a b Z fl ∧ e = .returned (.agg #[.int .u64 Z, .int .i64 fl]) ∧ Gr w w' := by
  refine implSub_of f mode a b (OpR subO f mode a b) (fun w' hg => ?_)
  have hw' := hw.gr hg
  by_cases hf : f = 0 ∨ f = 1
  · obtain ⟨p, mx, one, inf, sg, nan, hF⟩ := fmt_of f hf
    obtain ⟨mn, fb, sp, hM, hmn, hfb⟩ := hF.m
    by_cases hm : 0 ≤ mode ∧ mode ≤ 4
    · obtain ⟨k, hk⟩ := rule_of mode hm.1 hm.2
      obtain ⟨x, hx, HA⟩ := opd_is hF hM a a0 a1
      obtain ⟨y, hy, HB⟩ := opd_is hF hM b b0 b1
      obtain ⟨v1, v2, v3, v4, v5, v6⟩ := opd_vo hF hx
      obtain ⟨u1, u2, u3, u4, u5, u6⟩ := opd_vo hF hy
      refine (calc_ok p mn mx mode f k 73 a b _ _ _ _ _ _ _ _ _ _ _ _ (fun w'' hg' => settingOf_yes hF hM mode k (fun w => ruleOf_yes mode k hk w) (hw'.gr hg')) HA HB (SameV (subO mode x y)) (fun w => combine_difference_any p mn mx mode k x y v1 u1 w) (PackIs p mn mx one inf sg nan mode (subO mode x y)) (fun os oe oc oh ol ot w hq => pack_any hM mode k hk _ os oe oc oh ol ot hq w)).mono ?_
      rintro e w'' ⟨Z, fl, hp, rfl, hg'⟩
      rw [hmn] at hp
      exact ⟨_, _, .inl ⟨p, mx, one, inf, sg, nan, x, y, hF, hm, hx, hy, hp⟩, rfl, hg'⟩
    · refine (calc_no p mn mx mode nan f mode a b (fun w'' hg' => settingOf_bad hF hM mode (fun w => ruleOf_no mode (by omega) w) (hw'.gr hg')) (fun w => invalid_any hM w) 73).mono ?_
      rintro e w'' ⟨rfl, hg'⟩
      exact ⟨_, _, .inr (.inl ⟨p, mx, one, inf, sg, nan, hF, by omega, rfl, rfl⟩), rfl, hg'⟩
  · refine (calc_no _ _ _ _ _ f mode a b (fun w'' hg' => settingOf_none f mode hf (hw'.gr hg')) (fun w => invalid_any m64 w) 73).mono ?_
    rintro e w'' ⟨rfl, hg'⟩
    exact ⟨_, _, .inr (.inr ⟨hf, rfl, rfl⟩), rfl, hg'⟩

/-- The word with its sign turned. -/
theorem turned_opd {f p mx one inf sg nan : Int} (h : IsFmt f p mx one inf sg nan) (b z : Int) (b0 : 0 ≤ b) (hb : b < 2 * sg) (hz : b < sg ∧ z = b + sg ∨ sg ≤ b ∧ z = b - sg) {y : Opd} (hy : OpdIs p mx one inf sg nan b y) : 0 ≤ z ∧ z < 2 * sg ∧ OpdIs p mx one inf sg nan z (turnO y) := by
  have hbd := h.bounds
  rcases hy with ⟨_, v, hs, hc⟩ | ⟨c, _⟩
  · refine ⟨by omega, by omega, .inl ⟨by omega, v, ?_, hc⟩⟩
    unfold turnO
    dsimp only
    rcases hs with ⟨s0, rfl, s1⟩ | ⟨s0, rfl, s1⟩
    · rw [s0]; exact .inr ⟨by omega, by omega, by omega⟩
    · rw [s0]; exact .inl ⟨by omega, by omega, by omega⟩
  · exfalso; omega
end Go.Proofs.YtkflpogmhailhaaGreatDoor
