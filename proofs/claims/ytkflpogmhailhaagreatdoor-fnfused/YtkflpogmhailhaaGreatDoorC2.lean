/- impl.calculate. -/
import Derived.Test.YtkflpogmhailhaaGreatDoorB7
import Derived.Test.YtkflpogmhailhaaGreatDoorC1
import Derived.Test.YtkflpogmhailhaaGreatDoorC0
import Derived.Test.YtkflpogmhailhaaGreatDoorL3WA
import Derived.Test.YtkflpogmhailhaaGreatDoorB8
import Derived.Test.YtkflpogmhailhaaGreatDoorL3WM
set_option linter.unusedVariables false
set_option linter.unusedSimpArgs false
namespace Go.Proofs.YtkflpogmhailhaaGreatDoor
open Go.RowKit


set_option maxRecDepth 1000000 in
set_option maxHeartbeats 4000000 in
theorem calc_no (p mn mx md nan f mode a b : Int) {w : World} (HF : Hid (∀ w', Gr w w' → Calls Tryz.prog 69 #[.int .i64 f, .int .i64 mode] w' fun x w'' => x = .returned (.tuple #[.agg #[.int .i64 p, .int .i64 mn, .int .i64 mx, .int .i64 md, Value.nilFunc], .bool false]) ∧ Gr w' w''))
    (HN : Hid (∀ w, Calls Tryz.prog 70 #[.agg #[.int .i64 p, .int .i64 mn, .int .i64 mx]] w fun e w' => e = .returned (.agg #[.int .u64 nan, .int .i64 1]) ∧ Gr w w')) (own : Nat) :
    Calls Tryz.prog 39 #[.int .i64 f, .int .i64 mode, .func (.func own) #[] #[], .int .u64 a, .int .u64 b] w fun e w' => e = .returned (.agg #[.int .u64 nan, .int .i64 1]) ∧ Gr w w' := by
  go_enter Tryz.func39, Tryz.ntmps39
  go_wp2_with (first
    | (go_at_call 69; refine (HF.out _ Gr.g).mono ?_; rintro x w1 ⟨rfl, hg_w1⟩; have kr0 : w1.cell? ⟨w.heap.size, 0, none⟩ = some (.int .u64 0) := hg_w1.c; have krz0 : w1.frozen? ⟨w.heap.size, 0, none⟩ = false := hg_w1.z; have kr1 : w1.cell? ⟨w.heap.size, 1, none⟩ = some (.int .i64 0) := hg_w1.c; have krz1 : w1.frozen? ⟨w.heap.size, 1, none⟩ = false := hg_w1.z)
    | (go_at_call 70; refine (HN.out _).mono ?_; rintro x w2 ⟨rfl, hg_w2⟩; have br0 : w2.cell? ⟨w.heap.size, 0, none⟩ = some (.int .u64 0) := hg_w2.c; have brz0 : w2.frozen? ⟨w.heap.size, 0, none⟩ = false := hg_w2.z; have br1 : w2.cell? ⟨w.heap.size, 1, none⟩ = some (.int .i64 0) := hg_w2.c; have brz1 : w2.frozen? ⟨w.heap.size, 1, none⟩ = false := hg_w2.z))
  refine bodyPost_ret (v := .agg #[.int .u64 nan, .int .i64 1]) (by simp [results, Tryz.results39, go_sem, br0, br1]) rfl ⟨rfl, ?_⟩
  exact Gr.g


set_option maxRecDepth 1000000 in
set_option maxHeartbeats 4000000 in
theorem calc_ok (p mn mx md f : Int) (k own : Nat) (a b sx ex cx xh xl sy ey cy yh yl : Int) (tx ty : Bool) {w : World} (HF : Hid (∀ w', Gr w w' → Calls Tryz.prog 69 #[.int .i64 f, .int .i64 md] w' fun x w'' => x = .returned (.tuple #[.agg #[.int .i64 p, .int .i64 mn, .int .i64 mx, .int .i64 md, .func (.func k) #[] #[]], .bool true]) ∧ Gr w' w''))
    (HA : Hid (∀ w, Calls Tryz.prog 53 #[.agg #[.int .i64 p, .int .i64 mn, .int .i64 mx], .int .u64 a] w fun e w' => e = .returned (.agg #[.int .i64 sx, .int .i64 ex, .int .i64 cx, .int .u64 xh, .int .u64 xl, .bool tx, .int .i64 0]) ∧ Gr w w')) (HB : Hid (∀ w, Calls Tryz.prog 53 #[.agg #[.int .i64 p, .int .i64 mn, .int .i64 mx], .int .u64 b] w fun e w' => e = .returned (.agg #[.int .i64 sy, .int .i64 ey, .int .i64 cy, .int .u64 yh, .int .u64 yl, .bool ty, .int .i64 0]) ∧ Gr w w')) (Q : Int → Int → Int → Int → Int → Bool → Prop) (HC : Hid (∀ w, Calls Tryz.prog 71 #[.agg #[.int .i64 p, .int .i64 mn, .int .i64 mx, .int .i64 md, .func (.func k) #[] #[]], .func (.func own) #[] #[], .agg #[.int .i64 sx, .int .i64 ex, .int .i64 cx, .int .u64 xh, .int .u64 xl, .bool tx, .int .i64 0], .agg #[.int .i64 sy, .int .i64 ey, .int .i64 cy, .int .u64 yh, .int .u64 yl, .bool ty, .int .i64 0]] w fun e w' => ∃ os oe oc oh ol ot, Q os oe oc oh ol ot ∧ e = .returned (.agg #[.int .i64 os, .int .i64 oe, .int .i64 oc, .int .u64 oh, .int .u64 ol, .bool ot, .int .i64 0]) ∧ Gr w w'))
    (R : Int → Int → Prop) (HP : Hid (∀ os oe oc oh ol ot w, Q os oe oc oh ol ot → Calls Tryz.prog 72 #[.agg #[.int .i64 p, .int .i64 mn, .int .i64 mx, .int .i64 md, .func (.func k) #[] #[]], .agg #[.int .i64 os, .int .i64 oe, .int .i64 oc, .int .u64 oh, .int .u64 ol, .bool ot, .int .i64 0]] w fun e w' => ∃ z fl, R z fl ∧ e = .returned (.agg #[.int .u64 z, .int .i64 fl]) ∧ Gr w w')) :
    Calls Tryz.prog 39 #[.int .i64 f, .int .i64 md, .func (.func own) #[] #[], .int .u64 a, .int .u64 b] w fun e w' => ∃ z fl, R z fl ∧ e = .returned (.agg #[.int .u64 z, .int .i64 fl]) ∧ Gr w w' := by
  go_enter Tryz.func39, Tryz.ntmps39
  go_wp2_with (go_at_call 69; refine (HF.out _ Gr.g).mono ?_; rintro x w1 ⟨rfl, hg_w1⟩; have kr0 : w1.cell? ⟨w.heap.size, 0, none⟩ = some (.int .u64 0) := hg_w1.c; have krz0 : w1.frozen? ⟨w.heap.size, 0, none⟩ = false := hg_w1.z; have kr1 : w1.cell? ⟨w.heap.size, 1, none⟩ = some (.int .i64 0) := hg_w1.c; have krz1 : w1.frozen? ⟨w.heap.size, 1, none⟩ = false := hg_w1.z; have hz1 := cell_size kr0)
  go_region_held3 (fun w' => w'.cell? ⟨w1.heap.size, 0, none⟩ = some (.int .i64 p) ∧ w'.cell? ⟨w1.heap.size, 1, none⟩ = some (.int .i64 mn) ∧ w'.cell? ⟨w1.heap.size, 2, none⟩ = some (.int .i64 mx) ∧ w'.cell? ⟨w1.heap.size, 3, none⟩ = some (.int .i64 md) ∧ w'.cell? ⟨w1.heap.size, 4, none⟩ = some (.func (.func k) #[] #[]))
    ((go_split_ands; (repeat' apply And.intro) <;> exact kl))
    (first
      | (go_at_call 53; first | (with_reducible refine (HA.out _).mono ?_; rintro e w2 ⟨rfl, hg_w2⟩; have cr0 : w2.cell? ⟨w.heap.size, 0, none⟩ = some (.int .u64 0) := hg_w2.c; have crz0 : w2.frozen? ⟨w.heap.size, 0, none⟩ = false := hg_w2.z; have cr1 : w2.cell? ⟨w.heap.size, 1, none⟩ = some (.int .i64 0) := hg_w2.c; have crz1 : w2.frozen? ⟨w.heap.size, 1, none⟩ = false := hg_w2.z) | (with_reducible refine (HB.out _).mono ?_; rintro e w2 ⟨rfl, hg_w2⟩; have cr0 : w2.cell? ⟨w.heap.size, 0, none⟩ = some (.int .u64 0) := hg_w2.c; have crz0 : w2.frozen? ⟨w.heap.size, 0, none⟩ = false := hg_w2.z; have cr1 : w2.cell? ⟨w.heap.size, 1, none⟩ = some (.int .i64 0) := hg_w2.c; have crz1 : w2.frozen? ⟨w.heap.size, 1, none⟩ = false := hg_w2.z))
      | (go_at_call 71; refine (HC.out _).mono ?_; rintro e w3 ⟨os, oe, oc, oh, ol, ot, hq, rfl, hg_w3⟩; have dr0 : w3.cell? ⟨w.heap.size, 0, none⟩ = some (.int .u64 0) := hg_w3.c; have drz0 : w3.frozen? ⟨w.heap.size, 0, none⟩ = false := hg_w3.z; have dr1 : w3.cell? ⟨w.heap.size, 1, none⟩ = some (.int .i64 0) := hg_w3.c; have drz1 : w3.frozen? ⟨w.heap.size, 1, none⟩ = false := hg_w3.z)
      | (go_at_call 72; refine (HP.out _ _ _ _ _ _ _ hq).mono ?_; rintro e w4 ⟨z, fl, hr, rfl, hg_w4⟩; have er0 : w4.cell? ⟨w.heap.size, 0, none⟩ = some (.int .u64 0) := hg_w4.c; have erz0 : w4.frozen? ⟨w.heap.size, 0, none⟩ = false := hg_w4.z; have er1 : w4.cell? ⟨w.heap.size, 1, none⟩ = some (.int .i64 0) := hg_w4.c; have erz1 : w4.frozen? ⟨w.heap.size, 1, none⟩ = false := hg_w4.z))
  all_goals (try go_split_ands)
  all_goals go_wp2
  all_goals
    refine bodyPost_ret (v := .agg #[.int .u64 z, .int .i64 fl]) (by simp [results, Tryz.results39, go_sem, er0, er1]) rfl ⟨z, fl, hr, rfl, ?_⟩
    exact Gr.g


end Go.Proofs.YtkflpogmhailhaaGreatDoor

/- impl's Add and Mul over calculate. -/
set_option linter.unusedVariables false
set_option linter.unusedSimpArgs false
namespace Go.Proofs.YtkflpogmhailhaaGreatDoor
open Go.RowKit

set_option maxRecDepth 1000000 in
set_option maxHeartbeats 4000000 in
theorem implAdd_of (f mode a b : Int) (R : Int → Int → Prop) {w : World} (HC : Hid (∀ w', Gr w w' → Calls Tryz.prog 39 #[.int .i64 f, .int .i64 mode, .func (.func 55) #[] #[], .int .u64 a, .int .u64 b] w' fun e w'' => ∃ z fl, R z fl ∧ e = .returned (.agg #[.int .u64 z, .int .i64 fl]) ∧ Gr w' w'')) :
    Calls Tryz.prog 13 #[.int .i64 f, .int .i64 mode, .int .u64 a, .int .u64 b] w fun e w' => ∃ z fl, R z fl ∧ e = .returned (.agg #[.int .u64 z, .int .i64 fl]) ∧ Gr w w' := by
  go_enter Tryz.func13, Tryz.ntmps13
  go_wp2_with (go_at_call 39; refine (HC.out _ Gr.g).mono ?_; rintro e w1 ⟨z, fl, hr, rfl, hg_w1⟩; have ar0 : w1.cell? ⟨w.heap.size, 0, none⟩ = some (.int .u64 0) := hg_w1.c; have arz0 : w1.frozen? ⟨w.heap.size, 0, none⟩ = false := hg_w1.z; have ar1 : w1.cell? ⟨w.heap.size, 1, none⟩ = some (.int .i64 0) := hg_w1.c; have arz1 : w1.frozen? ⟨w.heap.size, 1, none⟩ = false := hg_w1.z)
  refine bodyPost_ret (v := .agg #[.int .u64 z, .int .i64 fl]) (by simp [results, Tryz.results13, go_sem, ar0, ar1]) rfl ⟨z, fl, hr, rfl, ?_⟩
  exact Gr.g


set_option maxRecDepth 1000000 in
set_option maxHeartbeats 4000000 in
theorem implMul_of (f mode a b : Int) (R : Int → Int → Prop) {w : World} (HC : Hid (∀ w', Gr w w' → Calls Tryz.prog 39 #[.int .i64 f, .int .i64 mode, .func (.func 66) #[] #[], .int .u64 a, .int .u64 b] w' fun e w'' => ∃ z fl, R z fl ∧ e = .returned (.agg #[.int .u64 z, .int .i64 fl]) ∧ Gr w' w'')) :
    Calls Tryz.prog 17 #[.int .i64 f, .int .i64 mode, .int .u64 a, .int .u64 b] w fun e w' => ∃ z fl, R z fl ∧ e = .returned (.agg #[.int .u64 z, .int .i64 fl]) ∧ Gr w w' := by
  go_enter Tryz.func17, Tryz.ntmps17
  go_wp2_with (go_at_call 39; refine (HC.out _ Gr.g).mono ?_; rintro e w1 ⟨z, fl, hr, rfl, hg_w1⟩; have ar0 : w1.cell? ⟨w.heap.size, 0, none⟩ = some (.int .u64 0) := hg_w1.c; have arz0 : w1.frozen? ⟨w.heap.size, 0, none⟩ = false := hg_w1.z; have ar1 : w1.cell? ⟨w.heap.size, 1, none⟩ = some (.int .i64 0) := hg_w1.c; have arz1 : w1.frozen? ⟨w.heap.size, 1, none⟩ = false := hg_w1.z)
  refine bodyPost_ret (v := .agg #[.int .u64 z, .int .i64 fl]) (by simp [results, Tryz.results17, go_sem, ar0, ar1]) rfl ⟨z, fl, hr, rfl, ?_⟩
  exact Gr.g

end Go.Proofs.YtkflpogmhailhaaGreatDoor

/- The answer of Add: the program. -/
set_option linter.unusedVariables false
set_option linter.unusedSimpArgs false
namespace Go.Proofs.YtkflpogmhailhaaGreatDoor
open Go.RowKit

theorem implAdd_any (f mode a b : Int) (a0 : 0 ≤ a) (a1 : a < 18446744073709551616) (b0 : 0 ≤ b) (b1 : b < 18446744073709551616) (w : World) (hw : Fm w) :
    Calls Tryz.prog 13 #[.int .i64 f, .int .i64 mode, .int .u64 a, .int .u64 b] w fun e w' => ∃ Z fl, OpR sumO f mode a b Z fl ∧ e = .returned (.agg #[.int .u64 Z, .int .i64 fl]) ∧ Gr w w' := by
  refine implAdd_of f mode a b (OpR sumO f mode a b) (fun w' hg => ?_)
  have hw' := hw.gr hg
  by_cases hf : f = 0 ∨ f = 1
  · obtain ⟨p, mx, one, inf, sg, nan, hF⟩ := fmt_of f hf
    obtain ⟨mn, fb, sp, hM, hmn, hfb⟩ := hF.m
    by_cases hm : 0 ≤ mode ∧ mode ≤ 4
    · obtain ⟨k, hk⟩ := rule_of mode hm.1 hm.2
      obtain ⟨x, hx, HA⟩ := opd_is hF hM a a0 a1
      obtain ⟨y, hy, HB⟩ := opd_is hF hM b b0 b1
      obtain ⟨v1, v2, v3, v4, v5, v6⟩ := opd_vo hF hx
      obtain ⟨u1, u2, u3, u4, u5, u6⟩ := opd_vo hF hy
      refine (calc_ok p mn mx mode f k 55 a b _ _ _ _ _ _ _ _ _ _ _ _ (fun w'' hg' => settingOf_yes hF hM mode k (fun w => ruleOf_yes mode k hk w) (hw'.gr hg')) HA HB (SameV (sumO mode x y)) (fun w => combine_sum_any p mn mx mode k x y v1 u1 w) (PackIs p mn mx one inf sg nan mode (sumO mode x y)) (fun os oe oc oh ol ot w hq => pack_any hM mode k hk _ os oe oc oh ol ot hq w)).mono ?_
      rintro e w'' ⟨Z, fl, hp, rfl, hg'⟩
      rw [hmn] at hp
      exact ⟨_, _, .inl ⟨p, mx, one, inf, sg, nan, x, y, hF, hm, hx, hy, hp⟩, rfl, hg'⟩
    · refine (calc_no p mn mx mode nan f mode a b (fun w'' hg' => settingOf_bad hF hM mode (fun w => ruleOf_no mode (by omega) w) (hw'.gr hg')) (fun w => invalid_any hM w) 55).mono ?_
      rintro e w'' ⟨rfl, hg'⟩
      exact ⟨_, _, .inr (.inl ⟨p, mx, one, inf, sg, nan, hF, by omega, rfl, rfl⟩), rfl, hg'⟩
  · refine (calc_no _ _ _ _ _ f mode a b (fun w'' hg' => settingOf_none f mode hf (hw'.gr hg')) (fun w => invalid_any m64 w) 55).mono ?_
    rintro e w'' ⟨rfl, hg'⟩
    exact ⟨_, _, .inr (.inr ⟨hf, rfl, rfl⟩), rfl, hg'⟩

end Go.Proofs.YtkflpogmhailhaaGreatDoor

/- The answers of Add and Mul, of both sides. -/
set_option linter.unusedVariables false
set_option linter.unusedSimpArgs false
namespace Go.Proofs.YtkflpogmhailhaaGreatDoor
open Go.RowKit

theorem specAdd_ok {f p mx one inf sg nan : Int} (h : IsFmt f p mx one inf sg nan) (mode a b : Int) (hm : 0 ≤ mode ∧ mode ≤ 4) (a0 : 0 ≤ a) (a1 : a < 18446744073709551616) (b0 : 0 ≤ b) (b1 : b < 18446744073709551616) {x y : Opd} (hx : OpdIs p mx one inf sg nan a x) (hy : OpdIs p mx one inf sg nan b y) (w : World) :
    Calls Tryz.prog 15 #[.int .i64 f, .int .i64 mode, .int .u64 a, .int .u64 b] w fun e w' => ∃ Z fl, PackIs p (1 - mx) mx one inf sg nan mode (sumO mode x y) Z fl ∧ e = .returned (.agg #[.int .u64 Z, .int .i64 fl]) ∧ Gb w w' := by
  obtain ⟨v1, v2, v3, v4, v5, v6⟩ := opd_vo h hx
  obtain ⟨u1, u2, u3, u4, u5, u6⟩ := opd_vo h hy
  have xc0 := v1.c0
  have xc4 := v1.c4
  have yc0 := u1.c0
  have yc4 := u1.c4
  by_cases hfit : a < 2 * sg ∧ b < 2 * sg
  · obtain ⟨fa, fb'⟩ := hfit
    have HF : Hid (∀ w, Calls Tryz.prog 37 #[.int .i64 f, .int .i64 mode, .int .u64 a, .int .u64 b] w fun e w' => e = .returned (.bool true) ∧ w = w') := fun w => l3Fits_yes h mode a b hm.1 hm.2 a0 fa b0 fb' w
    have HUa := unp_det h a a0 fa hx
    have HUb := unp_det h b b0 fb' hy
    have HQ : ∀ (z : Opd) (t : Bool), t = decide (3 ≤ z.c) → Hid (∀ w, Calls Tryz.prog 42 #[.agg #[.int .i64 z.c, .int .i64 z.s, .int .i64 z.e, .int .u64 (((z.M : Nat) : Int))]] w fun e w' => e = .returned (.bool t) ∧ Gr w w') := fun z t ht w => l3Quiet_any _ _ _ _ t ht w
    have HNan : ∀ t : Bool, Hid (∀ w, Calls Tryz.prog 43 #[.int .i64 f, .bool t] w fun e w' => e = .returned (.agg #[.int .u64 nan, .int .i64 (if t then 1 else 0)]) ∧ Gr w w') := fun t w => l3Nan_any h t _ rfl w
    by_cases c1 : 3 ≤ x.c
    · rw [sumO_nan mode x y (by omega)]
      by_cases c2 : x.c = 4
      · refine (sAdd_nan1 f mode a b _ _ _ _ _ _ _ _ HF HUa HUb (HQ x true (by simp [c1])) (by simp [c2]) nan _ (HNan true) w).mono ?_
        rintro e w' ⟨rfl, hg⟩
        exact ⟨_, _, nan_pack _ true (by simp; omega) (by omega) (by omega), rfl, hg⟩
      · refine (sAdd_nan2 f mode a b _ _ _ _ _ _ _ _ HF HUa HUb (HQ x true (by simp [c1])) (by simp [c2]) (decide (y.c = 4)) (bq _ _) nan _ (HNan _) w).mono ?_
        rintro e w' ⟨rfl, hg⟩
        exact ⟨_, _, nan_pack _ _ (by rw [decide_eq_decide]; omega) (by omega) (by omega), rfl, hg⟩
    · by_cases c2 : 3 ≤ y.c
      · rw [sumO_nan mode x y (by omega)]
        refine (sAdd_nan3 f mode a b _ _ _ _ _ _ _ _ HF HUa HUb (HQ x false (by simp; omega)) (HQ y true (by simp [c2])) (by simp; omega) (decide (y.c = 4)) (bq _ _) nan _ (HNan _) w).mono ?_
        rintro e w' ⟨rfl, hg⟩
        exact ⟨_, _, nan_pack _ _ (by rw [decide_eq_decide]; omega) (by omega) (by omega), rfl, hg⟩
      · have hQa := HQ x false (by simp; omega)
        have hQb := HQ y false (by simp; omega)
        by_cases c3 : x.c = 2
        · by_cases c4 : y.c = 2
          · by_cases c5 : x.s = y.s
            · refine (sAdd_inf2 f mode a b _ _ _ _ _ _ _ _ HF HUa HUb hQa hQb c3 c4 c5 (sw x.s sg inf) 0 (fun w => l3Infinity_any h x.s v1.s01 w) w).mono ?_
              rintro e w' ⟨rfl, hg⟩
              refine ⟨_, _, ?_, rfl, hg⟩
              unfold sumO
              rw [if_neg (show ¬ 3 ≤ max x.c y.c by omega), if_neg (show ¬ y.c < x.c by omega), if_neg (show ¬ x.c < y.c by omega), if_neg (show ¬ x.c = 1 by omega), if_pos c5]
              exact .inr (.inr (.inl ⟨c3, rfl, rfl⟩))
            · refine (sAdd_inf0 f mode a b _ _ _ _ _ _ _ _ HF HUa HUb hQa hQb c3 c4 (by simp [c5]) nan 1 (fun w => l2Bad_fmt h w) w).mono ?_
              rintro e w' ⟨rfl, hg⟩
              refine ⟨_, _, ?_, rfl, hg⟩
              unfold sumO
              rw [if_neg (show ¬ 3 ≤ max x.c y.c by omega), if_neg (show ¬ y.c < x.c by omega), if_neg (show ¬ x.c < y.c by omega), if_neg (show ¬ x.c = 1 by omega), if_neg c5, if_pos c3]
              exact bad_nan rfl
          · refine (sAdd_inf1 f mode a b _ _ _ _ _ _ _ _ HF HUa HUb hQa hQb c3 (by simp [c4]) (sw x.s sg inf) 0 (fun w => l3Infinity_any h x.s v1.s01 w) w).mono ?_
            rintro e w' ⟨rfl, hg⟩
            refine ⟨_, _, ?_, rfl, hg⟩
            unfold sumO
            rw [if_neg (show ¬ 3 ≤ max x.c y.c by omega), if_pos (show y.c < x.c by omega)]
            exact .inr (.inr (.inl ⟨c3, rfl, rfl⟩))
        · by_cases c4 : y.c = 2
          · refine (sAdd_inf3 f mode a b _ _ _ _ _ _ _ _ HF HUa HUb hQa hQb (by simp [c3]) c4 (sw y.s sg inf) 0 (fun w => l3Infinity_any h y.s u1.s01 w) w).mono ?_
            rintro e w' ⟨rfl, hg⟩
            refine ⟨_, _, ?_, rfl, hg⟩
            unfold sumO
            rw [if_neg (show ¬ 3 ≤ max x.c y.c by omega), if_neg (show ¬ y.c < x.c by omega), if_pos (show x.c < y.c by omega)]
            exact .inr (.inr (.inl ⟨c4, rfl, rfl⟩))
          · exact sAdd_sum f mode a b _ _ _ _ _ _ _ _ x.M y.M HF HUa HUb hQa hQb (by simp [c3]) (by simp [c4]) (fun w => l3Number_any _ _ _ x.M (by omega) w) (fun w => l3Number_any _ _ _ y.M (by omega) w) (fun Z fl => PackIs p (1 - mx) mx one inf sg nan mode (sumO mode x y) Z fl) (fun ba ka qa bb kb qb w HX HY => l3Sum_any h mode hm.1 hm.2 x y v1 u1 (by omega) (by omega) (by omega) (by omega) (by omega) (by omega) ba ka qa bb kb qb HX HY) w
  · refine (sAdd_bad f mode a b (fun w => l3Fits_no f mode a b a0 a1 b0 b1 (nofit_of h a1 b1 (by omega)) w) nan 1 (fun w => l2Bad_fmt h w) w).mono ?_
    rintro e w' ⟨rfl, hg⟩
    refine ⟨_, _, ?_, rfl, hg⟩
    have : max x.c y.c = 4 := by
      rcases (show 2 * sg ≤ a ∨ 2 * sg ≤ b by omega) with c | c
      · have := opd_wide h hx c; subst this; dsimp only at *; omega
      · have := opd_wide h hy c; subst this; dsimp only at *; omega
    rw [sumO_nan mode x y (by omega)]
    exact bad_nan this

theorem specAdd_any (f mode a b : Int) (a0 : 0 ≤ a) (a1 : a < 18446744073709551616) (b0 : 0 ≤ b) (b1 : b < 18446744073709551616) (w : World) :
    Calls Tryz.prog 15 #[.int .i64 f, .int .i64 mode, .int .u64 a, .int .u64 b] w fun e w' => ∃ Z fl, OpR sumO f mode a b Z fl ∧ e = .returned (.agg #[.int .u64 Z, .int .i64 fl]) ∧ Gb w w' := by
  by_cases hf : f = 0 ∨ f = 1
  · obtain ⟨p, mx, one, inf, sg, nan, hF⟩ := fmt_of f hf
    by_cases hm : 0 ≤ mode ∧ mode ≤ 4
    · obtain ⟨x, hx⟩ := opd_ex hF a a0 a1
      obtain ⟨y, hy⟩ := opd_ex hF b b0 b1
      refine (specAdd_ok hF mode a b hm a0 a1 b0 b1 hx hy w).mono ?_
      rintro e w' ⟨Z, fl, hp, rfl, hg⟩
      exact ⟨_, _, .inl ⟨p, mx, one, inf, sg, nan, x, y, hF, hm, hx, hy, hp⟩, rfl, hg⟩
    · refine (sAdd_bad f mode a b (fun w => l3Fits_no f mode a b a0 a1 b0 b1 (.inl (by omega)) w) nan 1 (fun w => l2Bad_fmt hF w) w).mono ?_
      rintro e w' ⟨rfl, hg⟩
      exact ⟨_, _, .inr (.inl ⟨p, mx, one, inf, sg, nan, hF, by omega, rfl, rfl⟩), rfl, hg⟩
  · refine (sAdd_bad f mode a b (fun w => l3Fits_no f mode a b a0 a1 b0 b1 (.inr (.inl hf)) w) _ 1 (fun w => l2Bad_no f hf w) w).mono ?_
    rintro e w' ⟨rfl, hg⟩
    exact ⟨_, _, .inr (.inr ⟨hf, rfl, rfl⟩), rfl, hg⟩

theorem add_same (f mode a b : Int) (a0 : 0 ≤ a) (a1 : a < 18446744073709551616) (b0 : 0 ≤ b) (b1 : b < 18446744073709551616) :
    ∃ Z fl : Int, OpR sumO f mode a b Z fl ∧ (∀ w, Calls Tryz.prog 15 #[.int .i64 f, .int .i64 mode, .int .u64 a, .int .u64 b] w fun e w' => e = .returned (.agg #[.int .u64 Z, .int .i64 fl]) ∧ Gb w w') ∧
      (∀ w, Fm w → Calls Tryz.prog 13 #[.int .i64 f, .int .i64 mode, .int .u64 a, .int .u64 b] w fun e w' => e = .returned (.agg #[.int .u64 Z, .int .i64 fl]) ∧ Gr w w') :=
  both_of sumO 15 13 (fun mode x y hx hy _ _ _ _ _ _ => sumO_c mode x y hx hy) f mode a b a0 a1 b0 b1 (specAdd_any f mode a b a0 a1 b0 b1) (implAdd_any f mode a b a0 a1 b0 b1)


end Go.Proofs.YtkflpogmhailhaaGreatDoor

/- The answers of Mul and Sub, of both sides. -/
set_option linter.unusedVariables false
set_option linter.unusedSimpArgs false
namespace Go.Proofs.YtkflpogmhailhaaGreatDoor
open Go.RowKit

def mulO (mode : Int) (x y : Opd) : Opd := prodO x y

theorem implMul_any (f mode a b : Int) (a0 : 0 ≤ a) (a1 : a < 18446744073709551616) (b0 : 0 ≤ b) (b1 : b < 18446744073709551616) (w : World) (hw : Fm w) :
    Calls Tryz.prog 17 #[.int .i64 f, .int .i64 mode, .int .u64 a, .int .u64 b] w fun e w' => ∃ Z fl, OpR mulO f mode a b Z fl ∧ e = .returned (.agg #[.int .u64 Z, .int .i64 fl]) ∧ Gr w w' := by
  refine implMul_of f mode a b (OpR mulO f mode a b) (fun w' hg => ?_)
  have hw' := hw.gr hg
  by_cases hf : f = 0 ∨ f = 1
  · obtain ⟨p, mx, one, inf, sg, nan, hF⟩ := fmt_of f hf
    obtain ⟨mn, fb, sp, hM, hmn, hfb⟩ := hF.m
    by_cases hm : 0 ≤ mode ∧ mode ≤ 4
    · obtain ⟨k, hk⟩ := rule_of mode hm.1 hm.2
      obtain ⟨x, hx, HA⟩ := opd_is hF hM a a0 a1
      obtain ⟨y, hy, HB⟩ := opd_is hF hM b b0 b1
      obtain ⟨v1, v2, v3, v4, v5, v6⟩ := opd_vo hF hx
      obtain ⟨u1, u2, u3, u4, u5, u6⟩ := opd_vo hF hy
      refine (calc_ok p mn mx mode f k 66 a b _ _ _ _ _ _ _ _ _ _ _ _ (fun w'' hg' => settingOf_yes hF hM mode k (fun w => ruleOf_yes mode k hk w) (hw'.gr hg')) HA HB (SameV (mulO mode x y)) (fun w => (combine_product_any p mn mx mode k x y v1 u1 (by omega) (by omega) w).mono (fun e w' ⟨he, hg⟩ => ⟨_, _, _, _, _, _, (prodO_vo v1 u1 v6 u6 v4 v5 u4 u5).same, he, hg⟩)) (PackIs p mn mx one inf sg nan mode (mulO mode x y)) (fun os oe oc oh ol ot w hq => pack_any hM mode k hk _ os oe oc oh ol ot hq w)).mono ?_
      rintro e w'' ⟨Z, fl, hp, rfl, hg'⟩
      rw [hmn] at hp
      exact ⟨_, _, .inl ⟨p, mx, one, inf, sg, nan, x, y, hF, hm, hx, hy, hp⟩, rfl, hg'⟩
    · refine (calc_no p mn mx mode nan f mode a b (fun w'' hg' => settingOf_bad hF hM mode (fun w => ruleOf_no mode (by omega) w) (hw'.gr hg')) (fun w => invalid_any hM w) 66).mono ?_
      rintro e w'' ⟨rfl, hg'⟩
      exact ⟨_, _, .inr (.inl ⟨p, mx, one, inf, sg, nan, hF, by omega, rfl, rfl⟩), rfl, hg'⟩
  · refine (calc_no _ _ _ _ _ f mode a b (fun w'' hg' => settingOf_none f mode hf (hw'.gr hg')) (fun w => invalid_any m64 w) 66).mono ?_
    rintro e w'' ⟨rfl, hg'⟩
    exact ⟨_, _, .inr (.inr ⟨hf, rfl, rfl⟩), rfl, hg'⟩

theorem specMul_ok {f p mx one inf sg nan : Int} (h : IsFmt f p mx one inf sg nan) (mode a b : Int) (hm : 0 ≤ mode ∧ mode ≤ 4) (a0 : 0 ≤ a) (a1 : a < 18446744073709551616) (b0 : 0 ≤ b) (b1 : b < 18446744073709551616) {x y : Opd} (hx : OpdIs p mx one inf sg nan a x) (hy : OpdIs p mx one inf sg nan b y) (w : World) :
    Calls Tryz.prog 18 #[.int .i64 f, .int .i64 mode, .int .u64 a, .int .u64 b] w fun e w' => ∃ Z fl, PackIs p (1 - mx) mx one inf sg nan mode (mulO mode x y) Z fl ∧ e = .returned (.agg #[.int .u64 Z, .int .i64 fl]) ∧ Gb w w' := by
  obtain ⟨v1, v2, v3, v4, v5, v6⟩ := opd_vo h hx
  obtain ⟨u1, u2, u3, u4, u5, u6⟩ := opd_vo h hy
  have xc0 := v1.c0
  have xc4 := v1.c4
  have yc0 := u1.c0
  have yc4 := u1.c4
  have hms : mulS x.s y.s = 0 ∨ mulS x.s y.s = 1 := by unfold mulS; split <;> simp
  unfold mulO
  by_cases hfit : a < 2 * sg ∧ b < 2 * sg
  · obtain ⟨fa, fb'⟩ := hfit
    have HF : Hid (∀ w, Calls Tryz.prog 37 #[.int .i64 f, .int .i64 mode, .int .u64 a, .int .u64 b] w fun e w' => e = .returned (.bool true) ∧ w = w') := fun w => l3Fits_yes h mode a b hm.1 hm.2 a0 fa b0 fb' w
    have HUa := unp_det h a a0 fa hx
    have HUb := unp_det h b b0 fb' hy
    have HQ : ∀ (z : Opd) (t : Bool), t = decide (3 ≤ z.c) → Hid (∀ w, Calls Tryz.prog 42 #[.agg #[.int .i64 z.c, .int .i64 z.s, .int .i64 z.e, .int .u64 (((z.M : Nat) : Int))]] w fun e w' => e = .returned (.bool t) ∧ Gr w w') := fun z t ht w => l3Quiet_any _ _ _ _ t ht w
    have HNan : ∀ t : Bool, Hid (∀ w, Calls Tryz.prog 43 #[.int .i64 f, .bool t] w fun e w' => e = .returned (.agg #[.int .u64 nan, .int .i64 (if t then 1 else 0)]) ∧ Gr w w') := fun t w => l3Nan_any h t _ rfl w
    by_cases c1 : 3 ≤ x.c
    · rw [prodO_nan x y (by omega)]
      by_cases c2 : x.c = 4
      · refine (sMul_nan1 f mode a b _ _ _ _ _ _ _ _ HF HUa HUb (HQ x true (by simp [c1])) (by simp [c2]) nan _ (HNan true) w).mono ?_
        rintro e w' ⟨rfl, hg⟩
        exact ⟨_, _, nan_pack _ true (by simp; omega) (by omega) (by omega), rfl, hg⟩
      · refine (sMul_nan2 f mode a b _ _ _ _ _ _ _ _ HF HUa HUb (HQ x true (by simp [c1])) (by simp [c2]) (decide (y.c = 4)) (bq _ _) nan _ (HNan _) w).mono ?_
        rintro e w' ⟨rfl, hg⟩
        exact ⟨_, _, nan_pack _ _ (by rw [decide_eq_decide]; omega) (by omega) (by omega), rfl, hg⟩
    · by_cases c2 : 3 ≤ y.c
      · rw [prodO_nan x y (by omega)]
        refine (sMul_nan3 f mode a b _ _ _ _ _ _ _ _ HF HUa HUb (HQ x false (by simp; omega)) (HQ y true (by simp [c2])) (by simp; omega) (decide (y.c = 4)) (bq _ _) nan _ (HNan _) w).mono ?_
        rintro e w' ⟨rfl, hg⟩
        exact ⟨_, _, nan_pack _ _ (by rw [decide_eq_decide]; omega) (by omega) (by omega), rfl, hg⟩
      · have hQa := HQ x false (by simp; omega)
        have hQb := HQ y false (by simp; omega)
        have HPr : ∀ t : Bool, t = decide (x.c = 2 ∧ y.c = 0 ∨ x.c = 0 ∧ y.c = 2) → Hid (∀ w, Calls Tryz.prog 67 #[.agg #[.int .i64 x.c, .int .i64 x.s, .int .i64 x.e, .int .u64 (((x.M : Nat) : Int))], .agg #[.int .i64 y.c, .int .i64 y.s, .int .i64 y.e, .int .u64 (((y.M : Nat) : Int))]] w fun e w' => e = .returned (.bool t) ∧ Gr w w') := fun t ht w => l3NoProduct_any _ _ _ _ _ _ _ _ t ht w
        have HM : Hid (∀ w, Calls Tryz.prog 68 #[.agg #[.int .i64 x.c, .int .i64 x.s, .int .i64 x.e, .int .u64 (((x.M : Nat) : Int))], .agg #[.int .i64 y.c, .int .i64 y.s, .int .i64 y.e, .int .u64 (((y.M : Nat) : Int))]] w fun e w' => ∃ b k cc, BigN 4 w' (.slice (some ⟨b, 0, none⟩) k cc) (x.M * y.M) ∧ e = .returned (.agg #[.int .i64 (mulS x.s y.s), .slice (some ⟨b, 0, none⟩) k cc, .int .i64 (x.e + y.e), .bool false]) ∧ Gb w w') := fun w => l3Product_any _ _ _ _ _ _ x.M y.M (by omega) (by omega) v1.s01 u1.s01 (by omega) (by omega) (by omega) (by omega) w
        unfold prodO
        rw [if_neg (show ¬ 3 ≤ max x.c y.c by omega)]
        by_cases c3 : x.c = 2 ∧ y.c = 0 ∨ x.c = 0 ∧ y.c = 2
        · rw [if_pos (show min x.c y.c = 0 ∧ max x.c y.c = 2 by omega)]
          refine (sMul_no f mode a b _ _ _ _ _ _ _ _ HF HUa HUb hQa hQb (HPr true (by simp [c3])) nan 1 (fun w => l2Bad_fmt h w) w).mono ?_
          rintro e w' ⟨rfl, hg⟩
          exact ⟨_, _, bad_nan rfl, rfl, hg⟩
        · have hP := HPr false (decide_eq_false c3).symm
          rw [if_neg (show ¬ (min x.c y.c = 0 ∧ max x.c y.c = 2) by omega)]
          by_cases c4 : x.c = 2
          · rw [if_neg (show ¬ min x.c y.c = 0 by omega), if_pos (show max x.c y.c = 2 by omega)]
            refine (sMul_inf1 f mode a b _ _ _ _ _ _ _ _ _ _ _ HF HUa HUb hQa hQb hP HM c4 (sw (mulS x.s y.s) sg inf) 0 (fun w => l3Infinity_any h _ hms w) w).mono ?_
            rintro e w' ⟨rfl, hg⟩
            exact ⟨_, _, .inr (.inr (.inl ⟨rfl, rfl, rfl⟩)), rfl, hg⟩
          · by_cases c5 : y.c = 2
            · rw [if_neg (show ¬ min x.c y.c = 0 by omega), if_pos (show max x.c y.c = 2 by omega)]
              refine (sMul_inf2 f mode a b _ _ _ _ _ _ _ _ _ _ _ HF HUa HUb hQa hQb hP HM (by simp [c4]) c5 (sw (mulS x.s y.s) sg inf) 0 (fun w => l3Infinity_any h _ hms w) w).mono ?_
              rintro e w' ⟨rfl, hg⟩
              exact ⟨_, _, .inr (.inr (.inl ⟨rfl, rfl, rfl⟩)), rfl, hg⟩
            · by_cases c6 : min x.c y.c = 0
              · rw [if_pos c6]
                have hz : x.M * y.M = 0 := by
                  rcases (show x.c = 0 ∨ y.c = 0 by omega) with c | c
                  · rw [v3 (by omega), Nat.zero_mul]
                  · rw [u3 (by omega), Nat.mul_zero]
                refine (sMul_zero f mode a b _ _ _ _ _ _ _ _ _ _ _ HF HUa HUb hQa hQb hP HM (by simp [c4]) (by simp [c5]) hz (sw (mulS x.s y.s) sg 0) 0 (fun w => l3Zero_any h _ hms w) w).mono ?_
                rintro e w' ⟨rfl, hg⟩
                exact ⟨_, _, .inl ⟨rfl, rfl, rfl⟩, rfl, hg⟩
              · rw [if_neg c6, if_neg (show ¬ max x.c y.c = 2 by omega)]
                have ex := (v1.fin (by omega)).1
                have ey := (u1.fin (by omega)).1
                have hpos : 0 < x.M * y.M := Nat.mul_pos ex ey
                exact sMul_num f mode a b _ _ _ _ _ _ _ _ _ _ _ HF HUa HUb hQa hQb hP HM (by simp [c4]) (by simp [c5]) hpos _ (fun v w hB => round_at h mode hm.1 hm.2 ⟨1, mulS x.s y.s, x.e + y.e, x.M * y.M⟩ rfl hms hpos (by dsimp only; omega) (by dsimp only; omega) 4 (by omega) v w hB) w
  · refine (sMul_bad f mode a b (fun w => l3Fits_no f mode a b a0 a1 b0 b1 (nofit_of h a1 b1 (by omega)) w) nan 1 (fun w => l2Bad_fmt h w) w).mono ?_
    rintro e w' ⟨rfl, hg⟩
    refine ⟨_, _, ?_, rfl, hg⟩
    have : max x.c y.c = 4 := by
      rcases (show 2 * sg ≤ a ∨ 2 * sg ≤ b by omega) with c | c
      · have := opd_wide h hx c; subst this; dsimp only at *; omega
      · have := opd_wide h hy c; subst this; dsimp only at *; omega
    rw [prodO_nan x y (by omega)]
    exact bad_nan this


theorem specMul_any (f mode a b : Int) (a0 : 0 ≤ a) (a1 : a < 18446744073709551616) (b0 : 0 ≤ b) (b1 : b < 18446744073709551616) (w : World) :
    Calls Tryz.prog 18 #[.int .i64 f, .int .i64 mode, .int .u64 a, .int .u64 b] w fun e w' => ∃ Z fl, OpR mulO f mode a b Z fl ∧ e = .returned (.agg #[.int .u64 Z, .int .i64 fl]) ∧ Gb w w' := by
  by_cases hf : f = 0 ∨ f = 1
  · obtain ⟨p, mx, one, inf, sg, nan, hF⟩ := fmt_of f hf
    by_cases hm : 0 ≤ mode ∧ mode ≤ 4
    · obtain ⟨x, hx⟩ := opd_ex hF a a0 a1
      obtain ⟨y, hy⟩ := opd_ex hF b b0 b1
      refine (specMul_ok hF mode a b hm a0 a1 b0 b1 hx hy w).mono ?_
      rintro e w' ⟨Z, fl, hp, rfl, hg⟩
      exact ⟨_, _, .inl ⟨p, mx, one, inf, sg, nan, x, y, hF, hm, hx, hy, hp⟩, rfl, hg⟩
    · refine (sMul_bad f mode a b (fun w => l3Fits_no f mode a b a0 a1 b0 b1 (.inl (by omega)) w) nan 1 (fun w => l2Bad_fmt hF w) w).mono ?_
      rintro e w' ⟨rfl, hg⟩
      exact ⟨_, _, .inr (.inl ⟨p, mx, one, inf, sg, nan, hF, by omega, rfl, rfl⟩), rfl, hg⟩
  · refine (sMul_bad f mode a b (fun w => l3Fits_no f mode a b a0 a1 b0 b1 (.inr (.inl hf)) w) _ 1 (fun w => l2Bad_no f hf w) w).mono ?_
    rintro e w' ⟨rfl, hg⟩
    exact ⟨_, _, .inr (.inr ⟨hf, rfl, rfl⟩), rfl, hg⟩


theorem prodO_c (mode : Int) (x y : Opd) (hx : VO x) (hy : VO y) (h1 : nb x.M ≤ 53) (h2 : nb y.M ≤ 53) (h3 : -2000 ≤ x.e) (h4 : x.e ≤ 2000) (h5 : -2000 ≤ y.e) (h6 : y.e ≤ 2000) : 0 ≤ (mulO mode x y).c ∧ (mulO mode x y).c ≤ 4 := ⟨(prodO_vo hx hy h1 h2 h3 h4 h5 h6).c0, (prodO_vo hx hy h1 h2 h3 h4 h5 h6).c4⟩

theorem mul_same (f mode a b : Int) (a0 : 0 ≤ a) (a1 : a < 18446744073709551616) (b0 : 0 ≤ b) (b1 : b < 18446744073709551616) :
    ∃ Z fl : Int, OpR mulO f mode a b Z fl ∧ (∀ w, Calls Tryz.prog 18 #[.int .i64 f, .int .i64 mode, .int .u64 a, .int .u64 b] w fun e w' => e = .returned (.agg #[.int .u64 Z, .int .i64 fl]) ∧ Gb w w') ∧
      (∀ w, Fm w → Calls Tryz.prog 17 #[.int .i64 f, .int .i64 mode, .int .u64 a, .int .u64 b] w fun e w' => e = .returned (.agg #[.int .u64 Z, .int .i64 fl]) ∧ Gr w w') :=
  both_of mulO 18 17 prodO_c f mode a b a0 a1 b0 b1 (specMul_any f mode a b a0 a1 b0 b1) (implMul_any f mode a b a0 a1 b0 b1)


end Go.Proofs.YtkflpogmhailhaaGreatDoor
