import Derived.Test.YtnbbfeknbfohhaaGreatDoorB5
import Derived.Deep.DeepCutAuto
import Derived.Test.YtnbbfeknbfohhaaGreatDoorC2
import Derived.Test.YtnbbfeknbfohhaaGreatDoorU1
import Derived.Test.YtnbbfeknbfohhaaGreatDoorB0
set_option linter.unusedVariables false
set_option linter.unusedSimpArgs false
set_option maxRecDepth 1000000
set_option maxHeartbeats 40000000
open Go.Value renaming int → J, agg → X, bool → E
open Go.IntKind renaming i64 → Y, u64 → O
open Go.Ending renaming returned → V
namespace Go.Proofs.YtnbbfeknbfohhaaGreatDoor
open Go.RowKit
theorem difference_any (p mn mx md : Int) (k : Nat) (sx ex cx xh xl sy ey cy yh yl : Int) (tx ty : Bool) (z : Int) (hz : bits .xor Y sy 1 = z) (Q : Int → Int → Int → Int → Int → Bool → Prop) (HT : Hid (∀ w, CT 169 #[X #[J Y p, J Y mn, J Y mx, J Y md, .func (.func k) #[] #[]], X #[J Y sx, J Y ex, J Y cx, J O xh, J O xl, E tx, J Y 0], X #[J Y z, J Y ey, J Y cy, J O yh, J O yl, E ty, J Y 0]] w fun e w' => ∃ os oe oc oh ol ot, Q os oe oc oh ol ot ∧ e = V (X #[J Y os, J Y oe, J Y oc, J O oh, J O ol, E ot, J Y 0]) ∧ Gr w w')) (w : World) :
  CT 171 #[X #[J Y p, J Y mn, J Y mx, J Y md, .func (.func k) #[] #[]], X #[J Y sx, J Y ex, J Y cx, J O xh, J O xl, E tx, J Y 0], X #[J Y sy, J Y ey, J Y cy, J O yh, J O yl, E ty, J Y 0]] w fun e w' => ∃ os oe oc oh ol ot, Q os oe oc oh ol ot ∧ e = V (X #[J Y os, J Y oe, J Y oc, J O oh, J O ol, E ot, J Y 0]) ∧ Gr w w' := by
 go_enter Tryz.func171, Tryz.ntmps171
 go_wp2_with (go_at_call 169; refine (HT.out _).mono ?_; rintro e w1 ⟨os, oe, oc, oh, ol, ot, hq, rfl, hg_w1⟩; obtain ⟨ar0, arz0, ar1, arz1, ar2, arz2, ar3, arz3, ar4, arz4, ar5, arz5, ar6, arz6⟩ := hg_w1.y7 (w.heap.size + 1 + 1 + 1) 0 1 2 3 4 5 6 (J Y 0) (J Y 0) (J Y 0) (J O 0) (J O 0) (E false) (J Y 0))
 refine bodyPost_ret (v := X #[J Y os, J Y oe, J Y oc, J O oh, J O ol, E ot, J Y 0]) (by simp [results, Tryz.results171, go_sem, ar0, ar1, ar2, ar3, ar4, ar5, ar6]) rfl ⟨os, oe, oc, oh, ol, ot, hq, rfl, ?_⟩
 exact Gr.g
theorem combine_difference (p mn mx md : Int) (k : Nat) (sx ex cx xh xl sy ey cy yh yl : Int) (tx ty : Bool) (m : Int) (hm : max cx cy = m) (h3 : m < 3) (Q : Int → Int → Int → Int → Int → Bool → Prop) (HO : Hid (∀ w, CT 171 #[X #[J Y p, J Y mn, J Y mx, J Y md, .func (.func k) #[] #[]], X #[J Y sx, J Y ex, J Y cx, J O xh, J O xl, E tx, J Y 0], X #[J Y sy, J Y ey, J Y cy, J O yh, J O yl, E ty, J Y 0]] w fun e w' => ∃ os oe oc oh ol ot, Q os oe oc oh ol ot ∧ e = V (X #[J Y os, J Y oe, J Y oc, J O oh, J O ol, E ot, J Y 0]) ∧ Gr w w')) (w : World) :
  CT 74 #[X #[J Y p, J Y mn, J Y mx, J Y md, .func (.func k) #[] #[]], .func (.func 171) #[] #[], X #[J Y sx, J Y ex, J Y cx, J O xh, J O xl, E tx, J Y 0], X #[J Y sy, J Y ey, J Y cy, J O yh, J O yl, E ty, J Y 0]] w fun e w' => ∃ os oe oc oh ol ot, Q os oe oc oh ol ot ∧ e = V (X #[J Y os, J Y oe, J Y oc, J O oh, J O ol, E ot, J Y 0]) ∧ Gr w w' := by
 go_enter Tryz.func74, Tryz.ntmps74
 go_wp2_with (go_at_call 171; refine (HO.out _).mono ?_; rintro e w1 ⟨os, oe, oc, oh, ol, ot, hq, rfl, hg_w1⟩; obtain ⟨ar0, arz0, ar1, arz1, ar2, arz2, ar3, arz3, ar4, arz4, ar5, arz5, ar6, arz6⟩ := hg_w1.y7 (w.heap.size + 1 + 1 + 1) 0 1 2 3 4 5 6 (J Y 0) (J Y 0) (J Y 0) (J O 0) (J O 0) (E false) (J Y 0))
 refine bodyPost_ret (v := X #[J Y os, J Y oe, J Y oc, J O oh, J O ol, E ot, J Y 0]) (by simp [results, Tryz.results74, go_sem, ar0, ar1, ar2, ar3, ar4, ar5, ar6]) rfl ⟨os, oe, oc, oh, ol, ot, hq, rfl, ?_⟩
 exact Gr.g
theorem implSub_of (f mode a b : Int) (R : Int → Int → Prop) {w : World} (HC : Hid (∀ w', Gr w w' → CT 130 #[J Y f, J Y mode, .func (.func 171) #[] #[], J O a, J O b] w' fun e w'' => ∃ z fl, R z fl ∧ e = V (X #[J O z, J Y fl]) ∧ Gr w' w'')) :
  CT 83 #[J Y f, J Y mode, J O a, J O b] w fun e w' => ∃ z fl, R z fl ∧ e = V (X #[J O z, J Y fl]) ∧ Gr w w' := by
 go_enter Tryz.func83, Tryz.ntmps83
 go_wp2_with (go_at_call 130; refine (HC.out _ Gr.g).mono ?_; rintro e w1 ⟨z, fl, hr, rfl, hg_w1⟩; obtain ⟨ar0, arz0, ar1, arz1⟩ := hg_w1.y2 w.heap.size 0 1 (J O 0) (J Y 0))
 refine bodyPost_ret (v := X #[J O z, J Y fl]) (by simp [results, Tryz.results83, go_sem, ar0, ar1]) rfl ⟨z, fl, hr, rfl, ?_⟩
 exact Gr.g
theorem difference_sum (p mn mx md : Int) (k : Nat) (x y : Opd) (hx : VO x) (hy : VO y) (h2 : max x.c y.c < 3) (w : World) :
  CT 171 #[X #[J Y p, J Y mn, J Y mx, J Y md, .func (.func k) #[] #[]], X #[J Y x.s, J Y x.e, J Y x.c, J O (((x.M / 18446744073709551616 : Nat) : Int)), J O (((x.M % 18446744073709551616 : Nat) : Int)), E false, J Y 0], X #[J Y y.s, J Y y.e, J Y y.c, J O (((y.M / 18446744073709551616 : Nat) : Int)), J O (((y.M % 18446744073709551616 : Nat) : Int)), E false, J Y 0]] w fun e w' => ∃ os oe oc oh ol ot, SameV (sumO md x (turnO y)) os oe oc oh ol ot ∧ e = V (X #[J Y os, J Y oe, J Y oc, J O oh, J O ol, E ot, J Y 0]) ∧ Gr w w' :=
 difference_any p mn mx md k _ _ _ _ _ _ _ _ _ _ _ _ (1 - y.s) (by rcases hy.s01 with e | e <;> rw [e] <;> decide +kernel) _ (fun w => sum_any p mn mx md k x (turnO y) hx hy.turn h2 w) w
theorem combine_difference_any (p mn mx md : Int) (k : Nat) (x y : Opd) (hx : VO x) (hy : VO y) (w : World) :
  CT 74 #[X #[J Y p, J Y mn, J Y mx, J Y md, .func (.func k) #[] #[]], .func (.func 171) #[] #[], X #[J Y x.s, J Y x.e, J Y x.c, J O (((x.M / 18446744073709551616 : Nat) : Int)), J O (((x.M % 18446744073709551616 : Nat) : Int)), E false, J Y 0], X #[J Y y.s, J Y y.e, J Y y.c, J O (((y.M / 18446744073709551616 : Nat) : Int)), J O (((y.M % 18446744073709551616 : Nat) : Int)), E false, J Y 0]] w fun e w' => ∃ os oe oc oh ol ot, SameV (sumO md x (turnO y)) os oe oc oh ol ot ∧ e = V (X #[J Y os, J Y oe, J Y oc, J O oh, J O ol, E ot, J Y 0]) ∧ Gr w w' := by
 by_cases h : 3 ≤ max x.c y.c
 ·refine (combine_nan p mn mx md k _ _ _ _ _ _ _ _ _ _ _ _ 171 _ rfl h w).mono ?_
  rintro r w' ⟨rfl, hg⟩
  have := hx.c4
  have := hy.c4
  rw [sumO_nan md x (turnO y) h]
  exact ⟨_, _, _, _, _, _, nan_same _ h (show max x.c y.c ≤ 4 by omega), rfl, hg⟩
 ·exact combine_difference p mn mx md k _ _ _ _ _ _ _ _ _ _ _ _ _ rfl (by omega) _ (fun w => difference_sum p mn mx md k x y hx hy (by omega) w) w
def subO (mode : Int) (x y : Opd) : Opd := sumO mode x (turnO y)
theorem implSub_any (f mode a b : Int) (a0 : 0 ≤ a) (a1 : a < 18446744073709551616) (b0 : 0 ≤ b) (b1 : b < 18446744073709551616) (w : World) (hw : Fm w) :
  CT 83 #[J Y f, J Y mode, J O a, J O b] w fun e w' => ∃ Z fl, OpR subO f mode a b Z fl ∧ e = V (X #[J O Z, J Y fl]) ∧ Gr w w' := by
 refine implSub_of f mode a b (OpR subO f mode a b) (fun w' hg => ?_)
 have hw' := hw.gr hg
 by_cases hf : f = 0 ∨ f = 1
 ·obtain ⟨p, mx, one, inf, sg, nan, hF⟩ := fmt_of f hf
  obtain ⟨mn, fb, sp, hM, hmn, hfb⟩ := hF.m
  by_cases hm : 0 ≤ mode ∧ mode ≤ 4
  ·obtain ⟨k, hk⟩ := rule_of mode hm.1 hm.2
   obtain ⟨x, hx, HA⟩ := opd_is hF hM a a0 a1
   obtain ⟨y, hy, HB⟩ := opd_is hF hM b b0 b1
   obtain ⟨v1, v2, v3, v4, v5, v6⟩ := opd_vo hF hx
   obtain ⟨u1, u2, u3, u4, u5, u6⟩ := opd_vo hF hy
   refine (calc_ok p mn mx mode f k 171 a b _ _ _ _ _ _ _ _ _ _ _ _ (fun w'' hg' => settingOf_yes hF hM mode k (fun w => ruleOf_yes mode k hk w) (hw'.gr hg')) HA HB (SameV (subO mode x y)) (fun w => combine_difference_any p mn mx mode k x y v1 u1 w) (PackIs p mn mx one inf sg nan mode (subO mode x y)) (fun os oe oc oh ol ot w hq => pack_any hM mode k hk _ os oe oc oh ol ot hq w)).mono ?_
   rintro e w'' ⟨Z, fl, hp, rfl, hg'⟩
   rw [hmn] at hp
   exact ⟨_, _, .inl ⟨p, mx, one, inf, sg, nan, x, y, hF, hm, hx, hy, hp⟩, rfl, hg'⟩
  ·refine (calc_no p mn mx mode nan f mode a b (fun w'' hg' => settingOf_bad hF hM mode (fun w => ruleOf_no mode (by omega) w) (hw'.gr hg')) (fun w => invalid_any hM w) 171).mono ?_
   rintro e w'' ⟨rfl, hg'⟩
   exact ⟨_, _, .inr (.inl ⟨p, mx, one, inf, sg, nan, hF, by omega, rfl, rfl⟩), rfl, hg'⟩
 ·refine (calc_no _ _ _ _ _ f mode a b (fun w'' hg' => settingOf_none f mode hf (hw'.gr hg')) (fun w => invalid_any m64 w) 171).mono ?_
  rintro e w'' ⟨rfl, hg'⟩
  exact ⟨_, _, .inr (.inr ⟨hf, rfl, rfl⟩), rfl, hg'⟩
theorem turned_opd {f p mx one inf sg nan : Int} (h : IsFmt f p mx one inf sg nan) (b z : Int) (b0 : 0 ≤ b) (hb : b < 2 * sg) (hz : b < sg ∧ z = b + sg ∨ sg ≤ b ∧ z = b - sg) {y : Opd} (hy : OpdIs p mx one inf sg nan b y) : 0 ≤ z ∧ z < 2 * sg ∧ OpdIs p mx one inf sg nan z (turnO y) := by
 have hbd := h.bounds
 rcases hy with ⟨_, v, hs, hc⟩ | ⟨c, _⟩
 ·refine ⟨by omega, by omega, .inl ⟨by omega, v, ?_, hc⟩⟩
  unfold turnO
  dsimp only
  rcases hs with ⟨s0, rfl, s1⟩ | ⟨s0, rfl, s1⟩
  ·rw [s0]; exact .inr ⟨by omega, by omega, by omega⟩
  ·rw [s0]; exact .inl ⟨by omega, by omega, by omega⟩
 ·exfalso; omega
set_option maxRecDepth 1000000
theorem sSub_bad (f mode a b : Int) (HF : KW 117 #[J Y f, J Y mode, J O a, J O b] (E false)) (z fl : Int) (HL : KR 63 #[J Y f] (X #[J O z, J Y fl])) (w : World) :
  QB 82 #[J Y f, J Y mode, J O a, J O b] w (X #[J O z, J Y fl]) := by
 go_enter Tryz.func82, Tryz.ntmps82
 go_wp2_with (first
  | (go_at_call 117; refine kw (HF.out _) ?_)
  | (go_at_call 63; refine (HL.out _).mono ?_; rintro e w9 ⟨rfl, hg_w9⟩; obtain ⟨zr0, zrz0, zr1, zrz1⟩ := hg_w9.y2 w.heap.size 0 1 (J O 0) (J Y 0)))
 refine bodyPost_ret (v := X #[J O z, J Y fl]) (by simp [results, Tryz.results82, go_sem, zr0, zr1]) rfl ⟨rfl, ?_⟩
 exact Gb.g
theorem sSub_ok (f mode a b b' : Int) (HF : KW 117 #[J Y f, J Y mode, J O a, J O b] (E true)) (HT : KW 170 #[J Y f, J O b] (J O b')) (Q : Int → Int → Prop) (HA : Hid (∀ w, CT 79 #[J Y f, J Y mode, J O a, J O b'] w fun e w' => ∃ z fl, Q z fl ∧ e = V (X #[J O z, J Y fl]) ∧ Gb w w')) (w : World) :
  CT 82 #[J Y f, J Y mode, J O a, J O b] w fun e w' => ∃ z fl, Q z fl ∧ e = V (X #[J O z, J Y fl]) ∧ Gb w w' := by
 go_enter Tryz.func82, Tryz.ntmps82
 go_wp2_with (first
  | (go_at_call 117; refine kw (HF.out _) ?_)
  | (go_at_call 170; refine kw (HT.out _) ?_)
  | (go_at_call 79; refine (HA.out _).mono ?_; rintro e w9 ⟨z, fl, hq, rfl, hg_w9⟩; obtain ⟨zr0, zrz0, zr1, zrz1⟩ := hg_w9.y2 w.heap.size 0 1 (J O 0) (J Y 0)))
 refine bodyPost_ret (v := X #[J O z, J Y fl]) (by simp [results, Tryz.results82, go_sem, zr0, zr1]) rfl ⟨z, fl, hq, rfl, ?_⟩
 exact Gb.g
theorem specSub_ok {f p mx one inf sg nan : Int} (h : IsFmt f p mx one inf sg nan) (mode a b : Int) (hm : 0 ≤ mode ∧ mode ≤ 4) (a0 : 0 ≤ a) (a1 : a < 18446744073709551616) (b0 : 0 ≤ b) (b1 : b < 18446744073709551616) {x y : Opd} (hx : OpdIs p mx one inf sg nan a x) (hy : OpdIs p mx one inf sg nan b y) (w : World) :
  CT 82 #[J Y f, J Y mode, J O a, J O b] w fun e w' => ∃ Z fl, PackIs p (1 - mx) mx one inf sg nan mode (subO mode x y) Z fl ∧ e = V (X #[J O Z, J Y fl]) ∧ Gb w w' := by
 have hbd := h.bounds
 by_cases hfit : a < 2 * sg ∧ b < 2 * sg
 ·obtain ⟨fa, fb'⟩ := hfit
  obtain ⟨z, hz⟩ : ∃ z, b < sg ∧ z = b + sg ∨ sg ≤ b ∧ z = b - sg := by
   by_cases c : b < sg
   ·exact ⟨_, .inl ⟨c, rfl⟩⟩
   ·exact ⟨_, .inr ⟨by omega, rfl⟩⟩
  obtain ⟨z0, z1, hz2⟩ := turned_opd h b z b0 fb' hz hy
  exact sSub_ok f mode a b z (fun w => l3Fits_yes h mode a b hm.1 hm.2 a0 fa b0 fb' w) (fun w => l3Turned_any h b z b0 fb' hz w) _ (fun w => specAdd_ok h mode a z hm a0 a1 z0 (by omega) hx hz2 w) w
 ·refine (sSub_bad f mode a b (fun w => l3Fits_no f mode a b a0 a1 b0 b1 (nofit_of h a1 b1 (by omega)) w) nan 1 (fun w => l2Bad_fmt h w) w).mono ?_
  rintro e w' ⟨rfl, hg⟩
  refine ⟨_, _, ?_, rfl, hg⟩
  obtain ⟨v1, _⟩ := opd_vo h hx
  obtain ⟨u1, _⟩ := opd_vo h hy
  have xc4 := v1.c4
  have yc4 := u1.c4
  have : max x.c (turnO y).c = 4 := by
   show max x.c y.c = 4
   rcases (show 2 * sg ≤ a ∨ 2 * sg ≤ b by omega) with c | c
   ·have := opd_wide h hx c; subst this; dsimp only at *; omega
   ·have := opd_wide h hy c; subst this; dsimp only at *; omega
  unfold subO
  rw [sumO_nan mode x (turnO y) (by omega)]
  exact bad_nan this
theorem specSub_any (f mode a b : Int) (a0 : 0 ≤ a) (a1 : a < 18446744073709551616) (b0 : 0 ≤ b) (b1 : b < 18446744073709551616) (w : World) :
  CT 82 #[J Y f, J Y mode, J O a, J O b] w fun e w' => ∃ Z fl, OpR subO f mode a b Z fl ∧ e = V (X #[J O Z, J Y fl]) ∧ Gb w w' := by
 by_cases hf : f = 0 ∨ f = 1
 ·obtain ⟨p, mx, one, inf, sg, nan, hF⟩ := fmt_of f hf
  by_cases hm : 0 ≤ mode ∧ mode ≤ 4
  ·obtain ⟨x, hx⟩ := opd_ex hF a a0 a1
   obtain ⟨y, hy⟩ := opd_ex hF b b0 b1
   refine (specSub_ok hF mode a b hm a0 a1 b0 b1 hx hy w).mono ?_
   rintro e w' ⟨Z, fl, hp, rfl, hg⟩
   exact ⟨_, _, .inl ⟨p, mx, one, inf, sg, nan, x, y, hF, hm, hx, hy, hp⟩, rfl, hg⟩
  ·refine (sSub_bad f mode a b (fun w => l3Fits_no f mode a b a0 a1 b0 b1 (.inl (by omega)) w) nan 1 (fun w => l2Bad_fmt hF w) w).mono ?_
   rintro e w' ⟨rfl, hg⟩
   exact ⟨_, _, .inr (.inl ⟨p, mx, one, inf, sg, nan, hF, by omega, rfl, rfl⟩), rfl, hg⟩
 ·refine (sSub_bad f mode a b (fun w => l3Fits_no f mode a b a0 a1 b0 b1 (.inr (.inl hf)) w) _ 1 (fun w => l2Bad_no f hf w) w).mono ?_
  rintro e w' ⟨rfl, hg⟩
  exact ⟨_, _, .inr (.inr ⟨hf, rfl, rfl⟩), rfl, hg⟩
theorem sub_same (f mode a b : Int) (a0 : 0 ≤ a) (a1 : a < 18446744073709551616) (b0 : 0 ≤ b) (b1 : b < 18446744073709551616) :
  ∃ Z fl : Int, OpR subO f mode a b Z fl ∧ (∀ w, QB 82 #[J Y f, J Y mode, J O a, J O b] w (X #[J O Z, J Y fl])) ∧
   (∀ w, Fm w → QR 83 #[J Y f, J Y mode, J O a, J O b] w (X #[J O Z, J Y fl])) :=
 both_of subO 82 83 (fun mode x y hx hy _ _ _ _ _ _ => sumO_c mode x (turnO y) hx hy.turn) f mode a b a0 a1 b0 b1 (specSub_any f mode a b a0 a1 b0 b1) (implSub_any f mode a b a0 a1 b0 b1)
end Go.Proofs.YtnbbfeknbfohhaaGreatDoor
