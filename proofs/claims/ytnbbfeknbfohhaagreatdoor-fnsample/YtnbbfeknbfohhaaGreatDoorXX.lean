import Derived.Test.YtnbbfeknbfohhaaGreatDoorWW
import Derived.Test.YtnbbfeknbfohhaaGreatDoorL5a
import Derived.Test.YtnbbfeknbfohhaaGreatDoorY3
set_option linter.unusedVariables false
set_option linter.unusedSimpArgs false
namespace Go.Proofs.YtnbbfeknbfohhaaGreatDoor
open Go.RowKit
set_option maxRecDepth 100000 in
theorem word_7 (n : Int) (n0 : -9223372036854775808 ≤ n) (n1 : n ≤ 9223372036854775807) (w : World) :
  Calls Tryz.prog 109 #[.int .i64 n] w fun e w' => e = .returned (.int .u64 (o7.int n)) ∧ Gb w w' := by
 have hf := res_f7
 have hw : IntKind.u64.wrap n = n % 18446744073709551616 := IntKind.wrap_u64 n
 have HA : Hid (∀ w, Calls Tryz.prog 19 #[.int .i64 1, .int .i64 0, .int .i64 1, .int .u64 (n % 18446744073709551616)] w fun e w' => ∃ fl : Int, e = .returned (.agg #[.int .u64 (o7.int n), .int .i64 fl]) ∧ Gb w w') := fun w => (specFromInt_any 1 0 1 _ (Int.emod_nonneg _ (by decide)) (Int.emod_lt_of_pos _ (by decide)) w).mono fun e w' ⟨Z, fl, hp, he, hg⟩ => ⟨fl, by rw [o7_int hp]; exact he, hg⟩
 generalize o7.int n = z at *
 generalize n % 18446744073709551616 = u at *
 go_enter Tryz.func109, Tryz.ntmps109
 go_wp2_with (go_at_call 19; refine (HA.out _).mono ?_; rintro e w1 ⟨fl, rfl, hg_w1⟩)
 go_returns
 exact ⟨rfl, kg⟩
set_option maxRecDepth 100000 in
theorem minus_7 {a b : Int} (ha : Wo a) (hb : Wo b) (w : World) :
  Calls Tryz.prog 33 #[.int .u64 a, .int .u64 b] w fun e w' => e = .returned (.int .u64 (o7.sub a b)) ∧ Gb w w' := by
 have hf := res_f7
 have HA : Hid (∀ w, Calls Tryz.prog 82 #[.int .i64 1, .int .i64 0, .int .u64 a, .int .u64 b] w fun e w' => ∃ fl : Int, e = .returned (.agg #[.int .u64 (o7.sub a b), .int .i64 fl]) ∧ Gb w w') := fun w => (specSub_any 1 0 a b ha.1 ha.2 hb.1 hb.2 w).mono fun e w' ⟨Z, fl, hp, he, hg⟩ => ⟨fl, by rw [o7_sub hp]; exact he, hg⟩
 generalize o7.sub a b = z at *
 clear ha hb
 go_enter Tryz.func33, Tryz.ntmps33
 go_wp2_with (go_at_call 82; refine (HA.out _).mono ?_; rintro e w1 ⟨fl, rfl, hg_w1⟩)
 go_returns
 exact ⟨rfl, kg⟩
set_option maxRecDepth 100000 in
theorem times_7 {a b : Int} (ha : Wo a) (hb : Wo b) (w : World) :
  Calls Tryz.prog 34 #[.int .u64 a, .int .u64 b] w fun e w' => e = .returned (.int .u64 (o7.mul a b)) ∧ Gb w w' := by
 have hf := res_f7
 have HA : Hid (∀ w, Calls Tryz.prog 85 #[.int .i64 1, .int .i64 0, .int .u64 a, .int .u64 b] w fun e w' => ∃ fl : Int, e = .returned (.agg #[.int .u64 (o7.mul a b), .int .i64 fl]) ∧ Gb w w') := fun w => (specMul_any 1 0 a b ha.1 ha.2 hb.1 hb.2 w).mono fun e w' ⟨Z, fl, hp, he, hg⟩ => ⟨fl, by rw [o7_mul hp]; exact he, hg⟩
 generalize o7.mul a b = z at *
 clear ha hb
 go_enter Tryz.func34, Tryz.ntmps34
 go_wp2_with (go_at_call 85; refine (HA.out _).mono ?_; rintro e w1 ⟨fl, rfl, hg_w1⟩)
 go_returns
 exact ⟨rfl, kg⟩
theorem div_7 (w : World) : Calls Tryz.prog 91 #[.int .i64 1, .int .i64 0, .int .u64 4607182418800017408, .int .u64 4611686018427387904] w fun e w' => ∃ fl : Int, e = .returned (.agg #[.int .u64 hfC, .int .i64 fl]) ∧ Gb w w' := by
 refine (specDiv_num f647 0 4607182418800017408 4611686018427387904 ⟨by decide, by decide⟩ (by decide) (by decide) (by decide) (by decide) (x := ⟨1, 0, 0 - 52, 4503599627370496⟩) (y := ⟨1, 0, 1 - 52, 4503599627370496⟩) (pow_opd 0 0 (by decide) (by decide) (by decide)) (pow_opd 0 1 (by decide) (by decide) (by decide)) rfl rfl w).mono ?_
 rintro e w' ⟨Z, fl, hp, he, hg⟩
 refine ⟨fl, ?_, hg⟩
 have h1 : PackD 53 (1 - 1023) 1023 4503599627370496 9218868437227405312 9223372036854775808 9221120237041090560 0 ⟨1, 0, -59, 288230376151711744⟩ hfC 0 := .inl (.inr (.inl ⟨rfl, 4602678819172646912, ⟨-1, -1, 4503599627370496, 4503599627370496, 0, by decide, .inr ⟨by decide, rfl⟩, by decide, by decide, by decide, .inr (.inr ⟨by decide, by decide, by decide, .inl ⟨rfl, rfl⟩⟩)⟩, rfl⟩))
 have h2 := (PackD.one hp h1).1
 rw [he, h2]
set_option maxRecDepth 100000 in
theorem half_7 (w : World) : Calls Tryz.prog 35 #[] w fun e w' => e = .returned (.int .u64 hfC) ∧ Gb w w' := by
 have hf := res_f7
 have H1 : KB 109 #[.int .i64 1] (.int .u64 4607182418800017408) := fun w => by have := word_7 1 (by decide) (by decide) w; rw [i1] at this; exact this
 have H2 : KB 109 #[.int .i64 2] (.int .u64 4611686018427387904) := fun w => by have := word_7 2 (by decide) (by decide) w; rw [i2] at this; exact this
 have HA : Hid _ := div_7
 go_enter Tryz.func35, Tryz.ntmps35
 go_wp2_with (first
  | (go_at_call 109; first | (with_reducible refine (H1.out _).mono ?_; rintro e w1 ⟨rfl, hg_w1⟩) | (with_reducible refine (H2.out _).mono ?_; rintro e w2 ⟨rfl, hg_w2⟩))
  | (go_at_call 91; refine (HA.out _).mono ?_; rintro e w3 ⟨fl, rfl, hg_w3⟩))
 go_returns
 exact ⟨rfl, kg⟩
theorem unp_7 {a : Int} (ha : Wo a) : ∃ c s x g : Int, Unp a c s ∧ KR 31 #[.int .i64 1, .int .u64 a] (.agg #[.int .i64 c, .int .i64 s, .int .i64 x, .int .u64 g]) := by
 have h0 := ha.1
 have h1 := ha.2
 obtain ⟨x, hx⟩ := opd_ex f647 a h0 h1
 refine ⟨x.c, x.s, x.e, ((x.M : Nat) : Int), ?_, unp_det f647 a h0 (by omega) hx⟩
 rcases hx with ⟨_, v, hs, hv⟩ | ⟨c, _⟩
 ·have hva : v = a % 9223372036854775808 := by omega
  refine ⟨by omega, ?_, ?_, by omega⟩
  ·rcases hv with ⟨_, c, _⟩ | ⟨_, _, c, _⟩ | ⟨_, c, _⟩ | ⟨_, c, _⟩ | ⟨_, _, c, _⟩ <;> omega
  ·rcases hv with ⟨_, c, _⟩ | ⟨_, _, c, _⟩ | ⟨_, c, _⟩ | ⟨_, c, _⟩ | ⟨_, _, c, _⟩ <;> omega
 ·omega
theorem o7_s : o7.S where
 word := fun n n0 n1 w => word_7 n n0 n1 w
 minus := fun a b ha hb w => minus_7 ha hb w
 times := fun a b ha hb w => times_7 ha hb w
 half := half_7
 from32 := fun w => (specFromInt_any 1 0 3 _ (by decide) (by decide) w).mono fun e w' ⟨Z, fl, hp, he, hg⟩ => ⟨fl, by rw [← (FromIs.one hp f32).1]; exact he, hg⟩
 from63 := fun w => (specFromInt_any 1 0 3 _ (by decide) (by decide) w).mono fun e w' ⟨Z, fl, hp, he, hg⟩ => ⟨fl, by rw [← (FromIs.one hp f63).1]; exact he, hg⟩
 unp := unp_7
 order := fun a b ha hb w => l5Order_walk 1 a b _ _ 9223372036854775808 _ (fun w => l2Sign_any f647 w) (by decide) rfl rfl rfl w
 rint := fun a ha w => (specRoundInt_any 1 4 a false ha.1 ha.2 w).mono fun e w' ⟨Z, fl, hp, he, hg⟩ => ⟨fl, by rw [o7_rint hp]; exact he, hg⟩
 fix := fun a ha w => (specToInt_any 1 2 3 a ha.1 ha.2 w).mono fun e w' ⟨Z, fl, hp, he, hg⟩ => ⟨fl, by rw [o7_fix hp]; exact he, hg⟩
 whole := fun a ha w => (specToInt_any 1 0 1 a ha.1 ha.2 w).mono fun e w' ⟨Z, fl, hp, he, hg⟩ => ⟨fl, by rw [o7_whole hp]; exact he, hg⟩
 k1 := by rw [i41n]; exact m41n
 k2 := by rw [i41]; exact m41
 k3 := by rw [i1]; exact m1
 k4 := by rw [i2]; exact m2
 k5 := by rw [i0]; exact m0
 k6 := mh
 k7 := mq
 neg := neg_7
set_option maxRecDepth 100000 in
theorem word_7i (n : Int) (n0 : -9223372036854775808 ≤ n) (n1 : n ≤ 9223372036854775807) {w : World} (hw : Fm w) :
  Calls Tryz.prog 134 #[.int .i64 n] w fun e w' => e = .returned (.int .u64 (o7.int n)) ∧ Gr w w' := by
 have hf := res_f7
 have hwr : IntKind.u64.wrap n = n % 18446744073709551616 := IntKind.wrap_u64 n
 have HA : Hid (Calls Tryz.prog 97 #[.int .i64 1, .int .i64 0, .int .i64 1, .int .u64 (n % 18446744073709551616)] w fun e w' => ∃ fl : Int, e = .returned (.agg #[.int .u64 (o7.int n), .int .i64 fl]) ∧ Gr w w') := (implFromInt_any 1 0 1 _ (Int.emod_nonneg _ (by decide)) (Int.emod_lt_of_pos _ (by decide)) w hw).mono fun e w' ⟨Z, fl, hp, he, hg⟩ => ⟨fl, by rw [o7_int hp]; exact he, hg⟩
 generalize o7.int n = z at *
 generalize n % 18446744073709551616 = u at *
 clear hw
 go_enter Tryz.func134, Tryz.ntmps134
 go_wp2_with (go_at_call 97; refine HA.out.mono ?_; rintro e w1 ⟨fl, rfl, hg_w1⟩)
 go_returns
 exact ⟨rfl, kr⟩
set_option maxRecDepth 100000 in
theorem minus_7i {a b : Int} (ha : Wo a) (hb : Wo b) {w : World} (hw : Fm w) :
  Calls Tryz.prog 42 #[.int .u64 a, .int .u64 b] w fun e w' => e = .returned (.int .u64 (o7.sub a b)) ∧ Gr w w' := by
 have hf := res_f7
 have HA : Hid (Calls Tryz.prog 83 #[.int .i64 1, .int .i64 0, .int .u64 a, .int .u64 b] w fun e w' => ∃ fl : Int, e = .returned (.agg #[.int .u64 (o7.sub a b), .int .i64 fl]) ∧ Gr w w') := (implSub_any 1 0 a b ha.1 ha.2 hb.1 hb.2 w hw).mono fun e w' ⟨Z, fl, hp, he, hg⟩ => ⟨fl, by rw [o7_sub hp]; exact he, hg⟩
 generalize o7.sub a b = z at *
 clear ha hb hw
 go_enter Tryz.func42, Tryz.ntmps42
 go_wp2_with (go_at_call 83; refine HA.out.mono ?_; rintro e w1 ⟨fl, rfl, hg_w1⟩)
 go_returns
 exact ⟨rfl, kr⟩
set_option maxRecDepth 100000 in
theorem times_7i {a b : Int} (ha : Wo a) (hb : Wo b) {w : World} (hw : Fm w) :
  Calls Tryz.prog 43 #[.int .u64 a, .int .u64 b] w fun e w' => e = .returned (.int .u64 (o7.mul a b)) ∧ Gr w w' := by
 have hf := res_f7
 have HA : Hid (Calls Tryz.prog 86 #[.int .i64 1, .int .i64 0, .int .u64 a, .int .u64 b] w fun e w' => ∃ fl : Int, e = .returned (.agg #[.int .u64 (o7.mul a b), .int .i64 fl]) ∧ Gr w w') := (implMul_any 1 0 a b ha.1 ha.2 hb.1 hb.2 w hw).mono fun e w' ⟨Z, fl, hp, he, hg⟩ => ⟨fl, by rw [o7_mul hp]; exact he, hg⟩
 generalize o7.mul a b = z at *
 clear ha hb hw
 go_enter Tryz.func43, Tryz.ntmps43
 go_wp2_with (go_at_call 86; refine HA.out.mono ?_; rintro e w1 ⟨fl, rfl, hg_w1⟩)
 go_returns
 exact ⟨rfl, kr⟩
set_option maxRecDepth 100000 in
theorem fix_7i {a : Int} (ha : Wo a) {w : World} (hw : Fm w) :
  Calls Tryz.prog 44 #[.int .u64 a] w fun e w' => e = .returned (.int .u64 (o7.fix a)) ∧ Gr w w' := by
 have hf := res_f7
 have HA : Hid (Calls Tryz.prog 23 #[.int .i64 1, .int .i64 2, .int .i64 3, .int .u64 a] w fun e w' => ∃ fl : Int, e = .returned (.agg #[.int .u64 (o7.fix a), .int .i64 fl]) ∧ Gr w w') := (implToInt_any 1 2 3 a ha.1 ha.2 w hw).mono fun e w' ⟨Z, fl, hp, he, hg⟩ => ⟨fl, by rw [o7_fix hp]; exact he, hg⟩
 generalize o7.fix a = z at *
 clear ha hw
 go_enter Tryz.func44, Tryz.ntmps44
 go_wp2_with (go_at_call 23; refine HA.out.mono ?_; rintro e w1 ⟨fl, rfl, hg_w1⟩)
 go_returns
 exact ⟨rfl, kr⟩
theorem o7_i : o7.I where
 word := fun n n0 n1 w hw => word_7i n n0 n1 hw
 minus := fun a b ha hb w hw => minus_7i ha hb hw
 times := fun a b ha hb w hw => times_7i ha hb hw
 fix := fun a ha w hw => fix_7i ha hw
 rint := fun a ha w hw => (implRoundInt_any 1 4 a false ha.1 ha.2 w hw).mono fun e w' ⟨Z, fl, hp, he, hg⟩ => ⟨fl, by rw [o7_rint hp]; exact he, hg⟩
 whole := fun a ha h0 w hw => (implToInt_any 1 2 1 (o7.rint a) (o7_in.rint ha).1 (o7_in.rint ha).2 w hw).mono fun e w' ⟨Z, fl, hp, he, hg⟩ => ⟨fl, by rw [whole_7 ha h0 hp]; exact he, hg⟩
theorem sample_s {o : O7} (H : o.S) (HI : o.In) {mu inv scale : Int} (hm : Wo mu) (hi : Wo inv) (hs : Wo scale) (s : ByteArray) (hz : s.size ≤ 1048576) (w : World) :
  Calls Tryz.prog 9 #[.int .u64 mu, .int .u64 inv, .int .u64 scale, .string s] w fun e w' => ∃ r, o.SampIs mu inv scale s r ∧ e = .returned (smpV r) ∧ Gb w w' := by
 by_cases c : s.size ≤ 20000 ∧ isC mu inv scale = true
 ·exact (sample_yes_s H HI hm hi hs s c.1 c.2 w).mono fun e w' ⟨r, h1, h2, h3⟩ => ⟨r, by unfold O7.SampIs; rw [if_pos c]; exact h1, h2, h3⟩
 ·exact (sample_no_s H HI hm hi hs s hz c w).mono fun e w' ⟨h1, h2⟩ => ⟨_, by unfold O7.SampIs; rw [if_neg c], h1, h2⟩
theorem sample_i {o : O7} (H : o.I) (HI : o.In) {mu inv scale : Int} (hm : Wo mu) (hi : Wo inv) (hs : Wo scale) (s : ByteArray) (hz : s.size ≤ 1048576) {w : World} (hw : Fm w) (hT : Tl w) (hD : Dc w) :
  Calls Tryz.prog 10 #[.int .u64 mu, .int .u64 inv, .int .u64 scale, .string s] w fun e w' => ∃ r, o.SampIs mu inv scale s r ∧ e = .returned (smpV r) ∧ Gr w w' := by
 by_cases c : s.size ≤ 20000 ∧ isC mu inv scale = true
 ·exact (sample_yes_i H HI hm hi hs s c.1 c.2 hw hT hD).mono fun e w' ⟨r, h1, h2, h3⟩ => ⟨r, by unfold O7.SampIs; rw [if_pos c]; exact h1, h2, h3⟩
 ·exact (sample_no_i hm hi hs s hz c hw).mono fun e w' ⟨h1, h2⟩ => ⟨_, by unfold O7.SampIs; rw [if_neg c], h1, h2⟩
end Go.Proofs.YtnbbfeknbfohhaaGreatDoor
