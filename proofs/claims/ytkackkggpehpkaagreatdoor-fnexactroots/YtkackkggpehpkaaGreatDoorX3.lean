/- Roots of both sides; laws.FnExactRoots. -/
import Derived.Test.YtkackkggpehpkaaGreatDoorX2
import Derived.Test.YtkackkggpehpkaaGreatDoorX1
import Derived.Deep.DeepCutAuto
import Derived.Deep.Cut
import Derived.Test.YtkackkggpehpkaaGreatDoorC2
import Derived.Test.YtkackkggpehpkaaGreatDoorC5
import Derived.Test.YtkackkggpehpkaaGreatDoorC3
import Derived.Test.YtkackkggpehpkaaGreatDoorH5
import Derived.Test.YtkackkggpehpkaaGreatDoorH7
import Derived.Test.YtkackkggpehpkaaGreatDoorG3
import Derived.Test.YtkackkggpehpkaaGreatDoorX0
set_option linter.unusedVariables false
set_option linter.unusedSimpArgs false
namespace Go.Proofs.YtkackkggpehpkaaGreatDoor
open Go.RowKit

def rN (k : Int) : Nat := if 1 ≤ k ∧ k ≤ 6 then 2 ^ (k.toNat - 1) else 0
theorem rN_le (k : Int) : rN k ≤ 64 := by
  unfold rN
  split
  · have := Nat.pow_le_pow_right (show 0 < 2 by decide) (show k.toNat - 1 ≤ 6 by omega)
    omega
  · omega
/-- A call that makes a list of complex numbers. -/
abbrev MakesC (F : Nat) (args : Array Value) (w : World) (n : Nat) (f : Nat → Int × Int) : Prop := Calls Tryz.prog F args w fun e w' => ∃ v, e = .returned v ∧ Ow w' w.heap.size 54 2 .u64 v n (flat f) ∧ Gb w w'

set_option maxRecDepth 100000 in
set_option maxHeartbeats 2000000 in
theorem Roots_s {o : Ops} (H : o.S) (HI : o.In) (k : Int) (w : World) : MakesC 9 #[.int .i64 k] w (rN k) (o.rt k.toNat) := by
  by_cases h : 1 ≤ k ∧ k ≤ 6
  · obtain ⟨n, rfl⟩ := Int.eq_ofNat_of_zero_le (show 0 ≤ k by omega)
    have hn : rN (n : Int) = 2 ^ (n - 1) := by unfold rN; rw [if_pos h]; rfl
    rw [hn]
    exact roots_s H HI n (by omega) (by omega) w
  · have hn : rN k = 0 := by unfold rN; rw [if_neg h]
    rw [hn]
    rcases (show k < 1 ∨ 1 ≤ k ∧ 6 < k by omega) with c | ⟨c, c'⟩
    · have c1 : ¬ 1 ≤ k := by omega
      clear h hn
      go_enter Tryz.func9, Tryz.ntmps9
      go_wp2
      go_returns
      exact ⟨_, rfl, Ow.lit _ _ _ _ _, kg⟩
    · have c1 : ¬ k < 1 := by omega
      clear h hn
      go_enter Tryz.func9, Tryz.ntmps9
      go_wp2
      go_returns
      exact ⟨_, rfl, Ow.lit _ _ _ _ _, kg⟩

theorem isLog_any (k : Int) (b : Bool) (hb : b = decide (1 ≤ k ∧ k ≤ 6)) (w : World) :
    Calls Tryz.prog 40 #[.int .i64 k] w fun e w' => e = .returned (.bool b) ∧ w = w' := by
  rcases (show (k < 1 ∨ 1 ≤ k ∧ 6 < k ∨ 1 ≤ k ∧ k ≤ 6) by omega) with c | ⟨c, c'⟩ | ⟨c, c'⟩
  · obtain rfl : b = false := by rw [hb]; simp; omega
    have c1 : ¬ 1 ≤ k := by omega
    clear hb
    go_enter Tryz.func40, Tryz.ntmps40
    go_wp2
    go_returns
    exact ⟨rfl, rfl⟩
  · obtain rfl : b = false := by rw [hb]; simp; omega
    have c1 : ¬ k ≤ 6 := by omega
    clear hb
    go_enter Tryz.func40, Tryz.ntmps40
    go_wp2
    go_returns
    exact ⟨rfl, rfl⟩
  · obtain rfl : b = true := by rw [hb]; simp; omega
    clear hb
    go_enter Tryz.func40, Tryz.ntmps40
    go_wp2
    go_returns
    exact ⟨rfl, rfl⟩

set_option maxRecDepth 100000 in
set_option maxHeartbeats 2000000 in
theorem Roots_i {o : Ops} (H : o.I) (HI : o.In) (k : Int) {w : World} (hw : Fm w) : MakesC 10 #[.int .i64 k] w (rN k) (o.rt k.toNat) := by
  by_cases h : 1 ≤ k ∧ k ≤ 6
  · obtain ⟨n, rfl⟩ := Int.eq_ofNat_of_zero_le (show 0 ≤ k by omega)
    have hn : rN (n : Int) = 2 ^ (n - 1) := by unfold rN; rw [if_pos h]; rfl
    rw [hn]
    have HL : Hid (∀ w, Calls Tryz.prog 40 #[.int .i64 n] w fun e w' => e = .returned (.bool true) ∧ w = w') := fun w => isLog_any _ true (by simp; omega) w
    have HC : Hid (Calls Tryz.prog 41 #[.int .i64 n] w fun e w' => ∃ g cap u, e = .returned (.slice (some ⟨g, 0, none⟩) (n + 1) cap) ∧ w'.cell? ⟨g, n, none⟩ = some u ∧ Ow w' w.heap.size 54 2 .u64 u (2 ^ (n - 1)) (flat (o.rt n)) ∧ Gb w w') := (circleOf_i H HI n (by omega) (by omega) hw).mono fun e w' ⟨v, e1, ⟨xs, h1, h2⟩, hg⟩ => by
      obtain ⟨u, hu, ho⟩ := h2 n (by omega) (by omega)
      obtain ⟨g, cap, rfl⟩ : ∃ g cap, v = .slice (some ⟨g, 0, none⟩) (n + 1) cap := by
        rcases h1.2 with ⟨_, h⟩ | ⟨g, gcap, _, rfl, _⟩
        · omega
        · exact ⟨g, gcap, rfl⟩
      exact ⟨g, cap, u, e1, (World.ownsRow.cellAt h1 n (by omega)).trans hu, ho, hg⟩
    have hlt : n < n + 1 := by omega
    clear hn hw H HI
    go_enter Tryz.func10, Tryz.ntmps10
    go_wp2_with (first
      | (go_at_call 40; refine (HL.out _).mono ?_; rintro e w1 ⟨rfl, hw1⟩; subst hw1)
      | (go_at_call 41; refine HC.out.mono ?_; rintro e w2 ⟨g, cap, u, rfl, hc2, ho2, hg_w2⟩))
    go_returns
    exact ⟨_, rfl, ho2, hg_w2⟩
  · have hn : rN k = 0 := by unfold rN; rw [if_neg h]
    rw [hn]
    have HL : Hid (∀ w, Calls Tryz.prog 40 #[.int .i64 k] w fun e w' => e = .returned (.bool false) ∧ w = w') := fun w => isLog_any _ false (by simp; omega) w
    clear h hn hw H HI
    go_enter Tryz.func10, Tryz.ntmps10
    go_wp2_with (first
      | (go_at_call 40; refine (HL.out _).mono ?_; rintro e w1 ⟨rfl, hw1⟩; subst hw1))
    go_returns
    exact ⟨_, rfl, Ow.nil _ _ _ _ _ _, Gb.refl w⟩

set_option maxRecDepth 100000 in
set_option maxHeartbeats 4000000 in
theorem lawRoots {o : Ops} (HS : o.S) (HP : o.I) (HI : o.In) (k : Int) {w : World} (hw : Fm w) :
    Calls Tryz.prog 3 #[.int .i64 k] w fun e w' => e = .returned (.bool true) ∧ Gb w w' := by
  have hN := rN_le k
  have H1 : Hid (∀ w, MakesC 9 #[.int .i64 k] w (rN k) (o.rt k.toNat)) := fun w => Roots_s HS HI k w
  have H2 : Hid (∀ w', Gb w w' → MakesC 10 #[.int .i64 k] w' (rN k) (o.rt k.toNat)) := fun w' hg => Roots_i HP HI k (hw.gb hg)
  generalize rN k = N at *
  generalize o.rt k.toNat = f at *
  have hz : ¬ ((2 * N + 1 : Nat) : Int) < 0 := by omega
  clear HS HP HI hw
  go_enter Tryz.func3, Tryz.ntmps3
  go_upto_region 2 with (go_at_call 9; refine (H1.out _).mono ?_; rintro e w1 ⟨v0, rfl, ho0, hg_w1⟩)
  go_upto_region 3 with (go_at_call 10; refine (H2.out _ kg).mono ?_; rintro e w2 ⟨v1, rfl, ho1, hg_w2⟩)
  go_upto_region 5 with (go_at_call 11; refine (eqCplxS_same ho1.rd (ho0.rd.gb hg_w2) (by omega)).mono ?_; rintro e w3 ⟨rfl, hg_w3⟩)
  go_upto_region 7 with (go_at_call 12; refine (markCplxS_any (ho1.gb hg_w3) (by omega)).mono ?_; rintro e w4 ⟨rfl, ho4, hmk4⟩)
  have hs1 := hg_w1.size
  have hne : ∀ p, v0.ownBlock = some p → v1.ownBlock ≠ some p := fun p h0 h1 => by
    have a := (World.ownsRow.lt ho0 p h0).2
    have b := (World.ownsRow.lt ho1 p h1).1
    omega
  have hr4 : Rd w4 .u64 v0 N (N * 2) (flat f) := Rd.mk hmk4 ((ho0.rd.gb hg_w2).gb hg_w3) hne
  have hg_w4 : Gb w w4 := Gb.below kg (hmk4.below (base := w1.heap.size) fun p h1 => (World.ownsRow.lt ho1 p h1).1) hs1
  clear hmk4
  go_upto_region 13 with (go_at_call 13; refine (heldCplxS_any ho4.rd (by omega)).mono ?_; rintro e w5 ⟨rfl, hw5⟩; subst hw5)
  go_upto_region 14 with (go_at_call 10; refine (H2.out _ kg).mono ?_; rintro e w6 ⟨v6, rfl, ho6, hg_w6⟩)
  go_wp2_with (go_at_call 11; refine (eqCplxS_same ho6.rd (hr4.gb hg_w6) (by omega)).mono ?_; rintro e w7 ⟨rfl, hg_w7⟩)
  go_returns
  exact ⟨rfl, kg⟩
end Go.Proofs.YtkackkggpehpkaaGreatDoor

/- Words of F64 in REven: the operations as functions, of both sides. -/
set_option linter.unusedVariables false
set_option linter.unusedSimpArgs false
namespace Go.Proofs.YtkackkggpehpkaaGreatDoor
open Go.RowKit

theorem rb_in {f p mx one inf sg nan mode s : Int} {M : Nat} {e : Int} {b : Bool} {z fl : Int} (h : IsFmt f p mx one inf sg nan) (hr : RoundIs p (1 - mx) mx one inf mode s M e b z fl) : 0 ≤ z ∧ z < sg := by
  have hb := h.bounds
  obtain ⟨top, E, r, r2, hf, h1, h2, h3, h4, h5, h6⟩ := hr
  have hov : ovMag inf mode s = inf ∨ ovMag inf mode s = inf - 1 := by unfold ovMag; split <;> simp
  have hE : 0 ≤ one * (E - (1 - mx)) := Int.mul_nonneg (by omega) (by omega)
  rcases h6 with ⟨_, rfl, _⟩ | ⟨_, _, rfl, _⟩ | ⟨_, h7, rfl, _⟩
  · omega
  · omega
  · generalize one * (E - (1 - mx)) = Q at *
    omega
theorem pk_in {f p mx one inf sg nan mode : Int} {o : Opd} {Z fl : Int} (h : IsFmt f p mx one inf sg nan) (hp : PackIs p (1 - mx) mx one inf sg nan mode o Z fl) : Wd Z := by
  have hb := h.bounds
  have hsg : 2 * sg ≤ 18446744073709551616 := by
    rcases h with ⟨_, _, _, _, _, rfl, _⟩ | ⟨_, _, _, _, _, rfl, _⟩ <;> omega
  have hsw : ∀ z, 0 ≤ z → z < sg → Wd (sw o.s sg z) := by
    intro z z0 z1
    unfold sw Wd
    split <;> omega
  rcases hp with ⟨_, rfl, _⟩ | ⟨_, z, hz, rfl⟩ | ⟨_, rfl, _⟩ | ⟨_, rfl, _⟩ | ⟨_, rfl, _⟩
  · exact hsw 0 (by omega) (by omega)
  · have := rb_in h hz
    exact hsw z this.1 this.2
  · exact hsw inf (by omega) (by omega)
  · unfold Wd; omega
  · unfold Wd; omega
theorem nan_in {f p mx one inf sg nan : Int} (h : IsFmt f p mx one inf sg nan) : Wd nan := by
  rcases h with ⟨_, _, _, _, _, _, rfl⟩ | ⟨_, _, _, _, _, _, rfl⟩ <;> (unfold Wd; omega)
theorem OpR.wd {R : Int → Opd → Opd → Opd} {f mode a b Z fl : Int} (h : OpR R f mode a b Z fl) : Wd Z := by
  rcases h with ⟨p, mx, one, inf, sg, nan, x, y, hF, hm, hx, hy, hp⟩ | ⟨p, mx, one, inf, sg, nan, hF, hm, rfl, rfl⟩ | ⟨hF, rfl, rfl⟩
  · exact pk_in hF hp
  · exact nan_in hF
  · unfold Wd; omega
theorem OpRD.wd {R : Int → Int → Opd → Opd → Opd} {f mode a b Z fl : Int} (h : OpRD R f mode a b Z fl) : Wd Z := by
  rcases h with ⟨p, mx, one, inf, sg, nan, x, y, hF, hm, hx, hy, hp⟩ | ⟨p, mx, one, inf, sg, nan, hF, hm, rfl, rfl⟩ | ⟨hF, rfl, rfl⟩
  · rcases hp with hp | ⟨_, rfl, _⟩
    · exact pk_in hF hp
    · have hb := hF.bounds
      rcases hF with ⟨_, _, _, _, rfl, rfl, _⟩ | ⟨_, _, _, _, rfl, rfl, _⟩ <;> (unfold Wd sw; split <;> omega)
  · exact nan_in hF
  · unfold Wd; omega

open Classical in
noncomputable def wAdd (a b : Int) : Int := if h : ∃ Z fl, OpR sumO 1 0 a b Z fl then Classical.choose h else 0
open Classical in
noncomputable def wSub (a b : Int) : Int := if h : ∃ Z fl, OpR subO 1 0 a b Z fl then Classical.choose h else 0
open Classical in
noncomputable def wMul (a b : Int) : Int := if h : ∃ Z fl, OpR mulO 1 0 a b Z fl then Classical.choose h else 0
open Classical in
noncomputable def wDiv (a b : Int) : Int := if h : ∃ Z fl, OpRD divO 1 0 a b Z fl then Classical.choose h else 0
open Classical in
noncomputable def wSqrt (a : Int) : Int := if h : ∃ Z fl, OpRD sqrtO 1 0 a a Z fl then Classical.choose h else 0
theorem wAdd_eq {a b Z fl : Int} (h : OpR sumO 1 0 a b Z fl) : wAdd a b = Z := by
  have hex : ∃ Z fl, OpR sumO 1 0 a b Z fl := ⟨Z, fl, h⟩
  unfold wAdd; rw [dif_pos hex]; obtain ⟨fl', h'⟩ := Classical.choose_spec hex; exact (OpR.one h' h).1
theorem wSub_eq {a b Z fl : Int} (h : OpR subO 1 0 a b Z fl) : wSub a b = Z := by
  have hex : ∃ Z fl, OpR subO 1 0 a b Z fl := ⟨Z, fl, h⟩
  unfold wSub; rw [dif_pos hex]; obtain ⟨fl', h'⟩ := Classical.choose_spec hex; exact (OpR.one h' h).1
theorem wMul_eq {a b Z fl : Int} (h : OpR mulO 1 0 a b Z fl) : wMul a b = Z := by
  have hex : ∃ Z fl, OpR mulO 1 0 a b Z fl := ⟨Z, fl, h⟩
  unfold wMul; rw [dif_pos hex]; obtain ⟨fl', h'⟩ := Classical.choose_spec hex; exact (OpR.one h' h).1
theorem wDiv_eq {a b Z fl : Int} (h : OpRD divO 1 0 a b Z fl) : wDiv a b = Z := by
  have hex : ∃ Z fl, OpRD divO 1 0 a b Z fl := ⟨Z, fl, h⟩
  unfold wDiv; rw [dif_pos hex]; obtain ⟨fl', h'⟩ := Classical.choose_spec hex; exact (OpRD.one h' h).1
theorem wSqrt_eq {a Z fl : Int} (h : OpRD sqrtO 1 0 a a Z fl) : wSqrt a = Z := by
  have hex : ∃ Z fl, OpRD sqrtO 1 0 a a Z fl := ⟨Z, fl, h⟩
  unfold wSqrt; rw [dif_pos hex]; obtain ⟨fl', h'⟩ := Classical.choose_spec hex; exact (OpRD.one h' h).1

open Classical in
noncomputable def wInt (n : Int) : Int := if h : ∃ Z fl, FromIs 1 0 1 (n % 18446744073709551616) Z fl then Classical.choose h else 0
theorem wInt_eq {n Z fl : Int} (h : FromIs 1 0 1 (n % 18446744073709551616) Z fl) : wInt n = Z := by
  have hex : ∃ Z fl, FromIs 1 0 1 (n % 18446744073709551616) Z fl := ⟨Z, fl, h⟩
  unfold wInt; rw [dif_pos hex]; obtain ⟨fl', h'⟩ := Classical.choose_spec hex; exact (FromIs.one h' h).1
theorem FromIs.wd {f mode kind a Z fl : Int} (h : FromIs f mode kind a Z fl) : Wd Z := by
  rcases h with ⟨p, mx, one, inf, sg, nan, hF, hm, hk, hp⟩ | ⟨p, mx, one, inf, sg, nan, hF, hm, rfl, rfl⟩ | ⟨hF, rfl, rfl⟩
  · exact pk_in hF hp
  · exact nan_in hF
  · unfold Wd; omega
theorem f64 : IsFmt 1 53 1023 4503599627370496 9218868437227405312 9223372036854775808 9221120237041090560 := .inr ⟨rfl, rfl, rfl, rfl, rfl, rfl, rfl⟩
theorem from_small (n : Nat) (h0 : 0 < n) (h1 : n < 1000) (z : Int) (hz : RoundIs 53 (1 - 1023) 1023 4503599627370496 9218868437227405312 0 0 n 0 false z 0) : FromIs 1 0 1 (n : Int) z 0 := by
  have hs : signK 1 (n : Int) = 0 := by unfold signK; rw [if_neg (by omega)]
  have hM : magK 1 (n : Int) = n := by unfold magK; rw [if_neg (by omega)]; omega
  refine .inl ⟨53, 1023, 4503599627370496, 9218868437227405312, 9223372036854775808, 9221120237041090560, f64, ⟨by omega, by omega⟩, ?_, ?_⟩
  · unfold fitsK
    rw [hs, hM, show mostK 1 0 = 9223372036854775807 by decide]
    exact decide_eq_true (by omega)
  · unfold intO
    rw [hs, hM, if_neg (by omega)]
    exact .inr (.inl ⟨rfl, z, hz, rfl⟩)
theorem one_is : FromIs 1 0 1 1 4607182418800017408 0 := from_small 1 (by decide) (by decide) _ ⟨0, 0, 4503599627370496, 4503599627370496, 0, by decide, .inr ⟨by decide, rfl⟩, by decide, by decide, by decide, .inr (.inr ⟨by decide, by decide, by decide, .inl ⟨rfl, rfl⟩⟩)⟩
theorem two_is : FromIs 1 0 1 2 4611686018427387904 0 := from_small 2 (by decide) (by decide) _ ⟨1, 1, 4503599627370496, 4503599627370496, 0, by decide, .inr ⟨by decide, rfl⟩, by decide, by decide, by decide, .inr (.inr ⟨by decide, by decide, by decide, .inl ⟨rfl, rfl⟩⟩)⟩
theorem half_is : OpRD divO 1 0 4607182418800017408 4611686018427387904 4602678819172646912 0 := by
  refine .inl ⟨53, 1023, 4503599627370496, 9218868437227405312, 9223372036854775808, 9221120237041090560, ⟨1, 0, -52, 4503599627370496⟩, ⟨1, 0, -51, 4503599627370496⟩, f64, ⟨by omega, by omega⟩, ?_, ?_, .inl ?_⟩
  · exact .inl ⟨by decide, 4607182418800017408, .inl ⟨rfl, rfl, by decide⟩, .inr (.inr (.inr (.inr ⟨by decide, by decide, rfl, 0, 4503599627370496, -52, .inr ⟨by decide, by decide, by decide⟩, by decide, by decide, by decide, by decide⟩)))⟩
  · exact .inl ⟨by decide, 4611686018427387904, .inl ⟨rfl, rfl, by decide⟩, .inr (.inr (.inr (.inr ⟨by decide, by decide, rfl, 0, 4503599627370496, -51, .inr ⟨by decide, by decide, by decide⟩, by decide, by decide, by decide, by decide⟩)))⟩
  · have e : divO 53 0 ⟨1, 0, -52, 4503599627370496⟩ ⟨1, 0, -51, 4503599627370496⟩ = ⟨1, 0, -59, 288230376151711744⟩ := by
      unfold divO
      rw [if_neg (by decide), if_neg (by decide), if_neg (by decide), if_neg (by decide), if_pos (by decide)]
      rfl
    rw [e]
    exact .inr (.inl ⟨rfl, 4602678819172646912, ⟨-1, -1, 4503599627370496, 4503599627370496, 0, by decide, .inr ⟨by decide, rfl⟩, by decide, by decide, by decide, .inr (.inr ⟨by decide, by decide, by decide, .inl ⟨rfl, rfl⟩⟩)⟩, rfl⟩)

noncomputable def opsW : Ops := ⟨wInt, wAdd, wSub, wMul, wDiv, wSqrt⟩
theorem opsW_in : opsW.In where
  int n := by obtain ⟨Z, fl, h⟩ := from_ex 1 0 1 (n % 18446744073709551616); show Wd (wInt n); rw [wInt_eq h]; exact h.wd
  add ha hb := by obtain ⟨Z, fl, h, h1, h2⟩ := add_same 1 0 _ _ ha.1 ha.2 hb.1 hb.2; show Wd (wAdd _ _); rw [wAdd_eq h]; exact h.wd
  sub ha hb := by obtain ⟨Z, fl, h, h1, h2⟩ := sub_same 1 0 _ _ ha.1 ha.2 hb.1 hb.2; show Wd (wSub _ _); rw [wSub_eq h]; exact h.wd
  mul ha hb := by obtain ⟨Z, fl, h, h1, h2⟩ := mul_same 1 0 _ _ ha.1 ha.2 hb.1 hb.2; show Wd (wMul _ _); rw [wMul_eq h]; exact h.wd
  div ha hb := by obtain ⟨Z, fl, h, h1, h2⟩ := div_same 1 0 _ _ ha.1 ha.2 hb.1 hb.2; show Wd (wDiv _ _); rw [wDiv_eq h]; exact h.wd
  sqrt ha := by obtain ⟨Z, fl, h, h1, h2⟩ := sqrt_same 1 0 _ ha.1 ha.2; show Wd (wSqrt _); rw [wSqrt_eq h]; exact h.wd
theorem opsW_s : opsW.S where
  one := wInt_eq (n := 1) one_is
  half := by
    have h2 : wInt 2 = 4611686018427387904 := wInt_eq (n := 2) two_is
    show wDiv _ (wInt 2) = _
    rw [h2]
    exact wDiv_eq half_is
  int n u n0 n1 hu := by
    subst hu
    intro w
    have h0 : 0 ≤ n % 18446744073709551616 := Int.emod_nonneg _ (by omega)
    have h1 : n % 18446744073709551616 < 18446744073709551616 := Int.emod_lt_of_pos _ (by omega)
    refine (specFromInt_any 1 0 1 (n % 18446744073709551616) h0 h1 w).mono ?_
    rintro e w' ⟨Z, fl, hp, he, hg⟩
    exact ⟨fl, by rw [show opsW.int n = Z from wInt_eq hp]; exact he, hg⟩
  add ha hb := by obtain ⟨Z, fl, h, h1, h2⟩ := add_same 1 0 _ _ ha.1 ha.2 hb.1 hb.2; intro w; show Calls _ _ _ _ (fun e w' => ∃ fl, e = .returned (.agg #[.int .u64 (wAdd _ _), _]) ∧ _); rw [wAdd_eq h]; exact (h1 w).mono fun e w' h => ⟨fl, h⟩
  sub ha hb := by obtain ⟨Z, fl, h, h1, h2⟩ := sub_same 1 0 _ _ ha.1 ha.2 hb.1 hb.2; intro w; show Calls _ _ _ _ (fun e w' => ∃ fl, e = .returned (.agg #[.int .u64 (wSub _ _), _]) ∧ _); rw [wSub_eq h]; exact (h1 w).mono fun e w' h => ⟨fl, h⟩
  mul ha hb := by obtain ⟨Z, fl, h, h1, h2⟩ := mul_same 1 0 _ _ ha.1 ha.2 hb.1 hb.2; intro w; show Calls _ _ _ _ (fun e w' => ∃ fl, e = .returned (.agg #[.int .u64 (wMul _ _), _]) ∧ _); rw [wMul_eq h]; exact (h1 w).mono fun e w' h => ⟨fl, h⟩
  div ha hb := by obtain ⟨Z, fl, h, h1, h2⟩ := div_same 1 0 _ _ ha.1 ha.2 hb.1 hb.2; intro w; show Calls _ _ _ _ (fun e w' => ∃ fl, e = .returned (.agg #[.int .u64 (wDiv _ _), _]) ∧ _); rw [wDiv_eq h]; exact (h1 w).mono fun e w' h => ⟨fl, h⟩
  sqrt ha := by obtain ⟨Z, fl, h, h1, h2⟩ := sqrt_same 1 0 _ ha.1 ha.2; intro w; show Calls _ _ _ _ (fun e w' => ∃ fl, e = .returned (.agg #[.int .u64 (wSqrt _), _]) ∧ _); rw [wSqrt_eq h]; exact (h1 w).mono fun e w' h => ⟨fl, h⟩
theorem opsW_i : opsW.I where
  add ha hb := by obtain ⟨Z, fl, h, h1, h2⟩ := add_same 1 0 _ _ ha.1 ha.2 hb.1 hb.2; intro w hw; show Calls _ _ _ _ (fun e w' => ∃ fl, e = .returned (.agg #[.int .u64 (wAdd _ _), _]) ∧ _); rw [wAdd_eq h]; exact (h2 w hw).mono fun e w' h => ⟨fl, h⟩
  sub ha hb := by obtain ⟨Z, fl, h, h1, h2⟩ := sub_same 1 0 _ _ ha.1 ha.2 hb.1 hb.2; intro w hw; show Calls _ _ _ _ (fun e w' => ∃ fl, e = .returned (.agg #[.int .u64 (wSub _ _), _]) ∧ _); rw [wSub_eq h]; exact (h2 w hw).mono fun e w' h => ⟨fl, h⟩
  mul ha hb := by obtain ⟨Z, fl, h, h1, h2⟩ := mul_same 1 0 _ _ ha.1 ha.2 hb.1 hb.2; intro w hw; show Calls _ _ _ _ (fun e w' => ∃ fl, e = .returned (.agg #[.int .u64 (wMul _ _), _]) ∧ _); rw [wMul_eq h]; exact (h2 w hw).mono fun e w' h => ⟨fl, h⟩
  div ha hb := by obtain ⟨Z, fl, h, h1, h2⟩ := div_same 1 0 _ _ ha.1 ha.2 hb.1 hb.2; intro w hw; show Calls _ _ _ _ (fun e w' => ∃ fl, e = .returned (.agg #[.int .u64 (wDiv _ _), _]) ∧ _); rw [wDiv_eq h]; exact (h2 w hw).mono fun e w' h => ⟨fl, h⟩
  sqrt ha := by obtain ⟨Z, fl, h, h1, h2⟩ := sqrt_same 1 0 _ ha.1 ha.2; intro w hw; show Calls _ _ _ _ (fun e w' => ∃ fl, e = .returned (.agg #[.int .u64 (wSqrt _), _]) ∧ _); rw [wSqrt_eq h]; exact (h2 w hw).mono fun e w' h => ⟨fl, h⟩
end Go.Proofs.YtkackkggpehpkaaGreatDoor

/- laws.FnExactRoots. -/
set_option linter.unusedVariables false
namespace Go.Proofs.YtkackkggpehpkaaGreatDoor
open Go.RowKit

theorem lawRootsF (k : Int) (k0 : -9223372036854775808 ≤ k) (k1 : k < 9223372036854775808) {w : World} (hw : Fm w) :
    Calls Tryz.prog 3 #[.int .i64 k] w fun e w' => e = .returned (.bool true) ∧ Gb w w' := lawRoots opsW_s opsW_i opsW_in k hw
end Go.Proofs.YtkackkggpehpkaaGreatDoor
