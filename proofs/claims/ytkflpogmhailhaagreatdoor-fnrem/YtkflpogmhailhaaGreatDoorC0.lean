/- There is an answer; the rule of a way. -/
import Derived.Test.YtkflpogmhailhaaGreatDoorRPRdW
import Derived.Test.YtkflpogmhailhaaGreatDoorB7
import Derived.Test.YtkflpogmhailhaaGreatDoorA6
import Derived.Test.YtkflpogmhailhaaGreatDoorB4
set_option linter.unusedVariables false
namespace Go.Proofs.YtkflpogmhailhaaGreatDoor
open Go.RowKit

/-- There is an answer. -/
theorem round_is (p mn mx one inf mode sign : Int) (M : Nat) (e : Int) (rest : Bool) : ∃ z fl, RoundIs p mn mx one inf mode sign M e rest z fl := by
  obtain ⟨top, htop⟩ : ∃ top : Int, top = nb M + e - 1 := ⟨_, rfl⟩
  obtain ⟨E, hE⟩ : ∃ E : Int, top < mn ∧ E = mn ∨ mn ≤ top ∧ E = top := by
    by_cases c : top < mn
    · exact ⟨mn, .inl ⟨c, rfl⟩⟩
    · exact ⟨top, .inr ⟨by omega, rfl⟩⟩
  obtain ⟨hf, hhf⟩ : ∃ hf, hf = cutHalf M e (E - p + 1) rest := ⟨_, rfl⟩
  obtain ⟨r, hr⟩ : ∃ r, r = chosen mode sign (cutLo M e (E - p + 1)) hf := ⟨_, rfl⟩
  obtain ⟨r2, hr2⟩ : ∃ r2, r2 = chosen mode sign (cutLo M e (top - p + 1)) (cutHalf M e (top - p + 1) rest) := ⟨_, rfl⟩
  by_cases c1 : mx < top
  · exact ⟨_, _, top, E, r, r2, hf, htop, hE, hhf, hr, hr2, .inl ⟨c1, rfl, rfl⟩⟩
  · by_cases c2 : inf ≤ r + one * (E - mn)
    · exact ⟨_, _, top, E, r, r2, hf, htop, hE, hhf, hr, hr2, .inr (.inl ⟨by omega, c2, rfl, rfl⟩)⟩
    · rcases Nat.eq_zero_or_pos hf with c3 | c3
      · exact ⟨_, _, top, E, r, r2, hf, htop, hE, hhf, hr, hr2, .inr (.inr ⟨by omega, by omega, rfl, .inl ⟨c3, rfl⟩⟩)⟩
      · by_cases c4 : top < mn - 1 ∨ top = mn - 1 ∧ (r2 : Int) < 2 * one
        · exact ⟨_, _, top, E, r, r2, hf, htop, hE, hhf, hr, hr2, .inr (.inr ⟨by omega, by omega, rfl, .inr (.inl ⟨c3, c4, rfl⟩)⟩)⟩
        · exact ⟨_, _, top, E, r, r2, hf, htop, hE, hhf, hr, hr2, .inr (.inr ⟨by omega, by omega, rfl, .inr (.inr ⟨c3, by omega, rfl⟩)⟩)⟩

theorem rule_of (mode : Int) (m0 : 0 ≤ mode) (m1 : mode ≤ 4) : ∃ k, IsRule mode k := by
  unfold IsRule
  rcases (show mode = 0 ∨ mode = 1 ∨ mode = 2 ∨ mode = 3 ∨ mode = 4 by omega) with rfl | rfl | rfl | rfl | rfl
  · exact ⟨_, .inl ⟨rfl, rfl⟩⟩
  · exact ⟨_, .inr (.inl ⟨rfl, rfl⟩)⟩
  · exact ⟨_, .inr (.inr (.inl ⟨rfl, rfl⟩))⟩
  · exact ⟨_, .inr (.inr (.inr (.inl ⟨rfl, rfl⟩)))⟩
  · exact ⟨_, .inr (.inr (.inr (.inr ⟨rfl, rfl⟩)))⟩

theorem sv_sw (sign sg z : Int) : sv sign sg z = sw sign sg z := by unfold sv sw; split <;> omega

end Go.Proofs.YtkflpogmhailhaaGreatDoor

/- impl's operands and what packing answers. -/
set_option linter.unusedVariables false
set_option linter.unusedSimpArgs false
namespace Go.Proofs.YtkflpogmhailhaaGreatDoor
open Go.RowKit


/-- An operand as it comes of a word, or of a product of two. -/
structure VO (x : Opd) : Prop where
  c0 : 0 ≤ x.c
  c4 : x.c ≤ 4
  s01 : x.s = 0 ∨ x.s = 1
  fin : x.c = 1 → 0 < x.M ∧ nb x.M ≤ 106
  nil : x.c ≠ 1 → x.M = 0
  e0 : -5000 ≤ x.e
  e1 : x.e ≤ 5000

theorem pow2_lt (M : Nat) (h : nb M ≤ 106) : M < 340282366920938463463374607431768211456 := by
  have h1 := nb_lt M
  have h2 := pow2_mono (show nb M ≤ 128 by omega)
  have h3 : (2 : Nat) ^ 128 = 340282366920938463463374607431768211456 := by decide
  omega

/-- The operand of a word; a word that does not fit is one like a signaling NaN. -/
def OpdIs (p mx one inf sg nan a : Int) (x : Opd) : Prop := a < 2 * sg ∧ UnpackIs p mx one inf sg nan a x.c x.s x.e (x.M : Int) ∨ 2 * sg ≤ a ∧ x = ⟨4, 0, 0, 0⟩

theorem norm_bounds {f p mx one inf sg nan v e g : Int} (h : IsFmt f p mx one inf sg nan) (v0 : 0 < v) (v1 : v < inf) (hn : NormIs p mx one v e g) : one ≤ g ∧ g < 2 * one ∧ -2000 ≤ e ∧ e ≤ 1100 := by
  obtain ⟨k, m, e0, hm, hg, he, h1, h2⟩ := hn
  have hm1 : 1 ≤ m := by
    rcases hm with ⟨_, rfl, _⟩ | ⟨_, rfl, _⟩
    · omega
    · have := Int.emod_nonneg v (show one ≠ 0 by have := h.bounds; omega)
      have := h.bounds
      omega
  have hk : k ≤ 60 := by
    rcases Nat.lt_or_ge 60 k with c | c
    · exfalso
      have h3 : (2 : Int) ^ 61 ≤ 2 ^ k := by
        have := pow2_mono (show 61 ≤ k by omega)
        have e1 : ((2 ^ 61 : Nat) : Int) ≤ ((2 ^ k : Nat) : Int) := by omega
        rw [pow_cast, pow_cast] at e1
        exact e1
      have h4 : 1 * (2 : Int) ^ k ≤ m * 2 ^ k := Int.mul_le_mul_of_nonneg_right hm1 (by omega)
      have h5 : (2 : Int) ^ 61 = 2305843009213693952 := by decide
      have := h.bounds
      omega
    · exact c
  have hd : one ≤ v → v / one ≤ 2 * mx + 1 := by
    intro c
    rcases h with ⟨rfl, rfl, rfl, rfl, rfl, rfl, rfl⟩ | ⟨rfl, rfl, rfl, rfl, rfl, rfl, rfl⟩ <;> omega
  have hd0 : one ≤ v → 0 ≤ v / one := by
    intro c
    rcases h with ⟨rfl, rfl, rfl, rfl, rfl, rfl, rfl⟩ | ⟨rfl, rfl, rfl, rfl, rfl, rfl, rfl⟩ <;> omega
  have hb := h.bounds
  rcases hm with ⟨c, _, rfl⟩ | ⟨c, _, rfl⟩
  · exact ⟨h1, h2, by omega, by omega⟩
  · have := hd c
    have := hd0 c
    exact ⟨h1, h2, by omega, by omega⟩

theorem unpack_bounds {f p mx one inf sg nan W c s e g : Int} (h : IsFmt f p mx one inf sg nan) (hu : UnpackIs p mx one inf sg nan W c s e g) : 0 ≤ c ∧ c ≤ 4 ∧ (s = 0 ∨ s = 1) ∧ 0 ≤ g ∧ g < 2 * one ∧ -2000 ≤ e ∧ e ≤ 1100 ∧ (c = 1 → one ≤ g) ∧ (c ≠ 1 → g = 0) := by
  have hb := h.bounds
  obtain ⟨v, hs, hc⟩ := hu
  rcases hc with ⟨_, rfl, rfl, rfl⟩ | ⟨_, _, rfl, rfl, rfl⟩ | ⟨_, rfl, rfl, rfl⟩ | ⟨_, rfl, rfl, rfl⟩ | ⟨v0, v1, rfl, hn⟩
  · exact ⟨by omega, by omega, by omega, by omega, by omega, by omega, by omega, by omega, by omega⟩
  · exact ⟨by omega, by omega, by omega, by omega, by omega, by omega, by omega, by omega, by omega⟩
  · exact ⟨by omega, by omega, by omega, by omega, by omega, by omega, by omega, by omega, by omega⟩
  · exact ⟨by omega, by omega, by omega, by omega, by omega, by omega, by omega, by omega, by omega⟩
  · have := norm_bounds h v0 v1 hn
    exact ⟨by omega, by omega, by omega, by omega, by omega, by omega, by omega, by omega, by omega⟩

theorem opd_vo {f p mx one inf sg nan a : Int} (h : IsFmt f p mx one inf sg nan) {x : Opd} (hx : OpdIs p mx one inf sg nan a x) : VO x ∧ x.M < 9007199254740992 ∧ (x.c ≠ 1 → x.M = 0) ∧ -2000 ≤ x.e ∧ x.e ≤ 2000 ∧ nb x.M ≤ 53 := by
  have hb := h.bounds
  rcases hx with ⟨_, hu⟩ | ⟨_, rfl⟩
  · obtain ⟨h1, h2, h3, h4, h5, h6, h7, h8, h9⟩ := unpack_bounds h hu
    have hM : x.M < 9007199254740992 := by omega
    have hn : nb x.M ≤ 53 := nb_le (by simpa using hM)
    exact ⟨⟨h1, h2, h3, fun c => ⟨by have := h8 c; omega, by omega⟩, fun c => by have := h9 c; omega, by omega, by omega⟩, hM, fun c => by have := h9 c; omega, by omega, by omega, hn⟩
  · exact ⟨⟨by decide, by decide, .inl rfl, (fun c => by cases c), fun _ => rfl, by decide, by decide⟩, by decide, fun _ => rfl, by decide, by decide, by decide⟩

theorem OpdIs.one {f p mx one inf sg nan a : Int} (h : IsFmt f p mx one inf sg nan) {x y : Opd} (hx : OpdIs p mx one inf sg nan a x) (hy : OpdIs p mx one inf sg nan a y) : x = y := by
  rcases hx with ⟨c, hu⟩ | ⟨c, rfl⟩ <;> rcases hy with ⟨d, hv⟩ | ⟨d, rfl⟩
  · obtain ⟨e1, e2, e3, e4⟩ := UnpackIs.one h hu hv
    obtain ⟨c1, s1, x1, M1⟩ := x
    obtain ⟨c2, s2, x2, M2⟩ := y
    dsimp only at e1 e2 e3 e4
    have : M1 = M2 := by omega
    subst e1 e2 e3 this
    rfl
  · exfalso; omega
  · exfalso; omega
  · rfl

theorem opd_is {f p mx one inf sg nan mn fb sp : Int} (h : IsFmt f p mx one inf sg nan) (hm : IsM p mn mx fb sp one inf sg nan) (a : Int) (a0 : 0 ≤ a) (a1 : a < 18446744073709551616) :
    ∃ x : Opd, OpdIs p mx one inf sg nan a x ∧ ∀ w, Calls Tryz.prog 53 #[.agg #[.int .i64 p, .int .i64 mn, .int .i64 mx], .int .u64 a] w fun e w' => e = .returned (.agg #[.int .i64 x.s, .int .i64 x.e, .int .i64 x.c, .int .u64 (((x.M / 18446744073709551616 : Nat) : Int)), .int .u64 (((x.M % 18446744073709551616 : Nat) : Int)), .bool false, .int .i64 0]) ∧ Gr w w' := by
  have hb := h.bounds
  by_cases hf : a < 2 * sg
  · obtain ⟨c, s, e, g, hu⟩ := unpack_is h a a0 hf
    obtain ⟨u1, u2, u3, u4, u5, u6, u7, u8, u9⟩ := unpack_bounds h hu
    obtain ⟨G, rfl⟩ := Int.eq_ofNat_of_zero_le u4
    refine ⟨⟨c, s, e, G⟩, .inl ⟨hf, hu⟩, fun w => ?_⟩
    refine (operand_fit hm a a0 hf w).mono ?_
    rintro r w' ⟨c', s', e', g', hu', rfl, hg⟩
    obtain ⟨rfl, rfl, rfl, rfl⟩ := UnpackIs.one h hu hu'
    refine ⟨?_, hg⟩
    dsimp only
    rw [show G / 18446744073709551616 = 0 by omega, show G % 18446744073709551616 = G by omega]
    rfl
  · exact ⟨⟨4, 0, 0, 0⟩, .inr ⟨by omega, rfl⟩, fun w => operand_wide hm a (by omega) a1 w⟩

/-- What the program holds stands for an operand: as words. -/
def SameV (o : Opd) (os oe oc oh ol : Int) (ot : Bool) : Prop := ∃ M : Nat, oh = ((M / 18446744073709551616 : Nat) : Int) ∧ ol = ((M % 18446744073709551616 : Nat) : Int) ∧ Same o oc os oe M ot ∧ 0 ≤ oc ∧ oc ≤ 4 ∧ (oc ≤ 2 → os = 0 ∨ os = 1)

theorem VO.same {x : Opd} (h : VO x) : SameV x x.s x.e x.c ((x.M / 18446744073709551616 : Nat) : Int) ((x.M % 18446744073709551616 : Nat) : Int) false := by
  refine ⟨x.M, rfl, rfl, Same.self x (fun c => ?_), h.c0, h.c4, fun _ => h.s01⟩
  obtain ⟨a, b⟩ := h.fin c
  have := h.e0
  have := h.e1
  exact ⟨a, pow2_lt _ b, by omega, by omega⟩

theorem pack_any {p mn mx fb sp one inf sg nan : Int} (hm : IsM p mn mx fb sp one inf sg nan) (md : Int) (k : Nat) (hk : IsRule md k) (o : Opd) (os oe oc oh ol : Int) (ot : Bool) (h : SameV o os oe oc oh ol ot) (w : World) :
    Calls Tryz.prog 72 #[.agg #[.int .i64 p, .int .i64 mn, .int .i64 mx, .int .i64 md, .func (.func k) #[] #[]], .agg #[.int .i64 os, .int .i64 oe, .int .i64 oc, .int .u64 oh, .int .u64 ol, .bool ot, .int .i64 0]] w fun e w' => ∃ z fl, PackIs p mn mx one inf sg nan md o z fl ∧ e = .returned (.agg #[.int .u64 z, .int .i64 fl]) ∧ Gr w w' := by
  obtain ⟨M, rfl, rfl, ⟨h1, h2, h3⟩, c0, c4, hs⟩ := h
  have hp : p ≤ 53 ∧ 0 ≤ p := by rcases hm with h | h <;> omega
  rcases (show oc = 0 ∨ oc = 1 ∨ oc = 2 ∨ oc = 3 ∨ oc = 4 by omega) with rfl | rfl | rfl | rfl | rfl
  · refine (pack_0 p mn mx md k os oe _ _ ot (sw os sg 0) (fun w => zero_any hm os _ ?_ w) w).mono ?_
    · rcases hs (by omega) with rfl | rfl
      · exact .inl ⟨rfl, by simp [sw]⟩
      · exact .inr ⟨rfl, by simp [sw]⟩
    · rintro r w' ⟨rfl, hg⟩
      exact ⟨_, _, .inl ⟨h1, by rw [h2 (by omega)], rfl⟩, rfl, hg⟩
  · obtain ⟨m0, m1, m2, e0, e1, m3⟩ := h3 rfl
    refine (pack_1 p mn mx md k os oe _ _ ot (fun z fl => ∃ z0, RoundIs p mn mx one inf md os M oe ot z0 fl ∧ z = sw os sg z0) (fun z fl ⟨_, h, _⟩ => h.fl) (fun w => ?_) w).mono ?_
    · refine (round_num hm md md k hk os (hs (by omega)) oe e0 e1 M m0 m1 ot (fun c => by have := m2 c; omega) w).mono ?_
      rintro r w' ⟨z, fl, hr, rfl, hg⟩
      exact ⟨_, _, ⟨z, hr, sv_sw _ _ _⟩, rfl, hg⟩
    · rintro r w' ⟨z, fl, ⟨z0, hr, rfl⟩, rfl, hg⟩
      refine ⟨_, _, .inr (.inl ⟨h1, z0, ?_, by rw [h2 (by omega)]⟩), rfl, hg⟩
      rw [h2 (by omega)]
      exact (m3 p mn mx one inf md z0 fl hp.2 hp.1).1 hr
  · refine (pack_2 p mn mx md k os oe _ _ ot (sw os sg inf) (fun w => inf_any hm os _ ?_ w) w).mono ?_
    · rcases hs (by omega) with rfl | rfl
      · exact .inl ⟨rfl, by simp [sw]⟩
      · exact .inr ⟨rfl, by simp [sw]; omega⟩
    · rintro r w' ⟨rfl, hg⟩
      exact ⟨_, _, .inr (.inr (.inl ⟨h1, by rw [h2 (by omega)], rfl⟩)), rfl, hg⟩
  · refine (pack_3 p mn mx md k os oe _ _ ot nan (fun w => nan_any hm w) w).mono ?_
    rintro r w' ⟨rfl, hg⟩
    exact ⟨_, _, .inr (.inr (.inr (.inl ⟨h1, rfl, rfl⟩))), rfl, hg⟩
  · refine (pack_4 p mn mx md k os oe _ _ ot nan (fun w => invalid_any hm w) w).mono ?_
    rintro r w' ⟨rfl, hg⟩
    exact ⟨_, _, .inr (.inr (.inr (.inr ⟨h1, rfl, rfl⟩))), rfl, hg⟩

theorem nan_same (m : Int) (h0 : 3 ≤ m) (h1 : m ≤ 4) : SameV ⟨m, 0, 0, 0⟩ 0 0 m 0 0 false := ⟨0, rfl, rfl, ⟨rfl, fun _ => rfl, fun h => by omega⟩, by omega, h1, fun _ => .inl rfl⟩
end Go.Proofs.YtkflpogmhailhaaGreatDoor

/- What an operation on words answers, by its rule on operands; both sides. -/
set_option linter.unusedVariables false
set_option linter.unusedSimpArgs false
namespace Go.Proofs.YtkflpogmhailhaaGreatDoor
open Go.RowKit


theorem big_nb {K : Nat} {w : World} {v : Value} {M : Nat} (h : BigN K w v M) (hK : K ≤ 100000) : nb M ≤ 3200000 := by
  obtain ⟨n, hn, hb⟩ := h
  have h1 := hb.1.1
  rw [← two_pw] at h1
  have := nb_le h1
  omega

/-- l2Round at a number of the sums. -/
theorem round_at {f p mx one inf sg nan : Int} (h : IsFmt f p mx one inf sg nan) (mode : Int) (m0 : 0 ≤ mode) (m1 : mode ≤ 4) (o : Opd) (ho : o.c = 1) (hs : o.s = 0 ∨ o.s = 1) (hM : 0 < o.M) (e0 : -5000 ≤ o.e) (e1 : o.e ≤ 5000) (K : Nat) (hK : K ≤ 100000) (v : Value) (w : World) (hB : BigN K w v o.M) :
    Calls Tryz.prog 51 #[.int .i64 f, .int .i64 mode, .agg #[.int .i64 o.s, v, .int .i64 o.e, .bool false]] w fun e w' => ∃ z fl, PackIs p (1 - mx) mx one inf sg nan mode o z fl ∧ e = .returned (.agg #[.int .u64 z, .int .i64 fl]) ∧ Gb w w' := by
  have hn := big_nb hB hK
  obtain ⟨n, hn', hb⟩ := hB
  refine (l2Round_any h hb (by omega) hM hn mode o.s o.e false m0 m1 hs (by omega) (by omega) (fun c => by cases c)).mono ?_
  rintro x w' ⟨z, fl, hr, z0, z1, rfl, hg⟩
  exact ⟨_, _, .inr (.inl ⟨ho, z, hr, rfl⟩), rfl, hg⟩

/-- What an operation on two words answers, by its rule on operands. -/
def OpR (R : Int → Opd → Opd → Opd) (f mode a b Z fl : Int) : Prop :=
  (∃ p mx one inf sg nan x y, IsFmt f p mx one inf sg nan ∧ (0 ≤ mode ∧ mode ≤ 4) ∧ OpdIs p mx one inf sg nan a x ∧ OpdIs p mx one inf sg nan b y ∧ PackIs p (1 - mx) mx one inf sg nan mode (R mode x y) Z fl) ∨
  (∃ p mx one inf sg nan, IsFmt f p mx one inf sg nan ∧ (mode < 0 ∨ 4 < mode) ∧ Z = nan ∧ fl = 1) ∨
  (¬ (f = 0 ∨ f = 1) ∧ Z = 9221120237041090560 ∧ fl = 1)

theorem fmt_of (f : Int) (h : f = 0 ∨ f = 1) : ∃ p mx one inf sg nan, IsFmt f p mx one inf sg nan := by
  rcases h with rfl | rfl
  · exact ⟨_, _, _, _, _, _, .inl ⟨rfl, rfl, rfl, rfl, rfl, rfl, rfl⟩⟩
  · exact ⟨_, _, _, _, _, _, .inr ⟨rfl, rfl, rfl, rfl, rfl, rfl, rfl⟩⟩
theorem IsFmt.one {f p mx one inf sg nan p' mx' one' inf' sg' nan' : Int} (h : IsFmt f p mx one inf sg nan) (h' : IsFmt f p' mx' one' inf' sg' nan') : p = p' ∧ mx = mx' ∧ one = one' ∧ inf = inf' ∧ sg = sg' ∧ nan = nan' := by
  rcases h with ⟨rfl, rfl, rfl, rfl, rfl, rfl, rfl⟩ | ⟨rfl, rfl, rfl, rfl, rfl, rfl, rfl⟩ <;> rcases h' with ⟨e, rfl, rfl, rfl, rfl, rfl, rfl⟩ | ⟨e, rfl, rfl, rfl, rfl, rfl, rfl⟩
  · exact ⟨rfl, rfl, rfl, rfl, rfl, rfl⟩
  · cases e
  · cases e
  · exact ⟨rfl, rfl, rfl, rfl, rfl, rfl⟩

theorem OpR.one {R : Int → Opd → Opd → Opd} {f mode a b Z fl Z' fl' : Int} (h : OpR R f mode a b Z fl) (h' : OpR R f mode a b Z' fl') : Z = Z' ∧ fl = fl' := by
  rcases h with ⟨p, mx, one, inf, sg, nan, x, y, hF, hm, hx, hy, hp⟩ | ⟨p, mx, one, inf, sg, nan, hF, hm, rfl, rfl⟩ | ⟨hF, rfl, rfl⟩ <;>
  rcases h' with ⟨p', mx', one', inf', sg', nan', x', y', hF', hm', hx', hy', hp'⟩ | ⟨p', mx', one', inf', sg', nan', hF', hm', rfl, rfl⟩ | ⟨hF', rfl, rfl⟩
  · obtain ⟨rfl, rfl, rfl, rfl, rfl, rfl⟩ := hF.one hF'
    obtain rfl := hx.one hF hx'
    obtain rfl := hy.one hF hy'
    exact PackIs.one hp hp'
  · exfalso; omega
  · exact absurd hF.yes.symm (by simp [hF'])
  · exfalso; omega
  · obtain ⟨rfl, rfl, rfl, rfl, rfl, rfl⟩ := hF.one hF'
    exact ⟨rfl, rfl⟩
  · exact absurd hF.yes.symm (by simp [hF'])
  · exact absurd hF'.yes.symm (by simp [hF])
  · exact absurd hF'.yes.symm (by simp [hF])
  · exact ⟨rfl, rfl⟩

theorem pack_is (p mn mx one inf sg nan mode : Int) (o : Opd) (c0 : 0 ≤ o.c) (c4 : o.c ≤ 4) : ∃ Z fl, PackIs p mn mx one inf sg nan mode o Z fl := by
  rcases (show o.c = 0 ∨ o.c = 1 ∨ o.c = 2 ∨ o.c = 3 ∨ o.c = 4 by omega) with c | c | c | c | c
  · exact ⟨_, _, .inl ⟨c, rfl, rfl⟩⟩
  · obtain ⟨z, fl, hr⟩ := round_is p mn mx one inf mode o.s o.M o.e false
    exact ⟨_, _, .inr (.inl ⟨c, z, hr, rfl⟩)⟩
  · exact ⟨_, _, .inr (.inr (.inl ⟨c, rfl, rfl⟩))⟩
  · exact ⟨_, _, .inr (.inr (.inr (.inl ⟨c, rfl, rfl⟩)))⟩
  · exact ⟨_, _, .inr (.inr (.inr (.inr ⟨c, rfl, rfl⟩)))⟩

theorem opd_ex {f p mx one inf sg nan : Int} (h : IsFmt f p mx one inf sg nan) (a : Int) (a0 : 0 ≤ a) (a1 : a < 18446744073709551616) : ∃ x, OpdIs p mx one inf sg nan a x := by
  obtain ⟨mn, fb, sp, hm, _, _⟩ := h.m
  obtain ⟨x, hx, _⟩ := opd_is h hm a a0 a1
  exact ⟨x, hx⟩

/-- An answer of both sides, out of what each says. -/
theorem both_of (R : Int → Opd → Opd → Opd) (S I : Nat) (hR : ∀ mode x y, VO x → VO y → nb x.M ≤ 53 → nb y.M ≤ 53 → -2000 ≤ x.e → x.e ≤ 2000 → -2000 ≤ y.e → y.e ≤ 2000 → 0 ≤ (R mode x y).c ∧ (R mode x y).c ≤ 4) (f mode a b : Int) (a0 : 0 ≤ a) (a1 : a < 18446744073709551616) (b0 : 0 ≤ b) (b1 : b < 18446744073709551616)
    (hs : ∀ w, Calls Tryz.prog S #[.int .i64 f, .int .i64 mode, .int .u64 a, .int .u64 b] w fun e w' => ∃ Z fl, OpR R f mode a b Z fl ∧ e = .returned (.agg #[.int .u64 Z, .int .i64 fl]) ∧ Gb w w')
    (hi : ∀ w, Fm w → Calls Tryz.prog I #[.int .i64 f, .int .i64 mode, .int .u64 a, .int .u64 b] w fun e w' => ∃ Z fl, OpR R f mode a b Z fl ∧ e = .returned (.agg #[.int .u64 Z, .int .i64 fl]) ∧ Gr w w') :
    ∃ Z fl : Int, OpR R f mode a b Z fl ∧ (∀ w, Calls Tryz.prog S #[.int .i64 f, .int .i64 mode, .int .u64 a, .int .u64 b] w fun e w' => e = .returned (.agg #[.int .u64 Z, .int .i64 fl]) ∧ Gb w w') ∧
      (∀ w, Fm w → Calls Tryz.prog I #[.int .i64 f, .int .i64 mode, .int .u64 a, .int .u64 b] w fun e w' => e = .returned (.agg #[.int .u64 Z, .int .i64 fl]) ∧ Gr w w') := by
  have hex : ∃ Z fl : Int, OpR R f mode a b Z fl := by
    by_cases hf : f = 0 ∨ f = 1
    · obtain ⟨p, mx, one, inf, sg, nan, hF⟩ := fmt_of f hf
      by_cases hm : 0 ≤ mode ∧ mode ≤ 4
      · obtain ⟨x, hx⟩ := opd_ex hF a a0 a1
        obtain ⟨y, hy⟩ := opd_ex hF b b0 b1
        obtain ⟨v1, v2, v3, v4, v5, v6⟩ := opd_vo hF hx
        obtain ⟨u1, u2, u3, u4, u5, u6⟩ := opd_vo hF hy
        obtain ⟨r1, r2⟩ := hR mode x y v1 u1 v6 u6 v4 v5 u4 u5
        obtain ⟨Z, fl, hp⟩ := pack_is p (1 - mx) mx one inf sg nan mode _ r1 r2
        exact ⟨Z, fl, .inl ⟨p, mx, one, inf, sg, nan, x, y, hF, hm, hx, hy, hp⟩⟩
      · exact ⟨_, _, .inr (.inl ⟨p, mx, one, inf, sg, nan, hF, by omega, rfl, rfl⟩)⟩
    · exact ⟨_, _, .inr (.inr ⟨hf, rfl, rfl⟩)⟩
  obtain ⟨Z, fl, h⟩ := hex
  refine ⟨Z, fl, h, fun w => (hs w).mono ?_, fun w hw => (hi w hw).mono ?_⟩
  · rintro e w' ⟨Z', fl', h', rfl, hg⟩
    obtain ⟨rfl, rfl⟩ := OpR.one h h'
    exact ⟨rfl, hg⟩
  · rintro e w' ⟨Z', fl', h', rfl, hg⟩
    obtain ⟨rfl, rfl⟩ := OpR.one h h'
    exact ⟨rfl, hg⟩


theorem unp_det {f p mx one inf sg nan : Int} (h : IsFmt f p mx one inf sg nan) (a : Int) (a0 : 0 ≤ a) (a1 : a < 2 * sg) {x : Opd} (hx : OpdIs p mx one inf sg nan a x) : Hid (∀ w, Calls Tryz.prog 26 #[.int .i64 f, .int .u64 a] w fun e w' => e = .returned (.agg #[.int .i64 x.c, .int .i64 x.s, .int .i64 x.e, .int .u64 (((x.M : Nat) : Int))]) ∧ Gr w w') := fun w => by
  rcases hx with ⟨_, hu⟩ | ⟨c, _⟩
  · refine (specUnpack_fit h a a0 a1 w).mono ?_
    rintro e w' ⟨c, s, x', g, hu', rfl, hg⟩
    obtain ⟨rfl, rfl, rfl, rfl⟩ := UnpackIs.one h hu hu'
    exact ⟨rfl, hg⟩
  · exfalso; omega

theorem opd_wide {f p mx one inf sg nan a : Int} (h : IsFmt f p mx one inf sg nan) {x : Opd} (hx : OpdIs p mx one inf sg nan a x) (hw : 2 * sg ≤ a) : x = ⟨4, 0, 0, 0⟩ := by
  rcases hx with ⟨c, _⟩ | ⟨_, rfl⟩
  · exfalso; omega
  · rfl
theorem nofit_of {f p mx one inf sg nan a b mode : Int} (h : IsFmt f p mx one inf sg nan) (a1 : a < 18446744073709551616) (b1 : b < 18446744073709551616) (hn : 2 * sg ≤ a ∨ 2 * sg ≤ b) : NoFit f mode a b := by
  unfold NoFit
  rcases h with ⟨rfl, rfl, rfl, rfl, rfl, rfl, rfl⟩ | ⟨rfl, rfl, rfl, rfl, rfl, rfl, rfl⟩
  · rcases hn with h | h
    · exact .inr (.inr (.inl ⟨rfl, by omega⟩))
    · exact .inr (.inr (.inr ⟨rfl, by omega⟩))
  · exfalso; omega
theorem bad_nan {p mn mx one inf sg nan mode : Int} {o : Opd} (ho : o.c = 4) : PackIs p mn mx one inf sg nan mode o nan 1 := .inr (.inr (.inr (.inr ⟨ho, rfl, rfl⟩)))
theorem nan_pack {p mn mx one inf sg nan mode : Int} (m : Int) (t : Bool) (h : t = decide (m = 4)) (h3 : 3 ≤ m) (h4 : m ≤ 4) : PackIs p mn mx one inf sg nan mode ⟨m, 0, 0, 0⟩ nan (if t then 1 else 0) := by
  by_cases c : m = 4
  · rw [h, decide_eq_true c]; exact .inr (.inr (.inr (.inr ⟨c, rfl, rfl⟩)))
  · rw [h, decide_eq_false c]; exact .inr (.inr (.inr (.inl ⟨by dsimp only; omega, rfl, rfl⟩)))

theorem bq (c k : Int) : (c == k) = decide (c = k) := by by_cases h : c = k <;> simp [h]
end Go.Proofs.YtkflpogmhailhaaGreatDoor
