/- There is an answer; the rule of a way. -/
import Derived.Test.YtpfmfbadeebeeabDoorRPRdW
import Derived.Test.YtpfmfbadeebeeabDoorL3K
import Derived.Test.YtpfmfbadeebeeabDoorB2
import Derived.Test.YtpfmfbadeebeeabDoorL3P
set_option linter.unusedVariables false
namespace Go.Proofs.YtpfmfbadeebeeabDoor
open Go.RowKit

/-- There is an answer. -/
theorem round_is (p mn mx one inf mode sign : Int) (M : Nat) (e : Int) (rest : Bool) : ∃ z fl, RoundIs p mn mx one inf mode sign M e rest z fl := by
  obtain ⟨top, htop⟩ : ∃ top : Int, top = nb M + e - 1 := ⟨_, rfl⟩
  obtain ⟨E, hE⟩ : ∃ E : Int, top < mn ∧ E = mn ∨ mn ≤ top ∧ E = top := by
    by_cases c : top < mn
    · exact ⟨mn, .inl ⟨c, rfl⟩⟩
    · exact ⟨top, .inr ⟨by omega, rfl⟩⟩
  obtain ⟨hf, hhf⟩ : ∃ hf, hf = cutHalf M e (E - p + 1) rest := ⟨_, rfl⟩
  obtain ⟨r, hr⟩ : ∃ r, r = chosen mode sign (cutLo M e (E - p + 1)) hf := ⟨_, rfl⟩
  obtain ⟨r2, hr2⟩ : ∃ r2, r2 = chosen mode sign (cutLo M e (top - p + 1)) (cutHalf M e (top - p + 1) rest) := ⟨_, rfl⟩
  by_cases c1 : mx < top
  · exact ⟨_, _, top, E, r, r2, hf, htop, hE, hhf, hr, hr2, .inl ⟨c1, rfl, rfl⟩⟩
  · by_cases c2 : inf ≤ r + one * (E - mn)
    · exact ⟨_, _, top, E, r, r2, hf, htop, hE, hhf, hr, hr2, .inr (.inl ⟨by omega, c2, rfl, rfl⟩)⟩
    · rcases Nat.eq_zero_or_pos hf with c3 | c3
      · exact ⟨_, _, top, E, r, r2, hf, htop, hE, hhf, hr, hr2, .inr (.inr ⟨by omega, by omega, rfl, .inl ⟨c3, rfl⟩⟩)⟩
      · by_cases c4 : top < mn - 1 ∨ top = mn - 1 ∧ (r2 : Int) < 2 * one
        · exact ⟨_, _, top, E, r, r2, hf, htop, hE, hhf, hr, hr2, .inr (.inr ⟨by omega, by omega, rfl, .inr (.inl ⟨c3, c4, rfl⟩)⟩)⟩
        · exact ⟨_, _, top, E, r, r2, hf, htop, hE, hhf, hr, hr2, .inr (.inr ⟨by omega, by omega, rfl, .inr (.inr ⟨c3, by omega, rfl⟩)⟩)⟩

theorem rule_of (mode : Int) (m0 : 0 ≤ mode) (m1 : mode ≤ 4) : ∃ k, IsRule mode k := by
  unfold IsRule
  rcases (show mode = 0 ∨ mode = 1 ∨ mode = 2 ∨ mode = 3 ∨ mode = 4 by omega) with rfl | rfl | rfl | rfl | rfl
  · exact ⟨_, .inl ⟨rfl, rfl⟩⟩
  · exact ⟨_, .inr (.inl ⟨rfl, rfl⟩)⟩
  · exact ⟨_, .inr (.inr (.inl ⟨rfl, rfl⟩))⟩
  · exact ⟨_, .inr (.inr (.inr (.inl ⟨rfl, rfl⟩)))⟩
  · exact ⟨_, .inr (.inr (.inr (.inr ⟨rfl, rfl⟩)))⟩

theorem sv_sw (sign sg z : Int) : sv sign sg z = sw sign sg z := by unfold sv sw; split <;> omega

end Go.Proofs.YtpfmfbadeebeeabDoor

/- impl's Add, Sub, Mul: what they answer. -/
set_option linter.unusedVariables false
set_option linter.unusedSimpArgs false
namespace Go.Proofs.YtpfmfbadeebeeabDoor
open Go.RowKit

/-- The operand of a word; a word that does not fit is one like a signaling NaN. -/
def OpdIs (p mx one inf sg nan a : Int) (x : Opd) : Prop := a < 2 * sg ∧ UnpackIs p mx one inf sg nan a x.c x.s x.e (x.M : Int) ∨ 2 * sg ≤ a ∧ x = ⟨4, 0, 0, 0⟩

theorem norm_bounds {f p mx one inf sg nan v e g : Int} (h : IsFmt f p mx one inf sg nan) (v0 : 0 < v) (v1 : v < inf) (hn : NormIs p mx one v e g) : one ≤ g ∧ g < 2 * one ∧ -2000 ≤ e ∧ e ≤ 1100 := by
  obtain ⟨k, m, e0, hm, hg, he, h1, h2⟩ := hn
  have hm1 : 1 ≤ m := by
    rcases hm with ⟨_, rfl, _⟩ | ⟨_, rfl, _⟩
    · omega
    · have := Int.emod_nonneg v (show one ≠ 0 by have := h.bounds; omega)
      have := h.bounds
      omega
  have hk : k ≤ 60 := by
    rcases Nat.lt_or_ge 60 k with c | c
    · exfalso
      have h3 : (2 : Int) ^ 61 ≤ 2 ^ k := by
        have := pow2_mono (show 61 ≤ k by omega)
        have e1 : ((2 ^ 61 : Nat) : Int) ≤ ((2 ^ k : Nat) : Int) := by omega
        rw [pow_cast, pow_cast] at e1
        exact e1
      have h4 : 1 * (2 : Int) ^ k ≤ m * 2 ^ k := Int.mul_le_mul_of_nonneg_right hm1 (by omega)
      have h5 : (2 : Int) ^ 61 = 2305843009213693952 := by decide
      have := h.bounds
      omega
    · exact c
  have hd : one ≤ v → v / one ≤ 2 * mx + 1 := by
    intro c
    rcases h with ⟨rfl, rfl, rfl, rfl, rfl, rfl, rfl⟩ | ⟨rfl, rfl, rfl, rfl, rfl, rfl, rfl⟩ <;> omega
  have hd0 : one ≤ v → 0 ≤ v / one := by
    intro c
    rcases h with ⟨rfl, rfl, rfl, rfl, rfl, rfl, rfl⟩ | ⟨rfl, rfl, rfl, rfl, rfl, rfl, rfl⟩ <;> omega
  have hb := h.bounds
  rcases hm with ⟨c, _, rfl⟩ | ⟨c, _, rfl⟩
  · exact ⟨h1, h2, by omega, by omega⟩
  · have := hd c
    have := hd0 c
    exact ⟨h1, h2, by omega, by omega⟩

theorem unpack_bounds {f p mx one inf sg nan W c s e g : Int} (h : IsFmt f p mx one inf sg nan) (hu : UnpackIs p mx one inf sg nan W c s e g) : 0 ≤ c ∧ c ≤ 4 ∧ (s = 0 ∨ s = 1) ∧ 0 ≤ g ∧ g < 2 * one ∧ -2000 ≤ e ∧ e ≤ 1100 ∧ (c = 1 → one ≤ g) ∧ (c ≠ 1 → g = 0) := by
  have hb := h.bounds
  obtain ⟨v, hs, hc⟩ := hu
  rcases hc with ⟨_, rfl, rfl, rfl⟩ | ⟨_, _, rfl, rfl, rfl⟩ | ⟨_, rfl, rfl, rfl⟩ | ⟨_, rfl, rfl, rfl⟩ | ⟨v0, v1, rfl, hn⟩
  · exact ⟨by omega, by omega, by omega, by omega, by omega, by omega, by omega, by omega, by omega⟩
  · exact ⟨by omega, by omega, by omega, by omega, by omega, by omega, by omega, by omega, by omega⟩
  · exact ⟨by omega, by omega, by omega, by omega, by omega, by omega, by omega, by omega, by omega⟩
  · exact ⟨by omega, by omega, by omega, by omega, by omega, by omega, by omega, by omega, by omega⟩
  · have := norm_bounds h v0 v1 hn
    exact ⟨by omega, by omega, by omega, by omega, by omega, by omega, by omega, by omega, by omega⟩

theorem opd_vo {f p mx one inf sg nan a : Int} (h : IsFmt f p mx one inf sg nan) {x : Opd} (hx : OpdIs p mx one inf sg nan a x) : VO x ∧ x.M < 9007199254740992 ∧ (x.c ≠ 1 → x.M = 0) ∧ -2000 ≤ x.e ∧ x.e ≤ 2000 ∧ nb x.M ≤ 53 := by
  have hb := h.bounds
  rcases hx with ⟨_, hu⟩ | ⟨_, rfl⟩
  · obtain ⟨h1, h2, h3, h4, h5, h6, h7, h8, h9⟩ := unpack_bounds h hu
    have hM : x.M < 9007199254740992 := by omega
    have hn : nb x.M ≤ 53 := nb_le (by simpa using hM)
    exact ⟨⟨h1, h2, h3, fun c => ⟨by have := h8 c; omega, by omega⟩, fun c => by have := h9 c; omega, by omega, by omega⟩, hM, fun c => by have := h9 c; omega, by omega, by omega, hn⟩
  · exact ⟨⟨by decide, by decide, .inl rfl, (fun c => by cases c), fun _ => rfl, by decide, by decide⟩, by decide, fun _ => rfl, by decide, by decide, by decide⟩

theorem OpdIs.one {f p mx one inf sg nan a : Int} (h : IsFmt f p mx one inf sg nan) {x y : Opd} (hx : OpdIs p mx one inf sg nan a x) (hy : OpdIs p mx one inf sg nan a y) : x = y := by
  rcases hx with ⟨c, hu⟩ | ⟨c, rfl⟩ <;> rcases hy with ⟨d, hv⟩ | ⟨d, rfl⟩
  · obtain ⟨e1, e2, e3, e4⟩ := UnpackIs.one h hu hv
    obtain ⟨c1, s1, x1, M1⟩ := x
    obtain ⟨c2, s2, x2, M2⟩ := y
    dsimp only at e1 e2 e3 e4
    have : M1 = M2 := by omega
    subst e1 e2 e3 this
    rfl
  · exfalso; omega
  · exfalso; omega
  · rfl

theorem opd_is {f p mx one inf sg nan mn fb sp : Int} (h : IsFmt f p mx one inf sg nan) (hm : IsM p mn mx fb sp one inf sg nan) (a : Int) (a0 : 0 ≤ a) (a1 : a < 18446744073709551616) :
    ∃ x : Opd, OpdIs p mx one inf sg nan a x ∧ ∀ w, Calls Tryd.prog 28 #[.agg #[.int .i64 p, .int .i64 mn, .int .i64 mx], .int .u64 a] w fun e w' => e = .returned (.agg #[.int .i64 x.s, .int .i64 x.e, .int .i64 x.c, .int .u64 (((x.M / 18446744073709551616 : Nat) : Int)), .int .u64 (((x.M % 18446744073709551616 : Nat) : Int)), .bool false]) ∧ Gr w w' := by
  have hb := h.bounds
  by_cases hf : a < 2 * sg
  · obtain ⟨c, s, e, g, hu⟩ := unpack_is h a a0 hf
    obtain ⟨u1, u2, u3, u4, u5, u6, u7, u8, u9⟩ := unpack_bounds h hu
    obtain ⟨G, rfl⟩ := Int.eq_ofNat_of_zero_le u4
    refine ⟨⟨c, s, e, G⟩, .inl ⟨hf, hu⟩, fun w => ?_⟩
    refine (operand_fit hm a a0 hf w).mono ?_
    rintro r w' ⟨c', s', e', g', hu', rfl, hg⟩
    obtain ⟨rfl, rfl, rfl, rfl⟩ := UnpackIs.one h hu hu'
    refine ⟨?_, hg⟩
    dsimp only
    rw [show G / 18446744073709551616 = 0 by omega, show G % 18446744073709551616 = G by omega]
    rfl
  · exact ⟨⟨4, 0, 0, 0⟩, .inr ⟨by omega, rfl⟩, fun w => operand_wide hm a (by omega) a1 w⟩

/-- What the program holds stands for an operand: as words. -/
def SameV (o : Opd) (os oe oc oh ol : Int) (ot : Bool) : Prop := ∃ M : Nat, oh = ((M / 18446744073709551616 : Nat) : Int) ∧ ol = ((M % 18446744073709551616 : Nat) : Int) ∧ Same o oc os oe M ot ∧ 0 ≤ oc ∧ oc ≤ 4 ∧ (oc ≤ 2 → os = 0 ∨ os = 1)

theorem VO.same {x : Opd} (h : VO x) : SameV x x.s x.e x.c ((x.M / 18446744073709551616 : Nat) : Int) ((x.M % 18446744073709551616 : Nat) : Int) false := by
  refine ⟨x.M, rfl, rfl, Same.self x (fun c => ?_), h.c0, h.c4, fun _ => h.s01⟩
  obtain ⟨a, b⟩ := h.fin c
  have := h.e0
  have := h.e1
  exact ⟨a, pow2_lt _ b, by omega, by omega⟩

theorem pack_any {p mn mx fb sp one inf sg nan : Int} (hm : IsM p mn mx fb sp one inf sg nan) (md : Int) (k : Nat) (hk : IsRule md k) (o : Opd) (os oe oc oh ol : Int) (ot : Bool) (h : SameV o os oe oc oh ol ot) (w : World) :
    Calls Tryd.prog 29 #[.agg #[.int .i64 p, .int .i64 mn, .int .i64 mx, .int .i64 md, .func (.func k) #[] #[]], .agg #[.int .i64 os, .int .i64 oe, .int .i64 oc, .int .u64 oh, .int .u64 ol, .bool ot]] w fun e w' => ∃ z fl, PackIs p mn mx one inf sg nan md o z fl ∧ e = .returned (.agg #[.int .u64 z, .int .i64 fl]) ∧ Gr w w' := by
  obtain ⟨M, rfl, rfl, ⟨h1, h2, h3⟩, c0, c4, hs⟩ := h
  have hp : p ≤ 53 ∧ 0 ≤ p := by rcases hm with h | h <;> omega
  rcases (show oc = 0 ∨ oc = 1 ∨ oc = 2 ∨ oc = 3 ∨ oc = 4 by omega) with rfl | rfl | rfl | rfl | rfl
  · refine (pack_0 p mn mx md k os oe _ _ ot (sw os sg 0) (fun w => zero_any hm os _ ?_ w) w).mono ?_
    · rcases hs (by omega) with rfl | rfl
      · exact .inl ⟨rfl, by simp [sw]⟩
      · exact .inr ⟨rfl, by simp [sw]⟩
    · rintro r w' ⟨rfl, hg⟩
      exact ⟨_, _, .inl ⟨h1, by rw [h2 (by omega)], rfl⟩, rfl, hg⟩
  · obtain ⟨m0, m1, m2, e0, e1, m3⟩ := h3 rfl
    refine (pack_1 p mn mx md k os oe _ _ ot (fun z fl => ∃ z0, RoundIs p mn mx one inf md os M oe ot z0 fl ∧ z = sw os sg z0) (fun w => ?_) w).mono ?_
    · refine (round_num hm md md k hk os (hs (by omega)) oe e0 e1 M m0 m1 ot (fun c => by have := m2 c; omega) w).mono ?_
      rintro r w' ⟨z, fl, hr, rfl, hg⟩
      exact ⟨_, _, ⟨z, hr, sv_sw _ _ _⟩, rfl, hg⟩
    · rintro r w' ⟨z, fl, ⟨z0, hr, rfl⟩, rfl, hg⟩
      refine ⟨_, _, .inr (.inl ⟨h1, z0, ?_, by rw [h2 (by omega)]⟩), rfl, hg⟩
      rw [h2 (by omega)]
      exact (m3 p mn mx one inf md z0 fl hp.2 hp.1).1 hr
  · refine (pack_2 p mn mx md k os oe _ _ ot (sw os sg inf) (fun w => inf_any hm os _ ?_ w) w).mono ?_
    · rcases hs (by omega) with rfl | rfl
      · exact .inl ⟨rfl, by simp [sw]⟩
      · exact .inr ⟨rfl, by simp [sw]; omega⟩
    · rintro r w' ⟨rfl, hg⟩
      exact ⟨_, _, .inr (.inr (.inl ⟨h1, by rw [h2 (by omega)], rfl⟩)), rfl, hg⟩
  · refine (pack_3 p mn mx md k os oe _ _ ot nan (fun w => nan_any hm w) w).mono ?_
    rintro r w' ⟨rfl, hg⟩
    exact ⟨_, _, .inr (.inr (.inr (.inl ⟨h1, rfl, rfl⟩))), rfl, hg⟩
  · refine (pack_4 p mn mx md k os oe _ _ ot nan (fun w => invalid_any hm w) w).mono ?_
    rintro r w' ⟨rfl, hg⟩
    exact ⟨_, _, .inr (.inr (.inr (.inr ⟨h1, rfl, rfl⟩))), rfl, hg⟩

theorem nilO_s (md : Int) : (nilO md).s = 0 ∨ (nilO md).s = 1 := by
  unfold nilO; dsimp only; split
  · exact .inr rfl
  · exact .inl rfl
theorem totO_cs (md : Int) (x y : Opd) (hx : x.s = 0 ∨ x.s = 1) (hy : y.s = 0 ∨ y.s = 1) : ((totO md x y).c = 0 ∨ (totO md x y).c = 1) ∧ ((totO md x y).s = 0 ∨ (totO md x y).s = 1) := by
  unfold totO
  split
  · exact ⟨.inr rfl, hx⟩
  · split
    · exact ⟨.inl rfl, nilO_s md⟩
    · split
      · exact ⟨.inr rfl, hx⟩
      · exact ⟨.inr rfl, hy⟩

theorem sum_any (p mn mx md : Int) (k : Nat) (x y : Opd) (hx : VO x) (hy : VO y) (h2 : max x.c y.c < 3) (w : World) :
    Calls Tryd.prog 30 #[.agg #[.int .i64 p, .int .i64 mn, .int .i64 mx, .int .i64 md, .func (.func k) #[] #[]], .agg #[.int .i64 x.s, .int .i64 x.e, .int .i64 x.c, .int .u64 (((x.M / 18446744073709551616 : Nat) : Int)), .int .u64 (((x.M % 18446744073709551616 : Nat) : Int)), .bool false], .agg #[.int .i64 y.s, .int .i64 y.e, .int .i64 y.c, .int .u64 (((y.M / 18446744073709551616 : Nat) : Int)), .int .u64 (((y.M % 18446744073709551616 : Nat) : Int)), .bool false]] w fun e w' => ∃ os oe oc oh ol ot, SameV (sumO md x y) os oe oc oh ol ot ∧ e = .returned (.agg #[.int .i64 os, .int .i64 oe, .int .i64 oc, .int .u64 oh, .int .u64 ol, .bool ot]) ∧ Gr w w' := by
  have c0 := hx.c0
  have d0 := hy.c0
  unfold sumO
  rw [if_neg (show ¬ 3 ≤ max x.c y.c by omega)]
  by_cases c1 : y.c < x.c
  · rw [if_pos c1]
    refine (sum_gt p mn mx md k _ _ _ _ _ _ _ _ _ _ _ _ c1 w).mono ?_
    rintro r w' ⟨rfl, hg⟩
    exact ⟨_, _, _, _, _, _, hx.same, rfl, hg⟩
  · rw [if_neg c1]
    by_cases c2 : x.c < y.c
    · rw [if_pos c2]
      refine (sum_lt p mn mx md k _ _ _ _ _ _ _ _ _ _ _ _ c2 w).mono ?_
      rintro r w' ⟨rfl, hg⟩
      exact ⟨_, _, _, _, _, _, hy.same, rfl, hg⟩
    · rw [if_neg c2]
      by_cases c3 : x.c = 1
      · rw [if_pos c3]
        refine (sum_tot p mn mx md k _ _ _ _ _ _ _ _ _ _ _ _ c3 (by omega) (fun os oe oc oh ol ot => SameV (totO md x y) os oe oc oh ol ot) (fun w => ?_) w).mono (fun e w' h => h)
        refine (total_any p mn mx md k x y hx hy c3 (by omega) w).mono ?_
        rintro r w' ⟨c, s, e, M, st, hsm, rfl, hg⟩
        obtain ⟨t1, t2⟩ := totO_cs md x y hx.s01 hy.s01
        have tc := hsm.1
        exact ⟨_, _, _, _, _, _, ⟨M, rfl, rfl, hsm, by omega, by omega, fun hc => by rw [← hsm.2.1 hc]; exact t2⟩, rfl, hg⟩
      · rw [if_neg c3]
        by_cases c4 : x.s = y.s
        · rw [if_pos c4]
          refine (sum_sg p mn mx md k _ _ _ _ _ _ _ _ _ _ _ _ (by omega) (by simp [c3]) c4 w).mono ?_
          rintro r w' ⟨rfl, hg⟩
          exact ⟨_, _, _, _, _, _, hx.same, rfl, hg⟩
        · rw [if_neg c4]
          by_cases c5 : x.c = 2
          · rw [if_pos c5]
            refine (sum_inf p mn mx md k _ _ _ _ _ _ _ _ _ _ _ _ c5 (by omega) (by simp [c4]) w).mono ?_
            rintro r w' ⟨rfl, hg⟩
            exact ⟨_, _, _, _, _, _, ⟨0, rfl, rfl, ⟨rfl, fun _ => rfl, (fun h => by cases h)⟩, (show (0 : Int) ≤ 4 by omega), (show (4 : Int) ≤ 4 by omega), fun _ => .inl rfl⟩, rfl, hg⟩
          · rw [if_neg c5]
            refine (sum_nil p mn mx md k _ _ _ _ _ _ _ _ _ _ _ _ (by omega) (by omega) (by simp [c4]) _ _ _ _ _ _ (fun w => nothing_any p mn mx md k w) w).mono ?_
            rintro r w' ⟨rfl, hg⟩
            exact ⟨_, _, _, _, _, _, ⟨0, rfl, rfl, nil_same md, by omega, by omega, fun _ => nilO_s md⟩, rfl, hg⟩

theorem VO.turn {x : Opd} (h : VO x) : VO (turnO x) := ⟨h.c0, h.c4, by have := h.s01; unfold turnO; dsimp only; omega, h.fin, h.nil, h.e0, h.e1⟩

theorem product_any (p mn mx md : Int) (k : Nat) (x y : Opd) (hx : VO x) (hy : VO y) (hxM : x.M < 18446744073709551616) (hyM : y.M < 18446744073709551616) (h2 : max x.c y.c < 3) (w : World) :
    Calls Tryd.prog 27 #[.agg #[.int .i64 p, .int .i64 mn, .int .i64 mx, .int .i64 md, .func (.func k) #[] #[]], .agg #[.int .i64 x.s, .int .i64 x.e, .int .i64 x.c, .int .u64 (((x.M / 18446744073709551616 : Nat) : Int)), .int .u64 (((x.M % 18446744073709551616 : Nat) : Int)), .bool false], .agg #[.int .i64 y.s, .int .i64 y.e, .int .i64 y.c, .int .u64 (((y.M / 18446744073709551616 : Nat) : Int)), .int .u64 (((y.M % 18446744073709551616 : Nat) : Int)), .bool false]] w fun e w' => e = .returned (.agg #[.int .i64 ((prodO x y).s), .int .i64 ((prodO x y).e), .int .i64 ((prodO x y).c), .int .u64 ((((prodO x y).M / 18446744073709551616 : Nat) : Int)), .int .u64 ((((prodO x y).M % 18446744073709551616 : Nat) : Int)), .bool false]) ∧ Gr w w' := by
  have HT : Hid (∀ w, Calls Tryd.prog 59 #[.agg #[.int .i64 x.s, .int .i64 x.e], .agg #[.int .i64 y.s, .int .i64 y.e]] w fun e w' => e = .returned (.agg #[.int .i64 (mulS x.s y.s), .int .i64 (x.e + y.e)]) ∧ Gr w w') := fun w => times_any x.s x.e y.s y.e hx.s01 hy.s01 (by have := hx.e0; omega) (by have := hx.e1; omega) (by have := hy.e0; omega) (by have := hy.e1; omega) w
  have hMm : Hid (∀ w, Calls Tryd.prog 60 #[.int .u64 ((x.M % 18446744073709551616 : Nat) : Int), .int .u64 ((y.M % 18446744073709551616 : Nat) : Int)] w fun e w' => e = .returned (.agg #[.int .u64 ((x.M * y.M / 18446744073709551616 : Nat) : Int), .int .u64 ((x.M * y.M % 18446744073709551616 : Nat) : Int)]) ∧ Gr w w') := fun w => by
    rw [Nat.mod_eq_of_lt hxM, Nat.mod_eq_of_lt hyM]; exact mulW x.M y.M hxM hyM w
  have c0 := hx.c0
  have d0 := hy.c0
  obtain ⟨cx, sx, ex, Mx⟩ := x
  obtain ⟨cy, sy, ey, My⟩ := y
  dsimp only at *
  rcases (show cx = 0 ∨ cx = 1 ∨ cx = 2 by omega) with rfl | rfl | rfl <;> rcases (show cy = 0 ∨ cy = 1 ∨ cy = 2 by omega) with rfl | rfl | rfl
  · rw [show prodO ⟨0, sx, ex, Mx⟩ ⟨0, sy, ey, My⟩ = ⟨0, mulS sx sy, ex + ey, 0⟩ from by unfold prodO; dsimp only; rw [if_neg (by decide), if_neg (by decide), if_pos (by decide)]]
    refine (product_00 p mn mx md k _ _ _ _ _ _ _ _ _ _ _ _ HT w).mono ?_
    rintro r w' ⟨rfl, hg⟩
    exact ⟨by simp, hg⟩
  · rw [show prodO ⟨0, sx, ex, Mx⟩ ⟨1, sy, ey, My⟩ = ⟨0, mulS sx sy, ex + ey, 0⟩ from by unfold prodO; dsimp only; rw [if_neg (by decide), if_neg (by decide), if_pos (by decide)]]
    refine (product_01 p mn mx md k _ _ _ _ _ _ _ _ _ _ _ _ HT w).mono ?_
    rintro r w' ⟨rfl, hg⟩
    exact ⟨by simp, hg⟩
  · rw [show prodO ⟨0, sx, ex, Mx⟩ ⟨2, sy, ey, My⟩ = ⟨4, mulS sx sy, ex + ey, 0⟩ from by unfold prodO; dsimp only; rw [if_neg (by decide), if_pos (by decide)]]
    refine (product_02 p mn mx md k _ _ _ _ _ _ _ _ _ _ _ _ HT w).mono ?_
    rintro r w' ⟨rfl, hg⟩
    exact ⟨by simp, hg⟩
  · rw [show prodO ⟨1, sx, ex, Mx⟩ ⟨0, sy, ey, My⟩ = ⟨0, mulS sx sy, ex + ey, 0⟩ from by unfold prodO; dsimp only; rw [if_neg (by decide), if_neg (by decide), if_pos (by decide)]]
    refine (product_10 p mn mx md k _ _ _ _ _ _ _ _ _ _ _ _ HT w).mono ?_
    rintro r w' ⟨rfl, hg⟩
    exact ⟨by simp, hg⟩
  · rw [show prodO ⟨1, sx, ex, Mx⟩ ⟨1, sy, ey, My⟩ = ⟨1, mulS sx sy, ex + ey, Mx * My⟩ from by unfold prodO; dsimp only; rw [if_neg (by decide), if_neg (by decide), if_neg (by decide), if_neg (by decide)]]
    exact product_11 p mn mx md k _ _ _ _ _ _ _ _ _ _ _ _ HT _ _ hMm w
  · rw [show prodO ⟨1, sx, ex, Mx⟩ ⟨2, sy, ey, My⟩ = ⟨2, mulS sx sy, ex + ey, 0⟩ from by unfold prodO; dsimp only; rw [if_neg (by decide), if_neg (by decide), if_neg (by decide), if_pos (by decide)]]
    refine (product_12 p mn mx md k _ _ _ _ _ _ _ _ _ _ _ _ HT w).mono ?_
    rintro r w' ⟨rfl, hg⟩
    exact ⟨by simp, hg⟩
  · rw [show prodO ⟨2, sx, ex, Mx⟩ ⟨0, sy, ey, My⟩ = ⟨4, mulS sx sy, ex + ey, 0⟩ from by unfold prodO; dsimp only; rw [if_neg (by decide), if_pos (by decide)]]
    refine (product_20 p mn mx md k _ _ _ _ _ _ _ _ _ _ _ _ HT w).mono ?_
    rintro r w' ⟨rfl, hg⟩
    exact ⟨by simp, hg⟩
  · rw [show prodO ⟨2, sx, ex, Mx⟩ ⟨1, sy, ey, My⟩ = ⟨2, mulS sx sy, ex + ey, 0⟩ from by unfold prodO; dsimp only; rw [if_neg (by decide), if_neg (by decide), if_neg (by decide), if_pos (by decide)]]
    refine (product_21 p mn mx md k _ _ _ _ _ _ _ _ _ _ _ _ HT w).mono ?_
    rintro r w' ⟨rfl, hg⟩
    exact ⟨by simp, hg⟩
  · rw [show prodO ⟨2, sx, ex, Mx⟩ ⟨2, sy, ey, My⟩ = ⟨2, mulS sx sy, ex + ey, 0⟩ from by unfold prodO; dsimp only; rw [if_neg (by decide), if_neg (by decide), if_neg (by decide), if_pos (by decide)]]
    refine (product_22 p mn mx md k _ _ _ _ _ _ _ _ _ _ _ _ HT w).mono ?_
    rintro r w' ⟨rfl, hg⟩
    exact ⟨by simp, hg⟩

theorem nan_same (m : Int) (h0 : 3 ≤ m) (h1 : m ≤ 4) : SameV ⟨m, 0, 0, 0⟩ 0 0 m 0 0 false := ⟨0, rfl, rfl, ⟨rfl, fun _ => rfl, fun h => by omega⟩, by omega, h1, fun _ => .inl rfl⟩

theorem sumO_nan (md : Int) (x y : Opd) (h : 3 ≤ max x.c y.c) : sumO md x y = ⟨max x.c y.c, 0, 0, 0⟩ := by unfold sumO; rw [if_pos h]
theorem prodO_nan (x y : Opd) (h : 3 ≤ max x.c y.c) : prodO x y = ⟨max x.c y.c, 0, 0, 0⟩ := by unfold prodO; rw [if_pos h]

theorem combine_sum_any (p mn mx md : Int) (k : Nat) (x y : Opd) (hx : VO x) (hy : VO y) (w : World) :
    Calls Tryd.prog 26 #[.agg #[.int .i64 p, .int .i64 mn, .int .i64 mx, .int .i64 md, .func (.func k) #[] #[]], .func (.func 30) #[] #[], .agg #[.int .i64 x.s, .int .i64 x.e, .int .i64 x.c, .int .u64 (((x.M / 18446744073709551616 : Nat) : Int)), .int .u64 (((x.M % 18446744073709551616 : Nat) : Int)), .bool false], .agg #[.int .i64 y.s, .int .i64 y.e, .int .i64 y.c, .int .u64 (((y.M / 18446744073709551616 : Nat) : Int)), .int .u64 (((y.M % 18446744073709551616 : Nat) : Int)), .bool false]] w fun e w' => ∃ os oe oc oh ol ot, SameV (sumO md x y) os oe oc oh ol ot ∧ e = .returned (.agg #[.int .i64 os, .int .i64 oe, .int .i64 oc, .int .u64 oh, .int .u64 ol, .bool ot]) ∧ Gr w w' := by
  by_cases h : 3 ≤ max x.c y.c
  · refine (combine_nan p mn mx md k _ _ _ _ _ _ _ _ _ _ _ _ 30 _ rfl h w).mono ?_
    rintro r w' ⟨rfl, hg⟩
    have := hx.c4
    have := hy.c4
    rw [sumO_nan md x y h]
    exact ⟨_, _, _, _, _, _, nan_same _ h (by omega), rfl, hg⟩
  · exact combine_sum p mn mx md k _ _ _ _ _ _ _ _ _ _ _ _ _ rfl (by omega) _ (fun w => sum_any p mn mx md k x y hx hy (by omega) w) w

theorem prodO_vo {x y : Opd} (hx : VO x) (hy : VO y) (hxn : nb x.M ≤ 53) (hyn : nb y.M ≤ 53) (x0 : -2000 ≤ x.e) (x1 : x.e ≤ 2000) (y0 : -2000 ≤ y.e) (y1 : y.e ≤ 2000) : VO (prodO x y) := by
  have hm : mulS x.s y.s = 0 ∨ mulS x.s y.s = 1 := by unfold mulS; split <;> simp
  have cx4 := hx.c4
  have cy4 := hy.c4
  have cx0 := hx.c0
  have cy0 := hy.c0
  unfold prodO
  split
  · rename_i h; exact ⟨by dsimp only; omega, by dsimp only; omega, .inl rfl, fun c => by dsimp only at c; omega, fun _ => rfl, (by dsimp only; omega), (by dsimp only; omega)⟩
  · rename_i h
    split
    · exact ⟨(by dsimp only; omega), (by dsimp only; omega), hm, (fun c => by cases c), fun _ => rfl, by dsimp only; omega, by dsimp only; omega⟩
    · split
      · exact ⟨(by dsimp only; omega), (by dsimp only; omega), hm, (fun c => by cases c), fun _ => rfl, by dsimp only; omega, by dsimp only; omega⟩
      · split
        · exact ⟨(by dsimp only; omega), (by dsimp only; omega), hm, (fun c => by cases c), fun _ => rfl, by dsimp only; omega, by dsimp only; omega⟩
        · rename_i h1 h2 h3
          have ex := (hx.fin (by omega)).1
          have ey := (hy.fin (by omega)).1
          refine ⟨(by dsimp only; omega), (by dsimp only; omega), hm, fun _ => ⟨Nat.mul_pos ex ey, ?_⟩, fun c => absurd rfl c, by dsimp only; omega, by dsimp only; omega⟩
          refine nb_le ?_
          have a1 := nb_lt x.M
          have a2 := nb_lt y.M
          have a3 := pow2_mono hxn
          have a4 := pow2_mono hyn
          have : x.M * y.M < 2 ^ 53 * 2 ^ 53 := Nat.mul_lt_mul'' (by omega) (by omega)
          rw [← Nat.pow_add] at this
          exact this

theorem combine_product_any (p mn mx md : Int) (k : Nat) (x y : Opd) (hx : VO x) (hy : VO y) (hxM : x.M < 18446744073709551616) (hyM : y.M < 18446744073709551616) (w : World) :
    Calls Tryd.prog 26 #[.agg #[.int .i64 p, .int .i64 mn, .int .i64 mx, .int .i64 md, .func (.func k) #[] #[]], .func (.func 27) #[] #[], .agg #[.int .i64 x.s, .int .i64 x.e, .int .i64 x.c, .int .u64 (((x.M / 18446744073709551616 : Nat) : Int)), .int .u64 (((x.M % 18446744073709551616 : Nat) : Int)), .bool false], .agg #[.int .i64 y.s, .int .i64 y.e, .int .i64 y.c, .int .u64 (((y.M / 18446744073709551616 : Nat) : Int)), .int .u64 (((y.M % 18446744073709551616 : Nat) : Int)), .bool false]] w fun e w' => e = .returned (.agg #[.int .i64 ((prodO x y).s), .int .i64 ((prodO x y).e), .int .i64 ((prodO x y).c), .int .u64 ((((prodO x y).M / 18446744073709551616 : Nat) : Int)), .int .u64 ((((prodO x y).M % 18446744073709551616 : Nat) : Int)), .bool false]) ∧ Gr w w' := by
  by_cases h : 3 ≤ max x.c y.c
  · refine (combine_nan p mn mx md k _ _ _ _ _ _ _ _ _ _ _ _ 27 _ rfl h w).mono ?_
    rintro r w' ⟨rfl, hg⟩
    rw [prodO_nan x y h]
    exact ⟨by simp, hg⟩
  · refine (combine_product p mn mx md k _ _ _ _ _ _ _ _ _ _ _ _ _ rfl (by omega) (fun os oe oc oh ol ot => os = (prodO x y).s ∧ oe = (prodO x y).e ∧ oc = (prodO x y).c ∧ oh = (((prodO x y).M / 18446744073709551616 : Nat) : Int) ∧ ol = (((prodO x y).M % 18446744073709551616 : Nat) : Int) ∧ ot = false) (fun w => ?_) w).mono ?_
    · refine (product_any p mn mx md k x y hx hy hxM hyM (by omega) w).mono ?_
      rintro r w' ⟨rfl, hg⟩
      exact ⟨_, _, _, _, _, _, ⟨rfl, rfl, rfl, rfl, rfl, rfl⟩, rfl, hg⟩
    · rintro r w' ⟨os, oe, oc, oh, ol, ot, ⟨rfl, rfl, rfl, rfl, rfl, rfl⟩, rfl, hg⟩
      exact ⟨rfl, hg⟩
end Go.Proofs.YtpfmfbadeebeeabDoor
