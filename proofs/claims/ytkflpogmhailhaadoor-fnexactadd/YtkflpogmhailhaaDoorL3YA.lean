/- What an operation on words answers, by its rule on operands; both sides. -/
import Derived.Test.YtkflpogmhailhaaDoorB4
import Derived.Test.YtkflpogmhailhaaDoorL3OA
set_option linter.unusedVariables false
set_option linter.unusedSimpArgs false
namespace Go.Proofs.YtkflpogmhailhaaDoor
open Go.RowKit


theorem big_nb {K : Nat} {w : World} {v : Value} {M : Nat} (h : BigN K w v M) (hK : K ≤ 100000) : nb M ≤ 3200000 := by
  obtain ⟨n, hn, hb⟩ := h
  have h1 := hb.1.1
  rw [← two_pw] at h1
  have := nb_le h1
  omega

/-- l2Round at a number of the sums. -/
theorem round_at {f p mx one inf sg nan : Int} (h : IsFmt f p mx one inf sg nan) (mode : Int) (m0 : 0 ≤ mode) (m1 : mode ≤ 4) (o : Opd) (ho : o.c = 1) (hs : o.s = 0 ∨ o.s = 1) (hM : 0 < o.M) (e0 : -5000 ≤ o.e) (e1 : o.e ≤ 5000) (K : Nat) (hK : K ≤ 100000) (v : Value) (w : World) (hB : BigN K w v o.M) :
    Calls Tryd.prog 37 #[.int .i64 f, .int .i64 mode, .agg #[.int .i64 o.s, v, .int .i64 o.e, .bool false]] w fun e w' => ∃ z fl, PackIs p (1 - mx) mx one inf sg nan mode o z fl ∧ e = .returned (.agg #[.int .u64 z, .int .i64 fl]) ∧ Gb w w' := by
  have hn := big_nb hB hK
  obtain ⟨n, hn', hb⟩ := hB
  refine (l2Round_any h hb (by omega) hM hn mode o.s o.e false m0 m1 hs (by omega) (by omega) (fun c => by cases c)).mono ?_
  rintro x w' ⟨z, fl, hr, z0, z1, rfl, hg⟩
  exact ⟨_, _, .inr (.inl ⟨ho, z, hr, rfl⟩), rfl, hg⟩

/-- What an operation on two words answers, by its rule on operands. -/
def OpR (R : Int → Opd → Opd → Opd) (f mode a b Z fl : Int) : Prop :=
  (∃ p mx one inf sg nan x y, IsFmt f p mx one inf sg nan ∧ (0 ≤ mode ∧ mode ≤ 4) ∧ OpdIs p mx one inf sg nan a x ∧ OpdIs p mx one inf sg nan b y ∧ PackIs p (1 - mx) mx one inf sg nan mode (R mode x y) Z fl) ∨
  (∃ p mx one inf sg nan, IsFmt f p mx one inf sg nan ∧ (mode < 0 ∨ 4 < mode) ∧ Z = nan ∧ fl = 1) ∨
  (¬ (f = 0 ∨ f = 1) ∧ Z = 9221120237041090560 ∧ fl = 1)

theorem fmt_of (f : Int) (h : f = 0 ∨ f = 1) : ∃ p mx one inf sg nan, IsFmt f p mx one inf sg nan := by
  rcases h with rfl | rfl
  · exact ⟨_, _, _, _, _, _, .inl ⟨rfl, rfl, rfl, rfl, rfl, rfl, rfl⟩⟩
  · exact ⟨_, _, _, _, _, _, .inr ⟨rfl, rfl, rfl, rfl, rfl, rfl, rfl⟩⟩
theorem IsFmt.one {f p mx one inf sg nan p' mx' one' inf' sg' nan' : Int} (h : IsFmt f p mx one inf sg nan) (h' : IsFmt f p' mx' one' inf' sg' nan') : p = p' ∧ mx = mx' ∧ one = one' ∧ inf = inf' ∧ sg = sg' ∧ nan = nan' := by
  rcases h with ⟨rfl, rfl, rfl, rfl, rfl, rfl, rfl⟩ | ⟨rfl, rfl, rfl, rfl, rfl, rfl, rfl⟩ <;> rcases h' with ⟨e, rfl, rfl, rfl, rfl, rfl, rfl⟩ | ⟨e, rfl, rfl, rfl, rfl, rfl, rfl⟩
  · exact ⟨rfl, rfl, rfl, rfl, rfl, rfl⟩
  · cases e
  · cases e
  · exact ⟨rfl, rfl, rfl, rfl, rfl, rfl⟩

theorem OpR.one {R : Int → Opd → Opd → Opd} {f mode a b Z fl Z' fl' : Int} (h : OpR R f mode a b Z fl) (h' : OpR R f mode a b Z' fl') : Z = Z' ∧ fl = fl' := by
  rcases h with ⟨p, mx, one, inf, sg, nan, x, y, hF, hm, hx, hy, hp⟩ | ⟨p, mx, one, inf, sg, nan, hF, hm, rfl, rfl⟩ | ⟨hF, rfl, rfl⟩ <;>
  rcases h' with ⟨p', mx', one', inf', sg', nan', x', y', hF', hm', hx', hy', hp'⟩ | ⟨p', mx', one', inf', sg', nan', hF', hm', rfl, rfl⟩ | ⟨hF', rfl, rfl⟩
  · obtain ⟨rfl, rfl, rfl, rfl, rfl, rfl⟩ := hF.one hF'
    obtain rfl := hx.one hF hx'
    obtain rfl := hy.one hF hy'
    exact PackIs.one hp hp'
  · exfalso; omega
  · exact absurd hF.yes.symm (by simp [hF'])
  · exfalso; omega
  · obtain ⟨rfl, rfl, rfl, rfl, rfl, rfl⟩ := hF.one hF'
    exact ⟨rfl, rfl⟩
  · exact absurd hF.yes.symm (by simp [hF'])
  · exact absurd hF'.yes.symm (by simp [hF])
  · exact absurd hF'.yes.symm (by simp [hF])
  · exact ⟨rfl, rfl⟩

theorem pack_is (p mn mx one inf sg nan mode : Int) (o : Opd) (c0 : 0 ≤ o.c) (c4 : o.c ≤ 4) : ∃ Z fl, PackIs p mn mx one inf sg nan mode o Z fl := by
  rcases (show o.c = 0 ∨ o.c = 1 ∨ o.c = 2 ∨ o.c = 3 ∨ o.c = 4 by omega) with c | c | c | c | c
  · exact ⟨_, _, .inl ⟨c, rfl, rfl⟩⟩
  · obtain ⟨z, fl, hr⟩ := round_is p mn mx one inf mode o.s o.M o.e false
    exact ⟨_, _, .inr (.inl ⟨c, z, hr, rfl⟩)⟩
  · exact ⟨_, _, .inr (.inr (.inl ⟨c, rfl, rfl⟩))⟩
  · exact ⟨_, _, .inr (.inr (.inr (.inl ⟨c, rfl, rfl⟩)))⟩
  · exact ⟨_, _, .inr (.inr (.inr (.inr ⟨c, rfl, rfl⟩)))⟩

theorem opd_ex {f p mx one inf sg nan : Int} (h : IsFmt f p mx one inf sg nan) (a : Int) (a0 : 0 ≤ a) (a1 : a < 18446744073709551616) : ∃ x, OpdIs p mx one inf sg nan a x := by
  obtain ⟨mn, fb, sp, hm, _, _⟩ := h.m
  obtain ⟨x, hx, _⟩ := opd_is h hm a a0 a1
  exact ⟨x, hx⟩

/-- An answer of both sides, out of what each says. -/
theorem both_of (R : Int → Opd → Opd → Opd) (S I : Nat) (hR : ∀ mode x y, VO x → VO y → nb x.M ≤ 53 → nb y.M ≤ 53 → -2000 ≤ x.e → x.e ≤ 2000 → -2000 ≤ y.e → y.e ≤ 2000 → 0 ≤ (R mode x y).c ∧ (R mode x y).c ≤ 4) (f mode a b : Int) (a0 : 0 ≤ a) (a1 : a < 18446744073709551616) (b0 : 0 ≤ b) (b1 : b < 18446744073709551616)
    (hs : ∀ w, Calls Tryd.prog S #[.int .i64 f, .int .i64 mode, .int .u64 a, .int .u64 b] w fun e w' => ∃ Z fl, OpR R f mode a b Z fl ∧ e = .returned (.agg #[.int .u64 Z, .int .i64 fl]) ∧ Gb w w')
    (hi : ∀ w, Fm w → Calls Tryd.prog I #[.int .i64 f, .int .i64 mode, .int .u64 a, .int .u64 b] w fun e w' => ∃ Z fl, OpR R f mode a b Z fl ∧ e = .returned (.agg #[.int .u64 Z, .int .i64 fl]) ∧ Gr w w') :
    ∃ Z fl : Int, OpR R f mode a b Z fl ∧ (∀ w, Calls Tryd.prog S #[.int .i64 f, .int .i64 mode, .int .u64 a, .int .u64 b] w fun e w' => e = .returned (.agg #[.int .u64 Z, .int .i64 fl]) ∧ Gb w w') ∧
      (∀ w, Fm w → Calls Tryd.prog I #[.int .i64 f, .int .i64 mode, .int .u64 a, .int .u64 b] w fun e w' => e = .returned (.agg #[.int .u64 Z, .int .i64 fl]) ∧ Gr w w') := by
  have hex : ∃ Z fl : Int, OpR R f mode a b Z fl := by
    by_cases hf : f = 0 ∨ f = 1
    · obtain ⟨p, mx, one, inf, sg, nan, hF⟩ := fmt_of f hf
      by_cases hm : 0 ≤ mode ∧ mode ≤ 4
      · obtain ⟨x, hx⟩ := opd_ex hF a a0 a1
        obtain ⟨y, hy⟩ := opd_ex hF b b0 b1
        obtain ⟨v1, v2, v3, v4, v5, v6⟩ := opd_vo hF hx
        obtain ⟨u1, u2, u3, u4, u5, u6⟩ := opd_vo hF hy
        obtain ⟨r1, r2⟩ := hR mode x y v1 u1 v6 u6 v4 v5 u4 u5
        obtain ⟨Z, fl, hp⟩ := pack_is p (1 - mx) mx one inf sg nan mode _ r1 r2
        exact ⟨Z, fl, .inl ⟨p, mx, one, inf, sg, nan, x, y, hF, hm, hx, hy, hp⟩⟩
      · exact ⟨_, _, .inr (.inl ⟨p, mx, one, inf, sg, nan, hF, by omega, rfl, rfl⟩)⟩
    · exact ⟨_, _, .inr (.inr ⟨hf, rfl, rfl⟩)⟩
  obtain ⟨Z, fl, h⟩ := hex
  refine ⟨Z, fl, h, fun w => (hs w).mono ?_, fun w hw => (hi w hw).mono ?_⟩
  · rintro e w' ⟨Z', fl', h', rfl, hg⟩
    obtain ⟨rfl, rfl⟩ := OpR.one h h'
    exact ⟨rfl, hg⟩
  · rintro e w' ⟨Z', fl', h', rfl, hg⟩
    obtain ⟨rfl, rfl⟩ := OpR.one h h'
    exact ⟨rfl, hg⟩


theorem unp_det {f p mx one inf sg nan : Int} (h : IsFmt f p mx one inf sg nan) (a : Int) (a0 : 0 ≤ a) (a1 : a < 2 * sg) {x : Opd} (hx : OpdIs p mx one inf sg nan a x) : Hid (∀ w, Calls Tryd.prog 27 #[.int .i64 f, .int .u64 a] w fun e w' => e = .returned (.agg #[.int .i64 x.c, .int .i64 x.s, .int .i64 x.e, .int .u64 (((x.M : Nat) : Int))]) ∧ Gr w w') := fun w => by
  rcases hx with ⟨_, hu⟩ | ⟨c, _⟩
  · refine (specUnpack_fit h a a0 a1 w).mono ?_
    rintro e w' ⟨c, s, x', g, hu', rfl, hg⟩
    obtain ⟨rfl, rfl, rfl, rfl⟩ := UnpackIs.one h hu hu'
    exact ⟨rfl, hg⟩
  · exfalso; omega

theorem opd_wide {f p mx one inf sg nan a : Int} (h : IsFmt f p mx one inf sg nan) {x : Opd} (hx : OpdIs p mx one inf sg nan a x) (hw : 2 * sg ≤ a) : x = ⟨4, 0, 0, 0⟩ := by
  rcases hx with ⟨c, _⟩ | ⟨_, rfl⟩
  · exfalso; omega
  · rfl
theorem nofit_of {f p mx one inf sg nan a b mode : Int} (h : IsFmt f p mx one inf sg nan) (a1 : a < 18446744073709551616) (b1 : b < 18446744073709551616) (hn : 2 * sg ≤ a ∨ 2 * sg ≤ b) : NoFit f mode a b := by
  unfold NoFit
  rcases h with ⟨rfl, rfl, rfl, rfl, rfl, rfl, rfl⟩ | ⟨rfl, rfl, rfl, rfl, rfl, rfl, rfl⟩
  · rcases hn with h | h
    · exact .inr (.inr (.inl ⟨rfl, by omega⟩))
    · exact .inr (.inr (.inr ⟨rfl, by omega⟩))
  · exfalso; omega
theorem bad_nan {p mn mx one inf sg nan mode : Int} {o : Opd} (ho : o.c = 4) : PackIs p mn mx one inf sg nan mode o nan 1 := .inr (.inr (.inr (.inr ⟨ho, rfl, rfl⟩)))
theorem nan_pack {p mn mx one inf sg nan mode : Int} (m : Int) (t : Bool) (h : t = decide (m = 4)) (h3 : 3 ≤ m) (h4 : m ≤ 4) : PackIs p mn mx one inf sg nan mode ⟨m, 0, 0, 0⟩ nan (if t then 1 else 0) := by
  by_cases c : m = 4
  · rw [h, decide_eq_true c]; exact .inr (.inr (.inr (.inr ⟨c, rfl, rfl⟩)))
  · rw [h, decide_eq_false c]; exact .inr (.inr (.inr (.inl ⟨by dsimp only; omega, rfl, rfl⟩)))

theorem bq (c k : Int) : (c == k) = decide (c = k) := by by_cases h : c = k <;> simp [h]
end Go.Proofs.YtkflpogmhailhaaDoor
