/- The order of operands and of words: both sides. -/
import Derived.Test.YtpcblkmfnbjphaaDoorL5Math
import Derived.Test.YtpcblkmfnbjphaaDoorL5OC
import Derived.Test.YtpcblkmfnbjphaaDoorL5PO
import Derived.Test.YtpcblkmfnbjphaaDoorL3YA
set_option linter.unusedVariables false
set_option linter.unusedSimpArgs false
namespace Go.Proofs.YtpcblkmfnbjphaaDoor
open Go.RowKit

theorem order_any (x y : Opd) (hx : VO x) (hy : VO y) (mx : x.M < 18446744073709551616) (my : y.M < 18446744073709551616) (w : World) :
    Calls Tryd.prog 36 #[.agg #[.int .i64 x.s, .int .i64 x.e, .int .i64 x.c, .int .u64 (((x.M / 18446744073709551616 : Nat) : Int)), .int .u64 (((x.M % 18446744073709551616 : Nat) : Int)), .bool false, .int .i64 0], .agg #[.int .i64 y.s, .int .i64 y.e, .int .i64 y.c, .int .u64 (((y.M / 18446744073709551616 : Nat) : Int)), .int .u64 (((y.M % 18446744073709551616 : Nat) : Int)), .bool false, .int .i64 0]] w fun e w' => e = .returned (.int .i64 (ordO x y)) ∧ Gr w w' := by
  obtain ⟨xc, xs, xe, xM⟩ := x
  obtain ⟨yc, ys, ye, yM⟩ := y
  have x01 := hx.s01
  have y01 := hy.s01
  dsimp only at x01 y01 mx my ⊢
  unfold ordO
  dsimp only
  by_cases c : xs = ys
  · subst c
    rw [if_neg (by simp)]
    have e3 : cmpI ((xM % 18446744073709551616 : Nat) : Int) ((yM % 18446744073709551616 : Nat) : Int) = cmpI (xM : Int) (yM : Int) := by rw [Nat.mod_eq_of_lt mx, Nat.mod_eq_of_lt my]
    have hb : or3 (cmpI xc yc) (cmpI xe ye) (cmpI (xM : Int) (yM : Int)) = -1 ∨ or3 (cmpI xc yc) (cmpI xe ye) (cmpI (xM : Int) (yM : Int)) = 0 ∨ or3 (cmpI xc yc) (cmpI xe ye) (cmpI (xM : Int) (yM : Int)) = 1 := by
      unfold or3
      have := cmpI_01 xc yc; have := cmpI_01 xe ye; have := cmpI_01 (xM : Int) (yM : Int)
      split <;> (try split) <;> omega
    refine order_sizes xs xe xc _ _ ye yc _ _ _ _ _ _ _ false false rfl rfl e3 rfl ?_ w
    unfold lexO
    dsimp only
    rcases x01 with rfl | rfl
    · exact .inr ⟨by decide, by rw [if_neg (by decide)]⟩
    · refine .inl ⟨rfl, ?_⟩
      rw [if_pos rfl]
      rcases hb with h | h | h <;> rw [h] <;> decide +kernel
  · rw [if_pos c]
    refine order_signs xs xe xc _ _ ys ye yc _ _ _ false false c ?_ w
    rcases x01 with rfl | rfl <;> rcases y01 with rfl | rfl <;> first | (exact absurd rfl c) | decide +kernel

theorem tmod_of {a v sg s : Int} (h : s = 0 ∧ a = v ∨ s = 1 ∧ a = v + sg) (v0 : 0 ≤ v) (v1 : v < sg) : a.tmod sg = v := by
  rw [Int.tmod_eq_emod_of_nonneg (by omega)]
  rcases h with ⟨_, rfl⟩ | ⟨_, rfl⟩
  · exact Int.emod_eq_of_lt v0 v1
  · rw [Int.add_emod_right]; exact Int.emod_eq_of_lt v0 v1

/-- The model's order of two words that are no NaNs. -/
def ordW (x y : Opd) : Int := if max x.c y.c = 0 then 0 else ordO x y
theorem l5Order_any {f p mx one inf sg nan a b : Int} (h : IsFmt f p mx one inf sg nan) (a0 : 0 ≤ a) (b0 : 0 ≤ b) {x y : Opd} (hx : OpdIs p mx one inf sg nan a x) (hy : OpdIs p mx one inf sg nan b y) (xc : x.c ≤ 2) (yc : y.c ≤ 2) (w : World) :
    Calls Tryd.prog 33 #[.int .i64 f, .int .u64 a, .int .u64 b] w fun e w' => e = .returned (.int .i64 (ordW x y)) ∧ w = w' := by
  obtain ⟨v, u, ⟨ha, v0, v1, va, vb⟩, ⟨hb, u0, u1, ua, ub⟩, hl⟩ := ord_word h a0 b0 hx hy xc yc
  have hbd := h.bounds
  have x0 := (opd_vo h hx).1.c0
  have y0 := (opd_vo h hy).1.c0
  refine l5Order_walk f a b v u sg _ (fun w => l2Sign_any h w) (by omega) (tmod_of ha v0 (by omega)) (tmod_of hb u0 (by omega)) ?_ w
  show ordW x y = _
  unfold ordW ordO
  rw [hl]
  by_cases c0 : v = 0 ∧ u = 0
  · rw [if_pos c0, if_pos (by omega)]
  · rw [if_neg c0, if_neg (by omega)]
    rcases ha with ⟨hs, rfl⟩ | ⟨hs, rfl⟩ <;> rcases hb with ⟨ht, rfl⟩ | ⟨ht, rfl⟩ <;> rw [hs, ht]
    · rw [if_neg (by decide), if_neg (by decide), if_neg (by rw [decide_eq_false (by omega), decide_eq_false (by omega)]; simp), decide_eq_true (show a < sg by omega)]
      unfold cmpI
      by_cases c1 : a = b
      · rw [if_pos c1, if_neg (by omega), if_neg (by omega)]
      · rw [if_neg c1]
        by_cases c2 : a < b
        · rw [if_pos c2, if_pos (by simp [c2])]
        · rw [if_neg c2, if_pos (by omega), if_neg (by simp [c2])]
    · rw [if_pos (by decide), if_pos (by rw [decide_eq_false (by omega), decide_eq_true (by omega)]; decide), if_neg (by omega)]; rfl
    · rw [if_pos (by decide), if_pos (by rw [decide_eq_true (by omega), decide_eq_false (by omega)]; decide), if_pos (by omega)]; rfl
    · rw [if_neg (by decide), if_pos rfl, if_neg (by rw [decide_eq_true (by omega), decide_eq_true (by omega)]; simp), decide_eq_false (show ¬ v + sg < sg by omega)]
      unfold cmpI
      by_cases c1 : v = u
      · rw [if_pos c1, if_neg (by omega), if_neg (by omega)]; rfl
      · rw [if_neg c1]
        by_cases c2 : v < u
        · rw [if_pos c2, if_neg (by simp [c2])]; rfl
        · rw [if_neg c2, if_pos (by omega), if_pos (by simp [c2])]

theorem nofit2 {f p mx one inf sg nan a : Int} (h : IsFmt f p mx one inf sg nan) (a1 : a < 18446744073709551616) (hn : 2 * sg ≤ a) : f = 0 ∧ 4294967296 ≤ a := by
  rcases h with ⟨rfl, rfl, rfl, rfl, rfl, rfl, rfl⟩ | ⟨rfl, rfl, rfl, rfl, rfl, rfl, rfl⟩ <;> omega

/-- A word's own operand is the word again. -/
theorem pack_own {f p mx one inf sg nan a : Int} (h : IsFmt f p mx one inf sg nan) (a0 : 0 ≤ a) {x : Opd} (hx : OpdIs p mx one inf sg nan a x) (hc : x.c ≤ 2) (mode : Int) : PackIs p (1 - mx) mx one inf sg nan mode x a 0 := by
  have hb := h.bounds
  have c0 := (opd_vo h hx).1.c0
  obtain ⟨ha, v, ⟨hs, v0, v1, d0, d2⟩, hn, hz⟩ := word_is h a0 hx hc
  have e : a = sw x.s sg v := by
    unfold sw
    rcases hs with ⟨s0, rfl⟩ | ⟨s1, rfl⟩
    · rw [if_neg (by omega)]
    · rw [if_pos s1]
  rcases (show x.c = 0 ∨ x.c = 1 ∨ x.c = 2 by omega) with c | c | c
  · exact .inl ⟨c, by rw [e, d0.1 c], rfl⟩
  · refine .inr (.inl ⟨c, v, ?_, e⟩)
    obtain ⟨_, _, _, _, hr⟩ := back_is h mode x.s v x.e (x.M : Int) (by omega) (by omega) (hn c)
    rw [Int.toNat_natCast] at hr
    exact hr
  · exact .inr (.inr (.inl ⟨c, by rw [e, d2.1 c], rfl⟩))

/-- An answer of both sides, out of what each says. -/
theorem both_by {P : Int → Int → Prop} (one : ∀ Z fl Z' fl', P Z fl → P Z' fl' → Z = Z' ∧ fl = fl') (ex : ∃ Z fl, P Z fl) {S I : Nat} {args : Array Value}
    (hs : ∀ w, Calls Tryd.prog S args w fun e w' => ∃ Z fl, P Z fl ∧ e = .returned (.agg #[.int .u64 Z, .int .i64 fl]) ∧ Gb w w')
    (hi : ∀ w, Fm w → Calls Tryd.prog I args w fun e w' => ∃ Z fl, P Z fl ∧ e = .returned (.agg #[.int .u64 Z, .int .i64 fl]) ∧ Gr w w') :
    ∃ Z fl : Int, P Z fl ∧ (∀ w, Calls Tryd.prog S args w fun e w' => e = .returned (.agg #[.int .u64 Z, .int .i64 fl]) ∧ Gb w w') ∧
      (∀ w, Fm w → Calls Tryd.prog I args w fun e w' => e = .returned (.agg #[.int .u64 Z, .int .i64 fl]) ∧ Gr w w') := by
  obtain ⟨Z, fl, h⟩ := ex
  refine ⟨Z, fl, h, fun w => (hs w).mono ?_, fun w hw => (hi w hw).mono ?_⟩
  · rintro e w' ⟨Z', fl', h', rfl, hg⟩
    obtain ⟨rfl, rfl⟩ := one _ _ _ _ h h'
    exact ⟨rfl, hg⟩
  · rintro e w' ⟨Z', fl', h', rfl, hg⟩
    obtain ⟨rfl, rfl⟩ := one _ _ _ _ h h'
    exact ⟨rfl, hg⟩

end Go.Proofs.YtpcblkmfnbjphaaDoor
