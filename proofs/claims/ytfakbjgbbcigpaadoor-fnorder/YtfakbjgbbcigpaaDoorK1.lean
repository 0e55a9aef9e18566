/- A word's own operand; an answer of both sides. -/
import Derived.Test.YtfakbjgbbcigpaaDoorL5Math
import Derived.Test.YtfakbjgbbcigpaaDoorL3YA
import Derived.Test.YtfakbjgbbcigpaaDoorL5OC
set_option linter.unusedVariables false
set_option linter.unusedSimpArgs false
namespace Go.Proofs.YtfakbjgbbcigpaaDoor
open Go.RowKit

/-- A word's own operand is the word again. -/
theorem pack_own {f p mx one inf sg nan a : Int} (h : IsFmt f p mx one inf sg nan) (a0 : 0 ≤ a) {x : Opd} (hx : OpdIs p mx one inf sg nan a x) (hc : x.c ≤ 2) (mode : Int) : PackIs p (1 - mx) mx one inf sg nan mode x a 0 := by
  have hb := h.bounds
  have c0 := (opd_vo h hx).1.c0
  obtain ⟨ha, v, ⟨hs, v0, v1, d0, d2⟩, hn, hz⟩ := word_is h a0 hx hc
  have e : a = sw x.s sg v := by
    unfold sw
    rcases hs with ⟨s0, rfl⟩ | ⟨s1, rfl⟩
    · rw [if_neg (by omega)]
    · rw [if_pos s1]
  rcases (show x.c = 0 ∨ x.c = 1 ∨ x.c = 2 by omega) with c | c | c
  · exact .inl ⟨c, by rw [e, d0.1 c], rfl⟩
  · refine .inr (.inl ⟨c, v, ?_, e⟩)
    obtain ⟨_, _, _, _, hr⟩ := back_is h mode x.s v x.e (x.M : Int) (by omega) (by omega) (hn c)
    rw [Int.toNat_natCast] at hr
    exact hr
  · exact .inr (.inr (.inl ⟨c, by rw [e, d2.1 c], rfl⟩))

/-- An answer of both sides, out of what each says. -/
theorem both_by {P : Int → Int → Prop} (one : ∀ Z fl Z' fl', P Z fl → P Z' fl' → Z = Z' ∧ fl = fl') (ex : ∃ Z fl, P Z fl) {S I : Nat} {args : Array Value}
    (hs : ∀ w, Calls Tryd.prog S args w fun e w' => ∃ Z fl, P Z fl ∧ e = .returned (.agg #[.int .u64 Z, .int .i64 fl]) ∧ Gb w w')
    (hi : ∀ w, Fm w → Calls Tryd.prog I args w fun e w' => ∃ Z fl, P Z fl ∧ e = .returned (.agg #[.int .u64 Z, .int .i64 fl]) ∧ Gr w w') :
    ∃ Z fl : Int, P Z fl ∧ (∀ w, Calls Tryd.prog S args w fun e w' => e = .returned (.agg #[.int .u64 Z, .int .i64 fl]) ∧ Gb w w') ∧
      (∀ w, Fm w → Calls Tryd.prog I args w fun e w' => e = .returned (.agg #[.int .u64 Z, .int .i64 fl]) ∧ Gr w w') := by
  obtain ⟨Z, fl, h⟩ := ex
  refine ⟨Z, fl, h, fun w => (hs w).mono ?_, fun w hw => (hi w hw).mono ?_⟩
  · rintro e w' ⟨Z', fl', h', rfl, hg⟩
    obtain ⟨rfl, rfl⟩ := one _ _ _ _ h h'
    exact ⟨rfl, hg⟩
  · rintro e w' ⟨Z', fl', h', rfl, hg⟩
    obtain ⟨rfl, rfl⟩ := one _ _ _ _ h h'
    exact ⟨rfl, hg⟩

end Go.Proofs.YtfakbjgbbcigpaaDoor

/- The order of operands. -/
set_option linter.unusedVariables false
set_option linter.unusedSimpArgs false
namespace Go.Proofs.YtfakbjgbbcigpaaDoor
open Go.RowKit

theorem order_any (x y : Opd) (hx : VO x) (hy : VO y) (mx : x.M < 18446744073709551616) (my : y.M < 18446744073709551616) (w : World) :
    Calls Tryd.prog 36 #[.agg #[.int .i64 x.s, .int .i64 x.e, .int .i64 x.c, .int .u64 (((x.M / 18446744073709551616 : Nat) : Int)), .int .u64 (((x.M % 18446744073709551616 : Nat) : Int)), .bool false, .int .i64 0], .agg #[.int .i64 y.s, .int .i64 y.e, .int .i64 y.c, .int .u64 (((y.M / 18446744073709551616 : Nat) : Int)), .int .u64 (((y.M % 18446744073709551616 : Nat) : Int)), .bool false, .int .i64 0]] w fun e w' => e = .returned (.int .i64 (ordO x y)) ∧ Gr w w' := by
  obtain ⟨xc, xs, xe, xM⟩ := x
  obtain ⟨yc, ys, ye, yM⟩ := y
  have x01 := hx.s01
  have y01 := hy.s01
  dsimp only at x01 y01 mx my ⊢
  unfold ordO
  dsimp only
  by_cases c : xs = ys
  · subst c
    rw [if_neg (by simp)]
    have e3 : cmpI ((xM % 18446744073709551616 : Nat) : Int) ((yM % 18446744073709551616 : Nat) : Int) = cmpI (xM : Int) (yM : Int) := by rw [Nat.mod_eq_of_lt mx, Nat.mod_eq_of_lt my]
    have hb : or3 (cmpI xc yc) (cmpI xe ye) (cmpI (xM : Int) (yM : Int)) = -1 ∨ or3 (cmpI xc yc) (cmpI xe ye) (cmpI (xM : Int) (yM : Int)) = 0 ∨ or3 (cmpI xc yc) (cmpI xe ye) (cmpI (xM : Int) (yM : Int)) = 1 := by
      unfold or3
      have := cmpI_01 xc yc; have := cmpI_01 xe ye; have := cmpI_01 (xM : Int) (yM : Int)
      split <;> (try split) <;> omega
    refine order_sizes xs xe xc _ _ ye yc _ _ _ _ _ _ _ false false rfl rfl e3 rfl ?_ w
    unfold lexO
    dsimp only
    rcases x01 with rfl | rfl
    · exact .inr ⟨by decide, by rw [if_neg (by decide)]⟩
    · refine .inl ⟨rfl, ?_⟩
      rw [if_pos rfl]
      rcases hb with h | h | h <;> rw [h] <;> decide +kernel
  · rw [if_pos c]
    refine order_signs xs xe xc _ _ ys ye yc _ _ _ false false c ?_ w
    rcases x01 with rfl | rfl <;> rcases y01 with rfl | rfl <;> first | (exact absurd rfl c) | decide +kernel

end Go.Proofs.YtfakbjgbbcigpaaDoor
