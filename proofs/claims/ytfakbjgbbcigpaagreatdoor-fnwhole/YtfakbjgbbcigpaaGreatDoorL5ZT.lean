/- ToInt: both sides. -/
import Derived.Test.YtfakbjgbbcigpaaGreatDoorL5ZR
import Derived.Test.YtfakbjgbbcigpaaGreatDoorL5TI
import Derived.Test.YtfakbjgbbcigpaaGreatDoorL5TS
import Derived.Test.YtfakbjgbbcigpaaGreatDoorL5KW
set_option linter.unusedVariables false
set_option linter.unusedSimpArgs false
namespace Go.Proofs.YtfakbjgbbcigpaaGreatDoor
open Go.RowKit

/-- What toWord answers. -/
def tw (kind s : Int) (N : Nat) : Int × Bool := if N ≤ mostK kind s then (wordK s N, true) else (wordK s (mostK kind s), false)

theorem wrap_neg (N : Nat) (h : N < 18446744073709551616) : IntKind.u64.wrap (-(N : Int)) = wordK 1 N := by
  rw [IntKind.wrap_u64]; unfold wordK
  by_cases c : N = 0
  · subst c; rfl
  · rw [if_pos ⟨rfl, c⟩]; omega
theorem wordK_0 (N : Nat) : wordK 0 N = (N : Int) := by unfold wordK; rw [if_neg (by simp)]

theorem toWord_0_any (s : Int) (hs : s = 0 ∨ s = 1) (N : Nat) (hN : N < 340282366920938463463374607431768211456) (w : World) :
    Calls Tryz.prog 126 #[.agg #[.int .i32 (-2147483648), .int .i32 2147483647], .int .i64 s, .agg #[.int .u64 ((N / 18446744073709551616 : Nat) : Int), .int .u64 ((N % 18446744073709551616 : Nat) : Int)]] w fun e w' => e = .returned (.tuple #[.int .u64 (tw 0 s N).1, .bool (tw 0 s N).2]) ∧ Gr w w' := by
  unfold tw
  rcases hs with rfl | rfl
  · have hm : mostK 0 0 = 2147483647 := by decide
    have he : wordK 0 (mostK 0 0) = 2147483647 := by rw [hm]; decide
    rw [he, hm]
    by_cases c : N / 18446744073709551616 = 0
    · by_cases c2 : N ≤ 2147483647
      · rw [if_pos c2]
        have hl : N % 18446744073709551616 = N := by omega
        rw [hl, c]
        exact (wordK_0 N).symm ▸ toWord_00_ok _ _ rfl (decide_eq_false (by omega)) w
      · rw [if_neg c2]
        exact toWord_00_big _ _ (by omega) (decide_eq_true (by omega)) w
    · rw [if_neg (by omega)]
      exact toWord_00_far _ _ (by simp; omega) w
  · have hm : mostK 0 1 = 2147483648 := by decide
    have he : wordK 1 (mostK 0 1) = 18446744071562067968 := by rw [hm]; decide
    rw [he, hm]
    by_cases c : N / 18446744073709551616 = 0
    · by_cases c2 : N ≤ 2147483648
      · rw [if_pos c2]
        have hl : N % 18446744073709551616 = N := by omega
        rw [hl, c]
        exact toWord_01_ok _ _ _ rfl (decide_eq_false (by omega)) (wrap_neg N (by omega)) w
      · rw [if_neg c2]
        exact toWord_01_big _ _ (by omega) (decide_eq_true (by omega)) w
    · rw [if_neg (by omega)]
      exact toWord_01_far _ _ (by simp; omega) w
theorem toWord_1_any (s : Int) (hs : s = 0 ∨ s = 1) (N : Nat) (hN : N < 340282366920938463463374607431768211456) (w : World) :
    Calls Tryz.prog 129 #[.agg #[.int .i64 (-9223372036854775808), .int .i64 9223372036854775807], .int .i64 s, .agg #[.int .u64 ((N / 18446744073709551616 : Nat) : Int), .int .u64 ((N % 18446744073709551616 : Nat) : Int)]] w fun e w' => e = .returned (.tuple #[.int .u64 (tw 1 s N).1, .bool (tw 1 s N).2]) ∧ Gr w w' := by
  unfold tw
  rcases hs with rfl | rfl
  · have hm : mostK 1 0 = 9223372036854775807 := by decide
    have he : wordK 0 (mostK 1 0) = 9223372036854775807 := by rw [hm]; decide
    rw [he, hm]
    by_cases c : N / 18446744073709551616 = 0
    · by_cases c2 : N ≤ 9223372036854775807
      · rw [if_pos c2]
        have hl : N % 18446744073709551616 = N := by omega
        rw [hl, c]
        exact (wordK_0 N).symm ▸ toWord_10_ok _ _ rfl (decide_eq_false (by omega)) w
      · rw [if_neg c2]
        exact toWord_10_big _ _ (by omega) (decide_eq_true (by omega)) w
    · rw [if_neg (by omega)]
      exact toWord_10_far _ _ (by simp; omega) w
  · have hm : mostK 1 1 = 9223372036854775808 := by decide
    have he : wordK 1 (mostK 1 1) = 9223372036854775808 := by rw [hm]; decide
    rw [he, hm]
    by_cases c : N / 18446744073709551616 = 0
    · by_cases c2 : N ≤ 9223372036854775808
      · rw [if_pos c2]
        have hl : N % 18446744073709551616 = N := by omega
        rw [hl, c]
        exact toWord_11_ok _ _ _ rfl (decide_eq_false (by omega)) (wrap_neg N (by omega)) w
      · rw [if_neg c2]
        exact toWord_11_big _ _ (by omega) (decide_eq_true (by omega)) w
    · rw [if_neg (by omega)]
      exact toWord_11_far _ _ (by simp; omega) w
theorem toWord_2_any (s : Int) (hs : s = 0 ∨ s = 1) (N : Nat) (hN : N < 340282366920938463463374607431768211456) (w : World) :
    Calls Tryz.prog 131 #[.agg #[.int .u32 0, .int .u32 4294967295], .int .i64 s, .agg #[.int .u64 ((N / 18446744073709551616 : Nat) : Int), .int .u64 ((N % 18446744073709551616 : Nat) : Int)]] w fun e w' => e = .returned (.tuple #[.int .u64 (tw 2 s N).1, .bool (tw 2 s N).2]) ∧ Gr w w' := by
  unfold tw
  rcases hs with rfl | rfl
  · have hm : mostK 2 0 = 4294967295 := by decide
    have he : wordK 0 (mostK 2 0) = 4294967295 := by rw [hm]; decide
    rw [he, hm]
    by_cases c : N / 18446744073709551616 = 0
    · by_cases c2 : N ≤ 4294967295
      · rw [if_pos c2]
        have hl : N % 18446744073709551616 = N := by omega
        rw [hl, c]
        exact (wordK_0 N).symm ▸ toWord_20_ok _ _ rfl (decide_eq_false (by omega)) w
      · rw [if_neg c2]
        exact toWord_20_big _ _ (by omega) (decide_eq_true (by omega)) w
    · rw [if_neg (by omega)]
      exact toWord_20_far _ _ (by simp; omega) w
  · have hm : mostK 2 1 = 0 := by decide
    have he : wordK 1 (mostK 2 1) = 0 := by rw [hm]; decide
    rw [he, hm]
    by_cases c : N / 18446744073709551616 = 0
    · by_cases c2 : N ≤ 0
      · rw [if_pos c2]
        have hl : N % 18446744073709551616 = N := by omega
        rw [hl, c]
        exact toWord_21_ok _ _ _ rfl (decide_eq_false (by omega)) (wrap_neg N (by omega)) w
      · rw [if_neg c2]
        exact toWord_21_big _ _ (by omega) (decide_eq_true (by omega)) w
    · rw [if_neg (by omega)]
      exact toWord_21_far _ _ (by simp; omega) w
theorem toWord_3_any (s : Int) (hs : s = 0 ∨ s = 1) (N : Nat) (hN : N < 340282366920938463463374607431768211456) (w : World) :
    Calls Tryz.prog 133 #[.agg #[.int .u64 0, .int .u64 18446744073709551615], .int .i64 s, .agg #[.int .u64 ((N / 18446744073709551616 : Nat) : Int), .int .u64 ((N % 18446744073709551616 : Nat) : Int)]] w fun e w' => e = .returned (.tuple #[.int .u64 (tw 3 s N).1, .bool (tw 3 s N).2]) ∧ Gr w w' := by
  unfold tw
  rcases hs with rfl | rfl
  · have hm : mostK 3 0 = 18446744073709551615 := by decide
    have he : wordK 0 (mostK 3 0) = 18446744073709551615 := by rw [hm]; decide
    rw [he, hm]
    by_cases c : N / 18446744073709551616 = 0
    · by_cases c2 : N ≤ 18446744073709551615
      · rw [if_pos c2]
        have hl : N % 18446744073709551616 = N := by omega
        rw [hl, c]
        exact (wordK_0 N).symm ▸ toWord_30_ok _ _ rfl (decide_eq_false (by omega)) w
      · rw [if_neg c2]
        exact toWord_30_big _ _ (by omega) (decide_eq_true (by omega)) w
    · rw [if_neg (by omega)]
      exact toWord_30_far _ _ (by simp; omega) w
  · have hm : mostK 3 1 = 0 := by decide
    have he : wordK 1 (mostK 3 1) = 0 := by rw [hm]; decide
    rw [he, hm]
    by_cases c : N / 18446744073709551616 = 0
    · by_cases c2 : N ≤ 0
      · rw [if_pos c2]
        have hl : N % 18446744073709551616 = N := by omega
        rw [hl, c]
        exact toWord_31_ok _ _ _ rfl (decide_eq_false (by omega)) (wrap_neg N (by omega)) w
      · rw [if_neg c2]
        exact toWord_31_big _ _ (by omega) (decide_eq_true (by omega)) w
    · rw [if_neg (by omega)]
      exact toWord_31_far _ _ (by simp; omega) w

def ToIntO (mode kind : Int) (x : Opd) (Z fl : Int) : Prop :=
  3 ≤ x.c ∧ Z = wordK 0 (mostK kind 0) ∧ fl = 1 ∨
  x.c ≤ 1 ∧ wholeM mode x ≤ mostK kind x.s ∧ Z = wordK x.s (wholeM mode x) ∧ fl = wfl x ∨
  x.c ≤ 2 ∧ (x.c = 2 ∨ mostK kind x.s < wholeM mode x) ∧ Z = wordK x.s (mostK kind x.s) ∧ fl = 1
def NoTo (f mode kind a : Int) : Prop := ¬ (0 ≤ mode ∧ mode ≤ 4) ∨ ¬ (0 ≤ kind ∧ kind ≤ 3) ∨ ¬ (f = 0 ∨ f = 1) ∨ f = 0 ∧ 4294967296 ≤ a
/-- What ToInt answers. -/
def ToIntIs (f mode kind a Z fl : Int) : Prop :=
  (∃ p mx one inf sg nan x, IsFmt f p mx one inf sg nan ∧ a < 2 * sg ∧ (0 ≤ mode ∧ mode ≤ 4) ∧ (0 ≤ kind ∧ kind ≤ 3) ∧ OpdIs p mx one inf sg nan a x ∧ ToIntO mode kind x Z fl) ∨ NoTo f mode kind a ∧ Z = 0 ∧ fl = 1

theorem ToIntO.one {mode kind : Int} {x : Opd} (hx : 0 ≤ x.c) {Z fl Z' fl' : Int} (h : ToIntO mode kind x Z fl) (h' : ToIntO mode kind x Z' fl') : Z = Z' ∧ fl = fl' := by
  rcases h with ⟨c, rfl, rfl⟩ | ⟨c, d, rfl, rfl⟩ | ⟨c, d, rfl, rfl⟩ <;> rcases h' with ⟨c', rfl, rfl⟩ | ⟨c', d', rfl, rfl⟩ | ⟨c', d', rfl, rfl⟩ <;> first | exact ⟨rfl, rfl⟩ | (exfalso; omega)
theorem noTo_fit {f p mx one inf sg nan a : Int} (h : IsFmt f p mx one inf sg nan) (ha : a < 2 * sg) : ¬ (¬ (f = 0 ∨ f = 1) ∨ f = 0 ∧ 4294967296 ≤ a) := by
  rcases h with ⟨rfl, rfl, rfl, rfl, rfl, rfl, rfl⟩ | ⟨rfl, rfl, rfl, rfl, rfl, rfl, rfl⟩ <;> omega
theorem ToIntIs.one {f mode kind a Z fl Z' fl' : Int} (h : ToIntIs f mode kind a Z fl) (h' : ToIntIs f mode kind a Z' fl') : Z = Z' ∧ fl = fl' := by
  rcases h with ⟨p, mx, one, inf, sg, nan, x, hF, ha, hm, hk, hx, hp⟩ | ⟨hn, rfl, rfl⟩ <;>
  rcases h' with ⟨p', mx', one', inf', sg', nan', x', hF', ha', hm', hk', hx', hp'⟩ | ⟨hn', rfl, rfl⟩
  · obtain ⟨rfl, rfl, rfl, rfl, rfl, rfl⟩ := hF.one hF'
    obtain rfl := hx.one hF hx'
    exact ToIntO.one (opd_vo hF hx).1.c0 hp hp'
  · have := noTo_fit hF ha; unfold NoTo at hn'; exfalso; rcases hn' with h | h | h <;> first | exact h hm | exact h hk | exact this h
  · have := noTo_fit hF' ha'; unfold NoTo at hn; exfalso; rcases hn with h | h | h <;> first | exact h hm' | exact h hk' | exact this h
  · exact ⟨rfl, rfl⟩

theorem toInt_ex (f mode kind a : Int) (a0 : 0 ≤ a) (a1 : a < 18446744073709551616) : ∃ Z fl, ToIntIs f mode kind a Z fl := by
  by_cases hn : NoTo f mode kind a
  · exact ⟨_, _, .inr ⟨hn, rfl, rfl⟩⟩
  · unfold NoTo at hn
    have hm : 0 ≤ mode ∧ mode ≤ 4 := by omega
    have hk : 0 ≤ kind ∧ kind ≤ 3 := by omega
    have hf : f = 0 ∨ f = 1 := by omega
    obtain ⟨p, mx, one, inf, sg, nan, hF⟩ := fmt_of f hf
    have ha : a < 2 * sg := by rcases hF with ⟨rfl, rfl, rfl, rfl, rfl, rfl, rfl⟩ | ⟨rfl, rfl, rfl, rfl, rfl, rfl, rfl⟩ <;> omega
    obtain ⟨x, hx⟩ := opd_ex hF a a0 a1
    have c0 := (opd_vo hF hx).1.c0
    have fin : ∀ Z fl, ToIntO mode kind x Z fl → ∃ Z fl, ToIntIs f mode kind a Z fl := fun Z fl h => ⟨Z, fl, .inl ⟨p, mx, one, inf, sg, nan, x, hF, ha, hm, hk, hx, h⟩⟩
    by_cases c : 3 ≤ x.c
    · exact fin _ _ (.inl ⟨c, rfl, rfl⟩)
    · by_cases d : x.c = 2 ∨ mostK kind x.s < wholeM mode x
      · exact fin _ _ (.inr (.inr ⟨by omega, d, rfl, rfl⟩))
      · exact fin _ _ (.inr (.inl ⟨by omega, by omega, rfl, rfl⟩))

/-- The size of an operand, as toWord is asked for it. -/
theorem shl5 (M : Nat) (n : Nat) (hM : M < 340282366920938463463374607431768211456) (hn : n ≤ 128) (h : M * 2 ^ n < 340282366920938463463374607431768211456) (w : World) :
    Calls Tryz.prog 79 #[.agg #[.int .u64 ((M / 18446744073709551616 : Nat) : Int), .int .u64 ((M % 18446744073709551616 : Nat) : Int)], .int .i64 n] w fun e w' => e = .returned (.agg #[.int .u64 ((M * 2 ^ n / 18446744073709551616 : Nat) : Int), .int .u64 ((M * 2 ^ n % 18446744073709551616 : Nat) : Int)]) ∧ Gr w w' := by
  have e0 : ((M / 18446744073709551616 : Nat) : Int) * 18446744073709551616 + ((M % 18446744073709551616 : Nat) : Int) = (M : Int) := by omega
  have hk : (bnd (n : Int)).toNat = n := by unfold bnd; rw [if_neg (by omega), if_neg (by omega)]; simp
  refine (shiftLeft_any _ _ (n : Int) (by omega) (by omega) (by omega) (by omega) w).mono ?_
  rintro e w' ⟨rfl, hg⟩
  refine ⟨ret_w ?_ ?_, hg⟩
  · unfold shlHi; rw [hk, e0, cast_mul]; omega
  · unfold shlLo; rw [hk, e0, cast_mul]; omega

/-- Behind combine: an operand of a word, as ToInt takes it: its sign, its flags, and the size N that toWord is asked for. -/
theorem combWhole_any {f p mx one inf sg nan a : Int} (hF : IsFmt f p mx one inf sg nan) (mn mode : Int) (hm : 0 ≤ mode ∧ mode ≤ 4) (k : Nat) (hk : IsRule mode k) (a0 : 0 ≤ a) {x : Opd} (hx : OpdIs p mx one inf sg nan a x) :
    ∃ (os oe oc oh ol of : Int) (ot : Bool) (N : Nat), (∀ w, Calls Tryz.prog 37 #[.agg #[.int .i64 p, .int .i64 mn, .int .i64 mx, .int .i64 mode, .func (.func k) #[] #[]], .func (.func 38) #[] #[], .agg #[.int .i64 x.s, .int .i64 x.e, .int .i64 x.c, .int .u64 (((x.M / 18446744073709551616 : Nat) : Int)), .int .u64 (((x.M % 18446744073709551616 : Nat) : Int)), .bool false, .int .i64 0], .agg #[.int .i64 x.s, .int .i64 x.e, .int .i64 x.c, .int .u64 (((x.M / 18446744073709551616 : Nat) : Int)), .int .u64 (((x.M % 18446744073709551616 : Nat) : Int)), .bool false, .int .i64 0]] w fun e w' => e = .returned (.agg #[.int .i64 os, .int .i64 oe, .int .i64 oc, .int .u64 oh, .int .u64 ol, .bool ot, .int .i64 of]) ∧ Gr w w') ∧
      (∀ w, Calls Tryz.prog 39 #[.agg #[.int .i64 os, .int .i64 oe, .int .i64 oc, .int .u64 oh, .int .u64 ol, .bool ot, .int .i64 of]] w fun e w' => e = .returned (.agg #[.int .u64 ((N / 18446744073709551616 : Nat) : Int), .int .u64 ((N % 18446744073709551616 : Nat) : Int)]) ∧ Gr w w') ∧ N < 340282366920938463463374607431768211456 ∧ (os = 0 ∨ os = 1) ∧
      (3 ≤ x.c ∧ os = 0 ∧ N = 18446744073709551616 ∨ x.c = 2 ∧ os = x.s ∧ N = 18446744073709551616 ∨ x.c ≤ 1 ∧ os = x.s ∧ of = wfl x ∧ (N = wholeM mode x ∨ 18446744073709551616 ≤ N ∧ 18446744073709551616 ≤ wholeM mode x)) := by
  obtain ⟨v1, v2, v3, v4, v5, v6⟩ := opd_vo hF hx
  have hb := hF.bounds
  have xc0 := v1.c0; have xc4 := v1.c4
  have big1 : (18446744073709551616 : Nat) / 18446744073709551616 = 1 ∧ (18446744073709551616 : Nat) % 18446744073709551616 = 0 := by decide
  by_cases cn : 3 ≤ x.c
  · refine ⟨0, 0, x.c, 0, 0, 0, false, 18446744073709551616, fun w => combine_nan p mn mx mode k _ _ _ _ _ _ _ _ _ _ _ _ _ x.c (by omega) cn w, fun w => ?_, by decide, .inl rfl, .inl ⟨cn, rfl, rfl⟩⟩
    rw [big1.1, big1.2]
    exact size_far 0 0 x.c 0 0 0 false (decide_eq_true (by omega)) w
  · have comb : ∀ os oe oc oh ol ot of, (∀ w, Calls Tryz.prog 38 #[.agg #[.int .i64 p, .int .i64 mn, .int .i64 mx, .int .i64 mode, .func (.func k) #[] #[]], .agg #[.int .i64 x.s, .int .i64 x.e, .int .i64 x.c, .int .u64 (((x.M / 18446744073709551616 : Nat) : Int)), .int .u64 (((x.M % 18446744073709551616 : Nat) : Int)), .bool false, .int .i64 0], .agg #[.int .i64 x.s, .int .i64 x.e, .int .i64 x.c, .int .u64 (((x.M / 18446744073709551616 : Nat) : Int)), .int .u64 (((x.M % 18446744073709551616 : Nat) : Int)), .bool false, .int .i64 0]] w fun e w' => e = .returned (.agg #[.int .i64 os, .int .i64 oe, .int .i64 oc, .int .u64 oh, .int .u64 ol, .bool ot, .int .i64 of]) ∧ Gr w w') → ∀ w, Calls Tryz.prog 37 #[.agg #[.int .i64 p, .int .i64 mn, .int .i64 mx, .int .i64 mode, .func (.func k) #[] #[]], .func (.func 38) #[] #[], .agg #[.int .i64 x.s, .int .i64 x.e, .int .i64 x.c, .int .u64 (((x.M / 18446744073709551616 : Nat) : Int)), .int .u64 (((x.M % 18446744073709551616 : Nat) : Int)), .bool false, .int .i64 0], .agg #[.int .i64 x.s, .int .i64 x.e, .int .i64 x.c, .int .u64 (((x.M / 18446744073709551616 : Nat) : Int)), .int .u64 (((x.M % 18446744073709551616 : Nat) : Int)), .bool false, .int .i64 0]] w fun e w' => e = .returned (.agg #[.int .i64 os, .int .i64 oe, .int .i64 oc, .int .u64 oh, .int .u64 ol, .bool ot, .int .i64 of]) ∧ Gr w w' := by
      intro os oe oc oh ol ot of h w
      refine (combine_toWhole p mn mx mode k _ _ _ _ _ _ _ _ _ _ _ _ x.c (by omega) (by omega) (fun a b c d e f g => a = os ∧ b = oe ∧ c = oc ∧ d = oh ∧ e = ol ∧ f = ot ∧ g = of) (fun w => (h w).mono (fun e w' ⟨h1, h2⟩ => ⟨_, _, _, _, _, _, _, ⟨rfl, rfl, rfl, rfl, rfl, rfl, rfl⟩, h1, h2⟩)) w).mono ?_
      rintro e w' ⟨_, _, _, _, _, _, _, ⟨rfl, rfl, rfl, rfl, rfl, rfl, rfl⟩, rfl, hg⟩
      exact ⟨rfl, hg⟩
    by_cases c2 : x.c = 2
    · refine ⟨x.s, x.e, x.c, _, _, 0, false, 18446744073709551616, comb _ _ _ _ _ _ _ (fun w => toWhole_c p mn mx mode k _ _ _ _ _ _ _ _ _ _ _ _ (by simp [c2]) w), fun w => ?_, by decide, v1.s01, .inr (.inl ⟨c2, rfl, rfl⟩)⟩
      rw [big1.1, big1.2]
      exact size_far _ _ _ _ _ _ _ (decide_eq_true (by omega)) w
    · by_cases hn : x.c = 1 ∧ x.e < 0
      · obtain ⟨c, e⟩ := hn
        have hl := (whole_pack hF hx mode c e).1
        have HR : ∀ b : Bool, decide (0 < cutHalf x.M x.e 0 false) = b → Hid (∀ w, Calls Tryz.prog 73 #[.func (.func k) #[] #[], .int .i64 (0 - x.e), .int .i64 x.s, .agg #[.int .u64 ((x.M / 18446744073709551616 : Nat) : Int), .int .u64 ((x.M % 18446744073709551616 : Nat) : Int)], .bool false] w fun r w' => r = .returned (.tuple #[.int .u64 ((wholeM mode x : Nat) : Int), .bool b]) ∧ Gr w w') := fun b hb' w => hb' ▸ roundAt_any mode k hk x.s v1.s01 x.M (by omega) x.e 0 (0 - x.e) false rfl (by omega) (by omega) (fun _ => rfl) (by
            have h1 := (chosen_le mode x.s (cutLo x.M x.e 0) (cutHalf x.M x.e 0 false)).1
            unfold wholeM at hl; omega) w
        have hn : wrap64 (-x.e) = 0 - x.e := by
          rw [show -x.e = 0 - x.e by omega]
          unfold wrap64
          omega
        have ce : decide (0 ≤ x.e) = false := by simp; omega
        have hsz : ∀ fl w, Calls Tryz.prog 39 #[.agg #[.int .i64 x.s, .int .i64 0, .int .i64 1, .int .u64 0, .int .u64 (((wholeM mode x : Nat) : Int)), .bool false, .int .i64 fl]] w fun e w' => e = .returned (.agg #[.int .u64 ((wholeM mode x / 18446744073709551616 : Nat) : Int), .int .u64 ((wholeM mode x % 18446744073709551616 : Nat) : Int)]) ∧ Gr w w' := by
          intro fl w
          have h0 := shl5 (wholeM mode x) 0 (by omega) (by omega) (by omega)
          rw [Nat.pow_zero, Nat.mul_one, show wholeM mode x / 18446744073709551616 = 0 by omega, show wholeM mode x % 18446744073709551616 = wholeM mode x by omega] at h0
          rw [show wholeM mode x / 18446744073709551616 = 0 by omega, show wholeM mode x % 18446744073709551616 = wholeM mode x by omega]
          exact size_num _ 0 1 _ _ fl 0 _ _ false (by decide) (by decide) (fun w => h0 w) w
        by_cases hh : 0 < cutHalf x.M x.e 0 false
        · refine ⟨x.s, 0, 1, 0, _, 16, false, wholeM mode x, comb _ _ _ _ _ _ _ (fun w => toWhole_x p mn mx mode k _ _ _ _ _ _ _ _ _ _ _ _ (0 - x.e) _ c ce hn (HR true (by simp [hh])) w), hsz 16, by omega, v1.s01, .inr (.inr ⟨by omega, rfl, ?_, .inl rfl⟩)⟩
          unfold wfl wholeX; rw [if_pos ⟨c, by simp [hh]⟩]
        · refine ⟨x.s, 0, 1, 0, _, 0, false, wholeM mode x, comb _ _ _ _ _ _ _ (fun w => toWhole_w p mn mx mode k _ _ _ _ _ _ _ _ _ _ _ _ (0 - x.e) _ c ce hn (HR false (by simp [hh])) w), hsz 0, by omega, v1.s01, .inr (.inr ⟨by omega, rfl, ?_, .inl rfl⟩)⟩
          unfold wfl wholeX; rw [if_neg (by simp [hh])]
      · have he : 0 ≤ x.e := by
          by_cases c : x.c = 1
          · omega
          · obtain ⟨_, v, _, _, hz⟩ := word_is hF a0 hx (by omega)
            have := hz c; omega
        have hw := wholeM_no (mode := mode) he
        obtain ⟨n, hnn⟩ : ∃ n : Nat, min x.e 64 = (n : Int) := ⟨(min x.e 64).toNat, by omega⟩
        have hn64 : n ≤ 64 := by omega
        have hlt : x.M * 2 ^ n < 340282366920938463463374607431768211456 := by
          have h1 := pow2_mono hn64
          have h2 : x.M * 2 ^ n ≤ x.M * 2 ^ 64 := Nat.mul_le_mul_left _ h1
          have h3 : (2 : Nat) ^ 64 = 18446744073709551616 := by decide
          rw [h3] at h2
          omega
        refine ⟨x.s, x.e, x.c, _, _, 0, false, x.M * 2 ^ n, comb _ _ _ _ _ _ _ (fun w => ?_), fun w => size_num _ _ _ _ _ _ (n : Int) _ _ _ (decide_eq_false (by omega)) hnn (fun w => shl5 x.M n (by omega) (by omega) hlt w) w, hlt, v1.s01, .inr (.inr ⟨by omega, rfl, (wfl_self (a := a) hF hn).symm, ?_⟩)⟩
        · by_cases c : x.c = 1
          · refine (toWhole_e p mn mx mode k _ _ _ _ _ _ _ _ _ _ _ _ c (by simp; omega) w).mono ?_
            rintro r w' ⟨rfl, hg⟩
            exact ⟨by rw [c], hg⟩
          · exact toWhole_c p mn mx mode k _ _ _ _ _ _ _ _ _ _ _ _ (by simp [c]) w
        · rw [hw]
          by_cases c64 : x.e ≤ 64
          · left
            rw [show x.e.toNat = n by omega]
          · have hnE : n = 64 := by omega
            rcases Nat.eq_zero_or_pos x.M with m0 | m0
            · left; rw [m0]; simp
            · right
              subst hnE
              have h3 : (2 : Nat) ^ 64 = 18446744073709551616 := by decide
              have h1 := pow2_mono (show 64 ≤ x.e.toNat by omega)
              have h2 : x.M * 2 ^ 64 ≤ x.M * 2 ^ x.e.toNat := Nat.mul_le_mul_left _ h1
              rw [h3] at h2 ⊢
              omega

theorem implToInt_ok {f p mx one inf sg nan a : Int} (hF : IsFmt f p mx one inf sg nan) (mode kind : Int) (hm : 0 ≤ mode ∧ mode ≤ 4) (hkd : 0 ≤ kind ∧ kind ≤ 3) (a0 : 0 ≤ a) (a1 : a < 18446744073709551616) (ha : a < 2 * sg) {x : Opd} (hx : OpdIs p mx one inf sg nan a x) {w : World} (hw : Fm w) :
    Calls Tryz.prog 8 #[.int .i64 f, .int .i64 mode, .int .i64 kind, .int .u64 a] w fun e w' => ∃ Z fl, ToIntO mode kind x Z fl ∧ e = .returned (.agg #[.int .u64 Z, .int .i64 fl]) ∧ Gr w w' := by
  obtain ⟨mn, fb, sp, hM, hmn, hfb⟩ := hF.m
  obtain ⟨k, hk⟩ := rule_of mode hm.1 hm.2
  obtain ⟨x', hx', HA⟩ := opd_is hF hM a a0 a1
  obtain rfl := hx.one hF hx'
  have xc0 := (opd_vo hF hx).1.c0
  obtain ⟨os, oe, oc, oh, ol, of, ot, N, HC, HZ, hN, hos, hcase⟩ := combWhole_any hF mn mode hm k hk a0 hx
  have HS : Hid (∀ w', Gr w w' → Calls Tryz.prog 31 #[.int .i64 f, .int .i64 mode] w' fun x w'' => x = .returned (.tuple #[.agg #[.int .i64 p, .int .i64 mn, .int .i64 mx, .int .i64 mode, .func (.func k) #[] #[]], .bool true]) ∧ Gr w' w'') := fun w'' hg' => settingOf_yes hF hM mode k (fun w => ruleOf_yes mode k hk w) (hw.gr hg')
  have HFi : Hid (∀ w, Calls Tryz.prog 35 #[.agg #[.int .i64 p, .int .i64 mn, .int .i64 mx], .int .u64 a] w fun e w' => e = .returned (.bool true) ∧ Gr w w') := fun w => by
    have := fits_any hM a a0 a1 w
    rw [decide_eq_true ha] at this
    exact this
  have hl0 := mostK_lt kind os
  have fin : ∀ (q : Bool) (z : Int), tw kind os N = (z, q) → ToIntO mode kind x z (if q then of else 1) := by
    intro q z htw
    unfold tw at htw
    by_cases c : N ≤ mostK kind os
    · rw [if_pos c] at htw
      injection htw with h1 h2
      subst h1 h2
      rcases hcase with ⟨_, _, rfl⟩ | ⟨_, _, rfl⟩ | ⟨c1, rfl, rfl, hw | ⟨hw, _⟩⟩
      · omega
      · omega
      · rw [hw] at c ⊢
        exact .inr (.inl ⟨c1, c, rfl, rfl⟩)
      · omega
    · rw [if_neg c] at htw
      injection htw with h1 h2
      subst h1 h2
      rcases hcase with ⟨c3, rfl, rfl⟩ | ⟨c2, rfl, rfl⟩ | ⟨c1, rfl, rfl, hw | ⟨_, hw⟩⟩
      · exact .inl ⟨c3, rfl, rfl⟩
      · exact .inr (.inr ⟨by omega, .inl c2, rfl, rfl⟩)
      · exact .inr (.inr ⟨by omega, .inr (by omega), rfl, rfl⟩)
      · exact .inr (.inr ⟨by omega, .inr (by omega), rfl, rfl⟩)
  obtain ⟨⟨z, q⟩, htw⟩ : ∃ r, tw kind os N = r := ⟨_, rfl⟩
  have hO := fin q z htw
  rcases (show kind = 0 ∨ kind = 1 ∨ kind = 2 ∨ kind = 3 by omega) with rfl | rfl | rfl | rfl
  · have HT : Hid (∀ w, Calls Tryz.prog 126 #[.agg #[.int .i32 (-2147483648), .int .i32 2147483647], .int .i64 os, .agg #[.int .u64 ((N / 18446744073709551616 : Nat) : Int), .int .u64 ((N % 18446744073709551616 : Nat) : Int)]] w fun e w' => e = .returned (.tuple #[.int .u64 z, .bool q]) ∧ Gr w w') := fun w => by
      have := toWord_0_any os hos N hN w
      rw [htw] at this
      exact this
    cases hq : q
    · refine (to_n0 p mn mx mode f 0 a _ _ _ _ _ os oe oc oh ol of _ _ z _ ot q hq k HS (fun w => kindOf_0 w) HFi HA HC HZ HT).mono ?_
      rintro e w' ⟨rfl, hg⟩
      rw [hq] at hO
      exact ⟨_, _, hO, rfl, hg⟩
    · refine (to_y0 p mn mx mode f 0 a _ _ _ _ _ os oe oc oh ol of _ _ z _ ot q hq k HS (fun w => kindOf_0 w) HFi HA HC HZ HT).mono ?_
      rintro e w' ⟨rfl, hg⟩
      rw [hq] at hO
      exact ⟨_, _, hO, rfl, hg⟩
  · have HT : Hid (∀ w, Calls Tryz.prog 129 #[.agg #[.int .i64 (-9223372036854775808), .int .i64 9223372036854775807], .int .i64 os, .agg #[.int .u64 ((N / 18446744073709551616 : Nat) : Int), .int .u64 ((N % 18446744073709551616 : Nat) : Int)]] w fun e w' => e = .returned (.tuple #[.int .u64 z, .bool q]) ∧ Gr w w') := fun w => by
      have := toWord_1_any os hos N hN w
      rw [htw] at this
      exact this
    cases hq : q
    · refine (to_n1 p mn mx mode f 1 a _ _ _ _ _ os oe oc oh ol of _ _ z _ ot q hq k HS (fun w => kindOf_1 w) HFi HA HC HZ HT).mono ?_
      rintro e w' ⟨rfl, hg⟩
      rw [hq] at hO
      exact ⟨_, _, hO, rfl, hg⟩
    · refine (to_y1 p mn mx mode f 1 a _ _ _ _ _ os oe oc oh ol of _ _ z _ ot q hq k HS (fun w => kindOf_1 w) HFi HA HC HZ HT).mono ?_
      rintro e w' ⟨rfl, hg⟩
      rw [hq] at hO
      exact ⟨_, _, hO, rfl, hg⟩
  · have HT : Hid (∀ w, Calls Tryz.prog 131 #[.agg #[.int .u32 0, .int .u32 4294967295], .int .i64 os, .agg #[.int .u64 ((N / 18446744073709551616 : Nat) : Int), .int .u64 ((N % 18446744073709551616 : Nat) : Int)]] w fun e w' => e = .returned (.tuple #[.int .u64 z, .bool q]) ∧ Gr w w') := fun w => by
      have := toWord_2_any os hos N hN w
      rw [htw] at this
      exact this
    cases hq : q
    · refine (to_n2 p mn mx mode f 2 a _ _ _ _ _ os oe oc oh ol of _ _ z _ ot q hq k HS (fun w => kindOf_2 w) HFi HA HC HZ HT).mono ?_
      rintro e w' ⟨rfl, hg⟩
      rw [hq] at hO
      exact ⟨_, _, hO, rfl, hg⟩
    · refine (to_y2 p mn mx mode f 2 a _ _ _ _ _ os oe oc oh ol of _ _ z _ ot q hq k HS (fun w => kindOf_2 w) HFi HA HC HZ HT).mono ?_
      rintro e w' ⟨rfl, hg⟩
      rw [hq] at hO
      exact ⟨_, _, hO, rfl, hg⟩
  · have HT : Hid (∀ w, Calls Tryz.prog 133 #[.agg #[.int .u64 0, .int .u64 18446744073709551615], .int .i64 os, .agg #[.int .u64 ((N / 18446744073709551616 : Nat) : Int), .int .u64 ((N % 18446744073709551616 : Nat) : Int)]] w fun e w' => e = .returned (.tuple #[.int .u64 z, .bool q]) ∧ Gr w w') := fun w => by
      have := toWord_3_any os hos N hN w
      rw [htw] at this
      exact this
    cases hq : q
    · refine (to_n3 p mn mx mode f 3 a _ _ _ _ _ os oe oc oh ol of _ _ z _ ot q hq k HS (fun w => kindOf_3 w) HFi HA HC HZ HT).mono ?_
      rintro e w' ⟨rfl, hg⟩
      rw [hq] at hO
      exact ⟨_, _, hO, rfl, hg⟩
    · refine (to_y3 p mn mx mode f 3 a _ _ _ _ _ os oe oc oh ol of _ _ z _ ot q hq k HS (fun w => kindOf_3 w) HFi HA HC HZ HT).mono ?_
      rintro e w' ⟨rfl, hg⟩
      rw [hq] at hO
      exact ⟨_, _, hO, rfl, hg⟩

theorem kindOf_some (kind : Int) : ∃ (kv : Value) (kb : Bool), (∀ w, Calls Tryz.prog 32 #[.int .i64 kind] w fun e w' => e = .returned (.tuple #[kv, .bool kb]) ∧ Gr w w') ∧ (0 ≤ kind ∧ kind ≤ 3 → kb = true) ∧ (¬ (0 ≤ kind ∧ kind ≤ 3) → kb = false ∧ kv = Value.nilIface) := by
  by_cases h : 0 ≤ kind ∧ kind ≤ 3
  · rcases (show kind = 0 ∨ kind = 1 ∨ kind = 2 ∨ kind = 3 by omega) with rfl | rfl | rfl | rfl
    · exact ⟨_, true, kindOf_0, fun _ => rfl, fun h => absurd (by omega) h⟩
    · exact ⟨_, true, kindOf_1, fun _ => rfl, fun h => absurd (by omega) h⟩
    · exact ⟨_, true, kindOf_2, fun _ => rfl, fun h => absurd (by omega) h⟩
    · exact ⟨_, true, kindOf_3, fun _ => rfl, fun h => absurd (by omega) h⟩
  · exact ⟨_, false, kindOf_no kind h, fun h' => absurd h' h, fun _ => ⟨rfl, rfl⟩⟩

theorem implToInt_any (f mode kind a : Int) (a0 : 0 ≤ a) (a1 : a < 18446744073709551616) (w : World) (hw : Fm w) :
    Calls Tryz.prog 8 #[.int .i64 f, .int .i64 mode, .int .i64 kind, .int .u64 a] w fun e w' => ∃ Z fl, ToIntIs f mode kind a Z fl ∧ e = .returned (.agg #[.int .u64 Z, .int .i64 fl]) ∧ Gr w w' := by
  obtain ⟨kv, kb, HK, hk1, hk0⟩ := kindOf_some kind
  have bad : NoTo f mode kind a → (Calls Tryz.prog 8 #[.int .i64 f, .int .i64 mode, .int .i64 kind, .int .u64 a] w fun e w' => e = .returned (.agg #[.int .u64 0, .int .i64 1]) ∧ Gr w w') → Calls Tryz.prog 8 #[.int .i64 f, .int .i64 mode, .int .i64 kind, .int .u64 a] w fun e w' => ∃ Z fl, ToIntIs f mode kind a Z fl ∧ e = .returned (.agg #[.int .u64 Z, .int .i64 fl]) ∧ Gr w w' := fun hn h => h.mono (fun e w' ⟨h1, h2⟩ => ⟨0, 1, .inr ⟨hn, rfl, rfl⟩, h1, h2⟩)
  by_cases hf : f = 0 ∨ f = 1
  · obtain ⟨p, mx, one, inf, sg, nan, hF⟩ := fmt_of f hf
    obtain ⟨mn, fb, sp, hM, hmn, hfb⟩ := hF.m
    by_cases hm : 0 ≤ mode ∧ mode ≤ 4
    · obtain ⟨k, hk⟩ := rule_of mode hm.1 hm.2
      have HS : Hid (∀ w', Gr w w' → Calls Tryz.prog 31 #[.int .i64 f, .int .i64 mode] w' fun x w'' => x = .returned (.tuple #[.agg #[.int .i64 p, .int .i64 mn, .int .i64 mx, .int .i64 mode, .func (.func k) #[] #[]], .bool true]) ∧ Gr w' w'') := fun w'' hg' => settingOf_yes hF hM mode k (fun w => ruleOf_yes mode k hk w) (hw.gr hg')
      by_cases hkd : 0 ≤ kind ∧ kind ≤ 3
      · obtain rfl := hk1 hkd
        by_cases ha : a < 2 * sg
        · obtain ⟨x, hx⟩ := opd_ex hF a a0 a1
          refine (implToInt_ok hF mode kind hm hkd a0 a1 ha hx hw).mono ?_
          rintro e w' ⟨Z, fl, h, rfl, hg⟩
          exact ⟨_, _, .inl ⟨p, mx, one, inf, sg, nan, x, hF, ha, hm, hkd, hx, h⟩, rfl, hg⟩
        · refine bad (.inr (.inr (.inr ?_))) (to_no3 p mn mx mode f mode kind a k kv HS HK (fun w => ?_))
          · rcases hF with ⟨rfl, rfl, rfl, rfl, rfl, rfl, rfl⟩ | ⟨rfl, rfl, rfl, rfl, rfl, rfl, rfl⟩ <;> omega
          · have := fits_any hM a a0 a1 w
            rw [decide_eq_false ha] at this
            exact this
      · obtain ⟨rfl, rfl⟩ := hk0 hkd
        exact bad (.inr (.inl hkd)) (to_no2 p mn mx mode f mode kind a k HS HK)
    · exact bad (.inl hm) (to_no1 p mn mx mode f mode kind a kv kb (fun w'' hg' => settingOf_bad hF hM mode (fun w => ruleOf_no mode (by omega) w) (hw.gr hg')) HK)
  · exact bad (.inr (.inr (.inl hf))) (to_no1 _ _ _ _ f mode kind a kv kb (fun w'' hg' => settingOf_none f mode hf (hw.gr hg')) HK)

theorem l5Word_any (s : Int) (hs : s = 0 ∨ s = 1) (K : Nat) (hK : K ≤ 1000000) (N : Nat) (hN : N < 18446744073709551616) (b k c : Nat) (w : World) (hB : BigN K w (.slice (some ⟨b, 0, none⟩) k c) N) :
    Calls Tryz.prog 22 #[.int .i64 s, .slice (some ⟨b, 0, none⟩) k c] w fun e w' => e = .returned (.int .u64 (wordK s N)) ∧ Gb w w' := by
  refine l5Word_walk s (N : Int) _ ?_ b k c (fun w' hg => ?_)
  · rcases hs with rfl | rfl
    · exact .inr ⟨rfl, (wordK_0 N).symm⟩
    · exact .inl ⟨rfl, by rw [Int.zero_sub]; exact wrap_neg N hN, wrap_neg N hN⟩
  · obtain ⟨n, hn, hb⟩ := BigN.gb hB hg
    refine (l2Word_any hb (by omega) hN).mono ?_
    rintro e w'' ⟨rfl, hg'⟩
    exact ⟨rfl, by first | exact hg' | (subst hg'; exact Gb.refl _)⟩

theorem bits_ne (kind : Int) (h : 0 ≤ kind ∧ kind ≤ 3) : (bitsK kind == 0) = false := by
  rcases (show kind = 0 ∨ kind = 1 ∨ kind = 2 ∨ kind = 3 by omega) with rfl | rfl | rfl | rfl <;> decide
theorem bits_no (kind : Int) (h : ¬ (0 ≤ kind ∧ kind ≤ 3)) : bitsK kind = 0 := by unfold bitsK; rw [if_neg (by omega), if_neg (by omega)]

set_option maxHeartbeats 2000000 in
theorem specToInt_any (f mode kind a : Int) (a0 : 0 ≤ a) (a1 : a < 18446744073709551616) (w : World) :
    Calls Tryz.prog 14 #[.int .i64 f, .int .i64 mode, .int .i64 kind, .int .u64 a] w fun e w' => ∃ Z fl, ToIntIs f mode kind a Z fl ∧ e = .returned (.agg #[.int .u64 Z, .int .i64 fl]) ∧ Gb w w' := by
  have bad : NoTo f mode kind a → (Calls Tryz.prog 14 #[.int .i64 f, .int .i64 mode, .int .i64 kind, .int .u64 a] w fun e w' => e = .returned (.agg #[.int .u64 0, .int .i64 1]) ∧ Gb w w') → Calls Tryz.prog 14 #[.int .i64 f, .int .i64 mode, .int .i64 kind, .int .u64 a] w fun e w' => ∃ Z fl, ToIntIs f mode kind a Z fl ∧ e = .returned (.agg #[.int .u64 Z, .int .i64 fl]) ∧ Gb w w' := fun hn h => h.mono (fun e w' ⟨h1, h2⟩ => ⟨0, 1, .inr ⟨hn, rfl, rfl⟩, h1, h2⟩)
  by_cases hkd : 0 ≤ kind ∧ kind ≤ 3
  · have HK : Hid (∀ w, Calls Tryz.prog 21 #[.int .i64 kind] w fun e w' => e = .returned (.tuple #[.int .i64 (bitsK kind), .bool (sgnK kind)]) ∧ w = w') := fun w => l5Kind_any kind w
    have hB0 := bits_ne kind hkd
    by_cases hm : 0 ≤ mode ∧ mode ≤ 4
    · have HY : Hid (∀ w, Calls Tryz.prog 27 #[.int .i64 mode] w fun e w' => e = .returned (.bool true) ∧ w = w') := fun w => l2Way_any mode true (by simp [hm]) w
      by_cases hf : f = 0 ∨ f = 1
      · obtain ⟨p, mx, one, inf, sg, nan, hF⟩ := fmt_of f hf
        by_cases ha : a < 2 * sg
        · have HFi : Hid (∀ w, Calls Tryz.prog 43 #[.int .i64 f, .int .u64 a] w fun e w' => e = .returned (.bool true) ∧ w = w') := fun w => l2Fits_yes hF a a0 ha w
          obtain ⟨x, hx⟩ := opd_ex hF a a0 a1
          obtain ⟨v1, v2, v3, v4, v5, v6⟩ := opd_vo hF hx
          have xc0 := v1.c0; have xc4 := v1.c4
          have HU := unp_det hF a a0 ha hx
          have HQ : ∀ (b : Bool), b = decide (3 ≤ x.c) → Hid (∀ w, Calls Tryz.prog 45 #[.agg #[.int .i64 x.c, .int .i64 x.s, .int .i64 x.e, .int .u64 (((x.M : Nat) : Int))]] w fun e w' => e = .returned (.bool b) ∧ Gr w w') := fun b hb w => l3Quiet_any _ _ _ _ b hb w
          have fin : ∀ Z fl, ToIntO mode kind x Z fl → (Calls Tryz.prog 14 #[.int .i64 f, .int .i64 mode, .int .i64 kind, .int .u64 a] w fun e w' => e = .returned (.agg #[.int .u64 Z, .int .i64 fl]) ∧ Gb w w') → Calls Tryz.prog 14 #[.int .i64 f, .int .i64 mode, .int .i64 kind, .int .u64 a] w fun e w' => ∃ Z fl, ToIntIs f mode kind a Z fl ∧ e = .returned (.agg #[.int .u64 Z, .int .i64 fl]) ∧ Gb w w' := fun Z fl hp h => h.mono (fun e w' ⟨h1, h2⟩ => ⟨Z, fl, .inl ⟨p, mx, one, inf, sg, nan, x, hF, ha, hm, hkd, hx, hp⟩, h1, h2⟩)
          have HM : ∀ s, s = 0 ∨ s = 1 → Hid (∀ w, Calls Tryz.prog 23 #[.int .i64 kind, .int .i64 s] w fun e w' => ∃ b k c, BigN 20 w' (.slice (some ⟨b, 0, none⟩) k c) (mostK kind s) ∧ e = .returned (.slice (some ⟨b, 0, none⟩) k c) ∧ Gb w w') := fun s hs w => l5Most_any kind s hs w
          have HW : ∀ s, s = 0 ∨ s = 1 → Hid (∀ b k c w, BigN 20 w (.slice (some ⟨b, 0, none⟩) k c) (mostK kind s) → Calls Tryz.prog 22 #[.int .i64 s, .slice (some ⟨b, 0, none⟩) k c] w fun e w' => e = .returned (.int .u64 (wordK s (mostK kind s))) ∧ Gb w w') := fun s hs b k c w hB => l5Word_any s hs 20 (by omega) _ (mostK_lt kind s) b k c w hB
          by_cases cn : 3 ≤ x.c
          · exact fin _ _ (.inl ⟨cn, rfl, rfl⟩) (sToInt_nan f mode kind a _ _ _ _ _ _ _ _ hB0 HK HY HFi HU (HQ true (by simp [cn])) (HM 0 (.inl rfl)) (HW 0 (.inl rfl)) w)
          · have hQ := HQ false (by simp; omega)
            have hms := HM x.s v1.s01
            have hws := HW x.s v1.s01
            by_cases c2 : x.c = 2
            · exact fin _ _ (.inr (.inr ⟨by omega, .inl c2, rfl, rfl⟩)) (sToInt_inf f mode kind a _ _ _ _ _ _ _ _ hB0 HK HY HFi HU hQ c2 hms hws w)
            · by_cases far : 200 < x.e
              · refine fin _ _ (.inr (.inr ⟨by omega, .inr ?_, rfl, rfl⟩)) (sToInt_far f mode kind a _ _ _ _ _ _ _ _ hB0 HK HY HFi HU hQ c2 (decide_eq_true far) hms hws w)
                have hc1 : x.c = 1 := by
                  rcases (show x.c = 0 ∨ x.c = 1 by omega) with h | h
                  · obtain ⟨_, v, _, _, hz⟩ := word_is hF a0 hx (by omega)
                    have := hz (by omega); omega
                  · exact h
                rw [wholeM_no (by omega)]
                have h1 := pow2_mono (show 64 ≤ x.e.toNat by omega)
                have h3 : (2 : Nat) ^ 64 = 18446744073709551616 := by decide
                have h2 : 1 * 2 ^ x.e.toNat ≤ x.M * 2 ^ x.e.toNat := Nat.mul_le_mul_right _ (v1.fin hc1).1
                have := mostK_lt kind x.s
                omega
              · have HN : Hid (∀ w, Calls Tryz.prog 48 #[.agg #[.int .i64 x.c, .int .i64 x.s, .int .i64 x.e, .int .u64 (((x.M : Nat) : Int))]] w fun e w' => ∃ b k cc, BigN 2 w' (.slice (some ⟨b, 0, none⟩) k cc) x.M ∧ e = .returned (.agg #[.int .i64 x.s, .slice (some ⟨b, 0, none⟩) k cc, .int .i64 x.e, .bool false]) ∧ Gb w w') := fun w => l3Number_any _ _ _ x.M (by omega) w
                have HWh : Hid (∀ b k c w, BigN 2 w (.slice (some ⟨b, 0, none⟩) k c) x.M → Calls Tryz.prog 52 #[.int .i64 mode, .agg #[.int .i64 x.s, .slice (some ⟨b, 0, none⟩) k c, .int .i64 x.e, .bool false]] w fun e w' => ∃ b k c, BigN 70005 w' (.slice (some ⟨b, 0, none⟩) k c) (wholeM mode x) ∧ e = .returned (.tuple #[.slice (some ⟨b, 0, none⟩) k c, .bool (!wholeX x)]) ∧ Gb w w') := fun b k c w hB => l5Whole_any hF hx mode hm b k c w hB
                have HC : Hid (∀ v v' w, BigN 70005 w v (wholeM mode x) → BigN 20 w v' (mostK kind x.s) → Calls Tryz.prog 53 #[v, v'] w fun e w' => e = .returned (.int .i64 (cmpZ (wholeM mode x) (mostK kind x.s))) ∧ Gb w w') := fun v v' w ⟨n, h1, h2⟩ ⟨n', h1', h2'⟩ => l2Cmp_any h2 (by omega) h2' (by omega)
                have hX : wholeX x = true → x.c = 1 := by
                  intro h
                  rcases (show x.c = 0 ∨ x.c = 1 by omega) with hc | hc
                  · obtain ⟨_, v, _, _, hz⟩ := word_is hF a0 hx (by omega)
                    rw [wholeX_no (x := x) (by have := hz (by omega); omega)] at h
                    cases h
                  · exact hc
                by_cases hle : wholeM mode x ≤ mostK kind x.s
                · have hd : decide (cmpZ (wholeM mode x) (mostK kind x.s) ≤ 0) = true := decide_eq_true (by unfold cmpZ; split <;> (try split) <;> omega)
                  have HWw : Hid (∀ b k c w, BigN 70005 w (.slice (some ⟨b, 0, none⟩) k c) (wholeM mode x) → Calls Tryz.prog 22 #[.int .i64 x.s, .slice (some ⟨b, 0, none⟩) k c] w fun e w' => e = .returned (.int .u64 (wordK x.s (wholeM mode x))) ∧ Gb w w') := fun b k c w hB => l5Word_any x.s v1.s01 70005 (by omega) _ (by have := mostK_lt kind x.s; omega) b k c w hB
                  cases hxx : wholeX x
                  · refine fin _ _ (.inr (.inl ⟨by omega, hle, rfl, ?_⟩)) (sToInt_okw f mode kind a _ _ _ _ _ _ _ _ _ x.M _ _ (by rw [hxx]; rfl) hB0 HK HY HFi HU hQ c2 (decide_eq_false far) HN HWh hms HC hd HWw w)
                    unfold wfl; rw [hxx, if_neg (by simp)]
                  · refine fin _ _ (.inr (.inl ⟨by omega, hle, rfl, ?_⟩)) (sToInt_okx f mode kind a _ _ _ _ _ _ _ _ _ x.M _ _ (by rw [hxx]; rfl) hB0 HK HY HFi HU hQ c2 (decide_eq_false far) HN HWh hms HC hd HWw w)
                    unfold wfl; rw [hxx, if_pos ⟨hX hxx, rfl⟩]
                · have hd : decide (cmpZ (wholeM mode x) (mostK kind x.s) ≤ 0) = false := decide_eq_false (by unfold cmpZ; rw [if_neg (by omega), if_pos (by omega)]; omega)
                  exact fin _ _ (.inr (.inr ⟨by omega, .inr (by omega), rfl, rfl⟩)) (sToInt_out f mode kind a _ _ _ _ _ _ _ _ _ x.M _ _ hB0 HK HY HFi HU hQ c2 (decide_eq_false far) HN HWh hms HC hd hws w)
        · have hno : f = 0 ∧ 4294967296 ≤ a := by rcases hF with ⟨rfl, rfl, rfl, rfl, rfl, rfl, rfl⟩ | ⟨rfl, rfl, rfl, rfl, rfl, rfl, rfl⟩ <;> omega
          exact bad (.inr (.inr (.inr hno))) (sToInt_bad3 f mode kind a _ _ hB0 HK HY (fun w => l2Fits_no f a a0 (.inr hno) w) w)
      · exact bad (.inr (.inr (.inl hf))) (sToInt_bad3 f mode kind a _ _ hB0 HK HY (fun w => l2Fits_no f a a0 (.inl hf) w) w)
    · exact bad (.inl hm) (sToInt_bad2 f mode kind a _ _ hB0 HK (fun w => l2Way_any mode false (by simp; omega) w) w)
  · have hb := bits_no kind hkd
    exact bad (.inr (.inl hkd)) (sToInt_bad1 f mode kind a (sgnK kind) (fun w => hb ▸ l5Kind_any kind w) w)

theorem toInt_same (f mode kind a : Int) (a0 : 0 ≤ a) (a1 : a < 18446744073709551616) :
    ∃ Z fl : Int, ToIntIs f mode kind a Z fl ∧ (∀ w, Calls Tryz.prog 14 #[.int .i64 f, .int .i64 mode, .int .i64 kind, .int .u64 a] w fun e w' => e = .returned (.agg #[.int .u64 Z, .int .i64 fl]) ∧ Gb w w') ∧
      (∀ w, Fm w → Calls Tryz.prog 8 #[.int .i64 f, .int .i64 mode, .int .i64 kind, .int .u64 a] w fun e w' => e = .returned (.agg #[.int .u64 Z, .int .i64 fl]) ∧ Gr w w') :=
  both_by (fun _ _ _ _ h h' => ToIntIs.one h h') (toInt_ex f mode kind a a0 a1) (specToInt_any f mode kind a a0 a1) (implToInt_any f mode kind a a0 a1)

end Go.Proofs.YtfakbjgbbcigpaaGreatDoor
