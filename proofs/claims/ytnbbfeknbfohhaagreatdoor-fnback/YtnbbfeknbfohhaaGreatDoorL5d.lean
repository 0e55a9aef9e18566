import Derived.Test.YtnbbfeknbfohhaaGreatDoorL5b
import Derived.Test.YtnbbfeknbfohhaaGreatDoorL5c
import Derived.Test.YtnbbfeknbfohhaaGreatDoorL5a
import Derived.Test.YtnbbfeknbfohhaaGreatDoorH4
set_option linter.unusedVariables false
set_option linter.unusedSimpArgs false
open Go.Value renaming int → J, agg → X, slice → V, bool → E
open Go.IntKind renaming i64 → Y, u64 → O
namespace Go.Proofs.YtnbbfeknbfohhaaGreatDoor
open Go.RowKit
def wfl (x : Opd) : Int := if x.c = 1 ∧ wholeX x = true then 16 else 0
def RIntO (p mx one inf sg nan mode : Int) (x : Opd) (ex : Bool) (Z fl : Int) : Prop :=
 3 ≤ x.c ∧ Z = nan ∧ fl = (if x.c = 4 then 1 else 0) ∨ x.c ≤ 2 ∧ PackIs p (1 - mx) mx one inf sg nan mode (wholeO mode x) Z 0 ∧ fl = (if ex then wfl x else 0)
def RIntIs (f mode a : Int) (ex : Bool) (Z fl : Int) : Prop :=
 (∃ p mx one inf sg nan x, IsFmt f p mx one inf sg nan ∧ (0 ≤ mode ∧ mode ≤ 4) ∧ OpdIs p mx one inf sg nan a x ∧ RIntO p mx one inf sg nan mode x ex Z fl) ∨
 (∃ p mx one inf sg nan, IsFmt f p mx one inf sg nan ∧ (mode < 0 ∨ 4 < mode) ∧ Z = nan ∧ fl = 1) ∨
 (¬ (f = 0 ∨ f = 1) ∧ Z = 9221120237041090560 ∧ fl = 1)
theorem RIntIs.one {f mode a : Int} {ex : Bool} {Z fl Z' fl' : Int} (h : RIntIs f mode a ex Z fl) (h' : RIntIs f mode a ex Z' fl') : Z = Z' ∧ fl = fl' := by
 rcases h with ⟨p, mx, one, inf, sg, nan, x, hF, hm, hx, hp⟩ | ⟨p, mx, one, inf, sg, nan, hF, hm, rfl, rfl⟩ | ⟨hF, rfl, rfl⟩ <;>
 rcases h' with ⟨p', mx', one', inf', sg', nan', x', hF', hm', hx', hp'⟩ | ⟨p', mx', one', inf', sg', nan', hF', hm', rfl, rfl⟩ | ⟨hF', rfl, rfl⟩
 ·obtain ⟨rfl, rfl, rfl, rfl, rfl, rfl⟩ := hF.one hF'
  obtain rfl := hx.one hF hx'
  rcases hp with ⟨c, rfl, rfl⟩ | ⟨c, hp, rfl⟩ <;> rcases hp' with ⟨c', rfl, rfl⟩ | ⟨c', hp', rfl⟩
  ·exact ⟨rfl, rfl⟩
  ·exfalso; omega
  ·exfalso; omega
  ·exact ⟨(PackIs.one hp hp').1, rfl⟩
 ·exfalso; omega
 ·exact absurd hF.yes.symm (by simp [hF'])
 ·exfalso; omega
 ·obtain ⟨rfl, rfl, rfl, rfl, rfl, rfl⟩ := hF.one hF'
  exact ⟨rfl, rfl⟩
 ·exact absurd hF.yes.symm (by simp [hF'])
 ·exact absurd hF'.yes.symm (by simp [hF])
 ·exact absurd hF'.yes.symm (by simp [hF])
 ·exact ⟨rfl, rfl⟩
theorem wfl_self {f p mx one inf sg nan a : Int} (hF : IsFmt f p mx one inf sg nan) {x : Opd} (h : ¬ (x.c = 1 ∧ x.e < 0)) : wfl x = 0 := by
 unfold wfl
 by_cases c : x.c = 1
 ·rw [wholeX_no (x := x) (by omega), if_neg (by simp)]
 ·rw [if_neg (fun h => c h.1)]
theorem whole_pack {f p mx one inf sg nan a : Int} (hF : IsFmt f p mx one inf sg nan) {x : Opd} (hx : OpdIs p mx one inf sg nan a x) (mode : Int) (c : x.c = 1) (e : x.e < 0) :
  ((wholeM mode x : Nat) : Int) ≤ one ∧ (wholeM mode x = 0 → PackIs p (1 - mx) mx one inf sg nan mode (wholeO mode x) (sw x.s sg 0) 0) ∧
  (0 < wholeM mode x → ∃ z, (∀ md, RoundIs p (1 - mx) mx one inf md x.s (wholeM mode x) 0 false z 0) ∧ PackIs p (1 - mx) mx one inf sg nan mode (wholeO mode x) (sw x.s sg z) 0) := by
 obtain ⟨P, hP, hP63, hone⟩ := hF.pow
 have hone' : one = ((2 ^ P : Nat) : Int) := by rw [cast_pow2]; exact hone
 have hM : x.M < 2 ^ (P + 1) := by
  have hb := hF.bounds
  rcases hx with ⟨_, hu⟩ | ⟨_, rfl⟩
  ·obtain ⟨h1, h2, h3, h4, h5, h6, h7, h8, h9⟩ := unpack_bounds hF hu
   rw [Nat.pow_succ]; omega
  ·cases c
 have hl := wholeM_lt (mode := mode) e hM
 have hw : wholeO mode x = if wholeM mode x = 0 then ⟨0, x.s, 0, 0⟩ else ⟨1, x.s, 0, wholeM mode x⟩ := by unfold wholeO; rw [if_pos ⟨c, e⟩]
 refine ⟨by omega, fun h0 => ?_, fun h0 => ?_⟩
 ·rw [hw, if_pos h0]; exact .inl ⟨rfl, rfl, rfl⟩
 ·obtain ⟨z, z0, z1, hz⟩ := whole_exact hF x.s (wholeM mode x) h0 (by omega)
  refine ⟨z, hz, ?_⟩
  rw [hw, if_neg (by omega)]
  exact .inr (.inl ⟨rfl, z, hz mode, rfl⟩)
theorem l5Whole_any {f p mx one inf sg nan a : Int} (hF : IsFmt f p mx one inf sg nan) {x : Opd} (hx : OpdIs p mx one inf sg nan a x) (mode : Int) (hm : 0 ≤ mode ∧ mode ≤ 4) (b k c : Nat) (w : World) (hB : BigN 2 w (V (some ⟨b, 0, none⟩) k c) x.M) :
  CT 120 #[J Y mode, X #[J Y x.s, V (some ⟨b, 0, none⟩) k c, J Y x.e, E false]] w fun e w' => ∃ b k c, BigN 70005 w' (V (some ⟨b, 0, none⟩) k c) (wholeM mode x) ∧ e = .returned (.tuple #[V (some ⟨b, 0, none⟩) k c, E (!wholeX x)]) ∧ Gb w w' := by
 obtain ⟨v1, v2, v3, v4, v5, v6⟩ := opd_vo hF hx
 refine l5Whole_walk mode x.s x.e x.M (cutLo x.M x.e 0) (wholeM mode x) ((cutHalf x.M x.e 0 false : Nat) : Int) (!wholeX x) ?_ _ w (fun w' hg => ?_) (fun v' w' hb => ?_) b k c rfl
 ·unfold wholeX
  rcases Nat.eq_zero_or_pos (cutHalf x.M x.e 0 false) with h | h
  ·rw [h]; rfl
  ·rw [decide_eq_true h]; simp; omega
 ·obtain ⟨n, hn, hb⟩ := BigN.gb hB hg
  refine (l2Cut_any hb (by omega) x.s x.e 0 false (by omega) (by omega) (by omega) (by omega)).mono ?_
  rintro r w'' ⟨v', k', rfl, hb', hk', hg'⟩
  obtain ⟨b', c', rfl, _⟩ := hb'.shape
  exact ⟨b', k', c', ⟨k', by omega, hb'⟩, rfl, hg'⟩
 ·obtain ⟨n, hn, hb⟩ := hb
  exact big_slice ((l2Choose_any hb (by omega) mode x.s (cutHalf x.M x.e 0 false) hm.1 hm.2 v1.s01 (cutHalf_le _ _ _ _)).mono (fun e w' ⟨v, k, c1, c2, c3, c4⟩ => ⟨v, k, c1, c2, by omega, c4⟩))
set_option maxHeartbeats 40000000
def tw (kind s : Int) (N : Nat) : Int × Bool := if N ≤ mostK kind s then (wordK s N, true) else (wordK s (mostK kind s), false)
theorem wrap_neg (N : Nat) (h : N < 18446744073709551616) : IntKind.u64.wrap (-(N : Int)) = wordK 1 N := by
 rw [IntKind.wrap_u64]; unfold wordK
 by_cases c : N = 0
 ·subst c; rfl
 ·rw [if_pos ⟨rfl, c⟩]; omega
theorem wordK_0 (N : Nat) : wordK 0 N = (N : Int) := by unfold wordK; rw [if_neg (by simp)]
theorem toWord_1_any (s : Int) (hs : s = 0 ∨ s = 1) (N : Nat) (hN : N < 340282366920938463463374607431768211456) (w : World) :
  QR 271 #[X #[J Y (-9223372036854775808), J Y 9223372036854775807], J Y s, X #[J O ((N / 18446744073709551616 : Nat) : Int), J O ((N % 18446744073709551616 : Nat) : Int)]] w (.tuple #[J O (tw 1 s N).1, E (tw 1 s N).2]) := by
 unfold tw
 rcases hs with rfl | rfl
 ·have hm : mostK 1 0 = 9223372036854775807 := by decide
  have he : wordK 0 (mostK 1 0) = 9223372036854775807 := by rw [hm]; decide
  rw [he, hm]
  by_cases c : N / 18446744073709551616 = 0
  ·by_cases c2 : N ≤ 9223372036854775807
   ·rw [if_pos c2]
    have hl : N % 18446744073709551616 = N := by omega
    rw [hl, c]
    exact (wordK_0 N).symm ▸ toWord_10_ok _ _ rfl (decide_eq_false (by omega)) w
   ·rw [if_neg c2]
    exact toWord_10_big _ _ (by omega) (decide_eq_true (by omega)) w
  ·rw [if_neg (by omega)]
   exact toWord_10_far _ _ (by simp; omega) w
 ·have hm : mostK 1 1 = 9223372036854775808 := by decide
  have he : wordK 1 (mostK 1 1) = 9223372036854775808 := by rw [hm]; decide
  rw [he, hm]
  by_cases c : N / 18446744073709551616 = 0
  ·by_cases c2 : N ≤ 9223372036854775808
   ·rw [if_pos c2]
    have hl : N % 18446744073709551616 = N := by omega
    rw [hl, c]
    exact toWord_11_ok _ _ _ rfl (decide_eq_false (by omega)) (wrap_neg N (by omega)) w
   ·rw [if_neg c2]
    exact toWord_11_big _ _ (by omega) (decide_eq_true (by omega)) w
  ·rw [if_neg (by omega)]
   exact toWord_11_far _ _ (by simp; omega) w
def ToIntO (mode kind : Int) (x : Opd) (Z fl : Int) : Prop :=
 3 ≤ x.c ∧ Z = wordK 0 (mostK kind 0) ∧ fl = 1 ∨
 x.c ≤ 1 ∧ wholeM mode x ≤ mostK kind x.s ∧ Z = wordK x.s (wholeM mode x) ∧ fl = wfl x ∨
 x.c ≤ 2 ∧ (x.c = 2 ∨ mostK kind x.s < wholeM mode x) ∧ Z = wordK x.s (mostK kind x.s) ∧ fl = 1
def NoTo (f mode kind a : Int) : Prop := ¬ (0 ≤ mode ∧ mode ≤ 4) ∨ ¬ (0 ≤ kind ∧ kind ≤ 3) ∨ ¬ (f = 0 ∨ f = 1) ∨ f = 0 ∧ 4294967296 ≤ a
def ToIntIs (f mode kind a Z fl : Int) : Prop :=
 (∃ p mx one inf sg nan x, IsFmt f p mx one inf sg nan ∧ a < 2 * sg ∧ (0 ≤ mode ∧ mode ≤ 4) ∧ (0 ≤ kind ∧ kind ≤ 3) ∧ OpdIs p mx one inf sg nan a x ∧ ToIntO mode kind x Z fl) ∨ NoTo f mode kind a ∧ Z = 0 ∧ fl = 1
theorem ToIntO.one {mode kind : Int} {x : Opd} (hx : 0 ≤ x.c) {Z fl Z' fl' : Int} (h : ToIntO mode kind x Z fl) (h' : ToIntO mode kind x Z' fl') : Z = Z' ∧ fl = fl' := by
 rcases h with ⟨c, rfl, rfl⟩ | ⟨c, d, rfl, rfl⟩ | ⟨c, d, rfl, rfl⟩ <;> rcases h' with ⟨c', rfl, rfl⟩ | ⟨c', d', rfl, rfl⟩ | ⟨c', d', rfl, rfl⟩ <;> first | exact ⟨rfl, rfl⟩ | (exfalso; omega)
theorem noTo_fit {f p mx one inf sg nan a : Int} (h : IsFmt f p mx one inf sg nan) (ha : a < 2 * sg) : ¬ (¬ (f = 0 ∨ f = 1) ∨ f = 0 ∧ 4294967296 ≤ a) := by
 rcases h with ⟨rfl, rfl, rfl, rfl, rfl, rfl, rfl⟩ | ⟨rfl, rfl, rfl, rfl, rfl, rfl, rfl⟩ <;> omega
theorem ToIntIs.one {f mode kind a Z fl Z' fl' : Int} (h : ToIntIs f mode kind a Z fl) (h' : ToIntIs f mode kind a Z' fl') : Z = Z' ∧ fl = fl' := by
 rcases h with ⟨p, mx, one, inf, sg, nan, x, hF, ha, hm, hk, hx, hp⟩ | ⟨hn, rfl, rfl⟩ <;>
 rcases h' with ⟨p', mx', one', inf', sg', nan', x', hF', ha', hm', hk', hx', hp'⟩ | ⟨hn', rfl, rfl⟩
 ·obtain ⟨rfl, rfl, rfl, rfl, rfl, rfl⟩ := hF.one hF'
  obtain rfl := hx.one hF hx'
  exact ToIntO.one (opd_vo hF hx).1.c0 hp hp'
 ·have := noTo_fit hF ha; unfold NoTo at hn'; exfalso; rcases hn' with h | h | h <;> first | exact h hm | exact h hk | exact this h
 ·have := noTo_fit hF' ha'; unfold NoTo at hn; exfalso; rcases hn with h | h | h <;> first | exact h hm' | exact h hk' | exact this h
 ·exact ⟨rfl, rfl⟩
theorem shl5 (M : Nat) (n : Nat) (hM : M < 340282366920938463463374607431768211456) (hn : n ≤ 128) (h : M * 2 ^ n < 340282366920938463463374607431768211456) (w : World) :
  QR 162 #[X #[J O ((M / 18446744073709551616 : Nat) : Int), J O ((M % 18446744073709551616 : Nat) : Int)], J Y n] w (X #[J O ((M * 2 ^ n / 18446744073709551616 : Nat) : Int), J O ((M * 2 ^ n % 18446744073709551616 : Nat) : Int)]) := by
 have e0 : ((M / 18446744073709551616 : Nat) : Int) * 18446744073709551616 + ((M % 18446744073709551616 : Nat) : Int) = (M : Int) := by omega
 have hk : (bnd (n : Int)).toNat = n := by unfold bnd; rw [if_neg (by omega), if_neg (by omega)]; simp
 refine (shiftLeft_any _ _ (n : Int) (by omega) (by omega) (by omega) (by omega) w).mono ?_
 rintro e w' ⟨rfl, hg⟩
 refine ⟨ret_w ?_ ?_, hg⟩
 ·unfold shlHi; rw [hk, e0, cast_mul]; omega
 ·unfold shlLo; rw [hk, e0, cast_mul]; omega
theorem combWhole_any {f p mx one inf sg nan a : Int} (hF : IsFmt f p mx one inf sg nan) (mn mode : Int) (hm : 0 ≤ mode ∧ mode ≤ 4) (k : Nat) (hk : IsRule mode k) (a0 : 0 ≤ a) {x : Opd} (hx : OpdIs p mx one inf sg nan a x) :
  ∃ (os oe oc oh ol of : Int) (ot : Bool) (N : Nat), (∀ w, QR 74 #[X #[J Y p, J Y mn, J Y mx, J Y mode, .func (.func k) #[] #[]], .func (.func 75) #[] #[], X #[J Y x.s, J Y x.e, J Y x.c, J O (((x.M / 18446744073709551616 : Nat) : Int)), J O (((x.M % 18446744073709551616 : Nat) : Int)), E false, J Y 0], X #[J Y x.s, J Y x.e, J Y x.c, J O (((x.M / 18446744073709551616 : Nat) : Int)), J O (((x.M % 18446744073709551616 : Nat) : Int)), E false, J Y 0]] w (X #[J Y os, J Y oe, J Y oc, J O oh, J O ol, E ot, J Y of])) ∧
   (∀ w, QR 76 #[X #[J Y os, J Y oe, J Y oc, J O oh, J O ol, E ot, J Y of]] w (X #[J O ((N / 18446744073709551616 : Nat) : Int), J O ((N % 18446744073709551616 : Nat) : Int)])) ∧ N < 340282366920938463463374607431768211456 ∧ (os = 0 ∨ os = 1) ∧
   (3 ≤ x.c ∧ os = 0 ∧ N = 18446744073709551616 ∨ x.c = 2 ∧ os = x.s ∧ N = 18446744073709551616 ∨ x.c ≤ 1 ∧ os = x.s ∧ of = wfl x ∧ (N = wholeM mode x ∨ 18446744073709551616 ≤ N ∧ 18446744073709551616 ≤ wholeM mode x)) := by
 obtain ⟨v1, v2, v3, v4, v5, v6⟩ := opd_vo hF hx
 have hb := hF.bounds
 have xc0 := v1.c0; have xc4 := v1.c4
 have big1 : (18446744073709551616 : Nat) / 18446744073709551616 = 1 ∧ (18446744073709551616 : Nat) % 18446744073709551616 = 0 := by decide
 by_cases cn : 3 ≤ x.c
 ·refine ⟨0, 0, x.c, 0, 0, 0, false, 18446744073709551616, fun w => combine_nan p mn mx mode k _ _ _ _ _ _ _ _ _ _ _ _ _ x.c (by omega) cn w, fun w => ?_, by decide, .inl rfl, .inl ⟨cn, rfl, rfl⟩⟩
  rw [big1.1, big1.2]
  exact size_far 0 0 x.c 0 0 0 false (decide_eq_true (by omega)) w
 ·have comb : ∀ os oe oc oh ol ot of, (∀ w, QR 75 #[X #[J Y p, J Y mn, J Y mx, J Y mode, .func (.func k) #[] #[]], X #[J Y x.s, J Y x.e, J Y x.c, J O (((x.M / 18446744073709551616 : Nat) : Int)), J O (((x.M % 18446744073709551616 : Nat) : Int)), E false, J Y 0], X #[J Y x.s, J Y x.e, J Y x.c, J O (((x.M / 18446744073709551616 : Nat) : Int)), J O (((x.M % 18446744073709551616 : Nat) : Int)), E false, J Y 0]] w (X #[J Y os, J Y oe, J Y oc, J O oh, J O ol, E ot, J Y of])) → ∀ w, QR 74 #[X #[J Y p, J Y mn, J Y mx, J Y mode, .func (.func k) #[] #[]], .func (.func 75) #[] #[], X #[J Y x.s, J Y x.e, J Y x.c, J O (((x.M / 18446744073709551616 : Nat) : Int)), J O (((x.M % 18446744073709551616 : Nat) : Int)), E false, J Y 0], X #[J Y x.s, J Y x.e, J Y x.c, J O (((x.M / 18446744073709551616 : Nat) : Int)), J O (((x.M % 18446744073709551616 : Nat) : Int)), E false, J Y 0]] w (X #[J Y os, J Y oe, J Y oc, J O oh, J O ol, E ot, J Y of]) := by
   intro os oe oc oh ol ot of h w
   refine (combine_toWhole p mn mx mode k _ _ _ _ _ _ _ _ _ _ _ _ x.c (by omega) (by omega) (fun a b c d e f g => a = os ∧ b = oe ∧ c = oc ∧ d = oh ∧ e = ol ∧ f = ot ∧ g = of) (fun w => (h w).mono (fun e w' ⟨h1, h2⟩ => ⟨_, _, _, _, _, _, _, ⟨rfl, rfl, rfl, rfl, rfl, rfl, rfl⟩, h1, h2⟩)) w).mono ?_
   rintro e w' ⟨_, _, _, _, _, _, _, ⟨rfl, rfl, rfl, rfl, rfl, rfl, rfl⟩, rfl, hg⟩
   exact ⟨rfl, hg⟩
  by_cases c2 : x.c = 2
  ·refine ⟨x.s, x.e, x.c, _, _, 0, false, 18446744073709551616, comb _ _ _ _ _ _ _ (fun w => toWhole_c p mn mx mode k _ _ _ _ _ _ _ _ _ _ _ _ (by simp [c2]) w), fun w => ?_, by decide, v1.s01, .inr (.inl ⟨c2, rfl, rfl⟩)⟩
   rw [big1.1, big1.2]
   exact size_far _ _ _ _ _ _ _ (decide_eq_true (by omega)) w
  ·by_cases hn : x.c = 1 ∧ x.e < 0
   ·obtain ⟨c, e⟩ := hn
    have hl := (whole_pack hF hx mode c e).1
    have HR : ∀ b : Bool, decide (0 < cutHalf x.M x.e 0 false) = b → KR 161 #[.func (.func k) #[] #[], J Y (0 - x.e), J Y x.s, X #[J O ((x.M / 18446744073709551616 : Nat) : Int), J O ((x.M % 18446744073709551616 : Nat) : Int)], E false] (.tuple #[J O ((wholeM mode x : Nat) : Int), E b]) := fun b hb' w => hb' ▸ roundAt_any mode k hk x.s v1.s01 x.M (by omega) x.e 0 (0 - x.e) false rfl (by omega) (by omega) (fun _ => rfl) (by
      have h1 := (chosen_le mode x.s (cutLo x.M x.e 0) (cutHalf x.M x.e 0 false)).1
      unfold wholeM at hl; omega) w
    have hn : wrap64 (-x.e) = 0 - x.e := by
     rw [show -x.e = 0 - x.e by omega]
     unfold wrap64
     omega
    have ce : decide (0 ≤ x.e) = false := by simp; omega
    have hsz : ∀ fl w, QR 76 #[X #[J Y x.s, J Y 0, J Y 1, J O 0, J O (((wholeM mode x : Nat) : Int)), E false, J Y fl]] w (X #[J O ((wholeM mode x / 18446744073709551616 : Nat) : Int), J O ((wholeM mode x % 18446744073709551616 : Nat) : Int)]) := by
     intro fl w
     have h0 := shl5 (wholeM mode x) 0 (by omega) (by omega) (by omega)
     rw [Nat.pow_zero, Nat.mul_one, show wholeM mode x / 18446744073709551616 = 0 by omega, show wholeM mode x % 18446744073709551616 = wholeM mode x by omega] at h0
     rw [show wholeM mode x / 18446744073709551616 = 0 by omega, show wholeM mode x % 18446744073709551616 = wholeM mode x by omega]
     exact size_num _ 0 1 _ _ fl 0 _ _ false (by decide) (by decide) (fun w => h0 w) w
    by_cases hh : 0 < cutHalf x.M x.e 0 false
    ·refine ⟨x.s, 0, 1, 0, _, 16, false, wholeM mode x, comb _ _ _ _ _ _ _ (fun w => toWhole_x p mn mx mode k _ _ _ _ _ _ _ _ _ _ _ _ (0 - x.e) _ c ce hn (HR true (by simp [hh])) w), hsz 16, by omega, v1.s01, .inr (.inr ⟨by omega, rfl, ?_, .inl rfl⟩)⟩
     unfold wfl wholeX; rw [if_pos ⟨c, by simp [hh]⟩]
    ·refine ⟨x.s, 0, 1, 0, _, 0, false, wholeM mode x, comb _ _ _ _ _ _ _ (fun w => toWhole_w p mn mx mode k _ _ _ _ _ _ _ _ _ _ _ _ (0 - x.e) _ c ce hn (HR false (by simp [hh])) w), hsz 0, by omega, v1.s01, .inr (.inr ⟨by omega, rfl, ?_, .inl rfl⟩)⟩
     unfold wfl wholeX; rw [if_neg (by simp [hh])]
   ·have he : 0 ≤ x.e := by
     by_cases c : x.c = 1
     ·omega
     ·obtain ⟨_, v, _, _, hz⟩ := word_is hF a0 hx (by omega)
      have := hz c; omega
    have hw := wholeM_no (mode := mode) he
    obtain ⟨n, hnn⟩ : ∃ n : Nat, min x.e 64 = (n : Int) := ⟨(min x.e 64).toNat, by omega⟩
    have hn64 : n ≤ 64 := by omega
    have hlt : x.M * 2 ^ n < 340282366920938463463374607431768211456 := by
     have h1 := pow2_mono hn64
     have h2 : x.M * 2 ^ n ≤ x.M * 2 ^ 64 := Nat.mul_le_mul_left _ h1
     have h3 : (2 : Nat) ^ 64 = 18446744073709551616 := by decide
     rw [h3] at h2
     omega
    refine ⟨x.s, x.e, x.c, _, _, 0, false, x.M * 2 ^ n, comb _ _ _ _ _ _ _ (fun w => ?_), fun w => size_num _ _ _ _ _ _ (n : Int) _ _ _ (decide_eq_false (by omega)) hnn (fun w => shl5 x.M n (by omega) (by omega) hlt w) w, hlt, v1.s01, .inr (.inr ⟨by omega, rfl, (wfl_self (a := a) hF hn).symm, ?_⟩)⟩
    ·by_cases c : x.c = 1
     ·refine (toWhole_e p mn mx mode k _ _ _ _ _ _ _ _ _ _ _ _ c (by simp; omega) w).mono ?_
      rintro r w' ⟨rfl, hg⟩
      exact ⟨by rw [c], hg⟩
     ·exact toWhole_c p mn mx mode k _ _ _ _ _ _ _ _ _ _ _ _ (by simp [c]) w
    ·rw [hw]
     by_cases c64 : x.e ≤ 64
     ·left
      rw [show x.e.toNat = n by omega]
     ·have hnE : n = 64 := by omega
      rcases Nat.eq_zero_or_pos x.M with m0 | m0
      ·left; rw [m0]; simp
      ·right
       subst hnE
       have h3 : (2 : Nat) ^ 64 = 18446744073709551616 := by decide
       have h1 := pow2_mono (show 64 ≤ x.e.toNat by omega)
       have h2 : x.M * 2 ^ 64 ≤ x.M * 2 ^ x.e.toNat := Nat.mul_le_mul_left _ h1
       rw [h3] at h2 ⊢
       omega
theorem implToInt_ok {f p mx one inf sg nan a : Int} (hF : IsFmt f p mx one inf sg nan) (mode kind : Int) (hm : 0 ≤ mode ∧ mode ≤ 4) (hkd : kind = 1) (a0 : 0 ≤ a) (a1 : a < 18446744073709551616) (ha : a < 2 * sg) {x : Opd} (hx : OpdIs p mx one inf sg nan a x) {w : World} (hw : Fm w) :
  CT 23 #[J Y f, J Y mode, J Y kind, J O a] w fun e w' => ∃ Z fl, ToIntO mode kind x Z fl ∧ e = .returned (X #[J O Z, J Y fl]) ∧ Gr w w' := by
 subst hkd
 obtain ⟨mn, fb, sp, hM, hmn, hfb⟩ := hF.m
 obtain ⟨k, hk⟩ := rule_of mode hm.1 hm.2
 obtain ⟨x', hx', HA⟩ := opd_is hF hM a a0 a1
 obtain rfl := hx.one hF hx'
 have xc0 := (opd_vo hF hx).1.c0
 obtain ⟨os, oe, oc, oh, ol, of, ot, N, HC, HZ, hN, hos, hcase⟩ := combWhole_any hF mn mode hm k hk a0 hx
 have HS : Hid (∀ w', Gr w w' → QR 70 #[J Y f, J Y mode] w' (.tuple #[X #[J Y p, J Y mn, J Y mx, J Y mode, .func (.func k) #[] #[]], E true])) := fun w'' hg' => settingOf_yes hF hM mode k (fun w => ruleOf_yes mode k hk w) (hw.gr hg')
 have HFi : KR 72 #[X #[J Y p, J Y mn, J Y mx], J O a] (E true) := fun w => by
  have := fits_any hM a a0 a1 w
  rw [decide_eq_true ha] at this
  exact this
 have hl0 := mostK_lt 1 os
 have fin : ∀ (q : Bool) (z : Int), tw 1 os N = (z, q) → ToIntO mode 1 x z (if q then of else 1) := by
  intro q z htw
  unfold tw at htw
  by_cases c : N ≤ mostK 1 os
  ·rw [if_pos c] at htw
   injection htw with h1 h2
   subst h1 h2
   rcases hcase with ⟨_, _, rfl⟩ | ⟨_, _, rfl⟩ | ⟨c1, rfl, rfl, hw | ⟨hw, _⟩⟩
   ·omega
   ·omega
   ·rw [hw] at c ⊢
    exact .inr (.inl ⟨c1, c, rfl, rfl⟩)
   ·omega
  ·rw [if_neg c] at htw
   injection htw with h1 h2
   subst h1 h2
   rcases hcase with ⟨c3, rfl, rfl⟩ | ⟨c2, rfl, rfl⟩ | ⟨c1, rfl, rfl, hw | ⟨_, hw⟩⟩
   ·exact .inl ⟨c3, rfl, rfl⟩
   ·exact .inr (.inr ⟨by omega, .inl c2, rfl, rfl⟩)
   ·exact .inr (.inr ⟨by omega, .inr (by omega), rfl, rfl⟩)
   ·exact .inr (.inr ⟨by omega, .inr (by omega), rfl, rfl⟩)
 obtain ⟨⟨z, q⟩, htw⟩ : ∃ r, tw 1 os N = r := ⟨_, rfl⟩
 have hO := fin q z htw
 have HT : KR 271 #[X #[J Y (-9223372036854775808), J Y 9223372036854775807], J Y os, X #[J O ((N / 18446744073709551616 : Nat) : Int), J O ((N % 18446744073709551616 : Nat) : Int)]] (.tuple #[J O z, E q]) := fun w => by
  have := toWord_1_any os hos N hN w
  rw [htw] at this
  exact this
 refine (to_1 p mn mx mode f 1 a _ _ _ _ _ os oe oc oh ol of _ _ z (if q then of else 1) _ ot q (by cases q <;> simp) k HS (fun w => kindOf_1 w) HFi HA HC HZ HT).mono ?_
 rintro e w' ⟨rfl, hg⟩
 exact ⟨_, _, hO, rfl, hg⟩
theorem l5Word_any (s : Int) (hs : s = 0 ∨ s = 1) (K : Nat) (hK : K ≤ 1000000) (N : Nat) (hN : N < 18446744073709551616) (b k c : Nat) (w : World) (hB : BigN K w (V (some ⟨b, 0, none⟩) k c) N) :
  QB 127 #[J Y s, V (some ⟨b, 0, none⟩) k c] w (J O (wordK s N)) := by
 refine l5Word_walk s (N : Int) _ ?_ b k c (fun w' hg => ?_)
 ·rcases hs with rfl | rfl
  ·exact .inr ⟨rfl, (wordK_0 N).symm⟩
  ·exact .inl ⟨rfl, by rw [Int.zero_sub]; exact wrap_neg N hN, wrap_neg N hN⟩
 ·obtain ⟨n, hn, hb⟩ := BigN.gb hB hg
  refine (l2Word_any hb (by omega) hN).mono ?_
  rintro e w'' ⟨rfl, hg'⟩
  exact ⟨rfl, by first | exact hg' | (subst hg'; exact Gb.refl _)⟩
theorem bits_ne (kind : Int) (h : 0 ≤ kind ∧ kind ≤ 3) : (bitsK kind == 0) = false := by
 rcases (show kind = 0 ∨ kind = 1 ∨ kind = 2 ∨ kind = 3 by omega) with rfl | rfl | rfl | rfl <;> decide
theorem specToInt_ok {f p mx one inf sg nan : Int} (hF : IsFmt f p mx one inf sg nan) (mode kind a : Int) (hm : 0 ≤ mode ∧ mode ≤ 4) (hkd : 0 ≤ kind ∧ kind ≤ 3) (a0 : 0 ≤ a) (a1 : a < 18446744073709551616) (ha : a < 2 * sg) (w : World) :
  CT 39 #[J Y f, J Y mode, J Y kind, J O a] w fun e w' => ∃ Z fl, ToIntIs f mode kind a Z fl ∧ e = .returned (X #[J O Z, J Y fl]) ∧ Gb w w' := by
 have HK : KW 126 #[J Y kind] (.tuple #[J Y (bitsK kind), E (sgnK kind)]) := fun w => l5Kind_any kind w
 have hB0 := bits_ne kind hkd
 have HY : KW 62 #[J Y mode] (E true) := fun w => l2Way_any mode true (by simp [hm]) w
 have HFi : KW 110 #[J Y f, J O a] (E true) := fun w => l2Fits_yes hF a a0 ha w
 obtain ⟨x, hx⟩ := opd_ex hF a a0 a1
 obtain ⟨v1, v2, v3, v4, v5, v6⟩ := opd_vo hF hx
 have xc0 := v1.c0; have xc4 := v1.c4
 have HU := unp_det hF a a0 ha hx
 have HQ : ∀ (b : Bool), b = decide (3 ≤ x.c) → KR 118 #[X #[J Y x.c, J Y x.s, J Y x.e, J O (((x.M : Nat) : Int))]] (E b) := fun b hb w => l3Quiet_any _ _ _ _ b hb w
 have fin : ∀ Z fl, ToIntO mode kind x Z fl → (QB 39 #[J Y f, J Y mode, J Y kind, J O a] w (X #[J O Z, J Y fl])) → CT 39 #[J Y f, J Y mode, J Y kind, J O a] w fun e w' => ∃ Z fl, ToIntIs f mode kind a Z fl ∧ e = .returned (X #[J O Z, J Y fl]) ∧ Gb w w' := fun Z fl hp h => h.mono (fun e w' ⟨h1, h2⟩ => ⟨Z, fl, .inl ⟨p, mx, one, inf, sg, nan, x, hF, ha, hm, hkd, hx, hp⟩, h1, h2⟩)
 have HM : ∀ s, s = 0 ∨ s = 1 → Hid (∀ w, CT 128 #[J Y kind, J Y s] w fun e w' => ∃ b k c, BigN 20 w' (V (some ⟨b, 0, none⟩) k c) (mostK kind s) ∧ e = .returned (V (some ⟨b, 0, none⟩) k c) ∧ Gb w w') := fun s hs w => l5Most_any kind s hs w
 have HW : ∀ s, s = 0 ∨ s = 1 → Hid (∀ b k c w, BigN 20 w (V (some ⟨b, 0, none⟩) k c) (mostK kind s) → QB 127 #[J Y s, V (some ⟨b, 0, none⟩) k c] w (J O (wordK s (mostK kind s)))) := fun s hs b k c w hB => l5Word_any s hs 20 (by omega) _ (mostK_lt kind s) b k c w hB
 by_cases cn : 3 ≤ x.c
 ·exact fin _ _ (.inl ⟨cn, rfl, rfl⟩) (sToInt_nan f mode kind a _ _ _ _ _ _ _ _ hB0 HK HY HFi HU (HQ true (by simp [cn])) (HM 0 (.inl rfl)) (HW 0 (.inl rfl)) w)
 ·have hQ := HQ false (by simp; omega)
  have hms := HM x.s v1.s01
  have hws := HW x.s v1.s01
  by_cases c2 : x.c = 2
  ·exact fin _ _ (.inr (.inr ⟨by omega, .inl c2, rfl, rfl⟩)) (sToInt_inf f mode kind a _ _ _ _ _ _ _ _ hB0 HK HY HFi HU hQ c2 hms hws w)
  ·by_cases far : 200 < x.e
   ·refine fin _ _ (.inr (.inr ⟨by omega, .inr ?_, rfl, rfl⟩)) (sToInt_far f mode kind a _ _ _ _ _ _ _ _ hB0 HK HY HFi HU hQ c2 (decide_eq_true far) hms hws w)
    have hc1 : x.c = 1 := by
     rcases (show x.c = 0 ∨ x.c = 1 by omega) with h | h
     ·obtain ⟨_, v, _, _, hz⟩ := word_is hF a0 hx (by omega)
      have := hz (by omega); omega
     ·exact h
    rw [wholeM_no (by omega)]
    have h1 := pow2_mono (show 64 ≤ x.e.toNat by omega)
    have h3 : (2 : Nat) ^ 64 = 18446744073709551616 := by decide
    have h2 : 1 * 2 ^ x.e.toNat ≤ x.M * 2 ^ x.e.toNat := Nat.mul_le_mul_right _ (v1.fin hc1).1
    have := mostK_lt kind x.s
    omega
   ·have HN : Hid (∀ w, CT 121 #[X #[J Y x.c, J Y x.s, J Y x.e, J O (((x.M : Nat) : Int))]] w fun e w' => ∃ b k cc, BigN 2 w' (V (some ⟨b, 0, none⟩) k cc) x.M ∧ e = .returned (X #[J Y x.s, V (some ⟨b, 0, none⟩) k cc, J Y x.e, E false]) ∧ Gb w w') := fun w => l3Number_any _ _ _ x.M (by omega) w
    have HWh : Hid (∀ b k c w, BigN 2 w (V (some ⟨b, 0, none⟩) k c) x.M → CT 120 #[J Y mode, X #[J Y x.s, V (some ⟨b, 0, none⟩) k c, J Y x.e, E false]] w fun e w' => ∃ b k c, BigN 70005 w' (V (some ⟨b, 0, none⟩) k c) (wholeM mode x) ∧ e = .returned (.tuple #[V (some ⟨b, 0, none⟩) k c, E (!wholeX x)]) ∧ Gb w w') := fun b k c w hB => l5Whole_any hF hx mode hm b k c w hB
    have HC : Hid (∀ v v' w, BigN 70005 w v (wholeM mode x) → BigN 20 w v' (mostK kind x.s) → QB 129 #[v, v'] w (J Y (cmpZ (wholeM mode x) (mostK kind x.s)))) := fun v v' w ⟨n, h1, h2⟩ ⟨n', h1', h2'⟩ => l2Cmp_any h2 (by omega) h2' (by omega)
    have hX : wholeX x = true → x.c = 1 := by
     intro h
     rcases (show x.c = 0 ∨ x.c = 1 by omega) with hc | hc
     ·obtain ⟨_, v, _, _, hz⟩ := word_is hF a0 hx (by omega)
      rw [wholeX_no (x := x) (by have := hz (by omega); omega)] at h
      cases h
     ·exact hc
    by_cases hle : wholeM mode x ≤ mostK kind x.s
    ·have hd : decide (cmpZ (wholeM mode x) (mostK kind x.s) ≤ 0) = true := decide_eq_true (by unfold cmpZ; split <;> (try split) <;> omega)
     have HWw : Hid (∀ b k c w, BigN 70005 w (V (some ⟨b, 0, none⟩) k c) (wholeM mode x) → QB 127 #[J Y x.s, V (some ⟨b, 0, none⟩) k c] w (J O (wordK x.s (wholeM mode x)))) := fun b k c w hB => l5Word_any x.s v1.s01 70005 (by omega) _ (by have := mostK_lt kind x.s; omega) b k c w hB
     cases hxx : wholeX x
     ·refine fin _ _ (.inr (.inl ⟨by omega, hle, rfl, ?_⟩)) (sToInt_okw f mode kind a _ _ _ _ _ _ _ _ _ x.M _ _ (by rw [hxx]; rfl) hB0 HK HY HFi HU hQ c2 (decide_eq_false far) HN HWh hms HC hd HWw w)
      unfold wfl; rw [hxx, if_neg (by simp)]
     ·refine fin _ _ (.inr (.inl ⟨by omega, hle, rfl, ?_⟩)) (sToInt_okx f mode kind a _ _ _ _ _ _ _ _ _ x.M _ _ (by rw [hxx]; rfl) hB0 HK HY HFi HU hQ c2 (decide_eq_false far) HN HWh hms HC hd HWw w)
      unfold wfl; rw [hxx, if_pos ⟨hX hxx, rfl⟩]
    ·have hd : decide (cmpZ (wholeM mode x) (mostK kind x.s) ≤ 0) = false := decide_eq_false (by unfold cmpZ; rw [if_neg (by omega), if_pos (by omega)]; omega)
     exact fin _ _ (.inr (.inr ⟨by omega, .inr (by omega), rfl, rfl⟩)) (sToInt_out f mode kind a _ _ _ _ _ _ _ _ _ x.M _ _ hB0 HK HY HFi HU hQ c2 (decide_eq_false far) HN HWh hms HC hd hws w)
end Go.Proofs.YtnbbfeknbfohhaaGreatDoor
