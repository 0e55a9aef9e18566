import Derived.Test.YtnbbfeknbfohhaaGreatDoorL5b
import Derived.Test.YtnbbfeknbfohhaaGreatDoorL5c
import Derived.Test.YtnbbfeknbfohhaaGreatDoorL5a
import Derived.Test.YtnbbfeknbfohhaaGreatDoorH4
import Derived.Test.YtnbbfeknbfohhaaGreatDoorG3
set_option linter.unusedVariables false
set_option linter.unusedSimpArgs false
open Go.Value renaming int → J, agg → X, slice → E, bool → U
open Go.IntKind renaming i64 → Y, u64 → O
open Go.Ending renaming returned → V
namespace Go.Proofs.YtnbbfeknbfohhaaGreatDoor
open Go.RowKit
def Wi (x : bI) : Int := if x.c = 1 ∧ mY x = true then 16 else 0
def aC5 (p mx one inf sg nan mode : Int) (x : bI) (ex : Bool) (Z fl : Int) : Prop :=
 3 ≤ x.c ∧ Z = nan ∧ fl = (if x.c = 4 then 1 else 0) ∨ x.c ≤ 2 ∧ bV p (1 - mx) mx one inf sg nan mode (yL mode x) Z 0 ∧ fl = (if ex then Wi x else 0)
def ML (f mode a : Int) (ex : Bool) (Z fl : Int) : Prop :=
 (∃ p mx one inf sg nan x, aI f p mx one inf sg nan ∧ (0 ≤ mode ∧ mode ≤ 4) ∧ bZ p mx one inf sg nan a x ∧ aC5 p mx one inf sg nan mode x ex Z fl) ∨
 (∃ p mx one inf sg nan, aI f p mx one inf sg nan ∧ (mode < 0 ∨ 4 < mode) ∧ Z = nan ∧ fl = 1) ∨
 (¬ (f = 0 ∨ f = 1) ∧ Z = 9221120237041090560 ∧ fl = 1)
theorem ML.one {f mode a : Int} {ex : Bool} {Z fl Z' qA : Int} (h : ML f mode a ex Z fl) (h' : ML f mode a ex Z' qA) : Z = Z' ∧ fl = qA := by
 rcases h with ⟨p, mx, one, inf, sg, nan, x, hF, hm, hx, hp⟩ | ⟨p, mx, one, inf, sg, nan, hF, hm, rfl, rfl⟩ | ⟨hF, rfl, rfl⟩ <;>
 rcases h' with ⟨p', mx', one', inf', TI, nan', x', hF', hm', hx', hp'⟩ | ⟨p', mx', one', inf', TI, nan', hF', hm', rfl, rfl⟩ | ⟨hF', rfl, rfl⟩
 ·obtain ⟨rfl, rfl, rfl, rfl, rfl, rfl⟩ := hF.one hF'
  obtain rfl := hx.one hF hx'
  rcases hp with ⟨c, rfl, rfl⟩ | ⟨c, hp, rfl⟩ <;> rcases hp' with ⟨c', rfl, rfl⟩ | ⟨c', hp', rfl⟩
  ·exact ⟨rfl, rfl⟩
  ·exfalso; omega
  ·exfalso; omega
  ·exact ⟨(bV.one hp hp').1, rfl⟩
 ·exfalso; omega
 ·exact absurd hF.yes.symm (by simp [hF'])
 ·exfalso; omega
 ·obtain ⟨rfl, rfl, rfl, rfl, rfl, rfl⟩ := hF.one hF'
  exact ⟨rfl, rfl⟩
 ·exact absurd hF.yes.symm (by simp [hF'])
 ·exact absurd hF'.yes.symm (by simp [hF])
 ·exact absurd hF'.yes.symm (by simp [hF])
 ·exact ⟨rfl, rfl⟩
theorem R_ {f p mx one inf sg nan a : Int} (hF : aI f p mx one inf sg nan) {x : bI} (h : ¬ (x.c = 1 ∧ x.e < 0)) : Wi x = 0 := by
 unfold Wi
 by_cases c : x.c = 1
 ·rw [BX (x := x) om, if_neg (by simp)]
 ·rw [if_neg (fun h => c h.1)]
theorem IQ {f p mx one inf sg nan a : Int} (hF : aI f p mx one inf sg nan) {x : bI} (hx : bZ p mx one inf sg nan a x) (mode : Int) (c : x.c = 1) (e : x.e < 0) :
  ((aV mode x : Nat) : Int) ≤ one ∧ (aV mode x = 0 → bV p (1 - mx) mx one inf sg nan mode (yL mode x) (sw x.s sg 0) 0) ∧
  (0 < aV mode x → ∃ z, (∀ md, aH p (1 - mx) mx one inf md x.s (aV mode x) 0 false z 0) ∧ bV p (1 - mx) mx one inf sg nan mode (yL mode x) (sw x.s sg z) 0) := by
 obtain ⟨P, hP, aA6, hone⟩ := hF.pow
 have hone' : one = ((2 ^ P : Nat) : Int) := by rw [CV]; exact hone
 have hM : x.M < 2 ^ (P + 1) := by
  have hb := hF.bounds
  rcases hx with ⟨_, hu⟩ | ⟨_, rfl⟩
  ·obtain ⟨h1, h2, h3, h4, h5, h6, h7, h8, h9⟩ := lq hF hu
   rw [Nat.pow_succ]; omega
  ·cases c
 have hl := Ou (mode := mode) e hM
 have hw : yL mode x = if aV mode x = 0 then ⟨0, x.s, 0, 0⟩ else ⟨1, x.s, 0, aV mode x⟩ := by unfold yL; rw [if_pos ⟨c, e⟩]
 refine ⟨om, fun h0 => ?_, fun h0 => ?_⟩
 ·rw [hw, if_pos h0]; exact .inl ⟨rfl, rfl, rfl⟩
 ·obtain ⟨z, z0, z1, hz⟩ := EK hF x.s (aV mode x) h0 om
  refine ⟨z, hz, ?_⟩
  rw [hw, if_neg (by omega)]
  exact .inr (.inl ⟨rfl, z, hz mode, rfl⟩)
theorem Gj {f p mx one inf sg nan a : Int} (hF : aI f p mx one inf sg nan) {x : bI} (hx : bZ p mx one inf sg nan a x) (mode : Int) (hm : 0 ≤ mode ∧ mode ≤ 4) (b k c : Nat) (w : World) (hB : aB 2 w (E (some ⟨b, 0, none⟩) k c) x.M) :
  CT 120 #[J Y mode, X #[J Y x.s, E (some ⟨b, 0, none⟩) k c, J Y x.e, U false]] w fun e w' => ∃ b k c, aB 70005 w' (E (some ⟨b, 0, none⟩) k c) (aV mode x) ∧ e = V (.tuple #[E (some ⟨b, 0, none⟩) k c, U (!mY x)]) ∧ Gb w w' := by
 obtain ⟨v1, v2, v3, v4, v5, v6⟩ := dA hF hx
 refine DU mode x.s x.e x.M (aT x.M x.e 0) (aV mode x) ((aG x.M x.e 0 false : Nat) : Int) (!mY x) ?_ _ w (fun w' hg => ?_) (fun v' w' hb => ?_) b k c rfl
 ·unfold mY
  rcases Nat.eq_zero_or_pos (aG x.M x.e 0 false) with h | h
  ·rw [h]; rfl
  ·rw [decide_eq_true h]; simp; omega
 ·obtain ⟨n, hn, hb⟩ := aB.gb hB hg
  refine (wH hb om x.s x.e 0 false om om om om).mono ?_
  rintro r w'' ⟨v', k', rfl, hb', hk', hg'⟩
  obtain ⟨b', c', rfl, _⟩ := hb'.shape
  exact ⟨b', k', c', ⟨k', om, hb'⟩, rfl, hg'⟩
 ·obtain ⟨n, hn, hb⟩ := hb
  exact b_ ((vk hb om mode x.s (aG x.M x.e 0 false) hm.1 hm.2 v1.nN (dO _ _ _ _)).mono (fun e w' ⟨v, k, c1, c2, c3, c4⟩ => ⟨v, k, c1, c2, om, c4⟩))
set_option maxHeartbeats 40000000
def tw (kind s : Int) (N : Nat) : Int × Bool := if N ≤ dX kind s then (l7 s N, true) else (l7 s (dX kind s), false)
theorem yJ (N : Nat) (h : N < 18446744073709551616) : IntKind.u64.wrap (-(N : Int)) = l7 1 N := by
 rw [IntKind.wrap_u64]; unfold l7
 by_cases c : N = 0
 ·subst c; rfl
 ·rw [if_pos ⟨rfl, c⟩]; omega
theorem MR (N : Nat) : l7 0 N = (N : Int) := by unfold l7; rw [if_neg (by simp)]
theorem Df (s : Int) (hs : s = 0 ∨ s = 1) (N : Nat) (hN : N < 340282366920938463463374607431768211456) (w : World) :
  QR 271 #[X #[J Y (-9223372036854775808), J Y 9223372036854775807], J Y s, X #[J O ((N / 18446744073709551616 : Nat) : Int), J O ((N % 18446744073709551616 : Nat) : Int)]] w (.tuple #[J O (tw 1 s N).1, U (tw 1 s N).2]) := by
 unfold tw
 rcases hs with rfl | rfl
 ·have hm : dX 1 0 = 9223372036854775807 := de
  have he : l7 0 (dX 1 0) = 9223372036854775807 := by rw [hm]; decide
  rw [he, hm]
  by_cases c : N / 18446744073709551616 = 0
  ·by_cases c2 : N ≤ 9223372036854775807
   ·rw [if_pos c2]
    have hl : N % 18446744073709551616 = N := om
    rw [hl, c]
    exact (MR N).symm ▸ Di _ _ rfl (decide_eq_false om) w
   ·rw [if_neg c2]
    exact Bj _ _ om (decide_eq_true om) w
  ·rw [if_neg (by omega)]
   exact Bg _ _ (by simp; omega) w
 ·have hm : dX 1 1 = 9223372036854775808 := de
  have he : l7 1 (dX 1 1) = 9223372036854775808 := by rw [hm]; decide
  rw [he, hm]
  by_cases c : N / 18446744073709551616 = 0
  ·by_cases c2 : N ≤ 9223372036854775808
   ·rw [if_pos c2]
    have hl : N % 18446744073709551616 = N := om
    rw [hl, c]
    exact Dh _ _ _ rfl (decide_eq_false om) (yJ N om) w
   ·rw [if_neg c2]
    exact Bf _ _ om (decide_eq_true om) w
  ·rw [if_neg (by omega)]
   exact Bd _ _ (by simp; omega) w
def qZ (mode kind : Int) (x : bI) (Z fl : Int) : Prop :=
 3 ≤ x.c ∧ Z = l7 0 (dX kind 0) ∧ fl = 1 ∨
 x.c ≤ 1 ∧ aV mode x ≤ dX kind x.s ∧ Z = l7 x.s (aV mode x) ∧ fl = Wi x ∨
 x.c ≤ 2 ∧ (x.c = 2 ∨ dX kind x.s < aV mode x) ∧ Z = l7 x.s (dX kind x.s) ∧ fl = 1
def aBI (f mode kind a : Int) : Prop := ¬ (0 ≤ mode ∧ mode ≤ 4) ∨ ¬ (0 ≤ kind ∧ kind ≤ 3) ∨ ¬ (f = 0 ∨ f = 1) ∨ f = 0 ∧ 4294967296 ≤ a
def lI (f mode kind a Z fl : Int) : Prop :=
 (∃ p mx one inf sg nan x, aI f p mx one inf sg nan ∧ a < 2 * sg ∧ (0 ≤ mode ∧ mode ≤ 4) ∧ (0 ≤ kind ∧ kind ≤ 3) ∧ bZ p mx one inf sg nan a x ∧ qZ mode kind x Z fl) ∨ aBI f mode kind a ∧ Z = 0 ∧ fl = 1
theorem qZ.one {mode kind : Int} {x : bI} (hx : 0 ≤ x.c) {Z fl Z' qA : Int} (h : qZ mode kind x Z fl) (h' : qZ mode kind x Z' qA) : Z = Z' ∧ fl = qA := by
 rcases h with ⟨c, rfl, rfl⟩ | ⟨c, d, rfl, rfl⟩ | ⟨c, d, rfl, rfl⟩ <;> rcases h' with ⟨c', rfl, rfl⟩ | ⟨c', d', rfl, rfl⟩ | ⟨c', d', rfl, rfl⟩ <;> first | exact ⟨rfl, rfl⟩ | (exfalso; omega)
theorem FX {f p mx one inf sg nan a : Int} (h : aI f p mx one inf sg nan) (ha : a < 2 * sg) : ¬ (¬ (f = 0 ∨ f = 1) ∨ f = 0 ∧ 4294967296 ≤ a) := by
 rcases h with ⟨rfl, rfl, rfl, rfl, rfl, rfl, rfl⟩ | ⟨rfl, rfl, rfl, rfl, rfl, rfl, rfl⟩ <;> omega
theorem lI.one {f mode kind a Z fl Z' qA : Int} (h : lI f mode kind a Z fl) (h' : lI f mode kind a Z' qA) : Z = Z' ∧ fl = qA := by
 rcases h with ⟨p, mx, one, inf, sg, nan, x, hF, ha, hm, hk, hx, hp⟩ | ⟨hn, rfl, rfl⟩ <;>
 rcases h' with ⟨p', mx', one', inf', TI, nan', x', hF', ha', hm', hk', hx', hp'⟩ | ⟨hn', rfl, rfl⟩
 ·obtain ⟨rfl, rfl, rfl, rfl, rfl, rfl⟩ := hF.one hF'
  obtain rfl := hx.one hF hx'
  exact qZ.one (dA hF hx).1.c0 hp hp'
 ·have := FX hF ha; unfold aBI at hn'; exfalso; rcases hn' with h | h | h <;> first | exact h hm | exact h hk | exact this h
 ·have := FX hF' ha'; unfold aBI at hn; exfalso; rcases hn with h | h | h <;> first | exact h hm' | exact h hk' | exact this h
 ·exact ⟨rfl, rfl⟩
theorem aBT (M : Nat) (n : Nat) (hM : M < 340282366920938463463374607431768211456) (hn : n ≤ 128) (h : M * 2 ^ n < 340282366920938463463374607431768211456) (w : World) :
  QR 162 #[X #[J O ((M / 18446744073709551616 : Nat) : Int), J O ((M % 18446744073709551616 : Nat) : Int)], J Y n] w (X #[J O ((M * 2 ^ n / 18446744073709551616 : Nat) : Int), J O ((M * 2 ^ n % 18446744073709551616 : Nat) : Int)]) := by
 have e0 : ((M / 18446744073709551616 : Nat) : Int) * 18446744073709551616 + ((M % 18446744073709551616 : Nat) : Int) = (M : Int) := om
 have hk : (bnd (n : Int)).toNat = n := by unfold bnd; rw [if_neg om, if_neg (by omega)]; simp
 refine (nZ _ _ (n : Int) om om om om w).mono ?_
 rintro e w' ⟨rfl, hg⟩
 refine ⟨uP ?_ ?_, hg⟩
 ·unfold kN; rw [hk, e0, cast_mul]; omega
 ·unfold kM; rw [hk, e0, cast_mul]; omega
theorem BK {f p mx one inf sg nan a : Int} (hF : aI f p mx one inf sg nan) (mn mode : Int) (hm : 0 ≤ mode ∧ mode ≤ 4) (k : Nat) (hk : pU mode k) (a0 : 0 ≤ a) {x : bI} (hx : bZ p mx one inf sg nan a x) :
  ∃ (os oe oc oh ol of : Int) (ot : Bool) (N : Nat), (∀ w, QR 74 #[X #[J Y p, J Y mn, J Y mx, J Y mode, .func (.func k) #[] #[]], .func (.func 75) #[] #[], X #[J Y x.s, J Y x.e, J Y x.c, J O (((x.M / 18446744073709551616 : Nat) : Int)), J O (((x.M % 18446744073709551616 : Nat) : Int)), U false, J Y 0], X #[J Y x.s, J Y x.e, J Y x.c, J O (((x.M / 18446744073709551616 : Nat) : Int)), J O (((x.M % 18446744073709551616 : Nat) : Int)), U false, J Y 0]] w (X #[J Y os, J Y oe, J Y oc, J O oh, J O ol, U ot, J Y of])) ∧
   (∀ w, QR 76 #[X #[J Y os, J Y oe, J Y oc, J O oh, J O ol, U ot, J Y of]] w (X #[J O ((N / 18446744073709551616 : Nat) : Int), J O ((N % 18446744073709551616 : Nat) : Int)])) ∧ N < 340282366920938463463374607431768211456 ∧ (os = 0 ∨ os = 1) ∧
   (3 ≤ x.c ∧ os = 0 ∧ N = 18446744073709551616 ∨ x.c = 2 ∧ os = x.s ∧ N = 18446744073709551616 ∨ x.c ≤ 1 ∧ os = x.s ∧ of = Wi x ∧ (N = aV mode x ∨ 18446744073709551616 ≤ N ∧ 18446744073709551616 ≤ aV mode x)) := by
 obtain ⟨v1, v2, v3, v4, v5, v6⟩ := dA hF hx
 have hb := hF.bounds
 have xc0 := v1.c0; have xc4 := v1.c4
 have Ep : (18446744073709551616 : Nat) / 18446744073709551616 = 1 ∧ (18446744073709551616 : Nat) % 18446744073709551616 = 0 := de
 by_cases cn : 3 ≤ x.c
 ·refine ⟨0, 0, x.c, 0, 0, 0, false, 18446744073709551616, fun w => jV p mn mx mode k _ _ _ _ _ _ _ _ _ _ _ _ _ x.c om cn w, fun w => ?_, de, .inl rfl, .inl ⟨cn, rfl, rfl⟩⟩
  rw [Ep.1, Ep.2]
  exact Fe 0 0 x.c 0 0 0 false (decide_eq_true om) w
 ·have comb : ∀ os oe oc oh ol ot of, (∀ w, QR 75 #[X #[J Y p, J Y mn, J Y mx, J Y mode, .func (.func k) #[] #[]], X #[J Y x.s, J Y x.e, J Y x.c, J O (((x.M / 18446744073709551616 : Nat) : Int)), J O (((x.M % 18446744073709551616 : Nat) : Int)), U false, J Y 0], X #[J Y x.s, J Y x.e, J Y x.c, J O (((x.M / 18446744073709551616 : Nat) : Int)), J O (((x.M % 18446744073709551616 : Nat) : Int)), U false, J Y 0]] w (X #[J Y os, J Y oe, J Y oc, J O oh, J O ol, U ot, J Y of])) → ∀ w, QR 74 #[X #[J Y p, J Y mn, J Y mx, J Y mode, .func (.func k) #[] #[]], .func (.func 75) #[] #[], X #[J Y x.s, J Y x.e, J Y x.c, J O (((x.M / 18446744073709551616 : Nat) : Int)), J O (((x.M % 18446744073709551616 : Nat) : Int)), U false, J Y 0], X #[J Y x.s, J Y x.e, J Y x.c, J O (((x.M / 18446744073709551616 : Nat) : Int)), J O (((x.M % 18446744073709551616 : Nat) : Int)), U false, J Y 0]] w (X #[J Y os, J Y oe, J Y oc, J O oh, J O ol, U ot, J Y of]) := by
   intro os oe oc oh ol ot of h w
   refine (x9 p mn mx mode k _ _ _ _ _ _ _ _ _ _ _ _ x.c om om (fun a b c d e f g => a = os ∧ b = oe ∧ c = oc ∧ d = oh ∧ e = ol ∧ f = ot ∧ g = of) (fun w => (h w).mono (fun e w' ⟨h1, h2⟩ => ⟨_, _, _, _, _, _, _, ⟨rfl, rfl, rfl, rfl, rfl, rfl, rfl⟩, h1, h2⟩)) w).mono ?_
   rintro e w' ⟨_, _, _, _, _, _, _, ⟨rfl, rfl, rfl, rfl, rfl, rfl, rfl⟩, rfl, hg⟩
   exact ⟨rfl, hg⟩
  by_cases c2 : x.c = 2
  ·refine ⟨x.s, x.e, x.c, _, _, 0, false, 18446744073709551616, comb _ _ _ _ _ _ _ (fun w => BZ p mn mx mode k _ _ _ _ _ _ _ _ _ _ _ _ (by simp [c2]) w), fun w => ?_, de, v1.nN, .inr (.inl ⟨c2, rfl, rfl⟩)⟩
   rw [Ep.1, Ep.2]
   exact Fe _ _ _ _ _ _ _ (decide_eq_true om) w
  ·by_cases hn : x.c = 1 ∧ x.e < 0
   ·obtain ⟨c, e⟩ := hn
    have hl := (IQ hF hx mode c e).1
    have HR : ∀ b : Bool, decide (0 < aG x.M x.e 0 false) = b → KR 161 #[.func (.func k) #[] #[], J Y (0 - x.e), J Y x.s, X #[J O ((x.M / 18446744073709551616 : Nat) : Int), J O ((x.M % 18446744073709551616 : Nat) : Int)], U false] (.tuple #[J O ((aV mode x : Nat) : Int), U b]) := fun b hb' w => hb' ▸ qH mode k hk x.s v1.nN x.M om x.e 0 (0 - x.e) false rfl om om (fun _ => rfl) (by
      have h1 := (gZ mode x.s (aT x.M x.e 0) (aG x.M x.e 0 false)).1
      unfold aV at hl; omega) w
    have hn : wrap64 (-x.e) = 0 - x.e := by
     rw [show -x.e = 0 - x.e by omega]
     unfold wrap64
     omega
    have ce : decide (0 ≤ x.e) = false := by simp; omega
    have hsz : ∀ fl w, QR 76 #[X #[J Y x.s, J Y 0, J Y 1, J O 0, J O (((aV mode x : Nat) : Int)), U false, J Y fl]] w (X #[J O ((aV mode x / 18446744073709551616 : Nat) : Int), J O ((aV mode x % 18446744073709551616 : Nat) : Int)]) := by
     intro fl w
     have h0 := aBT (aV mode x) 0 om om om
     rw [Nat.pow_zero, Nat.mul_one, show aV mode x / 18446744073709551616 = 0 by omega, show aV mode x % 18446744073709551616 = aV mode x by omega] at h0
     rw [show aV mode x / 18446744073709551616 = 0 by omega, show aV mode x % 18446744073709551616 = aV mode x by omega]
     exact Fb _ 0 1 _ _ fl 0 _ _ false de de (fun w => h0 w) w
    by_cases hh : 0 < aG x.M x.e 0 false
    ·refine ⟨x.s, 0, 1, 0, _, 16, false, aV mode x, comb _ _ _ _ _ _ _ (fun w => OB p mn mx mode k _ _ _ _ _ _ _ _ _ _ _ _ (0 - x.e) _ c ce hn (HR true (by simp [hh])) w), hsz 16, om, v1.nN, .inr (.inr ⟨om, rfl, ?_, .inl rfl⟩)⟩
     unfold Wi mY; rw [if_pos ⟨c, by simp [hh]⟩]
    ·refine ⟨x.s, 0, 1, 0, _, 0, false, aV mode x, comb _ _ _ _ _ _ _ (fun w => OC p mn mx mode k _ _ _ _ _ _ _ _ _ _ _ _ (0 - x.e) _ c ce hn (HR false (by simp [hh])) w), hsz 0, om, v1.nN, .inr (.inr ⟨om, rfl, ?_, .inl rfl⟩)⟩
     unfold Wi mY; rw [if_neg (by simp [hh])]
   ·have he : 0 ≤ x.e := by
     by_cases c : x.c = 1
     ·omega
     ·obtain ⟨_, v, _, _, hz⟩ := C9 hF a0 hx om
      have := hz c; omega
    have hw := vU (mode := mode) he
    obtain ⟨n, hnn⟩ : ∃ n : Nat, min x.e 64 = (n : Int) := ⟨(min x.e 64).toNat, om⟩
    have UW : n ≤ 64 := om
    have hlt : x.M * 2 ^ n < 340282366920938463463374607431768211456 := by
     have h1 := aW UW
     have h2 : x.M * 2 ^ n ≤ x.M * 2 ^ 64 := Nat.mul_le_mul_left _ h1
     have h3 : (2 : Nat) ^ 64 = 18446744073709551616 := de
     rw [h3] at h2
     omega
    refine ⟨x.s, x.e, x.c, _, _, 0, false, x.M * 2 ^ n, comb _ _ _ _ _ _ _ (fun w => ?_), fun w => Fb _ _ _ _ _ _ (n : Int) _ _ _ (decide_eq_false om) hnn (fun w => aBT x.M n om om hlt w) w, hlt, v1.nN, .inr (.inr ⟨om, rfl, (R_ (a := a) hF hn).symm, ?_⟩)⟩
    ·by_cases c : x.c = 1
     ·refine (OD p mn mx mode k _ _ _ _ _ _ _ _ _ _ _ _ c (by simp; omega) w).mono ?_
      rintro r w' ⟨rfl, hg⟩
      exact ⟨by rw [c], hg⟩
     ·exact BZ p mn mx mode k _ _ _ _ _ _ _ _ _ _ _ _ (by simp [c]) w
    ·rw [hw]
     by_cases c64 : x.e ≤ 64
     ·left
      rw [show x.e.toNat = n by omega]
     ·have hnE : n = 64 := om
      rcases Nat.eq_zero_or_pos x.M with m0 | m0
      ·left; rw [m0]; simp
      ·right
       subst hnE
       have h3 : (2 : Nat) ^ 64 = 18446744073709551616 := de
       have h1 := aW (show 64 ≤ x.e.toNat by omega)
       have h2 : x.M * 2 ^ 64 ≤ x.M * 2 ^ x.e.toNat := Nat.mul_le_mul_left _ h1
       rw [h3] at h2 ⊢
       omega
theorem D6 {f p mx one inf sg nan a : Int} (hF : aI f p mx one inf sg nan) (mode kind : Int) (hm : 0 ≤ mode ∧ mode ≤ 4) (hkd : kind = 1) (a0 : 0 ≤ a) (a1 : a < 18446744073709551616) (ha : a < 2 * sg) {x : bI} (hx : bZ p mx one inf sg nan a x) {w : World} (hw : Fm w) :
  CT 23 #[J Y f, J Y mode, J Y kind, J O a] w fun e w' => ∃ Z fl, qZ mode kind x Z fl ∧ e = V (X #[J O Z, J Y fl]) ∧ Gr w w' := by
 subst hkd
 obtain ⟨mn, fb, sp, hM, hmn, hfb⟩ := hF.m
 obtain ⟨k, hk⟩ := o9 mode hm.1 hm.2
 obtain ⟨x', hx', HA⟩ := ny hF hM a a0 a1
 obtain rfl := hx.one hF hx'
 have xc0 := (dA hF hx).1.c0
 obtain ⟨os, oe, oc, oh, ol, of, ot, N, HC, HZ, hN, hos, hcase⟩ := BK hF mn mode hm k hk a0 hx
 have HS : Hid (∀ w', Gr w w' → QR 70 #[J Y f, J Y mode] w' (.tuple #[X #[J Y p, J Y mn, J Y mx, J Y mode, .func (.func k) #[] #[]], U true])) := fun w'' hg' => gK hF hM mode k (fun w => jQ mode k hk w) (hw.gr hg')
 have Om : KR 72 #[X #[J Y p, J Y mn, J Y mx], J O a] (U true) := fun w => by
  have := fits_any hM a a0 a1 w
  rw [decide_eq_true ha] at this
  exact this
 have hl0 := uX 1 os
 have fin : ∀ (q : Bool) (z : Int), tw 1 os N = (z, q) → qZ mode 1 x z (if q then of else 1) := by
  intro q z htw
  unfold tw at htw
  by_cases c : N ≤ dX 1 os
  ·rw [if_pos c] at htw
   injection htw with h1 h2
   subst h1 h2
   rcases hcase with ⟨_, _, rfl⟩ | ⟨_, _, rfl⟩ | ⟨c1, rfl, rfl, hw | ⟨hw, _⟩⟩
   ·omega
   ·omega
   ·rw [hw] at c ⊢
    exact .inr (.inl ⟨c1, c, rfl, rfl⟩)
   ·omega
  ·rw [if_neg c] at htw
   injection htw with h1 h2
   subst h1 h2
   rcases hcase with ⟨c3, rfl, rfl⟩ | ⟨c2, rfl, rfl⟩ | ⟨c1, rfl, rfl, hw | ⟨_, hw⟩⟩
   ·exact .inl ⟨c3, rfl, rfl⟩
   ·exact .inr (.inr ⟨om, .inl c2, rfl, rfl⟩)
   ·exact .inr (.inr ⟨om, .inr om, rfl, rfl⟩)
   ·exact .inr (.inr ⟨om, .inr om, rfl, rfl⟩)
 obtain ⟨⟨z, q⟩, htw⟩ : ∃ r, tw 1 os N = r := ⟨_, rfl⟩
 have hO := fin q z htw
 have HT : KR 271 #[X #[J Y (-9223372036854775808), J Y 9223372036854775807], J Y os, X #[J O ((N / 18446744073709551616 : Nat) : Int), J O ((N % 18446744073709551616 : Nat) : Int)]] (.tuple #[J O z, U q]) := fun w => by
  have := Df os hos N hN w
  rw [htw] at this
  exact this
 refine (aDb p mn mx mode f 1 a _ _ _ _ _ os oe oc oh ol of _ _ z (if q then of else 1) _ ot q (by cases q <;> simp) k HS (fun w => zS w) Om HA HC HZ HT).mono ?_
 rintro e w' ⟨rfl, hg⟩
 exact ⟨_, _, hO, rfl, hg⟩
theorem zM (s : Int) (hs : s = 0 ∨ s = 1) (K : Nat) (hK : K ≤ 1000000) (N : Nat) (hN : N < 18446744073709551616) (b k c : Nat) (w : World) (hB : aB K w (E (some ⟨b, 0, none⟩) k c) N) :
  QB 127 #[J Y s, E (some ⟨b, 0, none⟩) k c] w (J O (l7 s N)) := by
 refine Gi s (N : Int) _ ?_ b k c (fun w' hg => ?_)
 ·rcases hs with rfl | rfl
  ·exact .inr ⟨rfl, (MR N).symm⟩
  ·exact .inl ⟨rfl, by rw [Int.zero_sub]; exact yJ N hN, yJ N hN⟩
 ·obtain ⟨n, hn, hb⟩ := aB.gb hB hg
  refine (zQ hb om hN).mono ?_
  rintro e w'' ⟨rfl, hg'⟩
  exact ⟨rfl, by first | exact hg' | (subst hg'; exact Gb.refl _)⟩
theorem YC (kind : Int) (h : 0 ≤ kind ∧ kind ≤ 3) : (nY kind == 0) = false := by
 rcases (show kind = 0 ∨ kind = 1 ∨ kind = 2 ∨ kind = 3 by omega) with rfl | rfl | rfl | rfl <;> decide
theorem Dl {f p mx one inf sg nan : Int} (hF : aI f p mx one inf sg nan) (mode kind a : Int) (hm : 0 ≤ mode ∧ mode ≤ 4) (hkd : 0 ≤ kind ∧ kind ≤ 3) (a0 : 0 ≤ a) (a1 : a < 18446744073709551616) (ha : a < 2 * sg) (w : World) :
  CT 39 #[J Y f, J Y mode, J Y kind, J O a] w fun e w' => ∃ Z fl, lI f mode kind a Z fl ∧ e = V (X #[J O Z, J Y fl]) ∧ Gb w w' := by
 have HK : KW 126 #[J Y kind] (.tuple #[J Y (nY kind), U (uO kind)]) := fun w => nG kind w
 have hB0 := YC kind hkd
 have HY : KW 62 #[J Y mode] (U true) := fun w => mO mode true (by simp [hm]) w
 have Om : KW 110 #[J Y f, J O a] (U true) := fun w => dB hF a a0 ha w
 obtain ⟨x, hx⟩ := jk hF a a0 a1
 obtain ⟨v1, v2, v3, v4, v5, v6⟩ := dA hF hx
 have xc0 := v1.c0; have xc4 := v1.c4
 have HU := nS hF a a0 ha hx
 have HQ : ∀ (b : Bool), b = decide (3 ≤ x.c) → KR 118 #[X #[J Y x.c, J Y x.s, J Y x.e, J O (((x.M : Nat) : Int))]] (U b) := fun b hb w => lS _ _ _ _ b hb w
 have fin : ∀ Z fl, qZ mode kind x Z fl → (QB 39 #[J Y f, J Y mode, J Y kind, J O a] w (X #[J O Z, J Y fl])) → CT 39 #[J Y f, J Y mode, J Y kind, J O a] w fun e w' => ∃ Z fl, lI f mode kind a Z fl ∧ e = V (X #[J O Z, J Y fl]) ∧ Gb w w' := fun Z fl hp h => h.mono (fun e w' ⟨h1, h2⟩ => ⟨Z, fl, .inl ⟨p, mx, one, inf, sg, nan, x, hF, ha, hm, hkd, hx, hp⟩, h1, h2⟩)
 have HM : ∀ s, s = 0 ∨ s = 1 → Hid (∀ w, CT 128 #[J Y kind, J Y s] w fun e w' => ∃ b k c, aB 20 w' (E (some ⟨b, 0, none⟩) k c) (dX kind s) ∧ e = V (E (some ⟨b, 0, none⟩) k c) ∧ Gb w w') := fun s hs w => zN kind s hs w
 have HW : ∀ s, s = 0 ∨ s = 1 → Hid (∀ b k c w, aB 20 w (E (some ⟨b, 0, none⟩) k c) (dX kind s) → QB 127 #[J Y s, E (some ⟨b, 0, none⟩) k c] w (J O (l7 s (dX kind s)))) := fun s hs b k c w hB => zM s hs 20 om _ (uX kind s) b k c w hB
 by_cases cn : 3 ≤ x.c
 ·exact fin _ _ (.inl ⟨cn, rfl, rfl⟩) (Jl f mode kind a _ _ _ _ _ _ _ _ hB0 HK HY Om HU (HQ true (by simp [cn])) (HM 0 (.inl rfl)) (HW 0 (.inl rfl)) w)
 ·have hQ := HQ false (by simp; omega)
  have hms := HM x.s v1.nN
  have hws := HW x.s v1.nN
  by_cases c2 : x.c = 2
  ·exact fin _ _ (.inr (.inr ⟨om, .inl c2, rfl, rfl⟩)) (Jm f mode kind a _ _ _ _ _ _ _ _ hB0 HK HY Om HU hQ c2 hms hws w)
  ·by_cases far : 200 < x.e
   ·refine fin _ _ (.inr (.inr ⟨om, .inr ?_, rfl, rfl⟩)) (Jo f mode kind a _ _ _ _ _ _ _ _ hB0 HK HY Om HU hQ c2 (decide_eq_true far) hms hws w)
    have hc1 : x.c = 1 := by
     rcases (show x.c = 0 ∨ x.c = 1 by omega) with h | h
     ·obtain ⟨_, v, _, _, hz⟩ := C9 hF a0 hx om
      have := hz (by omega); omega
     ·exact h
    rw [vU (by omega)]
    have h1 := aW (show 64 ≤ x.e.toNat by omega)
    have h3 : (2 : Nat) ^ 64 = 18446744073709551616 := de
    have h2 : 1 * 2 ^ x.e.toNat ≤ x.M * 2 ^ x.e.toNat := Nat.mul_le_mul_right _ (v1.fin hc1).1
    have := uX kind x.s
    omega
   ·have HN : Hid (∀ w, CT 121 #[X #[J Y x.c, J Y x.s, J Y x.e, J O (((x.M : Nat) : Int))]] w fun e w' => ∃ b k cc, aB 2 w' (E (some ⟨b, 0, none⟩) k cc) x.M ∧ e = V (X #[J Y x.s, E (some ⟨b, 0, none⟩) k cc, J Y x.e, U false]) ∧ Gb w w') := fun w => pq _ _ _ x.M om w
    have YI : Hid (∀ b k c w, aB 2 w (E (some ⟨b, 0, none⟩) k c) x.M → CT 120 #[J Y mode, X #[J Y x.s, E (some ⟨b, 0, none⟩) k c, J Y x.e, U false]] w fun e w' => ∃ b k c, aB 70005 w' (E (some ⟨b, 0, none⟩) k c) (aV mode x) ∧ e = V (.tuple #[E (some ⟨b, 0, none⟩) k c, U (!mY x)]) ∧ Gb w w') := fun b k c w hB => Gj hF hx mode hm b k c w hB
    have HC : Hid (∀ v v' w, aB 70005 w v (aV mode x) → aB 20 w v' (dX kind x.s) → QB 129 #[v, v'] w (J Y (eG (aV mode x) (dX kind x.s)))) := fun v v' w ⟨n, h1, h2⟩ ⟨n', h1', h2'⟩ => gY h2 om h2' om
    have hX : mY x = true → x.c = 1 := by
     intro h
     rcases (show x.c = 0 ∨ x.c = 1 by omega) with hc | hc
     ·obtain ⟨_, v, _, _, hz⟩ := C9 hF a0 hx om
      rw [BX (x := x) (by have := hz (by omega); omega)] at h
      cases h
     ·exact hc
    by_cases hle : aV mode x ≤ dX kind x.s
    ·have hd : decide (eG (aV mode x) (dX kind x.s) ≤ 0) = true := decide_eq_true (by unfold eG; split <;> (try split) <;> omega)
     have HWw : Hid (∀ b k c w, aB 70005 w (E (some ⟨b, 0, none⟩) k c) (aV mode x) → QB 127 #[J Y x.s, E (some ⟨b, 0, none⟩) k c] w (J O (l7 x.s (aV mode x)))) := fun b k c w hB => zM x.s v1.nN 70005 om _ (by have := uX kind x.s; omega) b k c w hB
     cases hxx : mY x
     ·refine fin _ _ (.inr (.inl ⟨om, hle, rfl, ?_⟩)) (Jk f mode kind a _ _ _ _ _ _ _ _ _ x.M _ _ (by rw [hxx]; rfl) hB0 HK HY Om HU hQ c2 (decide_eq_false far) HN YI hms HC hd HWw w)
      unfold Wi; rw [hxx, if_neg (by simp)]
     ·refine fin _ _ (.inr (.inl ⟨om, hle, rfl, ?_⟩)) (Jj f mode kind a _ _ _ _ _ _ _ _ _ x.M _ _ (by rw [hxx]; rfl) hB0 HK HY Om HU hQ c2 (decide_eq_false far) HN YI hms HC hd HWw w)
      unfold Wi; rw [hxx, if_pos ⟨hX hxx, rfl⟩]
    ·have hd : decide (eG (aV mode x) (dX kind x.s) ≤ 0) = false := decide_eq_false (by unfold eG; rw [if_neg om, if_pos (by omega)]; omega)
     exact fin _ _ (.inr (.inr ⟨om, .inr om, rfl, rfl⟩)) (Ji f mode kind a _ _ _ _ _ _ _ _ _ x.M _ _ hB0 HK HY Om HU hQ c2 (decide_eq_false far) HN YI hms HC hd hws w)
theorem Oc (x y : Int) : (x == y) = decide (x = y) := by by_cases h : x = y <;> simp [h]
theorem aEc (a : Int) (a0 : 0 ≤ a) (a1 : a < 18446744073709551616) : ∃ s m : Int, (jK 1 a = true → s = eH 1 a ∧ m = ((iH 1 a : Nat) : Int)) ∧ ∀ w, QR 270 #[X #[J Y (-9223372036854775808), J Y 9223372036854775807], J O a] w (.tuple #[J Y s, J O m, U (jK 1 a)]) := by
 obtain ⟨x, hx⟩ : ∃ x, IntKind.i64.wrap a = x := ⟨_, rfl⟩
 have hx' := hx
 rw [IntKind.wrap_i64] at hx'
 have hft : jK 1 a = decide (IntKind.u64.wrap x = a) := by
  unfold jK
  rw [IntKind.wrap_u64, decide_eq_decide]
  by_cases h : 9223372036854775808 ≤ a
  ·have e1 : eH 1 a = 1 := by unfold eH; rw [if_pos ⟨.inr rfl, h⟩]
   have e2 : iH 1 a = (18446744073709551616 - a).toNat := by unfold iH; rw [if_pos ⟨.inr rfl, h⟩]
   rw [e1, e2, show dX 1 1 = 9223372036854775808 by decide]; omega
  ·have e1 : eH 1 a = 0 := by unfold eH; rw [if_neg (fun k => h k.2)]
   have e2 : iH 1 a = a.toNat := by unfold iH; rw [if_neg (fun k => h k.2)]
   rw [e1, e2, show dX 1 0 = 9223372036854775807 by decide]; omega
 have hd := hft
 rw [hd]
 by_cases c : x < 0
 ·refine ⟨1, IntKind.u64.wrap (-a), fun h => ?_, fun w => GU a x _ _ _ hx c rfl (Oc _ _) rfl w⟩
  have hh : 9223372036854775808 ≤ a := om
  unfold eH iH
  rw [if_pos ⟨.inr rfl, hh⟩, if_pos ⟨.inr rfl, hh⟩, IntKind.wrap_u64]
  exact ⟨rfl, om⟩
 ·refine ⟨0, a, fun h => ?_, fun w => GR a x _ _ hx om rfl (Oc _ _) w⟩
  have hh : ¬ 9223372036854775808 ≤ a := om
  unfold eH iH
  rw [if_neg (fun k => hh k.2), if_neg (fun k => hh k.2)]
  exact ⟨rfl, om⟩
theorem zU {f p mx one inf sg nan : Int} (hF : aI f p mx one inf sg nan) (mode kind a : Int) (hm : 0 ≤ mode ∧ mode ≤ 4) (hkd : kind = 1) (a0 : 0 ≤ a) (a1 : a < 18446744073709551616) (w : World) (hw : Fm w) :
  CT 97 #[J Y f, J Y mode, J Y kind, J O a] w fun e w' => ∃ Z fl, gQ f mode kind a Z fl ∧ e = V (X #[J O Z, J Y fl]) ∧ Gr w w' := by
 have fin : ∀ Z, gQ f mode kind a Z 1 → (QR 97 #[J Y f, J Y mode, J Y kind, J O a] w (X #[J O Z, J Y 1])) → CT 97 #[J Y f, J Y mode, J Y kind, J O a] w fun e w' => ∃ Z fl, gQ f mode kind a Z fl ∧ e = V (X #[J O Z, J Y fl]) ∧ Gr w w' := fun Z hp h => h.mono (fun e w' ⟨h1, h2⟩ => ⟨Z, 1, hp, h1, h2⟩)
 obtain ⟨mn, fb, sp, hM, hmn, hfb⟩ := hF.m
 have HN : KR 176 #[X #[J Y p, J Y mn, J Y mx]] (X #[J O nan, J Y 1]) := fun w => dI hM w
 obtain ⟨k, hk⟩ := o9 mode hm.1 hm.2
 have HS : Hid (∀ w', Gr w w' → QR 70 #[J Y f, J Y mode] w' (.tuple #[X #[J Y p, J Y mn, J Y mx, J Y mode, .func (.func k) #[] #[]], U true])) := fun w'' hg' => gK hF hM mode k (fun w => jQ mode k hk w) (hw.gr hg')
 have bad : jK kind a = false → gQ f mode kind a nan 1 := fun h => .inr (.inl ⟨p, mx, one, inf, sg, nan, hF, .inr h, rfl, rfl⟩)
 have HR : ∀ s m, s = eH kind a → m = ((iH kind a : Nat) : Int) → Hid (∀ w, CT 186 #[X #[J Y p, J Y mn, J Y mx, J Y mode, .func (.func k) #[] #[]], J Y s, J Y 0, X #[J O 0, J O m], U false] w fun e w' => ∃ z fl, bV p (1 - mx) mx one inf sg nan mode (sW kind a) z fl ∧ e = V (X #[J O z, J Y fl]) ∧ Gr w w') := by
  intro s m hs hm' w
  subst hs hm'
  have hlt := uY kind a a0 a1
  rcases Nat.eq_zero_or_pos (iH kind a) with h0 | h0
  ·have hs0 : eH kind a = 0 := by
    unfold iH at h0
    unfold eH
    by_cases c : (kind = 0 ∨ kind = 1) ∧ 9223372036854775808 ≤ a
    ·rw [if_pos c] at h0; exfalso; omega
    ·rw [if_neg c]
   rw [h0, hs0]
   refine (Nh hM mode k 0 0 false om om (sw 0 sg 0) (fun w => jX hM 0 _ (.inl ⟨rfl, by simp [sw]⟩) w) w).mono ?_
   rintro e w' ⟨rfl, hg⟩
   refine ⟨_, _, ?_, rfl, hg⟩
   unfold sW; rw [if_pos h0]; exact .inl ⟨rfl, rfl, rfl⟩
  ·have := vY hM mode mode k hk (eH kind a) (Fg kind a) 0 om om (iH kind a) h0 om false (fun h => by cases h) w
   rw [show iH kind a / 18446744073709551616 = 0 by omega, show iH kind a % 18446744073709551616 = iH kind a by omega] at this
   refine this.mono ?_
   rintro e w' ⟨z, fl, hr, rfl, hg⟩
   rw [hmn] at hr
   refine ⟨_, _, ?_, rfl, hg⟩
   unfold sW; rw [if_neg (by omega)]
   exact .inr (.inl ⟨rfl, z, hr, by rw [Tf]⟩)
 have ok : jK kind a = true → (∃ s m, (s = eH kind a ∧ m = ((iH kind a : Nat) : Int)) ∧ CT 97 #[J Y f, J Y mode, J Y kind, J O a] w fun e w' => ∃ z fl, bV p (1 - mx) mx one inf sg nan mode (sW kind a) z fl ∧ e = V (X #[J O z, J Y fl]) ∧ Gr w w') → CT 97 #[J Y f, J Y mode, J Y kind, J O a] w fun e w' => ∃ Z fl, gQ f mode kind a Z fl ∧ e = V (X #[J O Z, J Y fl]) ∧ Gr w w' := fun hq ⟨s, m, _, h⟩ => h.mono (fun e w' ⟨z, fl, h0, h1, h2⟩ => ⟨z, fl, .inl ⟨p, mx, one, inf, sg, nan, hF, hm, hq, h0⟩, h1, h2⟩)
 subst hkd
 obtain ⟨s, m, he, HW⟩ := aEc a a0 a1
 cases hq : jK 1 a <;> rw [hq] at HW he
 ·exact fin nan (bad hq) (QN p mn mx mode nan f mode 1 a s m k HS zS HW HN)
 ·exact ok hq ⟨s, m, he rfl, U9 p mn mx mode f mode 1 a s m k HS zS HW _ (HR s m (he rfl).1 (he rfl).2)⟩
