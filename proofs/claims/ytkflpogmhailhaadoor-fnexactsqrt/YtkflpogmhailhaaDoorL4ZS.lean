/- Sqrt, of both sides. -/
import Derived.Test.YtkflpogmhailhaaDoorL4O
import Derived.Test.YtkflpogmhailhaaDoorE4
import Derived.Test.YtkflpogmhailhaaDoorL4S
import Derived.Test.YtkflpogmhailhaaDoorL4WS
set_option linter.unusedVariables false
set_option linter.unusedSimpArgs false
namespace Go.Proofs.YtkflpogmhailhaaDoor
open Go.RowKit

theorem i64_parity (n : Int) : bits .and .i64 n 1 = n % 2 := by
  have h1 : (BitVec.ofInt 64 1).toNat = 2 ^ 1 - 1 := by decide
  have h2 : (BitVec.ofInt 64 n &&& BitVec.ofInt 64 1).toNat = (n % ((2 ^ 64 : Nat) : Int)).toNat % 2 ^ 1 := by
    rw [BitVec.toNat_and, BitVec.toNat_ofInt, h1, Nat.and_two_pow_sub_one_eq_mod]
  show IntKind.i64.wrap ((BitVec.ofInt 64 n &&& BitVec.ofInt 64 1).toNat : Nat) = n % 2
  rw [h2, IntKind.wrap_i64]
  omega

/-- The root, rounded down. -/
def rootN : Nat → Nat
  | 0 => 0
  | m + 1 => if (rootN m + 1) * (rootN m + 1) ≤ m + 1 then rootN m + 1 else rootN m
theorem rootN_is (m : Nat) : IsRoot m (rootN m) := by
  induction m with
  | zero => exact ⟨Nat.zero_le _, by decide⟩
  | succ m ih =>
    obtain ⟨h1, h2⟩ := ih
    rw [rootN]
    split
    · rename_i h
      refine ⟨h, ?_⟩
      have : (rootN m + 1) * (rootN m + 1) + (rootN m + 1) + (rootN m + 1) + 1 = (rootN m + 1 + 1) * (rootN m + 1 + 1) := by
        simp only [Nat.add_mul, Nat.mul_add]; omega
      omega
    · rename_i h
      exact ⟨by omega, by omega⟩

/-- Of what the model takes the root, in binary places. -/
def sqPl (p e : Int) : Nat := if (e - (p + 8)) % 2 = 0 then p.toNat + 8 else p.toNat + 9
def sqM (P A : Nat) : Nat := 2 * rootN (A * 2 ^ P) + oneIf (decide (rootN (A * 2 ^ P) * rootN (A * 2 ^ P) ≠ A * 2 ^ P))
def sqrtO (p mode : Int) (x y : Opd) : Opd :=
  if 3 ≤ x.c then ⟨x.c, 0, 0, 0⟩
  else if x.c = 0 then ⟨0, x.s, 0, 0⟩
  else if x.s = 1 then ⟨4, 0, 0, 0⟩
  else if x.c = 2 then ⟨2, 0, 0, 0⟩
  else ⟨1, 0, (x.e - sqPl p x.e) / 2 - 1, sqM (sqPl p x.e) x.M⟩
theorem sqrtO_c (p mode : Int) (x y : Opd) (hx : VO x) (hy : VO y) : 0 ≤ (sqrtO p mode x y).c ∧ (sqrtO p mode x y).c ≤ 5 := by
  have := hx.c0
  have := hx.c4
  unfold sqrtO
  split
  · dsimp only; omega
  · split
    · exact ⟨by dsimp only; omega, by dsimp only; omega⟩
    · split
      · exact ⟨by dsimp only; omega, by dsimp only; omega⟩
      · split
        · exact ⟨by dsimp only; omega, by dsimp only; omega⟩
        · exact ⟨by dsimp only; omega, by dsimp only; omega⟩

theorem root_low {A k C : Nat} (h : IsRoot A C) (hA : 2 ^ (2 * k) ≤ A) : 2 ^ k ≤ C := by
  have h1 : 2 ^ k * 2 ^ k < (C + 1) * (C + 1) := by
    rw [← Nat.pow_add, show k + k = 2 * k by omega]
    exact Nat.lt_of_le_of_lt hA h.2
  have := mul_self_lt h1
  omega

/-- Enough digits, and the rest: the same number. -/
theorem root_round {p : Int} {Pn A : Nat} (hP : (Pn : Int) = p) (hP1 : 1 ≤ Pn) (hP53 : Pn ≤ 53) (hA : 2 ^ (Pn - 1) ≤ A) (hA2 : A < 2 ^ Pn) (e hi hq : Int) (od : Nat) (hhi : e + (p - 1) = hi) (hod : hi % 2 = (od : Int)) (hhq : hi / 2 = hq) :
    ∃ (C : Nat) (st : Bool), C = dC rootC (A * 2 ^ (61 - Pn + od)) (Pn + 3) ∧ st = decide (dR rootC (A * 2 ^ (61 - Pn + od)) (Pn + 2) ≠ 0) ∧ 0 < C ∧ C < 18446744073709551616 ∧ p + 2 ≤ (nb C : Int) ∧ 0 < rootN (A * 2 ^ sqPl p e) ∧ p + 2 ≤ (nb (rootN (A * 2 ^ sqPl p e)) : Int) ∧
    (∀ s mn mx one inf mode z fl, RoundIs p mn mx one inf mode s C (hq - (p + 2)) st z fl ↔ RoundIs p mn mx one inf mode s (sqM (sqPl p e) A) ((e - sqPl p e) / 2 - 1) false z fl) ∧
    (∀ s mn mx one inf mode z fl, RoundIs p mn mx one inf mode s (rootN (A * 2 ^ sqPl p e)) ((e - sqPl p e) / 2) (decide (rootN (A * 2 ^ sqPl p e) * rootN (A * 2 ^ sqPl p e) ≠ A * 2 ^ sqPl p e)) z fl ↔ RoundIs p mn mx one inf mode s (sqM (sqPl p e) A) ((e - sqPl p e) / 2 - 1) false z fl) := by
  have hod1 : od ≤ 1 := by omega
  obtain ⟨t, ht1, hPl, het⟩ : ∃ t : Nat, 1 ≤ t ∧ sqPl p e = Pn + 5 + od + 2 * t ∧ (e - sqPl p e) / 2 + (t : Int) = hq - (p + 2) := by
    unfold sqPl
    by_cases c : (e - (p + 8)) % 2 = 0
    · rw [if_pos c]; exact ⟨1, by omega, by omega, by omega⟩
    · rw [if_neg c]; exact ⟨2, by omega, by omega, by omega⟩
  obtain ⟨q1, q2, q3⟩ := root_of_digits A Pn od hP1 hP53 hod1 hA2
  have hr := rootN_is (A * 2 ^ sqPl p e)
  have e1 : A * 2 ^ sqPl p e = A * 2 ^ (Pn + 5 + od) * 2 ^ (2 * t) := by rw [hPl, Nat.pow_add, Nat.mul_assoc]
  have hr2 := hr
  rw [e1] at hr2
  rw [← e1] at hr2
  obtain ⟨C, hC⟩ : ∃ C, C = dC rootC (A * 2 ^ (61 - Pn + od)) (Pn + 3) := ⟨_, rfl⟩
  rw [← hC] at q1 q2 q3
  have sc : rootN (A * 2 ^ sqPl p e) / 2 ^ t = C ∧ (decide (rootN (A * 2 ^ sqPl p e) % 2 ^ t ≠ 0) || decide (rootN (A * 2 ^ sqPl p e) * rootN (A * 2 ^ sqPl p e) ≠ A * 2 ^ (Pn + 5 + od) * 2 ^ (2 * t))) = decide (C * C ≠ A * 2 ^ (Pn + 5 + od)) := by
    refine IsRoot.scale t q1 ?_
    rw [← e1]; exact hr
  rw [← e1] at sc
  obtain ⟨s1, s2⟩ := sc
  have hlow : 2 ^ (Pn + 2) ≤ C := by
    refine root_low q1 ?_
    have a1 : 2 ^ (Pn - 1) * 2 ^ (Pn + 5 + od) ≤ A * 2 ^ (Pn + 5 + od) := Nat.mul_le_mul_right _ hA
    rw [← Nat.pow_add] at a1
    exact Nat.le_trans (Nat.pow_le_pow_right (by decide) (by omega)) a1
  have hnC := nb_gt hlow
  have hC0 : 0 < C := Nat.lt_of_lt_of_le (Nat.pow_pos (by decide)) hlow
  have hCr : C ≤ rootN (A * 2 ^ sqPl p e) := by rw [← s1]; exact Nat.div_le_self _ _
  have hnr := nb_gt (Nat.le_trans hlow hCr)
  refine ⟨C, _, hC, rfl, hC0, q3, by omega, by omega, by omega, fun s mn mx one inf mode z fl => ?_, fun s mn mx one inf mode z fl => ?_⟩
  · have h := RoundIs.cut (p := p) (mn := mn) (mx := mx) (one := one) (inf := inf) (mode := mode) (sign := s) (m := rootN (A * 2 ^ sqPl p e)) (e := (e - sqPl p e) / 2) (z := z) (fl := fl) t (decide (rootN (A * 2 ^ sqPl p e) * rootN (A * 2 ^ sqPl p e) ≠ A * 2 ^ sqPl p e)) (by rw [s1]; exact hC0) (by omega) (by rw [s1]; omega) (decide (dR rootC (A * 2 ^ (61 - Pn + od)) (Pn + 2) ≠ 0)) (by rw [s2, decide_eq_decide]; exact q2)
    rw [s1, het] at h
    exact h
  · exact RoundIs.rest _ (by omega) (by omega) (by omega)

theorem squareRoot_any {f p mx one inf sg nan mn fb sp : Int} (hF : IsFmt f p mx one inf sg nan) (hM : IsM p mn mx fb sp one inf sg nan) (md : Int) (k : Nat) {a : Int} {x y : Opd} (hx : OpdIs p mx one inf sg nan a x) (h3 : x.c < 3) (w : World) :
    Calls Tryd.prog 48 #[.agg #[.int .i64 p, .int .i64 mn, .int .i64 mx, .int .i64 md, .func (.func k) #[] #[]], .agg #[.int .i64 x.s, .int .i64 x.e, .int .i64 x.c, .int .u64 (((x.M / 18446744073709551616 : Nat) : Int)), .int .u64 (((x.M % 18446744073709551616 : Nat) : Int)), .bool false, .int .i64 0], .agg #[.int .i64 y.s, .int .i64 y.e, .int .i64 y.c, .int .u64 (((y.M / 18446744073709551616 : Nat) : Int)), .int .u64 (((y.M % 18446744073709551616 : Nat) : Int)), .bool false, .int .i64 0]] w fun e w' => ∃ os oe oc oh ol ot of, SameP p (sqrtO p md x y) os oe oc oh ol ot of ∧ e = .returned (.agg #[.int .i64 os, .int .i64 oe, .int .i64 oc, .int .u64 oh, .int .u64 ol, .bool ot, .int .i64 of]) ∧ Gr w w' := by
  obtain ⟨v1, v2, v3, v4, v5, v6⟩ := opd_vo hF hx
  have hpb : 24 ≤ p ∧ p ≤ 53 := by have := hF.bounds; omega
  have hfb : fb = p - 1 := by rcases hM with h | h <;> omega
  have c0 := v1.c0
  have s01 := v1.s01
  unfold sqrtO
  rw [if_neg (show ¬ 3 ≤ x.c by omega)]
  by_cases cz : x.c = 0
  · rw [if_pos cz]
    have hM0 : x.M = 0 := v3 (by omega)
    rw [cz, hM0]
    refine (squareRoot_zero p mn mx md k _ _ 0 _ _ _ _ _ _ _ _ _ w).mono ?_
    rintro r w' ⟨rfl, hg⟩
    exact ⟨_, _, _, _, _, _, _, SameP.flat p _ _ _ 0 _ rfl (by omega) (by omega) (by omega) (fun _ => ⟨rfl, s01⟩), rfl, hg⟩
  · rw [if_neg cz]
    by_cases cs : x.s = 1
    · rw [if_pos cs, cs]
      rcases (show x.c = 1 ∨ x.c = 2 by omega) with c | c
      · rw [c]
        refine (squareRoot_neg1 p mn mx md k 0 _ 0 _ _ _ _ _ _ _ _ _ w).mono ?_
        rintro r w' ⟨rfl, hg⟩
        exact ⟨_, _, _, _, _, _, _, SameP.nan p 4 (by omega) (by omega), rfl, hg⟩
      · rw [c]
        refine (squareRoot_neg2 p mn mx md k 0 _ 0 _ _ _ _ _ _ _ _ _ w).mono ?_
        rintro r w' ⟨rfl, hg⟩
        exact ⟨_, _, _, _, _, _, _, SameP.nan p 4 (by omega) (by omega), rfl, hg⟩
    · rw [if_neg cs]
      have s0 : x.s = 0 := by omega
      rw [s0]
      by_cases ci : x.c = 2
      · rw [if_pos ci, ci]
        have hM0 : x.M = 0 := v3 (by omega)
        rw [hM0]
        refine (squareRoot_inf p mn mx md k 0 _ 0 _ _ _ _ _ _ _ _ _ w).mono ?_
        rintro r w' ⟨rfl, hg⟩
        exact ⟨_, _, _, _, _, _, _, SameP.flat p _ _ _ 2 _ rfl (by omega) (by omega) (by omega) (fun _ => ⟨rfl, .inl rfl⟩), rfl, hg⟩
      · have c1 : x.c = 1 := by omega
        rw [if_neg ci, c1]
        obtain ⟨Pn, hP, hP1, hP53, hA, hA2⟩ := opd_fin hF hx c1
        obtain ⟨od, hod⟩ : ∃ od : Nat, (x.e + (p - 1)) % 2 = (od : Int) := ⟨((x.e + (p - 1)) % 2).toNat, by omega⟩
        obtain ⟨C, st, hC, hst, r1, r2, r3, r4, r5, r6, r7⟩ := root_round hP hP1 hP53 hA hA2 x.e _ _ od rfl hod rfl
        have hN : x.M * 2 ^ (61 - Pn + od) < 18446744073709551616 := by
          have h1 : x.M * 2 ^ (61 - Pn + od) < 2 ^ Pn * 2 ^ (61 - Pn + od) := Nat.mul_lt_mul_of_pos_right hA2 (Nat.pow_pos (by decide))
          rw [← Nat.pow_add] at h1
          have h2 : 2 ^ (Pn + (61 - Pn + od)) ≤ 2 ^ 62 := Nat.pow_le_pow_right (by decide) (by omega)
          have h3 : 2 ^ 62 < 18446744073709551616 := by decide
          omega
        have hwr : IntKind.u64.wrap (((x.M % 18446744073709551616 : Nat) : Int) * 2 ^ ((61 - p + od : Int)).toNat) = ((x.M * 2 ^ (61 - Pn + od) : Nat) : Int) := by
          rw [Nat.mod_eq_of_lt (by omega), show ((61 - p + od : Int)).toNat = 61 - Pn + od by omega, IntKind.wrap_u64]
          rw [Int.natCast_mul, Int.natCast_pow]
          have := hN
          rw [show ((x.M : Int) * ((2 : Nat) : Int) ^ (61 - Pn + od)) = ((x.M * 2 ^ (61 - Pn + od) : Nat) : Int) by rw [Int.natCast_mul, Int.natCast_pow]] 
          rw [show ((x.M : Int) * 2 ^ (61 - Pn + od)) = ((x.M * 2 ^ (61 - Pn + od) : Nat) : Int) by rw [Int.natCast_mul, Int.natCast_pow]; rfl]
          omega
        refine (squareRoot_num p mn mx md k x.e _ _ _ _ _ _ _ _ _ fb (x.e + (p - 1)) od (61 - p) (61 - p + od) ((x.e + (p - 1)) / 2) (x.M * 2 ^ (61 - Pn + od)) hN (by omega) (by omega) (by omega) (by omega) (by rw [hfb, IntKind.wrap_i64]; omega) (by rw [i64_parity]; exact hod) (by rw [hfb, IntKind.wrap_i64]; omega) (by rw [IntKind.wrap_i64]; omega) (by omega) (by omega) hwr rfl (by omega) (by omega) (by omega) (by omega) (fun w => fb_any hM w) 0 ((x.e + (p - 1)) / 2 - (p + 2)) 1 0 _ _ (fun w v hd => cut_any p mn mx md k 0 ((x.e + (p - 1)) / 2) (by omega) (by omega) (by omega) (by omega) hN hd (Pn + 3) (by omega)) w).mono ?_
        rintro r w' ⟨rfl, hg⟩
        refine ⟨_, _, _, _, _, _, _, .inl ⟨C, ?_, ?_, rfl, rfl, (show (0 : Int) ≤ 1 by omega), (show (1 : Int) ≤ 4 by omega), fun _ => ⟨rfl, .inl rfl⟩, fun _ => ⟨r1, by omega, fun _ => r3, by omega, by omega, fun mn mx one inf mode z fl => ?_⟩⟩, rfl, hg⟩
        · rw [Nat.div_eq_of_lt r2]; rfl
        · rw [Nat.mod_eq_of_lt r2, hC]
        · rw [show Pn + 3 - 1 = Pn + 2 from rfl, ← hst]
          exact r6 _ _ _ _ _ _ _ _
end Go.Proofs.YtkflpogmhailhaaDoor
