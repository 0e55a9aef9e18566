/- Sums and products, exactly: what chapter 3 answers; and that a cut number rounds like the whole. -/
import Derived.Test.YtkflpogmhailhaaGreatDoorA1
set_option linter.unusedVariables false
namespace Go.Proofs.YtkflpogmhailhaaGreatDoor

/-- An operand, or what comes of operands ahead of rounding. -/
structure Opd where
  c : Int
  s : Int
  e : Int
  M : Nat

def nilO (mode : Int) : Opd := ⟨0, if mode = 4 then 1 else 0, 0, 0⟩
def bothM (x y : Opd) : Nat × Nat := (x.M * 2 ^ (x.e - min x.e y.e).toNat, y.M * 2 ^ (y.e - min x.e y.e).toNat)
/-- The sum of two numbers that are not 0. -/
def totO (mode : Int) (x y : Opd) : Opd :=
  if x.s = y.s then ⟨1, x.s, min x.e y.e, (bothM x y).1 + (bothM x y).2⟩
  else if (bothM x y).1 = (bothM x y).2 then nilO mode
  else if (bothM x y).2 < (bothM x y).1 then ⟨1, x.s, min x.e y.e, (bothM x y).1 - (bothM x y).2⟩
  else ⟨1, y.s, min x.e y.e, (bothM x y).2 - (bothM x y).1⟩
def sumO (mode : Int) (x y : Opd) : Opd :=
  if 3 ≤ max x.c y.c then ⟨max x.c y.c, 0, 0, 0⟩
  else if y.c < x.c then x
  else if x.c < y.c then y
  else if x.c = 1 then totO mode x y
  else if x.s = y.s then x
  else if x.c = 2 then ⟨4, 0, 0, 0⟩
  else nilO mode
def mulS (s t : Int) : Int := if s = t then 0 else 1
def prodO (x y : Opd) : Opd :=
  if 3 ≤ max x.c y.c then ⟨max x.c y.c, 0, 0, 0⟩
  else if min x.c y.c = 0 ∧ max x.c y.c = 2 then ⟨4, mulS x.s y.s, x.e + y.e, 0⟩
  else if min x.c y.c = 0 then ⟨0, mulS x.s y.s, x.e + y.e, 0⟩
  else if max x.c y.c = 2 then ⟨2, mulS x.s y.s, x.e + y.e, 0⟩
  else ⟨1, mulS x.s y.s, x.e + y.e, x.M * y.M⟩
def turnO (x : Opd) : Opd := { x with s := 1 - x.s }

/-- The word and the flags of what came out. -/
def PackIs (p mn mx one inf sg nan mode : Int) (o : Opd) (Z fl : Int) : Prop :=
  o.c = 0 ∧ Z = sw o.s sg 0 ∧ fl = 0 ∨
  o.c = 1 ∧ (∃ z, RoundIs p mn mx one inf mode o.s o.M o.e false z fl ∧ Z = sw o.s sg z) ∨
  o.c = 2 ∧ Z = sw o.s sg inf ∧ fl = 0 ∨
  o.c = 3 ∧ Z = nan ∧ fl = 0 ∨
  o.c = 4 ∧ Z = nan ∧ fl = 1

theorem PackIs.one {p mn mx one inf sg nan mode : Int} {o : Opd} {Z fl Z' fl' : Int} (h : PackIs p mn mx one inf sg nan mode o Z fl) (h' : PackIs p mn mx one inf sg nan mode o Z' fl') : Z = Z' ∧ fl = fl' := by
  rcases h with ⟨a, rfl, rfl⟩ | ⟨a, z, hz, rfl⟩ | ⟨a, rfl, rfl⟩ | ⟨a, rfl, rfl⟩ | ⟨a, rfl, rfl⟩ <;>
  rcases h' with ⟨a', rfl, rfl⟩ | ⟨a', z', hz', rfl⟩ | ⟨a', rfl, rfl⟩ | ⟨a', rfl, rfl⟩ | ⟨a', rfl, rfl⟩ <;>
  first | (exfalso; omega) | exact ⟨rfl, rfl⟩ | (obtain ⟨rfl, rfl⟩ := RoundIs.one hz hz'; exact ⟨rfl, rfl⟩)

theorem RoundIs.fl {p mn mx one inf mode sign : Int} {M : Nat} {e : Int} {rest : Bool} {z fl : Int} (h : RoundIs p mn mx one inf mode sign M e rest z fl) : fl = 0 ∨ fl = 16 ∨ fl = 20 ∨ fl = 24 := by
  obtain ⟨top, E, r, r2, hf, h1, h2, h3, h4, h5, hc⟩ := h
  omega

/-- Two operands that stand for the same: a word taken apart and what is made of it. -/
theorem cut_trunc (X k : Nat) (e q : Int) (h : e + k + 1 ≤ q) :
    cutLo X e q = cutLo (X / 2 ^ k) (e + k) q ∧ cutHalf X e q false = cutHalf (X / 2 ^ k) (e + k) q (decide (X % 2 ^ k ≠ 0)) := by
  obtain ⟨d, hd⟩ : ∃ d : Nat, q - (e + k) = (d : Int) := ⟨(q - (e + k)).toNat, by omega⟩
  have hd1 : 1 ≤ d := by omega
  have e1 : (q - e).toNat = k + d := by omega
  have e2 : (q - (e + k)).toNat = d := by omega
  unfold cutLo cutHalf
  rw [if_neg (by omega), if_neg (by omega), if_neg (by omega), if_neg (by omega), e1, e2]
  have a1 : X / 2 ^ (k + d) = X / 2 ^ k / 2 ^ d := by rw [Nat.pow_add, Nat.div_div_eq_div_mul]
  refine ⟨a1, ?_⟩
  unfold hr
  have a2 : X / 2 ^ (k + d - 1) = X / 2 ^ k / 2 ^ (d - 1) := by rw [show k + d - 1 = k + (d - 1) by omega, Nat.pow_add, Nat.div_div_eq_div_mul]
  have a3 : X % 2 ^ (k + d - 1) = X % 2 ^ k + 2 ^ k * (X / 2 ^ k % 2 ^ (d - 1)) := by rw [show k + d - 1 = k + (d - 1) by omega, Nat.pow_add, Nat.mod_mul]
  rw [a2, a3]
  have hp : 0 < 2 ^ k := Nat.pow_pos (by decide)
  have a4 : (X % 2 ^ k + 2 ^ k * (X / 2 ^ k % 2 ^ (d - 1)) ≠ 0 ∨ false = true) ↔ (X / 2 ^ k % 2 ^ (d - 1) ≠ 0 ∨ decide (X % 2 ^ k ≠ 0) = true) := by
    generalize X / 2 ^ k % 2 ^ (d - 1) = R
    generalize X % 2 ^ k = S
    rcases Nat.eq_zero_or_pos R with rfl | hR
    · simp
    · have : 0 < 2 ^ k * R := Nat.mul_pos hp hR
      simp; omega
  simp only [a4]

theorem cutHalf_pos (M : Nat) (e q : Int) (h : q ≤ e) : cutHalf M e q false = 0 := by unfold cutHalf; rw [if_pos h]; rfl
theorem cutHalf_neg (M : Nat) (e q : Int) (rest : Bool) (h : ¬ q ≤ e) : cutHalf M e q rest = hr M (q - e).toNat rest := by unfold cutHalf; rw [if_neg h]

theorem cut_scale (M k : Nat) (e q : Int) : cutLo (M * 2 ^ k) (e - k) q = cutLo M e q ∧ cutHalf (M * 2 ^ k) (e - k) q false = cutHalf M e q false := by
  have hp : 0 < 2 ^ k := Nat.pow_pos (by decide)
  by_cases h : e + 1 ≤ q
  · have := cut_trunc (M * 2 ^ k) k (e - k) q (by omega)
    rw [Nat.mul_div_cancel _ hp, Nat.mul_mod_left, show e - k + k = e by omega] at this
    exact this
  · by_cases h1 : q ≤ e - k
    · rw [cutHalf_pos _ _ _ h1, cutHalf_pos _ _ _ (show q ≤ e by omega)]
      unfold cutLo
      rw [if_pos h1, if_pos (by omega)]
      refine ⟨?_, rfl⟩
      rw [Nat.mul_assoc, ← Nat.pow_add]
      congr 2
      omega
    · rw [cutHalf_neg _ _ _ _ h1, cutHalf_pos _ _ _ (show q ≤ e by omega)]
      unfold cutLo
      rw [if_neg h1, if_pos (by omega)]
      obtain ⟨d, hd⟩ : ∃ d : Nat, (q - (e - k)).toNat = d := ⟨_, rfl⟩
      obtain ⟨j, hj⟩ : ∃ j : Nat, (e - q).toNat = j := ⟨_, rfl⟩
      rw [hd, hj]
      have hk : k = j + d := by omega
      subst hk
      have e1 : M * 2 ^ (j + d) = M * 2 ^ j * 2 ^ d := by rw [Nat.pow_add, Nat.mul_assoc]
      rw [e1, Nat.mul_div_cancel _ (Nat.pow_pos (by decide))]
      refine ⟨rfl, ?_⟩
      exact hr_zero _ d (by omega) (Nat.mul_mod_left _ _)

theorem nb_scale (M k : Nat) (h : 0 < M) : nb (M * 2 ^ k) = nb M + k := by
  have hp : 0 < 2 ^ k := Nat.pow_pos (by decide)
  have := nb_shift (M * 2 ^ k) k (by rw [Nat.mul_div_cancel _ hp]; exact h)
  rw [Nat.mul_div_cancel _ hp] at this
  omega

/-- A number in finer units rounds alike. -/
theorem RoundIs.scale {p mn mx one inf mode sign : Int} {M : Nat} {e z fl : Int} (k : Nat) (hM : 0 < M) : RoundIs p mn mx one inf mode sign (M * 2 ^ k) (e - k) false z fl ↔ RoundIs p mn mx one inf mode sign M e false z fl := by
  unfold RoundIs
  have hn := nb_scale M k hM
  have e1 : ((nb (M * 2 ^ k) : Nat) : Int) + (e - k) - 1 = nb M + e - 1 := by rw [hn]; omega
  rw [e1]
  simp only [(cut_scale M k e _).1, (cut_scale M k e _).2]

/-- A number whose lowest bits are cut away, with the word that there was a rest, rounds alike. -/
theorem RoundIs.trunc {p mn mx one inf mode sign : Int} {X : Nat} {e z fl : Int} (k : Nat) (hX : 0 < X / 2 ^ k) (hp : 0 ≤ p) (hn : X % 2 ^ k ≠ 0 → p + 2 ≤ (nb (X / 2 ^ k) : Int)) :
    RoundIs p mn mx one inf mode sign (X / 2 ^ k) (e + k) (decide (X % 2 ^ k ≠ 0)) z fl ↔ RoundIs p mn mx one inf mode sign X e false z fl := by
  by_cases hc : X % 2 ^ k = 0
  · have e1 : X = X / 2 ^ k * 2 ^ k := by have := Nat.div_add_mod X (2 ^ k); rw [hc, Nat.mul_comm] at this; omega
    have := RoundIs.scale (p := p) (mn := mn) (mx := mx) (one := one) (inf := inf) (mode := mode) (sign := sign) (e := e + k) (z := z) (fl := fl) k hX
    rw [← e1, show e + k - k = e by omega] at this
    rw [this]
    simp [hc]
  · have hn' := hn hc
    have hs := nb_shift X k hX
    constructor
    · rintro ⟨top, E, r, r2, hf, h1, h2, h3, h4, h5, h6⟩
      have t1 := cut_trunc X k e (E - p + 1) (by omega)
      have t2 := cut_trunc X k e (top - p + 1) (by omega)
      refine ⟨top, E, r, r2, hf, by omega, h2, ?_, ?_, ?_, h6⟩
      · rw [t1.2]; exact h3
      · rw [t1.1]; exact h4
      · rw [t2.1, t2.2]; exact h5
    · rintro ⟨top, E, r, r2, hf, h1, h2, h3, h4, h5, h6⟩
      have t1 := cut_trunc X k e (E - p + 1) (by omega)
      have t2 := cut_trunc X k e (top - p + 1) (by omega)
      refine ⟨top, E, r, r2, hf, by omega, h2, ?_, ?_, ?_, h6⟩
      · rw [← t1.2]; exact h3
      · rw [← t1.1]; exact h4
      · rw [← t2.1, ← t2.2]; exact h5
end Go.Proofs.YtkflpogmhailhaaGreatDoor

/- The sum of two numbers as the program makes it: the lesser one is cut beside the greater one. -/
set_option linter.unusedVariables false
namespace Go.Proofs.YtkflpogmhailhaaGreatDoor

theorem bothM_swap (x y : Opd) : bothM y x = ((bothM x y).2, (bothM x y).1) := by
  unfold bothM; rw [show min y.e x.e = min x.e y.e by omega]

theorem totO_comm (mode : Int) (x y : Opd) : totO mode x y = totO mode y x := by
  unfold totO
  rw [bothM_swap x y, show min y.e x.e = min x.e y.e by omega]
  obtain ⟨a, b⟩ := bothM x y
  dsimp only
  by_cases hs : x.s = y.s
  · rw [if_pos hs, if_pos hs.symm, hs, Nat.add_comm]
  · have hs' : ¬ y.s = x.s := fun h => hs h.symm
    rw [if_neg hs, if_neg hs']
    by_cases h1 : a = b
    · rw [if_pos h1, if_pos h1.symm]
    · have h1' : ¬ b = a := fun h => h1 h.symm
      rw [if_neg h1, if_neg h1']
      by_cases h2 : b < a
      · rw [if_pos h2, if_neg (show ¬ a < b by omega)]
      · rw [if_neg h2, if_pos (show a < b by omega)]

theorem sumO_comm (mode : Int) (x y : Opd) (h : x.c = y.c → x.s = y.s → x.c ≠ 1 → x = y) : sumO mode x y = sumO mode y x := by
  unfold sumO
  rw [show max y.c x.c = max x.c y.c by omega]
  by_cases h1 : 3 ≤ max x.c y.c
  · rw [if_pos h1, if_pos h1]
  · rw [if_neg h1, if_neg h1]
    by_cases h2 : y.c < x.c
    · rw [if_pos h2, if_neg (show ¬ x.c < y.c by omega), if_pos h2]
    · by_cases h3 : x.c < y.c
      · rw [if_neg h2, if_pos h3, if_pos h3]
      · rw [if_neg h2, if_neg h3, if_neg h3, if_neg h2]
        have hc : x.c = y.c := by omega
        by_cases h4 : x.c = 1
        · rw [if_pos h4, if_pos (show y.c = 1 by omega), totO_comm]
        · rw [if_neg h4, if_neg (show ¬ y.c = 1 by omega)]
          by_cases h5 : x.s = y.s
          · rw [if_pos h5, if_pos h5.symm]; exact h hc h5 h4
          · have h5' : ¬ y.s = x.s := fun k => h5 k.symm
            rw [if_neg h5, if_neg h5', hc]

theorem prodO_comm (x y : Opd) : prodO x y = prodO y x := by
  have hm : mulS y.s x.s = mulS x.s y.s := by unfold mulS; split <;> split <;> first | rfl | (exfalso; omega)
  unfold prodO
  rw [hm, show max y.c x.c = max x.c y.c by omega, show min y.c x.c = min x.c y.c by omega, show y.e + x.e = x.e + y.e by omega, Nat.mul_comm y.M x.M]

/-- What the program holds (class, sign, exponent, two words, rest) stands for an operand. -/
def Same (o : Opd) (c s e : Int) (M : Nat) (st : Bool) : Prop :=
  o.c = c ∧ (c ≤ 2 → o.s = s) ∧ (c = 1 → 0 < M ∧ M < 340282366920938463463374607431768211456 ∧ (st = true → 55 ≤ nb M) ∧ -100000 ≤ e ∧ e ≤ 100000 ∧
    ∀ p mn mx one inf mode z fl, 0 ≤ p → p ≤ 53 → (RoundIs p mn mx one inf mode s M e st z fl ↔ RoundIs p mn mx one inf mode s o.M o.e false z fl))

theorem Same.self (x : Opd) (h : x.c = 1 → 0 < x.M ∧ x.M < 340282366920938463463374607431768211456 ∧ -100000 ≤ x.e ∧ x.e ≤ 100000) : Same x x.c x.s x.e x.M false :=
  ⟨rfl, fun _ => rfl, fun c => ⟨(h c).1, (h c).2.1, (fun k => by cases k), (h c).2.2.1, (h c).2.2.2, fun p mn mx one inf mode z fl _ _ => Iff.rfl⟩⟩

/-- A number lifted so that its highest bit lies next to the top. -/
theorem lift_bounds (M : Nat) (h : 0 < M) (hn : nb M ≤ 106) : 85070591730234615865843651857942052864 ≤ M * 2 ^ (127 - nb M) ∧ M * 2 ^ (127 - nb M) < 170141183460469231731687303715884105728 := by
  have h1 := nb_scale M (127 - nb M) h
  have h2 : nb (M * 2 ^ (127 - nb M)) = 127 := by omega
  have h3 := nb_lt (M * 2 ^ (127 - nb M))
  have h4 := nb_ge (M * 2 ^ (127 - nb M)) (Nat.mul_pos h (Nat.pow_pos (by decide)))
  rw [h2] at h3 h4
  exact ⟨by simpa using h4, by simpa using h3⟩

/-- Both numbers in the units of the lifted lesser one. -/
theorem align (x y : Opd) (lx ly : Nat) (ex' ey' : Int) (d : Nat) (hx : ex' = x.e - lx) (hy : ey' = y.e - ly) (hd : (d : Int) = ex' - ey') :
    ∃ k : Nat, min x.e y.e - k = ey' ∧ (bothM x y).1 * 2 ^ k = x.M * 2 ^ lx * 2 ^ d ∧ (bothM x y).2 * 2 ^ k = y.M * 2 ^ ly := by
  refine ⟨(min x.e y.e - ey').toNat, by omega, ?_, ?_⟩
  · unfold bothM; dsimp only
    rw [Nat.mul_assoc, Nat.mul_assoc, ← Nat.pow_add, ← Nat.pow_add]
    congr 2; omega
  · unfold bothM; dsimp only
    rw [Nat.mul_assoc, ← Nat.pow_add]
    congr 2; omega

theorem div_add_pow (A B d : Nat) : (A * 2 ^ d + B) / 2 ^ d = A + B / 2 ^ d ∧ (A * 2 ^ d + B) % 2 ^ d = B % 2 ^ d := by
  have hp : 0 < 2 ^ d := Nat.pow_pos (by decide)
  rw [Nat.add_comm, Nat.add_mul_div_right _ _ hp, Nat.add_mul_mod_self_right, Nat.add_comm]
  exact ⟨rfl, rfl⟩

theorem div_sub_pow (A B d : Nat) (h : B ≤ A * 2 ^ d) :
    (B % 2 ^ d = 0 → (A * 2 ^ d - B) / 2 ^ d = A - B / 2 ^ d ∧ (A * 2 ^ d - B) % 2 ^ d = 0 ∧ B / 2 ^ d ≤ A ∧ A * 2 ^ d - B = (A - B / 2 ^ d) * 2 ^ d) ∧
    (B % 2 ^ d ≠ 0 → (A * 2 ^ d - B) / 2 ^ d = A - (B / 2 ^ d + 1) ∧ (A * 2 ^ d - B) % 2 ^ d ≠ 0 ∧ B / 2 ^ d + 1 ≤ A) := by
  have hp : 0 < 2 ^ d := Nat.pow_pos (by decide)
  have hB := Nat.div_add_mod B (2 ^ d)
  have hr := Nat.mod_lt B hp
  generalize B / 2 ^ d = Q at *
  generalize B % 2 ^ d = R at *
  generalize 2 ^ d = T at *
  have hle : Q ≤ A := by
    apply Nat.le_of_mul_le_mul_left _ hp
    rw [Nat.mul_comm T A]; omega
  obtain ⟨D, rfl⟩ : ∃ D, A = Q + D := ⟨A - Q, by omega⟩
  have e1 : (Q + D) * T = T * Q + D * T := by rw [Nat.add_mul, Nat.mul_comm Q T]
  constructor
  · intro h0
    subst h0
    have e2 : (Q + D) * T - B = D * T := by omega
    rw [e2, Nat.mul_div_cancel _ hp, Nat.mul_mod_left]
    have e3 : Q + D - Q = D := by omega
    rw [e3]
    exact ⟨rfl, rfl, by omega, rfl⟩
  · intro h0
    have hD : 0 < D := by
      rcases Nat.eq_zero_or_pos D with c | c
      · subst c; rw [e1] at h; simp at h; omega
      · exact c
    obtain ⟨D', rfl⟩ : ∃ D', D = D' + 1 := ⟨D - 1, by omega⟩
    have e4 : (D' + 1) * T = D' * T + T := by rw [Nat.add_mul, Nat.one_mul]
    have e2 : (Q + (D' + 1)) * T - B = (T - R) + D' * T := by omega
    rw [e2, Nat.add_mul_div_right _ _ hp, Nat.add_mul_mod_self_right, Nat.div_eq_of_lt (by omega), Nat.mod_eq_of_lt (by omega)]
    exact ⟨by omega, by omega, by omega⟩

/-- The rest of a lifted number is 0 but for distances of 22 and more. -/
theorem lift_rest (M d : Nat) (h : nb M ≤ 106) (hr : M * 2 ^ (127 - nb M) % 2 ^ d ≠ 0) : 22 ≤ d := by
  rcases Nat.lt_or_ge d 22 with c | c
  · exfalso; apply hr
    have : 127 - nb M = (127 - nb M - d) + d := by omega
    rw [this, Nat.pow_add, ← Nat.mul_assoc]
    exact Nat.mul_mod_left _ _
  · exact c

theorem tot_same (mode : Int) (x y : Opd) (A B d : Nat) (ex' ey' : Int) (hx0 : 0 < x.M) (hxn : nb x.M ≤ 106) (hy0 : 0 < y.M) (hyn : nb y.M ≤ 106) (hA : A = x.M * 2 ^ (127 - nb x.M)) (hB : B = y.M * 2 ^ (127 - nb y.M))
    (hex : ex' = x.e - (127 - nb x.M : Nat)) (hey : ey' = y.e - (127 - nb y.M : Nat)) (hd : (d : Int) = ex' - ey') (hge : d = 0 → B ≤ A) (xb : -50000 ≤ x.e ∧ x.e ≤ 50000) :
    (x.s = y.s → A + B / 2 ^ d < 340282366920938463463374607431768211456 ∧ Same (totO mode x y) 1 x.s ex' (A + B / 2 ^ d) (decide (B % 2 ^ d ≠ 0))) ∧
    (x.s ≠ y.s → B % 2 ^ d ≠ 0 → B / 2 ^ d + 1 ≤ A ∧ 0 < A - (B / 2 ^ d + 1) ∧ Same (totO mode x y) 1 x.s ex' (A - (B / 2 ^ d + 1)) true) ∧
    (x.s ≠ y.s → B % 2 ^ d = 0 → B / 2 ^ d ≤ A ∧ (0 < A - B / 2 ^ d → Same (totO mode x y) 1 x.s ex' (A - B / 2 ^ d) false) ∧ (A - B / 2 ^ d = 0 → totO mode x y = nilO mode)) := by
  obtain ⟨a1, a2⟩ := lift_bounds x.M hx0 hxn
  obtain ⟨b1, b2⟩ := lift_bounds y.M hy0 hyn
  rw [← hA] at a1 a2
  rw [← hB] at b1 b2
  obtain ⟨k, hk, hk1, hk2⟩ := align x y (127 - nb x.M) (127 - nb y.M) ex' ey' d hex hey hd
  rw [← hA] at hk1
  rw [← hB] at hk2
  have hBd : B / 2 ^ d ≤ B := Nat.div_le_self _ _
  have kp : 0 < 2 ^ k := Nat.pow_pos (by decide)
  have dp : 0 < 2 ^ d := Nat.pow_pos (by decide)
  have hnA : nb A = 127 := by rw [hA, nb_scale _ _ hx0]; omega
  obtain ⟨a, ha⟩ : ∃ a, (bothM x y).1 = a := ⟨_, rfl⟩
  obtain ⟨b, hb⟩ : ∃ b, (bothM x y).2 = b := ⟨_, rfl⟩
  rw [ha] at hk1
  rw [hb] at hk2
  have eb : -100000 ≤ ex' ∧ ex' ≤ 100000 := by omega
  have hed : ey' + d = ex' := by omega
  unfold totO
  rw [ha, hb]
  have V1 := div_add_pow A B d
  have V2 := div_sub_pow A B d
  have hr22 : B % 2 ^ d ≠ 0 → 22 ≤ d := fun hr => by rw [hB] at hr; exact lift_rest y.M d hyn hr
  have hq22 : 4194304 ≤ 2 ^ d → B / 2 ^ d < 40564819207303340847894502572032 := fun hp22 => by
    rw [Nat.div_lt_iff_lt_mul dp]
    exact Nat.lt_of_lt_of_le (show B < 40564819207303340847894502572032 * 4194304 by omega) (Nat.mul_le_mul_left _ hp22)
  generalize B / 2 ^ d = Q at *
  refine ⟨fun hs => ?_, fun hs hr => ?_, fun hs hr => ?_⟩
  · rw [if_pos hs]
    refine ⟨by omega, rfl, fun _ => rfl, fun _ => ⟨by omega, by omega, fun _ => ?_, eb.1, eb.2, fun p mn mx one inf md z fl p0 p1 => ?_⟩⟩
    · have := nb_gt (N := A + Q) (k := 126) (by simpa using (show 85070591730234615865843651857942052864 ≤ A + Q by omega)); omega
    · obtain ⟨t1, t2⟩ := V1
      have hn : 126 < nb (A + Q) := nb_gt (by simpa using (show 85070591730234615865843651857942052864 ≤ A + Q by omega))
      have T := RoundIs.trunc (p := p) (mn := mn) (mx := mx) (one := one) (inf := inf) (mode := md) (sign := x.s) (X := A * 2 ^ d + B) (e := ey') (z := z) (fl := fl) d (by rw [t1]; omega) p0 (fun _ => by rw [t1]; omega)
      rw [t1, t2, hed] at T
      rw [T]
      have hab : (a + b) * 2 ^ k = A * 2 ^ d + B := by rw [Nat.add_mul, hk1, hk2]
      have S := RoundIs.scale (p := p) (mn := mn) (mx := mx) (one := one) (inf := inf) (mode := md) (sign := x.s) (M := a + b) (e := min x.e y.e) (z := z) (fl := fl) k (by
        rcases Nat.eq_zero_or_pos (a + b) with c | c
        · rw [c] at hab; simp at hab; omega
        · exact c)
      rw [hab, hk] at S
      exact S
  · rw [if_neg hs]
    have hd22 : 22 ≤ d := hr22 hr
    have hp22 : (4194304 : Nat) ≤ 2 ^ d := by have := pow2_mono hd22; simpa using this
    have hq := hq22 hp22
    have hBA : B ≤ A * 2 ^ d := Nat.le_trans (show B ≤ A * 4194304 by omega) (Nat.mul_le_mul_left _ hp22)
    obtain ⟨t1, t2, t3⟩ := (V2 hBA).2 hr
    have hlt : b * 2 ^ k < a * 2 ^ k := by
      rw [hk1, hk2]
      exact Nat.lt_of_lt_of_le (show B < A * 4194304 by omega) (Nat.mul_le_mul_left _ hp22)
    have hba : b < a := Nat.lt_of_mul_lt_mul_right hlt
    rw [if_neg (by omega), if_pos hba]
    have hn : 125 < nb (A - (Q + 1)) := nb_gt (by simpa using (show 42535295865117307932921825928971026432 ≤ A - (Q + 1) by omega))
    refine ⟨t3, by omega, rfl, fun _ => rfl, fun _ => ⟨by omega, by omega, fun _ => by omega, eb.1, eb.2, fun p mn mx one inf md z fl p0 p1 => ?_⟩⟩
    have T := RoundIs.trunc (p := p) (mn := mn) (mx := mx) (one := one) (inf := inf) (mode := md) (sign := x.s) (X := A * 2 ^ d - B) (e := ey') (z := z) (fl := fl) d (by rw [t1]; omega) p0 (fun _ => by rw [t1]; omega)
    rw [t1, hed, decide_eq_true t2] at T
    rw [T]
    have hab : (a - b) * 2 ^ k = A * 2 ^ d - B := by rw [Nat.sub_mul, hk1, hk2]
    have S := RoundIs.scale (p := p) (mn := mn) (mx := mx) (one := one) (inf := inf) (mode := md) (sign := x.s) (M := a - b) (e := min x.e y.e) (z := z) (fl := fl) k (by omega)
    rw [hab, hk] at S
    exact S
  · rw [if_neg hs]
    have hBA : B ≤ A * 2 ^ d := by
      rcases Nat.eq_zero_or_pos d with c | c
      · subst c; have := hge rfl; omega
      · have h2 : 2 ≤ 2 ^ d := by have := pow2_mono c; simpa using this
        exact Nat.le_trans (show B ≤ A * 2 by omega) (Nat.mul_le_mul_left _ h2)
    obtain ⟨t1, t2, t3, t4⟩ := (V2 hBA).1 hr
    have hle : b * 2 ^ k ≤ a * 2 ^ k := by rw [hk1, hk2]; exact hBA
    have hba : b ≤ a := Nat.le_of_mul_le_mul_right hle kp
    have hab : (a - b) * 2 ^ k = A * 2 ^ d - B := by rw [Nat.sub_mul, hk1, hk2]
    refine ⟨t3, fun hpos => ?_, fun hz => ?_⟩
    · have hne : a ≠ b := by
        intro h
        rw [h, Nat.sub_self, Nat.zero_mul] at hab
        have := Nat.mul_pos hpos dp
        omega
      rw [if_neg hne, if_pos (by omega)]
      refine ⟨rfl, fun _ => rfl, fun _ => ⟨hpos, by omega, (fun h => by cases h), eb.1, eb.2, fun p mn mx one inf md z fl p0 p1 => ?_⟩⟩
      have T := RoundIs.trunc (p := p) (mn := mn) (mx := mx) (one := one) (inf := inf) (mode := md) (sign := x.s) (X := A * 2 ^ d - B) (e := ey') (z := z) (fl := fl) d (by rw [t1]; omega) p0 (fun h => absurd t2 h)
      rw [t1, hed, decide_eq_false (by simpa using t2)] at T
      rw [T]
      have S := RoundIs.scale (p := p) (mn := mn) (mx := mx) (one := one) (inf := inf) (mode := md) (sign := x.s) (M := a - b) (e := min x.e y.e) (z := z) (fl := fl) k (by omega)
      rw [hab, hk] at S
      exact S
    · rw [hz, Nat.zero_mul] at t4
      have : a = b := by
        apply Nat.eq_of_mul_eq_mul_right kp
        omega
      rw [if_pos this]
end Go.Proofs.YtkflpogmhailhaaGreatDoor

/- Products of rows of words: plain mathematics. -/
set_option linter.unusedVariables false
set_option linter.unusedSimpArgs false
namespace Go.Proofs.YtkflpogmhailhaaGreatDoor

theorem dg_mod (N j k : Nat) (h : j < k) : dg (N % 4294967296 ^ k) j = dg N j := by
  obtain ⟨i, rfl⟩ : ∃ i, k = j + (i + 1) := ⟨k - j - 1, by omega⟩
  unfold dg
  rw [Nat.pow_add, Nat.mod_mul_right_div_self, Nat.pow_succ]
  exact Nat.mod_mod_of_dvd _ (Nat.dvd_mul_left _ _)
theorem dg_div (N j k : Nat) : dg (N / 4294967296 ^ k) j = dg N (k + j) := by
  unfold dg
  rw [Nat.div_div_eq_div_mul, ← Nat.pow_add]

/-- N with word k turned into d. -/
def put (V k d : Nat) : Nat := V / 4294967296 ^ (k + 1) * 4294967296 ^ (k + 1) + d * 4294967296 ^ k + V % 4294967296 ^ k

theorem parts (V k : Nat) : V = V / 4294967296 ^ (k + 1) * 4294967296 ^ (k + 1) + dg V k * 4294967296 ^ k + V % 4294967296 ^ k := by
  have h1 := Nat.div_add_mod V (4294967296 ^ (k + 1))
  have h2 : V % 4294967296 ^ (k + 1) = V % 4294967296 ^ k + 4294967296 ^ k * dg V k := by rw [Nat.pow_succ, Nat.mod_mul]; rfl
  rw [Nat.mul_comm (4294967296 ^ k)] at h2
  rw [Nat.mul_comm] at h1
  omega
theorem put_same (V k d : Nat) : put V k d + dg V k * 4294967296 ^ k = V + d * 4294967296 ^ k := by
  have := parts V k
  unfold put
  omega
theorem put_hi (V k d : Nat) (hd : d < 4294967296) : put V k d / 4294967296 ^ (k + 1) = V / 4294967296 ^ (k + 1) ∧ put V k d % 4294967296 ^ k = V % 4294967296 ^ k ∧ put V k d / 4294967296 ^ k % 4294967296 = d := by
  have hp := pw_pos k
  have hp1 := pw_pos (k + 1)
  have hlo := Nat.mod_lt V hp
  have hlt : d * 4294967296 ^ k + V % 4294967296 ^ k < 4294967296 ^ (k + 1) := by
    have := Nat.mul_le_mul_right (4294967296 ^ k) (show d + 1 ≤ 4294967296 by omega)
    rw [Nat.add_mul] at this
    rw [Nat.pow_succ, Nat.mul_comm (4294967296 ^ k)]
    omega
  have e1 : put V k d = (d * 4294967296 ^ k + V % 4294967296 ^ k) + 4294967296 ^ (k + 1) * (V / 4294967296 ^ (k + 1)) := by unfold put; rw [Nat.mul_comm (4294967296 ^ (k + 1))]; omega
  have e2 : put V k d = V % 4294967296 ^ k + 4294967296 ^ k * (V / 4294967296 ^ (k + 1) * 4294967296 + d) := by
    unfold put
    rw [Nat.mul_add, Nat.pow_succ]
    have : V / (4294967296 ^ k * 4294967296) * (4294967296 ^ k * 4294967296) = 4294967296 ^ k * (V / (4294967296 ^ k * 4294967296) * 4294967296) := by
      simp only [Nat.mul_assoc, Nat.mul_left_comm, Nat.mul_comm]
    rw [this, Nat.mul_comm d]
    omega
  refine ⟨?_, ?_, ?_⟩
  · rw [e1, Nat.add_mul_div_left _ _ hp1, Nat.div_eq_of_lt hlt, Nat.zero_add]
  · rw [e2, Nat.add_mul_mod_self_left, Nat.mod_mod]
  · rw [e2, Nat.add_mul_div_left _ _ hp, Nat.div_eq_of_lt hlo, Nat.zero_add]
    omega
theorem dg_put (V k d j : Nat) (hd : d < 4294967296) : dg (put V k d) j = if j = k then d else dg V j := by
  obtain ⟨a1, a2, a3⟩ := put_hi V k d hd
  split
  · rename_i e; subst e; exact a3
  · rename_i e
    rcases Nat.lt_or_ge j k with c | c
    · rw [← dg_mod (put V k d) j k c, a2, dg_mod V j k c]
    · obtain ⟨i, rfl⟩ : ∃ i, j = k + 1 + i := ⟨j - (k + 1), by omega⟩
      rw [← dg_div (put V k d) i (k + 1), a1, dg_div]
theorem wds_put (n V k d : Nat) (hk : k < n) (hd : d < 4294967296) : (wds n V).set k (Value.int .u32 (d : Int)) = wds n (put V k d) := by
  apply List.ext_getElem?
  intro j
  by_cases hj : j < n
  · rw [wds_get n (put V k d) j hj, dg_put V k d j hd]
    by_cases e : j = k
    · subst e
      rw [List.getElem?_set_self (by rw [wds_length]; exact hj), if_pos rfl]
    · rw [List.getElem?_set_ne (by omega), wds_get n V j hj, if_neg e]
  · have h1 : (wds n (put V k d))[j]? = none := by rw [List.getElem?_eq_none_iff, wds_length]; omega
    have h2 : ((wds n V).set k (Value.int .u32 (d : Int)))[j]? = none := by rw [List.getElem?_eq_none_iff, List.length_set, wds_length]; omega
    rw [h1, h2]
theorem put_lt (V k d n : Nat) (hk : k < n) (hV : V < 4294967296 ^ n) (hd : d < 4294967296) : put V k d < 4294967296 ^ n := by
  obtain ⟨i, rfl⟩ : ∃ i, n = k + 1 + i := ⟨n - (k + 1), by omega⟩
  obtain ⟨a1, _, _⟩ := put_hi V k d hd
  have h1 : V / 4294967296 ^ (k + 1) < 4294967296 ^ i := by
    rw [Nat.div_lt_iff_lt_mul (pw_pos _), Nat.mul_comm, ← Nat.pow_add]; exact hV
  rw [← a1, Nat.div_lt_iff_lt_mul (pw_pos _), Nat.mul_comm, ← Nat.pow_add] at h1
  exact h1

/-- The inner loop's state: V with carry c stands for the rows below i and the words below j of row i. -/
def MulAt (A Bv m i j V c : Nat) : Prop :=
  V + c * 4294967296 ^ (i + j) = A % 4294967296 ^ i * Bv + dg A i * (Bv % 4294967296 ^ j) * 4294967296 ^ i ∧ V < 4294967296 ^ (i + m) ∧ c < 4294967296

theorem mulAt_zero (A Bv m i : Nat) (hB : Bv < 4294967296 ^ m) : MulAt A Bv m i 0 (A % 4294967296 ^ i * Bv) 0 := by
  refine ⟨by simp [Nat.mod_one], ?_, by decide⟩
  rw [Nat.pow_add]
  rcases Nat.eq_zero_or_pos Bv with rfl | hp
  · rw [Nat.mul_zero]; exact Nat.mul_pos (pw_pos _) (pw_pos _)
  · exact Nat.mul_lt_mul_of_lt_of_le (Nat.mod_lt _ (pw_pos _)) (Nat.le_of_lt hB) (pw_pos _)

theorem mul_small (a b v c : Nat) (ha : a < 4294967296) (hb : b < 4294967296) (hv : v < 4294967296) (hc : c < 4294967296) : a * b + v + c < 18446744073709551616 := by
  have := Nat.mul_le_mul (show a ≤ 4294967295 by omega) (show b ≤ 4294967295 by omega)
  omega

theorem mulAt_step {A Bv m i j V c : Nat} (h : MulAt A Bv m i j V c) (hj : j < m) :
    MulAt A Bv m i (j + 1) (put V (i + j) ((dg A i * dg Bv j + dg V (i + j) + c) % 4294967296)) ((dg A i * dg Bv j + dg V (i + j) + c) / 4294967296) := by
  obtain ⟨h1, h2, h3⟩ := h
  have hs := mul_small _ _ _ _ (dg_lt A i) (dg_lt Bv j) (dg_lt V (i + j)) h3
  refine ⟨?_, put_lt V (i + j) _ (i + m) (by omega) h2 (Nat.mod_lt _ (by decide)), by omega⟩
  have hp := put_same V (i + j) ((dg A i * dg Bv j + dg V (i + j) + c) % 4294967296)
  have hx := Nat.div_add_mod (dg A i * dg Bv j + dg V (i + j) + c) 4294967296
  have hb : Bv % 4294967296 ^ (j + 1) = Bv % 4294967296 ^ j + 4294967296 ^ j * dg Bv j := by rw [Nat.pow_succ, Nat.mod_mul]; rfl
  rw [hb]
  generalize (dg A i * dg Bv j + dg V (i + j) + c) % 4294967296 = r at *
  generalize (dg A i * dg Bv j + dg V (i + j) + c) / 4294967296 = q at *
  generalize put V (i + j) r = V' at *
  have e1 : q * 4294967296 ^ (i + (j + 1)) = 4294967296 * q * 4294967296 ^ (i + j) := by
    rw [← Nat.add_assoc, Nat.pow_succ]
    simp only [Nat.mul_assoc, Nat.mul_left_comm, Nat.mul_comm]
  have e2 : dg A i * (Bv % 4294967296 ^ j + 4294967296 ^ j * dg Bv j) * 4294967296 ^ i = dg A i * (Bv % 4294967296 ^ j) * 4294967296 ^ i + dg A i * dg Bv j * 4294967296 ^ (i + j) := by
    rw [Nat.mul_add, Nat.add_mul, Nat.pow_add]
    congr 1
    simp only [Nat.mul_assoc, Nat.mul_left_comm, Nat.mul_comm]
  have e3 : (4294967296 * q + r) * 4294967296 ^ (i + j) = (dg A i * dg Bv j + dg V (i + j) + c) * 4294967296 ^ (i + j) := by rw [hx]
  rw [e1, e2]
  simp only [Nat.add_mul] at e3
  omega

theorem mulAt_end {A Bv m i V c : Nat} (h : MulAt A Bv m i m V c) (hB : Bv < 4294967296 ^ m) : put V (i + m) c = A % 4294967296 ^ (i + 1) * Bv := by
  obtain ⟨h1, h2, h3⟩ := h
  have hp := put_same V (i + m) c
  have hz : dg V (i + m) = 0 := dg_zero h2 (Nat.le_refl _)
  have hb : A % 4294967296 ^ (i + 1) = A % 4294967296 ^ i + 4294967296 ^ i * dg A i := by rw [Nat.pow_succ, Nat.mod_mul]; rfl
  rw [hz, Nat.zero_mul, Nat.add_zero] at hp
  rw [Nat.mod_eq_of_lt hB] at h1
  rw [hp, h1, hb, Nat.add_mul]
  congr 1
  simp only [Nat.mul_assoc, Nat.mul_left_comm, Nat.mul_comm]
end Go.Proofs.YtkflpogmhailhaaGreatDoor
