/- The sum of two numbers as the program makes it: the lesser one is cut beside the greater one. -/
import Derived.Test.YtfakbjgbbcigpaaGreatDoorA6
set_option linter.unusedVariables false
namespace Go.Proofs.YtfakbjgbbcigpaaGreatDoor

theorem bothM_swap (x y : Opd) : bothM y x = ((bothM x y).2, (bothM x y).1) := by
  unfold bothM; rw [show min y.e x.e = min x.e y.e by omega]

theorem totO_comm (mode : Int) (x y : Opd) : totO mode x y = totO mode y x := by
  unfold totO
  rw [bothM_swap x y, show min y.e x.e = min x.e y.e by omega]
  obtain ⟨a, b⟩ := bothM x y
  dsimp only
  by_cases hs : x.s = y.s
  · rw [if_pos hs, if_pos hs.symm, hs, Nat.add_comm]
  · have hs' : ¬ y.s = x.s := fun h => hs h.symm
    rw [if_neg hs, if_neg hs']
    by_cases h1 : a = b
    · rw [if_pos h1, if_pos h1.symm]
    · have h1' : ¬ b = a := fun h => h1 h.symm
      rw [if_neg h1, if_neg h1']
      by_cases h2 : b < a
      · rw [if_pos h2, if_neg (show ¬ a < b by omega)]
      · rw [if_neg h2, if_pos (show a < b by omega)]

theorem sumO_comm (mode : Int) (x y : Opd) (h : x.c = y.c → x.s = y.s → x.c ≠ 1 → x = y) : sumO mode x y = sumO mode y x := by
  unfold sumO
  rw [show max y.c x.c = max x.c y.c by omega]
  by_cases h1 : 3 ≤ max x.c y.c
  · rw [if_pos h1, if_pos h1]
  · rw [if_neg h1, if_neg h1]
    by_cases h2 : y.c < x.c
    · rw [if_pos h2, if_neg (show ¬ x.c < y.c by omega), if_pos h2]
    · by_cases h3 : x.c < y.c
      · rw [if_neg h2, if_pos h3, if_pos h3]
      · rw [if_neg h2, if_neg h3, if_neg h3, if_neg h2]
        have hc : x.c = y.c := by omega
        by_cases h4 : x.c = 1
        · rw [if_pos h4, if_pos (show y.c = 1 by omega), totO_comm]
        · rw [if_neg h4, if_neg (show ¬ y.c = 1 by omega)]
          by_cases h5 : x.s = y.s
          · rw [if_pos h5, if_pos h5.symm]; exact h hc h5 h4
          · have h5' : ¬ y.s = x.s := fun k => h5 k.symm
            rw [if_neg h5, if_neg h5', hc]

theorem prodO_comm (x y : Opd) : prodO x y = prodO y x := by
  have hm : mulS y.s x.s = mulS x.s y.s := by unfold mulS; split <;> split <;> first | rfl | (exfalso; omega)
  unfold prodO
  rw [hm, show max y.c x.c = max x.c y.c by omega, show min y.c x.c = min x.c y.c by omega, show y.e + x.e = x.e + y.e by omega, Nat.mul_comm y.M x.M]

/-- What the program holds (class, sign, exponent, two words, rest) stands for an operand. -/
def Same (o : Opd) (c s e : Int) (M : Nat) (st : Bool) : Prop :=
  o.c = c ∧ (c ≤ 2 → o.s = s) ∧ (c = 1 → 0 < M ∧ M < 340282366920938463463374607431768211456 ∧ (st = true → 55 ≤ nb M) ∧ -100000 ≤ e ∧ e ≤ 100000 ∧
    ∀ p mn mx one inf mode z fl, 0 ≤ p → p ≤ 53 → (RoundIs p mn mx one inf mode s M e st z fl ↔ RoundIs p mn mx one inf mode s o.M o.e false z fl))

theorem Same.self (x : Opd) (h : x.c = 1 → 0 < x.M ∧ x.M < 340282366920938463463374607431768211456 ∧ -100000 ≤ x.e ∧ x.e ≤ 100000) : Same x x.c x.s x.e x.M false :=
  ⟨rfl, fun _ => rfl, fun c => ⟨(h c).1, (h c).2.1, (fun k => by cases k), (h c).2.2.1, (h c).2.2.2, fun p mn mx one inf mode z fl _ _ => Iff.rfl⟩⟩

/-- A number lifted so that its highest bit lies next to the top. -/
theorem lift_bounds (M : Nat) (h : 0 < M) (hn : nb M ≤ 106) : 85070591730234615865843651857942052864 ≤ M * 2 ^ (127 - nb M) ∧ M * 2 ^ (127 - nb M) < 170141183460469231731687303715884105728 := by
  have h1 := nb_scale M (127 - nb M) h
  have h2 : nb (M * 2 ^ (127 - nb M)) = 127 := by omega
  have h3 := nb_lt (M * 2 ^ (127 - nb M))
  have h4 := nb_ge (M * 2 ^ (127 - nb M)) (Nat.mul_pos h (Nat.pow_pos (by decide)))
  rw [h2] at h3 h4
  exact ⟨by simpa using h4, by simpa using h3⟩

/-- Both numbers in the units of the lifted lesser one. -/
theorem align (x y : Opd) (lx ly : Nat) (ex' ey' : Int) (d : Nat) (hx : ex' = x.e - lx) (hy : ey' = y.e - ly) (hd : (d : Int) = ex' - ey') :
    ∃ k : Nat, min x.e y.e - k = ey' ∧ (bothM x y).1 * 2 ^ k = x.M * 2 ^ lx * 2 ^ d ∧ (bothM x y).2 * 2 ^ k = y.M * 2 ^ ly := by
  refine ⟨(min x.e y.e - ey').toNat, by omega, ?_, ?_⟩
  · unfold bothM; dsimp only
    rw [Nat.mul_assoc, Nat.mul_assoc, ← Nat.pow_add, ← Nat.pow_add]
    congr 2; omega
  · unfold bothM; dsimp only
    rw [Nat.mul_assoc, ← Nat.pow_add]
    congr 2; omega

theorem div_add_pow (A B d : Nat) : (A * 2 ^ d + B) / 2 ^ d = A + B / 2 ^ d ∧ (A * 2 ^ d + B) % 2 ^ d = B % 2 ^ d := by
  have hp : 0 < 2 ^ d := Nat.pow_pos (by decide)
  rw [Nat.add_comm, Nat.add_mul_div_right _ _ hp, Nat.add_mul_mod_self_right, Nat.add_comm]
  exact ⟨rfl, rfl⟩

theorem div_sub_pow (A B d : Nat) (h : B ≤ A * 2 ^ d) :
    (B % 2 ^ d = 0 → (A * 2 ^ d - B) / 2 ^ d = A - B / 2 ^ d ∧ (A * 2 ^ d - B) % 2 ^ d = 0 ∧ B / 2 ^ d ≤ A ∧ A * 2 ^ d - B = (A - B / 2 ^ d) * 2 ^ d) ∧
    (B % 2 ^ d ≠ 0 → (A * 2 ^ d - B) / 2 ^ d = A - (B / 2 ^ d + 1) ∧ (A * 2 ^ d - B) % 2 ^ d ≠ 0 ∧ B / 2 ^ d + 1 ≤ A) := by
  have hp : 0 < 2 ^ d := Nat.pow_pos (by decide)
  have hB := Nat.div_add_mod B (2 ^ d)
  have hr := Nat.mod_lt B hp
  generalize B / 2 ^ d = Q at *
  generalize B % 2 ^ d = R at *
  generalize 2 ^ d = T at *
  have hle : Q ≤ A := by
    apply Nat.le_of_mul_le_mul_left _ hp
    rw [Nat.mul_comm T A]; omega
  obtain ⟨D, rfl⟩ : ∃ D, A = Q + D := ⟨A - Q, by omega⟩
  have e1 : (Q + D) * T = T * Q + D * T := by rw [Nat.add_mul, Nat.mul_comm Q T]
  constructor
  · intro h0
    subst h0
    have e2 : (Q + D) * T - B = D * T := by omega
    rw [e2, Nat.mul_div_cancel _ hp, Nat.mul_mod_left]
    have e3 : Q + D - Q = D := by omega
    rw [e3]
    exact ⟨rfl, rfl, by omega, rfl⟩
  · intro h0
    have hD : 0 < D := by
      rcases Nat.eq_zero_or_pos D with c | c
      · subst c; rw [e1] at h; simp at h; omega
      · exact c
    obtain ⟨D', rfl⟩ : ∃ D', D = D' + 1 := ⟨D - 1, by omega⟩
    have e4 : (D' + 1) * T = D' * T + T := by rw [Nat.add_mul, Nat.one_mul]
    have e2 : (Q + (D' + 1)) * T - B = (T - R) + D' * T := by omega
    rw [e2, Nat.add_mul_div_right _ _ hp, Nat.add_mul_mod_self_right, Nat.div_eq_of_lt (by omega), Nat.mod_eq_of_lt (by omega)]
    exact ⟨by omega, by omega, by omega⟩

/-- The rest of a lifted number is 0 but for distances of 22 and more. -/
theorem lift_rest (M d : Nat) (h : nb M ≤ 106) (hr : M * 2 ^ (127 - nb M) % 2 ^ d ≠ 0) : 22 ≤ d := by
  rcases Nat.lt_or_ge d 22 with c | c
  · exfalso; apply hr
    have : 127 - nb M = (127 - nb M - d) + d := by omega
    rw [this, Nat.pow_add, ← Nat.mul_assoc]
    exact Nat.mul_mod_left _ _
  · exact c

theorem tot_same (mode : Int) (x y : Opd) (A B d : Nat) (ex' ey' : Int) (hx0 : 0 < x.M) (hxn : nb x.M ≤ 106) (hy0 : 0 < y.M) (hyn : nb y.M ≤ 106) (hA : A = x.M * 2 ^ (127 - nb x.M)) (hB : B = y.M * 2 ^ (127 - nb y.M))
    (hex : ex' = x.e - (127 - nb x.M : Nat)) (hey : ey' = y.e - (127 - nb y.M : Nat)) (hd : (d : Int) = ex' - ey') (hge : d = 0 → B ≤ A) (xb : -50000 ≤ x.e ∧ x.e ≤ 50000) :
    (x.s = y.s → A + B / 2 ^ d < 340282366920938463463374607431768211456 ∧ Same (totO mode x y) 1 x.s ex' (A + B / 2 ^ d) (decide (B % 2 ^ d ≠ 0))) ∧
    (x.s ≠ y.s → B % 2 ^ d ≠ 0 → B / 2 ^ d + 1 ≤ A ∧ 0 < A - (B / 2 ^ d + 1) ∧ Same (totO mode x y) 1 x.s ex' (A - (B / 2 ^ d + 1)) true) ∧
    (x.s ≠ y.s → B % 2 ^ d = 0 → B / 2 ^ d ≤ A ∧ (0 < A - B / 2 ^ d → Same (totO mode x y) 1 x.s ex' (A - B / 2 ^ d) false) ∧ (A - B / 2 ^ d = 0 → totO mode x y = nilO mode)) := by
  obtain ⟨a1, a2⟩ := lift_bounds x.M hx0 hxn
  obtain ⟨b1, b2⟩ := lift_bounds y.M hy0 hyn
  rw [← hA] at a1 a2
  rw [← hB] at b1 b2
  obtain ⟨k, hk, hk1, hk2⟩ := align x y (127 - nb x.M) (127 - nb y.M) ex' ey' d hex hey hd
  rw [← hA] at hk1
  rw [← hB] at hk2
  have hBd : B / 2 ^ d ≤ B := Nat.div_le_self _ _
  have kp : 0 < 2 ^ k := Nat.pow_pos (by decide)
  have dp : 0 < 2 ^ d := Nat.pow_pos (by decide)
  have hnA : nb A = 127 := by rw [hA, nb_scale _ _ hx0]; omega
  obtain ⟨a, ha⟩ : ∃ a, (bothM x y).1 = a := ⟨_, rfl⟩
  obtain ⟨b, hb⟩ : ∃ b, (bothM x y).2 = b := ⟨_, rfl⟩
  rw [ha] at hk1
  rw [hb] at hk2
  have eb : -100000 ≤ ex' ∧ ex' ≤ 100000 := by omega
  have hed : ey' + d = ex' := by omega
  unfold totO
  rw [ha, hb]
  have V1 := div_add_pow A B d
  have V2 := div_sub_pow A B d
  have hr22 : B % 2 ^ d ≠ 0 → 22 ≤ d := fun hr => by rw [hB] at hr; exact lift_rest y.M d hyn hr
  have hq22 : 4194304 ≤ 2 ^ d → B / 2 ^ d < 40564819207303340847894502572032 := fun hp22 => by
    rw [Nat.div_lt_iff_lt_mul dp]
    exact Nat.lt_of_lt_of_le (show B < 40564819207303340847894502572032 * 4194304 by omega) (Nat.mul_le_mul_left _ hp22)
  generalize B / 2 ^ d = Q at *
  refine ⟨fun hs => ?_, fun hs hr => ?_, fun hs hr => ?_⟩
  · rw [if_pos hs]
    refine ⟨by omega, rfl, fun _ => rfl, fun _ => ⟨by omega, by omega, fun _ => ?_, eb.1, eb.2, fun p mn mx one inf md z fl p0 p1 => ?_⟩⟩
    · have := nb_gt (N := A + Q) (k := 126) (by simpa using (show 85070591730234615865843651857942052864 ≤ A + Q by omega)); omega
    · obtain ⟨t1, t2⟩ := V1
      have hn : 126 < nb (A + Q) := nb_gt (by simpa using (show 85070591730234615865843651857942052864 ≤ A + Q by omega))
      have T := RoundIs.trunc (p := p) (mn := mn) (mx := mx) (one := one) (inf := inf) (mode := md) (sign := x.s) (X := A * 2 ^ d + B) (e := ey') (z := z) (fl := fl) d (by rw [t1]; omega) p0 (fun _ => by rw [t1]; omega)
      rw [t1, t2, hed] at T
      rw [T]
      have hab : (a + b) * 2 ^ k = A * 2 ^ d + B := by rw [Nat.add_mul, hk1, hk2]
      have S := RoundIs.scale (p := p) (mn := mn) (mx := mx) (one := one) (inf := inf) (mode := md) (sign := x.s) (M := a + b) (e := min x.e y.e) (z := z) (fl := fl) k (by
        rcases Nat.eq_zero_or_pos (a + b) with c | c
        · rw [c] at hab; simp at hab; omega
        · exact c)
      rw [hab, hk] at S
      exact S
  · rw [if_neg hs]
    have hd22 : 22 ≤ d := hr22 hr
    have hp22 : (4194304 : Nat) ≤ 2 ^ d := by have := pow2_mono hd22; simpa using this
    have hq := hq22 hp22
    have hBA : B ≤ A * 2 ^ d := Nat.le_trans (show B ≤ A * 4194304 by omega) (Nat.mul_le_mul_left _ hp22)
    obtain ⟨t1, t2, t3⟩ := (V2 hBA).2 hr
    have hlt : b * 2 ^ k < a * 2 ^ k := by
      rw [hk1, hk2]
      exact Nat.lt_of_lt_of_le (show B < A * 4194304 by omega) (Nat.mul_le_mul_left _ hp22)
    have hba : b < a := Nat.lt_of_mul_lt_mul_right hlt
    rw [if_neg (by omega), if_pos hba]
    have hn : 125 < nb (A - (Q + 1)) := nb_gt (by simpa using (show 42535295865117307932921825928971026432 ≤ A - (Q + 1) by omega))
    refine ⟨t3, by omega, rfl, fun _ => rfl, fun _ => ⟨by omega, by omega, fun _ => by omega, eb.1, eb.2, fun p mn mx one inf md z fl p0 p1 => ?_⟩⟩
    have T := RoundIs.trunc (p := p) (mn := mn) (mx := mx) (one := one) (inf := inf) (mode := md) (sign := x.s) (X := A * 2 ^ d - B) (e := ey') (z := z) (fl := fl) d (by rw [t1]; omega) p0 (fun _ => by rw [t1]; omega)
    rw [t1, hed, decide_eq_true t2] at T
    rw [T]
    have hab : (a - b) * 2 ^ k = A * 2 ^ d - B := by rw [Nat.sub_mul, hk1, hk2]
    have S := RoundIs.scale (p := p) (mn := mn) (mx := mx) (one := one) (inf := inf) (mode := md) (sign := x.s) (M := a - b) (e := min x.e y.e) (z := z) (fl := fl) k (by omega)
    rw [hab, hk] at S
    exact S
  · rw [if_neg hs]
    have hBA : B ≤ A * 2 ^ d := by
      rcases Nat.eq_zero_or_pos d with c | c
      · subst c; have := hge rfl; omega
      · have h2 : 2 ≤ 2 ^ d := by have := pow2_mono c; simpa using this
        exact Nat.le_trans (show B ≤ A * 2 by omega) (Nat.mul_le_mul_left _ h2)
    obtain ⟨t1, t2, t3, t4⟩ := (V2 hBA).1 hr
    have hle : b * 2 ^ k ≤ a * 2 ^ k := by rw [hk1, hk2]; exact hBA
    have hba : b ≤ a := Nat.le_of_mul_le_mul_right hle kp
    have hab : (a - b) * 2 ^ k = A * 2 ^ d - B := by rw [Nat.sub_mul, hk1, hk2]
    refine ⟨t3, fun hpos => ?_, fun hz => ?_⟩
    · have hne : a ≠ b := by
        intro h
        rw [h, Nat.sub_self, Nat.zero_mul] at hab
        have := Nat.mul_pos hpos dp
        omega
      rw [if_neg hne, if_pos (by omega)]
      refine ⟨rfl, fun _ => rfl, fun _ => ⟨hpos, by omega, (fun h => by cases h), eb.1, eb.2, fun p mn mx one inf md z fl p0 p1 => ?_⟩⟩
      have T := RoundIs.trunc (p := p) (mn := mn) (mx := mx) (one := one) (inf := inf) (mode := md) (sign := x.s) (X := A * 2 ^ d - B) (e := ey') (z := z) (fl := fl) d (by rw [t1]; omega) p0 (fun h => absurd t2 h)
      rw [t1, hed, decide_eq_false (by simpa using t2)] at T
      rw [T]
      have S := RoundIs.scale (p := p) (mn := mn) (mx := mx) (one := one) (inf := inf) (mode := md) (sign := x.s) (M := a - b) (e := min x.e y.e) (z := z) (fl := fl) k (by omega)
      rw [hab, hk] at S
      exact S
    · rw [hz, Nat.zero_mul] at t4
      have : a = b := by
        apply Nat.eq_of_mul_eq_mul_right kp
        omega
      rw [if_pos this]
end Go.Proofs.YtfakbjgbbcigpaaGreatDoor
