import Derived.Test.YtnbbfeknbfohhaaGreatDoorA6
import Derived.Test.YtnbbfeknbfohhaaGreatDoorB7
import Derived.Test.YtnbbfeknbfohhaaGreatDoorC0
import Derived.Deep.RegionHeld3
set_option linter.unusedVariables false
set_option linter.unusedSimpArgs false
namespace Go.Proofs.YtnbbfeknbfohhaaGreatDoor
def dW (k : Nat) : Nat := 1152921504606846976 / 2 ^ k
def dS (c : Nat → Nat → Nat) (N : Nat) : Nat → Nat × Nat
 | 0 => (0, N)
 | k + 1 => if c (dS c N k).1 (dW k) ≤ (dS c N k).2 then ((dS c N k).1 ||| dW k, ((dS c N k).2 - c (dS c N k).1 (dW k)) * 2 % 18446744073709551616) else ((dS c N k).1, (dS c N k).2 * 2 % 18446744073709551616)
def dD (c : Nat → Nat → Nat) (N k : Nat) : Nat := if c (dS c N k).1 (dW k) ≤ (dS c N k).2 then 1 else 0
def dR (c : Nat → Nat → Nat) (N k : Nat) : Nat := if c (dS c N k).1 (dW k) ≤ (dS c N k).2 then (dS c N k).2 - c (dS c N k).1 (dW k) else (dS c N k).2
theorem or_add (t w : Nat) (i : Nat) (h : w = 2 ^ i) : (2 * w * t) ||| w = 2 * w * t + w := by
 subst h
 rw [show 2 * 2 ^ i = 2 ^ (i + 1) by rw [Nat.pow_succ, Nat.mul_comm], Nat.two_pow_add_eq_or_of_lt (Nat.pow_lt_pow_right (by decide) (by omega))]
end Go.Proofs.YtnbbfeknbfohhaaGreatDoor
namespace Go.Proofs.YtnbbfeknbfohhaaGreatDoor
def oneIf (t : Bool) : Nat := if t then 1 else 0
theorem oneIf_le (t : Bool) : oneIf t ≤ 1 := by cases t <;> decide
theorem RoundIs.cut {p mn mx one inf mode sign : Int} {m : Nat} {e z fl : Int} (k : Nat) (t : Bool) (hX : 0 < m / 2 ^ k) (hp : 0 ≤ p) (hn : p + 2 ≤ (nb (m / 2 ^ k) : Int)) (st : Bool) (hst : st = (decide (m % 2 ^ k ≠ 0) || t)) :
  RoundIs p mn mx one inf mode sign (m / 2 ^ k) (e + k) st z fl ↔ RoundIs p mn mx one inf mode sign (2 * m + oneIf t) (e - 1) false z fl := by
 have hb := oneIf_le t
 have hp2 : 0 < 2 ^ k := Nat.pow_pos (by decide)
 have e1 : (2 * m + oneIf t) / 2 ^ (k + 1) = m / 2 ^ k := by
  rw [Nat.pow_succ, Nat.mul_comm (2 ^ k) 2, ← Nat.div_div_eq_div_mul]
  rw [show (2 * m + oneIf t) / 2 = m by omega]
 have e2 : (2 * m + oneIf t) % 2 ^ (k + 1) = 2 * (m % 2 ^ k) + oneIf t := by
  have h1 := Nat.div_add_mod (2 * m + oneIf t) (2 ^ (k + 1))
  rw [e1] at h1
  have h2 := Nat.div_add_mod m (2 ^ k)
  have h3 : 2 ^ (k + 1) * (m / 2 ^ k) = 2 * (2 ^ k * (m / 2 ^ k)) := by rw [Nat.pow_succ, Nat.mul_comm (2 ^ k) 2, Nat.mul_assoc]
  omega
 have h := RoundIs.trunc (p := p) (mn := mn) (mx := mx) (one := one) (inf := inf) (mode := mode) (sign := sign) (X := 2 * m + oneIf t) (e := e - 1) (z := z) (fl := fl) (k + 1) (by rw [e1]; exact hX) hp (fun _ => by rw [e1]; exact hn)
 rw [e1, e2, show e - 1 + ((k + 1 : Nat) : Int) = e + k by omega] at h
 have e3 : decide (2 * (m % 2 ^ k) + oneIf t ≠ 0) = st := by
  rw [hst]
  cases t
  ·simp [oneIf]; omega
  ·simp [oneIf]
 rw [e3] at h
 exact h
theorem RoundIs.rest {p mn mx one inf mode sign : Int} {m : Nat} {e z fl : Int} (t : Bool) (hX : 0 < m) (hp : 0 ≤ p) (hn : p + 2 ≤ (nb m : Int)) :
  RoundIs p mn mx one inf mode sign m e t z fl ↔ RoundIs p mn mx one inf mode sign (2 * m + oneIf t) (e - 1) false z fl := by
 have h := RoundIs.cut (p := p) (mn := mn) (mx := mx) (one := one) (inf := inf) (mode := mode) (sign := sign) (m := m) (e := e) (z := z) (fl := fl) 0 t (by rw [Nat.pow_zero, Nat.div_one]; exact hX) hp (by rw [Nat.pow_zero, Nat.div_one]; exact hn) t (by rw [Nat.pow_zero, Nat.mod_one]; simp)
 rw [Nat.pow_zero, Nat.div_one, show e + ((0 : Nat) : Int) = e by omega] at h
 exact h
theorem quo_cut (A B s k : Nat) (hB : 0 < B) : A * 2 ^ (s + k) / B / 2 ^ k = A * 2 ^ s / B ∧ (decide (A * 2 ^ (s + k) / B % 2 ^ k ≠ 0) || decide (A * 2 ^ (s + k) % B ≠ 0)) = decide (A * 2 ^ s % B ≠ 0) := by
 have hp2 : 0 < 2 ^ k := Nat.pow_pos (by decide)
 have e0 : A * 2 ^ (s + k) = A * 2 ^ s * 2 ^ k := by rw [Nat.pow_add, Nat.mul_assoc]
 rw [e0]
 obtain ⟨X, hX⟩ : ∃ X, X = A * 2 ^ s := ⟨_, rfl⟩
 rw [← hX]
 have e1 : X * 2 ^ k / B / 2 ^ k = X / B := by rw [Nat.div_div_eq_div_mul, Nat.mul_div_mul_right _ _ hp2]
 refine ⟨e1, ?_⟩
 have h1 := Nat.div_add_mod (X * 2 ^ k) B
 have h2 := Nat.div_add_mod (X * 2 ^ k / B) (2 ^ k)
 have h3 := Nat.div_add_mod X B
 rw [e1] at h2
 by_cases c : X % B = 0
 ·rw [c, Nat.add_zero] at h3
  have h4 : X * 2 ^ k = B * (X / B * 2 ^ k) := by rw [← Nat.mul_assoc, h3]
  have h5 : X * 2 ^ k / B = X / B * 2 ^ k := by rw [h4, Nat.mul_div_cancel_left _ hB]
  have h6 : X * 2 ^ k % B = 0 := by rw [h4]; exact Nat.mul_mod_right _ _
  rw [h5, Nat.mul_mod_left, h6, c]
  rfl
 ·rw [decide_eq_true (p := X % B ≠ 0) c]
  by_cases c1 : X * 2 ^ k % B = 0
  ·by_cases c2 : X * 2 ^ k / B % 2 ^ k = 0
   ·exfalso
    rw [c1, Nat.add_zero] at h1
    rw [c2, Nat.add_zero] at h2
    rw [← h2, Nat.mul_comm (2 ^ k), ← Nat.mul_assoc] at h1
    have h7 : B * (X / B) = X := Nat.eq_of_mul_eq_mul_right hp2 h1
    omega
   ·simp [c2]
  ·simp [c1]
theorem quo_big (A B s q : Nat) (hB : 0 < B) (hA : 2 ^ q * B ≤ A * 2 ^ s) : q + 1 ≤ nb (A * 2 ^ s / B) := by
 have : 2 ^ q ≤ A * 2 ^ s / B := by rw [Nat.le_div_iff_mul_le hB]; exact hA
 exact nb_gt this
def IsRoot (m r : Nat) : Prop := r * r ≤ m ∧ m < (r + 1) * (r + 1)
theorem mul_self_lt {a b : Nat} (h : a * a < b * b) : a < b := by
 rcases Nat.lt_or_ge a b with c | c
 ·exact c
 ·have := Nat.mul_le_mul c c; omega
theorem IsRoot.one {m r s : Nat} (h : IsRoot m r) (k : IsRoot m s) : r = s := by
 have h1 : r < s + 1 := mul_self_lt (Nat.lt_of_le_of_lt h.1 k.2)
 have h2 : s < r + 1 := mul_self_lt (Nat.lt_of_le_of_lt k.1 h.2)
 omega
theorem IsRoot.scale {m r C : Nat} (t : Nat) (h : IsRoot m C) (k : IsRoot (m * 2 ^ (2 * t)) r) : r / 2 ^ t = C ∧ (decide (r % 2 ^ t ≠ 0) || decide (r * r ≠ m * 2 ^ (2 * t))) = decide (C * C ≠ m) := by
 have hp2 : 0 < 2 ^ t := Nat.pow_pos (by decide)
 have e0 : 2 ^ (2 * t) = 2 ^ t * 2 ^ t := by rw [← Nat.pow_add]; congr 1; omega
 rw [e0] at k ⊢
 obtain ⟨P, hP⟩ : ∃ P, P = 2 ^ t := ⟨_, rfl⟩
 rw [← hP] at k hp2 ⊢
 have sq : ∀ a : Nat, a * P * (a * P) = a * a * (P * P) := fun a => by simp only [Nat.mul_comm, Nat.mul_left_comm, Nat.mul_assoc]
 have e1 : C * P ≤ r := by
  have : C * P * (C * P) < (r + 1) * (r + 1) := by
   rw [sq]; exact Nat.lt_of_le_of_lt (Nat.mul_le_mul_right _ h.1) k.2
  have := mul_self_lt this
  omega
 have e2 : r < (C + 1) * P := by
  refine mul_self_lt (Nat.lt_of_le_of_lt k.1 ?_)
  rw [sq]
  exact Nat.mul_lt_mul_of_pos_right h.2 (Nat.mul_pos hp2 hp2)
 have e3 : r / P = C := by
  rw [Nat.div_eq_iff hp2]
  rw [Nat.add_mul] at e2
  omega
 refine ⟨e3, ?_⟩
 have h2 := Nat.div_add_mod r P
 rw [e3] at h2
 by_cases c : C * C = m
 ·have : IsRoot (m * (P * P)) (C * P) := by
   refine ⟨?_, ?_⟩
   ·rw [sq, c]; exact Nat.le_refl _
   ·rw [← c, ← sq]; exact Nat.mul_lt_mul'' (Nat.lt_succ_self _) (Nat.lt_succ_self _)
  have hr := k.one this
  have h4 : r % P = 0 := by rw [hr]; exact Nat.mul_mod_left _ _
  have h5 : r * r = m * (P * P) := by rw [hr, sq, c]
  rw [h4, h5, c]
  simp
 ·rw [decide_eq_true (p := C * C ≠ m) c]
  by_cases c1 : r % P = 0
  ·by_cases c2 : r * r = m * (P * P)
   ·exfalso
    rw [c1, Nat.add_zero, Nat.mul_comm] at h2
    rw [← h2, sq] at c2
    exact c (Nat.eq_of_mul_eq_mul_right (Nat.mul_pos hp2 hp2) c2)
   ·simp [c2]
  ·simp [c1]
end Go.Proofs.YtnbbfeknbfohhaaGreatDoor
set_option maxHeartbeats 40000000
namespace Go.Proofs.YtnbbfeknbfohhaaGreatDoor
open Go.RowKit
theorem twH40 {P : Prop} (h : P := by
 refine bodyPost_ret (v := .agg #[.int .u64 z, .int .i64 fl]) (by simp [results, Tryz.results130, go_sem, er0, er1]) rfl ⟨z, fl, hr, rfl, ?_⟩
 exact Gr.g) : P := h
set_option maxRecDepth 1000000 in
theorem calc_no (p mn mx md nan f mode a b : Int) {w : World} (HF : Hid (∀ w', Gr w w' → Calls Tryz.prog 70 #[.int .i64 f, .int .i64 mode] w' fun x w'' => x = .returned (.tuple #[.agg #[.int .i64 p, .int .i64 mn, .int .i64 mx, .int .i64 md, Value.nilFunc], .bool false]) ∧ Gr w' w''))
  (HN : KR 176 #[.agg #[.int .i64 p, .int .i64 mn, .int .i64 mx]] (.agg #[.int .u64 nan, .int .i64 1])) (own : Nat) :
  Calls Tryz.prog 130 #[.int .i64 f, .int .i64 mode, .func (.func own) #[] #[], .int .u64 a, .int .u64 b] w fun e w' => e = .returned (.agg #[.int .u64 nan, .int .i64 1]) ∧ Gr w w' := by
 go_enter Tryz.func130, Tryz.ntmps130
 go_wp2_with (first
  | (go_at_call 70; refine (HF.out _ Gr.g).mono ?_; rintro x w1 ⟨rfl, hg_w1⟩; obtain ⟨kr0, krz0, kr1, krz1⟩ := hg_w1.y2 w.heap.size 0 1 (.int .u64 0) (.int .i64 0))
  | (go_at_call 176; refine (HN.out _).mono ?_; rintro x w2 ⟨rfl, hg_w2⟩; obtain ⟨br0, brz0, br1, brz1⟩ := hg_w2.y2 w.heap.size 0 1 (.int .u64 0) (.int .i64 0)))
 refine bodyPost_ret (v := .agg #[.int .u64 nan, .int .i64 1]) (by simp [results, Tryz.results130, go_sem, br0, br1]) rfl ⟨rfl, ?_⟩
 exact Gr.g
set_option maxRecDepth 1000000 in
theorem calc_ok (p mn mx md f : Int) (k own : Nat) (a b sx ex cx xh xl sy ey cy yh yl : Int) (tx ty : Bool) {w : World} (HF : Hid (∀ w', Gr w w' → Calls Tryz.prog 70 #[.int .i64 f, .int .i64 md] w' fun x w'' => x = .returned (.tuple #[.agg #[.int .i64 p, .int .i64 mn, .int .i64 mx, .int .i64 md, .func (.func k) #[] #[]], .bool true]) ∧ Gr w' w''))
  (HA : KR 73 #[.agg #[.int .i64 p, .int .i64 mn, .int .i64 mx], .int .u64 a] (.agg #[.int .i64 sx, .int .i64 ex, .int .i64 cx, .int .u64 xh, .int .u64 xl, .bool tx, .int .i64 0])) (HB : KR 73 #[.agg #[.int .i64 p, .int .i64 mn, .int .i64 mx], .int .u64 b] (.agg #[.int .i64 sy, .int .i64 ey, .int .i64 cy, .int .u64 yh, .int .u64 yl, .bool ty, .int .i64 0])) (Q : Int → Int → Int → Int → Int → Bool → Prop) (HC : Hid (∀ w, Calls Tryz.prog 74 #[.agg #[.int .i64 p, .int .i64 mn, .int .i64 mx, .int .i64 md, .func (.func k) #[] #[]], .func (.func own) #[] #[], .agg #[.int .i64 sx, .int .i64 ex, .int .i64 cx, .int .u64 xh, .int .u64 xl, .bool tx, .int .i64 0], .agg #[.int .i64 sy, .int .i64 ey, .int .i64 cy, .int .u64 yh, .int .u64 yl, .bool ty, .int .i64 0]] w fun e w' => ∃ os oe oc oh ol ot, Q os oe oc oh ol ot ∧ e = .returned (.agg #[.int .i64 os, .int .i64 oe, .int .i64 oc, .int .u64 oh, .int .u64 ol, .bool ot, .int .i64 0]) ∧ Gr w w'))
  (R : Int → Int → Prop) (HP : Hid (∀ os oe oc oh ol ot w, Q os oe oc oh ol ot → Calls Tryz.prog 177 #[.agg #[.int .i64 p, .int .i64 mn, .int .i64 mx, .int .i64 md, .func (.func k) #[] #[]], .agg #[.int .i64 os, .int .i64 oe, .int .i64 oc, .int .u64 oh, .int .u64 ol, .bool ot, .int .i64 0]] w fun e w' => ∃ z fl, R z fl ∧ e = .returned (.agg #[.int .u64 z, .int .i64 fl]) ∧ Gr w w')) :
  Calls Tryz.prog 130 #[.int .i64 f, .int .i64 md, .func (.func own) #[] #[], .int .u64 a, .int .u64 b] w fun e w' => ∃ z fl, R z fl ∧ e = .returned (.agg #[.int .u64 z, .int .i64 fl]) ∧ Gr w w' := by
 go_enter Tryz.func130, Tryz.ntmps130
 go_wp2_with (go_at_call 70; refine (HF.out _ Gr.g).mono ?_; rintro x w1 ⟨rfl, hg_w1⟩; obtain ⟨kr0, krz0, kr1, krz1⟩ := hg_w1.y2 w.heap.size 0 1 (.int .u64 0) (.int .i64 0); have hz1 := cell_size kr0)
 go_region_held3 (fun w' => w'.cell? ⟨w1.heap.size, 0, none⟩ = some (.int .i64 p) ∧ w'.cell? ⟨w1.heap.size, 1, none⟩ = some (.int .i64 mn) ∧ w'.cell? ⟨w1.heap.size, 2, none⟩ = some (.int .i64 mx) ∧ w'.cell? ⟨w1.heap.size, 3, none⟩ = some (.int .i64 md) ∧ w'.cell? ⟨w1.heap.size, 4, none⟩ = some (.func (.func k) #[] #[]))
  ((go_split_ands; (repeat' apply And.intro) <;> exact kl))
  (first
   | (go_at_call 73; first | (with_reducible refine (HA.out _).mono ?_; rintro e w2 ⟨rfl, hg_w2⟩; obtain ⟨cr0, crz0, cr1, crz1⟩ := hg_w2.y2 w.heap.size 0 1 (.int .u64 0) (.int .i64 0)) | (with_reducible refine (HB.out _).mono ?_; rintro e w2 ⟨rfl, hg_w2⟩; obtain ⟨cr0, crz0, cr1, crz1⟩ := hg_w2.y2 w.heap.size 0 1 (.int .u64 0) (.int .i64 0)))
   | (go_at_call 74; refine (HC.out _).mono ?_; rintro e w3 ⟨os, oe, oc, oh, ol, ot, hq, rfl, hg_w3⟩; obtain ⟨dr0, drz0, dr1, drz1⟩ := hg_w3.y2 w.heap.size 0 1 (.int .u64 0) (.int .i64 0))
   | (go_at_call 177; refine (HP.out _ _ _ _ _ _ _ hq).mono ?_; rintro e w4 ⟨z, fl, hr, rfl, hg_w4⟩; obtain ⟨er0, erz0, er1, erz1⟩ := hg_w4.y2 w.heap.size 0 1 (.int .u64 0) (.int .i64 0)))
 all_goals (try go_split_ands)
 all_goals go_wp2
 all_goals
  exact twH40
end Go.Proofs.YtnbbfeknbfohhaaGreatDoor
namespace Go.Proofs.YtnbbfeknbfohhaaGreatDoor
open Go.RowKit
def PackD (p mn mx one inf sg nan mode : Int) (o : Opd) (Z fl : Int) : Prop := PackIs p mn mx one inf sg nan mode o Z fl ∨ o.c = 5 ∧ Z = sw o.s sg inf ∧ fl = 2
theorem PackIs.c4 {p mn mx one inf sg nan mode : Int} {o : Opd} {Z fl : Int} (h : PackIs p mn mx one inf sg nan mode o Z fl) : o.c ≤ 4 := by
  rcases h with ⟨h, _⟩ | ⟨h, _⟩ | ⟨h, _⟩ | ⟨h, _⟩ | ⟨h, _⟩ <;> omega
theorem PackD.one {p mn mx one inf sg nan mode : Int} {o : Opd} {Z fl Z' fl' : Int} (h : PackD p mn mx one inf sg nan mode o Z fl) (h' : PackD p mn mx one inf sg nan mode o Z' fl') : Z = Z' ∧ fl = fl' := by
  rcases h with h | ⟨c, rfl, rfl⟩ <;> rcases h' with h' | ⟨c', rfl, rfl⟩
  · exact PackIs.one h h'
  · have := h.c4; exfalso; omega
  · have := h'.c4; exfalso; omega
  · exact ⟨rfl, rfl⟩
def OpRD (R : Int → Int → Opd → Opd → Opd) (f mode a b Z fl : Int) : Prop :=
  (∃ p mx one inf sg nan x y, IsFmt f p mx one inf sg nan ∧ (0 ≤ mode ∧ mode ≤ 4) ∧ OpdIs p mx one inf sg nan a x ∧ OpdIs p mx one inf sg nan b y ∧ PackD p (1 - mx) mx one inf sg nan mode (R p mode x y) Z fl) ∨
  (∃ p mx one inf sg nan, IsFmt f p mx one inf sg nan ∧ (mode < 0 ∨ 4 < mode) ∧ Z = nan ∧ fl = 1) ∨
  (¬ (f = 0 ∨ f = 1) ∧ Z = 9221120237041090560 ∧ fl = 1)
theorem OpRD.one {R : Int → Int → Opd → Opd → Opd} {f mode a b Z fl Z' fl' : Int} (h : OpRD R f mode a b Z fl) (h' : OpRD R f mode a b Z' fl') : Z = Z' ∧ fl = fl' := by
  rcases h with ⟨p, mx, one, inf, sg, nan, x, y, hF, hm, hx, hy, hp⟩ | ⟨p, mx, one, inf, sg, nan, hF, hm, rfl, rfl⟩ | ⟨hF, rfl, rfl⟩ <;>
  rcases h' with ⟨p', mx', one', inf', sg', nan', x', y', hF', hm', hx', hy', hp'⟩ | ⟨p', mx', one', inf', sg', nan', hF', hm', rfl, rfl⟩ | ⟨hF', rfl, rfl⟩
  · obtain ⟨rfl, rfl, rfl, rfl, rfl, rfl⟩ := hF.one hF'
    obtain rfl := hx.one hF hx'
    obtain rfl := hy.one hF hy'
    exact PackD.one hp hp'
  · exfalso; omega
  · exact absurd hF.yes.symm (by simp [hF'])
  · exfalso; omega
  · obtain ⟨rfl, rfl, rfl, rfl, rfl, rfl⟩ := hF.one hF'
    exact ⟨rfl, rfl⟩
  · exact absurd hF.yes.symm (by simp [hF'])
  · exact absurd hF'.yes.symm (by simp [hF])
  · exact absurd hF'.yes.symm (by simp [hF])
  · exact ⟨rfl, rfl⟩
def SameP (p : Int) (o : Opd) (os oe oc oh ol : Int) (ot : Bool) (of : Int) : Prop :=
  (∃ M : Nat, oh = ((M / 18446744073709551616 : Nat) : Int) ∧ ol = ((M % 18446744073709551616 : Nat) : Int) ∧ of = 0 ∧ o.c = oc ∧ 0 ≤ oc ∧ oc ≤ 4 ∧ (oc ≤ 2 → o.s = os ∧ (os = 0 ∨ os = 1)) ∧
    (oc = 1 → 0 < M ∧ M < 340282366920938463463374607431768211456 ∧ (ot = true → p + 2 ≤ (nb M : Int)) ∧ -100000 ≤ oe ∧ oe ≤ 100000 ∧ ∀ mn mx one inf mode z fl, RoundIs p mn mx one inf mode os M oe ot z fl ↔ RoundIs p mn mx one inf mode os o.M o.e false z fl)) ∨
  (o.c = 5 ∧ oc = 2 ∧ o.s = os ∧ (os = 0 ∨ os = 1) ∧ of = 2) ∨
  (o.c = 0 ∧ oc = 1 ∧ oh = 0 ∧ ol = 0 ∧ o.s = os ∧ (os = 0 ∨ os = 1) ∧ of = 0 ∧ -100000 ≤ oe ∧ oe ≤ 100000)
theorem SameP.nan (p m : Int) (h0 : 3 ≤ m) (h1 : m ≤ 4) : SameP p ⟨m, 0, 0, 0⟩ 0 0 m 0 0 false 0 :=
  .inl ⟨0, rfl, rfl, rfl, rfl, by omega, h1, fun c => ⟨rfl, .inl rfl⟩, fun c => by omega⟩
theorem SameP.self (p : Int) {x : Opd} (h : VO x) : SameP p x x.s x.e x.c ((x.M / 18446744073709551616 : Nat) : Int) ((x.M % 18446744073709551616 : Nat) : Int) false 0 :=
  .inl ⟨x.M, rfl, rfl, rfl, rfl, h.c0, h.c4, fun _ => ⟨rfl, h.s01⟩, fun c => by
    obtain ⟨a, b⟩ := h.fin c
    have := h.e0
    have := h.e1
    exact ⟨a, pow2_lt _ b, (fun t => by cases t), by omega, by omega, fun _ _ _ _ _ _ _ => Iff.rfl⟩⟩
theorem opd_fin {f p mx one inf sg nan a : Int} (h : IsFmt f p mx one inf sg nan) {x : Opd} (hx : OpdIs p mx one inf sg nan a x) (hc : x.c = 1) : ∃ P : Nat, (P : Int) = p ∧ 1 ≤ P ∧ P ≤ 53 ∧ 2 ^ (P - 1) ≤ x.M ∧ x.M < 2 ^ P := by
  rcases hx with ⟨_, hu⟩ | ⟨_, rfl⟩
  · obtain ⟨h1, h2, h3, h4, h5, h6, h7, h8, h9⟩ := unpack_bounds h hu
    have h10 := h8 hc
    rcases h with ⟨rfl, rfl, rfl, rfl, rfl, rfl, rfl⟩ | ⟨rfl, rfl, rfl, rfl, rfl, rfl, rfl⟩
    · exact ⟨24, rfl, by decide, by decide, by have : 2 ^ (24 - 1) = 8388608 := by decide
                                               omega, by have : 2 ^ 24 = 16777216 := by decide
                                                         omega⟩
    · exact ⟨53, rfl, by decide, by decide, by have : 2 ^ (53 - 1) = 4503599627370496 := by decide
                                               omega, by have : 2 ^ 53 = 9007199254740992 := by decide
                                                         omega⟩
  · cases hc
theorem round_atD {f p mx one inf sg nan : Int} (h : IsFmt f p mx one inf sg nan) (mode : Int) (m0 : 0 ≤ mode) (m1 : mode ≤ 4) (o : Opd) (ho : o.c = 1) (hs : o.s = 0 ∨ o.s = 1) (m : Nat) (hM : 0 < m) (e : Int) (e0 : -5000 ≤ e) (e1 : e ≤ 5000) (t : Bool) (hn : p + 2 ≤ (nb m : Int)) (heq : ∀ mn mx one inf mode z fl, RoundIs p mn mx one inf mode o.s m e t z fl ↔ RoundIs p mn mx one inf mode o.s o.M o.e false z fl) (K : Nat) (hK : K ≤ 100000) (v : Value) (w : World) (hB : BigN K w v m) :
    Calls Tryz.prog 65 #[.int .i64 f, .int .i64 mode, .agg #[.int .i64 o.s, v, .int .i64 e, .bool t]] w fun x w' => ∃ z fl, PackD p (1 - mx) mx one inf sg nan mode o z fl ∧ x = .returned (.agg #[.int .u64 z, .int .i64 fl]) ∧ Gb w w' := by
  have hnb := big_nb hB hK
  obtain ⟨n, hn', hb⟩ := hB
  refine (l2Round_any h hb (by omega) hM hnb mode o.s e t m0 m1 hs (by omega) (by omega) (fun c => by omega)).mono ?_
  rintro x w' ⟨z, fl, hr, z0, z1, rfl, hg⟩
  exact ⟨_, _, .inl (.inr (.inl ⟨ho, z, (heq _ _ _ _ _ _ _).1 hr, rfl⟩)), rfl, hg⟩
end Go.Proofs.YtnbbfeknbfohhaaGreatDoor
namespace Go.Proofs.YtnbbfeknbfohhaaGreatDoor
open Go.RowKit
set_option maxRecDepth 1000000 in
theorem calc_okf (p mn mx md f : Int) (k own : Nat) (a b sx ex cx xh xl sy ey cy yh yl : Int) (tx ty : Bool) {w : World} (HF : Hid (∀ w', Gr w w' → Calls Tryz.prog 70 #[.int .i64 f, .int .i64 md] w' fun x w'' => x = .returned (.tuple #[.agg #[.int .i64 p, .int .i64 mn, .int .i64 mx, .int .i64 md, .func (.func k) #[] #[]], .bool true]) ∧ Gr w' w''))
  (HA : KR 73 #[.agg #[.int .i64 p, .int .i64 mn, .int .i64 mx], .int .u64 a] (.agg #[.int .i64 sx, .int .i64 ex, .int .i64 cx, .int .u64 xh, .int .u64 xl, .bool tx, .int .i64 0])) (HB : KR 73 #[.agg #[.int .i64 p, .int .i64 mn, .int .i64 mx], .int .u64 b] (.agg #[.int .i64 sy, .int .i64 ey, .int .i64 cy, .int .u64 yh, .int .u64 yl, .bool ty, .int .i64 0])) (Q : Int → Int → Int → Int → Int → Bool → Int → Prop) (HC : Hid (∀ w, Calls Tryz.prog 74 #[.agg #[.int .i64 p, .int .i64 mn, .int .i64 mx, .int .i64 md, .func (.func k) #[] #[]], .func (.func own) #[] #[], .agg #[.int .i64 sx, .int .i64 ex, .int .i64 cx, .int .u64 xh, .int .u64 xl, .bool tx, .int .i64 0], .agg #[.int .i64 sy, .int .i64 ey, .int .i64 cy, .int .u64 yh, .int .u64 yl, .bool ty, .int .i64 0]] w fun e w' => ∃ os oe oc oh ol ot of, Q os oe oc oh ol ot of ∧ e = .returned (.agg #[.int .i64 os, .int .i64 oe, .int .i64 oc, .int .u64 oh, .int .u64 ol, .bool ot, .int .i64 of]) ∧ Gr w w'))
  (R : Int → Int → Prop) (HP : Hid (∀ os oe oc oh ol ot of w, Q os oe oc oh ol ot of → Calls Tryz.prog 177 #[.agg #[.int .i64 p, .int .i64 mn, .int .i64 mx, .int .i64 md, .func (.func k) #[] #[]], .agg #[.int .i64 os, .int .i64 oe, .int .i64 oc, .int .u64 oh, .int .u64 ol, .bool ot, .int .i64 of]] w fun e w' => ∃ z fl, R z fl ∧ e = .returned (.agg #[.int .u64 z, .int .i64 fl]) ∧ Gr w w')) :
  Calls Tryz.prog 130 #[.int .i64 f, .int .i64 md, .func (.func own) #[] #[], .int .u64 a, .int .u64 b] w fun e w' => ∃ z fl, R z fl ∧ e = .returned (.agg #[.int .u64 z, .int .i64 fl]) ∧ Gr w w' := by
 go_enter Tryz.func130, Tryz.ntmps130
 go_wp2_with (go_at_call 70; refine (HF.out _ Gr.g).mono ?_; rintro x w1 ⟨rfl, hg_w1⟩; obtain ⟨kr0, krz0, kr1, krz1⟩ := hg_w1.y2 w.heap.size 0 1 (.int .u64 0) (.int .i64 0); have hz1 := cell_size kr0)
 go_region_held3 (fun w' => w'.cell? ⟨w1.heap.size, 0, none⟩ = some (.int .i64 p) ∧ w'.cell? ⟨w1.heap.size, 1, none⟩ = some (.int .i64 mn) ∧ w'.cell? ⟨w1.heap.size, 2, none⟩ = some (.int .i64 mx) ∧ w'.cell? ⟨w1.heap.size, 3, none⟩ = some (.int .i64 md) ∧ w'.cell? ⟨w1.heap.size, 4, none⟩ = some (.func (.func k) #[] #[]))
  ((go_split_ands; (repeat' apply And.intro) <;> exact kl))
  (first
   | (go_at_call 73; first | (with_reducible refine (HA.out _).mono ?_; rintro e w2 ⟨rfl, hg_w2⟩; obtain ⟨cr0, crz0, cr1, crz1⟩ := hg_w2.y2 w.heap.size 0 1 (.int .u64 0) (.int .i64 0)) | (with_reducible refine (HB.out _).mono ?_; rintro e w2 ⟨rfl, hg_w2⟩; obtain ⟨cr0, crz0, cr1, crz1⟩ := hg_w2.y2 w.heap.size 0 1 (.int .u64 0) (.int .i64 0)))
   | (go_at_call 74; refine (HC.out _).mono ?_; rintro e w3 ⟨os, oe, oc, oh, ol, ot, of, hq, rfl, hg_w3⟩; obtain ⟨dr0, drz0, dr1, drz1⟩ := hg_w3.y2 w.heap.size 0 1 (.int .u64 0) (.int .i64 0))
   | (go_at_call 177; refine (HP.out _ _ _ _ _ _ _ _ hq).mono ?_; rintro e w4 ⟨z, fl, hr, rfl, hg_w4⟩; obtain ⟨er0, erz0, er1, erz1⟩ := hg_w4.y2 w.heap.size 0 1 (.int .u64 0) (.int .i64 0)))
 all_goals (try go_split_ands)
 all_goals go_wp2
 all_goals
  exact twH40
end Go.Proofs.YtnbbfeknbfohhaaGreatDoor
