/- laws' small words: wClass, wReal, wMinus, wTurned, wSize, wTurnedWay. -/
import Derived.Test.YtkflpogmhailhaaGreatDoorL2B
import Derived.Laws.BitsAllLaws
import Derived.Test.YtkflpogmhailhaaGreatDoorA1
import Derived.Test.YtkflpogmhailhaaGreatDoorRows
import Derived.Laws.StructEq
import Derived.WalkLawsBesides
set_option linter.unusedVariables false
set_option linter.unusedSimpArgs false
namespace Go.Proofs.YtkflpogmhailhaaGreatDoor
open Go.RowKit

theorem xor_low (k v : Nat) (h : v < 2 ^ k) : v ^^^ 2 ^ k = v + 2 ^ k := by
  have e1 : v ^^^ 2 ^ k = 2 ^ k ||| v := by
    apply Nat.eq_of_testBit_eq
    intro i
    rw [Nat.testBit_xor, Nat.testBit_or, Nat.testBit_two_pow]
    by_cases c : k = i
    · subst c
      rw [Nat.testBit_lt_two_pow h]; simp
    · simp [c]
  have e2 := Nat.two_pow_add_eq_or_of_lt h 1
  rw [Nat.mul_one] at e2
  rw [e1, ← e2]; omega
theorem xor_high (k v : Nat) (h : 2 ^ k ≤ v) (h1 : v < 2 * 2 ^ k) : v ^^^ 2 ^ k = v - 2 ^ k := by
  obtain ⟨r, rfl⟩ : ∃ r, v = r + 2 ^ k := ⟨v - 2 ^ k, by omega⟩
  have e := xor_low k r (by omega)
  have e2 : (r ^^^ 2 ^ k) ^^^ 2 ^ k = r := by rw [Nat.xor_assoc, Nat.xor_self, Nat.xor_zero]
  rw [e] at e2
  rw [e2]; omega

/-- Minus zero's word. -/
def mz (f : Int) : Int := if f = 0 then 2147483648 else 9223372036854775808

theorem turn_xor (f v z : Int) (v0 : 0 ≤ v) (v1 : v < 2 * mz f) (hz : v < mz f ∧ z = v + mz f ∨ mz f ≤ v ∧ z = v - mz f) : bits .xor .u64 v (mz f) = z := by
  obtain ⟨n, rfl⟩ := Int.eq_ofNat_of_zero_le v0
  unfold mz at *
  by_cases c : f = 0
  · rw [if_pos c] at *
    have := u64_xor_nat n 2147483648 (by omega) (by omega)
    rw [show ((2147483648 : Nat) : Int) = 2147483648 from rfl] at this
    rw [this]
    rcases hz with ⟨h, rfl⟩ | ⟨h, rfl⟩
    · have := xor_low 31 n (by simp only [Nat.reducePow]; omega)
      simp only [Nat.reducePow] at this
      rw [this]; omega
    · have := xor_high 31 n (by simp only [Nat.reducePow]; omega) (by simp only [Nat.reducePow]; omega)
      simp only [Nat.reducePow] at this
      rw [this]; omega
  · rw [if_neg c] at *
    have := u64_xor_nat n 9223372036854775808 (by omega) (by omega)
    rw [show ((9223372036854775808 : Nat) : Int) = 9223372036854775808 from rfl] at this
    rw [this]
    rcases hz with ⟨h, rfl⟩ | ⟨h, rfl⟩
    · have := xor_low 63 n (by simp only [Nat.reducePow]; omega)
      simp only [Nat.reducePow] at this
      rw [this]; omega
    · have := xor_high 63 n (by simp only [Nat.reducePow]; omega) (by simp only [Nat.reducePow]; omega)
      simp only [Nat.reducePow] at this
      rw [this]; omega

theorem wMinus_any (f : Int) (w : World) : Calls Tryz.prog 27 #[.int .i64 f] w fun e w' => e = .returned (.int .u64 (mz f)) ∧ w = w' := by
  unfold mz
  by_cases c : f = 0
  · subst c
    go_enter Tryz.func27, Tryz.ntmps27
    go_wp2
    go_returns
    exact ⟨by simp, rfl⟩
  · rw [if_neg c]
    have c1 : (f == 0) = false := by simp [c]
    go_enter Tryz.func27, Tryz.ntmps27
    go_wp2
    go_returns
    exact ⟨rfl, rfl⟩

set_option maxRecDepth 100000 in
theorem wTurned_any (f v z : Int) (v0 : 0 ≤ v) (v1 : v < 2 * mz f) (hz : v < mz f ∧ z = v + mz f ∨ mz f ≤ v ∧ z = v - mz f) (w : World) : Calls Tryz.prog 21 #[.int .i64 f, .int .u64 v] w fun e w' => e = .returned (.int .u64 z) ∧ w = w' := by
  have hx := turn_xor f v z v0 v1 hz
  have HM : Hid (∀ w, Calls Tryz.prog 27 #[.int .i64 f] w fun e w' => e = .returned (.int .u64 (mz f)) ∧ w = w') := fun w => wMinus_any f w
  clear hz v1
  generalize mz f = M at *
  go_enter Tryz.func21, Tryz.ntmps21
  go_wp2_with (go_at_call 27; refine (HM.out _).mono ?_; rintro x wk ⟨rfl, hw⟩; subst hw)
  go_returns
  exact ⟨rfl, rfl⟩

set_option maxRecDepth 100000 in
theorem wSize_any (f v : Int) (v0 : 0 ≤ v) (w : World) : Calls Tryz.prog 11 #[.int .i64 f, .int .u64 v] w fun e w' => e = .returned (.int .u64 (v % mz f)) ∧ w = w' := by
  have hm : 0 < mz f := by unfold mz; split <;> omega
  have HM : Hid (∀ w, Calls Tryz.prog 27 #[.int .i64 f] w fun e w' => e = .returned (.int .u64 (mz f)) ∧ w = w') := fun w => wMinus_any f w
  have ht : Int.tmod v (mz f) = v % mz f := Int.tmod_eq_emod_of_nonneg v0
  generalize v % mz f = r at *
  generalize mz f = M at *
  have hM : ¬ M = 0 := by omega
  go_enter Tryz.func11, Tryz.ntmps11
  go_wp2_with (go_at_call 27; refine (HM.out _).mono ?_; rintro x wk ⟨rfl, hw⟩; subst hw)
  go_returns
  exact ⟨rfl, rfl⟩

theorem wTurnedWay_any (m z : Int) (hz : z = if m = 3 then 4 else if m = 4 then 3 else m) (w : World) : Calls Tryz.prog 23 #[.int .i64 m] w fun e w' => e = .returned (.int .i64 z) ∧ w = w' := by
  subst hz
  rcases (show m = 3 ∨ m = 4 ∨ ((m == 3) = false ∧ (m == 4) = false) by simp; omega) with rfl | rfl | ⟨c1, c2⟩
  · go_enter Tryz.func23, Tryz.ntmps23
    go_wp2
    go_returns
    exact ⟨by simp, rfl⟩
  · go_enter Tryz.func23, Tryz.ntmps23
    go_wp2
    go_returns
    exact ⟨by simp, rfl⟩
  · have d1 : ¬ m = 3 := by simpa using c1
    have d2 : ¬ m = 4 := by simpa using c2
    rw [if_neg d1, if_neg d2]
    go_enter Tryz.func23, Tryz.ntmps23
    go_wp2
    go_returns
    exact ⟨rfl, rfl⟩

set_option maxRecDepth 100000 in
theorem wClass_any (f v c s x g : Int) (HU : Hid (∀ w, Calls Tryz.prog 26 #[.int .i64 f, .int .u64 v] w fun e w' => e = .returned (.agg #[.int .i64 c, .int .i64 s, .int .i64 x, .int .u64 g]) ∧ Gr w w')) (w : World) : Calls Tryz.prog 10 #[.int .i64 f, .int .u64 v] w fun e w' => e = .returned (.int .i64 c) ∧ Gr w w' := by
  have hf : ∀ w, (Instr.field 44 (.agg #[.int .i64 c, .int .i64 s, .int .i64 x, .int .u64 g]) 0).run Tryz.prog w = .ok (.int .i64 c) w := fun w => by kernel_rfl
  go_enter Tryz.func10, Tryz.ntmps10
  go_wp2_with (go_at_call 26; refine (HU.out _).mono ?_; rintro x w1 ⟨rfl, hg_w1⟩)
  go_returns
  exact ⟨rfl, by first | exact hg_w1 | exact kr⟩

set_option maxRecDepth 100000 in
theorem wReal_any (f v c : Int) (b : Bool) (hb : b = decide (c ≤ 1)) (HC : Hid (∀ w, Calls Tryz.prog 10 #[.int .i64 f, .int .u64 v] w fun e w' => e = .returned (.int .i64 c) ∧ Gr w w')) (w : World) : Calls Tryz.prog 22 #[.int .i64 f, .int .u64 v] w fun e w' => e = .returned (.bool b) ∧ Gr w w' := by
  have hB : Hid (b = decide (c ≤ 1)) := hb
  clear hb
  go_enter Tryz.func22, Tryz.ntmps22
  go_wp2_with (go_at_call 10; refine (HC.out _).mono ?_; rintro x w1 ⟨rfl, hg_w1⟩)
  go_returns
  exact ⟨ret_congr (congrArg Value.bool (by rw [hB.out])), by first | exact hg_w1 | exact kr⟩
end Go.Proofs.YtkflpogmhailhaaGreatDoor

/- Results held against each other. -/
set_option linter.unusedVariables false
set_option linter.unusedSimpArgs false
namespace Go.Proofs.YtkflpogmhailhaaGreatDoor
open Go.RowKit

theorem eqRS (a b c d : Int) (w : World) : (Op.equalIn 10000 27 (.agg #[.int .u64 a, .int .i64 b]) (.agg #[.int .u64 c, .int .i64 d])).run Tryz.prog w = .ok (a == c && b == d) w := by
  have u3 := Tryz.underlying23
  have a3 := Tryz.isAgg23
  have z3 := Tryz.sizeOf23
  have u4 := Tryz.underlying3
  have a4 := Tryz.isAgg3
  have z4 := Tryz.sizeOf3
  have hS : Tryz.prog.underlying 27 = some (.struct (Tryz.prog.fieldsOf 27)) := by kernel_rfl
  rw [show (10000 : Nat) = 9999 + 1 from rfl, run_equalIn_agg w 9999 27 _ _ hS (by kernel_rfl)]
  simp only [Program.fieldsOf, Tryz.underlying27]
  go_simp
  by_cases h1 : a = c <;> by_cases h2 : b = d <;> simp [h1, h2]

theorem eqRS_same (Z fl : Int) (w : World) : (Op.equalIn 10000 27 (.agg #[.int .u64 Z, .int .i64 fl]) (.agg #[.int .u64 Z, .int .i64 fl])).run Tryz.prog w = .ok true w := by rw [eqRS]; simp
end Go.Proofs.YtkflpogmhailhaaGreatDoor
