/- Whole numbers as rows of words, and rounding: plain mathematics. -/
import Derived.WalkKit
import Derived.Lib.BitFns
import Derived.ProofKit
import Derived.Handy
set_option linter.unusedVariables false
set_option linter.unusedSimpArgs false

namespace Go.Proofs.YtkflpogmhailhaaGreatDoor

theorem pw_pos (n : Nat) : 0 < 4294967296 ^ n := Nat.pow_pos (by decide)

/-- Digit j of N. -/
def dg (N j : Nat) : Nat := N / 4294967296 ^ j % 4294967296
theorem dg_lt (N j : Nat) : dg N j < 4294967296 := Nat.mod_lt _ (by decide)

/-- The first n words of N. -/
def wds (n N : Nat) : List Value := (List.range n).map fun j => Value.int .u32 (dg N j : Int)
theorem wds_length (n N : Nat) : (wds n N).length = n := by simp [wds]
theorem wds_succ (n N : Nat) : wds (n + 1) N = wds n N ++ [Value.int .u32 (dg N n : Int)] := by simp [wds, List.range_succ]
theorem wds_get (n N j : Nat) (h : j < n) : (wds n N)[j]? = some (Value.int .u32 (dg N j : Int)) := by simp [wds, h]
theorem wds_zero (N : Nat) : wds 0 N = [] := rfl
theorem wds_oneCell (n N : Nat) : ∀ u ∈ wds n N, u.oneCell' = true := by
  intro u hu
  simp [wds] at hu
  obtain ⟨j, _, rfl⟩ := hu
  rfl

/-- n words, and the last is not 0. -/
def Nm (n N : Nat) : Prop := N < 4294967296 ^ n ∧ (n = 0 ∨ 4294967296 ^ (n - 1) ≤ N)

theorem pw_le {a b : Nat} (h : a ≤ b) : 4294967296 ^ a ≤ 4294967296 ^ b := Nat.pow_le_pow_right (by decide) h

theorem Nm.le {n m N : Nat} (h : Nm n N) (k : N < 4294967296 ^ m) : n ≤ m := by
  rcases h.2 with h0 | h1
  · omega
  · rcases Nat.lt_or_ge m n with c | c
    · have := pw_le (show m ≤ n - 1 by omega)
      omega
    · exact c
theorem Nm.one {n m N : Nat} (h : Nm n N) (k : Nm m N) : n = m := Nat.le_antisymm (h.le k.1) (k.le h.1)
theorem Nm.zero {N : Nat} (h : Nm 0 N) : N = 0 := by have := h.1; simp at this; exact this
theorem Nm.pos {n N : Nat} (h : Nm n N) (hn : 0 < n) : 0 < N := by
  rcases h.2 with h0 | h1
  · omega
  · have := pw_pos (n - 1); omega
theorem Nm.iff {n N : Nat} (h : Nm n N) : n = 0 ↔ N = 0 := by
  refine ⟨fun e => by subst e; exact h.zero, fun e => ?_⟩
  rcases Nat.eq_zero_or_pos n with c | c
  · exact c
  · have := h.pos c; omega

theorem dg_zero {N n j : Nat} (h : N < 4294967296 ^ n) (hj : n ≤ j) : dg N j = 0 := by
  have := pw_le hj
  unfold dg
  rw [Nat.div_eq_of_lt (by omega)]
theorem dg_top {N n : Nat} (h : N < 4294967296 ^ (n + 1)) : dg N n = N / 4294967296 ^ n := by
  unfold dg
  refine Nat.mod_eq_of_lt ?_
  rw [Nat.div_lt_iff_lt_mul (pw_pos n), Nat.mul_comm, ← Nat.pow_succ]
  exact h
theorem low_of_dg {N n : Nat} (h : N < 4294967296 ^ (n + 1)) (h0 : dg N n = 0) : N < 4294967296 ^ n := by
  rw [dg_top h] at h0
  exact (Nat.div_eq_zero_iff_lt (pw_pos n)).mp h0
theorem ge_of_dg {N n : Nat} (h0 : dg N n ≠ 0) : 4294967296 ^ n ≤ N := by
  rcases Nat.lt_or_ge N (4294967296 ^ n) with c | c
  · exact absurd (dg_zero c (Nat.le_refl _)) h0
  · exact c

/-! Shifts to the left -/
theorem two_pw (z : Nat) : 2 ^ (32 * z) = 4294967296 ^ z := by rw [Nat.pow_mul]
theorem shl_carry (A s i c : Nat) (hc : c = A % 4294967296 ^ i * 2 ^ s / 4294967296 ^ i) :
    A * 2 ^ s / 4294967296 ^ i % 4294967296 = (dg A i * 2 ^ s + c) % 4294967296 ∧ A % 4294967296 ^ (i + 1) * 2 ^ s / 4294967296 ^ (i + 1) = (dg A i * 2 ^ s + c) / 4294967296 := by
  have hp := pw_pos i
  refine ⟨?_, ?_⟩
  · have e : A * 2 ^ s = A % 4294967296 ^ i * 2 ^ s + 4294967296 ^ i * (A / 4294967296 ^ i * 2 ^ s) := by
      conv => lhs; rw [← Nat.mod_add_div A (4294967296 ^ i)]
      rw [Nat.add_mul, Nat.mul_assoc]
    rw [e, Nat.add_mul_div_left _ _ hp, ← hc]
    unfold dg
    rw [Nat.add_comm]
    rw [Nat.add_mod, Nat.mul_mod]
    conv => rhs; rw [Nat.add_mod, Nat.mul_mod, Nat.mod_mod]
  · have e : A % 4294967296 ^ (i + 1) * 2 ^ s = A % 4294967296 ^ i * 2 ^ s + 4294967296 ^ i * (dg A i * 2 ^ s) := by
      rw [Nat.pow_succ, Nat.mod_mul, Nat.add_mul, Nat.mul_assoc]; rfl
    rw [e, Nat.pow_succ, ← Nat.div_div_eq_div_mul, Nat.add_mul_div_left _ _ hp, ← hc, Nat.add_comm]
theorem shl_low (A s z j : Nat) (h : j < z) : dg (A * 2 ^ (32 * z + s)) j = 0 := by
  unfold dg
  obtain ⟨k, rfl⟩ : ∃ k, z = j + (k + 1) := ⟨z - j - 1, by omega⟩
  rw [Nat.pow_add, two_pw, Nat.pow_add, Nat.pow_succ]
  have e : A * (4294967296 ^ j * (4294967296 ^ k * 4294967296) * 2 ^ s) = 4294967296 ^ j * (4294967296 * (A * 4294967296 ^ k * 2 ^ s)) := by
    simp only [Nat.mul_assoc, Nat.mul_left_comm, Nat.mul_comm]
  rw [e, Nat.mul_div_cancel_left _ (pw_pos j), Nat.mul_mod_right]
theorem shl_dg (A s z i : Nat) : dg (A * 2 ^ (32 * z + s)) (z + i) = A * 2 ^ s / 4294967296 ^ i % 4294967296 := by
  unfold dg
  have e : A * 2 ^ (32 * z + s) = 4294967296 ^ z * (A * 2 ^ s) := by
    rw [Nat.pow_add, two_pw]; simp only [Nat.mul_assoc, Nat.mul_left_comm, Nat.mul_comm]
  rw [e, Nat.pow_add, Nat.mul_div_mul_left _ _ (pw_pos z)]
theorem shl_end (A s z n : Nat) (h : A < 4294967296 ^ n) (hs : s < 32) : dg (A * 2 ^ (32 * z + s)) (z + n) = A % 4294967296 ^ n * 2 ^ s / 4294967296 ^ n ∧ A * 2 ^ (32 * z + s) < 4294967296 ^ (z + n + 1) := by
  have hb : A * 2 ^ s < 4294967296 ^ n * 4294967296 := by
    have h1 : 2 ^ s ≤ 2 ^ 32 := Nat.pow_le_pow_right (by decide) (by omega)
    have h2 : A * 2 ^ s ≤ A * 4294967296 := Nat.mul_le_mul_left _ h1
    omega
  refine ⟨?_, ?_⟩
  · rw [shl_dg, Nat.mod_eq_of_lt h]
    exact Nat.mod_eq_of_lt ((Nat.div_lt_iff_lt_mul (pw_pos n)).mpr (by omega))
  · have e : A * 2 ^ (32 * z + s) = 4294967296 ^ z * (A * 2 ^ s) := by
      rw [Nat.pow_add, two_pw]; simp only [Nat.mul_assoc, Nat.mul_left_comm, Nat.mul_comm]
    rw [e, Nat.add_assoc, Nat.pow_add]
    exact Nat.mul_lt_mul_of_pos_left (by rw [Nat.pow_succ]; exact hb) (pw_pos z)
theorem shl_small (d s c : Nat) (hd : d < 4294967296) (hs : s < 32) (hc : c < 4294967296) : d * 2 ^ s + c < 18446744073709551616 ∧ d * 2 ^ s < 18446744073709551616 := by
  have h1 : 2 ^ s ≤ 2 ^ 31 := Nat.pow_le_pow_right (by decide) (by omega)
  have h2 : d * 2 ^ s ≤ d * 2147483648 := Nat.mul_le_mul_left _ h1
  omega
theorem shl_carry_lt (A s i : Nat) (hs : s < 32) : A % 4294967296 ^ i * 2 ^ s / 4294967296 ^ i < 4294967296 := by
  rw [Nat.div_lt_iff_lt_mul (pw_pos i)]
  have h0 := Nat.mod_lt A (pw_pos i)
  have h1 : 2 ^ s ≤ 2 ^ 32 := Nat.pow_le_pow_right (by decide) (by omega)
  have h2 : A % 4294967296 ^ i * 2 ^ s ≤ A % 4294967296 ^ i * 4294967296 := Nat.mul_le_mul_left _ h1
  omega

/-! Shifts to the right -/
theorem shr_dg (A s z k : Nat) (hs : s < 32) : dg (A / 2 ^ (32 * z + s)) k = (dg A (z + k) + dg A (z + k + 1) * 4294967296) / 2 ^ s % 4294967296 := by
  have e0 : A / 2 ^ (32 * z + s) / 4294967296 ^ k = A / 4294967296 ^ (z + k) / 2 ^ s := by
    rw [Nat.div_div_eq_div_mul, Nat.div_div_eq_div_mul, Nat.pow_add, two_pw, Nat.pow_add]
    congr 1
    simp only [Nat.mul_assoc, Nat.mul_left_comm, Nat.mul_comm]
  have e1 : dg A (z + k) + dg A (z + k + 1) * 4294967296 = A / 4294967296 ^ (z + k) % (4294967296 * 4294967296) := by
    unfold dg
    rw [Nat.mod_mul, Nat.pow_succ, ← Nat.div_div_eq_div_mul, Nat.mul_comm 4294967296]
  rw [e1]
  unfold dg
  rw [e0]
  generalize A / 4294967296 ^ (z + k) = q
  have e2 : (2 : Nat) ^ s * 4294967296 ∣ 4294967296 * 4294967296 := by
    refine Nat.mul_dvd_mul_right ?_ 4294967296
    rw [show (4294967296 : Nat) = 2 ^ 32 from rfl]
    exact Nat.pow_dvd_pow 2 (by omega)
  rw [← Nat.mod_mul_right_div_self, ← Nat.mod_mul_right_div_self (q % (4294967296 * 4294967296)), Nat.mod_mod_of_dvd q e2]
theorem shr_lt (A s z n : Nat) (h : A < 4294967296 ^ n) (hz : z ≤ n) : A / 2 ^ (32 * z + s) < 4294967296 ^ (n - z) := by
  have hp : 0 < 2 ^ (32 * z + s) := Nat.pow_pos (by decide)
  rw [Nat.div_lt_iff_lt_mul hp]
  have e : 4294967296 ^ n = 4294967296 ^ (n - z) * 4294967296 ^ z := by rw [← Nat.pow_add]; congr 1; omega
  have e2 : (4294967296 : Nat) ^ z ≤ 2 ^ (32 * z + s) := by rw [← two_pw]; exact Nat.pow_le_pow_right (by decide) (by omega)
  have := Nat.mul_le_mul_left (4294967296 ^ (n - z)) e2
  omega
theorem shr_zero (A s z n : Nat) (h : A < 4294967296 ^ n) (hz : n ≤ z) : A / 2 ^ (32 * z + s) = 0 := by
  refine Nat.div_eq_of_lt ?_
  have e2 : (4294967296 : Nat) ^ n ≤ 2 ^ (32 * z + s) := by rw [← two_pw]; exact Nat.pow_le_pow_right (by decide) (by omega)
  omega

/-! Sums -/
theorem add_carry (a b i c : Nat) (hc : c = (a % 4294967296 ^ i + b % 4294967296 ^ i) / 4294967296 ^ i) :
    dg (a + b) i = (c + dg a i + dg b i) % 4294967296 ∧ (a % 4294967296 ^ (i + 1) + b % 4294967296 ^ (i + 1)) / 4294967296 ^ (i + 1) = (c + dg a i + dg b i) / 4294967296 ∧ c ≤ 1 := by
  have hp := pw_pos i
  refine ⟨?_, ?_, ?_⟩
  · have e : a + b = (a % 4294967296 ^ i + b % 4294967296 ^ i) + 4294967296 ^ i * (a / 4294967296 ^ i + b / 4294967296 ^ i) := by
      have h1 := Nat.mod_add_div a (4294967296 ^ i)
      have h2 := Nat.mod_add_div b (4294967296 ^ i)
      rw [Nat.mul_add]; omega
    have e2 : (a + b) / 4294967296 ^ i = c + (a / 4294967296 ^ i + b / 4294967296 ^ i) := by
      conv => lhs; rw [e]
      rw [Nat.add_mul_div_left _ _ hp, ← hc]
    unfold dg
    rw [e2]
    omega
  · have e : a % 4294967296 ^ (i + 1) + b % 4294967296 ^ (i + 1) = (a % 4294967296 ^ i + b % 4294967296 ^ i) + 4294967296 ^ i * (dg a i + dg b i) := by
      rw [Nat.pow_succ, Nat.mod_mul, Nat.mod_mul, Nat.mul_add]; unfold dg; omega
    rw [e, Nat.pow_succ, ← Nat.div_div_eq_div_mul, Nat.add_mul_div_left _ _ hp, ← hc, Nat.add_assoc]
  · have h1 := Nat.mod_lt a hp
    have h2 := Nat.mod_lt b hp
    have : c < 2 := by rw [hc, Nat.div_lt_iff_lt_mul hp]; omega
    omega
theorem add_lt_pw {a b n m k : Nat} (ha : a < 4294967296 ^ n) (hb : b < 4294967296 ^ m) (hn : n ≤ k) (hm : m ≤ k) : a + b < 4294967296 ^ (k + 1) := by
  have h1 := pw_le hn
  have h2 := pw_le hm
  rw [Nat.pow_succ]; omega
theorem add_end {a b n m k : Nat} (ha : a < 4294967296 ^ n) (hb : b < 4294967296 ^ m) (hn : n ≤ k) (hm : m ≤ k) : dg (a + b) k = (a % 4294967296 ^ k + b % 4294967296 ^ k) / 4294967296 ^ k := by
  have h1 := pw_le hn
  have h2 := pw_le hm
  rw [dg_top (add_lt_pw ha hb hn hm), Nat.mod_eq_of_lt (by omega), Nat.mod_eq_of_lt (by omega)]

/-! Differences -/
def bor (a b i : Nat) : Nat := if a % 4294967296 ^ i < b % 4294967296 ^ i then 1 else 0
theorem bor_le (a b i : Nat) : bor a b i ≤ 1 := by unfold bor; split <;> omega
theorem sub_div (a b i : Nat) (h : b ≤ a) : (a - b) / 4294967296 ^ i = a / 4294967296 ^ i - b / 4294967296 ^ i - bor a b i ∧ b / 4294967296 ^ i + bor a b i ≤ a / 4294967296 ^ i := by
  have hp := pw_pos i
  have h1 := Nat.mod_add_div a (4294967296 ^ i)
  have h2 := Nat.mod_add_div b (4294967296 ^ i)
  have h3 := Nat.mod_lt a hp
  have h4 := Nat.mod_lt b hp
  unfold bor
  generalize 4294967296 ^ i = P at *
  generalize a / P = qa at *
  generalize b / P = qb at *
  generalize a % P = ra at *
  generalize b % P = rb at *
  have hq : qb + (if ra < rb then 1 else 0) ≤ qa := by
    rcases Nat.lt_or_ge qa (qb + (if ra < rb then 1 else 0)) with c | c
    · exfalso
      split at c
      · have := Nat.mul_le_mul_left P (show qa ≤ qb by omega)
        omega
      · have := Nat.mul_le_mul_left P (show qa + 1 ≤ qb by omega)
        rw [Nat.mul_add] at this
        omega
    · exact c
  refine ⟨?_, hq⟩
  split
  · rename_i hlt
    rw [if_pos hlt] at hq
    obtain ⟨t, rfl⟩ : ∃ t, qa = qb + 1 + t := ⟨qa - (qb + 1), by omega⟩
    have e : a - b = (P + ra - rb) + P * t := by
      rw [Nat.mul_add, Nat.mul_add] at h1
      omega
    rw [e, Nat.add_mul_div_left _ _ hp, Nat.div_eq_of_lt (by omega)]
    omega
  · rename_i hlt
    rw [if_neg hlt] at hq
    obtain ⟨t, rfl⟩ : ∃ t, qa = qb + t := ⟨qa - qb, by omega⟩
    have e : a - b = (ra - rb) + P * t := by
      rw [Nat.mul_add] at h1
      omega
    rw [e, Nat.add_mul_div_left _ _ hp, Nat.div_eq_of_lt (by omega)]
    omega
theorem bor_succ (a b i : Nat) : bor a b (i + 1) = if dg a i < dg b i + bor a b i then 1 else 0 := by
  have hp := pw_pos i
  have h3 := Nat.mod_lt a hp
  have h4 := Nat.mod_lt b hp
  unfold bor
  rw [Nat.pow_succ, Nat.mod_mul, Nat.mod_mul]
  show (if a % 4294967296 ^ i + 4294967296 ^ i * dg a i < b % 4294967296 ^ i + 4294967296 ^ i * dg b i then 1 else 0) = _
  generalize dg a i = da at *
  generalize dg b i = db at *
  generalize 4294967296 ^ i = P at *
  generalize a % P = ra at *
  generalize b % P = rb at *
  rcases Nat.lt_trichotomy da db with c | c | c
  · have := Nat.mul_le_mul_left P (show da + 1 ≤ db by omega)
    rw [Nat.mul_add] at this
    rw [if_pos (by omega), if_pos (by omega)]
  · subst c
    by_cases k : ra < rb
    · rw [if_pos (by omega), if_pos k, if_pos (by omega)]
    · rw [if_neg (by omega), if_neg k, if_neg (by omega)]
  · have := Nat.mul_le_mul_left P (show db + 1 ≤ da by omega)
    rw [Nat.mul_add] at this
    rw [if_neg (by omega)]
    by_cases k : ra < rb
    · rw [if_pos k, if_neg (by omega)]
    · rw [if_neg k, if_neg (by omega)]
theorem sub_dg (a b i : Nat) (h : b ≤ a) : dg (a - b) i = if dg a i < dg b i + bor a b i then dg a i + 4294967296 - (dg b i + bor a b i) else dg a i - (dg b i + bor a b i) := by
  obtain ⟨e, hq⟩ := sub_div a b i h
  have hb := bor_le a b i
  unfold dg
  rw [e]
  generalize bor a b i = r at *
  generalize a / 4294967296 ^ i = qa at *
  generalize b / 4294967296 ^ i = qb at *
  split <;> omega
theorem bor_zero (a b : Nat) : bor a b 0 = 0 := by simp [bor, Nat.mod_one]

/-! Order -/
theorem cmp_top {a b i : Nat} (h : a / 4294967296 ^ (i + 1) = b / 4294967296 ^ (i + 1)) : (dg a i < dg b i → a < b) ∧ (dg b i < dg a i → b < a) ∧ (dg a i = dg b i → a / 4294967296 ^ i = b / 4294967296 ^ i) := by
  have e1 := Nat.div_add_mod (a / 4294967296 ^ i) 4294967296
  have e2 := Nat.div_add_mod (b / 4294967296 ^ i) 4294967296
  rw [Nat.pow_succ, ← Nat.div_div_eq_div_mul, ← Nat.div_div_eq_div_mul] at h
  have m1 : a < b ∨ b / 4294967296 ^ i ≤ a / 4294967296 ^ i := by
    rcases Nat.lt_or_ge a b with c | c
    · exact .inl c
    · exact .inr (Nat.div_le_div_right c)
  have m2 : b < a ∨ a / 4294967296 ^ i ≤ b / 4294967296 ^ i := by
    rcases Nat.lt_or_ge b a with c | c
    · exact .inl c
    · exact .inr (Nat.div_le_div_right c)
  unfold dg
  generalize a / 4294967296 ^ i = qa at *
  generalize b / 4294967296 ^ i = qb at *
  refine ⟨fun k => ?_, fun k => ?_, fun k => ?_⟩ <;> omega
theorem Nm.lt {n m a b : Nat} (h : Nm n a) (k : Nm m b) (hl : n < m) : a < b := by
  have := h.1
  have h2 := pw_le (show n ≤ m - 1 by omega)
  rcases k.2 with k0 | k1 <;> omega
theorem word_step (N i : Nat) : N / 4294967296 ^ (i + 1) * 4294967296 + dg N i = N / 4294967296 ^ i := by
  unfold dg
  rw [Nat.pow_succ, ← Nat.div_div_eq_div_mul]
  have := Nat.div_add_mod (N / 4294967296 ^ i) 4294967296
  omega

/-! The number of bits -/
def nb (N : Nat) : Nat := if N = 0 then 0 else Nat.log2 N + 1
theorem nb_zero : nb 0 = 0 := rfl
theorem nb_half (N : Nat) (h : 0 < N) : nb N = 1 + nb (N / 2) := by
  unfold nb
  rw [if_neg (by omega), Nat.log2_def]
  split
  · rw [if_neg (by omega)]; omega
  · rw [if_pos (by omega)]
theorem nb_shift (N k : Nat) (h : 0 < N / 2 ^ k) : nb N = k + nb (N / 2 ^ k) := by
  induction k with
  | zero => simp
  | succ k ih =>
    have e : N / 2 ^ (k + 1) = N / 2 ^ k / 2 := by rw [Nat.pow_succ, ← Nat.div_div_eq_div_mul]
    rw [e] at h ⊢
    have h2 : 0 < N / 2 ^ k := by omega
    rw [ih h2, nb_half _ h2]; omega
theorem nb_lt (N : Nat) : N < 2 ^ nb N := by
  unfold nb
  split
  · rename_i h; subst h; decide
  · exact Nat.lt_log2_self
theorem nb_ge (N : Nat) (h : 0 < N) : 2 ^ (nb N - 1) ≤ N := by
  unfold nb
  rw [if_neg (by omega)]
  exact Nat.log2_self_le (by omega)
theorem nb_pos (N : Nat) (h : 0 < N) : 0 < nb N := by
  unfold nb
  rw [if_neg (by omega)]; omega
theorem nb_le {N k : Nat} (h : N < 2 ^ k) : nb N ≤ k := by
  rcases Nat.eq_zero_or_pos N with c | c
  · subst c; simp [nb_zero]
  · rcases Nat.lt_or_ge k (nb N) with d | d
    · have := Nat.pow_le_pow_right (show 0 < 2 by decide) (show k ≤ nb N - 1 by omega)
      have := nb_ge N c
      omega
    · exact d
theorem nb_gt {N k : Nat} (h : 2 ^ k ≤ N) : k < nb N := by
  rcases Nat.lt_or_ge k (nb N) with d | d
  · exact d
  · have := Nat.pow_le_pow_right (show 0 < 2 by decide) d
    have := nb_lt N
    omega
theorem nb_top {N n : Nat} (h : Nm (n + 1) N) : nb N = n * 32 + nb (dg N n) ∧ dg N n ≠ 0 := by
  have e : 4294967296 ^ n = 2 ^ (32 * n) := (two_pw n).symm
  have h0 : 0 < N / 4294967296 ^ n := by
    rcases h.2 with c | c
    · omega
    · exact Nat.div_pos c (pw_pos n)
  rw [dg_top h.1]
  refine ⟨?_, by omega⟩
  rw [e] at h0 ⊢
  rw [nb_shift N (32 * n) h0, Nat.mul_comm]
end Go.Proofs.YtkflpogmhailhaaGreatDoor

namespace Go.Proofs.YtkflpogmhailhaaGreatDoor

/-- A magnitude M * 2^e in units of 2^q, rounded down. -/
def cutLo (M : Nat) (e q : Int) : Nat := if q ≤ e then M * 2 ^ (e - q).toNat else M / 2 ^ (q - e).toNat
/-- Half and rest, as 2 * half + rest, of M over 2^d. -/
def hr (M d : Nat) (rest : Bool) : Nat := (if M / 2 ^ (d - 1) % 2 = 1 then 2 else 0) + (if M % 2 ^ (d - 1) ≠ 0 ∨ rest = true then 1 else 0)
def cutHalf (M : Nat) (e q : Int) (rest : Bool) : Nat := if q ≤ e then (if rest then 1 else 0) else hr M (q - e).toNat rest

def up (mode sign : Int) (lo half : Nat) : Bool := decide (mode = 0 ∧ (half = 3 ∨ half = 2 ∧ lo % 2 = 1) ∨ mode = 1 ∧ 2 ≤ half ∨ mode = 3 ∧ 0 < half ∧ sign = 0 ∨ mode = 4 ∧ 0 < half ∧ sign = 1)
def chosen (mode sign : Int) (lo half : Nat) : Nat := lo + (if up mode sign lo half then 1 else 0)

theorem hr_le (M d : Nat) (rest : Bool) : hr M d rest ≤ 3 := by unfold hr; split <;> split <;> omega
theorem cutHalf_le (M : Nat) (e q : Int) (rest : Bool) : cutHalf M e q rest ≤ 3 := by
  unfold cutHalf
  split
  · split <;> omega
  · exact hr_le _ _ _

theorem mod_parts (M d : Nat) (hd : 1 ≤ d) : M % 2 ^ d = M % 2 ^ (d - 1) + 2 ^ (d - 1) * (M / 2 ^ (d - 1) % 2) ∧ M % 2 ^ (d - 1) < 2 ^ (d - 1) ∧ M / 2 ^ (d - 1) % 2 < 2 := by
  refine ⟨?_, Nat.mod_lt _ (Nat.pow_pos (by decide)), Nat.mod_lt _ (by decide)⟩
  obtain ⟨k, rfl⟩ : ∃ k, d = k + 1 := ⟨d - 1, by omega⟩
  rw [Nat.add_sub_cancel, Nat.pow_succ, Nat.mod_mul]

/-- What the model's comparing finds. -/
theorem hr_zero (M d : Nat) (hd : 1 ≤ d) (h : M % 2 ^ d = 0) : hr M d false = 0 := by
  obtain ⟨e, a, b⟩ := mod_parts M d hd
  have p : 0 < 2 ^ (d - 1) := Nat.pow_pos (by decide)
  unfold hr
  generalize 2 ^ (d - 1) = P at *
  have h1 : M / P % 2 = 0 := by
    rcases Nat.eq_zero_or_pos (M / P % 2) with c | c
    · exact c
    · have : 1 ≤ M / P % 2 := c
      have := Nat.mul_le_mul_left P this
      omega
  rw [h1] at e
  rw [if_neg (by omega), if_neg (by simp; omega)]
theorem hr_one (M d : Nat) (rest : Bool) (hd : 1 ≤ d) (h : M % 2 ^ d < 2 ^ (d - 1)) (hn : M % 2 ^ d ≠ 0 ∨ rest = true) : hr M d rest = 1 := by
  obtain ⟨e, a, b⟩ := mod_parts M d hd
  unfold hr
  generalize 2 ^ (d - 1) = P at *
  have h1 : M / P % 2 = 0 := by
    rcases Nat.eq_zero_or_pos (M / P % 2) with c | c
    · exact c
    · have : 1 ≤ M / P % 2 := c
      have := Nat.mul_le_mul_left P this
      omega
  rw [h1] at e
  rw [if_neg (by omega), if_pos]
  rcases hn with hn | hn
  · left; omega
  · right; exact hn
theorem hr_two (M d : Nat) (hd : 1 ≤ d) (h : M % 2 ^ d = 2 ^ (d - 1)) : hr M d false = 2 := by
  obtain ⟨e, a, b⟩ := mod_parts M d hd
  unfold hr
  generalize 2 ^ (d - 1) = P at *
  have h1 : M / P % 2 = 1 := by
    rcases (show M / P % 2 = 0 ∨ M / P % 2 = 1 by omega) with c | c
    · rw [c] at e; omega
    · exact c
  rw [h1] at e
  rw [if_pos h1, if_neg (by simp; omega)]
theorem hr_three (M d : Nat) (rest : Bool) (hd : 1 ≤ d) (h : 2 ^ (d - 1) ≤ M % 2 ^ d) (hn : M % 2 ^ d ≠ 2 ^ (d - 1) ∨ rest = true) : hr M d rest = 3 := by
  obtain ⟨e, a, b⟩ := mod_parts M d hd
  unfold hr
  generalize 2 ^ (d - 1) = P at *
  have h1 : M / P % 2 = 1 := by
    rcases (show M / P % 2 = 0 ∨ M / P % 2 = 1 by omega) with c | c
    · rw [c] at e; omega
    · exact c
  rw [h1] at e
  rw [if_pos h1, if_pos]
  rcases hn with hn | hn
  · left; omega
  · right; exact hn

/-- The model's rounding: the magnitude's word and the flags; 'top' the exponent of the highest bit. -/
def ovMag (inf mode sign : Int) : Int := if mode = 0 ∨ mode = 1 ∨ mode = 3 ∧ sign = 0 ∨ mode = 4 ∧ sign = 1 then inf else inf - 1

def roundR (p mx one inf mode sign : Int) (M : Nat) (e : Int) (rest : Bool) : Int × Int :=
  let top : Int := nb M + e - 1
  if top > mx then (ovMag inf mode sign, 20) else
  let low : Int := (1 - mx) - p - 2
  let M' : Nat := if top < low then 1 else M
  let e' : Int := if top < low then low else e
  let rest' : Bool := if top < low then true else rest
  let top' : Int := if top < low then low else top
  let E : Int := if top' < 1 - mx then 1 - mx else top'
  let q : Int := E - p + 1
  let lo := cutLo M' e' q
  let half := cutHalf M' e' q rest'
  let r := chosen mode sign lo half
  if (nb r : Int) + q - 1 > mx then (ovMag inf mode sign, 20) else
  let q2 := top' - p + 1
  let r2 := chosen mode sign (cutLo M' e' q2) (cutHalf M' e' q2 rest')
  let flags : Int := if 0 < half then (if (nb r2 : Int) + top' - p < 1 - mx then 24 else 16) else 0
  ((r : Int) + (if q > (1 - mx) - p + 1 then one * (q - ((1 - mx) - p + 1)) else 0), flags)
end Go.Proofs.YtkflpogmhailhaaGreatDoor

namespace Go.Proofs.YtkflpogmhailhaaGreatDoor

theorem pow2_mono {a b : Nat} (h : a ≤ b) : 2 ^ a ≤ 2 ^ b := Nat.pow_le_pow_right (by decide) h

/-- In units of 2^q a magnitude below 2^(q + P) is below 2^P. -/
theorem cutLo_lt (M : Nat) (e q : Int) (P : Nat) (h : (nb M : Int) + e ≤ q + P) : cutLo M e q < 2 ^ P := by
  have hM := nb_lt M
  unfold cutLo
  split
  · rename_i c
    have h1 : M * 2 ^ (e - q).toNat < 2 ^ nb M * 2 ^ (e - q).toNat := Nat.mul_lt_mul_of_pos_right hM (Nat.pow_pos (by decide))
    rw [← Nat.pow_add] at h1
    have h2 := pow2_mono (show nb M + (e - q).toNat ≤ P by omega)
    omega
  · rename_i c
    rw [Nat.div_lt_iff_lt_mul (Nat.pow_pos (by decide)), ← Nat.pow_add]
    have h2 := pow2_mono (show nb M ≤ P + (q - e).toNat by omega)
    omega
/-- And one from 2^(q + P) on is from 2^P on. -/
theorem cutLo_ge (M : Nat) (e q : Int) (P : Nat) (hM0 : 0 < M) (h : q + P ≤ (nb M : Int) + e - 1) : 2 ^ P ≤ cutLo M e q := by
  have hM := nb_ge M hM0
  have hp := nb_pos M hM0
  unfold cutLo
  split
  · rename_i c
    have h1 := Nat.mul_le_mul_right (2 ^ (e - q).toNat) hM
    rw [← Nat.pow_add] at h1
    have h2 := pow2_mono (show P ≤ nb M - 1 + (e - q).toNat by omega)
    omega
  · rename_i c
    rw [Nat.le_div_iff_mul_le (Nat.pow_pos (by decide)), ← Nat.pow_add]
    have h2 := pow2_mono (show P + (q - e).toNat ≤ nb M - 1 by omega)
    omega
theorem chosen_le (mode sign : Int) (lo half : Nat) : lo ≤ chosen mode sign lo half ∧ chosen mode sign lo half ≤ lo + 1 := by
  unfold chosen; split <;> omega

/-- Far below: nothing but a little rest. -/
theorem cut_far (M : Nat) (e q : Int) (rest : Bool) (hM : 0 < M) (h : (nb M : Int) + e ≤ q - 1) : cutLo M e q = 0 ∧ cutHalf M e q rest = 1 := by
  have h1 := nb_lt M
  have hp := nb_pos M hM
  have hq : ¬ q ≤ e := by omega
  obtain ⟨d, hd⟩ : ∃ d : Nat, (q - e).toNat = d + 1 := ⟨(q - e).toNat - 1, by omega⟩
  have h2 := pow2_mono (show nb M ≤ d by omega)
  have h3 := pow2_mono (show d ≤ d + 1 by omega)
  refine ⟨?_, ?_⟩
  · unfold cutLo
    rw [if_neg hq, hd]
    exact Nat.div_eq_of_lt (by omega)
  · unfold cutHalf hr
    have hne : M ≠ 0 := by omega
    rw [if_neg hq, hd, Nat.add_sub_cancel, Nat.div_eq_of_lt (by omega), Nat.mod_eq_of_lt (show M < 2 ^ d by omega)]
    rw [if_neg (by decide), if_pos (Or.inl hne)]

/-- What RoundPack answers for a number that is not 0: its magnitude's word z and the flags fl. -/
def RoundIs (p mn mx one inf mode sign : Int) (M : Nat) (e : Int) (rest : Bool) (z fl : Int) : Prop :=
  ∃ (top E : Int) (r r2 : Nat) (hf : Nat), top = nb M + e - 1 ∧ (top < mn ∧ E = mn ∨ mn ≤ top ∧ E = top) ∧
    hf = cutHalf M e (E - p + 1) rest ∧ r = chosen mode sign (cutLo M e (E - p + 1)) hf ∧ r2 = chosen mode sign (cutLo M e (top - p + 1)) (cutHalf M e (top - p + 1) rest) ∧
    (mx < top ∧ z = ovMag inf mode sign ∧ fl = 20 ∨
     top ≤ mx ∧ inf ≤ r + one * (E - mn) ∧ z = ovMag inf mode sign ∧ fl = 20 ∨
     top ≤ mx ∧ r + one * (E - mn) < inf ∧ z = r + one * (E - mn) ∧ (hf = 0 ∧ fl = 0 ∨ 0 < hf ∧ (top < mn - 1 ∨ top = mn - 1 ∧ (r2 : Int) < 2 * one) ∧ fl = 24 ∨ 0 < hf ∧ (mn ≤ top ∨ top = mn - 1 ∧ 2 * one ≤ (r2 : Int)) ∧ fl = 16))

theorem RoundIs.one {p mn mx one inf mode sign : Int} {M : Nat} {e : Int} {rest : Bool} {z fl z' fl' : Int} (h : RoundIs p mn mx one inf mode sign M e rest z fl) (h' : RoundIs p mn mx one inf mode sign M e rest z' fl') : z = z' ∧ fl = fl' := by
  obtain ⟨top, E, r, r2, hf, h1, h2, h3, h4, h5, hc⟩ := h
  obtain ⟨top', E', r', r2', hf', h1', h2', h3', h4', h5', hc'⟩ := h'
  have e1 : top = top' := by omega
  subst e1
  have e2 : E = E' := by omega
  subst e2
  have e3 : hf = hf' := by rw [h3, h3']
  subst e3
  have e4 : r = r' := by rw [h4, h4']
  subst e4
  have e5 : r2 = r2' := by rw [h5, h5']
  subst e5
  generalize one * (E - mn) = Y at *
  generalize ovMag inf mode sign = O at *
  rcases hc with ⟨a, rfl, rfl⟩ | ⟨a, b, rfl, rfl⟩ | ⟨a, b, rfl, c⟩
  · rcases hc' with ⟨a', rfl, rfl⟩ | ⟨a', b', rfl, rfl⟩ | ⟨a', b', rfl, c'⟩
    · exact ⟨rfl, rfl⟩
    · omega
    · omega
  · rcases hc' with ⟨a', rfl, rfl⟩ | ⟨a', b', rfl, rfl⟩ | ⟨a', b', rfl, c'⟩
    · omega
    · exact ⟨rfl, rfl⟩
    · omega
  · rcases hc' with ⟨a', rfl, rfl⟩ | ⟨a', b', rfl, rfl⟩ | ⟨a', b', rfl, c'⟩
    · omega
    · omega
    · refine ⟨rfl, ?_⟩
      omega
end Go.Proofs.YtkflpogmhailhaaGreatDoor

namespace Go.Proofs.YtkflpogmhailhaaGreatDoor

theorem bitLen_nb (n : Nat) (h : n < 18446744073709551616) : Go.Lib.bitLen n = nb n := by
  induction n using Nat.strongRecOn with
  | ind n ih =>
    rcases Nat.eq_zero_or_pos n with rfl | hp
    · decide +kernel
    · rw [Go.Lib.bitLen_half n (by omega) (by simpa using h), nb_half n hp, ih (n / 2) (by omega) (by omega)]

/-- A word with a sign. -/
def sw (sign sg z : Int) : Int := if sign = 1 then z + sg else z
end Go.Proofs.YtkflpogmhailhaaGreatDoor

/- Own notions: 'Gr w w'': w' is w with new blocks; nothing old has turned, nothing is frozen or let go. -/
namespace Go.Proofs.YtkflpogmhailhaaGreatDoor
open Go.RowKit

structure Gr (w w' : World) : Prop where
  grown : Grown w w'
  below : Below w.heap.size w w'

theorem Gr.refl (w : World) : Gr w w := ⟨Grown.refl _, Below.refl _ _⟩
theorem Gr.trans {a b c : World} (h : Gr a b) (k : Gr b c) : Gr a c := by
  obtain ⟨⟨h1, h2, h3⟩, hb⟩ := h
  obtain ⟨⟨k1, k2, k3⟩, kb⟩ := k
  exact ⟨⟨World.keptBut_trans h1 ⟨k1.1, k1.2.1, fun i hi => k1.2.2 i (by omega)⟩, fun x => (k2 x).trans (h2 x), Nat.le_trans h3 k3⟩, hb.trans (kb.mono h3)⟩
theorem Gr.alloc {W w : World} (h : Gr W w) (c : Array Value) (t : TypeId) : Gr W (w.alloc (.cells c t)) := ⟨h.grown.alloc c t, h.below.alloc h.below.size _⟩
theorem Gr.drew {W w : World} (h : Gr W w) : Gr W w.drew := ⟨h.grown.drew, h.below.drew⟩
theorem Gr.setCell {W w : World} (h : Gr W w) {a : Addr} (ha : W.heap.size ≤ a.block) (v : Value) : Gr W (w.setCell a v) := ⟨h.grown.setCell ha v, h.below.setCell ha v⟩
theorem Gr.size {W w : World} (h : Gr W w) : W.heap.size ≤ w.heap.size := h.below.size
theorem Gr.cells {W w : World} (h : Gr W w) : ∀ b o, b < W.heap.size → w.cell? ⟨b, o, none⟩ = W.cell? ⟨b, o, none⟩ := fun b o hb => h.below.cell (p := ⟨b, o, none⟩) hb
theorem Gr.frozens {W w : World} (h : Gr W w) : ∀ a, w.frozen? a = W.frozen? a := h.grown.2.1
theorem Gr.has {W w : World} (h : Gr W w) {b o : Nat} {v : Value} (hb : b < W.heap.size) (hv : W.cell? ⟨b, o, none⟩ = some v) : w.cell? ⟨b, o, none⟩ = some v := (h.cells b o hb).trans hv
theorem ret_congr {a b : Value} (h : a = b) : Ending.returned a = .returned b := by rw [h]
theorem ret_wb {x x' y y' : Int} {b b' : Bool} (h1 : x = x') (h2 : y = y') (h3 : b = b') : Ending.returned (.tuple #[.agg #[.int .u64 x, .int .u64 y], .bool b]) = .returned (.tuple #[.agg #[.int .u64 x', .int .u64 y'], .bool b']) := by rw [h1, h2, h3]
theorem ret_w {x x' y y' : Int} (h1 : x = x') (h2 : y = y') : Ending.returned (.agg #[.int .u64 x, .int .u64 y]) = .returned (.agg #[.int .u64 x', .int .u64 y']) := by rw [h1, h2]
theorem Gr.old {W w : World} (h : Gr W w) {b o : Nat} {v : Value} (hv : W.cell? ⟨b, o, none⟩ = some v) : w.cell? ⟨b, o, none⟩ = some v := by
  refine h.has ?_ hv
  rcases Nat.lt_or_ge b W.heap.size with k | k
  · exact k
  · simp [World.cell?, k] at hv
theorem cell_size {w : World} {b o : Nat} {v : Value} (hv : w.cell? ⟨b, o, none⟩ = some v) : b < w.heap.size := by
  rcases Nat.lt_or_ge b w.heap.size with k | k
  · exact k
  · simp [World.cell?, k] at hv
theorem cell_alloc {w : World} {b o : Nat} {v : Value} (ob : Obj) (hv : w.cell? ⟨b, o, none⟩ = some v) : (w.alloc ob).cell? ⟨b, o, none⟩ = some v := by
  have := cell_size hv
  exact (World.cell?_of_block (w := w) (a := ⟨b, o, none⟩) (Below.heap_alloc w ob b this)).trans hv
theorem cell_setNew {w : World} {b o : Nat} {v u : Value} {p : Addr} (hne : p.block ≠ b) (hv : w.cell? ⟨b, o, none⟩ = some v) : (w.setCell p u).cell? ⟨b, o, none⟩ = some v := by
  rw [World.cell?_setCell_other]
  · exact hv
  · intro e; rw [e] at hne; exact hne rfl
theorem cell_swap {w : World} {b o : Nat} {v : Value} {o1 : Obj} (o2 : Obj) (hb : b < w.heap.size) (hv : (w.alloc o1).cell? ⟨b, o, none⟩ = some v) : (w.alloc o2).cell? ⟨b, o, none⟩ = some v := by
  refine cell_alloc o2 ?_
  exact (World.cell?_of_block (w := w) (a := ⟨b, o, none⟩) (Below.heap_alloc w o1 b hb)).symm.trans hv
theorem cell_drew {w : World} {a : Addr} {v : Value} (hv : w.cell? a = some v) : w.drew.cell? a = some v := hv
theorem cell_setSame {w : World} {b o : Nat} {v : Value} (hv : (w.cell? ⟨b, o, none⟩).isSome = true) : (w.setCell ⟨b, o, none⟩ v).cell? ⟨b, o, none⟩ = some v := World.cell?_setCell_same' _ _ _ hv
theorem has_of {w : World} {a : Addr} {v : Value} (hv : w.cell? a = some v) : (w.cell? a).isSome = true := by rw [hv]; rfl
theorem has_old {W w : World} (h : Gr W w) {b o : Nat} (hv : (W.cell? ⟨b, o, none⟩).isSome = true) : (w.cell? ⟨b, o, none⟩).isSome = true := by
  obtain ⟨v, hv⟩ := Option.isSome_iff_exists.mp hv
  exact has_of (h.old hv)
theorem has_alloc {w : World} {b o : Nat} (ob : Obj) (hv : (w.cell? ⟨b, o, none⟩).isSome = true) : ((w.alloc ob).cell? ⟨b, o, none⟩).isSome = true := by
  obtain ⟨v, hv⟩ := Option.isSome_iff_exists.mp hv
  exact has_of (cell_alloc ob hv)
theorem has_set {w : World} {p a : Addr} {u : Value} (hv : (w.cell? a).isSome = true) : ((w.setCell p u).cell? a).isSome = true := by
  obtain ⟨v, hv⟩ := Option.isSome_iff_exists.mp hv
  obtain ⟨v', h'⟩ := cell?_setCell_some (p := p) (x := u) hv
  exact has_of h'
theorem cell_setOff {w : World} {b o k : Nat} {u v : Value} (hne : k ≠ o) (hv : w.cell? ⟨b, o, none⟩ = some v) : (w.setCell ⟨b, k, none⟩ u).cell? ⟨b, o, none⟩ = some v := by
  rw [World.cell?_setCell_other]
  · exact hv
  · intro e; injection e with e1 e2 e3; exact hne e2
theorem fz_old {W w : World} (h : Gr W w) {a : Addr} (hv : W.frozen? a = false) : w.frozen? a = false := (h.frozens a).trans hv
theorem fz_alloc {w : World} {a : Addr} {c : Array Value} {t : TypeId} (hv : w.frozen? a = false) : (w.alloc (.cells c t)).frozen? a = false := (frozen?_alloc_cells w c t a).trans hv
theorem fz_set {w : World} {a p : Addr} {v : Value} (hv : w.frozen? a = false) : (w.setCell p v).frozen? a = false := (World.frozen?_setCell _ _ _ _).trans hv
theorem fz_drew {w : World} {a : Addr} (hv : w.frozen? a = false) : w.drew.frozen? a = false := hv
theorem fz_new {w : World} {b o : Nat} (hb : w.heap.size ≤ b) : w.frozen? ⟨b, o, none⟩ = false := by
  have : w.heap[b]? = none := by simp [hb]
  simp [World.frozen?, this]
/- Long closings in short words: each is a default argument. -/
theorem kq {P : Prop} (h : P := by (repeat' (first | (with_reducible assumption) | (with_reducible refine Gr.old (by with_reducible assumption) ?_) | (simp [go_sem]; done) | (with_reducible refine cell_alloc _ ?_) | (with_reducible refine cell_drew ?_) | (with_reducible refine fz_old (by with_reducible assumption) ?_) | (with_reducible refine fz_alloc ?_) | (with_reducible refine fz_drew ?_)))) : P := h
theorem ks {P : Prop} (h : P := by (repeat' (first | (with_reducible assumption) | (with_reducible refine Gb.old (by with_reducible assumption) ?_) | (with_reducible refine Gr.old (by with_reducible assumption) ?_) | (with_reducible refine cell_drew ?_) | (simp [go_sem]; done) | (with_reducible refine Gb.fzc (by with_reducible assumption) (by first | (with_reducible assumption) | (with_reducible exact cell_drew (by with_reducible assumption))) ?_) | (with_reducible refine fz_old (by with_reducible assumption) ?_) | (with_reducible refine fz_drew ?_) | go_size))) : P := h
theorem kb {P : Prop} (h : P := by (repeat' (first | (with_reducible assumption) | (with_reducible refine has_of (by with_reducible assumption)) | (with_reducible refine Gr.old (by with_reducible assumption) ?_) | (with_reducible refine Gb.old (by with_reducible assumption) ?_) | (with_reducible refine cell_swap _ ?_ (by with_reducible assumption); omega) | (with_reducible refine cell_setSame ?_) | (with_reducible refine has_old (by with_reducible assumption) ?_) | (with_reducible refine has_set ?_) | (with_reducible refine cell_setOff ?_ ?_; omega) | (with_reducible refine cell_setNew ?_ ?_; (dsimp only; omega)) | (simp [go_sem]; done) | (simp [go_sem]; rfl) | (with_reducible refine cell_alloc _ ?_) | (with_reducible refine cell_drew ?_) | (with_reducible refine has_alloc _ ?_) | (with_reducible refine fz_old (by with_reducible assumption) ?_) | (with_reducible refine Gb.fzc (by with_reducible assumption) (by first | (with_reducible assumption) | (with_reducible exact cell_drew (by with_reducible assumption))) ?_) | (with_reducible refine Gb.fz (by with_reducible assumption) ?_ ?_) | go_size | (with_reducible refine fz_alloc ?_) | (with_reducible refine fz_set ?_) | (with_reducible refine fz_drew ?_)))) : P := h
theorem kl {P : Prop} (h : P := by (repeat' (first | (with_reducible assumption) | (with_reducible refine has_of (by with_reducible assumption)) | (with_reducible refine Gr.old (by with_reducible assumption) ?_) | (with_reducible refine cell_swap _ ?_ (by with_reducible assumption); omega) | (with_reducible refine cell_setSame ?_) | (with_reducible refine has_old (by with_reducible assumption) ?_) | (with_reducible refine has_set ?_) | (with_reducible refine cell_setOff ?_ ?_; omega) | (with_reducible refine cell_setNew ?_ ?_; (dsimp only; omega)) | (simp [go_sem]; done) | (simp [go_sem]; rfl) | (with_reducible refine cell_alloc _ ?_) | (with_reducible refine cell_drew ?_) | (with_reducible refine has_alloc _ ?_) | (with_reducible refine fz_old (by with_reducible assumption) ?_) | (with_reducible refine fz_alloc ?_) | (with_reducible refine fz_set ?_) | (with_reducible refine fz_drew ?_)))) : P := h
theorem kr {P : Prop} (h : P := by (repeat' (first | (with_reducible assumption) | (with_reducible exact Gr.refl _) | (with_reducible refine Gr.alloc ?_ _ _) | (with_reducible refine Gr.drew ?_) | (with_reducible refine Gr.setCell ?_ ?_ _) | (with_reducible refine Gr.trans ?_ (by with_reducible assumption)) | go_size))) : P := h
theorem kg {P : Prop} (h : P := by (repeat' (first | (with_reducible assumption) | (with_reducible exact Gb.refl _) | (with_reducible exact Hid.out (by with_reducible assumption)) | (with_reducible refine Gb.alloc ?_ _) | (with_reducible refine Gb.drew ?_) | (with_reducible refine Gb.setCell ?_ ?_ _) | (with_reducible refine Gb.trans ?_ (by with_reducible assumption)) | (with_reducible refine Gb.trans ?_ (Gr.gb (by with_reducible assumption))) | go_size))) : P := h
end Go.Proofs.YtkflpogmhailhaaGreatDoor
