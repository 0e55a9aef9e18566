/- Plain arithmetic of square roots. Nothing of the dump. -/
import Derived.WalkKit
import Derived.Laws.Bits64b
namespace Go.Proofs.Ytmcbciaeibfgpaa

structure IsRoot (V r : Int) : Prop where
  nonneg : 0 ≤ r
  small : r < 18446744073709551616
  low : r * r ≤ V
  high : V < (r + 1) * (r + 1)

theorem IsRoot.uniq {V r s : Int} (h : IsRoot V r) (k : IsRoot V s) : r = s := by
  rcases Int.lt_trichotomy r s with c | c | c
  · have : (r + 1) * (r + 1) ≤ s * s := Int.mul_le_mul (by omega) (by omega) (by have := h.nonneg; omega) k.nonneg
    have := h.high; have := k.low; omega
  · exact c
  · have : (s + 1) * (s + 1) ≤ r * r := Int.mul_le_mul (by omega) (by omega) (by have := k.nonneg; omega) h.nonneg
    have := k.high; have := h.low; omega

theorem mod_half (r B : Int) (h : r % (2 * B) = 0) : r % B = 0 ∧ (r + B) % B = 0 := by
  have h1 : (2 * B) ∣ r := Int.dvd_of_emod_eq_zero h
  have h2 : B ∣ r := Int.dvd_trans (Int.dvd_mul_left 2 B) h1
  have h3 : r % B = 0 := Int.emod_eq_zero_of_dvd h2
  exact ⟨h3, by rw [Int.add_emod_right]; exact h3⟩
/-- What the loop keeps: the root lies from r on and below r + U; r is a multiple of U. -/
structure Between (V r U : Int) : Prop where
  low : r * r ≤ V
  high : V < (r + U) * (r + U)
  mult : r % U = 0

theorem Between.take {V r B : Int} (h : Between V r (2 * B)) (k : ¬ V < (r + B) * (r + B)) : Between V (r + B) B :=
  ⟨by omega, by rw [show r + B + B = r + 2 * B by omega]; exact h.high, (mod_half r B h.mult).2⟩
theorem Between.leave {V r B : Int} (h : Between V r (2 * B)) (k : V < (r + B) * (r + B)) : Between V r B := ⟨h.low, k, (mod_half r B h.mult).1⟩
theorem Between.start (V : Int) (h0 : 0 ≤ V) (h1 : V < 340282366920938463463374607431768211456) : Between V 0 18446744073709551616 := ⟨by omega, by omega, by omega⟩
theorem Between.done {V r : Int} (h : Between V r 1) (h0 : 0 ≤ r) (h1 : r < 18446744073709551616) : IsRoot V r := ⟨h0, h1, h.low, h.high⟩

/-- The bit that stands at e bits left. -/
def BitAt (e : Nat) (bt : Int) : Prop := e = 0 ∧ bt = 0 ∨ ∃ k, e = k + 1 ∧ bt = 2 ^ k
theorem BitAt.next {e : Nat} {bt : Int} (h : BitAt e bt) (hb : 0 < bt) : ∃ k, e = k + 1 ∧ bt = 2 ^ k ∧ BitAt k (bt / 2) := by
  rcases h with ⟨_, h⟩ | ⟨k, hk, hb2⟩
  · omega
  · refine ⟨k, hk, hb2, ?_⟩
    cases k with
    | zero => exact .inl ⟨rfl, by rw [hb2]; decide⟩
    | succ j => exact .inr ⟨j, rfl, by rw [hb2, Int.pow_succ]; omega⟩
theorem root_step {V r bt : Int} {e : Nat} (h : Between V r (2 ^ e)) (hB : BitAt e bt) (hb : 0 < bt) :
    ∃ k, e = k + 1 ∧ bt = 2 ^ k ∧ BitAt k (bt / 2) ∧ (V < (r + bt) * (r + bt) → Between V r (2 ^ k)) ∧ (¬ V < (r + bt) * (r + bt) → Between V (r + bt) (2 ^ k)) := by
  obtain ⟨k, hk, hb2, hn⟩ := hB.next hb
  have e2 : (2 : Int) ^ e = 2 * bt := by rw [hk, hb2, Int.pow_succ]; omega
  rw [e2] at h
  refine ⟨k, hk, hb2, hn, fun c => ?_, fun c => ?_⟩
  · rw [← hb2]; exact h.leave c
  · rw [← hb2]; exact h.take c
theorem root_end {V r bt : Int} {e : Nat} (h : Between V r (2 ^ e)) (hB : BitAt e bt) (hb : ¬ 0 < bt) (h0 : 0 ≤ r) (h1 : r < 18446744073709551616) : IsRoot V r := by
  rcases hB with ⟨he, _⟩ | ⟨k, _, hb2⟩
  · rw [he, Int.pow_zero] at h; exact h.done h0 h1
  · exact absurd (show 0 < bt by rw [hb2]; exact Int.pow_pos (by decide)) hb

def inex (r h l : Int) : Bool := !(r * r / 18446744073709551616 == h && r * r % 18446744073709551616 == l)

/-- r holds no bit of 2^e or below: to lay the bit 2^e into it is to add it. -/
theorem or_bit (r : Int) (e : Nat) (h0 : 0 ≤ r) (h1 : r + 2 ^ e < 18446744073709551616) (hm : r % 2 ^ (e + 1) = 0) : bits .or .u64 r (2 ^ e) = r + 2 ^ e := by
  obtain ⟨R, rfl⟩ := Int.eq_ofNat_of_zero_le h0
  have c1 : ((2 : Int) ^ e) = ((2 ^ e : Nat) : Int) := by push_cast; rfl
  have c2 : ((2 : Int) ^ (e + 1)) = ((2 ^ (e + 1) : Nat) : Int) := by push_cast; rfl
  rw [c2] at hm
  rw [c1] at h1 ⊢
  have hd : R % 2 ^ (e + 1) = 0 := by omega
  have hp : 0 < 2 ^ e := Nat.pow_pos (by decide)
  rw [bits_or_u64_nat R (2 ^ e) (by omega) (by omega)]
  have hR : R = 2 ^ (e + 1) * (R / 2 ^ (e + 1)) := by have := Nat.div_add_mod R (2 ^ (e + 1)); omega
  have ho : R ||| 2 ^ e = R + 2 ^ e := by
    have hlt : 2 ^ e < 2 ^ (e + 1) := by rw [Nat.pow_succ]; omega
    have := Nat.two_pow_add_eq_or_of_lt hlt (R / 2 ^ (e + 1))
    rw [← hR] at this
    exact this.symm
  rw [ho]; push_cast; rfl
end Go.Proofs.Ytmcbciaeibfgpaa
