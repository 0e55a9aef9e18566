/- DrawBase, DrawDecay: some words; laws.wPick at 0. -/
import Derived.Test.YtfhbhghifeefeaaDoorD7
import Derived.Test.YtfhbhghifeefeaaDoorDrawB
set_option linter.unusedVariables false
set_option linter.unusedSimpArgs false
namespace Go.Proofs.YtfhbhghifeefeaaDoor
open Go.RowKit

set_option maxHeartbeats 2000000 in
theorem drawBase_any (a : Option Addr) (len cap : Nat) (w : World) (hC : CodeRow w a len) :
    Calls Tryd.prog 10 #[.slice a len cap] w fun e w' => ∃ v : Int, 0 ≤ v ∧ v < 18446744073709551616 ∧ e = .returned (.int .u64 v) ∧ Gr w w' := by
  have HC : Hid (CodeRow w a len) := hC
  have HB : Hid (Calls Tryd.prog 18 #[.slice a len cap, .int .i64 0, .int .i64 64] w fun e w' => ∃ (v : Int) (k : Nat), 0 ≤ v ∧ v < 18446744073709551616 ∧ k ≤ 10 ∧ e = .returned (.tuple #[.int .u64 v, .int .i64 k]) ∧ w = w') := (bitsN_any a len cap 0 64 (by omega) w hC (by omega)).mono fun e w' ⟨v, k, h1, h2, h3, h4, h5⟩ => ⟨v, k, h1, h2, by omega, h4, h5⟩
  clear hC
  go_enter Tryd.func10, Tryd.ntmps10
  go_upto_region 2 with (go_at_call 18; refine HB.out.mono ?_; rintro e w1 ⟨v, k, v0, v1, hk, rfl, hw⟩; subst hw)
  go_upto_region 3 with (go_at_call 19; refine (take_any a len cap k 30 _ HC.out (by omega) (by omega) (by omega)).mono ?_; rintro e w' ⟨x, x0, x1, rfl, hw⟩; subst hw)
  go_upto_region 4 with (go_at_call 19; refine (take_any a len cap (k + 1) 3 _ HC.out (by omega) (by omega) (by omega)).mono ?_; rintro e w' ⟨y, y0, y1, rfl, hw⟩; subst hw)
  by_cases h : x < 18
  · obtain ⟨n, rfl⟩ := Int.eq_ofNat_of_zero_le x0
    have hn : n < 18 := by omega
    go_wp2_with (go_at_call 13; refine (shares_s _).mono ?_; rintro e w2 ⟨b, rfl, hg_w2, hc0⟩; have q := hc0 n hn; clear hc0)
    go_returns
    refine ⟨_, ?_, ?_, rfl, hg_w2⟩
    all_goals (simp only [IntKind.wrap_u64]; omega)
  · go_wp2
    go_returns
    exact ⟨v, v0, v1, rfl, Gr.refl _⟩

theorem two35 (w : World) : Calls Tryd.prog 14 #[.int .i64 35] w fun e w' => e = .returned (.int .u64 34359738368) ∧ w = w' := l2Two_any 35 _ (by omega) (by decide) w
set_option maxHeartbeats 2000000 in
theorem drawDecay_any (a : Option Addr) (len cap : Nat) (w : World) (hC : CodeRow w a len) :
    Calls Tryd.prog 11 #[.slice a len cap] w fun e w' => ∃ v : Int, 0 ≤ v ∧ v < 18446744073709551616 ∧ e = .returned (.int .u64 v) ∧ Gr w w' := by
  have HC : Hid (CodeRow w a len) := hC
  have HB : Hid (Calls Tryd.prog 18 #[.slice a len cap, .int .i64 0, .int .i64 38] w fun e w' => ∃ (v : Int) (k : Nat), 0 ≤ v ∧ v < 18446744073709551616 ∧ k ≤ 10 ∧ e = .returned (.tuple #[.int .u64 v, .int .i64 k]) ∧ w = w') := (bitsN_any a len cap 0 38 (by omega) w hC (by omega)).mono fun e w' ⟨v, k, h1, h2, h3, h4, h5⟩ => ⟨v, k, h1, h2, by omega, h4, h5⟩
  clear hC
  go_enter Tryd.func11, Tryd.ntmps11
  go_upto_region 2 with (go_at_call 18; refine HB.out.mono ?_; rintro e w1 ⟨v, k, v0, v1, hk, rfl, hw⟩; subst hw)
  go_upto_region 3 with (go_at_call 19; refine (take_any a len cap k 16 _ HC.out (by omega) (by omega) (by omega)).mono ?_; rintro e w' ⟨x, x0, x1, rfl, hw⟩; subst hw)
  rcases (show x = 15 ∨ ((x == 15) = false ∧ x < 9) ∨ ((x == 15) = false ∧ ¬ x < 9) by simp; omega) with rfl | ⟨h1, h2⟩ | ⟨h1, h2⟩
  · go_wp2_with (go_at_call 14; refine (two38 _).mono ?_; rintro e w2 ⟨rfl, hw⟩; subst hw)
    go_returns
    refine ⟨_, ?_, ?_, rfl, Gr.refl _⟩
    all_goals (simp only [IntKind.wrap_u64]; omega)
  · go_wp2_with (go_at_call 14; refine (two35 _).mono ?_; rintro e w2 ⟨rfl, hw⟩; subst hw)
    go_returns
    refine ⟨_, ?_, ?_, rfl, Gr.refl _⟩
    all_goals omega
  · go_wp2
    go_returns
    exact ⟨v, v0, v1, rfl, Gr.refl _⟩

set_option maxHeartbeats 1000000 in
/-- laws.wPick at 0: one byte, the same in every world that holds the row. -/
theorem pick0 (a : Option Addr) (len cap : Nat) (W : World) (hC : CodeRow W a len) :
    ∃ z : Int, 0 ≤ z ∧ z ≤ 255 ∧ ∀ w, Gr W w → Calls Tryd.prog 12 #[.slice a len cap, .int .i64 0] w fun e w' => e = .returned (.int .i64 z) ∧ w = w' := by
  have hf := hC.few
  rcases (show len = 0 ∨ 0 < len by omega) with rfl | hl
  · refine ⟨0, by omega, by omega, fun w hg => ?_⟩
    clear hC
    go_enter Tryd.func12, Tryd.ntmps12
    go_wp2
    go_returns
    exact ⟨rfl, rfl⟩
  · rcases hC.cells with h | ⟨b, off, rfl, hc⟩
    · omega
    obtain ⟨z, z0, z1, hz⟩ := hc 0 hl
    refine ⟨z, z0, z1, fun w hg => ?_⟩
    have q : w.cell? ⟨b, off, none⟩ = some (.int .u8 z) := hg.old hz
    have e0 : ((len : Int) == 0) = false := by simp; omega
    have e1 : Int.tmod 0 (len : Int) = 0 := by simp
    have e2 : (0 : Int) < (len : Int) := by omega
    clear hC hc hz hg
    go_enter Tryd.func12, Tryd.ntmps12
    go_wp2
    go_returns
    exact ⟨rfl, rfl⟩

theorem or_bit {t : Int} (h0 : 0 ≤ t) (h1 : t < 18446744073709551616) (j : Nat) (hj : j < 38) : 0 ≤ bits .or .u64 t (2 ^ j) ∧ bits .or .u64 t (2 ^ j) < 18446744073709551616 ∧ (t < 274877906944 → bits .or .u64 t (2 ^ j) < 274877906944 ∧ decayN (bits .or .u64 t (2 ^ j)) ≤ decayN t) := by
  obtain ⟨n, rfl⟩ := Int.eq_ofNat_of_zero_le h0
  have hj' : 2 ^ j < 2 ^ 38 := Nat.pow_lt_pow_right (by decide) hj
  have e : bits .or .u64 (n : Int) (2 ^ j) = ((n ||| 2 ^ j : Nat) : Int) := by
    have := bits_or_u64_nat n (2 ^ j) (by omega) (by omega)
    rw [← this]; push_cast; rfl
  rw [e]
  have hb : n ||| 2 ^ j < 2 ^ 64 := Nat.or_lt_two_pow (by omega) (by omega)
  refine ⟨by omega, by omega, fun ht => ?_⟩
  have hb2 : n ||| 2 ^ j < 2 ^ 38 := Nat.or_lt_two_pow (by omega) (by omega)
  refine ⟨by omega, ?_⟩
  unfold decayN
  rw [if_pos ht, if_pos (by omega)]
  refine dec_fall _ _ (fun k hk => ?_) 38
  have c : ∀ m : Nat, ((m : Int) / 2 ^ k % 2 = 1) ↔ m.testBit k = true := fun m => by
    rw [Nat.testBit_eq_decide_div_mod_eq, decide_eq_true_eq]
    rw [show (m : Int) / 2 ^ k % 2 = ((m / 2 ^ k % 2 : Nat) : Int) by push_cast; rfl]
    omega
  rw [c] at hk ⊢
  rw [Nat.testBit_or, hk, Bool.true_or]
end Go.Proofs.YtfhbhghifeefeaaDoor
