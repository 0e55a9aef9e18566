/- Chapter 2's model: the numbers of a format, l2Bad, l2Put, l2Fits. -/
import Derived.Test.YtkflpogmhailhaaGreatDoorA1
import Derived.Test.YtkflpogmhailhaaGreatDoorRows
import Derived.WalkSpells
import Derived.WalkLawsBesides
set_option linter.unusedVariables false
set_option linter.unusedSimpArgs false

namespace Go.Proofs.YtkflpogmhailhaaGreatDoor
open Go.RowKit

/-- The numbers of a format: precision, greatest exponent, 2^(p-1), the words of infinity, of the sign, of the canonical NaN. -/
def IsFmt (f p mx one inf sg nan : Int) : Prop :=
  (f = 0 ∧ p = 24 ∧ mx = 127 ∧ one = 8388608 ∧ inf = 2139095040 ∧ sg = 2147483648 ∧ nan = 2143289344) ∨
  (f = 1 ∧ p = 53 ∧ mx = 1023 ∧ one = 4503599627370496 ∧ inf = 9218868437227405312 ∧ sg = 9223372036854775808 ∧ nan = 9221120237041090560)

theorem l2Format_any (f : Int) (b : Bool) (hb : b = decide (f = 0 ∨ f = 1)) (w : World) :
    Calls Tryz.prog 60 #[.int .i64 f] w fun e w' => e = .returned (.bool b) ∧ w = w' := by
  rcases (show f = 0 ∨ f = 1 ∨ ((f == 0) = false ∧ (f == 1) = false ∧ ¬ (f = 0 ∨ f = 1)) by simp; omega) with rfl | rfl | ⟨e0, e1, h⟩
  · have : b = true := by rw [hb]; decide
    subst this
    clear hb
    go_enter Tryz.func60, Tryz.ntmps60
    go_wp2
    go_ret
    exact ⟨rfl, rfl⟩
  · have : b = true := by rw [hb]; decide
    subst this
    clear hb
    go_enter Tryz.func60, Tryz.ntmps60
    go_wp2
    go_ret
    exact ⟨rfl, rfl⟩
  · have : b = false := by rw [hb]; simp; omega
    subst this
    clear h hb
    go_enter Tryz.func60, Tryz.ntmps60
    go_wp2
    go_ret
    exact ⟨rfl, rfl⟩

theorem l2P_any {f p mx one inf sg nan : Int} (h : IsFmt f p mx one inf sg nan) (w : World) :
    Calls Tryz.prog 76 #[.int .i64 f] w fun e w' => e = .returned (.int .i64 p) ∧ w = w' := by
  rcases h with ⟨rfl, rfl, rfl, rfl, rfl, rfl, rfl⟩ | ⟨rfl, rfl, rfl, rfl, rfl, rfl, rfl⟩
  all_goals
    go_enter Tryz.func76, Tryz.ntmps76
    go_wp2
    go_ret
    exact ⟨rfl, rfl⟩
theorem l2Max_any {f p mx one inf sg nan : Int} (h : IsFmt f p mx one inf sg nan) (w : World) :
    Calls Tryz.prog 78 #[.int .i64 f] w fun e w' => e = .returned (.int .i64 mx) ∧ w = w' := by
  rcases h with ⟨rfl, rfl, rfl, rfl, rfl, rfl, rfl⟩ | ⟨rfl, rfl, rfl, rfl, rfl, rfl, rfl⟩
  all_goals
    go_enter Tryz.func78, Tryz.ntmps78
    go_wp2
    go_ret
    exact ⟨rfl, rfl⟩
theorem l2Min_any {f p mx one inf sg nan : Int} (h : IsFmt f p mx one inf sg nan) (w : World) :
    Calls Tryz.prog 77 #[.int .i64 f] w fun e w' => e = .returned (.int .i64 (1 - mx)) ∧ w = w' := by
  have hm : -2000 ≤ mx ∧ mx ≤ 2000 := by rcases h with h | h <;> omega
  go_enter Tryz.func77, Tryz.ntmps77
  go_wp2_with (go_at_call 78; refine (l2Max_any h _).mono ?_; rintro e w' ⟨rfl, hw⟩; subst hw)
  go_ret
  exact ⟨rfl, rfl⟩

theorem pow_small (k : Nat) (h : k ≤ 62) : (2 : Int) ^ k ≤ 4611686018427387904 := by
  have := Nat.pow_le_pow_right (show 0 < 2 by decide) h
  have c : (2 : Int) ^ k = ((2 ^ k : Nat) : Int) := by push_cast; rfl
  rw [c]; omega

/-- spec.l2Two: a power of two. -/
theorem l2Two_any (n : Nat) (z : Int) (hn : n ≤ 63) (hz : z = 2 ^ n) (w : World) :
    Calls Tryz.prog 75 #[.int .i64 n] w fun e w' => e = .returned (.int .u64 z) ∧ w = w' := by
  have HZ : Hid _ := hz
  clear hz
  go_enter Tryz.func75, Tryz.ntmps75
  go_wp2
  go_loop [3, 4] (fun s i => ∃ (k : Nat) (P : Int), k ≤ n ∧ s = .int .u64 P ∧ i = .int .i64 k ∧ Hid (P = 2 ^ k) ∧ 1 ≤ P) (fun _ i => n - (intOf i).toNat)
  case atStart => exact ⟨0, 1, by omega, rfl, rfl, rfl, by omega⟩
  case round =>
    obtain ⟨k, P, hk, rfl, rfl, HP, p1⟩ := hrel
    by_cases hlt : (k : Int) < (n : Int)
    · have hp := pow_small k (by omega)
      rw [← HP.out] at hp
      go_wp2
      go_round
      case rel => exact ⟨k + 1, P * 2, by omega, rfl, by go_num, by show _ = _; rw [Int.pow_succ, ← HP.out], by omega⟩
      case measure => simp [intOf]; omega
    · have e : P = z := by rw [HP.out, HZ.out, show k = n by omega]
      have E : Hid _ := e
      clear e
      go_wp2
      go_ret
      exact ⟨ret_congr (congrArg (Value.int IntKind.u64) E.out), rfl⟩

theorem IsFmt.bounds {f p mx one inf sg nan : Int} (h : IsFmt f p mx one inf sg nan) : 24 ≤ p ∧ p ≤ 53 ∧ 127 ≤ mx ∧ mx ≤ 1023 ∧ 8388608 ≤ one ∧ one ≤ 4503599627370496 ∧ 0 < inf ∧ inf < sg ∧ inf < nan ∧ nan < sg ∧ sg ≤ 9223372036854775808 ∧ one < inf := by
  rcases h with h | h <;> omega
theorem IsFmt.pow {f p mx one inf sg nan : Int} (h : IsFmt f p mx one inf sg nan) : ∃ n : Nat, (n : Int) = p - 1 ∧ n ≤ 63 ∧ one = 2 ^ n := by
  rcases h with h | h
  · exact ⟨23, by omega, by omega, by rw [h.2.2.2.1]; decide⟩
  · exact ⟨52, by omega, by omega, by rw [h.2.2.2.1]; decide⟩

theorem l2One_any {f p mx one inf sg nan : Int} (h : IsFmt f p mx one inf sg nan) (w : World) :
    Calls Tryz.prog 75 #[.int .i64 (p - 1)] w fun e w' => e = .returned (.int .u64 one) ∧ w = w' := by
  obtain ⟨n, hn, hn63, hone⟩ := h.pow
  rw [← hn]
  exact l2Two_any n one hn63 hone w

theorem l2Inf_any {f p mx one inf sg nan : Int} (h : IsFmt f p mx one inf sg nan) (w : World) :
    Calls Tryz.prog 62 #[.int .i64 f] w fun e w' => e = .returned (.int .u64 inf) ∧ w = w' := by
  obtain ⟨b1, b2, b3, b4, b5, b6, b7, b8, b9, b10, b11, b12⟩ := h.bounds
  have he : IntKind.u64.wrap (one * (2 * mx + 1)) = inf := by
    rw [IntKind.wrap_u64]
    rcases h with ⟨rfl, rfl, rfl, rfl, rfl, rfl, rfl⟩ | ⟨rfl, rfl, rfl, rfl, rfl, rfl, rfl⟩ <;> decide
  have HE : Hid _ := h
  clear h
  go_enter Tryz.func62, Tryz.ntmps62
  go_wp2_with (first
    | (go_at_call 76; refine (l2P_any HE.out _).mono ?_; rintro e w' ⟨rfl, hw⟩; subst hw)
    | (go_at_call 75; refine (l2One_any HE.out _).mono ?_; rintro e w' ⟨rfl, hw⟩; subst hw)
    | (go_at_call 78; refine (l2Max_any HE.out _).mono ?_; rintro e w' ⟨rfl, hw⟩; subst hw))
  go_ret
  exact ⟨rfl, rfl⟩

theorem l2Sign_any {f p mx one inf sg nan : Int} (h : IsFmt f p mx one inf sg nan) (w : World) :
    Calls Tryz.prog 65 #[.int .i64 f] w fun e w' => e = .returned (.int .u64 sg) ∧ w = w' := by
  rcases h with ⟨rfl, rfl, rfl, rfl, rfl, rfl, rfl⟩ | ⟨rfl, rfl, rfl, rfl, rfl, rfl, rfl⟩
  · go_enter Tryz.func65, Tryz.ntmps65
    go_wp2_with (go_at_call 75; refine (l2Two_any 31 2147483648 (by omega) (by decide) _).mono ?_; rintro e w' ⟨rfl, hw⟩; subst hw)
    go_ret
    exact ⟨rfl, rfl⟩
  · go_enter Tryz.func65, Tryz.ntmps65
    go_wp2_with (go_at_call 75; refine (l2Two_any 63 9223372036854775808 (by omega) (by decide) _).mono ?_; rintro e w' ⟨rfl, hw⟩; subst hw)
    go_ret
    exact ⟨rfl, rfl⟩

theorem l2Nan_any {f p mx one inf sg nan : Int} (h : IsFmt f p mx one inf sg nan) (w : World) :
    Calls Tryz.prog 63 #[.int .i64 f] w fun e w' => e = .returned (.int .u64 nan) ∧ w = w' := by
  have H0 : ∀ w, Calls Tryz.prog 75 #[.int .i64 (p - 2)] w fun e w' => e = .returned (.int .u64 (nan - inf)) ∧ w = w' := by
    rcases h with ⟨rfl, rfl, rfl, rfl, rfl, rfl, rfl⟩ | ⟨rfl, rfl, rfl, rfl, rfl, rfl, rfl⟩
    · exact fun w => l2Two_any 22 _ (by omega) (by decide) w
    · exact fun w => l2Two_any 51 _ (by omega) (by decide) w
  obtain ⟨b1, b2, b3, b4, b5, b6, b7, b8, b9, b10, b11, b12⟩ := h.bounds
  have HE : Hid _ := h
  have H0h : Hid _ := H0
  have he : inf + (nan - inf) = nan := by omega
  clear h H0
  go_enter Tryz.func63, Tryz.ntmps63
  go_wp2_with (first
    | (go_at_call 62; refine (l2Inf_any HE.out _).mono ?_; rintro e w' ⟨rfl, hw⟩; subst hw)
    | (go_at_call 76; refine (l2P_any HE.out _).mono ?_; rintro e w' ⟨rfl, hw⟩; subst hw)
    | (go_at_call 75; refine (H0h.out _).mono ?_; rintro e w' ⟨rfl, hw⟩; subst hw))
  go_ret
  exact ⟨rfl, rfl⟩
end Go.Proofs.YtkflpogmhailhaaGreatDoor

namespace Go.Proofs.YtkflpogmhailhaaGreatDoor
open Go.RowKit

theorem l2Bad_fmt {f p mx one inf sg nan : Int} (h : IsFmt f p mx one inf sg nan) (w : World) :
    Calls Tryz.prog 41 #[.int .i64 f] w fun e w' => e = .returned (.agg #[.int .u64 nan, .int .i64 1]) ∧ Gr w w' := by
  have hf : true = decide (f = 0 ∨ f = 1) := by rcases h with h | h <;> simp [h.1]
  have HE : Hid _ := h
  have HF : Hid _ := hf
  clear h hf
  go_enter Tryz.func41, Tryz.ntmps41
  go_wp2_with (first
    | (go_at_call 60; refine (l2Format_any _ true HF.out _).mono ?_; rintro e w' ⟨rfl, hw⟩; subst hw)
    | (go_at_call 63; refine (l2Nan_any HE.out _).mono ?_; rintro e w' ⟨rfl, hw⟩; subst hw))
  go_returns
  exact ⟨rfl, kr⟩

theorem fmt64 : IsFmt 1 53 1023 4503599627370496 9218868437227405312 9223372036854775808 9221120237041090560 := .inr ⟨rfl, rfl, rfl, rfl, rfl, rfl, rfl⟩

theorem l2Bad_no (f : Int) (h : ¬ (f = 0 ∨ f = 1)) (w : World) :
    Calls Tryz.prog 41 #[.int .i64 f] w fun e w' => e = .returned (.agg #[.int .u64 9221120237041090560, .int .i64 1]) ∧ Gr w w' := by
  have HF : Hid (false = decide (f = 0 ∨ f = 1)) := by show _ = _; simp; omega
  clear h
  go_enter Tryz.func41, Tryz.ntmps41
  go_wp2_with (first
    | (go_at_call 60; refine (l2Format_any _ false HF.out _).mono ?_; rintro e w' ⟨rfl, hw⟩; subst hw)
    | (go_at_call 63; refine (l2Nan_any fmt64 _).mono ?_; rintro e w' ⟨rfl, hw⟩; subst hw))
  go_returns
  exact ⟨rfl, kr⟩

theorem l2Put_zero (f v : Int) (w : World) :
    Calls Tryz.prog 61 #[.int .i64 f, .int .i64 0, .int .u64 v] w fun e w' => e = .returned (.int .u64 v) ∧ w = w' := by
  go_enter Tryz.func61, Tryz.ntmps61
  go_wp2
  go_ret
  exact ⟨rfl, rfl⟩
theorem l2Put_one {f p mx one inf sg nan : Int} (h : IsFmt f p mx one inf sg nan) (v : Int) (v0 : 0 ≤ v) (v1 : v < sg) (w : World) :
    Calls Tryz.prog 61 #[.int .i64 f, .int .i64 1, .int .u64 v] w fun e w' => e = .returned (.int .u64 (v + sg)) ∧ w = w' := by
  obtain ⟨b1, b2, b3, b4, b5, b6, b7, b8, b9, b10, b11, b12⟩ := h.bounds
  have HE : Hid _ := h
  clear h
  go_enter Tryz.func61, Tryz.ntmps61
  go_wp2_with (go_at_call 65; refine (l2Sign_any HE.out _).mono ?_; rintro e w' ⟨rfl, hw⟩; subst hw)
  go_ret
  exact ⟨rfl, rfl⟩

theorem IsFmt.yes {f p mx one inf sg nan : Int} (h : IsFmt f p mx one inf sg nan) : true = decide (f = 0 ∨ f = 1) := by
  rcases h with h | h <;> simp [h.1]

end Go.Proofs.YtkflpogmhailhaaGreatDoor

namespace Go.Proofs.YtkflpogmhailhaaGreatDoor
open Go.RowKit

theorem l2Fits_yes {f p mx one inf sg nan : Int} (h : IsFmt f p mx one inf sg nan) (v : Int) (v0 : 0 ≤ v) (v1 : v < 2 * sg) (w : World) :
    Calls Tryz.prog 74 #[.int .i64 f, .int .u64 v] w fun e w' => e = .returned (.bool true) ∧ w = w' := by
  rcases h with ⟨rfl, rfl, rfl, rfl, rfl, rfl, rfl⟩ | ⟨rfl, rfl, rfl, rfl, rfl, rfl, rfl⟩
  all_goals
    go_enter Tryz.func74, Tryz.ntmps74
    go_wp2_with (go_at_call 60; refine (l2Format_any _ true (by decide) _).mono ?_; rintro e w' ⟨rfl, hw⟩; subst hw)
    go_ret
    first
      | exact ⟨rfl, rfl⟩
      | exact ⟨congrArg (fun b => Exit.returned (Value.bool b)) (decide_eq_true (by omega)), rfl⟩
      | (refine ⟨?_, rfl⟩; simp; omega)
theorem l2Fits_no (f v : Int) (v0 : 0 ≤ v) (h : ¬ (f = 0 ∨ f = 1) ∨ (f = 0 ∧ 4294967296 ≤ v)) (w : World) :
    Calls Tryz.prog 74 #[.int .i64 f, .int .u64 v] w fun e w' => e = .returned (.bool false) ∧ w = w' := by
  rcases h with h | ⟨rfl, hv⟩
  · have hf : false = decide (f = 0 ∨ f = 1) := by simp; omega
    have HF : Hid _ := hf
    clear hf h
    go_enter Tryz.func74, Tryz.ntmps74
    go_wp2_with (go_at_call 60; refine (l2Format_any _ false HF.out _).mono ?_; rintro e w' ⟨rfl, hw⟩; subst hw)
    go_ret
    exact ⟨rfl, rfl⟩
  · go_enter Tryz.func74, Tryz.ntmps74
    go_wp2_with (go_at_call 60; refine (l2Format_any _ true (by decide) _).mono ?_; rintro e w' ⟨rfl, hw⟩; subst hw)
    go_ret
    first
      | exact ⟨rfl, rfl⟩
      | (refine ⟨?_, rfl⟩; simp; omega)

end Go.Proofs.YtkflpogmhailhaaGreatDoor
