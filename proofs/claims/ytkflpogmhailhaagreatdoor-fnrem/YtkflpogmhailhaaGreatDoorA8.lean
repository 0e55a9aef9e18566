/- spec.l2Over, l2Way. -/
import Derived.Test.YtkflpogmhailhaaGreatDoorA1
import Derived.Test.YtkflpogmhailhaaGreatDoorL2A
import Derived.Test.YtkflpogmhailhaaGreatDoorA9
set_option linter.unusedVariables false
set_option linter.unusedSimpArgs false
namespace Go.Proofs.YtkflpogmhailhaaGreatDoor
open Go.RowKit

theorem l2Put_any {f p mx one inf sg nan : Int} (h : IsFmt f p mx one inf sg nan) (s v z : Int) (hs : s = 0 ∧ z = v ∨ s = 1 ∧ z = v + sg) (v0 : 0 ≤ v) (v1 : v < sg) (w : World) :
    Calls Tryz.prog 61 #[.int .i64 f, .int .i64 s, .int .u64 v] w fun e w' => e = .returned (.int .u64 z) ∧ w = w' := by
  rcases hs with ⟨rfl, rfl⟩ | ⟨rfl, rfl⟩
  · exact l2Put_zero f _ w
  · exact l2Put_one h v v0 v1 w

theorem l2Way_any (m : Int) (b : Bool) (hb : b = decide (0 ≤ m ∧ m ≤ 4)) (w : World) :
    Calls Tryz.prog 91 #[.int .i64 m] w fun e w' => e = .returned (.bool b) ∧ w = w' := by
  rcases (show (m < 0 ∧ b = false) ∨ (0 ≤ m ∧ m ≤ 4 ∧ b = true) ∨ (4 < m ∧ b = false) by
    cases b
    · have := of_decide_eq_false hb.symm
      simp only [and_true, Bool.false_eq_true, and_false, false_or]; omega
    · have := of_decide_eq_true hb.symm
      simp only [and_true, Bool.true_eq_false, and_false, false_or, or_false]; omega) with ⟨c, rfl⟩ | ⟨c, d, rfl⟩ | ⟨c, rfl⟩
  all_goals
    clear hb
    go_enter Tryz.func91, Tryz.ntmps91
    go_wp2
    go_returns
    first | exact ⟨rfl, rfl⟩ | exact ⟨ret_congr (congrArg Value.bool (decide_eq_false (by omega))), rfl⟩ | exact ⟨ret_congr (congrArg Value.bool (decide_eq_true (by omega))), rfl⟩

set_option maxHeartbeats 4000000 in
theorem l2Over_any {f p mx one inf sg nan : Int} (h : IsFmt f p mx one inf sg nan) (mode sign z : Int) (m0 : 0 ≤ mode) (m1 : mode ≤ 4) (hs : sign = 0 ∧ z = ovMag inf mode sign ∨ sign = 1 ∧ z = ovMag inf mode sign + sg) (w : World) :
    Calls Tryz.prog 99 #[.int .i64 f, .int .i64 mode, .int .i64 sign] w fun e w' => e = .returned (.agg #[.int .u64 z, .int .i64 20]) ∧ Gr w w' := by
  obtain ⟨b1, b2, b3, b4, b5, b6, b7, b8, b9, b10, b11, b12⟩ := h.bounds
  have HI : Hid (∀ w, Calls Tryz.prog 62 #[.int .i64 f] w fun e w' => e = .returned (.int .u64 inf) ∧ w = w') := fun w => l2Inf_any h w
  have HP : Hid (∀ v w, v = inf ∨ v = inf - 1 → v = ovMag inf mode sign → Calls Tryz.prog 61 #[.int .i64 f, .int .i64 sign, .int .u64 v] w fun e w' => e = .returned (.int .u64 z) ∧ w = w') := fun v w hv hz => l2Put_any h sign v z (by rw [hz]; exact hs) (by omega) (by omega) w
  have hcase : (mode = 0 ∧ ovMag inf mode sign = inf) ∨ (mode = 1 ∧ ovMag inf mode sign = inf) ∨ (mode = 2 ∧ ovMag inf mode sign = inf - 1) ∨ (mode = 3 ∧ sign = 0 ∧ ovMag inf mode sign = inf) ∨ (mode = 3 ∧ sign = 1 ∧ ovMag inf mode sign = inf - 1) ∨ (mode = 4 ∧ sign = 0 ∧ ovMag inf mode sign = inf - 1) ∨ (mode = 4 ∧ sign = 1 ∧ ovMag inf mode sign = inf) := by
    have hs' : sign = 0 ∨ sign = 1 := by omega
    unfold ovMag
    rcases (show mode = 0 ∨ mode = 1 ∨ mode = 2 ∨ mode = 3 ∨ mode = 4 by omega) with rfl | rfl | rfl | rfl | rfl <;> rcases hs' with rfl | rfl <;> simp
  clear hs h
  rcases hcase with ⟨rfl, e⟩ | ⟨rfl, e⟩ | ⟨rfl, e⟩ | ⟨rfl, rfl, e⟩ | ⟨rfl, rfl, e⟩ | ⟨rfl, rfl, e⟩ | ⟨rfl, rfl, e⟩
  all_goals
    have HE : Hid _ := e.symm
    clear e
    go_enter Tryz.func99, Tryz.ntmps99
    go_wp2_with (first
      | (go_at_call 62; refine (HI.out _).mono ?_; rintro e w1 ⟨rfl, hw⟩; subst hw)
      | (go_at_call 61; refine (HP.out _ _ (by omega) HE.out).mono ?_; rintro e w2 ⟨rfl, hw⟩; subst hw))
    go_returns
    exact ⟨rfl, kr⟩
end Go.Proofs.YtkflpogmhailhaaGreatDoor

/- spec.l2Round. -/
set_option linter.unusedVariables false
set_option linter.unusedSimpArgs false
namespace Go.Proofs.YtkflpogmhailhaaGreatDoor
open Go.RowKit

/-- A row of words, its length bounded. -/
def BigN (K : Nat) (w : World) (v : Value) (N : Nat) : Prop := ∃ n, n ≤ K ∧ Big w v n N
theorem BigN.gb {K : Nat} {w w' : World} {v : Value} {N : Nat} (h : BigN K w v N) (k : Gb w w') : BigN K w' v N := by
  obtain ⟨n, h1, h2⟩ := h
  exact ⟨n, h1, h2.gb k⟩

/-- What the walk of l2Round calls. -/
structure RC (f p mn mx one mode sign : Int) (w : World) : Prop where
  max : ∀ w, Calls Tryz.prog 78 #[.int .i64 f] w fun x w' => x = .returned (.int .i64 mx) ∧ w = w'
  min : ∀ w, Calls Tryz.prog 77 #[.int .i64 f] w fun x w' => x = .returned (.int .i64 mn) ∧ w = w'
  prec : ∀ w, Calls Tryz.prog 76 #[.int .i64 f] w fun x w' => x = .returned (.int .i64 p) ∧ w = w'
  two : ∀ w, Calls Tryz.prog 75 #[.int .i64 (p - 1)] w fun x w' => x = .returned (.int .u64 one) ∧ w = w'
  len : ∀ K v N w, K ≤ 200000 → BigN K w v N → Calls Tryz.prog 97 #[v] w fun x w' => x = .returned (.int .i64 (nb N)) ∧ w = w'
  word : ∀ v N w, BigN 190000 w v N → N < 18446744073709551616 → Calls Tryz.prog 102 #[v] w fun x w' => x = .returned (.int .u64 N) ∧ w = w'
  choose : ∀ v (L : Nat) (half : Nat) w, BigN 180000 w v L → half ≤ 3 → Calls Tryz.prog 101 #[.int .i64 mode, .int .i64 sign, v, .int .i64 half] w fun x w' => ∃ v', x = .returned v' ∧ BigN 190000 w' v' (chosen mode sign L half) ∧ Gb w w'

theorem rc_of {f p mn mx one inf sg nan : Int} (h : IsFmt f p mx one inf sg nan) (hmn : 1 - mx = mn) (mode sign : Int) (m0 : 0 ≤ mode) (m1 : mode ≤ 4) (hs : sign = 0 ∨ sign = 1) (w : World) : RC f p mn mx one mode sign w where
  max := fun w => l2Max_any h w
  min := fun w => hmn ▸ l2Min_any h w
  prec := fun w => l2P_any h w
  two := fun w => l2One_any h w
  len := fun K v N w hK ⟨n, h1, h2⟩ => l2Len_any h2 (by omega)
  word := fun v N w ⟨n, h1, h2⟩ hN => l2Word_any h2 (by omega) hN
  choose := fun v L half w ⟨n, h1, h2⟩ hh => (l2Choose_any h2 (by omega) mode sign half m0 m1 hs hh).mono (fun x w' ⟨v', k, a1, a2, a3, a4⟩ => ⟨v', a1, ⟨k, by omega, a2⟩, a4⟩)
end Go.Proofs.YtkflpogmhailhaaGreatDoor
