/- spec's chapter 5: kinds of integers. -/
import Derived.Test.YtfakbjgbbcigpaaDoorL3YA
import Derived.Test.YtfakbjgbbcigpaaDoorL5Wh
import Derived.Deep.RegionHeld3
set_option linter.unusedVariables false
set_option linter.unusedSimpArgs false
namespace Go.Proofs.YtfakbjgbbcigpaaDoor
open Go.RowKit

def bitsK (kind : Int) : Int := if kind = 0 ∨ kind = 2 then 32 else if kind = 1 ∨ kind = 3 then 64 else 0
def sgnK (kind : Int) : Bool := decide (kind = 0 ∨ kind = 1)

theorem l5Kind_any (kind : Int) (w : World) : Calls Tryd.prog 41 #[.int .i64 kind] w fun e w' => e = .returned (.tuple #[.int .i64 (bitsK kind), .bool (sgnK kind)]) ∧ w = w' := by
  rcases (show kind = 0 ∨ kind = 1 ∨ kind = 2 ∨ kind = 3 ∨ (kind ≠ 0 ∧ kind ≠ 1 ∧ kind ≠ 2 ∧ kind ≠ 3) by omega) with rfl | rfl | rfl | rfl | ⟨c0, c1, c2, c3⟩
  case inr.inr.inr.inr =>
    have e0 : (kind == 0) = false := by simp [c0]
    have e1 : (kind == 1) = false := by simp [c1]
    have e2 : (kind == 2) = false := by simp [c2]
    have e3 : (kind == 3) = false := by simp [c3]
    have h1 : bitsK kind = 0 := by simp [bitsK, c0, c1, c2, c3]
    have h2 : sgnK kind = false := by simp [sgnK, c0, c1]
    rw [h1, h2]
    go_enter Tryd.func41, Tryd.ntmps41
    go_wp2
    go_returns
    exact ⟨rfl, rfl⟩
  all_goals
    go_enter Tryd.func41, Tryd.ntmps41
    go_wp2
    go_returns
    exact ⟨rfl, rfl⟩

set_option maxRecDepth 100000 in
set_option maxHeartbeats 1000000 in
/-- A kind with so many bits ahead of the sign's: t of them. -/
theorem l5Most_at (kind s B t : Int) (S : Bool) (T : Nat) (hs : s = 0 ∨ s = 1 ∧ S = true) (hB : (if S then B - 1 else B) = t) (B0 : 0 ≤ B) (B1 : B ≤ 64) (t0 : 0 ≤ t) (hT : T = 2 ^ t.toNat)
    (HK : Hid (∀ w, Calls Tryd.prog 41 #[.int .i64 kind] w fun e w' => e = .returned (.tuple #[.int .i64 B, .bool S]) ∧ w = w')) (w : World) :
    Calls Tryd.prog 44 #[.int .i64 kind, .int .i64 s] w fun e w' => ∃ b k c, BigN 20 w' (.slice (some ⟨b, 0, none⟩) k c) (if s = 1 then T else T - 1) ∧ e = .returned (.slice (some ⟨b, 0, none⟩) k c) ∧ Gb w w' := by
  have T0 : 1 ≤ T := by rw [hT]; exact Nat.pow_pos (by decide)
  have t64 : t ≤ 64 := by split at hB <;> omega
  have HO : Hid (∀ w, Calls Tryd.prog 83 #[.int .u64 1] w fun e w' => ∃ b k c, BigN 2 w' (.slice (some ⟨b, 0, none⟩) k c) 1 ∧ e = .returned (.slice (some ⟨b, 0, none⟩) k c) ∧ Gb w w') := fun w => big_slice (l2Big_any 1 (by omega) w)
  have HS : Hid (∀ v w, BigN 2 w v 1 → Calls Tryd.prog 82 #[v, .int .i64 t] w fun e w' => ∃ b k c, BigN 20 w' (.slice (some ⟨b, 0, none⟩) k c) T ∧ e = .returned (.slice (some ⟨b, 0, none⟩) k c) ∧ Gb w w') := fun v w ⟨n, a1, a2⟩ => by
    obtain ⟨m, rfl⟩ := Int.eq_ofNat_of_zero_le t0
    rw [Int.toNat_natCast] at hT
    rw [hT, ← Nat.one_mul (2 ^ m)]
    exact big_slice ((l2Shl_any a2 (by omega) m (by omega)).mono (fun e w' ⟨v, k, c1, c2, c3, c4⟩ => ⟨v, k, c1, c2, by omega, c4⟩))
  have HB : Hid (∀ v v' w, BigN 20 w v T → BigN 2 w v' 1 → Calls Tryd.prog 84 #[v, v'] w fun e w' => ∃ b k c, BigN 20 w' (.slice (some ⟨b, 0, none⟩) k c) (T - 1) ∧ e = .returned (.slice (some ⟨b, 0, none⟩) k c) ∧ Gb w w') := fun v v' w ⟨n, a1, a2⟩ ⟨n', b1, b2⟩ => big_slice ((l2Sub_any a2 (by omega) b2 (by omega) (by omega)).mono (fun e w' ⟨v, k, c1, c2, c3, c4⟩ => ⟨v, k, c1, c2, by omega, c4⟩))
  clear hT
  cases S
  · rw [if_neg (by decide)] at hB
    rcases hs with rfl | ⟨_, h⟩
    · rw [if_neg (by decide)]
      subst hB
      go_enter Tryd.func44, Tryd.ntmps44
      go_wp2_with (first
        | (go_at_call 41; refine (HK.out _).mono ?_; rintro e wk ⟨rfl, hw⟩; subst hw)
        | (go_at_call 83; refine (HO.out _).mono ?_; rintro e n1 ⟨b1, k1, q1, hb1, rfl, hg_n1⟩)
        | (go_at_call 82; with_reducible refine (HS.out _ _ hb1).mono ?_; rintro e n2 ⟨b2, k2, q2, hb2, rfl, hg_n2⟩)
        | (go_at_call 84; with_reducible refine (HB.out _ _ _ (BigN.gb hb2 hg_n1) hb1).mono ?_; rintro e n4 ⟨b4, k4, q4, hb4, rfl, hg_n4⟩))
      go_returns
      exact ⟨_, _, _, hb4, rfl, Gb.g⟩
    · cases h
  · rw [if_pos rfl] at hB
    have u1 : IntKind.i64.wrap (B - 1) = t := by rw [IntKind.wrap_i64]; omega
    rcases hs with rfl | ⟨rfl, _⟩
    · rw [if_neg (by decide)]
      go_enter Tryd.func44, Tryd.ntmps44
      go_wp2_with (first
        | (go_at_call 41; refine (HK.out _).mono ?_; rintro e wk ⟨rfl, hw⟩; subst hw)
        | (go_at_call 83; refine (HO.out _).mono ?_; rintro e n1 ⟨b1, k1, q1, hb1, rfl, hg_n1⟩)
        | (go_at_call 82; with_reducible refine (HS.out _ _ hb1).mono ?_; rintro e n2 ⟨b2, k2, q2, hb2, rfl, hg_n2⟩)
        | (go_at_call 84; with_reducible refine (HB.out _ _ _ (BigN.gb hb2 hg_n1) hb1).mono ?_; rintro e n4 ⟨b4, k4, q4, hb4, rfl, hg_n4⟩))
      go_returns
      exact ⟨_, _, _, hb4, rfl, Gb.g⟩
    · rw [if_pos rfl]
      go_enter Tryd.func44, Tryd.ntmps44
      go_wp2_with (first
        | (go_at_call 41; refine (HK.out _).mono ?_; rintro e wk ⟨rfl, hw⟩; subst hw)
        | (go_at_call 83; refine (HO.out _).mono ?_; rintro e n1 ⟨b1, k1, q1, hb1, rfl, hg_n1⟩)
        | (go_at_call 82; with_reducible refine (HS.out _ _ hb1).mono ?_; rintro e n2 ⟨b2, k2, q2, hb2, rfl, hg_n2⟩))
      go_returns
      exact ⟨_, _, _, hb2, rfl, Gb.g⟩

set_option maxRecDepth 100000 in
set_option maxHeartbeats 1000000 in
theorem l5Most_none (kind B : Int) (HK : Hid (∀ w, Calls Tryd.prog 41 #[.int .i64 kind] w fun e w' => e = .returned (.tuple #[.int .i64 B, .bool false]) ∧ w = w')) (w : World) :
    Calls Tryd.prog 44 #[.int .i64 kind, .int .i64 1] w fun e w' => ∃ b k c, BigN 20 w' (.slice (some ⟨b, 0, none⟩) k c) 0 ∧ e = .returned (.slice (some ⟨b, 0, none⟩) k c) ∧ Gb w w' := by
  go_enter Tryd.func44, Tryd.ntmps44
  go_wp2_with (go_at_call 41; refine (HK.out _).mono ?_; rintro e wk ⟨rfl, hw⟩; subst hw)
  go_returns
  refine ⟨_, _, _, ⟨0, by omega, ⟨by decide, .inl rfl⟩, (own_lit w 0).raw (by decide)⟩, rfl, Gb.g⟩

theorem l5Most_any (kind s : Int) (hs : s = 0 ∨ s = 1) (w : World) :
    Calls Tryd.prog 44 #[.int .i64 kind, .int .i64 s] w fun e w' => ∃ b k c, BigN 20 w' (.slice (some ⟨b, 0, none⟩) k c) (mostK kind s) ∧ e = .returned (.slice (some ⟨b, 0, none⟩) k c) ∧ Gb w w' := by
  by_cases c : sgnK kind = true
  · have hk : kind = 0 ∨ kind = 1 := by unfold sgnK at c; exact of_decide_eq_true c
    rcases hk with rfl | rfl
    · have := l5Most_at 0 s 32 31 true 2147483648 (hs.imp id (fun h => ⟨h, rfl⟩)) (by decide) (by omega) (by omega) (by omega) (by decide) (fun w => l5Kind_any 0 w) w
      rcases hs with rfl | rfl <;> exact this
    · have := l5Most_at 1 s 64 63 true 9223372036854775808 (hs.imp id (fun h => ⟨h, rfl⟩)) (by decide) (by omega) (by omega) (by omega) (by decide) (fun w => l5Kind_any 1 w) w
      rcases hs with rfl | rfl <;> exact this
  · have c' : sgnK kind = false := by simpa using c
    have HK : Hid (∀ w, Calls Tryd.prog 41 #[.int .i64 kind] w fun e w' => e = .returned (.tuple #[.int .i64 (bitsK kind), .bool false]) ∧ w = w') := fun w => c' ▸ l5Kind_any kind w
    have hk : ¬ (kind = 0 ∨ kind = 1) := by unfold sgnK at c'; exact of_decide_eq_false c'
    rcases hs with rfl | rfl
    · rcases (show kind = 2 ∨ kind = 3 ∨ (kind ≠ 2 ∧ kind ≠ 3) by omega) with rfl | rfl | ⟨d, d'⟩
      · exact l5Most_at 2 0 32 32 false 4294967296 (by omega) (by decide) (by omega) (by omega) (by omega) (by decide) HK w
      · exact l5Most_at 3 0 64 64 false 18446744073709551616 (by omega) (by decide) (by omega) (by omega) (by omega) (by decide) HK w
      · have e1 : bitsK kind = 0 := by unfold bitsK; rw [if_neg (by omega), if_neg (by omega)]
        have e2 : mostK kind 0 = 0 := by unfold mostK; rw [if_neg (by omega), if_neg (by omega), if_neg (by omega), if_neg (by omega)]
        rw [e2]
        rw [e1] at HK
        exact l5Most_at kind 0 0 0 false 1 (by omega) (by decide) (by omega) (by omega) (by omega) (by decide) HK w
    · have e2 : mostK kind 1 = 0 := by unfold mostK; rw [if_neg (by omega), if_neg (by omega)]; repeat' split
                                       all_goals first | rfl | omega
      rw [e2]
      exact l5Most_none kind _ HK w
end Go.Proofs.YtfakbjgbbcigpaaDoor
