import Derived.Test.YtnbbfeknbfohhaaGreatDoorA1
import Derived.Test.YtnbbfeknbfohhaaGreatDoorB0
import Derived.Test.YtnbbfeknbfohhaaGreatDoorC0
import Derived.Test.YtnbbfeknbfohhaaGreatDoorG3
set_option linter.unusedVariables false
namespace Go.Proofs.YtnbbfeknbfohhaaGreatDoor
open Go.RowKit
def or3 (a b c : Int) : Int := if a ≠ 0 then a else if b ≠ 0 then b else c
set_option linter.unusedSimpArgs false
theorem chosen_zero (mode sign : Int) (lo : Nat) : chosen mode sign lo 0 = lo := by
 unfold chosen up
 rw [if_neg (by simp)]; rfl
theorem cast_pow2 (k : Nat) : ((2 ^ k : Nat) : Int) = (2 : Int) ^ k := by push_cast; rfl
def WordIs (inf sg a : Int) (x : Opd) (v : Int) : Prop := (x.s = 0 ∧ a = v ∨ x.s = 1 ∧ a = v + sg) ∧ 0 ≤ v ∧ v ≤ inf ∧ (x.c = 0 ↔ v = 0) ∧ (x.c = 2 ↔ v = inf)
theorem word_is {f p mx one inf sg nan a : Int} (h : IsFmt f p mx one inf sg nan) (a0 : 0 ≤ a) {x : Opd} (hx : OpdIs p mx one inf sg nan a x) (hc : x.c ≤ 2) : a < 2 * sg ∧ ∃ v, WordIs inf sg a x v ∧ (x.c = 1 → NormIs p mx one v x.e (x.M : Int)) ∧ (x.c ≠ 1 → x.e = 0 ∧ x.M = 0) := by
 have hb := h.bounds
 rcases hx with ⟨ha, v, hs, hv⟩ | ⟨_, rfl⟩
 ·refine ⟨ha, v, ?_⟩
  unfold WordIs
  rcases hv with ⟨q, c, e, m⟩ | ⟨_, _, c, _⟩ | ⟨_, c, _⟩ | ⟨q, c, e, m⟩ | ⟨q0, q1, c, hn⟩
  ·exact ⟨⟨by omega, by omega, by omega, by omega, by omega⟩, fun c' => by omega, fun _ => ⟨e, by omega⟩⟩
  ·exfalso; omega
  ·exfalso; omega
  ·exact ⟨⟨by omega, by omega, by omega, by omega, by omega⟩, fun c' => by omega, fun _ => ⟨e, by omega⟩⟩
  ·exact ⟨⟨by omega, by omega, by omega, by omega, by omega⟩, fun _ => hn, fun c' => by omega⟩
 ·exfalso; dsimp only at hc; omega
end Go.Proofs.YtnbbfeknbfohhaaGreatDoor
namespace Go.Proofs.YtnbbfeknbfohhaaGreatDoor
open Go.RowKit
def wholeM (mode : Int) (x : Opd) : Nat := chosen mode x.s (cutLo x.M x.e 0) (cutHalf x.M x.e 0 false)
def wholeX (x : Opd) : Bool := decide (0 < cutHalf x.M x.e 0 false)
def wholeO (mode : Int) (x : Opd) : Opd := if x.c = 1 ∧ x.e < 0 then (if wholeM mode x = 0 then ⟨0, x.s, 0, 0⟩ else ⟨1, x.s, 0, wholeM mode x⟩) else x
theorem cutHalf_pos' (M : Nat) (e q : Int) (h : q ≤ e) : cutHalf M e q false = 0 := by unfold cutHalf; rw [if_pos h]; rfl
theorem wholeX_no {x : Opd} (h : 0 ≤ x.e) : wholeX x = false := by unfold wholeX; rw [cutHalf_pos' _ _ _ h]; rfl
theorem wholeM_no {mode : Int} {x : Opd} (h : 0 ≤ x.e) : wholeM mode x = x.M * 2 ^ x.e.toNat := by
 unfold wholeM; rw [cutHalf_pos' _ _ _ h, chosen_zero]; unfold cutLo; rw [if_pos h, Int.sub_zero]
theorem wholeM_lt {mode : Int} {x : Opd} {P : Nat} (h : x.e < 0) (hM : x.M < 2 ^ (P + 1)) : wholeM mode x ≤ 2 ^ P := by
 have h1 := (chosen_le mode x.s (cutLo x.M x.e 0) (cutHalf x.M x.e 0 false)).2
 have h2 : cutLo x.M x.e 0 < 2 ^ P := by
  unfold cutLo
  rw [if_neg (by omega), Nat.div_lt_iff_lt_mul (Nat.pow_pos (by decide)), ← Nat.pow_add]
  have := pow2_mono (show P + 1 ≤ P + (0 - x.e).toNat by omega)
  omega
 unfold wholeM
 omega
theorem whole_exact {f p mx one inf sg nan : Int} (h : IsFmt f p mx one inf sg nan) (s : Int) (M : Nat) (h0 : 0 < M) (h1 : (M : Int) ≤ 2 * one) :
  ∃ z, 0 < z ∧ z < inf ∧ ∀ mode, RoundIs p (1 - mx) mx one inf mode s M 0 false z 0 := by
 obtain ⟨P, hP, hP63, hone⟩ := h.pow
 have hone' : one = ((2 ^ P : Nat) : Int) := by rw [cast_pow2]; exact hone
 have hsucc : 2 ^ (P + 1) = 2 * 2 ^ P := by rw [Nat.pow_succ]; omega
 have hb := h.bounds
 have n0 := nb_pos M h0
 have hM1 : M ≤ 2 ^ (P + 1) := by omega
 have hn : nb M ≤ P + 2 := nb_le (by
  rw [show P + 2 = (P + 1) + 1 from rfl, Nat.pow_succ]
  have := Nat.pow_pos (n := P + 1) (show 0 < 2 by decide)
  omega)
 obtain ⟨q, hq⟩ : ∃ q : Int, (nb M : Int) + 0 - 1 - p + 1 = q := ⟨_, rfl⟩
 have hhalf : cutHalf M 0 q false = 0 := by
  by_cases c : q ≤ 0
  ·exact cutHalf_pos' _ _ _ c
  ·have hq1 : (q - 0).toNat = 1 := by omega
   have hM2 : M = 2 ^ (P + 1) := by
    rcases Nat.lt_or_ge M (2 ^ (P + 1)) with d | d
    ·have := nb_le d; omega
    ·omega
   unfold cutHalf
   rw [if_neg c, hq1]
   exact hr_zero M 1 (by decide) (by rw [hM2, hsucc]; omega)
 have hlo : cutLo M 0 q < 2 ^ (P + 1) := cutLo_lt M 0 q (P + 1) (by omega)
 have hlo0 : 2 ^ P ≤ cutLo M 0 q := cutLo_ge M 0 q P h0 (by omega)
 refine ⟨(cutLo M 0 q : Nat) + one * ((nb M : Int) + 0 - 1 - (1 - mx)), ?_, ?_, fun mode => ?_⟩
 ·have := Int.mul_nonneg (show 0 ≤ one by omega) (show 0 ≤ (nb M : Int) + 0 - 1 - (1 - mx) by omega)
  omega
 ·rcases h with ⟨rfl, rfl, rfl, rfl, rfl, rfl, rfl⟩ | ⟨rfl, rfl, rfl, rfl, rfl, rfl, rfl⟩ <;> omega
 ·refine ⟨(nb M : Int) + 0 - 1, (nb M : Int) + 0 - 1, cutLo M 0 q, _, 0, rfl, .inr ⟨by omega, rfl⟩, by rw [hq, hhalf], by rw [hq, chosen_zero], rfl, .inr (.inr ⟨by omega, ?_, rfl, .inl ⟨rfl, rfl⟩⟩)⟩
  rcases h with ⟨rfl, rfl, rfl, rfl, rfl, rfl, rfl⟩ | ⟨rfl, rfl, rfl, rfl, rfl, rfl, rfl⟩ <;> omega
def wordK (s : Int) (M : Nat) : Int := if s = 1 ∧ M ≠ 0 then 18446744073709551616 - (M : Int) else (M : Int)
theorem mostK_lt (kind s : Int) : mostK kind s < 18446744073709551616 := by
 unfold mostK
 repeat' split
 all_goals decide
end Go.Proofs.YtnbbfeknbfohhaaGreatDoor
