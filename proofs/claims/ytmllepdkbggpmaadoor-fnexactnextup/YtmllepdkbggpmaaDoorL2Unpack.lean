/- spec.Unpack, whole; and what it says is one answer. -/
import Derived.Test.YtmllepdkbggpmaaDoorL2UnpFin
import Derived.WalkLawsBesides
set_option linter.unusedVariables false
set_option linter.unusedSimpArgs false
namespace Go.Proofs.YtmllepdkbggpmaaDoor
open Go.RowKit

theorem norm_lt {m one : Int} {a b : Nat} (h : a < b) (m0 : 0 < m) (h1 : one ≤ m * 2 ^ a) (h2 : m * 2 ^ b < 2 * one) : False := by
  obtain ⟨d, rfl⟩ : ∃ d, b = a + 1 + d := ⟨b - (a + 1), by omega⟩
  have e : m * (2 : Int) ^ (a + 1 + d) = m * 2 ^ a * 2 * 2 ^ d := by
    rw [Int.pow_add, Int.pow_succ]; simp [Int.mul_assoc]
  rw [e] at h2
  have p1 : (1 : Int) ≤ 2 ^ d := by
    have h0 : (0 : Int) < 2 ^ d := Int.pow_pos (by decide)
    exact h0
  have p2 : (0 : Int) < 2 ^ a := Int.pow_pos (by decide)
  have p3 : 0 < m * 2 ^ a := Int.mul_pos m0 p2
  have := Int.mul_le_mul_of_nonneg_left p1 (show 0 ≤ m * 2 ^ a * 2 by omega)
  omega

theorem NormIs.one {p mx one v e g e' g' : Int} (v0 : 0 < v) (one0 : 0 < one) (h : NormIs p mx one v e g) (h' : NormIs p mx one v e' g') : e = e' ∧ g = g' := by
  obtain ⟨k, m, e0, hm, hg, he, h1, h2⟩ := h
  obtain ⟨k', m', e0', hm', hg', he', h1', h2'⟩ := h'
  have hmm : m = m' ∧ e0 = e0' ∧ 0 < m := by
    have := Int.emod_nonneg v (show one ≠ 0 by omega)
    omega
  obtain ⟨rfl, rfl, m0⟩ := hmm
  have hk : k = k' := by
    subst hg hg'
    rcases Nat.lt_trichotomy k k' with c | c | c
    · exact (norm_lt c m0 h1 h2').elim
    · exact c
    · exact (norm_lt c m0 h1' h2).elim
  subst hk
  exact ⟨by omega, by rw [hg, hg']⟩

/-- Unpack's answer is one. -/
theorem UnpackIs.one {f p mx one inf sg nan W c s e g c' s' e' g' : Int} (hf : IsFmt f p mx one inf sg nan) (h : UnpackIs p mx one inf sg nan W c s e g) (h' : UnpackIs p mx one inf sg nan W c' s' e' g') : c = c' ∧ s = s' ∧ e = e' ∧ g = g' := by
  obtain ⟨b1, b2, b3, b4, b5, b6, b7, b8, b9, b10, b11, b12⟩ := hf.bounds
  obtain ⟨v, hv, hc⟩ := h
  obtain ⟨v', hv', hc'⟩ := h'
  have hvv : v = v' ∧ s = s' := by omega
  obtain ⟨rfl, rfl⟩ := hvv
  rcases hc with hc | hc | hc | hc | ⟨a1, a2, rfl, a3⟩
  · rcases hc' with h | h | h | h | h <;> omega
  · rcases hc' with h | h | h | h | h <;> omega
  · rcases hc' with h | h | h | h | h <;> omega
  · rcases hc' with h | h | h | h | h <;> omega
  · rcases hc' with h | h | h | h | ⟨_, _, rfl, a3'⟩
    · omega
    · omega
    · omega
    · omega
    · obtain ⟨rfl, rfl⟩ := NormIs.one a1 (by omega) a3 a3'
      exact ⟨rfl, rfl, rfl, rfl⟩

theorem specUnpack_fit {f p mx one inf sg nan : Int} (h : IsFmt f p mx one inf sg nan) (W : Int) (v0 : 0 ≤ W) (v1 : W < 2 * sg) (w : World) :
    Calls Tryd.prog 7 #[.int .i64 f, .int .u64 W] w fun e w' => ∃ c s x g : Int, UnpackIs p mx one inf sg nan W c s x g ∧ e = .returned (.agg #[.int .i64 c, .int .i64 s, .int .i64 x, .int .u64 g]) ∧ Gr w w' := by
  obtain ⟨b1, b2, b3, b4, b5, b6, b7, b8, b9, b10, b11, b12⟩ := h.bounds
  by_cases hn : W = 0 ∨ W = sg ∨ (inf ≤ W ∧ W < sg) ∨ sg + inf ≤ W
  · exact specUnpack_flat h W v0 v1 hn w
  · by_cases hs : W < sg
    · by_cases ho : one ≤ W
      · exact specUnpack_big0 h W ho (by omega) w
      · exact specUnpack_small0 h W (by omega) (by omega) w
    · obtain ⟨v, rfl⟩ : ∃ v, W = v + sg := ⟨W - sg, by omega⟩
      by_cases ho : one ≤ v
      · exact specUnpack_big1 h v ho (by omega) w
      · exact specUnpack_small1 h v (by omega) (by omega) w

theorem specUnpack_no (f v : Int) (v0 : 0 ≤ v) (h : ¬ (f = 0 ∨ f = 1) ∨ (f = 0 ∧ 4294967296 ≤ v)) (w : World) :
    Calls Tryd.prog 7 #[.int .i64 f, .int .u64 v] w fun e w' => e = .returned (.agg #[.int .i64 4, .int .i64 0, .int .i64 0, .int .u64 0]) ∧ Gr w w' := by
  have HE : Hid _ := h
  clear h
  go_enter Tryd.func7, Tryd.ntmps7
  go_wp2_with (go_at_call 18; refine (l2Fits_no _ _ v0 HE.out _).mono ?_; rintro e w' ⟨rfl, hw⟩; subst hw)
  go_returns
  exact ⟨rfl, by (repeat' (first | (with_reducible assumption) | (with_reducible exact Gr.refl _) | (with_reducible refine Gr.alloc ?_ _ _) | (with_reducible refine Gr.drew ?_) | (with_reducible refine Gr.setCell ?_ ?_ _) | (with_reducible refine Gr.trans ?_ (by with_reducible assumption)) | go_size))⟩

/-- A word and a format: it fits, or it does not. -/
theorem fit_or (f v : Int) (v0 : 0 ≤ v) (v1 : v < 18446744073709551616) : (∃ p mx one inf sg nan, IsFmt f p mx one inf sg nan ∧ v < 2 * sg) ∨ (¬ (f = 0 ∨ f = 1) ∨ (f = 0 ∧ 4294967296 ≤ v)) := by
  by_cases h0 : f = 0
  · by_cases hv : v < 4294967296
    · exact .inl ⟨_, _, _, _, _, _, .inl ⟨h0, rfl, rfl, rfl, rfl, rfl, rfl⟩, by omega⟩
    · exact .inr (.inr ⟨h0, by omega⟩)
  · by_cases h1 : f = 1
    · exact .inl ⟨_, _, _, _, _, _, .inr ⟨h1, rfl, rfl, rfl, rfl, rfl, rfl⟩, by omega⟩
    · exact .inr (.inl (by omega))
end Go.Proofs.YtmllepdkbggpmaaDoor
