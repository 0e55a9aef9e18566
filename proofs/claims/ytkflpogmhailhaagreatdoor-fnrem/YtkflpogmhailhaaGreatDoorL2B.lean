/- spec.Unpack. -/
import Derived.Test.YtkflpogmhailhaaGreatDoorL2A
import Derived.WalkLawsBesides
import Derived.Deep.LoopGhost
set_option linter.unusedVariables false
set_option linter.unusedSimpArgs false

namespace Go.Proofs.YtkflpogmhailhaaGreatDoor
open Go.RowKit

/-- A finite number's raw parts, brought to the precision. -/
def NormIs (p mx one v e g : Int) : Prop :=
  ∃ (k : Nat) (m e0 : Int), (v < one ∧ m = v ∧ e0 = 2 - mx - p ∨ one ≤ v ∧ m = v % one + one ∧ e0 = 1 - mx - p + v / one) ∧ g = m * 2 ^ k ∧ e = e0 - k ∧ one ≤ g ∧ g < 2 * one

/-- What Unpack says of a word that fits. -/
def UnpackIs (p mx one inf sg nan W c s e g : Int) : Prop :=
  ∃ v : Int, (s = 0 ∧ v = W ∧ W < sg ∨ s = 1 ∧ v = W - sg ∧ sg ≤ W) ∧
    (v = 0 ∧ c = 0 ∧ e = 0 ∧ g = 0 ∨ inf < v ∧ v < nan ∧ c = 4 ∧ e = 0 ∧ g = 0 ∨ nan ≤ v ∧ c = 3 ∧ e = 0 ∧ g = 0 ∨ v = inf ∧ c = 2 ∧ e = 0 ∧ g = 0 ∨ 0 < v ∧ v < inf ∧ c = 1 ∧ NormIs p mx one v e g)

set_option maxHeartbeats 1000000 in
theorem specUnpack_flat {f p mx one inf sg nan : Int} (h : IsFmt f p mx one inf sg nan) (W : Int) (v0 : 0 ≤ W) (v1 : W < 2 * sg) (hn : W = 0 ∨ W = sg ∨ (inf ≤ W ∧ W < sg) ∨ sg + inf ≤ W) (w : World) :
    Calls Tryz.prog 26 #[.int .i64 f, .int .u64 W] w fun e w' => ∃ c s x g : Int, UnpackIs p mx one inf sg nan W c s x g ∧ e = .returned (.agg #[.int .i64 c, .int .i64 s, .int .i64 x, .int .u64 g]) ∧ Gr w w' := by
  obtain ⟨b1, b2, b3, b4, b5, b6, b7, b8, b9, b10, b11, b12⟩ := h.bounds
  have HE : Hid _ := h
  clear h
  rcases (show W = 0 ∨ W = sg ∨ (inf < W ∧ W < nan) ∨ (nan ≤ W ∧ W < sg) ∨ W = inf ∨ (∃ v, W = v + sg ∧ inf < v ∧ v < nan) ∨ (∃ v, W = v + sg ∧ nan ≤ v) ∨ W = inf + sg by
    rcases hn with h | h | h | h
    · exact .inl h
    · exact .inr (.inl h)
    · omega
    · by_cases a : W = inf + sg
      · simp [a]
      · by_cases b : W - sg < nan
        · exact .inr (.inr (.inr (.inr (.inr (.inl ⟨W - sg, by omega, by omega, b⟩)))))
        · exact .inr (.inr (.inr (.inr (.inr (.inr (.inl ⟨W - sg, by omega, by omega⟩))))))) with rfl | rfl | ⟨c1, c2⟩ | ⟨c1, c2⟩ | rfl | ⟨v, rfl, c1, c2⟩ | ⟨v, rfl, c1⟩ | rfl
  · go_enter Tryz.func26, Tryz.ntmps26
    go_wp2_with (first
      | (go_at_call 74; refine (l2Fits_yes HE.out _ (by omega) (by omega) _).mono ?_; rintro e w' ⟨rfl, hw⟩; subst hw)
      | (go_at_call 62; refine (l2Inf_any HE.out _).mono ?_; rintro e w' ⟨rfl, hw⟩; subst hw)
      | (go_at_call 63; refine (l2Nan_any HE.out _).mono ?_; rintro e w' ⟨rfl, hw⟩; subst hw)
      | (go_at_call 65; refine (l2Sign_any HE.out _).mono ?_; rintro e w' ⟨rfl, hw⟩; subst hw))
    go_returns
    exact ⟨0, 0, 0, 0, ⟨0, .inl ⟨rfl, rfl, by omega⟩, .inl ⟨rfl, rfl, rfl, rfl⟩⟩, rfl, kr⟩
  · go_enter Tryz.func26, Tryz.ntmps26
    go_wp2_with (first
      | (go_at_call 74; refine (l2Fits_yes HE.out _ (by omega) (by omega) _).mono ?_; rintro e w' ⟨rfl, hw⟩; subst hw)
      | (go_at_call 62; refine (l2Inf_any HE.out _).mono ?_; rintro e w' ⟨rfl, hw⟩; subst hw)
      | (go_at_call 63; refine (l2Nan_any HE.out _).mono ?_; rintro e w' ⟨rfl, hw⟩; subst hw)
      | (go_at_call 65; refine (l2Sign_any HE.out _).mono ?_; rintro e w' ⟨rfl, hw⟩; subst hw))
    go_returns
    exact ⟨0, 1, 0, 0, ⟨0, .inr ⟨rfl, by omega, by omega⟩, .inl ⟨rfl, rfl, rfl, rfl⟩⟩, rfl, kr⟩
  · go_enter Tryz.func26, Tryz.ntmps26
    go_wp2_with (first
      | (go_at_call 74; refine (l2Fits_yes HE.out _ (by omega) (by omega) _).mono ?_; rintro e w' ⟨rfl, hw⟩; subst hw)
      | (go_at_call 62; refine (l2Inf_any HE.out _).mono ?_; rintro e w' ⟨rfl, hw⟩; subst hw)
      | (go_at_call 63; refine (l2Nan_any HE.out _).mono ?_; rintro e w' ⟨rfl, hw⟩; subst hw)
      | (go_at_call 65; refine (l2Sign_any HE.out _).mono ?_; rintro e w' ⟨rfl, hw⟩; subst hw))
    go_returns
    exact ⟨4, 0, 0, 0, ⟨W, .inl ⟨rfl, rfl, by omega⟩, .inr (.inl ⟨c1, c2, rfl, rfl, rfl⟩)⟩, rfl, kr⟩
  · go_enter Tryz.func26, Tryz.ntmps26
    go_wp2_with (first
      | (go_at_call 74; refine (l2Fits_yes HE.out _ (by omega) (by omega) _).mono ?_; rintro e w' ⟨rfl, hw⟩; subst hw)
      | (go_at_call 62; refine (l2Inf_any HE.out _).mono ?_; rintro e w' ⟨rfl, hw⟩; subst hw)
      | (go_at_call 63; refine (l2Nan_any HE.out _).mono ?_; rintro e w' ⟨rfl, hw⟩; subst hw)
      | (go_at_call 65; refine (l2Sign_any HE.out _).mono ?_; rintro e w' ⟨rfl, hw⟩; subst hw))
    go_returns
    exact ⟨3, 0, 0, 0, ⟨W, .inl ⟨rfl, rfl, by omega⟩, .inr (.inr (.inl ⟨c1, rfl, rfl, rfl⟩))⟩, rfl, kr⟩
  · go_enter Tryz.func26, Tryz.ntmps26
    go_wp2_with (first
      | (go_at_call 74; refine (l2Fits_yes HE.out _ (by omega) (by omega) _).mono ?_; rintro e w' ⟨rfl, hw⟩; subst hw)
      | (go_at_call 62; refine (l2Inf_any HE.out _).mono ?_; rintro e w' ⟨rfl, hw⟩; subst hw)
      | (go_at_call 63; refine (l2Nan_any HE.out _).mono ?_; rintro e w' ⟨rfl, hw⟩; subst hw)
      | (go_at_call 65; refine (l2Sign_any HE.out _).mono ?_; rintro e w' ⟨rfl, hw⟩; subst hw))
    go_returns
    exact ⟨2, 0, 0, 0, ⟨_, .inl ⟨rfl, rfl, by omega⟩, .inr (.inr (.inr (.inl ⟨rfl, rfl, rfl, rfl⟩)))⟩, rfl, kr⟩
  · go_enter Tryz.func26, Tryz.ntmps26
    go_wp2_with (first
      | (go_at_call 74; refine (l2Fits_yes HE.out _ (by omega) (by omega) _).mono ?_; rintro e w' ⟨rfl, hw⟩; subst hw)
      | (go_at_call 62; refine (l2Inf_any HE.out _).mono ?_; rintro e w' ⟨rfl, hw⟩; subst hw)
      | (go_at_call 63; refine (l2Nan_any HE.out _).mono ?_; rintro e w' ⟨rfl, hw⟩; subst hw)
      | (go_at_call 65; refine (l2Sign_any HE.out _).mono ?_; rintro e w' ⟨rfl, hw⟩; subst hw))
    go_returns
    exact ⟨4, 1, 0, 0, ⟨v, .inr ⟨rfl, by omega, by omega⟩, .inr (.inl ⟨c1, c2, rfl, rfl, rfl⟩)⟩, rfl, kr⟩
  · go_enter Tryz.func26, Tryz.ntmps26
    go_wp2_with (first
      | (go_at_call 74; refine (l2Fits_yes HE.out _ (by omega) (by omega) _).mono ?_; rintro e w' ⟨rfl, hw⟩; subst hw)
      | (go_at_call 62; refine (l2Inf_any HE.out _).mono ?_; rintro e w' ⟨rfl, hw⟩; subst hw)
      | (go_at_call 63; refine (l2Nan_any HE.out _).mono ?_; rintro e w' ⟨rfl, hw⟩; subst hw)
      | (go_at_call 65; refine (l2Sign_any HE.out _).mono ?_; rintro e w' ⟨rfl, hw⟩; subst hw))
    go_returns
    exact ⟨3, 1, 0, 0, ⟨v, .inr ⟨rfl, by omega, by omega⟩, .inr (.inr (.inl ⟨c1, rfl, rfl, rfl⟩))⟩, rfl, kr⟩
  · go_enter Tryz.func26, Tryz.ntmps26
    go_wp2_with (first
      | (go_at_call 74; refine (l2Fits_yes HE.out _ (by omega) (by omega) _).mono ?_; rintro e w' ⟨rfl, hw⟩; subst hw)
      | (go_at_call 62; refine (l2Inf_any HE.out _).mono ?_; rintro e w' ⟨rfl, hw⟩; subst hw)
      | (go_at_call 63; refine (l2Nan_any HE.out _).mono ?_; rintro e w' ⟨rfl, hw⟩; subst hw)
      | (go_at_call 65; refine (l2Sign_any HE.out _).mono ?_; rintro e w' ⟨rfl, hw⟩; subst hw))
    go_returns
    exact ⟨2, 1, 0, 0, ⟨inf, .inr ⟨rfl, by omega, by omega⟩, .inr (.inr (.inr (.inl ⟨rfl, rfl, rfl, rfl⟩)))⟩, rfl, kr⟩
end Go.Proofs.YtkflpogmhailhaaGreatDoor

namespace Go.Proofs.YtkflpogmhailhaaGreatDoor
open Go.RowKit

theorem IsFmt.quot {f p mx one inf sg nan : Int} (h : IsFmt f p mx one inf sg nan) (v : Int) (v0 : one ≤ v) (v1 : v < inf) :
    0 ≤ v % one ∧ v % one < one ∧ 1 ≤ v / one ∧ v / one ≤ 2 * mx := by
  rcases h with ⟨rfl, rfl, rfl, rfl, rfl, rfl, rfl⟩ | ⟨rfl, rfl, rfl, rfl, rfl, rfl, rfl⟩ <;> omega

set_option maxHeartbeats 1000000 in
theorem specUnpack_big0 {f p mx one inf sg nan : Int} (h : IsFmt f p mx one inf sg nan) (W : Int) (v0 : one ≤ W) (v1 : W < inf) (w : World) :
    Calls Tryz.prog 26 #[.int .i64 f, .int .u64 W] w fun e w' => ∃ c s x g : Int, UnpackIs p mx one inf sg nan W c s x g ∧ e = .returned (.agg #[.int .i64 c, .int .i64 s, .int .i64 x, .int .u64 g]) ∧ Gr w w' := by
  obtain ⟨b1, b2, b3, b4, b5, b6, b7, b8, b9, b10, b11, b12⟩ := h.bounds
  obtain ⟨q1, q2, q3, q4⟩ := h.quot W v0 v1
  have HE : Hid _ := h
  have HF : Hid (UnpackIs p mx one inf sg nan W 1 0 (1 - mx - p + 1 + W / one - 1) (W % one + one)) :=
    ⟨W, .inl ⟨rfl, rfl, by omega⟩, .inr (.inr (.inr (.inr ⟨by omega, v1, rfl, 0, W % one + one, _, .inr ⟨v0, rfl, rfl⟩, by omega, by omega, by omega, by omega⟩)))⟩
  clear h
  generalize hm : W % one = m at *
  generalize hq : W / one = q at *
  go_enter Tryz.func26, Tryz.ntmps26
  go_wp2_with (first
      | (go_at_call 74; refine (l2Fits_yes HE.out _ (by omega) (by omega) _).mono ?_; rintro e w' ⟨rfl, hw⟩; subst hw)
      | (go_at_call 62; refine (l2Inf_any HE.out _).mono ?_; rintro e w' ⟨rfl, hw⟩; subst hw)
      | (go_at_call 76; refine (l2P_any HE.out _).mono ?_; rintro e w' ⟨rfl, hw⟩; subst hw)
      | (go_at_call 77; refine (l2Min_any HE.out _).mono ?_; rintro e w' ⟨rfl, hw⟩; subst hw)
      | (go_at_call 75; refine (l2One_any HE.out _).mono ?_; rintro e w' ⟨rfl, hw⟩; subst hw)
      | (go_at_call 65; refine (l2Sign_any HE.out _).mono ?_; rintro e w' ⟨rfl, hw⟩; subst hw))
  go_region
  go_wp2
  go_loopg [] 1 (fun k wr => wr = (((w.alloc (.cells #[.int .i64 0, .int .i64 0, .int .i64 0, .int .u64 0] 44)).alloc (.cells #[.int .i64 1, .int .i64 0, .int .i64 (1 - mx - p + 1 + q - 1), .int .u64 (m + one)] 44))).drew)
  case atStart => rfl
  case round =>
    subst hrel
    go_wp2
    go_returns
    exact ⟨1, 0, _, _, HF.out, rfl, kr⟩

set_option maxHeartbeats 1000000 in
theorem specUnpack_small0 {f p mx one inf sg nan : Int} (h : IsFmt f p mx one inf sg nan) (W : Int) (v0 : 0 < W) (v1 : W < one) (w : World) :
    Calls Tryz.prog 26 #[.int .i64 f, .int .u64 W] w fun e w' => ∃ c s x g : Int, UnpackIs p mx one inf sg nan W c s x g ∧ e = .returned (.agg #[.int .i64 c, .int .i64 s, .int .i64 x, .int .u64 g]) ∧ Gr w w' := by
  obtain ⟨b1, b2, b3, b4, b5, b6, b7, b8, b9, b10, b11, b12⟩ := h.bounds
  have HE : Hid _ := h
  have hm : W % one = W := Int.emod_eq_of_lt (by omega) v1
  clear h
  go_enter Tryz.func26, Tryz.ntmps26
  go_wp2_with (first
      | (go_at_call 74; refine (l2Fits_yes HE.out _ (by omega) (by omega) _).mono ?_; rintro e w' ⟨rfl, hw⟩; subst hw)
      | (go_at_call 62; refine (l2Inf_any HE.out _).mono ?_; rintro e w' ⟨rfl, hw⟩; subst hw)
      | (go_at_call 76; refine (l2P_any HE.out _).mono ?_; rintro e w' ⟨rfl, hw⟩; subst hw)
      | (go_at_call 77; refine (l2Min_any HE.out _).mono ?_; rintro e w' ⟨rfl, hw⟩; subst hw)
      | (go_at_call 75; refine (l2One_any HE.out _).mono ?_; rintro e w' ⟨rfl, hw⟩; subst hw)
      | (go_at_call 65; refine (l2Sign_any HE.out _).mono ?_; rintro e w' ⟨rfl, hw⟩; subst hw))
  go_loopg [] (one.toNat) (fun k wr => ∃ (j : Nat) (g : Int), Hid (g = W * 2 ^ j) ∧ 0 < g ∧ g < 2 * one ∧ j < g ∧ one ≤ k + g ∧ wr = ((w.alloc (.cells #[.int .i64 0, .int .i64 0, .int .i64 0, .int .u64 0] 44)).alloc (.cells #[.int .i64 1, .int .i64 0, .int .i64 (1 - mx - p + 1 - j), .int .u64 (g)] 44)))
  case atStart => exact ⟨0, W, by show _ = _; omega, v0, by omega, by omega, by omega, by simp⟩
  case round =>
    obtain ⟨j, g, HG, g0, g1, g2, g3, rfl⟩ := hrel
    by_cases hg : g < one
    · go_wp2
      go_roundg (gk - g.toNat)
      case measure => omega
      case rel => exact ⟨j + 1, g * 2, by show _ = _; rw [Int.pow_succ, ← Int.mul_assoc, ← HG.out], by omega, by omega, by omega, by omega, by rw [show 1 - mx - p + 1 - ((j + 1 : Nat) : Int) = 1 - mx - p + 1 - j - 1 by omega]⟩
    · have HF : Hid (UnpackIs p mx one inf sg nan W 1 0 (1 - mx - p + 1 - j) g) :=
        ⟨W, .inl ⟨rfl, rfl, by omega⟩, .inr (.inr (.inr (.inr ⟨by omega, by omega, rfl, j, W, _, .inl ⟨v1, rfl, rfl⟩, HG.out, by omega, by omega, g1⟩)))⟩
      go_wp2
      go_returns
      exact ⟨1, 0, _, _, HF.out, rfl, kr⟩

set_option maxHeartbeats 1000000 in
theorem specUnpack_big1 {f p mx one inf sg nan : Int} (h : IsFmt f p mx one inf sg nan) (W : Int) (v0 : one ≤ W) (v1 : W < inf) (w : World) :
    Calls Tryz.prog 26 #[.int .i64 f, .int .u64 (W + sg)] w fun e w' => ∃ c s x g : Int, UnpackIs p mx one inf sg nan (W + sg) c s x g ∧ e = .returned (.agg #[.int .i64 c, .int .i64 s, .int .i64 x, .int .u64 g]) ∧ Gr w w' := by
  obtain ⟨b1, b2, b3, b4, b5, b6, b7, b8, b9, b10, b11, b12⟩ := h.bounds
  obtain ⟨q1, q2, q3, q4⟩ := h.quot W v0 v1
  have HE : Hid _ := h
  have HF : Hid (UnpackIs p mx one inf sg nan (W + sg) 1 1 (1 - mx - p + 1 + W / one - 1) (W % one + one)) :=
    ⟨W, .inr ⟨rfl, by omega, by omega⟩, .inr (.inr (.inr (.inr ⟨by omega, v1, rfl, 0, W % one + one, _, .inr ⟨v0, rfl, rfl⟩, by omega, by omega, by omega, by omega⟩)))⟩
  clear h
  generalize hm : W % one = m at *
  generalize hq : W / one = q at *
  go_enter Tryz.func26, Tryz.ntmps26
  go_wp2_with (first
      | (go_at_call 74; refine (l2Fits_yes HE.out _ (by omega) (by omega) _).mono ?_; rintro e w' ⟨rfl, hw⟩; subst hw)
      | (go_at_call 62; refine (l2Inf_any HE.out _).mono ?_; rintro e w' ⟨rfl, hw⟩; subst hw)
      | (go_at_call 76; refine (l2P_any HE.out _).mono ?_; rintro e w' ⟨rfl, hw⟩; subst hw)
      | (go_at_call 77; refine (l2Min_any HE.out _).mono ?_; rintro e w' ⟨rfl, hw⟩; subst hw)
      | (go_at_call 75; refine (l2One_any HE.out _).mono ?_; rintro e w' ⟨rfl, hw⟩; subst hw)
      | (go_at_call 65; refine (l2Sign_any HE.out _).mono ?_; rintro e w' ⟨rfl, hw⟩; subst hw))
  go_region
  go_wp2
  go_loopg [] 1 (fun k wr => wr = (((w.alloc (.cells #[.int .i64 0, .int .i64 0, .int .i64 0, .int .u64 0] 44)).alloc (.cells #[.int .i64 1, .int .i64 1, .int .i64 (1 - mx - p + 1 + q - 1), .int .u64 (m + one)] 44))).drew)
  case atStart => rfl
  case round =>
    subst hrel
    go_wp2
    go_returns
    exact ⟨1, 1, _, _, HF.out, rfl, kr⟩

set_option maxHeartbeats 1000000 in
theorem specUnpack_small1 {f p mx one inf sg nan : Int} (h : IsFmt f p mx one inf sg nan) (W : Int) (v0 : 0 < W) (v1 : W < one) (w : World) :
    Calls Tryz.prog 26 #[.int .i64 f, .int .u64 (W + sg)] w fun e w' => ∃ c s x g : Int, UnpackIs p mx one inf sg nan (W + sg) c s x g ∧ e = .returned (.agg #[.int .i64 c, .int .i64 s, .int .i64 x, .int .u64 g]) ∧ Gr w w' := by
  obtain ⟨b1, b2, b3, b4, b5, b6, b7, b8, b9, b10, b11, b12⟩ := h.bounds
  have HE : Hid _ := h
  have hm : W % one = W := Int.emod_eq_of_lt (by omega) v1
  clear h
  go_enter Tryz.func26, Tryz.ntmps26
  go_wp2_with (first
      | (go_at_call 74; refine (l2Fits_yes HE.out _ (by omega) (by omega) _).mono ?_; rintro e w' ⟨rfl, hw⟩; subst hw)
      | (go_at_call 62; refine (l2Inf_any HE.out _).mono ?_; rintro e w' ⟨rfl, hw⟩; subst hw)
      | (go_at_call 76; refine (l2P_any HE.out _).mono ?_; rintro e w' ⟨rfl, hw⟩; subst hw)
      | (go_at_call 77; refine (l2Min_any HE.out _).mono ?_; rintro e w' ⟨rfl, hw⟩; subst hw)
      | (go_at_call 75; refine (l2One_any HE.out _).mono ?_; rintro e w' ⟨rfl, hw⟩; subst hw)
      | (go_at_call 65; refine (l2Sign_any HE.out _).mono ?_; rintro e w' ⟨rfl, hw⟩; subst hw))
  go_loopg [] (one.toNat) (fun k wr => ∃ (j : Nat) (g : Int), Hid (g = W * 2 ^ j) ∧ 0 < g ∧ g < 2 * one ∧ j < g ∧ one ≤ k + g ∧ wr = ((w.alloc (.cells #[.int .i64 0, .int .i64 0, .int .i64 0, .int .u64 0] 44)).alloc (.cells #[.int .i64 1, .int .i64 1, .int .i64 (1 - mx - p + 1 - j), .int .u64 (g)] 44)))
  case atStart => exact ⟨0, W, by show _ = _; omega, v0, by omega, by omega, by omega, by simp⟩
  case round =>
    obtain ⟨j, g, HG, g0, g1, g2, g3, rfl⟩ := hrel
    by_cases hg : g < one
    · go_wp2
      go_roundg (gk - g.toNat)
      case measure => omega
      case rel => exact ⟨j + 1, g * 2, by show _ = _; rw [Int.pow_succ, ← Int.mul_assoc, ← HG.out], by omega, by omega, by omega, by omega, by rw [show 1 - mx - p + 1 - ((j + 1 : Nat) : Int) = 1 - mx - p + 1 - j - 1 by omega]⟩
    · have HF : Hid (UnpackIs p mx one inf sg nan (W + sg) 1 1 (1 - mx - p + 1 - j) g) :=
        ⟨W, .inr ⟨rfl, by omega, by omega⟩, .inr (.inr (.inr (.inr ⟨by omega, by omega, rfl, j, W, _, .inl ⟨v1, rfl, rfl⟩, HG.out, by omega, by omega, g1⟩)))⟩
      go_wp2
      go_returns
      exact ⟨1, 1, _, _, HF.out, rfl, kr⟩

end Go.Proofs.YtkflpogmhailhaaGreatDoor

namespace Go.Proofs.YtkflpogmhailhaaGreatDoor
open Go.RowKit

theorem norm_lt {m one : Int} {a b : Nat} (h : a < b) (m0 : 0 < m) (h1 : one ≤ m * 2 ^ a) (h2 : m * 2 ^ b < 2 * one) : False := by
  obtain ⟨d, rfl⟩ : ∃ d, b = a + 1 + d := ⟨b - (a + 1), by omega⟩
  have e : m * (2 : Int) ^ (a + 1 + d) = m * 2 ^ a * 2 * 2 ^ d := by
    rw [Int.pow_add, Int.pow_succ]; simp [Int.mul_assoc]
  rw [e] at h2
  have p1 : (1 : Int) ≤ 2 ^ d := by
    have h0 : (0 : Int) < 2 ^ d := Int.pow_pos (by decide)
    exact h0
  have p2 : (0 : Int) < 2 ^ a := Int.pow_pos (by decide)
  have p3 : 0 < m * 2 ^ a := Int.mul_pos m0 p2
  have := Int.mul_le_mul_of_nonneg_left p1 (show 0 ≤ m * 2 ^ a * 2 by omega)
  omega

theorem NormIs.one {p mx one v e g e' g' : Int} (v0 : 0 < v) (one0 : 0 < one) (h : NormIs p mx one v e g) (h' : NormIs p mx one v e' g') : e = e' ∧ g = g' := by
  obtain ⟨k, m, e0, hm, hg, he, h1, h2⟩ := h
  obtain ⟨k', m', e0', hm', hg', he', h1', h2'⟩ := h'
  have hmm : m = m' ∧ e0 = e0' ∧ 0 < m := by
    have := Int.emod_nonneg v (show one ≠ 0 by omega)
    omega
  obtain ⟨rfl, rfl, m0⟩ := hmm
  have hk : k = k' := by
    subst hg hg'
    rcases Nat.lt_trichotomy k k' with c | c | c
    · exact (norm_lt c m0 h1 h2').elim
    · exact c
    · exact (norm_lt c m0 h1' h2).elim
  subst hk
  exact ⟨by omega, by rw [hg, hg']⟩

/-- Unpack's answer is one. -/
theorem UnpackIs.one {f p mx one inf sg nan W c s e g c' s' e' g' : Int} (hf : IsFmt f p mx one inf sg nan) (h : UnpackIs p mx one inf sg nan W c s e g) (h' : UnpackIs p mx one inf sg nan W c' s' e' g') : c = c' ∧ s = s' ∧ e = e' ∧ g = g' := by
  obtain ⟨b1, b2, b3, b4, b5, b6, b7, b8, b9, b10, b11, b12⟩ := hf.bounds
  obtain ⟨v, hv, hc⟩ := h
  obtain ⟨v', hv', hc'⟩ := h'
  have hvv : v = v' ∧ s = s' := by omega
  obtain ⟨rfl, rfl⟩ := hvv
  rcases hc with hc | hc | hc | hc | ⟨a1, a2, rfl, a3⟩
  · rcases hc' with h | h | h | h | h <;> omega
  · rcases hc' with h | h | h | h | h <;> omega
  · rcases hc' with h | h | h | h | h <;> omega
  · rcases hc' with h | h | h | h | h <;> omega
  · rcases hc' with h | h | h | h | ⟨_, _, rfl, a3'⟩
    · omega
    · omega
    · omega
    · omega
    · obtain ⟨rfl, rfl⟩ := NormIs.one a1 (by omega) a3 a3'
      exact ⟨rfl, rfl, rfl, rfl⟩

theorem specUnpack_fit {f p mx one inf sg nan : Int} (h : IsFmt f p mx one inf sg nan) (W : Int) (v0 : 0 ≤ W) (v1 : W < 2 * sg) (w : World) :
    Calls Tryz.prog 26 #[.int .i64 f, .int .u64 W] w fun e w' => ∃ c s x g : Int, UnpackIs p mx one inf sg nan W c s x g ∧ e = .returned (.agg #[.int .i64 c, .int .i64 s, .int .i64 x, .int .u64 g]) ∧ Gr w w' := by
  obtain ⟨b1, b2, b3, b4, b5, b6, b7, b8, b9, b10, b11, b12⟩ := h.bounds
  by_cases hn : W = 0 ∨ W = sg ∨ (inf ≤ W ∧ W < sg) ∨ sg + inf ≤ W
  · exact specUnpack_flat h W v0 v1 hn w
  · by_cases hs : W < sg
    · by_cases ho : one ≤ W
      · exact specUnpack_big0 h W ho (by omega) w
      · exact specUnpack_small0 h W (by omega) (by omega) w
    · obtain ⟨v, rfl⟩ : ∃ v, W = v + sg := ⟨W - sg, by omega⟩
      by_cases ho : one ≤ v
      · exact specUnpack_big1 h v ho (by omega) w
      · exact specUnpack_small1 h v (by omega) (by omega) w

theorem specUnpack_no (f v : Int) (v0 : 0 ≤ v) (h : ¬ (f = 0 ∨ f = 1) ∨ (f = 0 ∧ 4294967296 ≤ v)) (w : World) :
    Calls Tryz.prog 26 #[.int .i64 f, .int .u64 v] w fun e w' => e = .returned (.agg #[.int .i64 4, .int .i64 0, .int .i64 0, .int .u64 0]) ∧ Gr w w' := by
  have HE : Hid _ := h
  clear h
  go_enter Tryz.func26, Tryz.ntmps26
  go_wp2_with (go_at_call 74; refine (l2Fits_no _ _ v0 HE.out _).mono ?_; rintro e w' ⟨rfl, hw⟩; subst hw)
  go_returns
  exact ⟨rfl, kr⟩

/-- A word and a format: it fits, or it does not. -/
theorem fit_or (f v : Int) (v0 : 0 ≤ v) (v1 : v < 18446744073709551616) : (∃ p mx one inf sg nan, IsFmt f p mx one inf sg nan ∧ v < 2 * sg) ∨ (¬ (f = 0 ∨ f = 1) ∨ (f = 0 ∧ 4294967296 ≤ v)) := by
  by_cases h0 : f = 0
  · by_cases hv : v < 4294967296
    · exact .inl ⟨_, _, _, _, _, _, .inl ⟨h0, rfl, rfl, rfl, rfl, rfl, rfl⟩, by omega⟩
    · exact .inr (.inr ⟨h0, by omega⟩)
  · by_cases h1 : f = 1
    · exact .inl ⟨_, _, _, _, _, _, .inr ⟨h1, rfl, rfl, rfl, rfl, rfl, rfl⟩, by omega⟩
    · exact .inr (.inl (by omega))
end Go.Proofs.YtkflpogmhailhaaGreatDoor
