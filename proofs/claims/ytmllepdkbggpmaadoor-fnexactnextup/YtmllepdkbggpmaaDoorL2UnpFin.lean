/- spec.Unpack: finite numbers. -/
import Derived.Test.YtmllepdkbggpmaaDoorL2UnpFlat
import Derived.Deep.LoopGhost
import Derived.WalkLawsBesides
set_option linter.unusedVariables false
set_option linter.unusedSimpArgs false
namespace Go.Proofs.YtmllepdkbggpmaaDoor
open Go.RowKit

theorem IsFmt.quot {f p mx one inf sg nan : Int} (h : IsFmt f p mx one inf sg nan) (v : Int) (v0 : one ≤ v) (v1 : v < inf) :
    0 ≤ v % one ∧ v % one < one ∧ 1 ≤ v / one ∧ v / one ≤ 2 * mx := by
  rcases h with ⟨rfl, rfl, rfl, rfl, rfl, rfl, rfl⟩ | ⟨rfl, rfl, rfl, rfl, rfl, rfl, rfl⟩ <;> omega

set_option maxHeartbeats 1000000 in
theorem specUnpack_big0 {f p mx one inf sg nan : Int} (h : IsFmt f p mx one inf sg nan) (W : Int) (v0 : one ≤ W) (v1 : W < inf) (w : World) :
    Calls Tryd.prog 7 #[.int .i64 f, .int .u64 W] w fun e w' => ∃ c s x g : Int, UnpackIs p mx one inf sg nan W c s x g ∧ e = .returned (.agg #[.int .i64 c, .int .i64 s, .int .i64 x, .int .u64 g]) ∧ Gr w w' := by
  obtain ⟨b1, b2, b3, b4, b5, b6, b7, b8, b9, b10, b11, b12⟩ := h.bounds
  obtain ⟨q1, q2, q3, q4⟩ := h.quot W v0 v1
  have HE : Hid _ := h
  have HF : Hid (UnpackIs p mx one inf sg nan W 1 0 (1 - mx - p + 1 + W / one - 1) (W % one + one)) :=
    ⟨W, .inl ⟨rfl, rfl, by omega⟩, .inr (.inr (.inr (.inr ⟨by omega, v1, rfl, 0, W % one + one, _, .inr ⟨v0, rfl, rfl⟩, by omega, by omega, by omega, by omega⟩)))⟩
  clear h
  generalize hm : W % one = m at *
  generalize hq : W / one = q at *
  go_enter Tryd.func7, Tryd.ntmps7
  go_wp2_with (first
      | (go_at_call 18; refine (l2Fits_yes HE.out _ (by omega) (by omega) _).mono ?_; rintro e w' ⟨rfl, hw⟩; subst hw)
      | (go_at_call 20; refine (l2Inf_any HE.out _).mono ?_; rintro e w' ⟨rfl, hw⟩; subst hw)
      | (go_at_call 23; refine (l2P_any HE.out _).mono ?_; rintro e w' ⟨rfl, hw⟩; subst hw)
      | (go_at_call 24; refine (l2Min_any HE.out _).mono ?_; rintro e w' ⟨rfl, hw⟩; subst hw)
      | (go_at_call 22; refine (l2One_any HE.out _).mono ?_; rintro e w' ⟨rfl, hw⟩; subst hw)
      | (go_at_call 19; refine (l2Sign_any HE.out _).mono ?_; rintro e w' ⟨rfl, hw⟩; subst hw))
  go_region
  go_wp2
  go_loopg [] 1 (fun k wr => wr = (((w.alloc (.cells #[.int .i64 0, .int .i64 0, .int .i64 0, .int .u64 0] 24)).alloc (.cells #[.int .i64 1, .int .i64 0, .int .i64 (1 - mx - p + 1 + q - 1), .int .u64 (m + one)] 24))).drew)
  case atStart => rfl
  case round =>
    subst hrel
    go_wp2
    go_returns
    exact ⟨1, 0, _, _, HF.out, rfl, by (repeat' (first | (with_reducible assumption) | (with_reducible exact Gr.refl _) | (with_reducible refine Gr.alloc ?_ _ _) | (with_reducible refine Gr.drew ?_) | (with_reducible refine Gr.setCell ?_ ?_ _) | (with_reducible refine Gr.trans ?_ (by with_reducible assumption)) | go_size))⟩

set_option maxHeartbeats 1000000 in
theorem specUnpack_small0 {f p mx one inf sg nan : Int} (h : IsFmt f p mx one inf sg nan) (W : Int) (v0 : 0 < W) (v1 : W < one) (w : World) :
    Calls Tryd.prog 7 #[.int .i64 f, .int .u64 W] w fun e w' => ∃ c s x g : Int, UnpackIs p mx one inf sg nan W c s x g ∧ e = .returned (.agg #[.int .i64 c, .int .i64 s, .int .i64 x, .int .u64 g]) ∧ Gr w w' := by
  obtain ⟨b1, b2, b3, b4, b5, b6, b7, b8, b9, b10, b11, b12⟩ := h.bounds
  have HE : Hid _ := h
  have hm : W % one = W := Int.emod_eq_of_lt (by omega) v1
  clear h
  go_enter Tryd.func7, Tryd.ntmps7
  go_wp2_with (first
      | (go_at_call 18; refine (l2Fits_yes HE.out _ (by omega) (by omega) _).mono ?_; rintro e w' ⟨rfl, hw⟩; subst hw)
      | (go_at_call 20; refine (l2Inf_any HE.out _).mono ?_; rintro e w' ⟨rfl, hw⟩; subst hw)
      | (go_at_call 23; refine (l2P_any HE.out _).mono ?_; rintro e w' ⟨rfl, hw⟩; subst hw)
      | (go_at_call 24; refine (l2Min_any HE.out _).mono ?_; rintro e w' ⟨rfl, hw⟩; subst hw)
      | (go_at_call 22; refine (l2One_any HE.out _).mono ?_; rintro e w' ⟨rfl, hw⟩; subst hw)
      | (go_at_call 19; refine (l2Sign_any HE.out _).mono ?_; rintro e w' ⟨rfl, hw⟩; subst hw))
  go_loopg [] (one.toNat) (fun k wr => ∃ (j : Nat) (g : Int), Hid (g = W * 2 ^ j) ∧ 0 < g ∧ g < 2 * one ∧ j < g ∧ one ≤ k + g ∧ wr = ((w.alloc (.cells #[.int .i64 0, .int .i64 0, .int .i64 0, .int .u64 0] 24)).alloc (.cells #[.int .i64 1, .int .i64 0, .int .i64 (1 - mx - p + 1 - j), .int .u64 (g)] 24)))
  case atStart => exact ⟨0, W, by show _ = _; omega, v0, by omega, by omega, by omega, by simp⟩
  case round =>
    obtain ⟨j, g, HG, g0, g1, g2, g3, rfl⟩ := hrel
    by_cases hg : g < one
    · go_wp2
      go_roundg (gk - g.toNat)
      case measure => omega
      case rel => exact ⟨j + 1, g * 2, by show _ = _; rw [Int.pow_succ, ← Int.mul_assoc, ← HG.out], by omega, by omega, by omega, by omega, by rw [show 1 - mx - p + 1 - ((j + 1 : Nat) : Int) = 1 - mx - p + 1 - j - 1 by omega]⟩
    · have HF : Hid (UnpackIs p mx one inf sg nan W 1 0 (1 - mx - p + 1 - j) g) :=
        ⟨W, .inl ⟨rfl, rfl, by omega⟩, .inr (.inr (.inr (.inr ⟨by omega, by omega, rfl, j, W, _, .inl ⟨v1, rfl, rfl⟩, HG.out, by omega, by omega, g1⟩)))⟩
      go_wp2
      go_returns
      exact ⟨1, 0, _, _, HF.out, rfl, by (repeat' (first | (with_reducible assumption) | (with_reducible exact Gr.refl _) | (with_reducible refine Gr.alloc ?_ _ _) | (with_reducible refine Gr.drew ?_) | (with_reducible refine Gr.setCell ?_ ?_ _) | (with_reducible refine Gr.trans ?_ (by with_reducible assumption)) | go_size))⟩

set_option maxHeartbeats 1000000 in
theorem specUnpack_big1 {f p mx one inf sg nan : Int} (h : IsFmt f p mx one inf sg nan) (W : Int) (v0 : one ≤ W) (v1 : W < inf) (w : World) :
    Calls Tryd.prog 7 #[.int .i64 f, .int .u64 (W + sg)] w fun e w' => ∃ c s x g : Int, UnpackIs p mx one inf sg nan (W + sg) c s x g ∧ e = .returned (.agg #[.int .i64 c, .int .i64 s, .int .i64 x, .int .u64 g]) ∧ Gr w w' := by
  obtain ⟨b1, b2, b3, b4, b5, b6, b7, b8, b9, b10, b11, b12⟩ := h.bounds
  obtain ⟨q1, q2, q3, q4⟩ := h.quot W v0 v1
  have HE : Hid _ := h
  have HF : Hid (UnpackIs p mx one inf sg nan (W + sg) 1 1 (1 - mx - p + 1 + W / one - 1) (W % one + one)) :=
    ⟨W, .inr ⟨rfl, by omega, by omega⟩, .inr (.inr (.inr (.inr ⟨by omega, v1, rfl, 0, W % one + one, _, .inr ⟨v0, rfl, rfl⟩, by omega, by omega, by omega, by omega⟩)))⟩
  clear h
  generalize hm : W % one = m at *
  generalize hq : W / one = q at *
  go_enter Tryd.func7, Tryd.ntmps7
  go_wp2_with (first
      | (go_at_call 18; refine (l2Fits_yes HE.out _ (by omega) (by omega) _).mono ?_; rintro e w' ⟨rfl, hw⟩; subst hw)
      | (go_at_call 20; refine (l2Inf_any HE.out _).mono ?_; rintro e w' ⟨rfl, hw⟩; subst hw)
      | (go_at_call 23; refine (l2P_any HE.out _).mono ?_; rintro e w' ⟨rfl, hw⟩; subst hw)
      | (go_at_call 24; refine (l2Min_any HE.out _).mono ?_; rintro e w' ⟨rfl, hw⟩; subst hw)
      | (go_at_call 22; refine (l2One_any HE.out _).mono ?_; rintro e w' ⟨rfl, hw⟩; subst hw)
      | (go_at_call 19; refine (l2Sign_any HE.out _).mono ?_; rintro e w' ⟨rfl, hw⟩; subst hw))
  go_region
  go_wp2
  go_loopg [] 1 (fun k wr => wr = (((w.alloc (.cells #[.int .i64 0, .int .i64 0, .int .i64 0, .int .u64 0] 24)).alloc (.cells #[.int .i64 1, .int .i64 1, .int .i64 (1 - mx - p + 1 + q - 1), .int .u64 (m + one)] 24))).drew)
  case atStart => rfl
  case round =>
    subst hrel
    go_wp2
    go_returns
    exact ⟨1, 1, _, _, HF.out, rfl, by (repeat' (first | (with_reducible assumption) | (with_reducible exact Gr.refl _) | (with_reducible refine Gr.alloc ?_ _ _) | (with_reducible refine Gr.drew ?_) | (with_reducible refine Gr.setCell ?_ ?_ _) | (with_reducible refine Gr.trans ?_ (by with_reducible assumption)) | go_size))⟩

set_option maxHeartbeats 1000000 in
theorem specUnpack_small1 {f p mx one inf sg nan : Int} (h : IsFmt f p mx one inf sg nan) (W : Int) (v0 : 0 < W) (v1 : W < one) (w : World) :
    Calls Tryd.prog 7 #[.int .i64 f, .int .u64 (W + sg)] w fun e w' => ∃ c s x g : Int, UnpackIs p mx one inf sg nan (W + sg) c s x g ∧ e = .returned (.agg #[.int .i64 c, .int .i64 s, .int .i64 x, .int .u64 g]) ∧ Gr w w' := by
  obtain ⟨b1, b2, b3, b4, b5, b6, b7, b8, b9, b10, b11, b12⟩ := h.bounds
  have HE : Hid _ := h
  have hm : W % one = W := Int.emod_eq_of_lt (by omega) v1
  clear h
  go_enter Tryd.func7, Tryd.ntmps7
  go_wp2_with (first
      | (go_at_call 18; refine (l2Fits_yes HE.out _ (by omega) (by omega) _).mono ?_; rintro e w' ⟨rfl, hw⟩; subst hw)
      | (go_at_call 20; refine (l2Inf_any HE.out _).mono ?_; rintro e w' ⟨rfl, hw⟩; subst hw)
      | (go_at_call 23; refine (l2P_any HE.out _).mono ?_; rintro e w' ⟨rfl, hw⟩; subst hw)
      | (go_at_call 24; refine (l2Min_any HE.out _).mono ?_; rintro e w' ⟨rfl, hw⟩; subst hw)
      | (go_at_call 22; refine (l2One_any HE.out _).mono ?_; rintro e w' ⟨rfl, hw⟩; subst hw)
      | (go_at_call 19; refine (l2Sign_any HE.out _).mono ?_; rintro e w' ⟨rfl, hw⟩; subst hw))
  go_loopg [] (one.toNat) (fun k wr => ∃ (j : Nat) (g : Int), Hid (g = W * 2 ^ j) ∧ 0 < g ∧ g < 2 * one ∧ j < g ∧ one ≤ k + g ∧ wr = ((w.alloc (.cells #[.int .i64 0, .int .i64 0, .int .i64 0, .int .u64 0] 24)).alloc (.cells #[.int .i64 1, .int .i64 1, .int .i64 (1 - mx - p + 1 - j), .int .u64 (g)] 24)))
  case atStart => exact ⟨0, W, by show _ = _; omega, v0, by omega, by omega, by omega, by simp⟩
  case round =>
    obtain ⟨j, g, HG, g0, g1, g2, g3, rfl⟩ := hrel
    by_cases hg : g < one
    · go_wp2
      go_roundg (gk - g.toNat)
      case measure => omega
      case rel => exact ⟨j + 1, g * 2, by show _ = _; rw [Int.pow_succ, ← Int.mul_assoc, ← HG.out], by omega, by omega, by omega, by omega, by rw [show 1 - mx - p + 1 - ((j + 1 : Nat) : Int) = 1 - mx - p + 1 - j - 1 by omega]⟩
    · have HF : Hid (UnpackIs p mx one inf sg nan (W + sg) 1 1 (1 - mx - p + 1 - j) g) :=
        ⟨W, .inr ⟨rfl, by omega, by omega⟩, .inr (.inr (.inr (.inr ⟨by omega, by omega, rfl, j, W, _, .inl ⟨v1, rfl, rfl⟩, HG.out, by omega, by omega, g1⟩)))⟩
      go_wp2
      go_returns
      exact ⟨1, 1, _, _, HF.out, rfl, by (repeat' (first | (with_reducible assumption) | (with_reducible exact Gr.refl _) | (with_reducible refine Gr.alloc ?_ _ _) | (with_reducible refine Gr.drew ?_) | (with_reducible refine Gr.setCell ?_ ?_ _) | (with_reducible refine Gr.trans ?_ (by with_reducible assumption)) | go_size))⟩

end Go.Proofs.YtmllepdkbggpmaaDoor
