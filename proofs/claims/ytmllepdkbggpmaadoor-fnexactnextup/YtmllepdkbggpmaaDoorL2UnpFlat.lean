/- spec.Unpack: words that are no finite number. -/
import Derived.Test.YtmllepdkbggpmaaDoorL2Fits
import Derived.WalkLawsBesides
set_option linter.unusedVariables false
set_option linter.unusedSimpArgs false
namespace Go.Proofs.YtmllepdkbggpmaaDoor
open Go.RowKit

/-- A finite number's raw parts, brought to the precision. -/
def NormIs (p mx one v e g : Int) : Prop :=
  ∃ (k : Nat) (m e0 : Int), (v < one ∧ m = v ∧ e0 = 2 - mx - p ∨ one ≤ v ∧ m = v % one + one ∧ e0 = 1 - mx - p + v / one) ∧ g = m * 2 ^ k ∧ e = e0 - k ∧ one ≤ g ∧ g < 2 * one

/-- What Unpack says of a word that fits. -/
def UnpackIs (p mx one inf sg nan W c s e g : Int) : Prop :=
  ∃ v : Int, (s = 0 ∧ v = W ∧ W < sg ∨ s = 1 ∧ v = W - sg ∧ sg ≤ W) ∧
    (v = 0 ∧ c = 0 ∧ e = 0 ∧ g = 0 ∨ inf < v ∧ v < nan ∧ c = 4 ∧ e = 0 ∧ g = 0 ∨ nan ≤ v ∧ c = 3 ∧ e = 0 ∧ g = 0 ∨ v = inf ∧ c = 2 ∧ e = 0 ∧ g = 0 ∨ 0 < v ∧ v < inf ∧ c = 1 ∧ NormIs p mx one v e g)

set_option maxHeartbeats 1000000 in
theorem specUnpack_flat {f p mx one inf sg nan : Int} (h : IsFmt f p mx one inf sg nan) (W : Int) (v0 : 0 ≤ W) (v1 : W < 2 * sg) (hn : W = 0 ∨ W = sg ∨ (inf ≤ W ∧ W < sg) ∨ sg + inf ≤ W) (w : World) :
    Calls Tryd.prog 7 #[.int .i64 f, .int .u64 W] w fun e w' => ∃ c s x g : Int, UnpackIs p mx one inf sg nan W c s x g ∧ e = .returned (.agg #[.int .i64 c, .int .i64 s, .int .i64 x, .int .u64 g]) ∧ Gr w w' := by
  obtain ⟨b1, b2, b3, b4, b5, b6, b7, b8, b9, b10, b11, b12⟩ := h.bounds
  have HE : Hid _ := h
  clear h
  rcases (show W = 0 ∨ W = sg ∨ (inf < W ∧ W < nan) ∨ (nan ≤ W ∧ W < sg) ∨ W = inf ∨ (∃ v, W = v + sg ∧ inf < v ∧ v < nan) ∨ (∃ v, W = v + sg ∧ nan ≤ v) ∨ W = inf + sg by
    rcases hn with h | h | h | h
    · exact .inl h
    · exact .inr (.inl h)
    · omega
    · by_cases a : W = inf + sg
      · simp [a]
      · by_cases b : W - sg < nan
        · exact .inr (.inr (.inr (.inr (.inr (.inl ⟨W - sg, by omega, by omega, b⟩)))))
        · exact .inr (.inr (.inr (.inr (.inr (.inr (.inl ⟨W - sg, by omega, by omega⟩))))))) with rfl | rfl | ⟨c1, c2⟩ | ⟨c1, c2⟩ | rfl | ⟨v, rfl, c1, c2⟩ | ⟨v, rfl, c1⟩ | rfl
  · go_enter Tryd.func7, Tryd.ntmps7
    go_wp2_with (first
      | (go_at_call 18; refine (l2Fits_yes HE.out _ (by omega) (by omega) _).mono ?_; rintro e w' ⟨rfl, hw⟩; subst hw)
      | (go_at_call 20; refine (l2Inf_any HE.out _).mono ?_; rintro e w' ⟨rfl, hw⟩; subst hw)
      | (go_at_call 21; refine (l2Nan_any HE.out _).mono ?_; rintro e w' ⟨rfl, hw⟩; subst hw)
      | (go_at_call 19; refine (l2Sign_any HE.out _).mono ?_; rintro e w' ⟨rfl, hw⟩; subst hw))
    go_returns
    exact ⟨0, 0, 0, 0, ⟨0, .inl ⟨rfl, rfl, by omega⟩, .inl ⟨rfl, rfl, rfl, rfl⟩⟩, rfl, by (repeat' (first | (with_reducible assumption) | (with_reducible exact Gr.refl _) | (with_reducible refine Gr.alloc ?_ _ _) | (with_reducible refine Gr.drew ?_) | (with_reducible refine Gr.setCell ?_ ?_ _) | (with_reducible refine Gr.trans ?_ (by with_reducible assumption)) | go_size))⟩
  · go_enter Tryd.func7, Tryd.ntmps7
    go_wp2_with (first
      | (go_at_call 18; refine (l2Fits_yes HE.out _ (by omega) (by omega) _).mono ?_; rintro e w' ⟨rfl, hw⟩; subst hw)
      | (go_at_call 20; refine (l2Inf_any HE.out _).mono ?_; rintro e w' ⟨rfl, hw⟩; subst hw)
      | (go_at_call 21; refine (l2Nan_any HE.out _).mono ?_; rintro e w' ⟨rfl, hw⟩; subst hw)
      | (go_at_call 19; refine (l2Sign_any HE.out _).mono ?_; rintro e w' ⟨rfl, hw⟩; subst hw))
    go_returns
    exact ⟨0, 1, 0, 0, ⟨0, .inr ⟨rfl, by omega, by omega⟩, .inl ⟨rfl, rfl, rfl, rfl⟩⟩, rfl, by (repeat' (first | (with_reducible assumption) | (with_reducible exact Gr.refl _) | (with_reducible refine Gr.alloc ?_ _ _) | (with_reducible refine Gr.drew ?_) | (with_reducible refine Gr.setCell ?_ ?_ _) | (with_reducible refine Gr.trans ?_ (by with_reducible assumption)) | go_size))⟩
  · go_enter Tryd.func7, Tryd.ntmps7
    go_wp2_with (first
      | (go_at_call 18; refine (l2Fits_yes HE.out _ (by omega) (by omega) _).mono ?_; rintro e w' ⟨rfl, hw⟩; subst hw)
      | (go_at_call 20; refine (l2Inf_any HE.out _).mono ?_; rintro e w' ⟨rfl, hw⟩; subst hw)
      | (go_at_call 21; refine (l2Nan_any HE.out _).mono ?_; rintro e w' ⟨rfl, hw⟩; subst hw)
      | (go_at_call 19; refine (l2Sign_any HE.out _).mono ?_; rintro e w' ⟨rfl, hw⟩; subst hw))
    go_returns
    exact ⟨4, 0, 0, 0, ⟨W, .inl ⟨rfl, rfl, by omega⟩, .inr (.inl ⟨c1, c2, rfl, rfl, rfl⟩)⟩, rfl, by (repeat' (first | (with_reducible assumption) | (with_reducible exact Gr.refl _) | (with_reducible refine Gr.alloc ?_ _ _) | (with_reducible refine Gr.drew ?_) | (with_reducible refine Gr.setCell ?_ ?_ _) | (with_reducible refine Gr.trans ?_ (by with_reducible assumption)) | go_size))⟩
  · go_enter Tryd.func7, Tryd.ntmps7
    go_wp2_with (first
      | (go_at_call 18; refine (l2Fits_yes HE.out _ (by omega) (by omega) _).mono ?_; rintro e w' ⟨rfl, hw⟩; subst hw)
      | (go_at_call 20; refine (l2Inf_any HE.out _).mono ?_; rintro e w' ⟨rfl, hw⟩; subst hw)
      | (go_at_call 21; refine (l2Nan_any HE.out _).mono ?_; rintro e w' ⟨rfl, hw⟩; subst hw)
      | (go_at_call 19; refine (l2Sign_any HE.out _).mono ?_; rintro e w' ⟨rfl, hw⟩; subst hw))
    go_returns
    exact ⟨3, 0, 0, 0, ⟨W, .inl ⟨rfl, rfl, by omega⟩, .inr (.inr (.inl ⟨c1, rfl, rfl, rfl⟩))⟩, rfl, by (repeat' (first | (with_reducible assumption) | (with_reducible exact Gr.refl _) | (with_reducible refine Gr.alloc ?_ _ _) | (with_reducible refine Gr.drew ?_) | (with_reducible refine Gr.setCell ?_ ?_ _) | (with_reducible refine Gr.trans ?_ (by with_reducible assumption)) | go_size))⟩
  · go_enter Tryd.func7, Tryd.ntmps7
    go_wp2_with (first
      | (go_at_call 18; refine (l2Fits_yes HE.out _ (by omega) (by omega) _).mono ?_; rintro e w' ⟨rfl, hw⟩; subst hw)
      | (go_at_call 20; refine (l2Inf_any HE.out _).mono ?_; rintro e w' ⟨rfl, hw⟩; subst hw)
      | (go_at_call 21; refine (l2Nan_any HE.out _).mono ?_; rintro e w' ⟨rfl, hw⟩; subst hw)
      | (go_at_call 19; refine (l2Sign_any HE.out _).mono ?_; rintro e w' ⟨rfl, hw⟩; subst hw))
    go_returns
    exact ⟨2, 0, 0, 0, ⟨_, .inl ⟨rfl, rfl, by omega⟩, .inr (.inr (.inr (.inl ⟨rfl, rfl, rfl, rfl⟩)))⟩, rfl, by (repeat' (first | (with_reducible assumption) | (with_reducible exact Gr.refl _) | (with_reducible refine Gr.alloc ?_ _ _) | (with_reducible refine Gr.drew ?_) | (with_reducible refine Gr.setCell ?_ ?_ _) | (with_reducible refine Gr.trans ?_ (by with_reducible assumption)) | go_size))⟩
  · go_enter Tryd.func7, Tryd.ntmps7
    go_wp2_with (first
      | (go_at_call 18; refine (l2Fits_yes HE.out _ (by omega) (by omega) _).mono ?_; rintro e w' ⟨rfl, hw⟩; subst hw)
      | (go_at_call 20; refine (l2Inf_any HE.out _).mono ?_; rintro e w' ⟨rfl, hw⟩; subst hw)
      | (go_at_call 21; refine (l2Nan_any HE.out _).mono ?_; rintro e w' ⟨rfl, hw⟩; subst hw)
      | (go_at_call 19; refine (l2Sign_any HE.out _).mono ?_; rintro e w' ⟨rfl, hw⟩; subst hw))
    go_returns
    exact ⟨4, 1, 0, 0, ⟨v, .inr ⟨rfl, by omega, by omega⟩, .inr (.inl ⟨c1, c2, rfl, rfl, rfl⟩)⟩, rfl, by (repeat' (first | (with_reducible assumption) | (with_reducible exact Gr.refl _) | (with_reducible refine Gr.alloc ?_ _ _) | (with_reducible refine Gr.drew ?_) | (with_reducible refine Gr.setCell ?_ ?_ _) | (with_reducible refine Gr.trans ?_ (by with_reducible assumption)) | go_size))⟩
  · go_enter Tryd.func7, Tryd.ntmps7
    go_wp2_with (first
      | (go_at_call 18; refine (l2Fits_yes HE.out _ (by omega) (by omega) _).mono ?_; rintro e w' ⟨rfl, hw⟩; subst hw)
      | (go_at_call 20; refine (l2Inf_any HE.out _).mono ?_; rintro e w' ⟨rfl, hw⟩; subst hw)
      | (go_at_call 21; refine (l2Nan_any HE.out _).mono ?_; rintro e w' ⟨rfl, hw⟩; subst hw)
      | (go_at_call 19; refine (l2Sign_any HE.out _).mono ?_; rintro e w' ⟨rfl, hw⟩; subst hw))
    go_returns
    exact ⟨3, 1, 0, 0, ⟨v, .inr ⟨rfl, by omega, by omega⟩, .inr (.inr (.inl ⟨c1, rfl, rfl, rfl⟩))⟩, rfl, by (repeat' (first | (with_reducible assumption) | (with_reducible exact Gr.refl _) | (with_reducible refine Gr.alloc ?_ _ _) | (with_reducible refine Gr.drew ?_) | (with_reducible refine Gr.setCell ?_ ?_ _) | (with_reducible refine Gr.trans ?_ (by with_reducible assumption)) | go_size))⟩
  · go_enter Tryd.func7, Tryd.ntmps7
    go_wp2_with (first
      | (go_at_call 18; refine (l2Fits_yes HE.out _ (by omega) (by omega) _).mono ?_; rintro e w' ⟨rfl, hw⟩; subst hw)
      | (go_at_call 20; refine (l2Inf_any HE.out _).mono ?_; rintro e w' ⟨rfl, hw⟩; subst hw)
      | (go_at_call 21; refine (l2Nan_any HE.out _).mono ?_; rintro e w' ⟨rfl, hw⟩; subst hw)
      | (go_at_call 19; refine (l2Sign_any HE.out _).mono ?_; rintro e w' ⟨rfl, hw⟩; subst hw))
    go_returns
    exact ⟨2, 1, 0, 0, ⟨inf, .inr ⟨rfl, by omega, by omega⟩, .inr (.inr (.inr (.inl ⟨rfl, rfl, rfl, rfl⟩)))⟩, rfl, by (repeat' (first | (with_reducible assumption) | (with_reducible exact Gr.refl _) | (with_reducible refine Gr.alloc ?_ _ _) | (with_reducible refine Gr.drew ?_) | (with_reducible refine Gr.setCell ?_ ?_ _) | (with_reducible refine Gr.trans ?_ (by with_reducible assumption)) | go_size))⟩
end Go.Proofs.YtmllepdkbggpmaaDoor
