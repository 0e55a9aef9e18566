/- spec.NextUp, l2Bad, l2Put. -/
import Derived.Test.YtmllepdkbggpmaaDoorL2Unpack
import Derived.WalkLawsBesides
set_option linter.unusedVariables false
set_option linter.unusedSimpArgs false
namespace Go.Proofs.YtmllepdkbggpmaaDoor
open Go.RowKit

theorem l2Bad_fmt {f p mx one inf sg nan : Int} (h : IsFmt f p mx one inf sg nan) (w : World) :
    Calls Tryd.prog 35 #[.int .i64 f] w fun e w' => e = .returned (.agg #[.int .u64 nan, .int .i64 1]) ∧ Gr w w' := by
  have hf : true = decide (f = 0 ∨ f = 1) := by rcases h with h | h <;> simp [h.1]
  have HE : Hid _ := h
  have HF : Hid _ := hf
  clear h hf
  go_enter Tryd.func35, Tryd.ntmps35
  go_wp2_with (first
    | (go_at_call 28; refine (l2Format_any _ true HF.out _).mono ?_; rintro e w' ⟨rfl, hw⟩; subst hw)
    | (go_at_call 21; refine (l2Nan_any HE.out _).mono ?_; rintro e w' ⟨rfl, hw⟩; subst hw))
  go_returns
  exact ⟨rfl, by (repeat' (first | (with_reducible assumption) | (with_reducible exact Gr.refl _) | (with_reducible refine Gr.alloc ?_ _ _) | (with_reducible refine Gr.drew ?_) | (with_reducible refine Gr.setCell ?_ ?_ _) | (with_reducible refine Gr.trans ?_ (by with_reducible assumption)) | go_size))⟩

theorem fmt64 : IsFmt 1 53 1023 4503599627370496 9218868437227405312 9223372036854775808 9221120237041090560 := .inr ⟨rfl, rfl, rfl, rfl, rfl, rfl, rfl⟩

theorem l2Bad_no (f : Int) (h : ¬ (f = 0 ∨ f = 1)) (w : World) :
    Calls Tryd.prog 35 #[.int .i64 f] w fun e w' => e = .returned (.agg #[.int .u64 9221120237041090560, .int .i64 1]) ∧ Gr w w' := by
  have HF : Hid (false = decide (f = 0 ∨ f = 1)) := by show _ = _; simp; omega
  clear h
  go_enter Tryd.func35, Tryd.ntmps35
  go_wp2_with (first
    | (go_at_call 28; refine (l2Format_any _ false HF.out _).mono ?_; rintro e w' ⟨rfl, hw⟩; subst hw)
    | (go_at_call 21; refine (l2Nan_any fmt64 _).mono ?_; rintro e w' ⟨rfl, hw⟩; subst hw))
  go_returns
  exact ⟨rfl, by (repeat' (first | (with_reducible assumption) | (with_reducible exact Gr.refl _) | (with_reducible refine Gr.alloc ?_ _ _) | (with_reducible refine Gr.drew ?_) | (with_reducible refine Gr.setCell ?_ ?_ _) | (with_reducible refine Gr.trans ?_ (by with_reducible assumption)) | go_size))⟩

theorem l2Put_zero (f v : Int) (w : World) :
    Calls Tryd.prog 38 #[.int .i64 f, .int .i64 0, .int .u64 v] w fun e w' => e = .returned (.int .u64 v) ∧ w = w' := by
  go_enter Tryd.func38, Tryd.ntmps38
  go_wp2
  go_ret
  exact ⟨rfl, rfl⟩
theorem l2Put_one {f p mx one inf sg nan : Int} (h : IsFmt f p mx one inf sg nan) (v : Int) (v0 : 0 ≤ v) (v1 : v < sg) (w : World) :
    Calls Tryd.prog 38 #[.int .i64 f, .int .i64 1, .int .u64 v] w fun e w' => e = .returned (.int .u64 (v + sg)) ∧ w = w' := by
  obtain ⟨b1, b2, b3, b4, b5, b6, b7, b8, b9, b10, b11, b12⟩ := h.bounds
  have HE : Hid _ := h
  clear h
  go_enter Tryd.func38, Tryd.ntmps38
  go_wp2_with (go_at_call 19; refine (l2Sign_any HE.out _).mono ?_; rintro e w' ⟨rfl, hw⟩; subst hw)
  go_ret
  exact ⟨rfl, rfl⟩

/-- What NextUp says of a word that fits. -/
def NextIs (inf sg nan W z : Int) : Prop :=
  (W = 0 ∨ W = sg) ∧ z = 1 ∨ (inf < W ∧ W < sg ∨ sg + inf < W) ∧ z = nan ∨ W = inf ∧ z = inf ∨ 0 < W ∧ W < inf ∧ z = W + 1 ∨ sg < W ∧ W ≤ sg + inf ∧ z = W - 1

theorem NextIs.one {f p mx one inf sg nan W z z' : Int} (hf : IsFmt f p mx one inf sg nan) (h : NextIs inf sg nan W z) (h' : NextIs inf sg nan W z') : z = z' := by
  obtain ⟨b1, b2, b3, b4, b5, b6, b7, b8, b9, b10, b11, b12⟩ := hf.bounds
  unfold NextIs at h h'
  omega

/-- Class and sign alone. -/
theorem UnpackIs.cls {p mx one inf sg nan W c s e g : Int} (h : UnpackIs p mx one inf sg nan W c s e g) :
    ∃ v, (s = 0 ∧ v = W ∧ W < sg ∨ s = 1 ∧ v = W - sg ∧ sg ≤ W) ∧ (v = 0 ∧ c = 0 ∨ inf < v ∧ v < nan ∧ c = 4 ∨ nan ≤ v ∧ c = 3 ∨ v = inf ∧ c = 2 ∨ 0 < v ∧ v < inf ∧ c = 1) := by
  obtain ⟨v, hv, hc⟩ := h
  refine ⟨v, hv, ?_⟩
  rcases hc with h | h | h | h | ⟨h1, h2, h3, _⟩ <;> omega

theorem IsFmt.yes {f p mx one inf sg nan : Int} (h : IsFmt f p mx one inf sg nan) : true = decide (f = 0 ∨ f = 1) := by
  rcases h with h | h <;> simp [h.1]

set_option maxHeartbeats 2000000 in
theorem specNext_fit {f p mx one inf sg nan : Int} (h : IsFmt f p mx one inf sg nan) (W : Int) (v0 : 0 ≤ W) (v1 : W < 2 * sg) (w : World) :
    Calls Tryd.prog 10 #[.int .i64 f, .int .u64 W] w fun e w' => ∃ z, NextIs inf sg nan W z ∧ e = .returned (.int .u64 z) ∧ Gr w w' := by
  obtain ⟨b1, b2, b3, b4, b5, b6, b7, b8, b9, b10, b11, b12⟩ := h.bounds
  have HE : Hid _ := h
  clear h
  rcases (show (W = 0 ∨ W = sg) ∨ (inf < W ∧ W < sg ∨ sg + inf < W) ∨ W = inf ∨ 0 < W ∧ W < inf ∨ sg < W ∧ W ≤ sg + inf by omega) with hc | hc | hc | hc | hc
  · have H : ∀ c s x g : Int, UnpackIs p mx one inf sg nan W c s x g → c = 0 ∧ 0 ≤ s := by
      intro c s x g hu
      obtain ⟨v, hv, hd⟩ := hu.cls
      omega
    have H' : Hid _ := H
    have HC : Hid _ := hc
    have HW : Hid _ := (⟨v0, v1⟩ : 0 ≤ W ∧ W < 2 * sg)
    clear H hc
    go_enter Tryd.func10, Tryd.ntmps10
    go_wp2_with (first
      | (go_at_call 7; refine (specUnpack_fit HE.out _ HW.out.1 HW.out.2 _).mono ?_; rintro e w' ⟨c, s, x, g, hu, rfl, hgr⟩; obtain ⟨rfl, hs1⟩ := H'.out c s x g hu; clear hu)
      | (go_at_call 28; refine (l2Format_any _ true (IsFmt.yes HE.out) _).mono ?_; rintro e w' ⟨rfl, hw⟩; subst hw)
      | (go_at_call 21; refine (l2Nan_any HE.out _).mono ?_; rintro e w' ⟨rfl, hw⟩; subst hw))
    go_returns
    exact ⟨1, .inl ⟨HC.out, rfl⟩, rfl, by (repeat' (first | (with_reducible assumption) | (with_reducible exact Gr.refl _) | (with_reducible refine Gr.alloc ?_ _ _) | (with_reducible refine Gr.drew ?_) | (with_reducible refine Gr.setCell ?_ ?_ _) | (with_reducible refine Gr.trans ?_ (by with_reducible assumption)) | go_size))⟩
  · have H : ∀ c s x g : Int, UnpackIs p mx one inf sg nan W c s x g → 3 ≤ c ∧ 0 ≤ s := by
      intro c s x g hu
      obtain ⟨v, hv, hd⟩ := hu.cls
      omega
    have H' : Hid _ := H
    have HC : Hid _ := hc
    have HW : Hid _ := (⟨v0, v1⟩ : 0 ≤ W ∧ W < 2 * sg)
    clear H hc
    go_enter Tryd.func10, Tryd.ntmps10
    go_wp2_with (first
      | (go_at_call 7; refine (specUnpack_fit HE.out _ HW.out.1 HW.out.2 _).mono ?_; rintro e w' ⟨c, s, x, g, hu, rfl, hgr⟩; obtain ⟨hc1, hs1⟩ := H'.out c s x g hu; clear hu)
      | (go_at_call 28; refine (l2Format_any _ true (IsFmt.yes HE.out) _).mono ?_; rintro e w' ⟨rfl, hw⟩; subst hw)
      | (go_at_call 21; refine (l2Nan_any HE.out _).mono ?_; rintro e w' ⟨rfl, hw⟩; subst hw))
    go_returns
    exact ⟨nan, .inr (.inl ⟨HC.out, rfl⟩), rfl, by (repeat' (first | (with_reducible assumption) | (with_reducible exact Gr.refl _) | (with_reducible refine Gr.alloc ?_ _ _) | (with_reducible refine Gr.drew ?_) | (with_reducible refine Gr.setCell ?_ ?_ _) | (with_reducible refine Gr.trans ?_ (by with_reducible assumption)) | go_size))⟩
  · have H : ∀ c s x g : Int, UnpackIs p mx one inf sg nan W c s x g → c = 2 ∧ s = 0 := by
      intro c s x g hu
      obtain ⟨v, hv, hd⟩ := hu.cls
      omega
    have H' : Hid _ := H
    have HC : Hid _ := hc
    have HW : Hid _ := (⟨v0, v1⟩ : 0 ≤ W ∧ W < 2 * sg)
    clear H hc
    go_enter Tryd.func10, Tryd.ntmps10
    go_wp2_with (first
      | (go_at_call 7; refine (specUnpack_fit HE.out _ HW.out.1 HW.out.2 _).mono ?_; rintro e w' ⟨c, s, x, g, hu, rfl, hgr⟩; obtain ⟨rfl, rfl⟩ := H'.out c s x g hu; clear hu)
      | (go_at_call 28; refine (l2Format_any _ true (IsFmt.yes HE.out) _).mono ?_; rintro e w' ⟨rfl, hw⟩; subst hw)
      | (go_at_call 21; refine (l2Nan_any HE.out _).mono ?_; rintro e w' ⟨rfl, hw⟩; subst hw))
    go_returns
    exact ⟨W, .inr (.inr (.inl ⟨HC.out, HC.out⟩)), rfl, by (repeat' (first | (with_reducible assumption) | (with_reducible exact Gr.refl _) | (with_reducible refine Gr.alloc ?_ _ _) | (with_reducible refine Gr.drew ?_) | (with_reducible refine Gr.setCell ?_ ?_ _) | (with_reducible refine Gr.trans ?_ (by with_reducible assumption)) | go_size))⟩
  · have H : ∀ c s x g : Int, UnpackIs p mx one inf sg nan W c s x g → c = 1 ∧ s = 0 := by
      intro c s x g hu
      obtain ⟨v, hv, hd⟩ := hu.cls
      omega
    have H' : Hid _ := H
    have HC : Hid _ := hc
    have HW : Hid _ := (⟨v0, v1⟩ : 0 ≤ W ∧ W < 2 * sg)
    clear H 
    go_enter Tryd.func10, Tryd.ntmps10
    go_wp2_with (first
      | (go_at_call 7; refine (specUnpack_fit HE.out _ HW.out.1 HW.out.2 _).mono ?_; rintro e w' ⟨c, s, x, g, hu, rfl, hgr⟩; obtain ⟨rfl, rfl⟩ := H'.out c s x g hu; clear hu)
      | (go_at_call 28; refine (l2Format_any _ true (IsFmt.yes HE.out) _).mono ?_; rintro e w' ⟨rfl, hw⟩; subst hw)
      | (go_at_call 21; refine (l2Nan_any HE.out _).mono ?_; rintro e w' ⟨rfl, hw⟩; subst hw))
    go_returns
    exact ⟨W + 1, .inr (.inr (.inr (.inl ⟨HC.out.1, HC.out.2, rfl⟩))), rfl, by (repeat' (first | (with_reducible assumption) | (with_reducible exact Gr.refl _) | (with_reducible refine Gr.alloc ?_ _ _) | (with_reducible refine Gr.drew ?_) | (with_reducible refine Gr.setCell ?_ ?_ _) | (with_reducible refine Gr.trans ?_ (by with_reducible assumption)) | go_size))⟩
  · have H : ∀ c s x g : Int, UnpackIs p mx one inf sg nan W c s x g → (1 ≤ c ∧ c ≤ 2) ∧ s = 1 := by
      intro c s x g hu
      obtain ⟨v, hv, hd⟩ := hu.cls
      omega
    have H' : Hid _ := H
    have HC : Hid _ := hc
    have HW : Hid _ := (⟨v0, v1⟩ : 0 ≤ W ∧ W < 2 * sg)
    clear H 
    go_enter Tryd.func10, Tryd.ntmps10
    go_wp2_with (first
      | (go_at_call 7; refine (specUnpack_fit HE.out _ HW.out.1 HW.out.2 _).mono ?_; rintro e w' ⟨c, s, x, g, hu, rfl, hgr⟩; obtain ⟨hc1, rfl⟩ := H'.out c s x g hu; clear hu)
      | (go_at_call 28; refine (l2Format_any _ true (IsFmt.yes HE.out) _).mono ?_; rintro e w' ⟨rfl, hw⟩; subst hw)
      | (go_at_call 21; refine (l2Nan_any HE.out _).mono ?_; rintro e w' ⟨rfl, hw⟩; subst hw))
    go_returns
    exact ⟨W - 1, .inr (.inr (.inr (.inr ⟨HC.out.1, HC.out.2, rfl⟩))), rfl, by (repeat' (first | (with_reducible assumption) | (with_reducible exact Gr.refl _) | (with_reducible refine Gr.alloc ?_ _ _) | (with_reducible refine Gr.drew ?_) | (with_reducible refine Gr.setCell ?_ ?_ _) | (with_reducible refine Gr.trans ?_ (by with_reducible assumption)) | go_size))⟩

theorem specNext_wide (v : Int) (v0 : 0 ≤ v) (h : 4294967296 ≤ v) (w : World) :
    Calls Tryd.prog 10 #[.int .i64 0, .int .u64 v] w fun e w' => e = .returned (.int .u64 2143289344) ∧ Gr w w' := by
  go_enter Tryd.func10, Tryd.ntmps10
  go_wp2_with (first
      | (go_at_call 7; refine (specUnpack_no _ _ v0 (.inr ⟨rfl, h⟩) _).mono ?_; rintro e w' ⟨rfl, hgr⟩)
      | (go_at_call 28; refine (l2Format_any _ true (by decide) _).mono ?_; rintro e w' ⟨rfl, hw⟩; subst hw)
      | (go_at_call 21; refine (l2Nan_any (.inl ⟨rfl, rfl, rfl, rfl, rfl, rfl, rfl⟩) _).mono ?_; rintro e w' ⟨rfl, hw⟩; subst hw))
  go_returns
  exact ⟨rfl, by (repeat' (first | (with_reducible assumption) | (with_reducible exact Gr.refl _) | (with_reducible refine Gr.alloc ?_ _ _) | (with_reducible refine Gr.drew ?_) | (with_reducible refine Gr.setCell ?_ ?_ _) | (with_reducible refine Gr.trans ?_ (by with_reducible assumption)) | go_size))⟩

theorem specNext_none (f v : Int) (v0 : 0 ≤ v) (h : ¬ (f = 0 ∨ f = 1)) (w : World) :
    Calls Tryd.prog 10 #[.int .i64 f, .int .u64 v] w fun e w' => e = .returned (.int .u64 9221120237041090560) ∧ Gr w w' := by
  have HF : Hid (false = decide (f = 0 ∨ f = 1)) := by show _ = _; simp; omega
  have HN : Hid _ := h
  clear h
  go_enter Tryd.func10, Tryd.ntmps10
  go_wp2_with (first
      | (go_at_call 7; refine (specUnpack_no _ _ v0 (.inl HN.out) _).mono ?_; rintro e w' ⟨rfl, hgr⟩)
      | (go_at_call 28; refine (l2Format_any _ false HF.out _).mono ?_; rintro e w' ⟨rfl, hw⟩; subst hw)
      | (go_at_call 21; refine (l2Nan_any fmt64 _).mono ?_; rintro e w' ⟨rfl, hw⟩; subst hw))
  go_returns
  exact ⟨rfl, by (repeat' (first | (with_reducible assumption) | (with_reducible exact Gr.refl _) | (with_reducible refine Gr.alloc ?_ _ _) | (with_reducible refine Gr.drew ?_) | (with_reducible refine Gr.setCell ?_ ?_ _) | (with_reducible refine Gr.trans ?_ (by with_reducible assumption)) | go_size))⟩
end Go.Proofs.YtmllepdkbggpmaaDoor
