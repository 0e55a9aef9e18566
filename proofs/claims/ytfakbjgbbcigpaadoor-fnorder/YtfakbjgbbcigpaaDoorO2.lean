/- What NextUp says. -/
import Derived.Test.YtfakbjgbbcigpaaDoorL2B
import Derived.Test.YtfakbjgbbcigpaaDoorL2A
import Derived.WalkLawsBesides
import Derived.Test.YtfakbjgbbcigpaaDoorF2D
set_option linter.unusedVariables false
set_option linter.unusedSimpArgs false
namespace Go.Proofs.YtfakbjgbbcigpaaDoor
open Go.RowKit

/-- What NextUp says of a word that fits. -/
def NextIs (inf sg nan W z : Int) : Prop :=
  (W = 0 ∨ W = sg) ∧ z = 1 ∨ (inf < W ∧ W < sg ∨ sg + inf < W) ∧ z = nan ∨ W = inf ∧ z = inf ∨ 0 < W ∧ W < inf ∧ z = W + 1 ∨ sg < W ∧ W ≤ sg + inf ∧ z = W - 1

theorem NextIs.one {f p mx one inf sg nan W z z' : Int} (hf : IsFmt f p mx one inf sg nan) (h : NextIs inf sg nan W z) (h' : NextIs inf sg nan W z') : z = z' := by
  obtain ⟨b1, b2, b3, b4, b5, b6, b7, b8, b9, b10, b11, b12⟩ := hf.bounds
  unfold NextIs at h h'
  omega

/-- Class and sign alone. -/
theorem UnpackIs.cls {p mx one inf sg nan W c s e g : Int} (h : UnpackIs p mx one inf sg nan W c s e g) :
    ∃ v, (s = 0 ∧ v = W ∧ W < sg ∨ s = 1 ∧ v = W - sg ∧ sg ≤ W) ∧ (v = 0 ∧ c = 0 ∨ inf < v ∧ v < nan ∧ c = 4 ∨ nan ≤ v ∧ c = 3 ∨ v = inf ∧ c = 2 ∨ 0 < v ∧ v < inf ∧ c = 1) := by
  obtain ⟨v, hv, hc⟩ := h
  refine ⟨v, hv, ?_⟩
  rcases hc with h | h | h | h | ⟨h1, h2, h3, _⟩ <;> omega

end Go.Proofs.YtfakbjgbbcigpaaDoor

/- spec.NextUp. -/
set_option linter.unusedVariables false
set_option linter.unusedSimpArgs false
namespace Go.Proofs.YtfakbjgbbcigpaaDoor
open Go.RowKit

set_option maxHeartbeats 2000000 in
theorem specNext_fit {f p mx one inf sg nan : Int} (h : IsFmt f p mx one inf sg nan) (W : Int) (v0 : 0 ≤ W) (v1 : W < 2 * sg) (w : World) :
    Calls Tryd.prog 24 #[.int .i64 f, .int .u64 W] w fun e w' => ∃ z, NextIs inf sg nan W z ∧ e = .returned (.int .u64 z) ∧ Gr w w' := by
  obtain ⟨b1, b2, b3, b4, b5, b6, b7, b8, b9, b10, b11, b12⟩ := h.bounds
  have HE : Hid _ := h
  clear h
  rcases (show (W = 0 ∨ W = sg) ∨ (inf < W ∧ W < sg ∨ sg + inf < W) ∨ W = inf ∨ 0 < W ∧ W < inf ∨ sg < W ∧ W ≤ sg + inf by omega) with hc | hc | hc | hc | hc
  · have H : ∀ c s x g : Int, UnpackIs p mx one inf sg nan W c s x g → c = 0 ∧ 0 ≤ s := by
      intro c s x g hu
      obtain ⟨v, hv, hd⟩ := hu.cls
      omega
    have H' : Hid _ := H
    have HC : Hid _ := hc
    have HW : Hid _ := (⟨v0, v1⟩ : 0 ≤ W ∧ W < 2 * sg)
    clear H hc
    go_enter Tryd.func24, Tryd.ntmps24
    go_wp2_with (first
      | (go_at_call 31; refine (specUnpack_fit HE.out _ HW.out.1 HW.out.2 _).mono ?_; rintro e w' ⟨c, s, x, g, hu, rfl, hgr⟩; obtain ⟨rfl, hs1⟩ := H'.out c s x g hu; clear hu)
      | (go_at_call 55; refine (l2Format_any _ true (IsFmt.yes HE.out) _).mono ?_; rintro e w' ⟨rfl, hw⟩; subst hw)
      | (go_at_call 67; refine (l2Nan_any HE.out _).mono ?_; rintro e w' ⟨rfl, hw⟩; subst hw))
    go_returns
    exact ⟨1, .inl ⟨HC.out, rfl⟩, rfl, kr⟩
  · have H : ∀ c s x g : Int, UnpackIs p mx one inf sg nan W c s x g → 3 ≤ c ∧ 0 ≤ s := by
      intro c s x g hu
      obtain ⟨v, hv, hd⟩ := hu.cls
      omega
    have H' : Hid _ := H
    have HC : Hid _ := hc
    have HW : Hid _ := (⟨v0, v1⟩ : 0 ≤ W ∧ W < 2 * sg)
    clear H hc
    go_enter Tryd.func24, Tryd.ntmps24
    go_wp2_with (first
      | (go_at_call 31; refine (specUnpack_fit HE.out _ HW.out.1 HW.out.2 _).mono ?_; rintro e w' ⟨c, s, x, g, hu, rfl, hgr⟩; obtain ⟨hc1, hs1⟩ := H'.out c s x g hu; clear hu)
      | (go_at_call 55; refine (l2Format_any _ true (IsFmt.yes HE.out) _).mono ?_; rintro e w' ⟨rfl, hw⟩; subst hw)
      | (go_at_call 67; refine (l2Nan_any HE.out _).mono ?_; rintro e w' ⟨rfl, hw⟩; subst hw))
    go_returns
    exact ⟨nan, .inr (.inl ⟨HC.out, rfl⟩), rfl, kr⟩
  · have H : ∀ c s x g : Int, UnpackIs p mx one inf sg nan W c s x g → c = 2 ∧ s = 0 := by
      intro c s x g hu
      obtain ⟨v, hv, hd⟩ := hu.cls
      omega
    have H' : Hid _ := H
    have HC : Hid _ := hc
    have HW : Hid _ := (⟨v0, v1⟩ : 0 ≤ W ∧ W < 2 * sg)
    clear H hc
    go_enter Tryd.func24, Tryd.ntmps24
    go_wp2_with (first
      | (go_at_call 31; refine (specUnpack_fit HE.out _ HW.out.1 HW.out.2 _).mono ?_; rintro e w' ⟨c, s, x, g, hu, rfl, hgr⟩; obtain ⟨rfl, rfl⟩ := H'.out c s x g hu; clear hu)
      | (go_at_call 55; refine (l2Format_any _ true (IsFmt.yes HE.out) _).mono ?_; rintro e w' ⟨rfl, hw⟩; subst hw)
      | (go_at_call 67; refine (l2Nan_any HE.out _).mono ?_; rintro e w' ⟨rfl, hw⟩; subst hw))
    go_returns
    exact ⟨W, .inr (.inr (.inl ⟨HC.out, HC.out⟩)), rfl, kr⟩
  · have H : ∀ c s x g : Int, UnpackIs p mx one inf sg nan W c s x g → c = 1 ∧ s = 0 := by
      intro c s x g hu
      obtain ⟨v, hv, hd⟩ := hu.cls
      omega
    have H' : Hid _ := H
    have HC : Hid _ := hc
    have HW : Hid _ := (⟨v0, v1⟩ : 0 ≤ W ∧ W < 2 * sg)
    clear H 
    go_enter Tryd.func24, Tryd.ntmps24
    go_wp2_with (first
      | (go_at_call 31; refine (specUnpack_fit HE.out _ HW.out.1 HW.out.2 _).mono ?_; rintro e w' ⟨c, s, x, g, hu, rfl, hgr⟩; obtain ⟨rfl, rfl⟩ := H'.out c s x g hu; clear hu)
      | (go_at_call 55; refine (l2Format_any _ true (IsFmt.yes HE.out) _).mono ?_; rintro e w' ⟨rfl, hw⟩; subst hw)
      | (go_at_call 67; refine (l2Nan_any HE.out _).mono ?_; rintro e w' ⟨rfl, hw⟩; subst hw))
    go_returns
    exact ⟨W + 1, .inr (.inr (.inr (.inl ⟨HC.out.1, HC.out.2, rfl⟩))), rfl, kr⟩
  · have H : ∀ c s x g : Int, UnpackIs p mx one inf sg nan W c s x g → (1 ≤ c ∧ c ≤ 2) ∧ s = 1 := by
      intro c s x g hu
      obtain ⟨v, hv, hd⟩ := hu.cls
      omega
    have H' : Hid _ := H
    have HC : Hid _ := hc
    have HW : Hid _ := (⟨v0, v1⟩ : 0 ≤ W ∧ W < 2 * sg)
    clear H 
    go_enter Tryd.func24, Tryd.ntmps24
    go_wp2_with (first
      | (go_at_call 31; refine (specUnpack_fit HE.out _ HW.out.1 HW.out.2 _).mono ?_; rintro e w' ⟨c, s, x, g, hu, rfl, hgr⟩; obtain ⟨hc1, rfl⟩ := H'.out c s x g hu; clear hu)
      | (go_at_call 55; refine (l2Format_any _ true (IsFmt.yes HE.out) _).mono ?_; rintro e w' ⟨rfl, hw⟩; subst hw)
      | (go_at_call 67; refine (l2Nan_any HE.out _).mono ?_; rintro e w' ⟨rfl, hw⟩; subst hw))
    go_returns
    exact ⟨W - 1, .inr (.inr (.inr (.inr ⟨HC.out.1, HC.out.2, rfl⟩))), rfl, kr⟩

theorem specNext_wide (v : Int) (v0 : 0 ≤ v) (h : 4294967296 ≤ v) (w : World) :
    Calls Tryd.prog 24 #[.int .i64 0, .int .u64 v] w fun e w' => e = .returned (.int .u64 2143289344) ∧ Gr w w' := by
  go_enter Tryd.func24, Tryd.ntmps24
  go_wp2_with (first
      | (go_at_call 31; refine (specUnpack_no _ _ v0 (.inr ⟨rfl, h⟩) _).mono ?_; rintro e w' ⟨rfl, hgr⟩)
      | (go_at_call 55; refine (l2Format_any _ true (by decide) _).mono ?_; rintro e w' ⟨rfl, hw⟩; subst hw)
      | (go_at_call 67; refine (l2Nan_any (.inl ⟨rfl, rfl, rfl, rfl, rfl, rfl, rfl⟩) _).mono ?_; rintro e w' ⟨rfl, hw⟩; subst hw))
  go_returns
  exact ⟨rfl, kr⟩

theorem specNext_none (f v : Int) (v0 : 0 ≤ v) (h : ¬ (f = 0 ∨ f = 1)) (w : World) :
    Calls Tryd.prog 24 #[.int .i64 f, .int .u64 v] w fun e w' => e = .returned (.int .u64 9221120237041090560) ∧ Gr w w' := by
  have HF : Hid (false = decide (f = 0 ∨ f = 1)) := by show _ = _; simp; omega
  have HN : Hid _ := h
  clear h
  go_enter Tryd.func24, Tryd.ntmps24
  go_wp2_with (first
      | (go_at_call 31; refine (specUnpack_no _ _ v0 (.inl HN.out) _).mono ?_; rintro e w' ⟨rfl, hgr⟩)
      | (go_at_call 55; refine (l2Format_any _ false HF.out _).mono ?_; rintro e w' ⟨rfl, hw⟩; subst hw)
      | (go_at_call 67; refine (l2Nan_any fmt64 _).mono ?_; rintro e w' ⟨rfl, hw⟩; subst hw))
  go_returns
  exact ⟨rfl, kr⟩
end Go.Proofs.YtfakbjgbbcigpaaDoor

/- impl.NextUp. -/
set_option linter.unusedVariables false
set_option linter.unusedSimpArgs false
namespace Go.Proofs.YtfakbjgbbcigpaaDoor
open Go.RowKit

set_option maxRecDepth 100000 in
set_option maxHeartbeats 4000000 in
theorem implNext_fit {f p mx one inf sg nan : Int} (h : IsFmt f p mx one inf sg nan) (W : Int) (h0 : 0 ≤ W) (h1 : W < 2 * sg) {w : World} (hw : Fm w) :
    Calls Tryd.prog 23 #[.int .i64 f, .int .u64 W] w fun e w' => ∃ z, NextIs inf sg nan W z ∧ e = .returned (.int .u64 z) ∧ Gr w w' := by
  obtain ⟨mn, fb, sp, hm, hmn, hfb⟩ := h.m
  clear hmn hfb
  obtain ⟨b1, b2, b3, b4, b5, b6⟩ := hm.bounds
  have HF : Hid (∀ w', Gr w w' → Calls Tryd.prog 34 #[.int .i64 f] w' fun e w'' => e = .returned (.tuple #[.agg #[.int .i64 p, .int .i64 mn, .int .i64 mx], .bool true]) ∧ Gr w' w'') := fun w' hg => formatOf_yes h hm (hw.gr hg)
  have HI : Hid (∀ w, Calls Tryd.prog 50 #[.agg #[.int .i64 p, .int .i64 mn, .int .i64 mx], .int .u64 W] w fun e w' => e = .returned (.bool true) ∧ Gr w w') := fun w => by
    have := fits_any hm W h0 (by omega) w
    rw [decide_eq_true h1] at this; exact this
  have HS : Hid (∀ w, Calls Tryd.prog 66 #[.agg #[.int .i64 p, .int .i64 mn, .int .i64 mx], .int .u64 W] w fun e w' => e = .returned (.int .i64 (W / sg)) ∧ Gr w w') := fun w => signOf_any hm W h0 h1 w
  have HM : Hid (∀ w, Calls Tryd.prog 63 #[.agg #[.int .i64 p, .int .i64 mn, .int .i64 mx], .int .u64 W] w fun e w' => e = .returned (.int .u64 (W % sg)) ∧ Gr w w') := fun w => magnitude_any hm W h0 h1 w
  have HInf : Hid (∀ w, Calls Tryd.prog 64 #[.agg #[.int .i64 p, .int .i64 mn, .int .i64 mx], .int .i64 0] w fun e w' => e = .returned (.int .u64 inf) ∧ Gr w w') := fun w => inf_any hm 0 inf (.inl ⟨rfl, rfl⟩) w
  have HZ0 : Hid (∀ w, Calls Tryd.prog 65 #[.agg #[.int .i64 p, .int .i64 mn, .int .i64 mx], .int .i64 0] w fun e w' => e = .returned (.int .u64 0) ∧ Gr w w') := fun w => zero_any hm 0 0 (.inl ⟨rfl, rfl⟩) w
  have HZ1 : Hid (∀ w, Calls Tryd.prog 65 #[.agg #[.int .i64 p, .int .i64 mn, .int .i64 mx], .int .i64 1] w fun e w' => e = .returned (.int .u64 sg) ∧ Gr w w') := fun w => zero_any hm 1 sg (.inr ⟨rfl, rfl⟩) w
  have HN : Hid (∀ w, Calls Tryd.prog 62 #[.agg #[.int .i64 p, .int .i64 mn, .int .i64 mx]] w fun e w' => e = .returned (.int .u64 nan) ∧ Gr w w') := fun w => nan_any hm w
  have hsv : Hid (W / sg = 0 ∧ W % sg = W ∧ W < sg ∨ W / sg = 1 ∧ W % sg = W - sg ∧ sg ≤ W) := sign_mag W sg h0 h1
  generalize W / sg = s at *
  generalize W % sg = v at *
  have v0 : 0 ≤ v ∧ v < sg ∧ 0 ≤ s ∧ s ≤ 1 := by have := hsv.out; omega
  have hU : Hid (∀ z : Int, ((W = 0 ∨ W = sg) ∧ z = 1 ∨ (inf < W ∧ W < sg ∨ sg + inf < W) ∧ z = nan ∨ W = inf ∧ z = inf ∨ 0 < W ∧ W < inf ∧ z = W + 1 ∨ sg < W ∧ W ≤ sg + inf ∧ z = W - 1) → NextIs inf sg nan W z) := fun z hc => hc
  clear h hm hw
  rcases (show inf < v ∨ (v ≤ inf ∧ W = inf) ∨ (v ≤ inf ∧ W = sg) ∨ (v ≤ inf ∧ W ≠ inf ∧ W ≠ sg ∧ s = 1) ∨ (v ≤ inf ∧ W ≠ inf ∧ W ≠ sg ∧ s = 0) by omega) with c1 | ⟨c1, c2⟩ | ⟨c1, c2⟩ | ⟨c1, c2, c3, rfl⟩ | ⟨c1, c2, c3, rfl⟩
  · have HU : Hid (NextIs inf sg nan W (nan)) := hU.out _ (by have := hsv.out; omega)
    clear hU hsv
    skip
    go_enter Tryd.func23, Tryd.ntmps23
    go_wp2_with (go_at_call 34; refine (HF.out _ kr).mono ?_; rintro e w3 ⟨rfl, hg_w3⟩)
    go_region_held3 (fun w' => w'.cell? ⟨w3.heap.size, 0, none⟩ = some (.int .i64 p) ∧ w'.cell? ⟨w3.heap.size, 1, none⟩ = some (.int .i64 mn) ∧ w'.cell? ⟨w3.heap.size, 2, none⟩ = some (.int .i64 mx))
      ((go_split_ands; (repeat' apply And.intro) <;> (repeat' (first | (with_reducible assumption) | (with_reducible refine has_of (by with_reducible assumption)) | (with_reducible refine Gr.old (by with_reducible assumption) ?_) | (with_reducible refine cell_swap _ ?_ (by with_reducible assumption); omega) | (with_reducible refine cell_setSame ?_) | (with_reducible refine has_old (by with_reducible assumption) ?_) | (with_reducible refine has_set ?_) | (with_reducible refine cell_setOff ?_ ?_; omega) | (with_reducible refine cell_setNew ?_ ?_; (dsimp only; omega)) | (simp [go_sem]; done) | (simp [go_sem]; rfl) | (with_reducible refine cell_alloc _ ?_) | (with_reducible refine cell_drew ?_) | (with_reducible refine has_alloc _ ?_) | (with_reducible refine fz_old (by with_reducible assumption) ?_) | (with_reducible refine fz_alloc ?_) | (with_reducible refine fz_set ?_) | (with_reducible refine fz_drew ?_)))))
      (first
        | (go_at_call 50; refine (HI.out _).mono ?_; rintro e w4 ⟨rfl, hg_w4⟩; have hc_w4 := hg_w4.cells; have hf_w4 := hg_w4.frozens; have hz_w4 := hg_w4.size; (try simp only [World.size_alloc, World.size_drew, World.size_setCell] at hz_w4))
        | (go_at_call 63; refine (HM.out _).mono ?_; rintro e w5 ⟨rfl, hg_w5⟩; have hc_w5 := hg_w5.cells; have hf_w5 := hg_w5.frozens; have hz_w5 := hg_w5.size; (try simp only [World.size_alloc, World.size_drew, World.size_setCell] at hz_w5))
        | (go_at_call 64; refine (HInf.out _).mono ?_; rintro e w6 ⟨rfl, hg_w6⟩; have hc_w6 := hg_w6.cells; have hf_w6 := hg_w6.frozens; have hz_w6 := hg_w6.size; (try simp only [World.size_alloc, World.size_drew, World.size_setCell] at hz_w6)))
    all_goals
      (try go_split_ands)
      go_wp2_with (first
        | (go_at_call 64; refine (HInf.out _).mono ?_; rintro e w7 ⟨rfl, hg_w7⟩; have cm0 : w7.cell? ⟨w3.heap.size, 0, none⟩ = some (.int .i64 p) := kq; have cm1 : w7.cell? ⟨w3.heap.size, 1, none⟩ = some (.int .i64 mn) := kq; have cm2 : w7.cell? ⟨w3.heap.size, 2, none⟩ = some (.int .i64 mx) := kq)
        | (go_at_call 65; refine (HZ1.out _).mono ?_; rintro e w8 ⟨rfl, hg_w8⟩; have dm0 : w8.cell? ⟨w3.heap.size, 0, none⟩ = some (.int .i64 p) := kq; have dm1 : w8.cell? ⟨w3.heap.size, 1, none⟩ = some (.int .i64 mn) := kq; have dm2 : w8.cell? ⟨w3.heap.size, 2, none⟩ = some (.int .i64 mx) := kq)
        | (go_at_call 65; refine (HZ0.out _).mono ?_; rintro e w9 ⟨rfl, hg_w9⟩; have em0 : w9.cell? ⟨w3.heap.size, 0, none⟩ = some (.int .i64 p) := kq; have em1 : w9.cell? ⟨w3.heap.size, 1, none⟩ = some (.int .i64 mn) := kq; have em2 : w9.cell? ⟨w3.heap.size, 2, none⟩ = some (.int .i64 mx) := kq)
        | (go_at_call 66; refine (HS.out _).mono ?_; rintro e w10 ⟨rfl, hg_w10⟩; have fm0 : w10.cell? ⟨w3.heap.size, 0, none⟩ = some (.int .i64 p) := kq; have fm1 : w10.cell? ⟨w3.heap.size, 1, none⟩ = some (.int .i64 mn) := kq; have fm2 : w10.cell? ⟨w3.heap.size, 2, none⟩ = some (.int .i64 mx) := kq)
        | (go_at_call 62; refine (HN.out _).mono ?_; rintro e w11 ⟨rfl, hg_w11⟩; have gm0 : w11.cell? ⟨w3.heap.size, 0, none⟩ = some (.int .i64 p) := kq; have gm1 : w11.cell? ⟨w3.heap.size, 1, none⟩ = some (.int .i64 mn) := kq; have gm2 : w11.cell? ⟨w3.heap.size, 2, none⟩ = some (.int .i64 mx) := kq))
      go_returns
      exact ⟨_, HU.out, rfl, kr⟩
  · have HU : Hid (NextIs inf sg nan W (W)) := hU.out _ (by have := hsv.out; omega)
    clear hU hsv
    have c1d : decide (v > inf) = false := by simp; omega
    subst c2
    go_enter Tryd.func23, Tryd.ntmps23
    go_wp2_with (go_at_call 34; refine (HF.out _ kr).mono ?_; rintro e w3 ⟨rfl, hg_w3⟩)
    go_region_held3 (fun w' => w'.cell? ⟨w3.heap.size, 0, none⟩ = some (.int .i64 p) ∧ w'.cell? ⟨w3.heap.size, 1, none⟩ = some (.int .i64 mn) ∧ w'.cell? ⟨w3.heap.size, 2, none⟩ = some (.int .i64 mx))
      ((go_split_ands; (repeat' apply And.intro) <;> (repeat' (first | (with_reducible assumption) | (with_reducible refine has_of (by with_reducible assumption)) | (with_reducible refine Gr.old (by with_reducible assumption) ?_) | (with_reducible refine cell_swap _ ?_ (by with_reducible assumption); omega) | (with_reducible refine cell_setSame ?_) | (with_reducible refine has_old (by with_reducible assumption) ?_) | (with_reducible refine has_set ?_) | (with_reducible refine cell_setOff ?_ ?_; omega) | (with_reducible refine cell_setNew ?_ ?_; (dsimp only; omega)) | (simp [go_sem]; done) | (simp [go_sem]; rfl) | (with_reducible refine cell_alloc _ ?_) | (with_reducible refine cell_drew ?_) | (with_reducible refine has_alloc _ ?_) | (with_reducible refine fz_old (by with_reducible assumption) ?_) | (with_reducible refine fz_alloc ?_) | (with_reducible refine fz_set ?_) | (with_reducible refine fz_drew ?_)))))
      (first
        | (go_at_call 50; refine (HI.out _).mono ?_; rintro e w4 ⟨rfl, hg_w4⟩; have hc_w4 := hg_w4.cells; have hf_w4 := hg_w4.frozens; have hz_w4 := hg_w4.size; (try simp only [World.size_alloc, World.size_drew, World.size_setCell] at hz_w4))
        | (go_at_call 63; refine (HM.out _).mono ?_; rintro e w5 ⟨rfl, hg_w5⟩; have hc_w5 := hg_w5.cells; have hf_w5 := hg_w5.frozens; have hz_w5 := hg_w5.size; (try simp only [World.size_alloc, World.size_drew, World.size_setCell] at hz_w5))
        | (go_at_call 64; refine (HInf.out _).mono ?_; rintro e w6 ⟨rfl, hg_w6⟩; have hc_w6 := hg_w6.cells; have hf_w6 := hg_w6.frozens; have hz_w6 := hg_w6.size; (try simp only [World.size_alloc, World.size_drew, World.size_setCell] at hz_w6)))
    all_goals
      (try go_split_ands)
      go_wp2_with (first
        | (go_at_call 64; refine (HInf.out _).mono ?_; rintro e w7 ⟨rfl, hg_w7⟩; have cm0 : w7.cell? ⟨w3.heap.size, 0, none⟩ = some (.int .i64 p) := kq; have cm1 : w7.cell? ⟨w3.heap.size, 1, none⟩ = some (.int .i64 mn) := kq; have cm2 : w7.cell? ⟨w3.heap.size, 2, none⟩ = some (.int .i64 mx) := kq)
        | (go_at_call 65; refine (HZ1.out _).mono ?_; rintro e w8 ⟨rfl, hg_w8⟩; have dm0 : w8.cell? ⟨w3.heap.size, 0, none⟩ = some (.int .i64 p) := kq; have dm1 : w8.cell? ⟨w3.heap.size, 1, none⟩ = some (.int .i64 mn) := kq; have dm2 : w8.cell? ⟨w3.heap.size, 2, none⟩ = some (.int .i64 mx) := kq)
        | (go_at_call 65; refine (HZ0.out _).mono ?_; rintro e w9 ⟨rfl, hg_w9⟩; have em0 : w9.cell? ⟨w3.heap.size, 0, none⟩ = some (.int .i64 p) := kq; have em1 : w9.cell? ⟨w3.heap.size, 1, none⟩ = some (.int .i64 mn) := kq; have em2 : w9.cell? ⟨w3.heap.size, 2, none⟩ = some (.int .i64 mx) := kq)
        | (go_at_call 66; refine (HS.out _).mono ?_; rintro e w10 ⟨rfl, hg_w10⟩; have fm0 : w10.cell? ⟨w3.heap.size, 0, none⟩ = some (.int .i64 p) := kq; have fm1 : w10.cell? ⟨w3.heap.size, 1, none⟩ = some (.int .i64 mn) := kq; have fm2 : w10.cell? ⟨w3.heap.size, 2, none⟩ = some (.int .i64 mx) := kq)
        | (go_at_call 62; refine (HN.out _).mono ?_; rintro e w11 ⟨rfl, hg_w11⟩; have gm0 : w11.cell? ⟨w3.heap.size, 0, none⟩ = some (.int .i64 p) := kq; have gm1 : w11.cell? ⟨w3.heap.size, 1, none⟩ = some (.int .i64 mn) := kq; have gm2 : w11.cell? ⟨w3.heap.size, 2, none⟩ = some (.int .i64 mx) := kq))
      go_returns
      exact ⟨_, HU.out, rfl, kr⟩
  · have HU : Hid (NextIs inf sg nan W (1)) := hU.out _ (by have := hsv.out; omega)
    clear hU hsv
    have c1d : decide (v > inf) = false := by simp; omega
    subst c2
    have c4 : (W == inf) = false := by simp; omega
    go_enter Tryd.func23, Tryd.ntmps23
    go_wp2_with (go_at_call 34; refine (HF.out _ kr).mono ?_; rintro e w3 ⟨rfl, hg_w3⟩)
    go_region_held3 (fun w' => w'.cell? ⟨w3.heap.size, 0, none⟩ = some (.int .i64 p) ∧ w'.cell? ⟨w3.heap.size, 1, none⟩ = some (.int .i64 mn) ∧ w'.cell? ⟨w3.heap.size, 2, none⟩ = some (.int .i64 mx))
      ((go_split_ands; (repeat' apply And.intro) <;> (repeat' (first | (with_reducible assumption) | (with_reducible refine has_of (by with_reducible assumption)) | (with_reducible refine Gr.old (by with_reducible assumption) ?_) | (with_reducible refine cell_swap _ ?_ (by with_reducible assumption); omega) | (with_reducible refine cell_setSame ?_) | (with_reducible refine has_old (by with_reducible assumption) ?_) | (with_reducible refine has_set ?_) | (with_reducible refine cell_setOff ?_ ?_; omega) | (with_reducible refine cell_setNew ?_ ?_; (dsimp only; omega)) | (simp [go_sem]; done) | (simp [go_sem]; rfl) | (with_reducible refine cell_alloc _ ?_) | (with_reducible refine cell_drew ?_) | (with_reducible refine has_alloc _ ?_) | (with_reducible refine fz_old (by with_reducible assumption) ?_) | (with_reducible refine fz_alloc ?_) | (with_reducible refine fz_set ?_) | (with_reducible refine fz_drew ?_)))))
      (first
        | (go_at_call 50; refine (HI.out _).mono ?_; rintro e w4 ⟨rfl, hg_w4⟩; have hc_w4 := hg_w4.cells; have hf_w4 := hg_w4.frozens; have hz_w4 := hg_w4.size; (try simp only [World.size_alloc, World.size_drew, World.size_setCell] at hz_w4))
        | (go_at_call 63; refine (HM.out _).mono ?_; rintro e w5 ⟨rfl, hg_w5⟩; have hc_w5 := hg_w5.cells; have hf_w5 := hg_w5.frozens; have hz_w5 := hg_w5.size; (try simp only [World.size_alloc, World.size_drew, World.size_setCell] at hz_w5))
        | (go_at_call 64; refine (HInf.out _).mono ?_; rintro e w6 ⟨rfl, hg_w6⟩; have hc_w6 := hg_w6.cells; have hf_w6 := hg_w6.frozens; have hz_w6 := hg_w6.size; (try simp only [World.size_alloc, World.size_drew, World.size_setCell] at hz_w6)))
    all_goals
      (try go_split_ands)
      go_wp2_with (first
        | (go_at_call 64; refine (HInf.out _).mono ?_; rintro e w7 ⟨rfl, hg_w7⟩; have cm0 : w7.cell? ⟨w3.heap.size, 0, none⟩ = some (.int .i64 p) := kq; have cm1 : w7.cell? ⟨w3.heap.size, 1, none⟩ = some (.int .i64 mn) := kq; have cm2 : w7.cell? ⟨w3.heap.size, 2, none⟩ = some (.int .i64 mx) := kq)
        | (go_at_call 65; refine (HZ1.out _).mono ?_; rintro e w8 ⟨rfl, hg_w8⟩; have dm0 : w8.cell? ⟨w3.heap.size, 0, none⟩ = some (.int .i64 p) := kq; have dm1 : w8.cell? ⟨w3.heap.size, 1, none⟩ = some (.int .i64 mn) := kq; have dm2 : w8.cell? ⟨w3.heap.size, 2, none⟩ = some (.int .i64 mx) := kq)
        | (go_at_call 65; refine (HZ0.out _).mono ?_; rintro e w9 ⟨rfl, hg_w9⟩; have em0 : w9.cell? ⟨w3.heap.size, 0, none⟩ = some (.int .i64 p) := kq; have em1 : w9.cell? ⟨w3.heap.size, 1, none⟩ = some (.int .i64 mn) := kq; have em2 : w9.cell? ⟨w3.heap.size, 2, none⟩ = some (.int .i64 mx) := kq)
        | (go_at_call 66; refine (HS.out _).mono ?_; rintro e w10 ⟨rfl, hg_w10⟩; have fm0 : w10.cell? ⟨w3.heap.size, 0, none⟩ = some (.int .i64 p) := kq; have fm1 : w10.cell? ⟨w3.heap.size, 1, none⟩ = some (.int .i64 mn) := kq; have fm2 : w10.cell? ⟨w3.heap.size, 2, none⟩ = some (.int .i64 mx) := kq)
        | (go_at_call 62; refine (HN.out _).mono ?_; rintro e w11 ⟨rfl, hg_w11⟩; have gm0 : w11.cell? ⟨w3.heap.size, 0, none⟩ = some (.int .i64 p) := kq; have gm1 : w11.cell? ⟨w3.heap.size, 1, none⟩ = some (.int .i64 mn) := kq; have gm2 : w11.cell? ⟨w3.heap.size, 2, none⟩ = some (.int .i64 mx) := kq))
      go_returns
      exact ⟨_, HU.out, rfl, kr⟩
  · have HU : Hid (NextIs inf sg nan W (W - 1)) := hU.out _ (by have := hsv.out; omega)
    clear hU
    have c1d : decide (v > inf) = false := by simp; omega
    have c4 : (W == inf) = false := by simp; omega
    have c5 : (W == sg) = false := by simp; omega
    have c6 : sg < W := by have := hsv.out; omega
    clear c2 c3 hsv
    go_enter Tryd.func23, Tryd.ntmps23
    go_wp2_with (go_at_call 34; refine (HF.out _ kr).mono ?_; rintro e w3 ⟨rfl, hg_w3⟩)
    go_region_held3 (fun w' => w'.cell? ⟨w3.heap.size, 0, none⟩ = some (.int .i64 p) ∧ w'.cell? ⟨w3.heap.size, 1, none⟩ = some (.int .i64 mn) ∧ w'.cell? ⟨w3.heap.size, 2, none⟩ = some (.int .i64 mx))
      ((go_split_ands; (repeat' apply And.intro) <;> (repeat' (first | (with_reducible assumption) | (with_reducible refine has_of (by with_reducible assumption)) | (with_reducible refine Gr.old (by with_reducible assumption) ?_) | (with_reducible refine cell_swap _ ?_ (by with_reducible assumption); omega) | (with_reducible refine cell_setSame ?_) | (with_reducible refine has_old (by with_reducible assumption) ?_) | (with_reducible refine has_set ?_) | (with_reducible refine cell_setOff ?_ ?_; omega) | (with_reducible refine cell_setNew ?_ ?_; (dsimp only; omega)) | (simp [go_sem]; done) | (simp [go_sem]; rfl) | (with_reducible refine cell_alloc _ ?_) | (with_reducible refine cell_drew ?_) | (with_reducible refine has_alloc _ ?_) | (with_reducible refine fz_old (by with_reducible assumption) ?_) | (with_reducible refine fz_alloc ?_) | (with_reducible refine fz_set ?_) | (with_reducible refine fz_drew ?_)))))
      (first
        | (go_at_call 50; refine (HI.out _).mono ?_; rintro e w4 ⟨rfl, hg_w4⟩; have hc_w4 := hg_w4.cells; have hf_w4 := hg_w4.frozens; have hz_w4 := hg_w4.size; (try simp only [World.size_alloc, World.size_drew, World.size_setCell] at hz_w4))
        | (go_at_call 63; refine (HM.out _).mono ?_; rintro e w5 ⟨rfl, hg_w5⟩; have hc_w5 := hg_w5.cells; have hf_w5 := hg_w5.frozens; have hz_w5 := hg_w5.size; (try simp only [World.size_alloc, World.size_drew, World.size_setCell] at hz_w5))
        | (go_at_call 64; refine (HInf.out _).mono ?_; rintro e w6 ⟨rfl, hg_w6⟩; have hc_w6 := hg_w6.cells; have hf_w6 := hg_w6.frozens; have hz_w6 := hg_w6.size; (try simp only [World.size_alloc, World.size_drew, World.size_setCell] at hz_w6)))
    all_goals
      (try go_split_ands)
      go_wp2_with (first
        | (go_at_call 64; refine (HInf.out _).mono ?_; rintro e w7 ⟨rfl, hg_w7⟩; have cm0 : w7.cell? ⟨w3.heap.size, 0, none⟩ = some (.int .i64 p) := kq; have cm1 : w7.cell? ⟨w3.heap.size, 1, none⟩ = some (.int .i64 mn) := kq; have cm2 : w7.cell? ⟨w3.heap.size, 2, none⟩ = some (.int .i64 mx) := kq)
        | (go_at_call 65; refine (HZ1.out _).mono ?_; rintro e w8 ⟨rfl, hg_w8⟩; have dm0 : w8.cell? ⟨w3.heap.size, 0, none⟩ = some (.int .i64 p) := kq; have dm1 : w8.cell? ⟨w3.heap.size, 1, none⟩ = some (.int .i64 mn) := kq; have dm2 : w8.cell? ⟨w3.heap.size, 2, none⟩ = some (.int .i64 mx) := kq)
        | (go_at_call 65; refine (HZ0.out _).mono ?_; rintro e w9 ⟨rfl, hg_w9⟩; have em0 : w9.cell? ⟨w3.heap.size, 0, none⟩ = some (.int .i64 p) := kq; have em1 : w9.cell? ⟨w3.heap.size, 1, none⟩ = some (.int .i64 mn) := kq; have em2 : w9.cell? ⟨w3.heap.size, 2, none⟩ = some (.int .i64 mx) := kq)
        | (go_at_call 66; refine (HS.out _).mono ?_; rintro e w10 ⟨rfl, hg_w10⟩; have fm0 : w10.cell? ⟨w3.heap.size, 0, none⟩ = some (.int .i64 p) := kq; have fm1 : w10.cell? ⟨w3.heap.size, 1, none⟩ = some (.int .i64 mn) := kq; have fm2 : w10.cell? ⟨w3.heap.size, 2, none⟩ = some (.int .i64 mx) := kq)
        | (go_at_call 62; refine (HN.out _).mono ?_; rintro e w11 ⟨rfl, hg_w11⟩; have gm0 : w11.cell? ⟨w3.heap.size, 0, none⟩ = some (.int .i64 p) := kq; have gm1 : w11.cell? ⟨w3.heap.size, 1, none⟩ = some (.int .i64 mn) := kq; have gm2 : w11.cell? ⟨w3.heap.size, 2, none⟩ = some (.int .i64 mx) := kq))
      go_returns
      exact ⟨_, HU.out, rfl, kr⟩
  · have HU : Hid (NextIs inf sg nan W (W + 1)) := hU.out _ (by have := hsv.out; omega)
    clear hU
    have c1d : decide (v > inf) = false := by simp; omega
    have c4 : (W == inf) = false := by simp; omega
    have c5 : (W == sg) = false := by simp; omega
    have c6 : W < sg := by have := hsv.out; omega
    have c7 : W < inf := by have := hsv.out; omega
    clear c2 c3 hsv
    go_enter Tryd.func23, Tryd.ntmps23
    go_wp2_with (go_at_call 34; refine (HF.out _ kr).mono ?_; rintro e w3 ⟨rfl, hg_w3⟩)
    go_region_held3 (fun w' => w'.cell? ⟨w3.heap.size, 0, none⟩ = some (.int .i64 p) ∧ w'.cell? ⟨w3.heap.size, 1, none⟩ = some (.int .i64 mn) ∧ w'.cell? ⟨w3.heap.size, 2, none⟩ = some (.int .i64 mx))
      ((go_split_ands; (repeat' apply And.intro) <;> (repeat' (first | (with_reducible assumption) | (with_reducible refine has_of (by with_reducible assumption)) | (with_reducible refine Gr.old (by with_reducible assumption) ?_) | (with_reducible refine cell_swap _ ?_ (by with_reducible assumption); omega) | (with_reducible refine cell_setSame ?_) | (with_reducible refine has_old (by with_reducible assumption) ?_) | (with_reducible refine has_set ?_) | (with_reducible refine cell_setOff ?_ ?_; omega) | (with_reducible refine cell_setNew ?_ ?_; (dsimp only; omega)) | (simp [go_sem]; done) | (simp [go_sem]; rfl) | (with_reducible refine cell_alloc _ ?_) | (with_reducible refine cell_drew ?_) | (with_reducible refine has_alloc _ ?_) | (with_reducible refine fz_old (by with_reducible assumption) ?_) | (with_reducible refine fz_alloc ?_) | (with_reducible refine fz_set ?_) | (with_reducible refine fz_drew ?_)))))
      (first
        | (go_at_call 50; refine (HI.out _).mono ?_; rintro e w4 ⟨rfl, hg_w4⟩; have hc_w4 := hg_w4.cells; have hf_w4 := hg_w4.frozens; have hz_w4 := hg_w4.size; (try simp only [World.size_alloc, World.size_drew, World.size_setCell] at hz_w4))
        | (go_at_call 63; refine (HM.out _).mono ?_; rintro e w5 ⟨rfl, hg_w5⟩; have hc_w5 := hg_w5.cells; have hf_w5 := hg_w5.frozens; have hz_w5 := hg_w5.size; (try simp only [World.size_alloc, World.size_drew, World.size_setCell] at hz_w5))
        | (go_at_call 64; refine (HInf.out _).mono ?_; rintro e w6 ⟨rfl, hg_w6⟩; have hc_w6 := hg_w6.cells; have hf_w6 := hg_w6.frozens; have hz_w6 := hg_w6.size; (try simp only [World.size_alloc, World.size_drew, World.size_setCell] at hz_w6)))
    all_goals
      (try go_split_ands)
      go_wp2_with (first
        | (go_at_call 64; refine (HInf.out _).mono ?_; rintro e w7 ⟨rfl, hg_w7⟩; have cm0 : w7.cell? ⟨w3.heap.size, 0, none⟩ = some (.int .i64 p) := kq; have cm1 : w7.cell? ⟨w3.heap.size, 1, none⟩ = some (.int .i64 mn) := kq; have cm2 : w7.cell? ⟨w3.heap.size, 2, none⟩ = some (.int .i64 mx) := kq)
        | (go_at_call 65; refine (HZ1.out _).mono ?_; rintro e w8 ⟨rfl, hg_w8⟩; have dm0 : w8.cell? ⟨w3.heap.size, 0, none⟩ = some (.int .i64 p) := kq; have dm1 : w8.cell? ⟨w3.heap.size, 1, none⟩ = some (.int .i64 mn) := kq; have dm2 : w8.cell? ⟨w3.heap.size, 2, none⟩ = some (.int .i64 mx) := kq)
        | (go_at_call 65; refine (HZ0.out _).mono ?_; rintro e w9 ⟨rfl, hg_w9⟩; have em0 : w9.cell? ⟨w3.heap.size, 0, none⟩ = some (.int .i64 p) := kq; have em1 : w9.cell? ⟨w3.heap.size, 1, none⟩ = some (.int .i64 mn) := kq; have em2 : w9.cell? ⟨w3.heap.size, 2, none⟩ = some (.int .i64 mx) := kq)
        | (go_at_call 66; refine (HS.out _).mono ?_; rintro e w10 ⟨rfl, hg_w10⟩; have fm0 : w10.cell? ⟨w3.heap.size, 0, none⟩ = some (.int .i64 p) := kq; have fm1 : w10.cell? ⟨w3.heap.size, 1, none⟩ = some (.int .i64 mn) := kq; have fm2 : w10.cell? ⟨w3.heap.size, 2, none⟩ = some (.int .i64 mx) := kq)
        | (go_at_call 62; refine (HN.out _).mono ?_; rintro e w11 ⟨rfl, hg_w11⟩; have gm0 : w11.cell? ⟨w3.heap.size, 0, none⟩ = some (.int .i64 p) := kq; have gm1 : w11.cell? ⟨w3.heap.size, 1, none⟩ = some (.int .i64 mn) := kq; have gm2 : w11.cell? ⟨w3.heap.size, 2, none⟩ = some (.int .i64 mx) := kq))
      go_returns
      exact ⟨_, HU.out, rfl, kr⟩
end Go.Proofs.YtfakbjgbbcigpaaDoor

/- impl.NextUp: what does not fit; laws.FnExactNextUp. -/
set_option linter.unusedVariables false
set_option linter.unusedSimpArgs false
namespace Go.Proofs.YtfakbjgbbcigpaaDoor
open Go.RowKit

theorem mF64 : IsM 53 (-1022) 1023 52 63 4503599627370496 9218868437227405312 9223372036854775808 9221120237041090560 := .inr ⟨rfl, rfl, rfl, rfl, rfl, rfl, rfl, rfl, rfl⟩
theorem mF32 : IsM 24 (-126) 127 23 31 8388608 2139095040 2147483648 2143289344 := .inl ⟨rfl, rfl, rfl, rfl, rfl, rfl, rfl, rfl, rfl⟩
theorem fmt32 : IsFmt 0 24 127 8388608 2139095040 2147483648 2143289344 := .inl ⟨rfl, rfl, rfl, rfl, rfl, rfl, rfl⟩

set_option maxRecDepth 100000 in
set_option maxHeartbeats 2000000 in
theorem implNext_none (f W : Int) (h : ¬ (f = 0 ∨ f = 1)) {w : World} (hw : Fm w) :
    Calls Tryd.prog 23 #[.int .i64 f, .int .u64 W] w fun e w' => e = .returned (.int .u64 9221120237041090560) ∧ Gr w w' := by
  have HF : Hid (∀ w', Calls Tryd.prog 34 #[.int .i64 f] w' fun e w'' => e = .returned (.tuple #[.agg #[.int .i64 0, .int .i64 0, .int .i64 0], .bool false]) ∧ Gr w' w'') := fun w' => formatOf_no f h w'
  have HN : Hid (∀ w, Calls Tryd.prog 62 #[.agg #[.int .i64 53, .int .i64 (-1022), .int .i64 1023]] w fun e w' => e = .returned (.int .u64 9221120237041090560) ∧ Gr w w') := fun w => nan_any mF64 w
  have HW : Hid (Fm w) := hw
  clear h hw
  go_enter Tryd.func23, Tryd.ntmps23
  go_wp2_with (first
    | (go_at_call 34; refine (HF.out _).mono ?_; rintro e w3 ⟨rfl, hg_w3⟩; obtain ⟨a0, a1, a2, a3, a4, a5⟩ := Fm.gr HW.out hg_w3; have A3 := (fun ob => cell_alloc ob a3); have A4 := (fun ob => cell_alloc ob a4); have A5 := (fun ob => cell_alloc ob a5))
    | (go_at_call 62; refine (HN.out _).mono ?_; rintro e w4 ⟨rfl, hg_w4⟩))
  go_returns
  exact ⟨rfl, kr⟩

section
attribute [local go_sem] undef
set_option maxRecDepth 100000 in
set_option maxHeartbeats 2000000 in
theorem implNext_wide (W : Int) (h0 : 4294967296 ≤ W) (h1 : W < 18446744073709551616) {w : World} (hw : Fm w) :
    Calls Tryd.prog 23 #[.int .i64 0, .int .u64 W] w fun e w' => e = .returned (.int .u64 2143289344) ∧ Gr w w' := by
  have HF : Hid (∀ w', Gr w w' → Calls Tryd.prog 34 #[.int .i64 0] w' fun e w'' => e = .returned (.tuple #[.agg #[.int .i64 24, .int .i64 (-126), .int .i64 127], .bool true]) ∧ Gr w' w'') := fun w' hg => formatOf_yes fmt32 mF32 (hw.gr hg)
  have HI : Hid (∀ w, Calls Tryd.prog 50 #[.agg #[.int .i64 24, .int .i64 (-126), .int .i64 127], .int .u64 W] w fun e w' => e = .returned (.bool false) ∧ Gr w w') := fun w => by
    have := fits_any mF32 W (by omega) h1 w
    rw [decide_eq_false (by omega)] at this; exact this
  have HN : Hid (∀ w, Calls Tryd.prog 62 #[.agg #[.int .i64 24, .int .i64 (-126), .int .i64 127]] w fun e w' => e = .returned (.int .u64 2143289344) ∧ Gr w w') := fun w => nan_any mF32 w
  clear hw
  go_enter Tryd.func23, Tryd.ntmps23
  go_wp2_with (go_at_call 34; refine (HF.out _ kr).mono ?_; rintro e w3 ⟨rfl, hg_w3⟩)
  first
    | (go_region_with (go_at_call 50; refine (HI.out _).mono ?_; rintro e w4 ⟨rfl, hg_w4⟩; have bm0 : w4.cell? ⟨w3.heap.size, 0, none⟩ = some (.int .i64 24) := kl; have bm1 : w4.cell? ⟨w3.heap.size, 1, none⟩ = some (.int .i64 (-126)) := kl; have bm2 : w4.cell? ⟨w3.heap.size, 2, none⟩ = some (.int .i64 127) := kl))
    | fail
  all_goals
    go_wp2_with (go_at_call 62; refine (HN.out _).mono ?_; rintro e w5 ⟨rfl, hg_w5⟩)
    go_returns
    exact ⟨rfl, kr⟩
end

/-- There is an answer. -/
theorem next_is {f p mx one inf sg nan : Int} (h : IsFmt f p mx one inf sg nan) (W : Int) (h0 : 0 ≤ W) (h1 : W < 2 * sg) : ∃ z, NextIs inf sg nan W z := by
  obtain ⟨b1, b2, b3, b4, b5, b6, b7, b8, b9, b10, b11, b12⟩ := h.bounds
  rcases (show (W = 0 ∨ W = sg) ∨ (inf < W ∧ W < sg ∨ sg + inf < W) ∨ W = inf ∨ (0 < W ∧ W < inf) ∨ (sg < W ∧ W ≤ sg + inf) by omega) with c | c | c | c | c
  · exact ⟨1, .inl ⟨c, rfl⟩⟩
  · exact ⟨nan, .inr (.inl ⟨c, rfl⟩)⟩
  · exact ⟨inf, .inr (.inr (.inl ⟨c, rfl⟩))⟩
  · exact ⟨W + 1, .inr (.inr (.inr (.inl ⟨c.1, c.2, rfl⟩)))⟩
  · exact ⟨W - 1, .inr (.inr (.inr (.inr ⟨c.1, c.2, rfl⟩)))⟩

end Go.Proofs.YtfakbjgbbcigpaaDoor
