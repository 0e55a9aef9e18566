/- spec.SqrtWide. -/
import Derived.Test.YtmcbciaeibfgpaaRootMath
import Derived.Test.YtmcbciaeibfgpaaMul
import Derived.Test.YtmcbciaeibfgpaaLess
import Derived.Test.YtmcbciaeibfgpaaEqW
set_option linter.unusedVariables false
set_option linter.unusedSimpArgs false
namespace Go.Proofs.Ytmcbciaeibfgpaa
open Go.RowKit

theorem mulsq_bounds (x : Int) (hx0 : 0 ≤ x) (hx : x < 18446744073709551616) : 0 ≤ x * x / 18446744073709551616 ∧ x * x / 18446744073709551616 < 18446744073709551616 := by
  have h1 : 0 ≤ x * x := Int.mul_nonneg hx0 hx0
  have h2 : x * x ≤ 18446744073709551615 * 18446744073709551615 := Int.mul_le_mul (by omega) (by omega) hx0 (by omega)
  generalize x * x = p at *
  omega

theorem lt_sq (h l g : Int) (l0 : 0 ≤ l) (l1 : l < 18446744073709551616) : lt2 h l (g * g / 18446744073709551616) (g * g % 18446744073709551616) = decide (h * 18446744073709551616 + l < g * g) := by
  rw [lt2_iff _ _ _ _ l0 (by omega) l1 (by omega), show g * g / 18446744073709551616 * 18446744073709551616 + g * g % 18446744073709551616 = g * g by omega]

set_option maxHeartbeats 1000000 in
theorem specSqrt_any (h l : Int) (h0 : 0 ≤ h) (h1 : h < 18446744073709551616) (l0 : 0 ≤ l) (l1 : l < 18446744073709551616) (w : World) :
    Calls Try.prog 26 #[.agg #[.int .u64 h, .int .u64 l]] w fun e w' => ∃ r, IsRoot (h * 18446744073709551616 + l) r ∧ e = .returned (.tuple #[.int .u64 r, .bool (inex r h l)]) ∧ Gr w w' := by
  go_enter Try.func26, Try.ntmps26
  go_wp2
  go_loopw [4, 5] (fun s b wr => ∃ (e : Nat) (r bt : Int), s = .int .u64 r ∧ b = .int .u64 bt ∧ Hid (BitAt e bt) ∧ e ≤ 64 ∧ 0 ≤ r ∧ r < 18446744073709551616 ∧ 0 ≤ bt ∧ r + 2 * bt ≤ 18446744073709551616 ∧ Hid (Between (h * 18446744073709551616 + l) r (2 ^ e)) ∧ Gr w wr ∧ wr.cell? ⟨w.heap.size, 0, none⟩ = some (.int .u64 h) ∧ wr.cell? ⟨w.heap.size, 1, none⟩ = some (.int .u64 l)) (fun _ b _ => (intOf b).toNat)
  case atStart =>
    refine ⟨64, 0, 9223372036854775808, rfl, rfl, .inr ⟨63, rfl, by decide⟩, by omega, by omega, by omega, by omega, by omega, ?_, by (repeat' (first | (with_reducible assumption) | (with_reducible exact Gr.refl _) | (with_reducible refine Gr.alloc ?_ _ _) | (with_reducible refine Gr.drew ?_) | (with_reducible refine Gr.setCell ?_ ?_ _) | (with_reducible refine Gr.trans ?_ (by with_reducible assumption)) | go_size)), by (repeat' (first | (with_reducible assumption) | (with_reducible refine has_of (by with_reducible assumption)) | (with_reducible refine Gr.old (by with_reducible assumption) ?_) | (with_reducible refine cell_swap _ ?_ (by with_reducible assumption); omega) | (with_reducible refine cell_setSame ?_) | (with_reducible refine has_old (by with_reducible assumption) ?_) | (with_reducible refine has_set ?_) | (with_reducible refine cell_setOff ?_ ?_; omega) | (with_reducible refine cell_setNew ?_ ?_; (dsimp only; omega)) | (simp [go_sem]; done) | (simp [go_sem]; rfl) | (with_reducible refine cell_alloc _ ?_) | (with_reducible refine cell_drew ?_) | (with_reducible refine has_alloc _ ?_) | (with_reducible refine fz_old (by with_reducible assumption) ?_) | (with_reducible refine fz_alloc ?_) | (with_reducible refine fz_set ?_) | (with_reducible refine fz_drew ?_))), by (repeat' (first | (with_reducible assumption) | (with_reducible refine has_of (by with_reducible assumption)) | (with_reducible refine Gr.old (by with_reducible assumption) ?_) | (with_reducible refine cell_swap _ ?_ (by with_reducible assumption); omega) | (with_reducible refine cell_setSame ?_) | (with_reducible refine has_old (by with_reducible assumption) ?_) | (with_reducible refine has_set ?_) | (with_reducible refine cell_setOff ?_ ?_; omega) | (with_reducible refine cell_setNew ?_ ?_; (dsimp only; omega)) | (simp [go_sem]; done) | (simp [go_sem]; rfl) | (with_reducible refine cell_alloc _ ?_) | (with_reducible refine cell_drew ?_) | (with_reducible refine has_alloc _ ?_) | (with_reducible refine fz_old (by with_reducible assumption) ?_) | (with_reducible refine fz_alloc ?_) | (with_reducible refine fz_set ?_) | (with_reducible refine fz_drew ?_)))⟩
    exact Between.start _ (by omega) (by omega)
  case round =>
    obtain ⟨e, r, bt, rfl, rfl, HE, he, r0, r1, b0, hrb, HB, hgr, q0, q1⟩ := hrel
    by_cases hb : 0 < bt
    · have hg0 : 0 ≤ r + bt := by omega
      have hg1 : r + bt < 18446744073709551616 := by omega
      have hwr : IntKind.u64.wrap (r + bt) = r + bt := by rw [IntKind.wrap_u64]; omega
      have hlt := lt_sq h l (r + bt) l0 l1
      obtain ⟨m0, m1⟩ := mulsq_bounds (r + bt) hg0 hg1
      obtain ⟨k, hk, hb2, hn0, st⟩ := root_step HB.out HE.out hb
      have hn : Hid _ := hn0
      have hk' : k ≤ 64 := by omega
      clear hk hb2 hn0
      by_cases hc : h * 18446744073709551616 + l < (r + bt) * (r + bt)
      · rw [decide_eq_true hc] at hlt
        have HC : Hid _ := st.1 hc
        clear hc
        go_wp2
        go_region_held3 (fun w' => w'.cell? ⟨w.heap.size, 0, none⟩ = some (.int .u64 h) ∧ w'.cell? ⟨w.heap.size, 1, none⟩ = some (.int .u64 l))
          ((go_split_ands; (repeat' apply And.intro) <;> (repeat' (first | (with_reducible assumption) | (with_reducible refine has_of (by with_reducible assumption)) | (with_reducible refine Gr.old (by with_reducible assumption) ?_) | (with_reducible refine cell_swap _ ?_ (by with_reducible assumption); omega) | (with_reducible refine cell_setSame ?_) | (with_reducible refine has_old (by with_reducible assumption) ?_) | (with_reducible refine has_set ?_) | (with_reducible refine cell_setOff ?_ ?_; omega) | (with_reducible refine cell_setNew ?_ ?_; (dsimp only; omega)) | (simp [go_sem]; done) | (simp [go_sem]; rfl) | (with_reducible refine cell_alloc _ ?_) | (with_reducible refine cell_drew ?_) | (with_reducible refine has_alloc _ ?_) | (with_reducible refine fz_old (by with_reducible assumption) ?_) | (with_reducible refine fz_alloc ?_) | (with_reducible refine fz_set ?_) | (with_reducible refine fz_drew ?_)))))
          (first
            | (go_at_call 12; refine (specMul_int _ _ hg0 hg1 hg0 hg1 _).mono ?_; rintro e w1 ⟨rfl, c, hw1⟩; have hg_w1 : Gr _ w1 := (by rw [hw1]; exact (Gr.refl _).alloc _ _); clear hw1)
            | (go_at_call 42; refine (less_any h l _ _ h0 l0 l1 m0 (by omega) (by omega) _).mono ?_; rw [hlt]; rintro e w2 ⟨rfl, c1, c2, hw2⟩; have hg_w2 : Gr _ w2 := (by rw [hw2]; exact ((Gr.refl _).alloc _ _).alloc _ _); clear hw2))
        go_wp2
        go_roundw
        case rel => exact ⟨k, r, bt / 2, rfl, rfl, hn, by omega, by omega, by omega, by omega, by omega, HC, by (repeat' (first | (with_reducible assumption) | (with_reducible exact Gr.refl _) | (with_reducible refine Gr.alloc ?_ _ _) | (with_reducible refine Gr.drew ?_) | (with_reducible refine Gr.setCell ?_ ?_ _) | (with_reducible refine Gr.trans ?_ (by with_reducible assumption)) | go_size)), by (repeat' (first | (with_reducible assumption) | (with_reducible refine has_of (by with_reducible assumption)) | (with_reducible refine Gr.old (by with_reducible assumption) ?_) | (with_reducible refine cell_swap _ ?_ (by with_reducible assumption); omega) | (with_reducible refine cell_setSame ?_) | (with_reducible refine has_old (by with_reducible assumption) ?_) | (with_reducible refine has_set ?_) | (with_reducible refine cell_setOff ?_ ?_; omega) | (with_reducible refine cell_setNew ?_ ?_; (dsimp only; omega)) | (simp [go_sem]; done) | (simp [go_sem]; rfl) | (with_reducible refine cell_alloc _ ?_) | (with_reducible refine cell_drew ?_) | (with_reducible refine has_alloc _ ?_) | (with_reducible refine fz_old (by with_reducible assumption) ?_) | (with_reducible refine fz_alloc ?_) | (with_reducible refine fz_set ?_) | (with_reducible refine fz_drew ?_))), by (repeat' (first | (with_reducible assumption) | (with_reducible refine has_of (by with_reducible assumption)) | (with_reducible refine Gr.old (by with_reducible assumption) ?_) | (with_reducible refine cell_swap _ ?_ (by with_reducible assumption); omega) | (with_reducible refine cell_setSame ?_) | (with_reducible refine has_old (by with_reducible assumption) ?_) | (with_reducible refine has_set ?_) | (with_reducible refine cell_setOff ?_ ?_; omega) | (with_reducible refine cell_setNew ?_ ?_; (dsimp only; omega)) | (simp [go_sem]; done) | (simp [go_sem]; rfl) | (with_reducible refine cell_alloc _ ?_) | (with_reducible refine cell_drew ?_) | (with_reducible refine has_alloc _ ?_) | (with_reducible refine fz_old (by with_reducible assumption) ?_) | (with_reducible refine fz_alloc ?_) | (with_reducible refine fz_set ?_) | (with_reducible refine fz_drew ?_)))⟩
        case measure => simp [intOf]; omega
      · rw [decide_eq_false hc] at hlt
        have HC : Hid _ := st.2 hc
        clear hc
        go_wp2
        go_region_held3 (fun w' => w'.cell? ⟨w.heap.size, 0, none⟩ = some (.int .u64 h) ∧ w'.cell? ⟨w.heap.size, 1, none⟩ = some (.int .u64 l))
          ((go_split_ands; (repeat' apply And.intro) <;> (repeat' (first | (with_reducible assumption) | (with_reducible refine has_of (by with_reducible assumption)) | (with_reducible refine Gr.old (by with_reducible assumption) ?_) | (with_reducible refine cell_swap _ ?_ (by with_reducible assumption); omega) | (with_reducible refine cell_setSame ?_) | (with_reducible refine has_old (by with_reducible assumption) ?_) | (with_reducible refine has_set ?_) | (with_reducible refine cell_setOff ?_ ?_; omega) | (with_reducible refine cell_setNew ?_ ?_; (dsimp only; omega)) | (simp [go_sem]; done) | (simp [go_sem]; rfl) | (with_reducible refine cell_alloc _ ?_) | (with_reducible refine cell_drew ?_) | (with_reducible refine has_alloc _ ?_) | (with_reducible refine fz_old (by with_reducible assumption) ?_) | (with_reducible refine fz_alloc ?_) | (with_reducible refine fz_set ?_) | (with_reducible refine fz_drew ?_)))))
          (first
            | (go_at_call 12; refine (specMul_int _ _ hg0 hg1 hg0 hg1 _).mono ?_; rintro e w1 ⟨rfl, c, hw1⟩; have hg_w1 : Gr _ w1 := (by rw [hw1]; exact (Gr.refl _).alloc _ _); clear hw1)
            | (go_at_call 42; refine (less_any h l _ _ h0 l0 l1 m0 (by omega) (by omega) _).mono ?_; rw [hlt]; rintro e w2 ⟨rfl, c1, c2, hw2⟩; have hg_w2 : Gr _ w2 := (by rw [hw2]; exact ((Gr.refl _).alloc _ _).alloc _ _); clear hw2))
        go_wp2
        go_roundw
        case rel => exact ⟨k, r + bt, bt / 2, rfl, rfl, hn, by omega, by omega, by omega, by omega, by omega, HC, by (repeat' (first | (with_reducible assumption) | (with_reducible exact Gr.refl _) | (with_reducible refine Gr.alloc ?_ _ _) | (with_reducible refine Gr.drew ?_) | (with_reducible refine Gr.setCell ?_ ?_ _) | (with_reducible refine Gr.trans ?_ (by with_reducible assumption)) | go_size)), by (repeat' (first | (with_reducible assumption) | (with_reducible refine has_of (by with_reducible assumption)) | (with_reducible refine Gr.old (by with_reducible assumption) ?_) | (with_reducible refine cell_swap _ ?_ (by with_reducible assumption); omega) | (with_reducible refine cell_setSame ?_) | (with_reducible refine has_old (by with_reducible assumption) ?_) | (with_reducible refine has_set ?_) | (with_reducible refine cell_setOff ?_ ?_; omega) | (with_reducible refine cell_setNew ?_ ?_; (dsimp only; omega)) | (simp [go_sem]; done) | (simp [go_sem]; rfl) | (with_reducible refine cell_alloc _ ?_) | (with_reducible refine cell_drew ?_) | (with_reducible refine has_alloc _ ?_) | (with_reducible refine fz_old (by with_reducible assumption) ?_) | (with_reducible refine fz_alloc ?_) | (with_reducible refine fz_set ?_) | (with_reducible refine fz_drew ?_))), by (repeat' (first | (with_reducible assumption) | (with_reducible refine has_of (by with_reducible assumption)) | (with_reducible refine Gr.old (by with_reducible assumption) ?_) | (with_reducible refine cell_swap _ ?_ (by with_reducible assumption); omega) | (with_reducible refine cell_setSame ?_) | (with_reducible refine has_old (by with_reducible assumption) ?_) | (with_reducible refine has_set ?_) | (with_reducible refine cell_setOff ?_ ?_; omega) | (with_reducible refine cell_setNew ?_ ?_; (dsimp only; omega)) | (simp [go_sem]; done) | (simp [go_sem]; rfl) | (with_reducible refine cell_alloc _ ?_) | (with_reducible refine cell_drew ?_) | (with_reducible refine has_alloc _ ?_) | (with_reducible refine fz_old (by with_reducible assumption) ?_) | (with_reducible refine fz_alloc ?_) | (with_reducible refine fz_set ?_) | (with_reducible refine fz_drew ?_)))⟩
        case measure => simp [intOf]; omega
    · have hR := root_end HB.out HE.out hb r0 r1
      have HR : Hid _ := hR
      clear hR
      have hb' : bt = 0 := by omega
      subst hb'
      obtain ⟨m0, m1⟩ := mulsq_bounds r r0 r1
      obtain ⟨Q, hQ⟩ : ∃ Q, Q = (r * r / 18446744073709551616 == h && r * r % 18446744073709551616 == l) := ⟨_, rfl⟩
      have hq := eqWideS (r * r / 18446744073709551616) (r * r % 18446744073709551616) h l
      rw [← hQ] at hq
      have HQ : Hid _ := hQ
      clear hQ
      go_wp2
      go_region_held3 (fun w' => w'.cell? ⟨w.heap.size, 0, none⟩ = some (.int .u64 h) ∧ w'.cell? ⟨w.heap.size, 1, none⟩ = some (.int .u64 l))
        ((go_split_ands; (repeat' apply And.intro) <;> (repeat' (first | (with_reducible assumption) | (with_reducible refine has_of (by with_reducible assumption)) | (with_reducible refine Gr.old (by with_reducible assumption) ?_) | (with_reducible refine cell_swap _ ?_ (by with_reducible assumption); omega) | (with_reducible refine cell_setSame ?_) | (with_reducible refine has_old (by with_reducible assumption) ?_) | (with_reducible refine has_set ?_) | (with_reducible refine cell_setOff ?_ ?_; omega) | (with_reducible refine cell_setNew ?_ ?_; (dsimp only; omega)) | (simp [go_sem]; done) | (simp [go_sem]; rfl) | (with_reducible refine cell_alloc _ ?_) | (with_reducible refine cell_drew ?_) | (with_reducible refine has_alloc _ ?_) | (with_reducible refine fz_old (by with_reducible assumption) ?_) | (with_reducible refine fz_alloc ?_) | (with_reducible refine fz_set ?_) | (with_reducible refine fz_drew ?_)))))
        ((go_at_call 12; refine (specMul_int _ _ r0 r1 r0 r1 _).mono ?_; rintro e w1 ⟨rfl, c, hw1⟩; have hg_w1 : Gr _ w1 := (by rw [hw1]; exact (Gr.refl _).alloc _ _); clear hw1))
      go_wp2
      go_returns
      exact ⟨r, HR.out, by rw [HQ.out]; rfl, by (repeat' (first | (with_reducible assumption) | (with_reducible exact Gr.refl _) | (with_reducible refine Gr.alloc ?_ _ _) | (with_reducible refine Gr.drew ?_) | (with_reducible refine Gr.setCell ?_ ?_ _) | (with_reducible refine Gr.trans ?_ (by with_reducible assumption)) | go_size))⟩
end Go.Proofs.Ytmcbciaeibfgpaa
