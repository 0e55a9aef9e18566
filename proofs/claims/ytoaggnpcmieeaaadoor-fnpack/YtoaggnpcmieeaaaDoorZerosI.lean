/- spec.Zeros. -/
import Derived.Test.YtoaggnpcmieeaaaDoorA2
import Derived.Test.YtoaggnpcmieeaaaDoorSpecShift
set_option linter.unusedVariables false
set_option linter.unusedSimpArgs false
namespace Go.Proofs.YtoaggnpcmieeaaaDoor
open Go.RowKit

/-- spec.ShiftRight by one. -/
theorem specShr_one (X : Int) (x0 : 0 ≤ X) (x1 : X < 340282366920938463463374607431768211456) (w : World) :
    Calls Tryd.prog 66 #[.agg #[.int .u64 (X / 18446744073709551616), .int .u64 (X % 18446744073709551616)], .int .i64 1] w fun e w' => ∃ b : Bool, e = .returned (.tuple #[.agg #[.int .u64 (X / 2 / 18446744073709551616), .int .u64 (X / 2 % 18446744073709551616)], .bool b]) ∧ Gr w w' := by
  refine (specShr_any (X / 18446744073709551616) (X % 18446744073709551616) 1 (by omega) (by omega) (by omega) (by omega) w).mono ?_
  rintro e w' ⟨rfl, c1, c2, rfl⟩
  have e1 : (bnd 1).toNat = 1 := by decide
  have e2 : X / 18446744073709551616 * 18446744073709551616 + X % 18446744073709551616 = X := by omega
  refine ⟨_, ret_wb ?_ ?_ rfl, kr⟩
  · unfold shrHi; rw [e1, e2]; rfl
  · unfold shrLo; rw [e1, e2]; rfl

set_option maxHeartbeats 1000000 in
theorem specZeros_any (h l : Int) (h0 : 0 ≤ h) (l0 : 0 ≤ l) (h1 : h < 18446744073709551616) (l1 : l < 18446744073709551616) (w : World) :
    Calls Tryd.prog 48 #[.agg #[.int .u64 h, .int .u64 l]] w fun e w' => e = .returned (.int .i64 (zer h l)) ∧ Gr w w' := by
  have HZ : Hid _ := bl_zer h l h0 l0 h1 l1
  have hV := bl_le (h * 18446744073709551616 + l) (by omega) (by omega)
  go_enter Tryd.func48, Tryd.ntmps48
  go_wp2
  go_loopw [3] (fun i wr => ∃ (k X : Int), i = .int .i64 (128 - k) ∧ 0 ≤ k ∧ Hid (bl (h * 18446744073709551616 + l) = k + bl X) ∧ 0 ≤ X ∧ X < 340282366920938463463374607431768211456 ∧ Gr w wr ∧ wr.cell? ⟨w.heap.size, 0, none⟩ = some (.int .u64 (X / 18446744073709551616)) ∧ wr.cell? ⟨w.heap.size, 1, none⟩ = some (.int .u64 (X % 18446744073709551616)) ∧ wr.frozen? ⟨w.heap.size, 0, none⟩ = false ∧ wr.frozen? ⟨w.heap.size, 1, none⟩ = false) (fun i _ => (intOf i).toNat)
  case atStart =>
    have e1 : (h * 18446744073709551616 + l) / 18446744073709551616 = h := by omega
    have e2 : (h * 18446744073709551616 + l) % 18446744073709551616 = l := by omega
    refine ⟨0, h * 18446744073709551616 + l, by go_num, by omega, by show _ = _; omega, by omega, by omega, kr, ?_, ?_, ?_, ?_⟩
    · rw [e1]; (repeat' (first | (with_reducible assumption) | (with_reducible refine has_of (by with_reducible assumption)) | (with_reducible refine Gr.old (by with_reducible assumption) ?_) | (with_reducible refine cell_swap _ ?_ (by with_reducible assumption); omega) | (with_reducible refine cell_setSame ?_) | (with_reducible refine has_old (by with_reducible assumption) ?_) | (with_reducible refine has_set ?_) | (with_reducible refine cell_setOff ?_ ?_; omega) | (with_reducible refine cell_setNew ?_ ?_; (dsimp only; omega)) | (simp [go_sem]; done) | (simp [go_sem]; rfl) | (with_reducible refine cell_alloc _ ?_) | (with_reducible refine cell_drew ?_) | (with_reducible refine has_alloc _ ?_) | (with_reducible refine fz_old (by with_reducible assumption) ?_) | (with_reducible refine fz_alloc ?_) | (with_reducible refine fz_set ?_) | (with_reducible refine fz_drew ?_)))
    · rw [e2]; (repeat' (first | (with_reducible assumption) | (with_reducible refine has_of (by with_reducible assumption)) | (with_reducible refine Gr.old (by with_reducible assumption) ?_) | (with_reducible refine cell_swap _ ?_ (by with_reducible assumption); omega) | (with_reducible refine cell_setSame ?_) | (with_reducible refine has_old (by with_reducible assumption) ?_) | (with_reducible refine has_set ?_) | (with_reducible refine cell_setOff ?_ ?_; omega) | (with_reducible refine cell_setNew ?_ ?_; (dsimp only; omega)) | (simp [go_sem]; done) | (simp [go_sem]; rfl) | (with_reducible refine cell_alloc _ ?_) | (with_reducible refine cell_drew ?_) | (with_reducible refine has_alloc _ ?_) | (with_reducible refine fz_old (by with_reducible assumption) ?_) | (with_reducible refine fz_alloc ?_) | (with_reducible refine fz_set ?_) | (with_reducible refine fz_drew ?_)))
    · exact fz_alloc (fz_new (Nat.le_refl _))
    · exact fz_alloc (fz_new (Nat.le_refl _))
  case round =>
    obtain ⟨k, X, rfl, k0, HB, x0, x1, hgr, q0, q1, z0, z1⟩ := hrel
    have bX := bl_nonneg X
    have hk : k + bl X ≤ 128 := by have := HB.out; omega
    by_cases c1 : 0 < X / 18446744073709551616
    · have hh := bl_half X (by omega) x1
      have b2 := bl_nonneg (X / 2)
      have hk' : k ≤ 127 := by omega
      have HH : Hid _ := hh
      clear hh
      go_wp2_with (go_at_call 66; refine (specShr_one X x0 x1 _).mono ?_; rintro e w1 ⟨bb, rfl, hg_w1⟩; have r0 : w1.cell? ⟨w.heap.size, 0, none⟩ = some (.int .u64 (X / 18446744073709551616)) := kl; have r1 : w1.cell? ⟨w.heap.size, 1, none⟩ = some (.int .u64 (X % 18446744073709551616)) := kl; have y0 : w1.frozen? ⟨w.heap.size, 0, none⟩ = false := kl; have y1 : w1.frozen? ⟨w.heap.size, 1, none⟩ = false := kl)
      go_roundw
      case rel => exact ⟨k + 1, X / 2, by go_num, by omega, by show _ = _; rw [HB.out, HH.out]; omega, by omega, by omega, kr, kl, kl, kl, kl⟩
      case measure => simp [intOf]; omega
    · by_cases c2 : 0 < X % 18446744073709551616
      · have hh := bl_half X (by omega) x1
        have b2 := bl_nonneg (X / 2)
        have hk' : k ≤ 127 := by omega
        have HH : Hid _ := hh
        clear hh
        go_wp2_with (go_at_call 66; refine (specShr_one X x0 x1 _).mono ?_; rintro e w1 ⟨bb, rfl, hg_w1⟩; have r0 : w1.cell? ⟨w.heap.size, 0, none⟩ = some (.int .u64 (X / 18446744073709551616)) := kl; have r1 : w1.cell? ⟨w.heap.size, 1, none⟩ = some (.int .u64 (X % 18446744073709551616)) := kl; have y0 : w1.frozen? ⟨w.heap.size, 0, none⟩ = false := kl; have y1 : w1.frozen? ⟨w.heap.size, 1, none⟩ = false := kl)
        go_roundw
        case rel => exact ⟨k + 1, X / 2, by go_num, by omega, by show _ = _; rw [HB.out, HH.out]; omega, by omega, by omega, kr, kl, kl, kl, kl⟩
        case measure => simp [intOf]; omega
      · have hX : X = 0 := by omega
        have hfin : 128 - k = zer h l := by
          have e := HB.out
          rw [hX, bl_zero] at e
          rw [HZ.out]; omega
        have HF : Hid _ := hfin
        clear hfin hX
        go_wp2
        go_returns
        exact ⟨ret_congr (congrArg (Value.int IntKind.i64) HF.out), hgr⟩

end Go.Proofs.YtoaggnpcmieeaaaDoor
