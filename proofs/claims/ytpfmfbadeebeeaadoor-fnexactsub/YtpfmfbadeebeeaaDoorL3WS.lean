/- spec.Sub. -/
import Derived.Test.YtpfmfbadeebeeaaDoorL3V
set_option linter.unusedVariables false
set_option linter.unusedSimpArgs false
namespace Go.Proofs.YtpfmfbadeebeeaaDoor
open Go.RowKit

set_option maxRecDepth 100000 in
set_option maxHeartbeats 2000000 in
theorem l3Turned_any {f p mx one inf sg nan : Int} (h : IsFmt f p mx one inf sg nan) (v z : Int) (v0 : 0 ≤ v) (v1 : v < 2 * sg) (hz : v < sg ∧ z = v + sg ∨ sg ≤ v ∧ z = v - sg) (w : World) :
    Calls Tryd.prog 62 #[.int .i64 f, .int .u64 v] w fun e w' => e = .returned (.int .u64 z) ∧ w = w' := by
  have hb := h.bounds
  have HS : Hid (∀ w, Calls Tryd.prog 25 #[.int .i64 f] w fun e w' => e = .returned (.int .u64 sg) ∧ w = w') := fun w => l2Sign_any h w
  have hc : (v < sg ∧ IntKind.u64.wrap (v + sg) = z) ∨ (sg ≤ v ∧ IntKind.u64.wrap (v - sg) = z) := by
    rcases hz with ⟨a, rfl⟩ | ⟨a, rfl⟩
    · exact .inl ⟨a, by rw [IntKind.wrap_u64]; omega⟩
    · exact .inr ⟨a, by rw [IntKind.wrap_u64]; omega⟩
  clear h hz hb
  rcases hc with ⟨c, u1⟩ | ⟨c, u1⟩
  all_goals
    go_enter Tryd.func62, Tryd.ntmps62
    go_wp2_with (go_at_call 25; refine (HS.out _).mono ?_; rintro x wk ⟨rfl, hw⟩; subst hw)
    go_returns
    exact ⟨ret_congr (by first | rfl | (simp; omega) | (rw [u1])), rfl⟩

set_option maxRecDepth 100000 in
set_option maxHeartbeats 2000000 in
theorem sSub_bad (f mode a b : Int) (HF : Hid (∀ w, Calls Tryd.prog 50 #[.int .i64 f, .int .i64 mode, .int .u64 a, .int .u64 b] w fun e w' => e = .returned (.bool false) ∧ w = w')) (z fl : Int) (HL : Hid (∀ w, Calls Tryd.prog 41 #[.int .i64 f] w fun e w' => e = .returned (.agg #[.int .u64 z, .int .i64 fl]) ∧ Gr w w')) (w : World) :
    Calls Tryd.prog 22 #[.int .i64 f, .int .i64 mode, .int .u64 a, .int .u64 b] w fun e w' => e = .returned (.agg #[.int .u64 z, .int .i64 fl]) ∧ Gb w w' := by
  go_enter Tryd.func22, Tryd.ntmps22
  go_wp2_with (first
    | (go_at_call 50; refine (HF.out _).mono ?_; rintro e wk ⟨rfl, hw⟩; subst hw)
    | (go_at_call 41; refine (HL.out _).mono ?_; rintro e w9 ⟨rfl, hg_w9⟩; have zr0 : w9.cell? ⟨w.heap.size, 0, none⟩ = some (.int .u64 0) := hg_w9.c; have zrz0 : w9.frozen? ⟨w.heap.size, 0, none⟩ = false := hg_w9.z; have zr1 : w9.cell? ⟨w.heap.size, 1, none⟩ = some (.int .i64 0) := hg_w9.c; have zrz1 : w9.frozen? ⟨w.heap.size, 1, none⟩ = false := hg_w9.z))
  refine bodyPost_ret (v := .agg #[.int .u64 z, .int .i64 fl]) (by simp [results, Tryd.results22, go_sem, zr0, zr1]) rfl ⟨rfl, ?_⟩
  exact Gb.g

set_option maxRecDepth 100000 in
set_option maxHeartbeats 2000000 in
theorem sSub_ok (f mode a b b' : Int) (HF : Hid (∀ w, Calls Tryd.prog 50 #[.int .i64 f, .int .i64 mode, .int .u64 a, .int .u64 b] w fun e w' => e = .returned (.bool true) ∧ w = w')) (HT : Hid (∀ w, Calls Tryd.prog 62 #[.int .i64 f, .int .u64 b] w fun e w' => e = .returned (.int .u64 b') ∧ w = w')) (Q : Int → Int → Prop) (HA : Hid (∀ w, Calls Tryd.prog 18 #[.int .i64 f, .int .i64 mode, .int .u64 a, .int .u64 b'] w fun e w' => ∃ z fl, Q z fl ∧ e = .returned (.agg #[.int .u64 z, .int .i64 fl]) ∧ Gb w w')) (w : World) :
    Calls Tryd.prog 22 #[.int .i64 f, .int .i64 mode, .int .u64 a, .int .u64 b] w fun e w' => ∃ z fl, Q z fl ∧ e = .returned (.agg #[.int .u64 z, .int .i64 fl]) ∧ Gb w w' := by
  go_enter Tryd.func22, Tryd.ntmps22
  go_wp2_with (first
    | (go_at_call 50; refine (HF.out _).mono ?_; rintro e wk ⟨rfl, hw⟩; subst hw)
    | (go_at_call 62; refine (HT.out _).mono ?_; rintro e wk ⟨rfl, hw⟩; subst hw)
    | (go_at_call 18; refine (HA.out _).mono ?_; rintro e w9 ⟨z, fl, hq, rfl, hg_w9⟩; have zr0 : w9.cell? ⟨w.heap.size, 0, none⟩ = some (.int .u64 0) := hg_w9.c; have zrz0 : w9.frozen? ⟨w.heap.size, 0, none⟩ = false := hg_w9.z zr0; have zr1 : w9.cell? ⟨w.heap.size, 1, none⟩ = some (.int .i64 0) := hg_w9.c; have zrz1 : w9.frozen? ⟨w.heap.size, 1, none⟩ = false := hg_w9.z zr1))
  refine bodyPost_ret (v := .agg #[.int .u64 z, .int .i64 fl]) (by simp [results, Tryd.results22, go_sem, zr0, zr1]) rfl ⟨z, fl, hq, rfl, ?_⟩
  exact Gb.g
end Go.Proofs.YtpfmfbadeebeeaaDoor
