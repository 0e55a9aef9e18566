/- spec.Sub. -/
import Derived.Test.YtopdeojgchagnaaDoorL3V
import Derived.Test.YtopdeojgchagnaaDoorL3Tn
set_option linter.unusedVariables false
set_option linter.unusedSimpArgs false
namespace Go.Proofs.YtopdeojgchagnaaDoor
open Go.RowKit

set_option maxRecDepth 100000 in
set_option maxHeartbeats 2000000 in
theorem sSub_bad (f mode a b : Int) (HF : Hid (∀ w, Calls Tryd.prog 22 #[.int .i64 f, .int .i64 mode, .int .u64 a, .int .u64 b] w fun e w' => e = .returned (.bool false) ∧ w = w')) (z fl : Int) (HL : Hid (∀ w, Calls Tryd.prog 23 #[.int .i64 f] w fun e w' => e = .returned (.agg #[.int .u64 z, .int .i64 fl]) ∧ Gr w w')) (w : World) :
    Calls Tryd.prog 20 #[.int .i64 f, .int .i64 mode, .int .u64 a, .int .u64 b] w fun e w' => e = .returned (.agg #[.int .u64 z, .int .i64 fl]) ∧ Gb w w' := by
  go_enter Tryd.func20, Tryd.ntmps20
  go_wp2_with (first
    | (go_at_call 22; refine (HF.out _).mono ?_; rintro e wk ⟨rfl, hw⟩; subst hw)
    | (go_at_call 23; refine (HL.out _).mono ?_; rintro e w9 ⟨rfl, hg_w9⟩; have zr0 : w9.cell? ⟨w.heap.size, 0, none⟩ = some (.int .u64 0) := hg_w9.c; have zrz0 : w9.frozen? ⟨w.heap.size, 0, none⟩ = false := hg_w9.z; have zr1 : w9.cell? ⟨w.heap.size, 1, none⟩ = some (.int .i64 0) := hg_w9.c; have zrz1 : w9.frozen? ⟨w.heap.size, 1, none⟩ = false := hg_w9.z))
  refine bodyPost_ret (v := .agg #[.int .u64 z, .int .i64 fl]) (by simp [results, Tryd.results20, go_sem, zr0, zr1]) rfl ⟨rfl, ?_⟩
  exact Gb.g

set_option maxRecDepth 100000 in
set_option maxHeartbeats 2000000 in
theorem sSub_ok (f mode a b b' : Int) (HF : Hid (∀ w, Calls Tryd.prog 22 #[.int .i64 f, .int .i64 mode, .int .u64 a, .int .u64 b] w fun e w' => e = .returned (.bool true) ∧ w = w')) (HT : Hid (∀ w, Calls Tryd.prog 52 #[.int .i64 f, .int .u64 b] w fun e w' => e = .returned (.int .u64 b') ∧ w = w')) (Q : Int → Int → Prop) (HA : Hid (∀ w, Calls Tryd.prog 16 #[.int .i64 f, .int .i64 mode, .int .u64 a, .int .u64 b'] w fun e w' => ∃ z fl, Q z fl ∧ e = .returned (.agg #[.int .u64 z, .int .i64 fl]) ∧ Gb w w')) (w : World) :
    Calls Tryd.prog 20 #[.int .i64 f, .int .i64 mode, .int .u64 a, .int .u64 b] w fun e w' => ∃ z fl, Q z fl ∧ e = .returned (.agg #[.int .u64 z, .int .i64 fl]) ∧ Gb w w' := by
  go_enter Tryd.func20, Tryd.ntmps20
  go_wp2_with (first
    | (go_at_call 22; refine (HF.out _).mono ?_; rintro e wk ⟨rfl, hw⟩; subst hw)
    | (go_at_call 52; refine (HT.out _).mono ?_; rintro e wk ⟨rfl, hw⟩; subst hw)
    | (go_at_call 16; refine (HA.out _).mono ?_; rintro e w9 ⟨z, fl, hq, rfl, hg_w9⟩; have zr0 : w9.cell? ⟨w.heap.size, 0, none⟩ = some (.int .u64 0) := hg_w9.c; have zrz0 : w9.frozen? ⟨w.heap.size, 0, none⟩ = false := hg_w9.z zr0; have zr1 : w9.cell? ⟨w.heap.size, 1, none⟩ = some (.int .i64 0) := hg_w9.c; have zrz1 : w9.frozen? ⟨w.heap.size, 1, none⟩ = false := hg_w9.z zr1))
  refine bodyPost_ret (v := .agg #[.int .u64 z, .int .i64 fl]) (by simp [results, Tryd.results20, go_sem, zr0, zr1]) rfl ⟨z, fl, hq, rfl, ?_⟩
  exact Gb.g
end Go.Proofs.YtopdeojgchagnaaDoor
