/- impl's settings. -/
import Derived.Test.YtkflpogmhailhaaGreatDoorRPRdW
import Derived.Test.YtkflpogmhailhaaGreatDoorA7
set_option linter.unusedVariables false
set_option linter.unusedSimpArgs false
namespace Go.Proofs.YtkflpogmhailhaaGreatDoor
open Go.RowKit

theorem m64 : IsM 53 (-1022) 1023 52 63 4503599627370496 9218868437227405312 9223372036854775808 9221120237041090560 := .inr ⟨rfl, rfl, rfl, rfl, rfl, rfl, rfl, rfl, rfl⟩

set_option maxRecDepth 100000 in
set_option maxHeartbeats 4000000 in
theorem settingOf_none (f mode : Int) (hf : ¬ (f = 0 ∨ f = 1)) {w : World} (hw : Fm w) :
    Calls Tryz.prog 69 #[.int .i64 f, .int .i64 mode] w fun x w' => x = .returned (.tuple #[.agg #[.int .i64 53, .int .i64 (-1022), .int .i64 1023, .int .i64 0, Value.nilFunc], .bool false]) ∧ Gr w w' := by
  have HF : Hid (∀ w', Calls Tryz.prog 52 #[.int .i64 f] w' fun e w'' => e = .returned (.tuple #[.agg #[.int .i64 0, .int .i64 0, .int .i64 0], .bool false]) ∧ Gr w' w'') := fun w' => formatOf_no f hf w'
  have HW : Hid (∀ w', Gr w w' → Fm w') := fun w' hg => hw.gr hg
  clear hf hw
  go_enter Tryz.func69, Tryz.ntmps69
  go_wp2_with (go_at_call 52; refine (HF.out _).mono ?_; rintro x w1 ⟨rfl, hg_w1⟩; obtain ⟨a0, a1, a2, a3, a4, a5⟩ := HW.out w1 Gr.g; have A3 := (fun ob => cell_alloc ob a3); have A4 := (fun ob => cell_alloc ob a4); have A5 := (fun ob => cell_alloc ob a5); have ar0 : w1.cell? ⟨w.heap.size, 0, none⟩ = some (.int .i64 0) := hg_w1.c; have arz0 : w1.frozen? ⟨w.heap.size, 0, none⟩ = false := hg_w1.z; have arA0 := (fun ob => cell_alloc ob ar0); have arB0 : ∀ c t, (w1.alloc (.cells c t)).frozen? ⟨w.heap.size, 0, none⟩ = false := (fun c t => fz_alloc arz0); have ar1 : w1.cell? ⟨w.heap.size, 1, none⟩ = some (.int .i64 0) := hg_w1.c; have arz1 : w1.frozen? ⟨w.heap.size, 1, none⟩ = false := hg_w1.z; have arA1 := (fun ob => cell_alloc ob ar1); have arB1 : ∀ c t, (w1.alloc (.cells c t)).frozen? ⟨w.heap.size, 1, none⟩ = false := (fun c t => fz_alloc arz1); have ar2 : w1.cell? ⟨w.heap.size, 2, none⟩ = some (.int .i64 0) := hg_w1.c; have arz2 : w1.frozen? ⟨w.heap.size, 2, none⟩ = false := hg_w1.z; have arA2 := (fun ob => cell_alloc ob ar2); have arB2 : ∀ c t, (w1.alloc (.cells c t)).frozen? ⟨w.heap.size, 2, none⟩ = false := (fun c t => fz_alloc arz2); have ar3 : w1.cell? ⟨w.heap.size, 3, none⟩ = some (.int .i64 0) := hg_w1.c; have arz3 : w1.frozen? ⟨w.heap.size, 3, none⟩ = false := hg_w1.z; have arA3 := (fun ob => cell_alloc ob ar3); have arB3 : ∀ c t, (w1.alloc (.cells c t)).frozen? ⟨w.heap.size, 3, none⟩ = false := (fun c t => fz_alloc arz3); have ar4 : w1.cell? ⟨w.heap.size, 4, none⟩ = some (Value.nilFunc) := hg_w1.c; have arz4 : w1.frozen? ⟨w.heap.size, 4, none⟩ = false := hg_w1.z; have arA4 := (fun ob => cell_alloc ob ar4); have arB4 : ∀ c t, (w1.alloc (.cells c t)).frozen? ⟨w.heap.size, 4, none⟩ = false := (fun c t => fz_alloc arz4))
  refine bodyPost_ret (v := .tuple #[.agg #[.int .i64 53, .int .i64 (-1022), .int .i64 1023, .int .i64 0, Value.nilFunc], .bool false]) (by simp [results, Tryz.results69, go_sem, arA0, arA1, arA2, arA3, arA4]) rfl ⟨rfl, ?_⟩
  exact Gr.g


set_option maxRecDepth 100000 in
set_option maxHeartbeats 4000000 in
theorem settingOf_yes {f p mx one inf sg nan mn fb sp : Int} (h : IsFmt f p mx one inf sg nan) (hm : IsM p mn mx fb sp one inf sg nan) (mode : Int) (k : Nat) (HR : Hid (∀ w, Calls Tryz.prog 113 #[.int .i64 mode] w fun x w' => x = .returned (.tuple #[.func (.func k) #[] #[], .bool true]) ∧ Gr w w')) {w : World} (hw : Fm w) :
    Calls Tryz.prog 69 #[.int .i64 f, .int .i64 mode] w fun x w' => x = .returned (.tuple #[.agg #[.int .i64 p, .int .i64 mn, .int .i64 mx, .int .i64 mode, .func (.func k) #[] #[]], .bool true]) ∧ Gr w w' := by
  have HF : Hid (∀ w', Gr w w' → Calls Tryz.prog 52 #[.int .i64 f] w' fun x w'' => x = .returned (.tuple #[.agg #[.int .i64 p, .int .i64 mn, .int .i64 mx], .bool true]) ∧ Gr w' w'') := fun w' hg => formatOf_yes h hm (hw.gr hg)
  clear h hm hw
  go_enter Tryz.func69, Tryz.ntmps69
  go_wp2_with (first
    | (go_at_call 52; refine (HF.out _ Gr.g).mono ?_; rintro x w1 ⟨rfl, hg_w1⟩; have ar0 : w1.cell? ⟨w.heap.size, 0, none⟩ = some (.int .i64 0) := hg_w1.c; have arz0 : w1.frozen? ⟨w.heap.size, 0, none⟩ = false := hg_w1.z; have ar1 : w1.cell? ⟨w.heap.size, 1, none⟩ = some (.int .i64 0) := hg_w1.c; have arz1 : w1.frozen? ⟨w.heap.size, 1, none⟩ = false := hg_w1.z; have ar2 : w1.cell? ⟨w.heap.size, 2, none⟩ = some (.int .i64 0) := hg_w1.c; have arz2 : w1.frozen? ⟨w.heap.size, 2, none⟩ = false := hg_w1.z; have ar3 : w1.cell? ⟨w.heap.size, 3, none⟩ = some (.int .i64 0) := hg_w1.c; have arz3 : w1.frozen? ⟨w.heap.size, 3, none⟩ = false := hg_w1.z; have ar4 : w1.cell? ⟨w.heap.size, 4, none⟩ = some (Value.nilFunc) := hg_w1.c; have arz4 : w1.frozen? ⟨w.heap.size, 4, none⟩ = false := hg_w1.z)
    | (go_at_call 113; refine (HR.out _).mono ?_; rintro x w2 ⟨rfl, hg_w2⟩; have br0 : w2.cell? ⟨w.heap.size, 0, none⟩ = some (.int .i64 0) := hg_w2.c; have brz0 : w2.frozen? ⟨w.heap.size, 0, none⟩ = false := hg_w2.z; have br1 : w2.cell? ⟨w.heap.size, 1, none⟩ = some (.int .i64 0) := hg_w2.c; have brz1 : w2.frozen? ⟨w.heap.size, 1, none⟩ = false := hg_w2.z; have br2 : w2.cell? ⟨w.heap.size, 2, none⟩ = some (.int .i64 0) := hg_w2.c; have brz2 : w2.frozen? ⟨w.heap.size, 2, none⟩ = false := hg_w2.z; have br3 : w2.cell? ⟨w.heap.size, 3, none⟩ = some (.int .i64 0) := hg_w2.c; have brz3 : w2.frozen? ⟨w.heap.size, 3, none⟩ = false := hg_w2.z; have br4 : w2.cell? ⟨w.heap.size, 4, none⟩ = some (Value.nilFunc) := hg_w2.c; have brz4 : w2.frozen? ⟨w.heap.size, 4, none⟩ = false := hg_w2.z; have bm0 : w2.cell? ⟨w1.heap.size, 0, none⟩ = some (.int .i64 p) := hg_w2.c; have bm1 : w2.cell? ⟨w1.heap.size, 1, none⟩ = some (.int .i64 mn) := hg_w2.c; have bm2 : w2.cell? ⟨w1.heap.size, 2, none⟩ = some (.int .i64 mx) := hg_w2.c))
  refine bodyPost_ret (v := .tuple #[.agg #[.int .i64 p, .int .i64 mn, .int .i64 mx, .int .i64 mode, .func (.func k) #[] #[]], .bool true]) (by simp [results, Tryz.results69, go_sem, br0, br1, br2, br3, br4]) rfl ⟨rfl, ?_⟩
  exact Gr.g


set_option maxRecDepth 100000 in
set_option maxHeartbeats 4000000 in
theorem settingOf_bad {f p mx one inf sg nan mn fb sp : Int} (h : IsFmt f p mx one inf sg nan) (hm : IsM p mn mx fb sp one inf sg nan) (mode : Int) (HR : Hid (∀ w, Calls Tryz.prog 113 #[.int .i64 mode] w fun x w' => x = .returned (.tuple #[Value.nilFunc, .bool false]) ∧ Gr w w')) {w : World} (hw : Fm w) :
    Calls Tryz.prog 69 #[.int .i64 f, .int .i64 mode] w fun x w' => x = .returned (.tuple #[.agg #[.int .i64 p, .int .i64 mn, .int .i64 mx, .int .i64 mode, Value.nilFunc], .bool false]) ∧ Gr w w' := by
  have HF : Hid (∀ w', Gr w w' → Calls Tryz.prog 52 #[.int .i64 f] w' fun x w'' => x = .returned (.tuple #[.agg #[.int .i64 p, .int .i64 mn, .int .i64 mx], .bool true]) ∧ Gr w' w'') := fun w' hg => formatOf_yes h hm (hw.gr hg)
  clear h hm hw
  go_enter Tryz.func69, Tryz.ntmps69
  go_wp2_with (first
    | (go_at_call 52; refine (HF.out _ Gr.g).mono ?_; rintro x w1 ⟨rfl, hg_w1⟩; have ar0 : w1.cell? ⟨w.heap.size, 0, none⟩ = some (.int .i64 0) := hg_w1.c; have arz0 : w1.frozen? ⟨w.heap.size, 0, none⟩ = false := hg_w1.z; have ar1 : w1.cell? ⟨w.heap.size, 1, none⟩ = some (.int .i64 0) := hg_w1.c; have arz1 : w1.frozen? ⟨w.heap.size, 1, none⟩ = false := hg_w1.z; have ar2 : w1.cell? ⟨w.heap.size, 2, none⟩ = some (.int .i64 0) := hg_w1.c; have arz2 : w1.frozen? ⟨w.heap.size, 2, none⟩ = false := hg_w1.z; have ar3 : w1.cell? ⟨w.heap.size, 3, none⟩ = some (.int .i64 0) := hg_w1.c; have arz3 : w1.frozen? ⟨w.heap.size, 3, none⟩ = false := hg_w1.z; have ar4 : w1.cell? ⟨w.heap.size, 4, none⟩ = some (Value.nilFunc) := hg_w1.c; have arz4 : w1.frozen? ⟨w.heap.size, 4, none⟩ = false := hg_w1.z)
    | (go_at_call 113; refine (HR.out _).mono ?_; rintro x w2 ⟨rfl, hg_w2⟩; have br0 : w2.cell? ⟨w.heap.size, 0, none⟩ = some (.int .i64 0) := hg_w2.c; have brz0 : w2.frozen? ⟨w.heap.size, 0, none⟩ = false := hg_w2.z; have br1 : w2.cell? ⟨w.heap.size, 1, none⟩ = some (.int .i64 0) := hg_w2.c; have brz1 : w2.frozen? ⟨w.heap.size, 1, none⟩ = false := hg_w2.z; have br2 : w2.cell? ⟨w.heap.size, 2, none⟩ = some (.int .i64 0) := hg_w2.c; have brz2 : w2.frozen? ⟨w.heap.size, 2, none⟩ = false := hg_w2.z; have br3 : w2.cell? ⟨w.heap.size, 3, none⟩ = some (.int .i64 0) := hg_w2.c; have brz3 : w2.frozen? ⟨w.heap.size, 3, none⟩ = false := hg_w2.z; have br4 : w2.cell? ⟨w.heap.size, 4, none⟩ = some (Value.nilFunc) := hg_w2.c; have brz4 : w2.frozen? ⟨w.heap.size, 4, none⟩ = false := hg_w2.z; have bm0 : w2.cell? ⟨w1.heap.size, 0, none⟩ = some (.int .i64 p) := hg_w2.c; have bm1 : w2.cell? ⟨w1.heap.size, 1, none⟩ = some (.int .i64 mn) := hg_w2.c; have bm2 : w2.cell? ⟨w1.heap.size, 2, none⟩ = some (.int .i64 mx) := hg_w2.c))
  refine bodyPost_ret (v := .tuple #[.agg #[.int .i64 p, .int .i64 mn, .int .i64 mx, .int .i64 mode, Value.nilFunc], .bool false]) (by simp [results, Tryz.results69, go_sem, br0, br1, br2, br3, br4]) rfl ⟨rfl, ?_⟩
  exact Gr.g


end Go.Proofs.YtkflpogmhailhaaGreatDoor
