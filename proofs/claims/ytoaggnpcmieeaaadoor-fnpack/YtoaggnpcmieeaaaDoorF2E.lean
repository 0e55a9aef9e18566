/- impl.Unpack. -/
import Derived.Test.YtoaggnpcmieeaaaDoorF2D
set_option linter.unusedVariables false
set_option linter.unusedSimpArgs false
namespace Go.Proofs.YtoaggnpcmieeaaaDoor
open Go.RowKit

set_option maxRecDepth 100000 in
set_option maxHeartbeats 2000000 in
theorem implUnpack_fit {f p mx one inf sg nan : Int} (h : IsFmt f p mx one inf sg nan) (W : Int) (h0 : 0 ≤ W) (h1 : W < 2 * sg) {w : World} (hw : Fm w) :
    Calls Tryd.prog 8 #[.int .i64 f, .int .u64 W] w fun e w' => ∃ c s x g : Int, UnpackIs p mx one inf sg nan W c s x g ∧ e = .returned (.agg #[.int .i64 c, .int .i64 s, .int .i64 x, .int .u64 g]) ∧ Gr w w' := by
  obtain ⟨mn, fb, sp, hm, hmn, hfb⟩ := h.m
  clear hmn hfb
  have HF : Hid (∀ w', Gr w w' → Calls Tryd.prog 25 #[.int .i64 f] w' fun e w'' => e = .returned (.tuple #[.agg #[.int .i64 p, .int .i64 mn, .int .i64 mx], .bool true]) ∧ Gr w' w'') := fun w' hg => formatOf_yes h hm (hw.gr hg)
  have HU : Hid (∀ w, Calls Tryd.prog 26 #[.agg #[.int .i64 p, .int .i64 mn, .int .i64 mx], .int .u64 W] w fun e w' => ∃ c s x g : Int, UnpackIs p mx one inf sg nan W c s x g ∧ e = .returned (.agg #[.int .i64 c, .int .i64 s, .int .i64 x, .int .u64 g]) ∧ Gr w w') := fun w => unpack_any hm W h0 h1 w
  clear h hm hw
  go_enter Tryd.func8, Tryd.ntmps8
  go_wp2_with (first
    | (go_at_call 25; refine (HF.out _ kr).mono ?_; rintro e w3 ⟨rfl, hg_w3⟩; have ar0 : w3.cell? ⟨w.heap.size, 0, none⟩ = some (.int .i64 0) := kq; have az0 : w3.frozen? ⟨w.heap.size, 0, none⟩ = false := kq; have ar1 : w3.cell? ⟨w.heap.size, 1, none⟩ = some (.int .i64 0) := kq; have az1 : w3.frozen? ⟨w.heap.size, 1, none⟩ = false := kq; have ar2 : w3.cell? ⟨w.heap.size, 2, none⟩ = some (.int .i64 0) := kq; have az2 : w3.frozen? ⟨w.heap.size, 2, none⟩ = false := kq; have ar3 : w3.cell? ⟨w.heap.size, 3, none⟩ = some (.int .u64 0) := kq; have az3 : w3.frozen? ⟨w.heap.size, 3, none⟩ = false := kq)
    | (go_at_call 26; refine (HU.out _).mono ?_; rintro e w5 ⟨c, s, x, g, hu, rfl, hg_w5⟩; have cr0 : w5.cell? ⟨w.heap.size, 0, none⟩ = some (.int .i64 0) := kq; have cz0 : w5.frozen? ⟨w.heap.size, 0, none⟩ = false := kq; have cr1 : w5.cell? ⟨w.heap.size, 1, none⟩ = some (.int .i64 0) := kq; have cz1 : w5.frozen? ⟨w.heap.size, 1, none⟩ = false := kq; have cr2 : w5.cell? ⟨w.heap.size, 2, none⟩ = some (.int .i64 0) := kq; have cz2 : w5.frozen? ⟨w.heap.size, 2, none⟩ = false := kq; have cr3 : w5.cell? ⟨w.heap.size, 3, none⟩ = some (.int .u64 0) := kq; have cz3 : w5.frozen? ⟨w.heap.size, 3, none⟩ = false := kq))
  refine bodyPost_ret (v := .agg #[.int .i64 c, .int .i64 s, .int .i64 x, .int .u64 g]) (by simp [results, Tryd.results8, go_sem, cr0, cr1, cr2, cr3]) rfl ⟨c, s, x, g, hu, rfl, ?_⟩
  exact kr

set_option maxRecDepth 100000 in
set_option maxHeartbeats 2000000 in
theorem implUnpack_none (f W : Int) (h : ¬ (f = 0 ∨ f = 1)) (w : World) :
    Calls Tryd.prog 8 #[.int .i64 f, .int .u64 W] w fun e w' => e = .returned (.agg #[.int .i64 4, .int .i64 0, .int .i64 0, .int .u64 0]) ∧ Gr w w' := by
  have HF : Hid (∀ w', Calls Tryd.prog 25 #[.int .i64 f] w' fun e w'' => e = .returned (.tuple #[.agg #[.int .i64 0, .int .i64 0, .int .i64 0], .bool false]) ∧ Gr w' w'') := fun w' => formatOf_no f h w'
  clear h
  go_enter Tryd.func8, Tryd.ntmps8
  go_wp2_with (go_at_call 25; refine (HF.out _).mono ?_; rintro e w3 ⟨rfl, hg_w3⟩; have ar0 : w3.cell? ⟨w.heap.size, 0, none⟩ = some (.int .i64 0) := kq; have az0 : w3.frozen? ⟨w.heap.size, 0, none⟩ = false := kq; have ar1 : w3.cell? ⟨w.heap.size, 1, none⟩ = some (.int .i64 0) := kq; have az1 : w3.frozen? ⟨w.heap.size, 1, none⟩ = false := kq; have ar2 : w3.cell? ⟨w.heap.size, 2, none⟩ = some (.int .i64 0) := kq; have az2 : w3.frozen? ⟨w.heap.size, 2, none⟩ = false := kq; have ar3 : w3.cell? ⟨w.heap.size, 3, none⟩ = some (.int .u64 0) := kq; have az3 : w3.frozen? ⟨w.heap.size, 3, none⟩ = false := kq; have aR0 : ∀ ob, (w3.alloc ob).cell? ⟨w.heap.size, 0, none⟩ = some (.int .i64 0) := (fun ob => cell_alloc ob ar0); have aZ0 : ∀ c t, (w3.alloc (.cells c t)).frozen? ⟨w.heap.size, 0, none⟩ = false := (fun c t => fz_alloc az0); have aR1 : ∀ ob, (w3.alloc ob).cell? ⟨w.heap.size, 1, none⟩ = some (.int .i64 0) := (fun ob => cell_alloc ob ar1); have aZ1 : ∀ c t, (w3.alloc (.cells c t)).frozen? ⟨w.heap.size, 1, none⟩ = false := (fun c t => fz_alloc az1); have aR2 : ∀ ob, (w3.alloc ob).cell? ⟨w.heap.size, 2, none⟩ = some (.int .i64 0) := (fun ob => cell_alloc ob ar2); have aZ2 : ∀ c t, (w3.alloc (.cells c t)).frozen? ⟨w.heap.size, 2, none⟩ = false := (fun c t => fz_alloc az2); have aR3 : ∀ ob, (w3.alloc ob).cell? ⟨w.heap.size, 3, none⟩ = some (.int .u64 0) := (fun ob => cell_alloc ob ar3); have aZ3 : ∀ c t, (w3.alloc (.cells c t)).frozen? ⟨w.heap.size, 3, none⟩ = false := (fun c t => fz_alloc az3))
  refine bodyPost_ret (v := .agg #[.int .i64 4, .int .i64 0, .int .i64 0, .int .u64 0]) (by simp [results, Tryd.results8, go_sem, aR0, aR1, aR2, aR3]) rfl ⟨rfl, ?_⟩
  exact kr

set_option maxRecDepth 100000 in
set_option maxHeartbeats 2000000 in
theorem implUnpack_wide (W : Int) (h0 : 4294967296 ≤ W) (h1 : W < 18446744073709551616) {w : World} (hw : Fm w) :
    Calls Tryd.prog 8 #[.int .i64 0, .int .u64 W] w fun e w' => e = .returned (.agg #[.int .i64 4, .int .i64 0, .int .i64 0, .int .u64 0]) ∧ Gr w w' := by
  have hm : IsM 24 (-126) 127 23 31 8388608 2139095040 2147483648 2143289344 := .inl ⟨rfl, rfl, rfl, rfl, rfl, rfl, rfl, rfl, rfl⟩
  have hf : IsFmt 0 24 127 8388608 2139095040 2147483648 2143289344 := .inl ⟨rfl, rfl, rfl, rfl, rfl, rfl, rfl⟩
  have HF : Hid (∀ w', Gr w w' → Calls Tryd.prog 25 #[.int .i64 0] w' fun e w'' => e = .returned (.tuple #[.agg #[.int .i64 24, .int .i64 (-126), .int .i64 127], .bool true]) ∧ Gr w' w'') := fun w' hg => formatOf_yes hf hm (hw.gr hg)
  have HU : Hid (∀ w, Calls Tryd.prog 26 #[.agg #[.int .i64 24, .int .i64 (-126), .int .i64 127], .int .u64 W] w fun e w' => e = .returned (.agg #[.int .i64 4, .int .i64 0, .int .i64 0, .int .u64 0]) ∧ Gr w w') := fun w => unpack_wide hm W (by omega) h1 w
  clear hf hm hw
  go_enter Tryd.func8, Tryd.ntmps8
  go_wp2_with (first
    | (go_at_call 25; refine (HF.out _ kr).mono ?_; rintro e w3 ⟨rfl, hg_w3⟩; have ar0 : w3.cell? ⟨w.heap.size, 0, none⟩ = some (.int .i64 0) := kq; have az0 : w3.frozen? ⟨w.heap.size, 0, none⟩ = false := kq; have ar1 : w3.cell? ⟨w.heap.size, 1, none⟩ = some (.int .i64 0) := kq; have az1 : w3.frozen? ⟨w.heap.size, 1, none⟩ = false := kq; have ar2 : w3.cell? ⟨w.heap.size, 2, none⟩ = some (.int .i64 0) := kq; have az2 : w3.frozen? ⟨w.heap.size, 2, none⟩ = false := kq; have ar3 : w3.cell? ⟨w.heap.size, 3, none⟩ = some (.int .u64 0) := kq; have az3 : w3.frozen? ⟨w.heap.size, 3, none⟩ = false := kq)
    | (go_at_call 26; refine (HU.out _).mono ?_; rintro e w4 ⟨rfl, hg_w4⟩; have br0 : w4.cell? ⟨w.heap.size, 0, none⟩ = some (.int .i64 0) := kq; have bz0 : w4.frozen? ⟨w.heap.size, 0, none⟩ = false := kq; have br1 : w4.cell? ⟨w.heap.size, 1, none⟩ = some (.int .i64 0) := kq; have bz1 : w4.frozen? ⟨w.heap.size, 1, none⟩ = false := kq; have br2 : w4.cell? ⟨w.heap.size, 2, none⟩ = some (.int .i64 0) := kq; have bz2 : w4.frozen? ⟨w.heap.size, 2, none⟩ = false := kq; have br3 : w4.cell? ⟨w.heap.size, 3, none⟩ = some (.int .u64 0) := kq; have bz3 : w4.frozen? ⟨w.heap.size, 3, none⟩ = false := kq; have bm0 : w4.cell? ⟨w3.heap.size, 0, none⟩ = some (.int .i64 24) := kq; have bm1 : w4.cell? ⟨w3.heap.size, 1, none⟩ = some (.int .i64 (-126)) := kq; have bm2 : w4.cell? ⟨w3.heap.size, 2, none⟩ = some (.int .i64 127) := kq))
  refine bodyPost_ret (v := .agg #[.int .i64 4, .int .i64 0, .int .i64 0, .int .u64 0]) (by simp [results, Tryd.results8, go_sem, br0, br1, br2, br3]) rfl ⟨rfl, ?_⟩
  exact kr

end Go.Proofs.YtoaggnpcmieeaaaDoor
