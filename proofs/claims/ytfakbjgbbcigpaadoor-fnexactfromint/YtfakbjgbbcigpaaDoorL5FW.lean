/- spec.FromInt: the ways through it. -/
import Derived.Test.YtfakbjgbbcigpaaDoorL5FWN
import Derived.Deep.DeepCutAuto
set_option linter.unusedVariables false
set_option linter.unusedSimpArgs false
namespace Go.Proofs.YtfakbjgbbcigpaaDoor
open Go.RowKit

theorem fr_len0 {K : Nat} {w : World} {b k c : Nat} (h : BigN K w (.slice (some ⟨b, 0, none⟩) k c) 0) : ((k : Nat) : Int) = 0 := by
  obtain ⟨n, hn, hb⟩ := h
  obtain ⟨b', cap, e, _⟩ := hb.shape
  have := hb.none rfl
  injection e with _ e2 _
  omega
set_option maxRecDepth 1000000 in
set_option maxHeartbeats 4000000 in
theorem sFrom_bad0 (f mode kind a s z fl : Int) (M : Nat) (HX : Hid (∀ w, Calls Tryd.prog 54 #[.int .i64 kind, .int .u64 a] w fun e w' => ∃ b k c, BigN 2 w' (.slice (some ⟨b, 0, none⟩) k c) M ∧ e = .returned (.tuple #[.agg #[.int .i64 s, .slice (some ⟨b, 0, none⟩) k c, .int .i64 0, .bool false], .bool false]) ∧ Gb w w')) (HL : Hid (∀ w, Calls Tryd.prog 56 #[.int .i64 f] w fun e w' => e = .returned (.agg #[.int .u64 z, .int .i64 fl]) ∧ Gr w w')) (w : World) :
    Calls Tryd.prog 20 #[.int .i64 f, .int .i64 mode, .int .i64 kind, .int .u64 a] w fun e w' => e = .returned (.agg #[.int .u64 z, .int .i64 fl]) ∧ Gb w w' := by
  go_enter Tryd.func20, Tryd.ntmps20
  go_wp2_with (first
    | (go_at_call 54; refine (HX.out _).mono ?_; rintro e w1 ⟨b, k, c, hb, rfl, hg_w1⟩; have ur0 : w1.cell? ⟨w.heap.size, 0, none⟩ = some (.int .u64 0) := hg_w1.c; have urz0 : w1.frozen? ⟨w.heap.size, 0, none⟩ = false := hg_w1.z ur0; have ur1 : w1.cell? ⟨w.heap.size, 1, none⟩ = some (.int .i64 0) := hg_w1.c; have urz1 : w1.frozen? ⟨w.heap.size, 1, none⟩ = false := hg_w1.z ur1; have hz1 := cell_size ur0)
    | (go_at_call 56; refine (HL.out _).mono ?_; rintro e w9 ⟨rfl, hg_w9⟩; have zr0 : w9.cell? ⟨w.heap.size, 0, none⟩ = some (.int .u64 0) := hg_w9.c; have zrz0 : w9.frozen? ⟨w.heap.size, 0, none⟩ = false := hg_w9.z; have zr1 : w9.cell? ⟨w.heap.size, 1, none⟩ = some (.int .i64 0) := hg_w9.c; have zrz1 : w9.frozen? ⟨w.heap.size, 1, none⟩ = false := hg_w9.z))
  refine bodyPost_ret (v := .agg #[.int .u64 z, .int .i64 fl]) (by simp [results, Tryd.results20, go_sem, zr0, zr1]) rfl ⟨rfl, ?_⟩
  exact Gb.g

set_option maxRecDepth 1000000 in
set_option maxHeartbeats 4000000 in
theorem sFrom_bad1 (f mode kind a s z fl : Int) (M : Nat) (HX : Hid (∀ w, Calls Tryd.prog 54 #[.int .i64 kind, .int .u64 a] w fun e w' => ∃ b k c, BigN 2 w' (.slice (some ⟨b, 0, none⟩) k c) M ∧ e = .returned (.tuple #[.agg #[.int .i64 s, .slice (some ⟨b, 0, none⟩) k c, .int .i64 0, .bool false], .bool true]) ∧ Gb w w')) (HFm : Hid (∀ w, Calls Tryd.prog 55 #[.int .i64 f] w fun e w' => e = .returned (.bool false) ∧ w = w')) (HL : Hid (∀ w, Calls Tryd.prog 56 #[.int .i64 f] w fun e w' => e = .returned (.agg #[.int .u64 z, .int .i64 fl]) ∧ Gr w w')) (w : World) :
    Calls Tryd.prog 20 #[.int .i64 f, .int .i64 mode, .int .i64 kind, .int .u64 a] w fun e w' => e = .returned (.agg #[.int .u64 z, .int .i64 fl]) ∧ Gb w w' := by
  go_enter Tryd.func20, Tryd.ntmps20
  go_wp2_with (first
    | (go_at_call 54; refine (HX.out _).mono ?_; rintro e w1 ⟨b, k, c, hb, rfl, hg_w1⟩; have ur0 : w1.cell? ⟨w.heap.size, 0, none⟩ = some (.int .u64 0) := hg_w1.c; have urz0 : w1.frozen? ⟨w.heap.size, 0, none⟩ = false := hg_w1.z ur0; have ur1 : w1.cell? ⟨w.heap.size, 1, none⟩ = some (.int .i64 0) := hg_w1.c; have urz1 : w1.frozen? ⟨w.heap.size, 1, none⟩ = false := hg_w1.z ur1; have hz1 := cell_size ur0)
    | (go_at_call 55; refine (HFm.out _).mono ?_; rintro e wk ⟨rfl, hw⟩; subst hw)
    | (go_at_call 56; refine (HL.out _).mono ?_; rintro e w9 ⟨rfl, hg_w9⟩; have zr0 : w9.cell? ⟨w.heap.size, 0, none⟩ = some (.int .u64 0) := hg_w9.c; have zrz0 : w9.frozen? ⟨w.heap.size, 0, none⟩ = false := hg_w9.z; have zr1 : w9.cell? ⟨w.heap.size, 1, none⟩ = some (.int .i64 0) := hg_w9.c; have zrz1 : w9.frozen? ⟨w.heap.size, 1, none⟩ = false := hg_w9.z))
  refine bodyPost_ret (v := .agg #[.int .u64 z, .int .i64 fl]) (by simp [results, Tryd.results20, go_sem, zr0, zr1]) rfl ⟨rfl, ?_⟩
  exact Gb.g

set_option maxRecDepth 1000000 in
set_option maxHeartbeats 4000000 in
theorem sFrom_bad2 (f mode kind a s z fl : Int) (M : Nat) (HX : Hid (∀ w, Calls Tryd.prog 54 #[.int .i64 kind, .int .u64 a] w fun e w' => ∃ b k c, BigN 2 w' (.slice (some ⟨b, 0, none⟩) k c) M ∧ e = .returned (.tuple #[.agg #[.int .i64 s, .slice (some ⟨b, 0, none⟩) k c, .int .i64 0, .bool false], .bool true]) ∧ Gb w w')) (HFm : Hid (∀ w, Calls Tryd.prog 55 #[.int .i64 f] w fun e w' => e = .returned (.bool true) ∧ w = w')) (HWy : Hid (∀ w, Calls Tryd.prog 42 #[.int .i64 mode] w fun e w' => e = .returned (.bool false) ∧ w = w')) (HL : Hid (∀ w, Calls Tryd.prog 56 #[.int .i64 f] w fun e w' => e = .returned (.agg #[.int .u64 z, .int .i64 fl]) ∧ Gr w w')) (w : World) :
    Calls Tryd.prog 20 #[.int .i64 f, .int .i64 mode, .int .i64 kind, .int .u64 a] w fun e w' => e = .returned (.agg #[.int .u64 z, .int .i64 fl]) ∧ Gb w w' := by
  go_enter Tryd.func20, Tryd.ntmps20
  go_wp2_with (first
    | (go_at_call 54; refine (HX.out _).mono ?_; rintro e w1 ⟨b, k, c, hb, rfl, hg_w1⟩; have ur0 : w1.cell? ⟨w.heap.size, 0, none⟩ = some (.int .u64 0) := hg_w1.c; have urz0 : w1.frozen? ⟨w.heap.size, 0, none⟩ = false := hg_w1.z ur0; have ur1 : w1.cell? ⟨w.heap.size, 1, none⟩ = some (.int .i64 0) := hg_w1.c; have urz1 : w1.frozen? ⟨w.heap.size, 1, none⟩ = false := hg_w1.z ur1; have hz1 := cell_size ur0)
    | (go_at_call 55; refine (HFm.out _).mono ?_; rintro e wk ⟨rfl, hw⟩; subst hw)
    | (go_at_call 42; refine (HWy.out _).mono ?_; rintro e wk ⟨rfl, hw⟩; subst hw)
    | (go_at_call 56; refine (HL.out _).mono ?_; rintro e w9 ⟨rfl, hg_w9⟩; have zr0 : w9.cell? ⟨w.heap.size, 0, none⟩ = some (.int .u64 0) := hg_w9.c; have zrz0 : w9.frozen? ⟨w.heap.size, 0, none⟩ = false := hg_w9.z; have zr1 : w9.cell? ⟨w.heap.size, 1, none⟩ = some (.int .i64 0) := hg_w9.c; have zrz1 : w9.frozen? ⟨w.heap.size, 1, none⟩ = false := hg_w9.z))
  refine bodyPost_ret (v := .agg #[.int .u64 z, .int .i64 fl]) (by simp [results, Tryd.results20, go_sem, zr0, zr1]) rfl ⟨rfl, ?_⟩
  exact Gb.g

set_option maxRecDepth 1000000 in
set_option maxHeartbeats 4000000 in
theorem sFrom_zero (f mode kind a s z fl : Int) (M : Nat) (hM : M = 0) (HX : Hid (∀ w, Calls Tryd.prog 54 #[.int .i64 kind, .int .u64 a] w fun e w' => ∃ b k c, BigN 2 w' (.slice (some ⟨b, 0, none⟩) k c) M ∧ e = .returned (.tuple #[.agg #[.int .i64 s, .slice (some ⟨b, 0, none⟩) k c, .int .i64 0, .bool false], .bool true]) ∧ Gb w w')) (HFm : Hid (∀ w, Calls Tryd.prog 55 #[.int .i64 f] w fun e w' => e = .returned (.bool true) ∧ w = w')) (HWy : Hid (∀ w, Calls Tryd.prog 42 #[.int .i64 mode] w fun e w' => e = .returned (.bool true) ∧ w = w')) (HL : Hid (∀ w, Calls Tryd.prog 57 #[.int .i64 f, .int .i64 0] w fun e w' => e = .returned (.agg #[.int .u64 z, .int .i64 fl]) ∧ Gr w w')) (w : World) :
    Calls Tryd.prog 20 #[.int .i64 f, .int .i64 mode, .int .i64 kind, .int .u64 a] w fun e w' => e = .returned (.agg #[.int .u64 z, .int .i64 fl]) ∧ Gb w w' := by
  subst hM
  go_enter Tryd.func20, Tryd.ntmps20
  go_wp2_with (first
    | (go_at_call 54; refine (HX.out _).mono ?_; rintro e w1 ⟨b, k, c, hb, rfl, hg_w1⟩; have ur0 : w1.cell? ⟨w.heap.size, 0, none⟩ = some (.int .u64 0) := hg_w1.c; have urz0 : w1.frozen? ⟨w.heap.size, 0, none⟩ = false := hg_w1.z ur0; have ur1 : w1.cell? ⟨w.heap.size, 1, none⟩ = some (.int .i64 0) := hg_w1.c; have urz1 : w1.frozen? ⟨w.heap.size, 1, none⟩ = false := hg_w1.z ur1; have hz1 := cell_size ur0; have hk1 := fr_len0 hb)
    | (go_at_call 55; refine (HFm.out _).mono ?_; rintro e wk ⟨rfl, hw⟩; subst hw)
    | (go_at_call 42; refine (HWy.out _).mono ?_; rintro e wk ⟨rfl, hw⟩; subst hw)
    | (go_at_call 57; refine (HL.out _).mono ?_; rintro e w9 ⟨rfl, hg_w9⟩; have zr0 : w9.cell? ⟨w.heap.size, 0, none⟩ = some (.int .u64 0) := hg_w9.c; have zrz0 : w9.frozen? ⟨w.heap.size, 0, none⟩ = false := hg_w9.z; have zr1 : w9.cell? ⟨w.heap.size, 1, none⟩ = some (.int .i64 0) := hg_w9.c; have zrz1 : w9.frozen? ⟨w.heap.size, 1, none⟩ = false := hg_w9.z))
  refine bodyPost_ret (v := .agg #[.int .u64 z, .int .i64 fl]) (by simp [results, Tryd.results20, go_sem, zr0, zr1]) rfl ⟨rfl, ?_⟩
  exact Gb.g

end Go.Proofs.YtfakbjgbbcigpaaDoor
