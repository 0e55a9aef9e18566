/- spec.l5Word and spec.ToInt: the ways through them. -/
import Derived.Test.YtfakbjgbbcigpaaGreatDoorG3
import Derived.Test.YtfakbjgbbcigpaaGreatDoorL5WS
import Derived.Deep.RegionHeld3
set_option linter.unusedVariables false
set_option linter.unusedSimpArgs false
namespace Go.Proofs.YtfakbjgbbcigpaaGreatDoor
open Go.RowKit

set_option maxRecDepth 1000000 in
set_option maxHeartbeats 4000000 in
theorem l5Word_walk (s v r : Int) (hr : s = 1 ∧ IntKind.u64.wrap (0 - v) = r ∧ IntKind.u64.wrap (-v) = r ∨ s = 0 ∧ v = r) (b k c : Nat) {w : World} (HW : Hid (∀ w', Gb w w' → Calls Tryz.prog 56 #[.slice (some ⟨b, 0, none⟩) k c] w' fun e w'' => e = .returned (.int .u64 v) ∧ Gb w' w'')) :
    Calls Tryz.prog 22 #[.int .i64 s, .slice (some ⟨b, 0, none⟩) k c] w fun e w' => e = .returned (.int .u64 r) ∧ Gb w w' := by
  rcases hr with ⟨rfl, h1, h2⟩ | ⟨rfl, rfl⟩
  · go_enter Tryz.func22, Tryz.ntmps22
    go_wp2_with (go_at_call 56; refine (HW.out _ Gb.g).mono ?_; rintro e w1 ⟨rfl, hg_w1⟩)
    go_returns
    exact ⟨rfl, Gb.g⟩
  · go_enter Tryz.func22, Tryz.ntmps22
    go_wp2_with (go_at_call 56; refine (HW.out _ Gb.g).mono ?_; rintro e w1 ⟨rfl, hg_w1⟩)
    go_returns
    exact ⟨rfl, Gb.g⟩

set_option maxRecDepth 1000000 in
set_option maxHeartbeats 4000000 in
theorem sToInt_bad1 (f mode kind a : Int) (S : Bool) (HK : Hid (∀ w, Calls Tryz.prog 21 #[.int .i64 kind] w fun e w' => e = .returned (.tuple #[.int .i64 0, .bool S]) ∧ w = w')) (w : World) :
    Calls Tryz.prog 14 #[.int .i64 f, .int .i64 mode, .int .i64 kind, .int .u64 a] w fun e w' => e = .returned (.agg #[.int .u64 0, .int .i64 1]) ∧ Gb w w' := by
  go_enter Tryz.func14, Tryz.ntmps14
  go_wp2_with (first
    | (go_at_call 21; refine (HK.out _).mono ?_; rintro e wk ⟨rfl, hw⟩; subst hw))
  go_returns
  exact ⟨rfl, Gb.g⟩

set_option maxRecDepth 1000000 in
set_option maxHeartbeats 4000000 in
theorem sToInt_bad2 (f mode kind a B : Int) (S : Bool) (B0 : (B == 0) = false) (HK : Hid (∀ w, Calls Tryz.prog 21 #[.int .i64 kind] w fun e w' => e = .returned (.tuple #[.int .i64 B, .bool S]) ∧ w = w')) (HY : Hid (∀ w, Calls Tryz.prog 27 #[.int .i64 mode] w fun e w' => e = .returned (.bool false) ∧ w = w')) (w : World) :
    Calls Tryz.prog 14 #[.int .i64 f, .int .i64 mode, .int .i64 kind, .int .u64 a] w fun e w' => e = .returned (.agg #[.int .u64 0, .int .i64 1]) ∧ Gb w w' := by
  go_enter Tryz.func14, Tryz.ntmps14
  go_wp2_with (first
    | (go_at_call 21; refine (HK.out _).mono ?_; rintro e wk ⟨rfl, hw⟩; subst hw)
    | (go_at_call 27; refine (HY.out _).mono ?_; rintro e wk ⟨rfl, hw⟩; subst hw))
  go_returns
  exact ⟨rfl, Gb.g⟩

set_option maxRecDepth 1000000 in
set_option maxHeartbeats 4000000 in
theorem sToInt_bad3 (f mode kind a B : Int) (S : Bool) (B0 : (B == 0) = false) (HK : Hid (∀ w, Calls Tryz.prog 21 #[.int .i64 kind] w fun e w' => e = .returned (.tuple #[.int .i64 B, .bool S]) ∧ w = w')) (HY : Hid (∀ w, Calls Tryz.prog 27 #[.int .i64 mode] w fun e w' => e = .returned (.bool true) ∧ w = w')) (HF : Hid (∀ w, Calls Tryz.prog 43 #[.int .i64 f, .int .u64 a] w fun e w' => e = .returned (.bool false) ∧ w = w')) (w : World) :
    Calls Tryz.prog 14 #[.int .i64 f, .int .i64 mode, .int .i64 kind, .int .u64 a] w fun e w' => e = .returned (.agg #[.int .u64 0, .int .i64 1]) ∧ Gb w w' := by
  go_enter Tryz.func14, Tryz.ntmps14
  go_wp2_with (first
    | (go_at_call 21; refine (HK.out _).mono ?_; rintro e wk ⟨rfl, hw⟩; subst hw)
    | (go_at_call 27; refine (HY.out _).mono ?_; rintro e wk ⟨rfl, hw⟩; subst hw)
    | (go_at_call 43; refine (HF.out _).mono ?_; rintro e wk ⟨rfl, hw⟩; subst hw))
  go_returns
  exact ⟨rfl, Gb.g⟩

set_option maxRecDepth 1000000 in
set_option maxHeartbeats 4000000 in
theorem sToInt_nan (f mode kind a B c s x g z : Int) (S : Bool) (L0 : Nat) (B0 : (B == 0) = false) (HK : Hid (∀ w, Calls Tryz.prog 21 #[.int .i64 kind] w fun e w' => e = .returned (.tuple #[.int .i64 B, .bool S]) ∧ w = w')) (HY : Hid (∀ w, Calls Tryz.prog 27 #[.int .i64 mode] w fun e w' => e = .returned (.bool true) ∧ w = w')) (HF : Hid (∀ w, Calls Tryz.prog 43 #[.int .i64 f, .int .u64 a] w fun e w' => e = .returned (.bool true) ∧ w = w')) (HU : Hid (∀ w, Calls Tryz.prog 44 #[.int .i64 f, .int .u64 a] w fun e w' => e = .returned (.agg #[.int .i64 c, .int .i64 s, .int .i64 x, .int .u64 g]) ∧ Gr w w')) (HQ : Hid (∀ w, Calls Tryz.prog 45 #[.agg #[.int .i64 c, .int .i64 s, .int .i64 x, .int .u64 g]] w fun e w' => e = .returned (.bool true) ∧ Gr w w')) (HM0 : Hid (∀ w, Calls Tryz.prog 23 #[.int .i64 kind, .int .i64 0] w fun e w' => ∃ b k c, BigN 20 w' (.slice (some ⟨b, 0, none⟩) k c) L0 ∧ e = .returned (.slice (some ⟨b, 0, none⟩) k c) ∧ Gb w w')) (HW0 : Hid (∀ b k c w, BigN 20 w (.slice (some ⟨b, 0, none⟩) k c) L0 → Calls Tryz.prog 22 #[.int .i64 0, .slice (some ⟨b, 0, none⟩) k c] w fun e w' => e = .returned (.int .u64 z) ∧ Gb w w')) (w : World) :
    Calls Tryz.prog 14 #[.int .i64 f, .int .i64 mode, .int .i64 kind, .int .u64 a] w fun e w' => e = .returned (.agg #[.int .u64 z, .int .i64 1]) ∧ Gb w w' := by
  go_enter Tryz.func14, Tryz.ntmps14
  go_wp2_with (first
    | (go_at_call 21; refine (HK.out _).mono ?_; rintro e wk ⟨rfl, hw⟩; subst hw)
    | (go_at_call 27; refine (HY.out _).mono ?_; rintro e wk ⟨rfl, hw⟩; subst hw)
    | (go_at_call 43; refine (HF.out _).mono ?_; rintro e wk ⟨rfl, hw⟩; subst hw)
    | (go_at_call 44; refine (HU.out _).mono ?_; rintro e w1 ⟨rfl, hg_w1⟩; have ur0 : w1.cell? ⟨w.heap.size, 0, none⟩ = some (.int .u64 0) := hg_w1.c; have urz0 : w1.frozen? ⟨w.heap.size, 0, none⟩ = false := hg_w1.z; have ur1 : w1.cell? ⟨w.heap.size, 1, none⟩ = some (.int .i64 0) := hg_w1.c; have urz1 : w1.frozen? ⟨w.heap.size, 1, none⟩ = false := hg_w1.z; have hz0 := cell_size ur0)
    | (go_at_call 45; refine (HQ.out _).mono ?_; rintro e va ⟨rfl, hg_va⟩; have qr0 : va.cell? ⟨w.heap.size, 0, none⟩ = some (.int .u64 0) := hg_va.c; have qrz0 : va.frozen? ⟨w.heap.size, 0, none⟩ = false := hg_va.z; have qr1 : va.cell? ⟨w.heap.size, 1, none⟩ = some (.int .i64 0) := hg_va.c; have qrz1 : va.frozen? ⟨w.heap.size, 1, none⟩ = false := hg_va.z; have qp0 : va.cell? ⟨w1.heap.size, 0, none⟩ = some (.int .i64 c) := hg_va.c; have qp1 : va.cell? ⟨w1.heap.size, 1, none⟩ = some (.int .i64 s) := hg_va.c; have qp2 : va.cell? ⟨w1.heap.size, 2, none⟩ = some (.int .i64 x) := hg_va.c; have qp3 : va.cell? ⟨w1.heap.size, 3, none⟩ = some (.int .u64 g) := hg_va.c)
    | (go_at_call 23; refine (HM0.out _).mono ?_; rintro e n1 ⟨b1, k1, c1, hb1, rfl, hg_n1⟩; have mr0 : n1.cell? ⟨w.heap.size, 0, none⟩ = some (.int .u64 0) := hg_n1.c; have mrz0 : n1.frozen? ⟨w.heap.size, 0, none⟩ = false := hg_n1.z mr0; have mr1 : n1.cell? ⟨w.heap.size, 1, none⟩ = some (.int .i64 0) := hg_n1.c; have mrz1 : n1.frozen? ⟨w.heap.size, 1, none⟩ = false := hg_n1.z mr1)
    | (go_at_call 22; refine (HW0.out _ _ _ _ hb1).mono ?_; rintro e n2 ⟨rfl, hg_n2⟩; have zr0 : n2.cell? ⟨w.heap.size, 0, none⟩ = some (.int .u64 0) := hg_n2.c; have zrz0 : n2.frozen? ⟨w.heap.size, 0, none⟩ = false := hg_n2.z zr0; have zr1 : n2.cell? ⟨w.heap.size, 1, none⟩ = some (.int .i64 0) := hg_n2.c; have zrz1 : n2.frozen? ⟨w.heap.size, 1, none⟩ = false := hg_n2.z zr1))
  refine bodyPost_ret (v := .agg #[.int .u64 z, .int .i64 1]) (by simp [results, Tryz.results14, go_sem, zr0, zr1]) rfl ⟨rfl, ?_⟩
  exact Gb.g

set_option maxRecDepth 1000000 in
set_option maxHeartbeats 4000000 in
theorem sToInt_inf (f mode kind a B c s x g z : Int) (S : Bool) (L : Nat) (B0 : (B == 0) = false) (HK : Hid (∀ w, Calls Tryz.prog 21 #[.int .i64 kind] w fun e w' => e = .returned (.tuple #[.int .i64 B, .bool S]) ∧ w = w')) (HY : Hid (∀ w, Calls Tryz.prog 27 #[.int .i64 mode] w fun e w' => e = .returned (.bool true) ∧ w = w')) (HF : Hid (∀ w, Calls Tryz.prog 43 #[.int .i64 f, .int .u64 a] w fun e w' => e = .returned (.bool true) ∧ w = w')) (HU : Hid (∀ w, Calls Tryz.prog 44 #[.int .i64 f, .int .u64 a] w fun e w' => e = .returned (.agg #[.int .i64 c, .int .i64 s, .int .i64 x, .int .u64 g]) ∧ Gr w w')) (HQ : Hid (∀ w, Calls Tryz.prog 45 #[.agg #[.int .i64 c, .int .i64 s, .int .i64 x, .int .u64 g]] w fun e w' => e = .returned (.bool false) ∧ Gr w w')) (e2 : c = 2) (HM : Hid (∀ w, Calls Tryz.prog 23 #[.int .i64 kind, .int .i64 s] w fun e w' => ∃ b k c, BigN 20 w' (.slice (some ⟨b, 0, none⟩) k c) L ∧ e = .returned (.slice (some ⟨b, 0, none⟩) k c) ∧ Gb w w')) (HWe : Hid (∀ b k c w, BigN 20 w (.slice (some ⟨b, 0, none⟩) k c) L → Calls Tryz.prog 22 #[.int .i64 s, .slice (some ⟨b, 0, none⟩) k c] w fun e w' => e = .returned (.int .u64 z) ∧ Gb w w')) (w : World) :
    Calls Tryz.prog 14 #[.int .i64 f, .int .i64 mode, .int .i64 kind, .int .u64 a] w fun e w' => e = .returned (.agg #[.int .u64 z, .int .i64 1]) ∧ Gb w w' := by
  subst e2
  go_enter Tryz.func14, Tryz.ntmps14
  go_wp2_with (first
    | (go_at_call 21; refine (HK.out _).mono ?_; rintro e wk ⟨rfl, hw⟩; subst hw)
    | (go_at_call 27; refine (HY.out _).mono ?_; rintro e wk ⟨rfl, hw⟩; subst hw)
    | (go_at_call 43; refine (HF.out _).mono ?_; rintro e wk ⟨rfl, hw⟩; subst hw)
    | (go_at_call 44; refine (HU.out _).mono ?_; rintro e w1 ⟨rfl, hg_w1⟩; have ur0 : w1.cell? ⟨w.heap.size, 0, none⟩ = some (.int .u64 0) := hg_w1.c; have urz0 : w1.frozen? ⟨w.heap.size, 0, none⟩ = false := hg_w1.z; have ur1 : w1.cell? ⟨w.heap.size, 1, none⟩ = some (.int .i64 0) := hg_w1.c; have urz1 : w1.frozen? ⟨w.heap.size, 1, none⟩ = false := hg_w1.z; have hz0 := cell_size ur0)
    | (go_at_call 45; refine (HQ.out _).mono ?_; rintro e va ⟨rfl, hg_va⟩; have qr0 : va.cell? ⟨w.heap.size, 0, none⟩ = some (.int .u64 0) := hg_va.c; have qrz0 : va.frozen? ⟨w.heap.size, 0, none⟩ = false := hg_va.z; have qr1 : va.cell? ⟨w.heap.size, 1, none⟩ = some (.int .i64 0) := hg_va.c; have qrz1 : va.frozen? ⟨w.heap.size, 1, none⟩ = false := hg_va.z; have qp0 : va.cell? ⟨w1.heap.size, 0, none⟩ = some (.int .i64 2) := hg_va.c; have qp1 : va.cell? ⟨w1.heap.size, 1, none⟩ = some (.int .i64 s) := hg_va.c; have qp2 : va.cell? ⟨w1.heap.size, 2, none⟩ = some (.int .i64 x) := hg_va.c; have qp3 : va.cell? ⟨w1.heap.size, 3, none⟩ = some (.int .u64 g) := hg_va.c))
  go_region_held3 (fun w' => w'.cell? ⟨w1.heap.size, 1, none⟩ = some (.int .i64 s))
    ((go_split_ands; (repeat' apply And.intro) <;> exact kh))
    (first
      | (go_at_call 23; refine (HM.out _).mono ?_; rintro e n8 ⟨b8, k8, c8, hb8, rfl, hg_n8⟩; have nr0 : n8.cell? ⟨w.heap.size, 0, none⟩ = some (.int .u64 0) := hg_n8.c; have nrz0 : n8.frozen? ⟨w.heap.size, 0, none⟩ = false := hg_n8.z nr0; have nr1 : n8.cell? ⟨w.heap.size, 1, none⟩ = some (.int .i64 0) := hg_n8.c; have nrz1 : n8.frozen? ⟨w.heap.size, 1, none⟩ = false := hg_n8.z nr1)
      | (go_at_call 22; refine (HWe.out _ _ _ _ (BigN.gb hb8 Gb.g)).mono ?_; rintro e n9 ⟨rfl, hg_n9⟩; have zr0 : n9.cell? ⟨w.heap.size, 0, none⟩ = some (.int .u64 0) := hg_n9.c; have zrz0 : n9.frozen? ⟨w.heap.size, 0, none⟩ = false := hg_n9.z zr0; have zr1 : n9.cell? ⟨w.heap.size, 1, none⟩ = some (.int .i64 0) := hg_n9.c; have zrz1 : n9.frozen? ⟨w.heap.size, 1, none⟩ = false := hg_n9.z zr1))
  all_goals (try go_split_ands)
  all_goals go_wp2
  all_goals
    refine bodyPost_ret (v := .agg #[.int .u64 z, .int .i64 1]) (by simp [results, Tryz.results14, go_sem, zr0, zr1]) rfl ⟨rfl, ?_⟩
    exact Gb.g

set_option maxRecDepth 1000000 in
set_option maxHeartbeats 4000000 in
theorem sToInt_far (f mode kind a B c s x g z : Int) (S : Bool) (L : Nat) (B0 : (B == 0) = false) (HK : Hid (∀ w, Calls Tryz.prog 21 #[.int .i64 kind] w fun e w' => e = .returned (.tuple #[.int .i64 B, .bool S]) ∧ w = w')) (HY : Hid (∀ w, Calls Tryz.prog 27 #[.int .i64 mode] w fun e w' => e = .returned (.bool true) ∧ w = w')) (HF : Hid (∀ w, Calls Tryz.prog 43 #[.int .i64 f, .int .u64 a] w fun e w' => e = .returned (.bool true) ∧ w = w')) (HU : Hid (∀ w, Calls Tryz.prog 44 #[.int .i64 f, .int .u64 a] w fun e w' => e = .returned (.agg #[.int .i64 c, .int .i64 s, .int .i64 x, .int .u64 g]) ∧ Gr w w')) (HQ : Hid (∀ w, Calls Tryz.prog 45 #[.agg #[.int .i64 c, .int .i64 s, .int .i64 x, .int .u64 g]] w fun e w' => e = .returned (.bool false) ∧ Gr w w')) (e2 : ¬ c = 2) (e3 : decide (200 < x) = true) (HM : Hid (∀ w, Calls Tryz.prog 23 #[.int .i64 kind, .int .i64 s] w fun e w' => ∃ b k c, BigN 20 w' (.slice (some ⟨b, 0, none⟩) k c) L ∧ e = .returned (.slice (some ⟨b, 0, none⟩) k c) ∧ Gb w w')) (HWe : Hid (∀ b k c w, BigN 20 w (.slice (some ⟨b, 0, none⟩) k c) L → Calls Tryz.prog 22 #[.int .i64 s, .slice (some ⟨b, 0, none⟩) k c] w fun e w' => e = .returned (.int .u64 z) ∧ Gb w w')) (w : World) :
    Calls Tryz.prog 14 #[.int .i64 f, .int .i64 mode, .int .i64 kind, .int .u64 a] w fun e w' => e = .returned (.agg #[.int .u64 z, .int .i64 1]) ∧ Gb w w' := by
  go_enter Tryz.func14, Tryz.ntmps14
  go_wp2_with (first
    | (go_at_call 21; refine (HK.out _).mono ?_; rintro e wk ⟨rfl, hw⟩; subst hw)
    | (go_at_call 27; refine (HY.out _).mono ?_; rintro e wk ⟨rfl, hw⟩; subst hw)
    | (go_at_call 43; refine (HF.out _).mono ?_; rintro e wk ⟨rfl, hw⟩; subst hw)
    | (go_at_call 44; refine (HU.out _).mono ?_; rintro e w1 ⟨rfl, hg_w1⟩; have ur0 : w1.cell? ⟨w.heap.size, 0, none⟩ = some (.int .u64 0) := hg_w1.c; have urz0 : w1.frozen? ⟨w.heap.size, 0, none⟩ = false := hg_w1.z; have ur1 : w1.cell? ⟨w.heap.size, 1, none⟩ = some (.int .i64 0) := hg_w1.c; have urz1 : w1.frozen? ⟨w.heap.size, 1, none⟩ = false := hg_w1.z; have hz0 := cell_size ur0)
    | (go_at_call 45; refine (HQ.out _).mono ?_; rintro e va ⟨rfl, hg_va⟩; have qr0 : va.cell? ⟨w.heap.size, 0, none⟩ = some (.int .u64 0) := hg_va.c; have qrz0 : va.frozen? ⟨w.heap.size, 0, none⟩ = false := hg_va.z; have qr1 : va.cell? ⟨w.heap.size, 1, none⟩ = some (.int .i64 0) := hg_va.c; have qrz1 : va.frozen? ⟨w.heap.size, 1, none⟩ = false := hg_va.z; have qp0 : va.cell? ⟨w1.heap.size, 0, none⟩ = some (.int .i64 c) := hg_va.c; have qp1 : va.cell? ⟨w1.heap.size, 1, none⟩ = some (.int .i64 s) := hg_va.c; have qp2 : va.cell? ⟨w1.heap.size, 2, none⟩ = some (.int .i64 x) := hg_va.c; have qp3 : va.cell? ⟨w1.heap.size, 3, none⟩ = some (.int .u64 g) := hg_va.c))
  go_region_held3 (fun w' => w'.cell? ⟨w1.heap.size, 1, none⟩ = some (.int .i64 s))
    ((go_split_ands; (repeat' apply And.intro) <;> exact kh))
    (first
      | (go_at_call 23; refine (HM.out _).mono ?_; rintro e n8 ⟨b8, k8, c8, hb8, rfl, hg_n8⟩; have nr0 : n8.cell? ⟨w.heap.size, 0, none⟩ = some (.int .u64 0) := hg_n8.c; have nrz0 : n8.frozen? ⟨w.heap.size, 0, none⟩ = false := hg_n8.z nr0; have nr1 : n8.cell? ⟨w.heap.size, 1, none⟩ = some (.int .i64 0) := hg_n8.c; have nrz1 : n8.frozen? ⟨w.heap.size, 1, none⟩ = false := hg_n8.z nr1)
      | (go_at_call 22; refine (HWe.out _ _ _ _ (BigN.gb hb8 Gb.g)).mono ?_; rintro e n9 ⟨rfl, hg_n9⟩; have zr0 : n9.cell? ⟨w.heap.size, 0, none⟩ = some (.int .u64 0) := hg_n9.c; have zrz0 : n9.frozen? ⟨w.heap.size, 0, none⟩ = false := hg_n9.z zr0; have zr1 : n9.cell? ⟨w.heap.size, 1, none⟩ = some (.int .i64 0) := hg_n9.c; have zrz1 : n9.frozen? ⟨w.heap.size, 1, none⟩ = false := hg_n9.z zr1))
  all_goals (try go_split_ands)
  all_goals go_wp2
  all_goals
    refine bodyPost_ret (v := .agg #[.int .u64 z, .int .i64 1]) (by simp [results, Tryz.results14, go_sem, zr0, zr1]) rfl ⟨rfl, ?_⟩
    exact Gb.g

set_option maxRecDepth 1000000 in
set_option maxHeartbeats 4000000 in
theorem sToInt_okw (f mode kind a B c s x g z d : Int) (S wh : Bool) (M C L : Nat) (hwh : wh = true) (B0 : (B == 0) = false) (HK : Hid (∀ w, Calls Tryz.prog 21 #[.int .i64 kind] w fun e w' => e = .returned (.tuple #[.int .i64 B, .bool S]) ∧ w = w')) (HY : Hid (∀ w, Calls Tryz.prog 27 #[.int .i64 mode] w fun e w' => e = .returned (.bool true) ∧ w = w')) (HF : Hid (∀ w, Calls Tryz.prog 43 #[.int .i64 f, .int .u64 a] w fun e w' => e = .returned (.bool true) ∧ w = w')) (HU : Hid (∀ w, Calls Tryz.prog 44 #[.int .i64 f, .int .u64 a] w fun e w' => e = .returned (.agg #[.int .i64 c, .int .i64 s, .int .i64 x, .int .u64 g]) ∧ Gr w w')) (HQ : Hid (∀ w, Calls Tryz.prog 45 #[.agg #[.int .i64 c, .int .i64 s, .int .i64 x, .int .u64 g]] w fun e w' => e = .returned (.bool false) ∧ Gr w w')) (e2 : ¬ c = 2) (e3 : decide (200 < x) = false) (HN : Hid (∀ w, Calls Tryz.prog 48 #[.agg #[.int .i64 c, .int .i64 s, .int .i64 x, .int .u64 g]] w fun e w' => ∃ b k cc, BigN 2 w' (.slice (some ⟨b, 0, none⟩) k cc) M ∧ e = .returned (.agg #[.int .i64 s, .slice (some ⟨b, 0, none⟩) k cc, .int .i64 x, .bool false]) ∧ Gb w w')) (HWh : Hid (∀ b k c w, BigN 2 w (.slice (some ⟨b, 0, none⟩) k c) M → Calls Tryz.prog 52 #[.int .i64 mode, .agg #[.int .i64 s, .slice (some ⟨b, 0, none⟩) k c, .int .i64 x, .bool false]] w fun e w' => ∃ b k c, BigN 70005 w' (.slice (some ⟨b, 0, none⟩) k c) C ∧ e = .returned (.tuple #[.slice (some ⟨b, 0, none⟩) k c, .bool wh]) ∧ Gb w w')) (HM : Hid (∀ w, Calls Tryz.prog 23 #[.int .i64 kind, .int .i64 s] w fun e w' => ∃ b k c, BigN 20 w' (.slice (some ⟨b, 0, none⟩) k c) L ∧ e = .returned (.slice (some ⟨b, 0, none⟩) k c) ∧ Gb w w')) (HC : Hid (∀ v v' w, BigN 70005 w v C → BigN 20 w v' L → Calls Tryz.prog 53 #[v, v'] w fun e w' => e = .returned (.int .i64 d) ∧ Gb w w')) (hd : decide (d ≤ 0) = true) (HWw : Hid (∀ b k c w, BigN 70005 w (.slice (some ⟨b, 0, none⟩) k c) C → Calls Tryz.prog 22 #[.int .i64 s, .slice (some ⟨b, 0, none⟩) k c] w fun e w' => e = .returned (.int .u64 z) ∧ Gb w w')) (w : World) :
    Calls Tryz.prog 14 #[.int .i64 f, .int .i64 mode, .int .i64 kind, .int .u64 a] w fun e w' => e = .returned (.agg #[.int .u64 z, .int .i64 0]) ∧ Gb w w' := by
  subst hwh
  have e2' : (c == 2) = false := by simp [e2]
  go_enter Tryz.func14, Tryz.ntmps14
  go_wp2_with (first
    | (go_at_call 21; refine (HK.out _).mono ?_; rintro e wk ⟨rfl, hw⟩; subst hw)
    | (go_at_call 27; refine (HY.out _).mono ?_; rintro e wk ⟨rfl, hw⟩; subst hw)
    | (go_at_call 43; refine (HF.out _).mono ?_; rintro e wk ⟨rfl, hw⟩; subst hw)
    | (go_at_call 44; refine (HU.out _).mono ?_; rintro e w1 ⟨rfl, hg_w1⟩; have ur0 : w1.cell? ⟨w.heap.size, 0, none⟩ = some (.int .u64 0) := hg_w1.c; have urz0 : w1.frozen? ⟨w.heap.size, 0, none⟩ = false := hg_w1.z; have ur1 : w1.cell? ⟨w.heap.size, 1, none⟩ = some (.int .i64 0) := hg_w1.c; have urz1 : w1.frozen? ⟨w.heap.size, 1, none⟩ = false := hg_w1.z; have hz0 := cell_size ur0)
    | (go_at_call 45; refine (HQ.out _).mono ?_; rintro e va ⟨rfl, hg_va⟩; have qr0 : va.cell? ⟨w.heap.size, 0, none⟩ = some (.int .u64 0) := hg_va.c; have qrz0 : va.frozen? ⟨w.heap.size, 0, none⟩ = false := hg_va.z; have qr1 : va.cell? ⟨w.heap.size, 1, none⟩ = some (.int .i64 0) := hg_va.c; have qrz1 : va.frozen? ⟨w.heap.size, 1, none⟩ = false := hg_va.z; have qp0 : va.cell? ⟨w1.heap.size, 0, none⟩ = some (.int .i64 c) := hg_va.c; have qp1 : va.cell? ⟨w1.heap.size, 1, none⟩ = some (.int .i64 s) := hg_va.c; have qp2 : va.cell? ⟨w1.heap.size, 2, none⟩ = some (.int .i64 x) := hg_va.c; have qp3 : va.cell? ⟨w1.heap.size, 3, none⟩ = some (.int .u64 g) := hg_va.c)
    | (go_at_call 48; refine (HN.out _).mono ?_; rintro e w3 ⟨b3, k3, c3, hb3, rfl, hg_w3⟩; have nr0 : w3.cell? ⟨w.heap.size, 0, none⟩ = some (.int .u64 0) := hg_w3.c; have nrz0 : w3.frozen? ⟨w.heap.size, 0, none⟩ = false := hg_w3.z nr0; have nr1 : w3.cell? ⟨w.heap.size, 1, none⟩ = some (.int .i64 0) := hg_w3.c; have nrz1 : w3.frozen? ⟨w.heap.size, 1, none⟩ = false := hg_w3.z nr1; have np0 : w3.cell? ⟨w1.heap.size, 0, none⟩ = some (.int .i64 c) := hg_w3.c; have np1 : w3.cell? ⟨w1.heap.size, 1, none⟩ = some (.int .i64 s) := hg_w3.c; have np2 : w3.cell? ⟨w1.heap.size, 2, none⟩ = some (.int .i64 x) := hg_w3.c; have np3 : w3.cell? ⟨w1.heap.size, 3, none⟩ = some (.int .u64 g) := hg_w3.c)
    | (go_at_call 52; with_reducible refine (HWh.out _ _ _ _ hb3).mono ?_; rintro e w4 ⟨b4, k4, c4, hb4, rfl, hg_w4⟩; have mr0 : w4.cell? ⟨w.heap.size, 0, none⟩ = some (.int .u64 0) := hg_w4.c; have mrz0 : w4.frozen? ⟨w.heap.size, 0, none⟩ = false := hg_w4.z mr0; have mr1 : w4.cell? ⟨w.heap.size, 1, none⟩ = some (.int .i64 0) := hg_w4.c; have mrz1 : w4.frozen? ⟨w.heap.size, 1, none⟩ = false := hg_w4.z mr1; have mp0 : w4.cell? ⟨w1.heap.size, 0, none⟩ = some (.int .i64 c) := hg_w4.c; have mp1 : w4.cell? ⟨w1.heap.size, 1, none⟩ = some (.int .i64 s) := hg_w4.c; have mp2 : w4.cell? ⟨w1.heap.size, 2, none⟩ = some (.int .i64 x) := hg_w4.c; have mp3 : w4.cell? ⟨w1.heap.size, 3, none⟩ = some (.int .u64 g) := hg_w4.c)
    | (go_at_call 23; refine (HM.out _).mono ?_; rintro e w5 ⟨b5, k5, c5, hb5, rfl, hg_w5⟩; have or0 : w5.cell? ⟨w.heap.size, 0, none⟩ = some (.int .u64 0) := hg_w5.c; have orz0 : w5.frozen? ⟨w.heap.size, 0, none⟩ = false := hg_w5.z or0; have or1 : w5.cell? ⟨w.heap.size, 1, none⟩ = some (.int .i64 0) := hg_w5.c; have orz1 : w5.frozen? ⟨w.heap.size, 1, none⟩ = false := hg_w5.z or1; have op0 : w5.cell? ⟨w1.heap.size, 0, none⟩ = some (.int .i64 c) := hg_w5.c; have op1 : w5.cell? ⟨w1.heap.size, 1, none⟩ = some (.int .i64 s) := hg_w5.c; have op2 : w5.cell? ⟨w1.heap.size, 2, none⟩ = some (.int .i64 x) := hg_w5.c; have op3 : w5.cell? ⟨w1.heap.size, 3, none⟩ = some (.int .u64 g) := hg_w5.c)
    | (go_at_call 53; with_reducible refine (HC.out _ _ _ (BigN.gb hb4 hg_w5) hb5).mono ?_; rintro e w6 ⟨rfl, hg_w6⟩; have pr0 : w6.cell? ⟨w.heap.size, 0, none⟩ = some (.int .u64 0) := hg_w6.c; have prz0 : w6.frozen? ⟨w.heap.size, 0, none⟩ = false := hg_w6.z pr0; have pr1 : w6.cell? ⟨w.heap.size, 1, none⟩ = some (.int .i64 0) := hg_w6.c; have prz1 : w6.frozen? ⟨w.heap.size, 1, none⟩ = false := hg_w6.z pr1; have pp0 : w6.cell? ⟨w1.heap.size, 0, none⟩ = some (.int .i64 c) := hg_w6.c; have pp1 : w6.cell? ⟨w1.heap.size, 1, none⟩ = some (.int .i64 s) := hg_w6.c; have pp2 : w6.cell? ⟨w1.heap.size, 2, none⟩ = some (.int .i64 x) := hg_w6.c; have pp3 : w6.cell? ⟨w1.heap.size, 3, none⟩ = some (.int .u64 g) := hg_w6.c)
    | (go_at_call 22; refine (HWw.out _ _ _ _ (BigN.gb hb4 (hg_w5.trans hg_w6))).mono ?_; rintro e w7 ⟨rfl, hg_w7⟩; have zr0 : w7.cell? ⟨w.heap.size, 0, none⟩ = some (.int .u64 0) := hg_w7.c; have zrz0 : w7.frozen? ⟨w.heap.size, 0, none⟩ = false := hg_w7.z zr0; have zr1 : w7.cell? ⟨w.heap.size, 1, none⟩ = some (.int .i64 0) := hg_w7.c; have zrz1 : w7.frozen? ⟨w.heap.size, 1, none⟩ = false := hg_w7.z zr1))
  refine bodyPost_ret (v := .agg #[.int .u64 z, .int .i64 0]) (by simp [results, Tryz.results14, go_sem, zr0, zr1]) rfl ⟨rfl, ?_⟩
  exact Gb.g

set_option maxRecDepth 1000000 in
set_option maxHeartbeats 4000000 in
theorem sToInt_okx (f mode kind a B c s x g z d : Int) (S wh : Bool) (M C L : Nat) (hwh : wh = false) (B0 : (B == 0) = false) (HK : Hid (∀ w, Calls Tryz.prog 21 #[.int .i64 kind] w fun e w' => e = .returned (.tuple #[.int .i64 B, .bool S]) ∧ w = w')) (HY : Hid (∀ w, Calls Tryz.prog 27 #[.int .i64 mode] w fun e w' => e = .returned (.bool true) ∧ w = w')) (HF : Hid (∀ w, Calls Tryz.prog 43 #[.int .i64 f, .int .u64 a] w fun e w' => e = .returned (.bool true) ∧ w = w')) (HU : Hid (∀ w, Calls Tryz.prog 44 #[.int .i64 f, .int .u64 a] w fun e w' => e = .returned (.agg #[.int .i64 c, .int .i64 s, .int .i64 x, .int .u64 g]) ∧ Gr w w')) (HQ : Hid (∀ w, Calls Tryz.prog 45 #[.agg #[.int .i64 c, .int .i64 s, .int .i64 x, .int .u64 g]] w fun e w' => e = .returned (.bool false) ∧ Gr w w')) (e2 : ¬ c = 2) (e3 : decide (200 < x) = false) (HN : Hid (∀ w, Calls Tryz.prog 48 #[.agg #[.int .i64 c, .int .i64 s, .int .i64 x, .int .u64 g]] w fun e w' => ∃ b k cc, BigN 2 w' (.slice (some ⟨b, 0, none⟩) k cc) M ∧ e = .returned (.agg #[.int .i64 s, .slice (some ⟨b, 0, none⟩) k cc, .int .i64 x, .bool false]) ∧ Gb w w')) (HWh : Hid (∀ b k c w, BigN 2 w (.slice (some ⟨b, 0, none⟩) k c) M → Calls Tryz.prog 52 #[.int .i64 mode, .agg #[.int .i64 s, .slice (some ⟨b, 0, none⟩) k c, .int .i64 x, .bool false]] w fun e w' => ∃ b k c, BigN 70005 w' (.slice (some ⟨b, 0, none⟩) k c) C ∧ e = .returned (.tuple #[.slice (some ⟨b, 0, none⟩) k c, .bool wh]) ∧ Gb w w')) (HM : Hid (∀ w, Calls Tryz.prog 23 #[.int .i64 kind, .int .i64 s] w fun e w' => ∃ b k c, BigN 20 w' (.slice (some ⟨b, 0, none⟩) k c) L ∧ e = .returned (.slice (some ⟨b, 0, none⟩) k c) ∧ Gb w w')) (HC : Hid (∀ v v' w, BigN 70005 w v C → BigN 20 w v' L → Calls Tryz.prog 53 #[v, v'] w fun e w' => e = .returned (.int .i64 d) ∧ Gb w w')) (hd : decide (d ≤ 0) = true) (HWw : Hid (∀ b k c w, BigN 70005 w (.slice (some ⟨b, 0, none⟩) k c) C → Calls Tryz.prog 22 #[.int .i64 s, .slice (some ⟨b, 0, none⟩) k c] w fun e w' => e = .returned (.int .u64 z) ∧ Gb w w')) (w : World) :
    Calls Tryz.prog 14 #[.int .i64 f, .int .i64 mode, .int .i64 kind, .int .u64 a] w fun e w' => e = .returned (.agg #[.int .u64 z, .int .i64 16]) ∧ Gb w w' := by
  subst hwh
  have e2' : (c == 2) = false := by simp [e2]
  go_enter Tryz.func14, Tryz.ntmps14
  go_wp2_with (first
    | (go_at_call 21; refine (HK.out _).mono ?_; rintro e wk ⟨rfl, hw⟩; subst hw)
    | (go_at_call 27; refine (HY.out _).mono ?_; rintro e wk ⟨rfl, hw⟩; subst hw)
    | (go_at_call 43; refine (HF.out _).mono ?_; rintro e wk ⟨rfl, hw⟩; subst hw)
    | (go_at_call 44; refine (HU.out _).mono ?_; rintro e w1 ⟨rfl, hg_w1⟩; have ur0 : w1.cell? ⟨w.heap.size, 0, none⟩ = some (.int .u64 0) := hg_w1.c; have urz0 : w1.frozen? ⟨w.heap.size, 0, none⟩ = false := hg_w1.z; have ur1 : w1.cell? ⟨w.heap.size, 1, none⟩ = some (.int .i64 0) := hg_w1.c; have urz1 : w1.frozen? ⟨w.heap.size, 1, none⟩ = false := hg_w1.z; have hz0 := cell_size ur0)
    | (go_at_call 45; refine (HQ.out _).mono ?_; rintro e va ⟨rfl, hg_va⟩; have qr0 : va.cell? ⟨w.heap.size, 0, none⟩ = some (.int .u64 0) := hg_va.c; have qrz0 : va.frozen? ⟨w.heap.size, 0, none⟩ = false := hg_va.z; have qr1 : va.cell? ⟨w.heap.size, 1, none⟩ = some (.int .i64 0) := hg_va.c; have qrz1 : va.frozen? ⟨w.heap.size, 1, none⟩ = false := hg_va.z; have qp0 : va.cell? ⟨w1.heap.size, 0, none⟩ = some (.int .i64 c) := hg_va.c; have qp1 : va.cell? ⟨w1.heap.size, 1, none⟩ = some (.int .i64 s) := hg_va.c; have qp2 : va.cell? ⟨w1.heap.size, 2, none⟩ = some (.int .i64 x) := hg_va.c; have qp3 : va.cell? ⟨w1.heap.size, 3, none⟩ = some (.int .u64 g) := hg_va.c)
    | (go_at_call 48; refine (HN.out _).mono ?_; rintro e w3 ⟨b3, k3, c3, hb3, rfl, hg_w3⟩; have nr0 : w3.cell? ⟨w.heap.size, 0, none⟩ = some (.int .u64 0) := hg_w3.c; have nrz0 : w3.frozen? ⟨w.heap.size, 0, none⟩ = false := hg_w3.z nr0; have nr1 : w3.cell? ⟨w.heap.size, 1, none⟩ = some (.int .i64 0) := hg_w3.c; have nrz1 : w3.frozen? ⟨w.heap.size, 1, none⟩ = false := hg_w3.z nr1; have np0 : w3.cell? ⟨w1.heap.size, 0, none⟩ = some (.int .i64 c) := hg_w3.c; have np1 : w3.cell? ⟨w1.heap.size, 1, none⟩ = some (.int .i64 s) := hg_w3.c; have np2 : w3.cell? ⟨w1.heap.size, 2, none⟩ = some (.int .i64 x) := hg_w3.c; have np3 : w3.cell? ⟨w1.heap.size, 3, none⟩ = some (.int .u64 g) := hg_w3.c)
    | (go_at_call 52; with_reducible refine (HWh.out _ _ _ _ hb3).mono ?_; rintro e w4 ⟨b4, k4, c4, hb4, rfl, hg_w4⟩; have mr0 : w4.cell? ⟨w.heap.size, 0, none⟩ = some (.int .u64 0) := hg_w4.c; have mrz0 : w4.frozen? ⟨w.heap.size, 0, none⟩ = false := hg_w4.z mr0; have mr1 : w4.cell? ⟨w.heap.size, 1, none⟩ = some (.int .i64 0) := hg_w4.c; have mrz1 : w4.frozen? ⟨w.heap.size, 1, none⟩ = false := hg_w4.z mr1; have mp0 : w4.cell? ⟨w1.heap.size, 0, none⟩ = some (.int .i64 c) := hg_w4.c; have mp1 : w4.cell? ⟨w1.heap.size, 1, none⟩ = some (.int .i64 s) := hg_w4.c; have mp2 : w4.cell? ⟨w1.heap.size, 2, none⟩ = some (.int .i64 x) := hg_w4.c; have mp3 : w4.cell? ⟨w1.heap.size, 3, none⟩ = some (.int .u64 g) := hg_w4.c)
    | (go_at_call 23; refine (HM.out _).mono ?_; rintro e w5 ⟨b5, k5, c5, hb5, rfl, hg_w5⟩; have or0 : w5.cell? ⟨w.heap.size, 0, none⟩ = some (.int .u64 0) := hg_w5.c; have orz0 : w5.frozen? ⟨w.heap.size, 0, none⟩ = false := hg_w5.z or0; have or1 : w5.cell? ⟨w.heap.size, 1, none⟩ = some (.int .i64 0) := hg_w5.c; have orz1 : w5.frozen? ⟨w.heap.size, 1, none⟩ = false := hg_w5.z or1; have op0 : w5.cell? ⟨w1.heap.size, 0, none⟩ = some (.int .i64 c) := hg_w5.c; have op1 : w5.cell? ⟨w1.heap.size, 1, none⟩ = some (.int .i64 s) := hg_w5.c; have op2 : w5.cell? ⟨w1.heap.size, 2, none⟩ = some (.int .i64 x) := hg_w5.c; have op3 : w5.cell? ⟨w1.heap.size, 3, none⟩ = some (.int .u64 g) := hg_w5.c)
    | (go_at_call 53; with_reducible refine (HC.out _ _ _ (BigN.gb hb4 hg_w5) hb5).mono ?_; rintro e w6 ⟨rfl, hg_w6⟩; have pr0 : w6.cell? ⟨w.heap.size, 0, none⟩ = some (.int .u64 0) := hg_w6.c; have prz0 : w6.frozen? ⟨w.heap.size, 0, none⟩ = false := hg_w6.z pr0; have pr1 : w6.cell? ⟨w.heap.size, 1, none⟩ = some (.int .i64 0) := hg_w6.c; have prz1 : w6.frozen? ⟨w.heap.size, 1, none⟩ = false := hg_w6.z pr1; have pp0 : w6.cell? ⟨w1.heap.size, 0, none⟩ = some (.int .i64 c) := hg_w6.c; have pp1 : w6.cell? ⟨w1.heap.size, 1, none⟩ = some (.int .i64 s) := hg_w6.c; have pp2 : w6.cell? ⟨w1.heap.size, 2, none⟩ = some (.int .i64 x) := hg_w6.c; have pp3 : w6.cell? ⟨w1.heap.size, 3, none⟩ = some (.int .u64 g) := hg_w6.c)
    | (go_at_call 22; refine (HWw.out _ _ _ _ (BigN.gb hb4 (hg_w5.trans hg_w6))).mono ?_; rintro e w7 ⟨rfl, hg_w7⟩; have zr0 : w7.cell? ⟨w.heap.size, 0, none⟩ = some (.int .u64 0) := hg_w7.c; have zrz0 : w7.frozen? ⟨w.heap.size, 0, none⟩ = false := hg_w7.z zr0; have zr1 : w7.cell? ⟨w.heap.size, 1, none⟩ = some (.int .i64 0) := hg_w7.c; have zrz1 : w7.frozen? ⟨w.heap.size, 1, none⟩ = false := hg_w7.z zr1))
  refine bodyPost_ret (v := .agg #[.int .u64 z, .int .i64 16]) (by simp [results, Tryz.results14, go_sem, zr0, zr1]) rfl ⟨rfl, ?_⟩
  exact Gb.g

set_option maxRecDepth 1000000 in
set_option maxHeartbeats 4000000 in
theorem sToInt_out (f mode kind a B c s x g z d : Int) (S wh : Bool) (M C L : Nat) (B0 : (B == 0) = false) (HK : Hid (∀ w, Calls Tryz.prog 21 #[.int .i64 kind] w fun e w' => e = .returned (.tuple #[.int .i64 B, .bool S]) ∧ w = w')) (HY : Hid (∀ w, Calls Tryz.prog 27 #[.int .i64 mode] w fun e w' => e = .returned (.bool true) ∧ w = w')) (HF : Hid (∀ w, Calls Tryz.prog 43 #[.int .i64 f, .int .u64 a] w fun e w' => e = .returned (.bool true) ∧ w = w')) (HU : Hid (∀ w, Calls Tryz.prog 44 #[.int .i64 f, .int .u64 a] w fun e w' => e = .returned (.agg #[.int .i64 c, .int .i64 s, .int .i64 x, .int .u64 g]) ∧ Gr w w')) (HQ : Hid (∀ w, Calls Tryz.prog 45 #[.agg #[.int .i64 c, .int .i64 s, .int .i64 x, .int .u64 g]] w fun e w' => e = .returned (.bool false) ∧ Gr w w')) (e2 : ¬ c = 2) (e3 : decide (200 < x) = false) (HN : Hid (∀ w, Calls Tryz.prog 48 #[.agg #[.int .i64 c, .int .i64 s, .int .i64 x, .int .u64 g]] w fun e w' => ∃ b k cc, BigN 2 w' (.slice (some ⟨b, 0, none⟩) k cc) M ∧ e = .returned (.agg #[.int .i64 s, .slice (some ⟨b, 0, none⟩) k cc, .int .i64 x, .bool false]) ∧ Gb w w')) (HWh : Hid (∀ b k c w, BigN 2 w (.slice (some ⟨b, 0, none⟩) k c) M → Calls Tryz.prog 52 #[.int .i64 mode, .agg #[.int .i64 s, .slice (some ⟨b, 0, none⟩) k c, .int .i64 x, .bool false]] w fun e w' => ∃ b k c, BigN 70005 w' (.slice (some ⟨b, 0, none⟩) k c) C ∧ e = .returned (.tuple #[.slice (some ⟨b, 0, none⟩) k c, .bool wh]) ∧ Gb w w')) (HM : Hid (∀ w, Calls Tryz.prog 23 #[.int .i64 kind, .int .i64 s] w fun e w' => ∃ b k c, BigN 20 w' (.slice (some ⟨b, 0, none⟩) k c) L ∧ e = .returned (.slice (some ⟨b, 0, none⟩) k c) ∧ Gb w w')) (HC : Hid (∀ v v' w, BigN 70005 w v C → BigN 20 w v' L → Calls Tryz.prog 53 #[v, v'] w fun e w' => e = .returned (.int .i64 d) ∧ Gb w w')) (hd : decide (d ≤ 0) = false) (HWe : Hid (∀ b k c w, BigN 20 w (.slice (some ⟨b, 0, none⟩) k c) L → Calls Tryz.prog 22 #[.int .i64 s, .slice (some ⟨b, 0, none⟩) k c] w fun e w' => e = .returned (.int .u64 z) ∧ Gb w w')) (w : World) :
    Calls Tryz.prog 14 #[.int .i64 f, .int .i64 mode, .int .i64 kind, .int .u64 a] w fun e w' => e = .returned (.agg #[.int .u64 z, .int .i64 1]) ∧ Gb w w' := by
  have e2' : (c == 2) = false := by simp [e2]
  go_enter Tryz.func14, Tryz.ntmps14
  go_wp2_with (first
    | (go_at_call 21; refine (HK.out _).mono ?_; rintro e wk ⟨rfl, hw⟩; subst hw)
    | (go_at_call 27; refine (HY.out _).mono ?_; rintro e wk ⟨rfl, hw⟩; subst hw)
    | (go_at_call 43; refine (HF.out _).mono ?_; rintro e wk ⟨rfl, hw⟩; subst hw)
    | (go_at_call 44; refine (HU.out _).mono ?_; rintro e w1 ⟨rfl, hg_w1⟩; have ur0 : w1.cell? ⟨w.heap.size, 0, none⟩ = some (.int .u64 0) := hg_w1.c; have urz0 : w1.frozen? ⟨w.heap.size, 0, none⟩ = false := hg_w1.z; have ur1 : w1.cell? ⟨w.heap.size, 1, none⟩ = some (.int .i64 0) := hg_w1.c; have urz1 : w1.frozen? ⟨w.heap.size, 1, none⟩ = false := hg_w1.z; have hz0 := cell_size ur0)
    | (go_at_call 45; refine (HQ.out _).mono ?_; rintro e va ⟨rfl, hg_va⟩; have qr0 : va.cell? ⟨w.heap.size, 0, none⟩ = some (.int .u64 0) := hg_va.c; have qrz0 : va.frozen? ⟨w.heap.size, 0, none⟩ = false := hg_va.z; have qr1 : va.cell? ⟨w.heap.size, 1, none⟩ = some (.int .i64 0) := hg_va.c; have qrz1 : va.frozen? ⟨w.heap.size, 1, none⟩ = false := hg_va.z; have qp0 : va.cell? ⟨w1.heap.size, 0, none⟩ = some (.int .i64 c) := hg_va.c; have qp1 : va.cell? ⟨w1.heap.size, 1, none⟩ = some (.int .i64 s) := hg_va.c; have qp2 : va.cell? ⟨w1.heap.size, 2, none⟩ = some (.int .i64 x) := hg_va.c; have qp3 : va.cell? ⟨w1.heap.size, 3, none⟩ = some (.int .u64 g) := hg_va.c)
    | (go_at_call 48; refine (HN.out _).mono ?_; rintro e w3 ⟨b3, k3, c3, hb3, rfl, hg_w3⟩; have nr0 : w3.cell? ⟨w.heap.size, 0, none⟩ = some (.int .u64 0) := hg_w3.c; have nrz0 : w3.frozen? ⟨w.heap.size, 0, none⟩ = false := hg_w3.z nr0; have nr1 : w3.cell? ⟨w.heap.size, 1, none⟩ = some (.int .i64 0) := hg_w3.c; have nrz1 : w3.frozen? ⟨w.heap.size, 1, none⟩ = false := hg_w3.z nr1; have np0 : w3.cell? ⟨w1.heap.size, 0, none⟩ = some (.int .i64 c) := hg_w3.c; have np1 : w3.cell? ⟨w1.heap.size, 1, none⟩ = some (.int .i64 s) := hg_w3.c; have np2 : w3.cell? ⟨w1.heap.size, 2, none⟩ = some (.int .i64 x) := hg_w3.c; have np3 : w3.cell? ⟨w1.heap.size, 3, none⟩ = some (.int .u64 g) := hg_w3.c)
    | (go_at_call 52; with_reducible refine (HWh.out _ _ _ _ hb3).mono ?_; rintro e w4 ⟨b4, k4, c4, hb4, rfl, hg_w4⟩; have mr0 : w4.cell? ⟨w.heap.size, 0, none⟩ = some (.int .u64 0) := hg_w4.c; have mrz0 : w4.frozen? ⟨w.heap.size, 0, none⟩ = false := hg_w4.z mr0; have mr1 : w4.cell? ⟨w.heap.size, 1, none⟩ = some (.int .i64 0) := hg_w4.c; have mrz1 : w4.frozen? ⟨w.heap.size, 1, none⟩ = false := hg_w4.z mr1; have mp0 : w4.cell? ⟨w1.heap.size, 0, none⟩ = some (.int .i64 c) := hg_w4.c; have mp1 : w4.cell? ⟨w1.heap.size, 1, none⟩ = some (.int .i64 s) := hg_w4.c; have mp2 : w4.cell? ⟨w1.heap.size, 2, none⟩ = some (.int .i64 x) := hg_w4.c; have mp3 : w4.cell? ⟨w1.heap.size, 3, none⟩ = some (.int .u64 g) := hg_w4.c)
    | (go_at_call 23; refine (HM.out _).mono ?_; rintro e w5 ⟨b5, k5, c5, hb5, rfl, hg_w5⟩; have or0 : w5.cell? ⟨w.heap.size, 0, none⟩ = some (.int .u64 0) := hg_w5.c; have orz0 : w5.frozen? ⟨w.heap.size, 0, none⟩ = false := hg_w5.z or0; have or1 : w5.cell? ⟨w.heap.size, 1, none⟩ = some (.int .i64 0) := hg_w5.c; have orz1 : w5.frozen? ⟨w.heap.size, 1, none⟩ = false := hg_w5.z or1; have op0 : w5.cell? ⟨w1.heap.size, 0, none⟩ = some (.int .i64 c) := hg_w5.c; have op1 : w5.cell? ⟨w1.heap.size, 1, none⟩ = some (.int .i64 s) := hg_w5.c; have op2 : w5.cell? ⟨w1.heap.size, 2, none⟩ = some (.int .i64 x) := hg_w5.c; have op3 : w5.cell? ⟨w1.heap.size, 3, none⟩ = some (.int .u64 g) := hg_w5.c)
    | (go_at_call 53; with_reducible refine (HC.out _ _ _ (BigN.gb hb4 hg_w5) hb5).mono ?_; rintro e w6 ⟨rfl, hg_w6⟩; have pr0 : w6.cell? ⟨w.heap.size, 0, none⟩ = some (.int .u64 0) := hg_w6.c; have prz0 : w6.frozen? ⟨w.heap.size, 0, none⟩ = false := hg_w6.z pr0; have pr1 : w6.cell? ⟨w.heap.size, 1, none⟩ = some (.int .i64 0) := hg_w6.c; have prz1 : w6.frozen? ⟨w.heap.size, 1, none⟩ = false := hg_w6.z pr1; have pp0 : w6.cell? ⟨w1.heap.size, 0, none⟩ = some (.int .i64 c) := hg_w6.c; have pp1 : w6.cell? ⟨w1.heap.size, 1, none⟩ = some (.int .i64 s) := hg_w6.c; have pp2 : w6.cell? ⟨w1.heap.size, 2, none⟩ = some (.int .i64 x) := hg_w6.c; have pp3 : w6.cell? ⟨w1.heap.size, 3, none⟩ = some (.int .u64 g) := hg_w6.c))
  go_region_held3 (fun w' => w'.cell? ⟨w1.heap.size, 1, none⟩ = some (.int .i64 s))
    ((go_split_ands; (repeat' apply And.intro) <;> exact kh))
    (first
      | (go_at_call 23; refine (HM.out _).mono ?_; rintro e n8 ⟨b8, k8, c8, hb8, rfl, hg_n8⟩; have nr0 : n8.cell? ⟨w.heap.size, 0, none⟩ = some (.int .u64 0) := hg_n8.c; have nrz0 : n8.frozen? ⟨w.heap.size, 0, none⟩ = false := hg_n8.z nr0; have nr1 : n8.cell? ⟨w.heap.size, 1, none⟩ = some (.int .i64 0) := hg_n8.c; have nrz1 : n8.frozen? ⟨w.heap.size, 1, none⟩ = false := hg_n8.z nr1)
      | (go_at_call 22; refine (HWe.out _ _ _ _ (BigN.gb hb8 Gb.g)).mono ?_; rintro e n9 ⟨rfl, hg_n9⟩; have zr0 : n9.cell? ⟨w.heap.size, 0, none⟩ = some (.int .u64 0) := hg_n9.c; have zrz0 : n9.frozen? ⟨w.heap.size, 0, none⟩ = false := hg_n9.z zr0; have zr1 : n9.cell? ⟨w.heap.size, 1, none⟩ = some (.int .i64 0) := hg_n9.c; have zrz1 : n9.frozen? ⟨w.heap.size, 1, none⟩ = false := hg_n9.z zr1))
  all_goals (try go_split_ands)
  all_goals go_wp2
  all_goals
    refine bodyPost_ret (v := .agg #[.int .u64 z, .int .i64 1]) (by simp [results, Tryz.results14, go_sem, zr0, zr1]) rfl ⟨rfl, ?_⟩
    exact Gb.g

end Go.Proofs.YtfakbjgbbcigpaaGreatDoor
