/- spec.Convert: the ways through it; impl.Convert. -/
import Derived.Test.YtfakbjgbbcigpaaGreatDoorB4
import Derived.Test.YtfakbjgbbcigpaaGreatDoorB7
import Derived.Deep.DeepCutAuto
set_option linter.unusedVariables false
set_option linter.unusedSimpArgs false
namespace Go.Proofs.YtfakbjgbbcigpaaGreatDoor
open Go.RowKit

set_option maxRecDepth 1000000 in
set_option maxHeartbeats 4000000 in
theorem sConv_bad1 (f t mode a z fl : Int) (HFm : Hid (∀ w, Calls Tryz.prog 26 #[.int .i64 t] w fun e w' => e = .returned (.bool false) ∧ w = w')) (HL : Hid (∀ w, Calls Tryz.prog 28 #[.int .i64 t] w fun e w' => e = .returned (.agg #[.int .u64 z, .int .i64 fl]) ∧ Gr w w')) (w : World) :
    Calls Tryz.prog 11 #[.int .i64 f, .int .i64 t, .int .i64 mode, .int .u64 a] w fun e w' => e = .returned (.agg #[.int .u64 z, .int .i64 fl]) ∧ Gb w w' := by
  go_enter Tryz.func11, Tryz.ntmps11
  go_wp2_with (first
    | (go_at_call 26; refine (HFm.out _).mono ?_; rintro e wk ⟨rfl, hw⟩; subst hw)
    | (go_at_call 28; refine (HL.out _).mono ?_; rintro e w9 ⟨rfl, hg_w9⟩; have zr0 : w9.cell? ⟨w.heap.size, 0, none⟩ = some (.int .u64 0) := hg_w9.c; have zrz0 : w9.frozen? ⟨w.heap.size, 0, none⟩ = false := hg_w9.z; have zr1 : w9.cell? ⟨w.heap.size, 1, none⟩ = some (.int .i64 0) := hg_w9.c; have zrz1 : w9.frozen? ⟨w.heap.size, 1, none⟩ = false := hg_w9.z))
  refine bodyPost_ret (v := .agg #[.int .u64 z, .int .i64 fl]) (by simp [results, Tryz.results11, go_sem, zr0, zr1]) rfl ⟨rfl, ?_⟩
  exact Gb.g

set_option maxRecDepth 1000000 in
set_option maxHeartbeats 4000000 in
theorem sConv_bad2 (f t mode a z fl : Int) (HFm : Hid (∀ w, Calls Tryz.prog 26 #[.int .i64 t] w fun e w' => e = .returned (.bool true) ∧ w = w')) (HWy : Hid (∀ w, Calls Tryz.prog 27 #[.int .i64 mode] w fun e w' => e = .returned (.bool false) ∧ w = w')) (HL : Hid (∀ w, Calls Tryz.prog 28 #[.int .i64 t] w fun e w' => e = .returned (.agg #[.int .u64 z, .int .i64 fl]) ∧ Gr w w')) (w : World) :
    Calls Tryz.prog 11 #[.int .i64 f, .int .i64 t, .int .i64 mode, .int .u64 a] w fun e w' => e = .returned (.agg #[.int .u64 z, .int .i64 fl]) ∧ Gb w w' := by
  go_enter Tryz.func11, Tryz.ntmps11
  go_wp2_with (first
    | (go_at_call 26; refine (HFm.out _).mono ?_; rintro e wk ⟨rfl, hw⟩; subst hw)
    | (go_at_call 27; refine (HWy.out _).mono ?_; rintro e wk ⟨rfl, hw⟩; subst hw)
    | (go_at_call 28; refine (HL.out _).mono ?_; rintro e w9 ⟨rfl, hg_w9⟩; have zr0 : w9.cell? ⟨w.heap.size, 0, none⟩ = some (.int .u64 0) := hg_w9.c; have zrz0 : w9.frozen? ⟨w.heap.size, 0, none⟩ = false := hg_w9.z; have zr1 : w9.cell? ⟨w.heap.size, 1, none⟩ = some (.int .i64 0) := hg_w9.c; have zrz1 : w9.frozen? ⟨w.heap.size, 1, none⟩ = false := hg_w9.z))
  refine bodyPost_ret (v := .agg #[.int .u64 z, .int .i64 fl]) (by simp [results, Tryz.results11, go_sem, zr0, zr1]) rfl ⟨rfl, ?_⟩
  exact Gb.g

set_option maxRecDepth 1000000 in
set_option maxHeartbeats 4000000 in
theorem sConv_bad3 (f t mode a z fl : Int) (HFm : Hid (∀ w, Calls Tryz.prog 26 #[.int .i64 t] w fun e w' => e = .returned (.bool true) ∧ w = w')) (HWy : Hid (∀ w, Calls Tryz.prog 27 #[.int .i64 mode] w fun e w' => e = .returned (.bool true) ∧ w = w')) (HF : Hid (∀ w, Calls Tryz.prog 43 #[.int .i64 f, .int .u64 a] w fun e w' => e = .returned (.bool false) ∧ w = w')) (HL : Hid (∀ w, Calls Tryz.prog 28 #[.int .i64 t] w fun e w' => e = .returned (.agg #[.int .u64 z, .int .i64 fl]) ∧ Gr w w')) (w : World) :
    Calls Tryz.prog 11 #[.int .i64 f, .int .i64 t, .int .i64 mode, .int .u64 a] w fun e w' => e = .returned (.agg #[.int .u64 z, .int .i64 fl]) ∧ Gb w w' := by
  go_enter Tryz.func11, Tryz.ntmps11
  go_wp2_with (first
    | (go_at_call 26; refine (HFm.out _).mono ?_; rintro e wk ⟨rfl, hw⟩; subst hw)
    | (go_at_call 27; refine (HWy.out _).mono ?_; rintro e wk ⟨rfl, hw⟩; subst hw)
    | (go_at_call 43; refine (HF.out _).mono ?_; rintro e wk ⟨rfl, hw⟩; subst hw)
    | (go_at_call 28; refine (HL.out _).mono ?_; rintro e w9 ⟨rfl, hg_w9⟩; have zr0 : w9.cell? ⟨w.heap.size, 0, none⟩ = some (.int .u64 0) := hg_w9.c; have zrz0 : w9.frozen? ⟨w.heap.size, 0, none⟩ = false := hg_w9.z; have zr1 : w9.cell? ⟨w.heap.size, 1, none⟩ = some (.int .i64 0) := hg_w9.c; have zrz1 : w9.frozen? ⟨w.heap.size, 1, none⟩ = false := hg_w9.z))
  refine bodyPost_ret (v := .agg #[.int .u64 z, .int .i64 fl]) (by simp [results, Tryz.results11, go_sem, zr0, zr1]) rfl ⟨rfl, ?_⟩
  exact Gb.g

set_option maxRecDepth 1000000 in
set_option maxHeartbeats 4000000 in
theorem sConv_nan (f t mode a c s x g z fl : Int) (b : Bool) (HFm : Hid (∀ w, Calls Tryz.prog 26 #[.int .i64 t] w fun e w' => e = .returned (.bool true) ∧ w = w')) (HWy : Hid (∀ w, Calls Tryz.prog 27 #[.int .i64 mode] w fun e w' => e = .returned (.bool true) ∧ w = w')) (HF : Hid (∀ w, Calls Tryz.prog 43 #[.int .i64 f, .int .u64 a] w fun e w' => e = .returned (.bool true) ∧ w = w')) (HU : Hid (∀ w, Calls Tryz.prog 44 #[.int .i64 f, .int .u64 a] w fun e w' => e = .returned (.agg #[.int .i64 c, .int .i64 s, .int .i64 x, .int .u64 g]) ∧ Gr w w')) (HQ : Hid (∀ w, Calls Tryz.prog 45 #[.agg #[.int .i64 c, .int .i64 s, .int .i64 x, .int .u64 g]] w fun e w' => e = .returned (.bool true) ∧ Gr w w')) (e4 : (c == 4) = b) (HL : Hid (∀ w, Calls Tryz.prog 46 #[.int .i64 t, .bool b] w fun e w' => e = .returned (.agg #[.int .u64 z, .int .i64 fl]) ∧ Gr w w')) (w : World) :
    Calls Tryz.prog 11 #[.int .i64 f, .int .i64 t, .int .i64 mode, .int .u64 a] w fun e w' => e = .returned (.agg #[.int .u64 z, .int .i64 fl]) ∧ Gb w w' := by
  go_enter Tryz.func11, Tryz.ntmps11
  go_wp2_with (first
    | (go_at_call 26; refine (HFm.out _).mono ?_; rintro e wk ⟨rfl, hw⟩; subst hw)
    | (go_at_call 27; refine (HWy.out _).mono ?_; rintro e wk ⟨rfl, hw⟩; subst hw)
    | (go_at_call 43; refine (HF.out _).mono ?_; rintro e wk ⟨rfl, hw⟩; subst hw)
    | (go_at_call 44; refine (HU.out _).mono ?_; rintro e w1 ⟨rfl, hg_w1⟩; have ur0 : w1.cell? ⟨w.heap.size, 0, none⟩ = some (.int .u64 0) := hg_w1.c; have urz0 : w1.frozen? ⟨w.heap.size, 0, none⟩ = false := hg_w1.z; have ur1 : w1.cell? ⟨w.heap.size, 1, none⟩ = some (.int .i64 0) := hg_w1.c; have urz1 : w1.frozen? ⟨w.heap.size, 1, none⟩ = false := hg_w1.z; have hz0 := cell_size ur0)
    | (go_at_call 45; refine (HQ.out _).mono ?_; rintro e va ⟨rfl, hg_va⟩; have qr0 : va.cell? ⟨w.heap.size, 0, none⟩ = some (.int .u64 0) := hg_va.c; have qrz0 : va.frozen? ⟨w.heap.size, 0, none⟩ = false := hg_va.z; have qr1 : va.cell? ⟨w.heap.size, 1, none⟩ = some (.int .i64 0) := hg_va.c; have qrz1 : va.frozen? ⟨w.heap.size, 1, none⟩ = false := hg_va.z; have qp0 : va.cell? ⟨w1.heap.size, 0, none⟩ = some (.int .i64 c) := hg_va.c; have qp1 : va.cell? ⟨w1.heap.size, 1, none⟩ = some (.int .i64 s) := hg_va.c; have qp2 : va.cell? ⟨w1.heap.size, 2, none⟩ = some (.int .i64 x) := hg_va.c; have qp3 : va.cell? ⟨w1.heap.size, 3, none⟩ = some (.int .u64 g) := hg_va.c)
    | (go_at_call 46; refine (HL.out _).mono ?_; rintro e w9 ⟨rfl, hg_w9⟩; have zr0 : w9.cell? ⟨w.heap.size, 0, none⟩ = some (.int .u64 0) := hg_w9.c; have zrz0 : w9.frozen? ⟨w.heap.size, 0, none⟩ = false := hg_w9.z; have zr1 : w9.cell? ⟨w.heap.size, 1, none⟩ = some (.int .i64 0) := hg_w9.c; have zrz1 : w9.frozen? ⟨w.heap.size, 1, none⟩ = false := hg_w9.z))
  refine bodyPost_ret (v := .agg #[.int .u64 z, .int .i64 fl]) (by simp [results, Tryz.results11, go_sem, zr0, zr1]) rfl ⟨rfl, ?_⟩
  exact Gb.g

set_option maxRecDepth 1000000 in
set_option maxHeartbeats 4000000 in
theorem sConv_inf (f t mode a c s x g z fl : Int) (HFm : Hid (∀ w, Calls Tryz.prog 26 #[.int .i64 t] w fun e w' => e = .returned (.bool true) ∧ w = w')) (HWy : Hid (∀ w, Calls Tryz.prog 27 #[.int .i64 mode] w fun e w' => e = .returned (.bool true) ∧ w = w')) (HF : Hid (∀ w, Calls Tryz.prog 43 #[.int .i64 f, .int .u64 a] w fun e w' => e = .returned (.bool true) ∧ w = w')) (HU : Hid (∀ w, Calls Tryz.prog 44 #[.int .i64 f, .int .u64 a] w fun e w' => e = .returned (.agg #[.int .i64 c, .int .i64 s, .int .i64 x, .int .u64 g]) ∧ Gr w w')) (HQ : Hid (∀ w, Calls Tryz.prog 45 #[.agg #[.int .i64 c, .int .i64 s, .int .i64 x, .int .u64 g]] w fun e w' => e = .returned (.bool false) ∧ Gr w w')) (e2 : c = 2) (HL : Hid (∀ w, Calls Tryz.prog 47 #[.int .i64 t, .int .i64 s] w fun e w' => e = .returned (.agg #[.int .u64 z, .int .i64 fl]) ∧ Gr w w')) (w : World) :
    Calls Tryz.prog 11 #[.int .i64 f, .int .i64 t, .int .i64 mode, .int .u64 a] w fun e w' => e = .returned (.agg #[.int .u64 z, .int .i64 fl]) ∧ Gb w w' := by
  subst e2
  go_enter Tryz.func11, Tryz.ntmps11
  go_wp2_with (first
    | (go_at_call 26; refine (HFm.out _).mono ?_; rintro e wk ⟨rfl, hw⟩; subst hw)
    | (go_at_call 27; refine (HWy.out _).mono ?_; rintro e wk ⟨rfl, hw⟩; subst hw)
    | (go_at_call 43; refine (HF.out _).mono ?_; rintro e wk ⟨rfl, hw⟩; subst hw)
    | (go_at_call 44; refine (HU.out _).mono ?_; rintro e w1 ⟨rfl, hg_w1⟩; have ur0 : w1.cell? ⟨w.heap.size, 0, none⟩ = some (.int .u64 0) := hg_w1.c; have urz0 : w1.frozen? ⟨w.heap.size, 0, none⟩ = false := hg_w1.z; have ur1 : w1.cell? ⟨w.heap.size, 1, none⟩ = some (.int .i64 0) := hg_w1.c; have urz1 : w1.frozen? ⟨w.heap.size, 1, none⟩ = false := hg_w1.z; have hz0 := cell_size ur0)
    | (go_at_call 45; refine (HQ.out _).mono ?_; rintro e va ⟨rfl, hg_va⟩; have qr0 : va.cell? ⟨w.heap.size, 0, none⟩ = some (.int .u64 0) := hg_va.c; have qrz0 : va.frozen? ⟨w.heap.size, 0, none⟩ = false := hg_va.z; have qr1 : va.cell? ⟨w.heap.size, 1, none⟩ = some (.int .i64 0) := hg_va.c; have qrz1 : va.frozen? ⟨w.heap.size, 1, none⟩ = false := hg_va.z; have qp0 : va.cell? ⟨w1.heap.size, 0, none⟩ = some (.int .i64 2) := hg_va.c; have qp1 : va.cell? ⟨w1.heap.size, 1, none⟩ = some (.int .i64 s) := hg_va.c; have qp2 : va.cell? ⟨w1.heap.size, 2, none⟩ = some (.int .i64 x) := hg_va.c; have qp3 : va.cell? ⟨w1.heap.size, 3, none⟩ = some (.int .u64 g) := hg_va.c)
    | (go_at_call 47; refine (HL.out _).mono ?_; rintro e w9 ⟨rfl, hg_w9⟩; have zr0 : w9.cell? ⟨w.heap.size, 0, none⟩ = some (.int .u64 0) := hg_w9.c; have zrz0 : w9.frozen? ⟨w.heap.size, 0, none⟩ = false := hg_w9.z; have zr1 : w9.cell? ⟨w.heap.size, 1, none⟩ = some (.int .i64 0) := hg_w9.c; have zrz1 : w9.frozen? ⟨w.heap.size, 1, none⟩ = false := hg_w9.z))
  refine bodyPost_ret (v := .agg #[.int .u64 z, .int .i64 fl]) (by simp [results, Tryz.results11, go_sem, zr0, zr1]) rfl ⟨rfl, ?_⟩
  exact Gb.g

set_option maxRecDepth 1000000 in
set_option maxHeartbeats 4000000 in
theorem sConv_zero (f t mode a c s x g z fl : Int) (HFm : Hid (∀ w, Calls Tryz.prog 26 #[.int .i64 t] w fun e w' => e = .returned (.bool true) ∧ w = w')) (HWy : Hid (∀ w, Calls Tryz.prog 27 #[.int .i64 mode] w fun e w' => e = .returned (.bool true) ∧ w = w')) (HF : Hid (∀ w, Calls Tryz.prog 43 #[.int .i64 f, .int .u64 a] w fun e w' => e = .returned (.bool true) ∧ w = w')) (HU : Hid (∀ w, Calls Tryz.prog 44 #[.int .i64 f, .int .u64 a] w fun e w' => e = .returned (.agg #[.int .i64 c, .int .i64 s, .int .i64 x, .int .u64 g]) ∧ Gr w w')) (HQ : Hid (∀ w, Calls Tryz.prog 45 #[.agg #[.int .i64 c, .int .i64 s, .int .i64 x, .int .u64 g]] w fun e w' => e = .returned (.bool false) ∧ Gr w w')) (e2 : c = 0) (HL : Hid (∀ w, Calls Tryz.prog 29 #[.int .i64 t, .int .i64 s] w fun e w' => e = .returned (.agg #[.int .u64 z, .int .i64 fl]) ∧ Gr w w')) (w : World) :
    Calls Tryz.prog 11 #[.int .i64 f, .int .i64 t, .int .i64 mode, .int .u64 a] w fun e w' => e = .returned (.agg #[.int .u64 z, .int .i64 fl]) ∧ Gb w w' := by
  subst e2
  go_enter Tryz.func11, Tryz.ntmps11
  go_wp2_with (first
    | (go_at_call 26; refine (HFm.out _).mono ?_; rintro e wk ⟨rfl, hw⟩; subst hw)
    | (go_at_call 27; refine (HWy.out _).mono ?_; rintro e wk ⟨rfl, hw⟩; subst hw)
    | (go_at_call 43; refine (HF.out _).mono ?_; rintro e wk ⟨rfl, hw⟩; subst hw)
    | (go_at_call 44; refine (HU.out _).mono ?_; rintro e w1 ⟨rfl, hg_w1⟩; have ur0 : w1.cell? ⟨w.heap.size, 0, none⟩ = some (.int .u64 0) := hg_w1.c; have urz0 : w1.frozen? ⟨w.heap.size, 0, none⟩ = false := hg_w1.z; have ur1 : w1.cell? ⟨w.heap.size, 1, none⟩ = some (.int .i64 0) := hg_w1.c; have urz1 : w1.frozen? ⟨w.heap.size, 1, none⟩ = false := hg_w1.z; have hz0 := cell_size ur0)
    | (go_at_call 45; refine (HQ.out _).mono ?_; rintro e va ⟨rfl, hg_va⟩; have qr0 : va.cell? ⟨w.heap.size, 0, none⟩ = some (.int .u64 0) := hg_va.c; have qrz0 : va.frozen? ⟨w.heap.size, 0, none⟩ = false := hg_va.z; have qr1 : va.cell? ⟨w.heap.size, 1, none⟩ = some (.int .i64 0) := hg_va.c; have qrz1 : va.frozen? ⟨w.heap.size, 1, none⟩ = false := hg_va.z; have qp0 : va.cell? ⟨w1.heap.size, 0, none⟩ = some (.int .i64 0) := hg_va.c; have qp1 : va.cell? ⟨w1.heap.size, 1, none⟩ = some (.int .i64 s) := hg_va.c; have qp2 : va.cell? ⟨w1.heap.size, 2, none⟩ = some (.int .i64 x) := hg_va.c; have qp3 : va.cell? ⟨w1.heap.size, 3, none⟩ = some (.int .u64 g) := hg_va.c)
    | (go_at_call 29; refine (HL.out _).mono ?_; rintro e w9 ⟨rfl, hg_w9⟩; have zr0 : w9.cell? ⟨w.heap.size, 0, none⟩ = some (.int .u64 0) := hg_w9.c; have zrz0 : w9.frozen? ⟨w.heap.size, 0, none⟩ = false := hg_w9.z; have zr1 : w9.cell? ⟨w.heap.size, 1, none⟩ = some (.int .i64 0) := hg_w9.c; have zrz1 : w9.frozen? ⟨w.heap.size, 1, none⟩ = false := hg_w9.z))
  refine bodyPost_ret (v := .agg #[.int .u64 z, .int .i64 fl]) (by simp [results, Tryz.results11, go_sem, zr0, zr1]) rfl ⟨rfl, ?_⟩
  exact Gb.g

set_option maxRecDepth 1000000 in
set_option maxHeartbeats 4000000 in
theorem sConv_num (f t mode a c s x g : Int) (M : Nat) (HFm : Hid (∀ w, Calls Tryz.prog 26 #[.int .i64 t] w fun e w' => e = .returned (.bool true) ∧ w = w')) (HWy : Hid (∀ w, Calls Tryz.prog 27 #[.int .i64 mode] w fun e w' => e = .returned (.bool true) ∧ w = w')) (HF : Hid (∀ w, Calls Tryz.prog 43 #[.int .i64 f, .int .u64 a] w fun e w' => e = .returned (.bool true) ∧ w = w')) (HU : Hid (∀ w, Calls Tryz.prog 44 #[.int .i64 f, .int .u64 a] w fun e w' => e = .returned (.agg #[.int .i64 c, .int .i64 s, .int .i64 x, .int .u64 g]) ∧ Gr w w')) (HQ : Hid (∀ w, Calls Tryz.prog 45 #[.agg #[.int .i64 c, .int .i64 s, .int .i64 x, .int .u64 g]] w fun e w' => e = .returned (.bool false) ∧ Gr w w')) (e2 : c = 1) (HN : Hid (∀ w, Calls Tryz.prog 48 #[.agg #[.int .i64 c, .int .i64 s, .int .i64 x, .int .u64 g]] w fun e w' => ∃ b k cc, BigN 2 w' (.slice (some ⟨b, 0, none⟩) k cc) M ∧ e = .returned (.agg #[.int .i64 s, .slice (some ⟨b, 0, none⟩) k cc, .int .i64 x, .bool false]) ∧ Gb w w')) (Q : Int → Int → Prop) (HR : Hid (∀ v w, BigN 2 w v M → Calls Tryz.prog 30 #[.int .i64 t, .int .i64 mode, .agg #[.int .i64 s, v, .int .i64 x, .bool false]] w fun e w' => ∃ z fl, Q z fl ∧ e = .returned (.agg #[.int .u64 z, .int .i64 fl]) ∧ Gb w w')) (w : World) :
    Calls Tryz.prog 11 #[.int .i64 f, .int .i64 t, .int .i64 mode, .int .u64 a] w fun e w' => ∃ z fl, Q z fl ∧ e = .returned (.agg #[.int .u64 z, .int .i64 fl]) ∧ Gb w w' := by
  subst e2
  go_enter Tryz.func11, Tryz.ntmps11
  go_wp2_with (first
    | (go_at_call 26; refine (HFm.out _).mono ?_; rintro e wk ⟨rfl, hw⟩; subst hw)
    | (go_at_call 27; refine (HWy.out _).mono ?_; rintro e wk ⟨rfl, hw⟩; subst hw)
    | (go_at_call 43; refine (HF.out _).mono ?_; rintro e wk ⟨rfl, hw⟩; subst hw)
    | (go_at_call 44; refine (HU.out _).mono ?_; rintro e w1 ⟨rfl, hg_w1⟩; have ur0 : w1.cell? ⟨w.heap.size, 0, none⟩ = some (.int .u64 0) := hg_w1.c; have urz0 : w1.frozen? ⟨w.heap.size, 0, none⟩ = false := hg_w1.z; have ur1 : w1.cell? ⟨w.heap.size, 1, none⟩ = some (.int .i64 0) := hg_w1.c; have urz1 : w1.frozen? ⟨w.heap.size, 1, none⟩ = false := hg_w1.z; have hz0 := cell_size ur0)
    | (go_at_call 45; refine (HQ.out _).mono ?_; rintro e va ⟨rfl, hg_va⟩; have qr0 : va.cell? ⟨w.heap.size, 0, none⟩ = some (.int .u64 0) := hg_va.c; have qrz0 : va.frozen? ⟨w.heap.size, 0, none⟩ = false := hg_va.z; have qr1 : va.cell? ⟨w.heap.size, 1, none⟩ = some (.int .i64 0) := hg_va.c; have qrz1 : va.frozen? ⟨w.heap.size, 1, none⟩ = false := hg_va.z; have qp0 : va.cell? ⟨w1.heap.size, 0, none⟩ = some (.int .i64 1) := hg_va.c; have qp1 : va.cell? ⟨w1.heap.size, 1, none⟩ = some (.int .i64 s) := hg_va.c; have qp2 : va.cell? ⟨w1.heap.size, 2, none⟩ = some (.int .i64 x) := hg_va.c; have qp3 : va.cell? ⟨w1.heap.size, 3, none⟩ = some (.int .u64 g) := hg_va.c)
    | (go_at_call 48; refine (HN.out _).mono ?_; rintro e w3 ⟨b, k, cc, hb, rfl, hg_w3⟩; have nr0 : w3.cell? ⟨w.heap.size, 0, none⟩ = some (.int .u64 0) := hg_w3.c; have nrz0 : w3.frozen? ⟨w.heap.size, 0, none⟩ = false := hg_w3.z nr0; have nr1 : w3.cell? ⟨w.heap.size, 1, none⟩ = some (.int .i64 0) := hg_w3.c; have nrz1 : w3.frozen? ⟨w.heap.size, 1, none⟩ = false := hg_w3.z nr1)
    | (go_at_call 30; refine (HR.out _ _ hb).mono ?_; rintro e w4 ⟨z, fl, hq, rfl, hg_w4⟩; have zr0 : w4.cell? ⟨w.heap.size, 0, none⟩ = some (.int .u64 0) := hg_w4.c; have zrz0 : w4.frozen? ⟨w.heap.size, 0, none⟩ = false := hg_w4.z zr0; have zr1 : w4.cell? ⟨w.heap.size, 1, none⟩ = some (.int .i64 0) := hg_w4.c; have zrz1 : w4.frozen? ⟨w.heap.size, 1, none⟩ = false := hg_w4.z zr1))
  refine bodyPost_ret (v := .agg #[.int .u64 z, .int .i64 fl]) (by simp [results, Tryz.results11, go_sem, zr0, zr1]) rfl ⟨z, fl, hq, rfl, ?_⟩
  exact Gb.g

set_option maxRecDepth 1000000 in
set_option maxHeartbeats 4000000 in
theorem conv_no1 (p mn mx md nan f t mode a p' mn' mx' : Int) (k : Nat) {w : World} (HS : Hid (∀ w', Gr w w' → Calls Tryz.prog 31 #[.int .i64 t, .int .i64 mode] w' fun x w'' => x = .returned (.tuple #[.agg #[.int .i64 p, .int .i64 mn, .int .i64 mx, .int .i64 md, Value.nilFunc], .bool false]) ∧ Gr w' w'')) (HF : Hid (∀ w', Gr w w' → Calls Tryz.prog 41 #[.int .i64 f] w' fun e w'' => e = .returned (.tuple #[.agg #[.int .i64 p', .int .i64 mn', .int .i64 mx'], .bool false]) ∧ Gr w' w'')) (HN : Hid (∀ w, Calls Tryz.prog 33 #[.agg #[.int .i64 p, .int .i64 mn, .int .i64 mx]] w fun e w' => e = .returned (.agg #[.int .u64 nan, .int .i64 1]) ∧ Gr w w')) :
    Calls Tryz.prog 10 #[.int .i64 f, .int .i64 t, .int .i64 mode, .int .u64 a] w fun e w' => e = .returned (.agg #[.int .u64 nan, .int .i64 1]) ∧ Gr w w' := by
  go_enter Tryz.func10, Tryz.ntmps10
  go_wp2_with (first
    | (go_at_call 31; refine (HS.out _ Gr.g).mono ?_; rintro x w1 ⟨rfl, hg_w1⟩; have kr0 : w1.cell? ⟨w.heap.size, 0, none⟩ = some (.int .u64 0) := hg_w1.c; have krz0 : w1.frozen? ⟨w.heap.size, 0, none⟩ = false := hg_w1.z; have kr1 : w1.cell? ⟨w.heap.size, 1, none⟩ = some (.int .i64 0) := hg_w1.c; have krz1 : w1.frozen? ⟨w.heap.size, 1, none⟩ = false := hg_w1.z; have hz1 := cell_size kr0)
    | (go_at_call 41; refine (HF.out _ Gr.g).mono ?_; rintro x w2 ⟨rfl, hg_w2⟩; have lr0 : w2.cell? ⟨w.heap.size, 0, none⟩ = some (.int .u64 0) := hg_w2.c; have lrz0 : w2.frozen? ⟨w.heap.size, 0, none⟩ = false := hg_w2.z; have lr1 : w2.cell? ⟨w.heap.size, 1, none⟩ = some (.int .i64 0) := hg_w2.c; have lrz1 : w2.frozen? ⟨w.heap.size, 1, none⟩ = false := hg_w2.z; have ls0 : w2.cell? ⟨w1.heap.size, 0, none⟩ = some (.int .i64 p) := hg_w2.c; have lsA0 := (fun ob => cell_alloc ob ls0); have ls1 : w2.cell? ⟨w1.heap.size, 1, none⟩ = some (.int .i64 mn) := hg_w2.c; have lsA1 := (fun ob => cell_alloc ob ls1); have ls2 : w2.cell? ⟨w1.heap.size, 2, none⟩ = some (.int .i64 mx) := hg_w2.c; have lsA2 := (fun ob => cell_alloc ob ls2); have ls3 : w2.cell? ⟨w1.heap.size, 3, none⟩ = some (.int .i64 md) := hg_w2.c; have lsA3 := (fun ob => cell_alloc ob ls3); have ls4 : w2.cell? ⟨w1.heap.size, 4, none⟩ = some (Value.nilFunc) := hg_w2.c; have lsA4 := (fun ob => cell_alloc ob ls4); have lA := (fun ob => cell_alloc ob lr0); have hz2 := cell_size lr0)
    | (go_at_call 33; refine (HN.out _).mono ?_; rintro x w3 ⟨rfl, hg_w3⟩; have br0 : w3.cell? ⟨w.heap.size, 0, none⟩ = some (.int .u64 0) := hg_w3.c; have brz0 : w3.frozen? ⟨w.heap.size, 0, none⟩ = false := hg_w3.z; have br1 : w3.cell? ⟨w.heap.size, 1, none⟩ = some (.int .i64 0) := hg_w3.c; have brz1 : w3.frozen? ⟨w.heap.size, 1, none⟩ = false := hg_w3.z))
  refine bodyPost_ret (v := .agg #[.int .u64 nan, .int .i64 1]) (by simp [results, Tryz.results10, go_sem, br0, br1]) rfl ⟨rfl, ?_⟩
  exact Gr.g

set_option maxRecDepth 1000000 in
set_option maxHeartbeats 4000000 in
theorem conv_no2 (p mn mx md nan f t mode a p' mn' mx' : Int) (k : Nat) {w : World} (HS : Hid (∀ w', Gr w w' → Calls Tryz.prog 31 #[.int .i64 t, .int .i64 mode] w' fun x w'' => x = .returned (.tuple #[.agg #[.int .i64 p, .int .i64 mn, .int .i64 mx, .int .i64 md, Value.nilFunc], .bool false]) ∧ Gr w' w'')) (HF : Hid (∀ w', Gr w w' → Calls Tryz.prog 41 #[.int .i64 f] w' fun e w'' => e = .returned (.tuple #[.agg #[.int .i64 p', .int .i64 mn', .int .i64 mx'], .bool true]) ∧ Gr w' w'')) (HN : Hid (∀ w, Calls Tryz.prog 33 #[.agg #[.int .i64 p, .int .i64 mn, .int .i64 mx]] w fun e w' => e = .returned (.agg #[.int .u64 nan, .int .i64 1]) ∧ Gr w w')) :
    Calls Tryz.prog 10 #[.int .i64 f, .int .i64 t, .int .i64 mode, .int .u64 a] w fun e w' => e = .returned (.agg #[.int .u64 nan, .int .i64 1]) ∧ Gr w w' := by
  go_enter Tryz.func10, Tryz.ntmps10
  go_wp2_with (first
    | (go_at_call 31; refine (HS.out _ Gr.g).mono ?_; rintro x w1 ⟨rfl, hg_w1⟩; have kr0 : w1.cell? ⟨w.heap.size, 0, none⟩ = some (.int .u64 0) := hg_w1.c; have krz0 : w1.frozen? ⟨w.heap.size, 0, none⟩ = false := hg_w1.z; have kr1 : w1.cell? ⟨w.heap.size, 1, none⟩ = some (.int .i64 0) := hg_w1.c; have krz1 : w1.frozen? ⟨w.heap.size, 1, none⟩ = false := hg_w1.z; have hz1 := cell_size kr0)
    | (go_at_call 41; refine (HF.out _ Gr.g).mono ?_; rintro x w2 ⟨rfl, hg_w2⟩; have lr0 : w2.cell? ⟨w.heap.size, 0, none⟩ = some (.int .u64 0) := hg_w2.c; have lrz0 : w2.frozen? ⟨w.heap.size, 0, none⟩ = false := hg_w2.z; have lr1 : w2.cell? ⟨w.heap.size, 1, none⟩ = some (.int .i64 0) := hg_w2.c; have lrz1 : w2.frozen? ⟨w.heap.size, 1, none⟩ = false := hg_w2.z; have ls0 : w2.cell? ⟨w1.heap.size, 0, none⟩ = some (.int .i64 p) := hg_w2.c; have lsA0 := (fun ob => cell_alloc ob ls0); have ls1 : w2.cell? ⟨w1.heap.size, 1, none⟩ = some (.int .i64 mn) := hg_w2.c; have lsA1 := (fun ob => cell_alloc ob ls1); have ls2 : w2.cell? ⟨w1.heap.size, 2, none⟩ = some (.int .i64 mx) := hg_w2.c; have lsA2 := (fun ob => cell_alloc ob ls2); have ls3 : w2.cell? ⟨w1.heap.size, 3, none⟩ = some (.int .i64 md) := hg_w2.c; have lsA3 := (fun ob => cell_alloc ob ls3); have ls4 : w2.cell? ⟨w1.heap.size, 4, none⟩ = some (Value.nilFunc) := hg_w2.c; have lsA4 := (fun ob => cell_alloc ob ls4); have lA := (fun ob => cell_alloc ob lr0); have hz2 := cell_size lr0)
    | (go_at_call 33; refine (HN.out _).mono ?_; rintro x w3 ⟨rfl, hg_w3⟩; have br0 : w3.cell? ⟨w.heap.size, 0, none⟩ = some (.int .u64 0) := hg_w3.c; have brz0 : w3.frozen? ⟨w.heap.size, 0, none⟩ = false := hg_w3.z; have br1 : w3.cell? ⟨w.heap.size, 1, none⟩ = some (.int .i64 0) := hg_w3.c; have brz1 : w3.frozen? ⟨w.heap.size, 1, none⟩ = false := hg_w3.z))
  refine bodyPost_ret (v := .agg #[.int .u64 nan, .int .i64 1]) (by simp [results, Tryz.results10, go_sem, br0, br1]) rfl ⟨rfl, ?_⟩
  exact Gr.g

set_option maxRecDepth 1000000 in
set_option maxHeartbeats 4000000 in
theorem conv_no3 (p mn mx md nan f t mode a p' mn' mx' : Int) (k : Nat) {w : World} (HS : Hid (∀ w', Gr w w' → Calls Tryz.prog 31 #[.int .i64 t, .int .i64 mode] w' fun x w'' => x = .returned (.tuple #[.agg #[.int .i64 p, .int .i64 mn, .int .i64 mx, .int .i64 md, .func (.func k) #[] #[]], .bool true]) ∧ Gr w' w'')) (HF : Hid (∀ w', Gr w w' → Calls Tryz.prog 41 #[.int .i64 f] w' fun e w'' => e = .returned (.tuple #[.agg #[.int .i64 p', .int .i64 mn', .int .i64 mx'], .bool false]) ∧ Gr w' w'')) (HN : Hid (∀ w, Calls Tryz.prog 33 #[.agg #[.int .i64 p, .int .i64 mn, .int .i64 mx]] w fun e w' => e = .returned (.agg #[.int .u64 nan, .int .i64 1]) ∧ Gr w w')) :
    Calls Tryz.prog 10 #[.int .i64 f, .int .i64 t, .int .i64 mode, .int .u64 a] w fun e w' => e = .returned (.agg #[.int .u64 nan, .int .i64 1]) ∧ Gr w w' := by
  go_enter Tryz.func10, Tryz.ntmps10
  go_wp2_with (first
    | (go_at_call 31; refine (HS.out _ Gr.g).mono ?_; rintro x w1 ⟨rfl, hg_w1⟩; have kr0 : w1.cell? ⟨w.heap.size, 0, none⟩ = some (.int .u64 0) := hg_w1.c; have krz0 : w1.frozen? ⟨w.heap.size, 0, none⟩ = false := hg_w1.z; have kr1 : w1.cell? ⟨w.heap.size, 1, none⟩ = some (.int .i64 0) := hg_w1.c; have krz1 : w1.frozen? ⟨w.heap.size, 1, none⟩ = false := hg_w1.z; have hz1 := cell_size kr0)
    | (go_at_call 41; refine (HF.out _ Gr.g).mono ?_; rintro x w2 ⟨rfl, hg_w2⟩; have lr0 : w2.cell? ⟨w.heap.size, 0, none⟩ = some (.int .u64 0) := hg_w2.c; have lrz0 : w2.frozen? ⟨w.heap.size, 0, none⟩ = false := hg_w2.z; have lr1 : w2.cell? ⟨w.heap.size, 1, none⟩ = some (.int .i64 0) := hg_w2.c; have lrz1 : w2.frozen? ⟨w.heap.size, 1, none⟩ = false := hg_w2.z; have ls0 : w2.cell? ⟨w1.heap.size, 0, none⟩ = some (.int .i64 p) := hg_w2.c; have lsA0 := (fun ob => cell_alloc ob ls0); have ls1 : w2.cell? ⟨w1.heap.size, 1, none⟩ = some (.int .i64 mn) := hg_w2.c; have lsA1 := (fun ob => cell_alloc ob ls1); have ls2 : w2.cell? ⟨w1.heap.size, 2, none⟩ = some (.int .i64 mx) := hg_w2.c; have lsA2 := (fun ob => cell_alloc ob ls2); have ls3 : w2.cell? ⟨w1.heap.size, 3, none⟩ = some (.int .i64 md) := hg_w2.c; have lsA3 := (fun ob => cell_alloc ob ls3); have ls4 : w2.cell? ⟨w1.heap.size, 4, none⟩ = some (.func (.func k) #[] #[]) := hg_w2.c; have lsA4 := (fun ob => cell_alloc ob ls4); have lA := (fun ob => cell_alloc ob lr0); have hz2 := cell_size lr0)
    | (go_at_call 33; refine (HN.out _).mono ?_; rintro x w3 ⟨rfl, hg_w3⟩; have br0 : w3.cell? ⟨w.heap.size, 0, none⟩ = some (.int .u64 0) := hg_w3.c; have brz0 : w3.frozen? ⟨w.heap.size, 0, none⟩ = false := hg_w3.z; have br1 : w3.cell? ⟨w.heap.size, 1, none⟩ = some (.int .i64 0) := hg_w3.c; have brz1 : w3.frozen? ⟨w.heap.size, 1, none⟩ = false := hg_w3.z))
  refine bodyPost_ret (v := .agg #[.int .u64 nan, .int .i64 1]) (by simp [results, Tryz.results10, go_sem, br0, br1]) rfl ⟨rfl, ?_⟩
  exact Gr.g

set_option maxRecDepth 1000000 in
set_option maxHeartbeats 4000000 in
theorem conv_ok (p mn mx md f t a p' mn' mx' sx ex cx xh xl : Int) (tx : Bool) (k : Nat) {w : World} (HS : Hid (∀ w', Gr w w' → Calls Tryz.prog 31 #[.int .i64 t, .int .i64 md] w' fun x w'' => x = .returned (.tuple #[.agg #[.int .i64 p, .int .i64 mn, .int .i64 mx, .int .i64 md, .func (.func k) #[] #[]], .bool true]) ∧ Gr w' w'')) (HF : Hid (∀ w', Gr w w' → Calls Tryz.prog 41 #[.int .i64 f] w' fun e w'' => e = .returned (.tuple #[.agg #[.int .i64 p', .int .i64 mn', .int .i64 mx'], .bool true]) ∧ Gr w' w''))
    (HA : Hid (∀ w, Calls Tryz.prog 36 #[.agg #[.int .i64 p', .int .i64 mn', .int .i64 mx'], .int .u64 a] w fun e w' => e = .returned (.agg #[.int .i64 sx, .int .i64 ex, .int .i64 cx, .int .u64 xh, .int .u64 xl, .bool tx, .int .i64 0]) ∧ Gr w w'))
    (R : Int → Int → Prop) (HP : Hid (∀ w, Calls Tryz.prog 42 #[.agg #[.int .i64 p, .int .i64 mn, .int .i64 mx, .int .i64 md, .func (.func k) #[] #[]], .agg #[.int .i64 sx, .int .i64 ex, .int .i64 cx, .int .u64 xh, .int .u64 xl, .bool tx, .int .i64 0]] w fun e w' => ∃ z fl, R z fl ∧ e = .returned (.agg #[.int .u64 z, .int .i64 fl]) ∧ Gr w w')) :
    Calls Tryz.prog 10 #[.int .i64 f, .int .i64 t, .int .i64 md, .int .u64 a] w fun e w' => ∃ z fl, R z fl ∧ e = .returned (.agg #[.int .u64 z, .int .i64 fl]) ∧ Gr w w' := by
  go_enter Tryz.func10, Tryz.ntmps10
  go_wp2_with (first
    | (go_at_call 31; refine (HS.out _ Gr.g).mono ?_; rintro x w1 ⟨rfl, hg_w1⟩; have kr0 : w1.cell? ⟨w.heap.size, 0, none⟩ = some (.int .u64 0) := hg_w1.c; have krz0 : w1.frozen? ⟨w.heap.size, 0, none⟩ = false := hg_w1.z; have kr1 : w1.cell? ⟨w.heap.size, 1, none⟩ = some (.int .i64 0) := hg_w1.c; have krz1 : w1.frozen? ⟨w.heap.size, 1, none⟩ = false := hg_w1.z; have hz1 := cell_size kr0)
    | (go_at_call 41; refine (HF.out _ Gr.g).mono ?_; rintro x w2 ⟨rfl, hg_w2⟩; have lr0 : w2.cell? ⟨w.heap.size, 0, none⟩ = some (.int .u64 0) := hg_w2.c; have lrz0 : w2.frozen? ⟨w.heap.size, 0, none⟩ = false := hg_w2.z; have lr1 : w2.cell? ⟨w.heap.size, 1, none⟩ = some (.int .i64 0) := hg_w2.c; have lrz1 : w2.frozen? ⟨w.heap.size, 1, none⟩ = false := hg_w2.z; have ls0 : w2.cell? ⟨w1.heap.size, 0, none⟩ = some (.int .i64 p) := hg_w2.c; have lsA0 := (fun ob => cell_alloc ob ls0); have ls1 : w2.cell? ⟨w1.heap.size, 1, none⟩ = some (.int .i64 mn) := hg_w2.c; have lsA1 := (fun ob => cell_alloc ob ls1); have ls2 : w2.cell? ⟨w1.heap.size, 2, none⟩ = some (.int .i64 mx) := hg_w2.c; have lsA2 := (fun ob => cell_alloc ob ls2); have ls3 : w2.cell? ⟨w1.heap.size, 3, none⟩ = some (.int .i64 md) := hg_w2.c; have lsA3 := (fun ob => cell_alloc ob ls3); have ls4 : w2.cell? ⟨w1.heap.size, 4, none⟩ = some (.func (.func k) #[] #[]) := hg_w2.c; have lsA4 := (fun ob => cell_alloc ob ls4); have lA := (fun ob => cell_alloc ob lr0); have hz2 := cell_size lr0))
  go_region_held3 (fun w' => w'.cell? ⟨w1.heap.size, 0, none⟩ = some (.int .i64 p) ∧ w'.cell? ⟨w1.heap.size, 1, none⟩ = some (.int .i64 mn) ∧ w'.cell? ⟨w1.heap.size, 2, none⟩ = some (.int .i64 mx) ∧ w'.cell? ⟨w1.heap.size, 3, none⟩ = some (.int .i64 md) ∧ w'.cell? ⟨w1.heap.size, 4, none⟩ = some (.func (.func k) #[] #[]) ∧ w'.cell? ⟨w2.heap.size, 0, none⟩ = some (.int .i64 p') ∧ w'.cell? ⟨w2.heap.size, 1, none⟩ = some (.int .i64 mn') ∧ w'.cell? ⟨w2.heap.size, 2, none⟩ = some (.int .i64 mx'))
    ((go_split_ands; (repeat' apply And.intro) <;> exact kl))
    (first
      | (go_at_call 36; refine (HA.out _).mono ?_; rintro e w3 ⟨rfl, hg_w3⟩; have cr0 : w3.cell? ⟨w.heap.size, 0, none⟩ = some (.int .u64 0) := hg_w3.c; have crz0 : w3.frozen? ⟨w.heap.size, 0, none⟩ = false := hg_w3.z; have cr1 : w3.cell? ⟨w.heap.size, 1, none⟩ = some (.int .i64 0) := hg_w3.c; have crz1 : w3.frozen? ⟨w.heap.size, 1, none⟩ = false := hg_w3.z)
      | (go_at_call 42; refine (HP.out _).mono ?_; rintro e w4 ⟨z, fl, hr, rfl, hg_w4⟩; have er0 : w4.cell? ⟨w.heap.size, 0, none⟩ = some (.int .u64 0) := hg_w4.c; have erz0 : w4.frozen? ⟨w.heap.size, 0, none⟩ = false := hg_w4.z; have er1 : w4.cell? ⟨w.heap.size, 1, none⟩ = some (.int .i64 0) := hg_w4.c; have erz1 : w4.frozen? ⟨w.heap.size, 1, none⟩ = false := hg_w4.z))
  all_goals (try go_split_ands)
  all_goals go_wp2
  all_goals
    refine bodyPost_ret (v := .agg #[.int .u64 z, .int .i64 fl]) (by simp [results, Tryz.results10, go_sem, er0, er1]) rfl ⟨z, fl, hr, rfl, ?_⟩
    exact Gr.g

end Go.Proofs.YtfakbjgbbcigpaaGreatDoor
