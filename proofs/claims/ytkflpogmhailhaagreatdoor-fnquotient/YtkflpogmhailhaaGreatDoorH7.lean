/- spec.Sqrt: the ways through it. -/
import Derived.Test.YtkflpogmhailhaaGreatDoorH5
import Derived.Test.YtkflpogmhailhaaGreatDoorH3
import Derived.Deep.DeepCutAuto
import Derived.Test.YtkflpogmhailhaaGreatDoorH4
import Derived.Test.YtkflpogmhailhaaGreatDoorHC
set_option linter.unusedVariables false
set_option linter.unusedSimpArgs false
namespace Go.Proofs.YtkflpogmhailhaaGreatDoor
open Go.RowKit


set_option maxRecDepth 1000000 in
set_option maxHeartbeats 4000000 in
theorem sSqrt_bad (f mode a : Int) (HF : Hid (∀ w, Calls Tryz.prog 37 #[.int .i64 f, .int .i64 mode, .int .u64 a, .int .u64 a] w fun e w' => e = .returned (.bool false) ∧ w = w')) (z fl : Int) (HL : Hid (∀ w, Calls Tryz.prog 41 #[.int .i64 f] w fun e w' => e = .returned (.agg #[.int .u64 z, .int .i64 fl]) ∧ Gr w w')) (w : World) :
    Calls Tryz.prog 34 #[.int .i64 f, .int .i64 mode, .int .u64 a] w fun e w' => e = .returned (.agg #[.int .u64 z, .int .i64 fl]) ∧ Gb w w' := by
  go_enter Tryz.func34, Tryz.ntmps34
  go_wp2_with (first
    | (go_at_call 37; refine (HF.out _).mono ?_; rintro e wk ⟨rfl, hw⟩; subst hw)
    | (go_at_call 41; refine (HL.out _).mono ?_; rintro e w9 ⟨rfl, hg_w9⟩; have zr0 : w9.cell? ⟨w.heap.size, 0, none⟩ = some (.int .u64 0) := hg_w9.c; have zrz0 : w9.frozen? ⟨w.heap.size, 0, none⟩ = false := hg_w9.z; have zr1 : w9.cell? ⟨w.heap.size, 1, none⟩ = some (.int .i64 0) := hg_w9.c; have zrz1 : w9.frozen? ⟨w.heap.size, 1, none⟩ = false := hg_w9.z))
  refine bodyPost_ret (v := .agg #[.int .u64 z, .int .i64 fl]) (by simp [results, Tryz.results34, go_sem, zr0, zr1]) rfl ⟨rfl, ?_⟩
  exact Gb.g

set_option maxRecDepth 1000000 in
set_option maxHeartbeats 4000000 in
theorem sSqrt_nan (f mode a ca sa xa ga : Int) (HF : Hid (∀ w, Calls Tryz.prog 37 #[.int .i64 f, .int .i64 mode, .int .u64 a, .int .u64 a] w fun e w' => e = .returned (.bool true) ∧ w = w')) (HUa : Hid (∀ w, Calls Tryz.prog 26 #[.int .i64 f, .int .u64 a] w fun e w' => e = .returned (.agg #[.int .i64 ca, .int .i64 sa, .int .i64 xa, .int .u64 ga]) ∧ Gr w w')) (HQa : Hid (∀ w, Calls Tryz.prog 42 #[.agg #[.int .i64 ca, .int .i64 sa, .int .i64 xa, .int .u64 ga]] w fun e w' => e = .returned (.bool true) ∧ Gr w w')) (t : Bool) (e5 : (ca == 4) = t) (z fl : Int) (HL : Hid (∀ w, Calls Tryz.prog 43 #[.int .i64 f, .bool t] w fun e w' => e = .returned (.agg #[.int .u64 z, .int .i64 fl]) ∧ Gr w w')) (w : World) :
    Calls Tryz.prog 34 #[.int .i64 f, .int .i64 mode, .int .u64 a] w fun e w' => e = .returned (.agg #[.int .u64 z, .int .i64 fl]) ∧ Gb w w' := by
  cases t
  · go_enter Tryz.func34, Tryz.ntmps34
    go_wp2_with (first
      | (go_at_call 37; refine (HF.out _).mono ?_; rintro e wk ⟨rfl, hw⟩; subst hw)
      | (go_at_call 26; first | (with_reducible refine (HUa.out _).mono ?_; rintro e w1 ⟨rfl, hg_w1⟩; have u0r0 : w1.cell? ⟨w.heap.size, 0, none⟩ = some (.int .u64 0) := hg_w1.c; have u0rz0 : w1.frozen? ⟨w.heap.size, 0, none⟩ = false := hg_w1.z; have u0r1 : w1.cell? ⟨w.heap.size, 1, none⟩ = some (.int .i64 0) := hg_w1.c; have u0rz1 : w1.frozen? ⟨w.heap.size, 1, none⟩ = false := hg_w1.z; have hz0 := cell_size u0r0))
      | (go_at_call 42; first | (with_reducible refine (HQa.out _).mono ?_; rintro e va ⟨rfl, hg_va⟩; have qar0 : va.cell? ⟨w.heap.size, 0, none⟩ = some (.int .u64 0) := hg_va.c; have qarz0 : va.frozen? ⟨w.heap.size, 0, none⟩ = false := hg_va.z; have qar1 : va.cell? ⟨w.heap.size, 1, none⟩ = some (.int .i64 0) := hg_va.c; have qarz1 : va.frozen? ⟨w.heap.size, 1, none⟩ = false := hg_va.z; have qap00 : va.cell? ⟨w1.heap.size, 0, none⟩ = some (.int .i64 ca) := hg_va.c; have qap01 : va.cell? ⟨w1.heap.size, 1, none⟩ = some (.int .i64 sa) := hg_va.c; have qap02 : va.cell? ⟨w1.heap.size, 2, none⟩ = some (.int .i64 xa) := hg_va.c; have qap03 : va.cell? ⟨w1.heap.size, 3, none⟩ = some (.int .u64 ga) := hg_va.c))
      | (go_at_call 43; refine (HL.out _).mono ?_; rintro e w9 ⟨rfl, hg_w9⟩; have zr0 : w9.cell? ⟨w.heap.size, 0, none⟩ = some (.int .u64 0) := hg_w9.c; have zrz0 : w9.frozen? ⟨w.heap.size, 0, none⟩ = false := hg_w9.z; have zr1 : w9.cell? ⟨w.heap.size, 1, none⟩ = some (.int .i64 0) := hg_w9.c; have zrz1 : w9.frozen? ⟨w.heap.size, 1, none⟩ = false := hg_w9.z))
    refine bodyPost_ret (v := .agg #[.int .u64 z, .int .i64 fl]) (by simp [results, Tryz.results34, go_sem, zr0, zr1]) rfl ⟨rfl, ?_⟩
    exact Gb.g
  · go_enter Tryz.func34, Tryz.ntmps34
    go_wp2_with (first
      | (go_at_call 37; refine (HF.out _).mono ?_; rintro e wk ⟨rfl, hw⟩; subst hw)
      | (go_at_call 26; first | (with_reducible refine (HUa.out _).mono ?_; rintro e w1 ⟨rfl, hg_w1⟩; have u0r0 : w1.cell? ⟨w.heap.size, 0, none⟩ = some (.int .u64 0) := hg_w1.c; have u0rz0 : w1.frozen? ⟨w.heap.size, 0, none⟩ = false := hg_w1.z; have u0r1 : w1.cell? ⟨w.heap.size, 1, none⟩ = some (.int .i64 0) := hg_w1.c; have u0rz1 : w1.frozen? ⟨w.heap.size, 1, none⟩ = false := hg_w1.z; have hz0 := cell_size u0r0))
      | (go_at_call 42; first | (with_reducible refine (HQa.out _).mono ?_; rintro e va ⟨rfl, hg_va⟩; have qar0 : va.cell? ⟨w.heap.size, 0, none⟩ = some (.int .u64 0) := hg_va.c; have qarz0 : va.frozen? ⟨w.heap.size, 0, none⟩ = false := hg_va.z; have qar1 : va.cell? ⟨w.heap.size, 1, none⟩ = some (.int .i64 0) := hg_va.c; have qarz1 : va.frozen? ⟨w.heap.size, 1, none⟩ = false := hg_va.z; have qap00 : va.cell? ⟨w1.heap.size, 0, none⟩ = some (.int .i64 ca) := hg_va.c; have qap01 : va.cell? ⟨w1.heap.size, 1, none⟩ = some (.int .i64 sa) := hg_va.c; have qap02 : va.cell? ⟨w1.heap.size, 2, none⟩ = some (.int .i64 xa) := hg_va.c; have qap03 : va.cell? ⟨w1.heap.size, 3, none⟩ = some (.int .u64 ga) := hg_va.c))
      | (go_at_call 43; refine (HL.out _).mono ?_; rintro e w9 ⟨rfl, hg_w9⟩; have zr0 : w9.cell? ⟨w.heap.size, 0, none⟩ = some (.int .u64 0) := hg_w9.c; have zrz0 : w9.frozen? ⟨w.heap.size, 0, none⟩ = false := hg_w9.z; have zr1 : w9.cell? ⟨w.heap.size, 1, none⟩ = some (.int .i64 0) := hg_w9.c; have zrz1 : w9.frozen? ⟨w.heap.size, 1, none⟩ = false := hg_w9.z))
    refine bodyPost_ret (v := .agg #[.int .u64 z, .int .i64 fl]) (by simp [results, Tryz.results34, go_sem, zr0, zr1]) rfl ⟨rfl, ?_⟩
    exact Gb.g

set_option maxRecDepth 1000000 in
set_option maxHeartbeats 4000000 in
theorem sSqrt_zero (f mode a ca sa xa ga : Int) (HF : Hid (∀ w, Calls Tryz.prog 37 #[.int .i64 f, .int .i64 mode, .int .u64 a, .int .u64 a] w fun e w' => e = .returned (.bool true) ∧ w = w')) (HUa : Hid (∀ w, Calls Tryz.prog 26 #[.int .i64 f, .int .u64 a] w fun e w' => e = .returned (.agg #[.int .i64 ca, .int .i64 sa, .int .i64 xa, .int .u64 ga]) ∧ Gr w w')) (HQa : Hid (∀ w, Calls Tryz.prog 42 #[.agg #[.int .i64 ca, .int .i64 sa, .int .i64 xa, .int .u64 ga]] w fun e w' => e = .returned (.bool false) ∧ Gr w w')) (e1 : ca = 0) (z fl : Int) (HL : Hid (∀ w, Calls Tryz.prog 50 #[.int .i64 f, .int .i64 sa] w fun e w' => e = .returned (.agg #[.int .u64 z, .int .i64 fl]) ∧ Gr w w')) (w : World) :
    Calls Tryz.prog 34 #[.int .i64 f, .int .i64 mode, .int .u64 a] w fun e w' => e = .returned (.agg #[.int .u64 z, .int .i64 fl]) ∧ Gb w w' := by
  subst e1
  go_enter Tryz.func34, Tryz.ntmps34
  go_wp2_with (first
    | (go_at_call 37; refine (HF.out _).mono ?_; rintro e wk ⟨rfl, hw⟩; subst hw)
    | (go_at_call 26; first | (with_reducible refine (HUa.out _).mono ?_; rintro e w1 ⟨rfl, hg_w1⟩; have u0r0 : w1.cell? ⟨w.heap.size, 0, none⟩ = some (.int .u64 0) := hg_w1.c; have u0rz0 : w1.frozen? ⟨w.heap.size, 0, none⟩ = false := hg_w1.z; have u0r1 : w1.cell? ⟨w.heap.size, 1, none⟩ = some (.int .i64 0) := hg_w1.c; have u0rz1 : w1.frozen? ⟨w.heap.size, 1, none⟩ = false := hg_w1.z; have hz0 := cell_size u0r0))
    | (go_at_call 42; first | (with_reducible refine (HQa.out _).mono ?_; rintro e va ⟨rfl, hg_va⟩; have qar0 : va.cell? ⟨w.heap.size, 0, none⟩ = some (.int .u64 0) := hg_va.c; have qarz0 : va.frozen? ⟨w.heap.size, 0, none⟩ = false := hg_va.z; have qar1 : va.cell? ⟨w.heap.size, 1, none⟩ = some (.int .i64 0) := hg_va.c; have qarz1 : va.frozen? ⟨w.heap.size, 1, none⟩ = false := hg_va.z; have qap00 : va.cell? ⟨w1.heap.size, 0, none⟩ = some (.int .i64 0) := hg_va.c; have qap01 : va.cell? ⟨w1.heap.size, 1, none⟩ = some (.int .i64 sa) := hg_va.c; have qap02 : va.cell? ⟨w1.heap.size, 2, none⟩ = some (.int .i64 xa) := hg_va.c; have qap03 : va.cell? ⟨w1.heap.size, 3, none⟩ = some (.int .u64 ga) := hg_va.c))
    | (go_at_call 50; refine (HL.out _).mono ?_; rintro e w9 ⟨rfl, hg_w9⟩; have zr0 : w9.cell? ⟨w.heap.size, 0, none⟩ = some (.int .u64 0) := hg_w9.c; have zrz0 : w9.frozen? ⟨w.heap.size, 0, none⟩ = false := hg_w9.z; have zr1 : w9.cell? ⟨w.heap.size, 1, none⟩ = some (.int .i64 0) := hg_w9.c; have zrz1 : w9.frozen? ⟨w.heap.size, 1, none⟩ = false := hg_w9.z))
  refine bodyPost_ret (v := .agg #[.int .u64 z, .int .i64 fl]) (by simp [results, Tryz.results34, go_sem, zr0, zr1]) rfl ⟨rfl, ?_⟩
  exact Gb.g

set_option maxRecDepth 1000000 in
set_option maxHeartbeats 4000000 in
theorem sSqrt_neg (f mode a ca sa xa ga : Int) (HF : Hid (∀ w, Calls Tryz.prog 37 #[.int .i64 f, .int .i64 mode, .int .u64 a, .int .u64 a] w fun e w' => e = .returned (.bool true) ∧ w = w')) (HUa : Hid (∀ w, Calls Tryz.prog 26 #[.int .i64 f, .int .u64 a] w fun e w' => e = .returned (.agg #[.int .i64 ca, .int .i64 sa, .int .i64 xa, .int .u64 ga]) ∧ Gr w w')) (HQa : Hid (∀ w, Calls Tryz.prog 42 #[.agg #[.int .i64 ca, .int .i64 sa, .int .i64 xa, .int .u64 ga]] w fun e w' => e = .returned (.bool false) ∧ Gr w w')) (e1 : (ca == 0) = false) (e2 : sa = 1) (z fl : Int) (HL : Hid (∀ w, Calls Tryz.prog 41 #[.int .i64 f] w fun e w' => e = .returned (.agg #[.int .u64 z, .int .i64 fl]) ∧ Gr w w')) (w : World) :
    Calls Tryz.prog 34 #[.int .i64 f, .int .i64 mode, .int .u64 a] w fun e w' => e = .returned (.agg #[.int .u64 z, .int .i64 fl]) ∧ Gb w w' := by
  subst e2
  go_enter Tryz.func34, Tryz.ntmps34
  go_wp2_with (first
    | (go_at_call 37; refine (HF.out _).mono ?_; rintro e wk ⟨rfl, hw⟩; subst hw)
    | (go_at_call 26; first | (with_reducible refine (HUa.out _).mono ?_; rintro e w1 ⟨rfl, hg_w1⟩; have u0r0 : w1.cell? ⟨w.heap.size, 0, none⟩ = some (.int .u64 0) := hg_w1.c; have u0rz0 : w1.frozen? ⟨w.heap.size, 0, none⟩ = false := hg_w1.z; have u0r1 : w1.cell? ⟨w.heap.size, 1, none⟩ = some (.int .i64 0) := hg_w1.c; have u0rz1 : w1.frozen? ⟨w.heap.size, 1, none⟩ = false := hg_w1.z; have hz0 := cell_size u0r0))
    | (go_at_call 42; first | (with_reducible refine (HQa.out _).mono ?_; rintro e va ⟨rfl, hg_va⟩; have qar0 : va.cell? ⟨w.heap.size, 0, none⟩ = some (.int .u64 0) := hg_va.c; have qarz0 : va.frozen? ⟨w.heap.size, 0, none⟩ = false := hg_va.z; have qar1 : va.cell? ⟨w.heap.size, 1, none⟩ = some (.int .i64 0) := hg_va.c; have qarz1 : va.frozen? ⟨w.heap.size, 1, none⟩ = false := hg_va.z; have qap00 : va.cell? ⟨w1.heap.size, 0, none⟩ = some (.int .i64 ca) := hg_va.c; have qap01 : va.cell? ⟨w1.heap.size, 1, none⟩ = some (.int .i64 1) := hg_va.c; have qap02 : va.cell? ⟨w1.heap.size, 2, none⟩ = some (.int .i64 xa) := hg_va.c; have qap03 : va.cell? ⟨w1.heap.size, 3, none⟩ = some (.int .u64 ga) := hg_va.c))
    | (go_at_call 41; refine (HL.out _).mono ?_; rintro e w9 ⟨rfl, hg_w9⟩; have zr0 : w9.cell? ⟨w.heap.size, 0, none⟩ = some (.int .u64 0) := hg_w9.c; have zrz0 : w9.frozen? ⟨w.heap.size, 0, none⟩ = false := hg_w9.z; have zr1 : w9.cell? ⟨w.heap.size, 1, none⟩ = some (.int .i64 0) := hg_w9.c; have zrz1 : w9.frozen? ⟨w.heap.size, 1, none⟩ = false := hg_w9.z))
  refine bodyPost_ret (v := .agg #[.int .u64 z, .int .i64 fl]) (by simp [results, Tryz.results34, go_sem, zr0, zr1]) rfl ⟨rfl, ?_⟩
  exact Gb.g

set_option maxRecDepth 1000000 in
set_option maxHeartbeats 4000000 in
theorem sSqrt_inf (f mode a ca sa xa ga : Int) (HF : Hid (∀ w, Calls Tryz.prog 37 #[.int .i64 f, .int .i64 mode, .int .u64 a, .int .u64 a] w fun e w' => e = .returned (.bool true) ∧ w = w')) (HUa : Hid (∀ w, Calls Tryz.prog 26 #[.int .i64 f, .int .u64 a] w fun e w' => e = .returned (.agg #[.int .i64 ca, .int .i64 sa, .int .i64 xa, .int .u64 ga]) ∧ Gr w w')) (HQa : Hid (∀ w, Calls Tryz.prog 42 #[.agg #[.int .i64 ca, .int .i64 sa, .int .i64 xa, .int .u64 ga]] w fun e w' => e = .returned (.bool false) ∧ Gr w w')) (e1 : ca = 2) (e2 : sa = 0) (z fl : Int) (HL : Hid (∀ w, Calls Tryz.prog 56 #[.int .i64 f, .int .i64 0] w fun e w' => e = .returned (.agg #[.int .u64 z, .int .i64 fl]) ∧ Gr w w')) (w : World) :
    Calls Tryz.prog 34 #[.int .i64 f, .int .i64 mode, .int .u64 a] w fun e w' => e = .returned (.agg #[.int .u64 z, .int .i64 fl]) ∧ Gb w w' := by
  subst e1 e2
  go_enter Tryz.func34, Tryz.ntmps34
  go_wp2_with (first
    | (go_at_call 37; refine (HF.out _).mono ?_; rintro e wk ⟨rfl, hw⟩; subst hw)
    | (go_at_call 26; first | (with_reducible refine (HUa.out _).mono ?_; rintro e w1 ⟨rfl, hg_w1⟩; have u0r0 : w1.cell? ⟨w.heap.size, 0, none⟩ = some (.int .u64 0) := hg_w1.c; have u0rz0 : w1.frozen? ⟨w.heap.size, 0, none⟩ = false := hg_w1.z; have u0r1 : w1.cell? ⟨w.heap.size, 1, none⟩ = some (.int .i64 0) := hg_w1.c; have u0rz1 : w1.frozen? ⟨w.heap.size, 1, none⟩ = false := hg_w1.z; have hz0 := cell_size u0r0))
    | (go_at_call 42; first | (with_reducible refine (HQa.out _).mono ?_; rintro e va ⟨rfl, hg_va⟩; have qar0 : va.cell? ⟨w.heap.size, 0, none⟩ = some (.int .u64 0) := hg_va.c; have qarz0 : va.frozen? ⟨w.heap.size, 0, none⟩ = false := hg_va.z; have qar1 : va.cell? ⟨w.heap.size, 1, none⟩ = some (.int .i64 0) := hg_va.c; have qarz1 : va.frozen? ⟨w.heap.size, 1, none⟩ = false := hg_va.z; have qap00 : va.cell? ⟨w1.heap.size, 0, none⟩ = some (.int .i64 2) := hg_va.c; have qap01 : va.cell? ⟨w1.heap.size, 1, none⟩ = some (.int .i64 0) := hg_va.c; have qap02 : va.cell? ⟨w1.heap.size, 2, none⟩ = some (.int .i64 xa) := hg_va.c; have qap03 : va.cell? ⟨w1.heap.size, 3, none⟩ = some (.int .u64 ga) := hg_va.c))
    | (go_at_call 56; refine (HL.out _).mono ?_; rintro e w9 ⟨rfl, hg_w9⟩; have zr0 : w9.cell? ⟨w.heap.size, 0, none⟩ = some (.int .u64 0) := hg_w9.c; have zrz0 : w9.frozen? ⟨w.heap.size, 0, none⟩ = false := hg_w9.z; have zr1 : w9.cell? ⟨w.heap.size, 1, none⟩ = some (.int .i64 0) := hg_w9.c; have zrz1 : w9.frozen? ⟨w.heap.size, 1, none⟩ = false := hg_w9.z))
  refine bodyPost_ret (v := .agg #[.int .u64 z, .int .i64 fl]) (by simp [results, Tryz.results34, go_sem, zr0, zr1]) rfl ⟨rfl, ?_⟩
  exact Gb.g

set_option maxRecDepth 1000000 in
set_option maxHeartbeats 4000000 in
theorem sSqrt_odd (f mode a ca sa xa ga : Int) (HF : Hid (∀ w, Calls Tryz.prog 37 #[.int .i64 f, .int .i64 mode, .int .u64 a, .int .u64 a] w fun e w' => e = .returned (.bool true) ∧ w = w')) (HUa : Hid (∀ w, Calls Tryz.prog 26 #[.int .i64 f, .int .u64 a] w fun e w' => e = .returned (.agg #[.int .i64 ca, .int .i64 sa, .int .i64 xa, .int .u64 ga]) ∧ Gr w w')) (HQa : Hid (∀ w, Calls Tryz.prog 42 #[.agg #[.int .i64 ca, .int .i64 sa, .int .i64 xa, .int .u64 ga]] w fun e w' => e = .returned (.bool false) ∧ Gr w w')) (e1 : ca = 1) (e2 : sa = 0) (A : Nat) (e3 : ga = (A : Int)) (hA : A < 18446744073709551616) (x0 : -50000 ≤ xa) (x1 : xa ≤ 50000) (p : Int) (p0 : 0 ≤ p) (p1 : p ≤ 60) (HP : Hid (∀ w, Calls Tryz.prog 76 #[.int .i64 f] w fun e w' => e = .returned (.int .i64 p) ∧ w = w')) (P : Nat) (P0 d0 d q r0 : Int) (hP0 : p + 8 = P0) (hd0 : xa - P0 = d0) (hr1 : d0.tmod 2 = r0) (hr2 : (r0 != 0) = true) (hP : P0 + 1 = (P : Int)) (hPb : P ≤ 70) (hd : xa - (P : Int) = d) (hq : d.tdiv 2 = q) (hqw : wrap64 q = q) (rest : Bool) (z0 : Int) (hz : (z0 != 0) = rest) (Rt : Nat) (HRt : Hid (∀ v w, BigN 8 w v (A * 2 ^ P) → Calls Tryz.prog 88 #[v] w fun e w' => ∃ b k c, BigN 8 w' (.slice (some ⟨b, 0, none⟩) k c) Rt ∧ e = .returned (.slice (some ⟨b, 0, none⟩) k c) ∧ Gb w w')) (HCm : Hid (∀ v v' w, BigN 16 w v (Rt * Rt) → BigN 8 w v' (A * 2 ^ P) → Calls Tryz.prog 47 #[v, v'] w fun e w' => e = .returned (.int .i64 z0) ∧ Gb w w')) (Q : Int → Int → Prop) (HR : Hid (∀ v w, BigN 8 w v Rt → Calls Tryz.prog 51 #[.int .i64 f, .int .i64 mode, .agg #[.int .i64 0, v, .int .i64 q, .bool rest]] w fun e w' => ∃ z fl, Q z fl ∧ e = .returned (.agg #[.int .u64 z, .int .i64 fl]) ∧ Gb w w')) (w : World) :
    Calls Tryz.prog 34 #[.int .i64 f, .int .i64 mode, .int .u64 a] w fun e w' => ∃ z fl, Q z fl ∧ e = .returned (.agg #[.int .u64 z, .int .i64 fl]) ∧ Gb w w' := by
  subst e1 e2 e3
  have HB : Hid (∀ w, Calls Tryz.prog 45 #[.int .u64 (A : Int)] w fun e w' => ∃ b k c, BigN 2 w' (.slice (some ⟨b, 0, none⟩) k c) A ∧ e = .returned (.slice (some ⟨b, 0, none⟩) k c) ∧ Gb w w') := fun w => big_slice (l2Big_any A hA w)
  have HS : Hid (∀ v w, BigN 2 w v A → Calls Tryz.prog 44 #[v, .int .i64 (P : Int)] w fun e w' => ∃ b k c, BigN 8 w' (.slice (some ⟨b, 0, none⟩) k c) (A * 2 ^ P) ∧ e = .returned (.slice (some ⟨b, 0, none⟩) k c) ∧ Gb w w') := fun v w ⟨n, a1, a2⟩ => big_slice ((l2Shl_any a2 (by omega) P (by omega)).mono (fun e w' ⟨v, k, c1, c2, c3, c4⟩ => ⟨v, k, c1, c2, by omega, c4⟩))
  have HM : Hid (∀ v w, BigN 8 w v Rt → Calls Tryz.prog 89 #[v, v] w fun e w' => ∃ b k c, BigN 16 w' (.slice (some ⟨b, 0, none⟩) k c) (Rt * Rt) ∧ e = .returned (.slice (some ⟨b, 0, none⟩) k c) ∧ Gb w w') := fun v w ⟨n, a1, a2⟩ => big_slice ((l2Mul_any a2 (by omega) a2 (by omega)).mono (fun e w' ⟨v, k, c1, c2, c3, c4⟩ => ⟨v, k, c1, c2, by omega, c4⟩))
  generalize A * 2 ^ P = X at *
  generalize Rt * Rt = XX at *
  have hP62 : (P : Int) ≤ 70 := by omega
  have hpn : -100 ≤ P0 := by omega
  have hpm : P0 ≤ 100 := by omega
  go_enter Tryz.func34, Tryz.ntmps34
  go_wp2_with (first
    | (go_at_call 37; refine (HF.out _).mono ?_; rintro e wk ⟨rfl, hw⟩; subst hw)
    | (go_at_call 26; first | (with_reducible refine (HUa.out _).mono ?_; rintro e w1 ⟨rfl, hg_w1⟩; have u0r0 : w1.cell? ⟨w.heap.size, 0, none⟩ = some (.int .u64 0) := hg_w1.c; have u0rz0 : w1.frozen? ⟨w.heap.size, 0, none⟩ = false := hg_w1.z; have u0r1 : w1.cell? ⟨w.heap.size, 1, none⟩ = some (.int .i64 0) := hg_w1.c; have u0rz1 : w1.frozen? ⟨w.heap.size, 1, none⟩ = false := hg_w1.z; have hz0 := cell_size u0r0))
    | (go_at_call 42; first | (with_reducible refine (HQa.out _).mono ?_; rintro e va ⟨rfl, hg_va⟩; have qar0 : va.cell? ⟨w.heap.size, 0, none⟩ = some (.int .u64 0) := hg_va.c; have qarz0 : va.frozen? ⟨w.heap.size, 0, none⟩ = false := hg_va.z; have qar1 : va.cell? ⟨w.heap.size, 1, none⟩ = some (.int .i64 0) := hg_va.c; have qarz1 : va.frozen? ⟨w.heap.size, 1, none⟩ = false := hg_va.z; have qap00 : va.cell? ⟨w1.heap.size, 0, none⟩ = some (.int .i64 1) := hg_va.c; have qap01 : va.cell? ⟨w1.heap.size, 1, none⟩ = some (.int .i64 0) := hg_va.c; have qap02 : va.cell? ⟨w1.heap.size, 2, none⟩ = some (.int .i64 xa) := hg_va.c; have qap03 : va.cell? ⟨w1.heap.size, 3, none⟩ = some (.int .u64 ((A : Int))) := hg_va.c))
    | (go_at_call 76; refine (HP.out _).mono ?_; rintro e wp ⟨rfl, hw⟩; subst hw)
    | (go_at_call 45; refine (HB.out _).mono ?_; rintro e n1 ⟨b1, k1, q1, hb1, rfl, hg_n1⟩; have mr0 : n1.cell? ⟨w.heap.size, 0, none⟩ = some (.int .u64 0) := hg_n1.c; have mrz0 : n1.frozen? ⟨w.heap.size, 0, none⟩ = false := hg_n1.z mr0; have mr1 : n1.cell? ⟨w.heap.size, 1, none⟩ = some (.int .i64 0) := hg_n1.c; have mrz1 : n1.frozen? ⟨w.heap.size, 1, none⟩ = false := hg_n1.z mr1; have mp0 : n1.cell? ⟨w1.heap.size, 0, none⟩ = some (.int .i64 1) := hg_n1.c; have mp1 : n1.cell? ⟨w1.heap.size, 1, none⟩ = some (.int .i64 0) := hg_n1.c; have mp2 : n1.cell? ⟨w1.heap.size, 2, none⟩ = some (.int .i64 xa) := hg_n1.c; have mp3 : n1.cell? ⟨w1.heap.size, 3, none⟩ = some (.int .u64 ((A : Int))) := hg_n1.c)
    | (go_at_call 44; refine (HS.out _ _ hb1).mono ?_; rintro e n2 ⟨b2, k2, q2, hb2, rfl, hg_n2⟩; have nr0 : n2.cell? ⟨w.heap.size, 0, none⟩ = some (.int .u64 0) := hg_n2.c; have nrz0 : n2.frozen? ⟨w.heap.size, 0, none⟩ = false := hg_n2.z nr0; have nr1 : n2.cell? ⟨w.heap.size, 1, none⟩ = some (.int .i64 0) := hg_n2.c; have nrz1 : n2.frozen? ⟨w.heap.size, 1, none⟩ = false := hg_n2.z nr1; have np0 : n2.cell? ⟨w1.heap.size, 0, none⟩ = some (.int .i64 1) := hg_n2.c; have np1 : n2.cell? ⟨w1.heap.size, 1, none⟩ = some (.int .i64 0) := hg_n2.c; have np2 : n2.cell? ⟨w1.heap.size, 2, none⟩ = some (.int .i64 xa) := hg_n2.c; have np3 : n2.cell? ⟨w1.heap.size, 3, none⟩ = some (.int .u64 ((A : Int))) := hg_n2.c)
    | (go_at_call 88; refine (HRt.out _ _ hb2).mono ?_; rintro e n3 ⟨b3, k3, q3, hb3, rfl, hg_n3⟩; have or0 : n3.cell? ⟨w.heap.size, 0, none⟩ = some (.int .u64 0) := hg_n3.c; have orz0 : n3.frozen? ⟨w.heap.size, 0, none⟩ = false := hg_n3.z or0; have or1 : n3.cell? ⟨w.heap.size, 1, none⟩ = some (.int .i64 0) := hg_n3.c; have orz1 : n3.frozen? ⟨w.heap.size, 1, none⟩ = false := hg_n3.z or1; have op0 : n3.cell? ⟨w1.heap.size, 0, none⟩ = some (.int .i64 1) := hg_n3.c; have op1 : n3.cell? ⟨w1.heap.size, 1, none⟩ = some (.int .i64 0) := hg_n3.c; have op2 : n3.cell? ⟨w1.heap.size, 2, none⟩ = some (.int .i64 xa) := hg_n3.c; have op3 : n3.cell? ⟨w1.heap.size, 3, none⟩ = some (.int .u64 ((A : Int))) := hg_n3.c)
    | (go_at_call 89; refine (HM.out _ _ hb3).mono ?_; rintro e n4 ⟨b4, k4, q4, hb4, rfl, hg_n4⟩; have sr0 : n4.cell? ⟨w.heap.size, 0, none⟩ = some (.int .u64 0) := hg_n4.c; have srz0 : n4.frozen? ⟨w.heap.size, 0, none⟩ = false := hg_n4.z sr0; have sr1 : n4.cell? ⟨w.heap.size, 1, none⟩ = some (.int .i64 0) := hg_n4.c; have srz1 : n4.frozen? ⟨w.heap.size, 1, none⟩ = false := hg_n4.z sr1; have sp0 : n4.cell? ⟨w1.heap.size, 0, none⟩ = some (.int .i64 1) := hg_n4.c; have sp1 : n4.cell? ⟨w1.heap.size, 1, none⟩ = some (.int .i64 0) := hg_n4.c; have sp2 : n4.cell? ⟨w1.heap.size, 2, none⟩ = some (.int .i64 xa) := hg_n4.c; have sp3 : n4.cell? ⟨w1.heap.size, 3, none⟩ = some (.int .u64 ((A : Int))) := hg_n4.c)
    | (go_at_call 47; refine (HCm.out _ _ _ hb4 (BigN.gb (BigN.gb hb2 hg_n3) hg_n4)).mono ?_; rintro e n5 ⟨rfl, hg_n5⟩; have tr0 : n5.cell? ⟨w.heap.size, 0, none⟩ = some (.int .u64 0) := hg_n5.c; have trz0 : n5.frozen? ⟨w.heap.size, 0, none⟩ = false := hg_n5.z tr0; have tr1 : n5.cell? ⟨w.heap.size, 1, none⟩ = some (.int .i64 0) := hg_n5.c; have trz1 : n5.frozen? ⟨w.heap.size, 1, none⟩ = false := hg_n5.z tr1; have tp0 : n5.cell? ⟨w1.heap.size, 0, none⟩ = some (.int .i64 1) := hg_n5.c; have tp1 : n5.cell? ⟨w1.heap.size, 1, none⟩ = some (.int .i64 0) := hg_n5.c; have tp2 : n5.cell? ⟨w1.heap.size, 2, none⟩ = some (.int .i64 xa) := hg_n5.c; have tp3 : n5.cell? ⟨w1.heap.size, 3, none⟩ = some (.int .u64 ((A : Int))) := hg_n5.c)
    | (go_at_call 51; with_reducible refine (HR.out _ _ (BigN.gb (BigN.gb hb3 hg_n4) hg_n5)).mono ?_; rintro e w9 ⟨z, fl, hq', rfl, hg_w9⟩; have zr0 : w9.cell? ⟨w.heap.size, 0, none⟩ = some (.int .u64 0) := hg_w9.c; have zrz0 : w9.frozen? ⟨w.heap.size, 0, none⟩ = false := hg_w9.z zr0; have zr1 : w9.cell? ⟨w.heap.size, 1, none⟩ = some (.int .i64 0) := hg_w9.c; have zrz1 : w9.frozen? ⟨w.heap.size, 1, none⟩ = false := hg_w9.z zr1))
  refine bodyPost_ret (v := .agg #[.int .u64 z, .int .i64 fl]) (by simp [results, Tryz.results34, go_sem, zr0, zr1]) rfl ⟨z, fl, hq', rfl, ?_⟩
  exact Gb.g

set_option maxRecDepth 1000000 in
set_option maxHeartbeats 4000000 in
theorem sSqrt_even (f mode a ca sa xa ga : Int) (HF : Hid (∀ w, Calls Tryz.prog 37 #[.int .i64 f, .int .i64 mode, .int .u64 a, .int .u64 a] w fun e w' => e = .returned (.bool true) ∧ w = w')) (HUa : Hid (∀ w, Calls Tryz.prog 26 #[.int .i64 f, .int .u64 a] w fun e w' => e = .returned (.agg #[.int .i64 ca, .int .i64 sa, .int .i64 xa, .int .u64 ga]) ∧ Gr w w')) (HQa : Hid (∀ w, Calls Tryz.prog 42 #[.agg #[.int .i64 ca, .int .i64 sa, .int .i64 xa, .int .u64 ga]] w fun e w' => e = .returned (.bool false) ∧ Gr w w')) (e1 : ca = 1) (e2 : sa = 0) (A : Nat) (e3 : ga = (A : Int)) (hA : A < 18446744073709551616) (x0 : -50000 ≤ xa) (x1 : xa ≤ 50000) (p : Int) (p0 : 0 ≤ p) (p1 : p ≤ 60) (HP : Hid (∀ w, Calls Tryz.prog 76 #[.int .i64 f] w fun e w' => e = .returned (.int .i64 p) ∧ w = w')) (P : Nat) (d q r0 : Int) (hP0 : p + 8 = (P : Int)) (hPb : P ≤ 70) (hd : xa - (P : Int) = d) (hr1 : d.tmod 2 = r0) (hr2 : (r0 != 0) = false) (hq : d.tdiv 2 = q) (hqw : wrap64 q = q) (rest : Bool) (z0 : Int) (hz : (z0 != 0) = rest) (Rt : Nat) (HRt : Hid (∀ v w, BigN 8 w v (A * 2 ^ P) → Calls Tryz.prog 88 #[v] w fun e w' => ∃ b k c, BigN 8 w' (.slice (some ⟨b, 0, none⟩) k c) Rt ∧ e = .returned (.slice (some ⟨b, 0, none⟩) k c) ∧ Gb w w')) (HCm : Hid (∀ v v' w, BigN 16 w v (Rt * Rt) → BigN 8 w v' (A * 2 ^ P) → Calls Tryz.prog 47 #[v, v'] w fun e w' => e = .returned (.int .i64 z0) ∧ Gb w w')) (Q : Int → Int → Prop) (HR : Hid (∀ v w, BigN 8 w v Rt → Calls Tryz.prog 51 #[.int .i64 f, .int .i64 mode, .agg #[.int .i64 0, v, .int .i64 q, .bool rest]] w fun e w' => ∃ z fl, Q z fl ∧ e = .returned (.agg #[.int .u64 z, .int .i64 fl]) ∧ Gb w w')) (w : World) :
    Calls Tryz.prog 34 #[.int .i64 f, .int .i64 mode, .int .u64 a] w fun e w' => ∃ z fl, Q z fl ∧ e = .returned (.agg #[.int .u64 z, .int .i64 fl]) ∧ Gb w w' := by
  subst e1 e2 e3
  have HB : Hid (∀ w, Calls Tryz.prog 45 #[.int .u64 (A : Int)] w fun e w' => ∃ b k c, BigN 2 w' (.slice (some ⟨b, 0, none⟩) k c) A ∧ e = .returned (.slice (some ⟨b, 0, none⟩) k c) ∧ Gb w w') := fun w => big_slice (l2Big_any A hA w)
  have HS : Hid (∀ v w, BigN 2 w v A → Calls Tryz.prog 44 #[v, .int .i64 (P : Int)] w fun e w' => ∃ b k c, BigN 8 w' (.slice (some ⟨b, 0, none⟩) k c) (A * 2 ^ P) ∧ e = .returned (.slice (some ⟨b, 0, none⟩) k c) ∧ Gb w w') := fun v w ⟨n, a1, a2⟩ => big_slice ((l2Shl_any a2 (by omega) P (by omega)).mono (fun e w' ⟨v, k, c1, c2, c3, c4⟩ => ⟨v, k, c1, c2, by omega, c4⟩))
  have HM : Hid (∀ v w, BigN 8 w v Rt → Calls Tryz.prog 89 #[v, v] w fun e w' => ∃ b k c, BigN 16 w' (.slice (some ⟨b, 0, none⟩) k c) (Rt * Rt) ∧ e = .returned (.slice (some ⟨b, 0, none⟩) k c) ∧ Gb w w') := fun v w ⟨n, a1, a2⟩ => big_slice ((l2Mul_any a2 (by omega) a2 (by omega)).mono (fun e w' ⟨v, k, c1, c2, c3, c4⟩ => ⟨v, k, c1, c2, by omega, c4⟩))
  generalize A * 2 ^ P = X at *
  generalize Rt * Rt = XX at *
  have hP62 : (P : Int) ≤ 70 := by omega
  go_enter Tryz.func34, Tryz.ntmps34
  go_wp2_with (first
    | (go_at_call 37; refine (HF.out _).mono ?_; rintro e wk ⟨rfl, hw⟩; subst hw)
    | (go_at_call 26; first | (with_reducible refine (HUa.out _).mono ?_; rintro e w1 ⟨rfl, hg_w1⟩; have u0r0 : w1.cell? ⟨w.heap.size, 0, none⟩ = some (.int .u64 0) := hg_w1.c; have u0rz0 : w1.frozen? ⟨w.heap.size, 0, none⟩ = false := hg_w1.z; have u0r1 : w1.cell? ⟨w.heap.size, 1, none⟩ = some (.int .i64 0) := hg_w1.c; have u0rz1 : w1.frozen? ⟨w.heap.size, 1, none⟩ = false := hg_w1.z; have hz0 := cell_size u0r0))
    | (go_at_call 42; first | (with_reducible refine (HQa.out _).mono ?_; rintro e va ⟨rfl, hg_va⟩; have qar0 : va.cell? ⟨w.heap.size, 0, none⟩ = some (.int .u64 0) := hg_va.c; have qarz0 : va.frozen? ⟨w.heap.size, 0, none⟩ = false := hg_va.z; have qar1 : va.cell? ⟨w.heap.size, 1, none⟩ = some (.int .i64 0) := hg_va.c; have qarz1 : va.frozen? ⟨w.heap.size, 1, none⟩ = false := hg_va.z; have qap00 : va.cell? ⟨w1.heap.size, 0, none⟩ = some (.int .i64 1) := hg_va.c; have qap01 : va.cell? ⟨w1.heap.size, 1, none⟩ = some (.int .i64 0) := hg_va.c; have qap02 : va.cell? ⟨w1.heap.size, 2, none⟩ = some (.int .i64 xa) := hg_va.c; have qap03 : va.cell? ⟨w1.heap.size, 3, none⟩ = some (.int .u64 ((A : Int))) := hg_va.c))
    | (go_at_call 76; refine (HP.out _).mono ?_; rintro e wp ⟨rfl, hw⟩; subst hw)
    | (go_at_call 45; refine (HB.out _).mono ?_; rintro e n1 ⟨b1, k1, q1, hb1, rfl, hg_n1⟩; have mr0 : n1.cell? ⟨w.heap.size, 0, none⟩ = some (.int .u64 0) := hg_n1.c; have mrz0 : n1.frozen? ⟨w.heap.size, 0, none⟩ = false := hg_n1.z mr0; have mr1 : n1.cell? ⟨w.heap.size, 1, none⟩ = some (.int .i64 0) := hg_n1.c; have mrz1 : n1.frozen? ⟨w.heap.size, 1, none⟩ = false := hg_n1.z mr1; have mp0 : n1.cell? ⟨w1.heap.size, 0, none⟩ = some (.int .i64 1) := hg_n1.c; have mp1 : n1.cell? ⟨w1.heap.size, 1, none⟩ = some (.int .i64 0) := hg_n1.c; have mp2 : n1.cell? ⟨w1.heap.size, 2, none⟩ = some (.int .i64 xa) := hg_n1.c; have mp3 : n1.cell? ⟨w1.heap.size, 3, none⟩ = some (.int .u64 ((A : Int))) := hg_n1.c)
    | (go_at_call 44; refine (HS.out _ _ hb1).mono ?_; rintro e n2 ⟨b2, k2, q2, hb2, rfl, hg_n2⟩; have nr0 : n2.cell? ⟨w.heap.size, 0, none⟩ = some (.int .u64 0) := hg_n2.c; have nrz0 : n2.frozen? ⟨w.heap.size, 0, none⟩ = false := hg_n2.z nr0; have nr1 : n2.cell? ⟨w.heap.size, 1, none⟩ = some (.int .i64 0) := hg_n2.c; have nrz1 : n2.frozen? ⟨w.heap.size, 1, none⟩ = false := hg_n2.z nr1; have np0 : n2.cell? ⟨w1.heap.size, 0, none⟩ = some (.int .i64 1) := hg_n2.c; have np1 : n2.cell? ⟨w1.heap.size, 1, none⟩ = some (.int .i64 0) := hg_n2.c; have np2 : n2.cell? ⟨w1.heap.size, 2, none⟩ = some (.int .i64 xa) := hg_n2.c; have np3 : n2.cell? ⟨w1.heap.size, 3, none⟩ = some (.int .u64 ((A : Int))) := hg_n2.c)
    | (go_at_call 88; refine (HRt.out _ _ hb2).mono ?_; rintro e n3 ⟨b3, k3, q3, hb3, rfl, hg_n3⟩; have or0 : n3.cell? ⟨w.heap.size, 0, none⟩ = some (.int .u64 0) := hg_n3.c; have orz0 : n3.frozen? ⟨w.heap.size, 0, none⟩ = false := hg_n3.z or0; have or1 : n3.cell? ⟨w.heap.size, 1, none⟩ = some (.int .i64 0) := hg_n3.c; have orz1 : n3.frozen? ⟨w.heap.size, 1, none⟩ = false := hg_n3.z or1; have op0 : n3.cell? ⟨w1.heap.size, 0, none⟩ = some (.int .i64 1) := hg_n3.c; have op1 : n3.cell? ⟨w1.heap.size, 1, none⟩ = some (.int .i64 0) := hg_n3.c; have op2 : n3.cell? ⟨w1.heap.size, 2, none⟩ = some (.int .i64 xa) := hg_n3.c; have op3 : n3.cell? ⟨w1.heap.size, 3, none⟩ = some (.int .u64 ((A : Int))) := hg_n3.c)
    | (go_at_call 89; refine (HM.out _ _ hb3).mono ?_; rintro e n4 ⟨b4, k4, q4, hb4, rfl, hg_n4⟩; have sr0 : n4.cell? ⟨w.heap.size, 0, none⟩ = some (.int .u64 0) := hg_n4.c; have srz0 : n4.frozen? ⟨w.heap.size, 0, none⟩ = false := hg_n4.z sr0; have sr1 : n4.cell? ⟨w.heap.size, 1, none⟩ = some (.int .i64 0) := hg_n4.c; have srz1 : n4.frozen? ⟨w.heap.size, 1, none⟩ = false := hg_n4.z sr1; have sp0 : n4.cell? ⟨w1.heap.size, 0, none⟩ = some (.int .i64 1) := hg_n4.c; have sp1 : n4.cell? ⟨w1.heap.size, 1, none⟩ = some (.int .i64 0) := hg_n4.c; have sp2 : n4.cell? ⟨w1.heap.size, 2, none⟩ = some (.int .i64 xa) := hg_n4.c; have sp3 : n4.cell? ⟨w1.heap.size, 3, none⟩ = some (.int .u64 ((A : Int))) := hg_n4.c)
    | (go_at_call 47; refine (HCm.out _ _ _ hb4 (BigN.gb (BigN.gb hb2 hg_n3) hg_n4)).mono ?_; rintro e n5 ⟨rfl, hg_n5⟩; have tr0 : n5.cell? ⟨w.heap.size, 0, none⟩ = some (.int .u64 0) := hg_n5.c; have trz0 : n5.frozen? ⟨w.heap.size, 0, none⟩ = false := hg_n5.z tr0; have tr1 : n5.cell? ⟨w.heap.size, 1, none⟩ = some (.int .i64 0) := hg_n5.c; have trz1 : n5.frozen? ⟨w.heap.size, 1, none⟩ = false := hg_n5.z tr1; have tp0 : n5.cell? ⟨w1.heap.size, 0, none⟩ = some (.int .i64 1) := hg_n5.c; have tp1 : n5.cell? ⟨w1.heap.size, 1, none⟩ = some (.int .i64 0) := hg_n5.c; have tp2 : n5.cell? ⟨w1.heap.size, 2, none⟩ = some (.int .i64 xa) := hg_n5.c; have tp3 : n5.cell? ⟨w1.heap.size, 3, none⟩ = some (.int .u64 ((A : Int))) := hg_n5.c)
    | (go_at_call 51; with_reducible refine (HR.out _ _ (BigN.gb (BigN.gb hb3 hg_n4) hg_n5)).mono ?_; rintro e w9 ⟨z, fl, hq', rfl, hg_w9⟩; have zr0 : w9.cell? ⟨w.heap.size, 0, none⟩ = some (.int .u64 0) := hg_w9.c; have zrz0 : w9.frozen? ⟨w.heap.size, 0, none⟩ = false := hg_w9.z zr0; have zr1 : w9.cell? ⟨w.heap.size, 1, none⟩ = some (.int .i64 0) := hg_w9.c; have zrz1 : w9.frozen? ⟨w.heap.size, 1, none⟩ = false := hg_w9.z zr1))
  refine bodyPost_ret (v := .agg #[.int .u64 z, .int .i64 fl]) (by simp [results, Tryz.results34, go_sem, zr0, zr1]) rfl ⟨z, fl, hq', rfl, ?_⟩
  exact Gb.g
end Go.Proofs.YtkflpogmhailhaaGreatDoor

/- Sqrt, of both sides. -/
set_option linter.unusedVariables false
set_option linter.unusedSimpArgs false
namespace Go.Proofs.YtkflpogmhailhaaGreatDoor
open Go.RowKit

theorem i64_parity (n : Int) : bits .and .i64 n 1 = n % 2 := by
  have h1 : (BitVec.ofInt 64 1).toNat = 2 ^ 1 - 1 := by decide
  have h2 : (BitVec.ofInt 64 n &&& BitVec.ofInt 64 1).toNat = (n % ((2 ^ 64 : Nat) : Int)).toNat % 2 ^ 1 := by
    rw [BitVec.toNat_and, BitVec.toNat_ofInt, h1, Nat.and_two_pow_sub_one_eq_mod]
  show IntKind.i64.wrap ((BitVec.ofInt 64 n &&& BitVec.ofInt 64 1).toNat : Nat) = n % 2
  rw [h2, IntKind.wrap_i64]
  omega

/-- The root, rounded down. -/
def rootN : Nat → Nat
  | 0 => 0
  | m + 1 => if (rootN m + 1) * (rootN m + 1) ≤ m + 1 then rootN m + 1 else rootN m
theorem rootN_is (m : Nat) : IsRoot m (rootN m) := by
  induction m with
  | zero => exact ⟨Nat.zero_le _, by decide⟩
  | succ m ih =>
    obtain ⟨h1, h2⟩ := ih
    rw [rootN]
    split
    · rename_i h
      refine ⟨h, ?_⟩
      have : (rootN m + 1) * (rootN m + 1) + (rootN m + 1) + (rootN m + 1) + 1 = (rootN m + 1 + 1) * (rootN m + 1 + 1) := by
        simp only [Nat.add_mul, Nat.mul_add]; omega
      omega
    · rename_i h
      exact ⟨by omega, by omega⟩

/-- Of what the model takes the root, in binary places. -/
def sqPl (p e : Int) : Nat := if (e - (p + 8)) % 2 = 0 then p.toNat + 8 else p.toNat + 9
def sqM (P A : Nat) : Nat := 2 * rootN (A * 2 ^ P) + oneIf (decide (rootN (A * 2 ^ P) * rootN (A * 2 ^ P) ≠ A * 2 ^ P))
def sqrtO (p mode : Int) (x y : Opd) : Opd :=
  if 3 ≤ x.c then ⟨x.c, 0, 0, 0⟩
  else if x.c = 0 then ⟨0, x.s, 0, 0⟩
  else if x.s = 1 then ⟨4, 0, 0, 0⟩
  else if x.c = 2 then ⟨2, 0, 0, 0⟩
  else ⟨1, 0, (x.e - sqPl p x.e) / 2 - 1, sqM (sqPl p x.e) x.M⟩
theorem sqrtO_c (p mode : Int) (x y : Opd) (hx : VO x) (hy : VO y) : 0 ≤ (sqrtO p mode x y).c ∧ (sqrtO p mode x y).c ≤ 5 := by
  have := hx.c0
  have := hx.c4
  unfold sqrtO
  split
  · dsimp only; omega
  · split
    · exact ⟨by dsimp only; omega, by dsimp only; omega⟩
    · split
      · exact ⟨by dsimp only; omega, by dsimp only; omega⟩
      · split
        · exact ⟨by dsimp only; omega, by dsimp only; omega⟩
        · exact ⟨by dsimp only; omega, by dsimp only; omega⟩

theorem root_low {A k C : Nat} (h : IsRoot A C) (hA : 2 ^ (2 * k) ≤ A) : 2 ^ k ≤ C := by
  have h1 : 2 ^ k * 2 ^ k < (C + 1) * (C + 1) := by
    rw [← Nat.pow_add, show k + k = 2 * k by omega]
    exact Nat.lt_of_le_of_lt hA h.2
  have := mul_self_lt h1
  omega

/-- Enough digits, and the rest: the same number. -/
theorem root_round {p : Int} {Pn A : Nat} (hP : (Pn : Int) = p) (hP1 : 1 ≤ Pn) (hP53 : Pn ≤ 53) (hA : 2 ^ (Pn - 1) ≤ A) (hA2 : A < 2 ^ Pn) (e hi hq : Int) (od : Nat) (hhi : e + (p - 1) = hi) (hod : hi % 2 = (od : Int)) (hhq : hi / 2 = hq) :
    ∃ (C : Nat) (st : Bool), C = dC rootC (A * 2 ^ (61 - Pn + od)) (Pn + 3) ∧ st = decide (dR rootC (A * 2 ^ (61 - Pn + od)) (Pn + 2) ≠ 0) ∧ 0 < C ∧ C < 18446744073709551616 ∧ p + 2 ≤ (nb C : Int) ∧ 0 < rootN (A * 2 ^ sqPl p e) ∧ p + 2 ≤ (nb (rootN (A * 2 ^ sqPl p e)) : Int) ∧
    (∀ s mn mx one inf mode z fl, RoundIs p mn mx one inf mode s C (hq - (p + 2)) st z fl ↔ RoundIs p mn mx one inf mode s (sqM (sqPl p e) A) ((e - sqPl p e) / 2 - 1) false z fl) ∧
    (∀ s mn mx one inf mode z fl, RoundIs p mn mx one inf mode s (rootN (A * 2 ^ sqPl p e)) ((e - sqPl p e) / 2) (decide (rootN (A * 2 ^ sqPl p e) * rootN (A * 2 ^ sqPl p e) ≠ A * 2 ^ sqPl p e)) z fl ↔ RoundIs p mn mx one inf mode s (sqM (sqPl p e) A) ((e - sqPl p e) / 2 - 1) false z fl) := by
  have hod1 : od ≤ 1 := by omega
  obtain ⟨t, ht1, hPl, het⟩ : ∃ t : Nat, 1 ≤ t ∧ sqPl p e = Pn + 5 + od + 2 * t ∧ (e - sqPl p e) / 2 + (t : Int) = hq - (p + 2) := by
    unfold sqPl
    by_cases c : (e - (p + 8)) % 2 = 0
    · rw [if_pos c]; exact ⟨1, by omega, by omega, by omega⟩
    · rw [if_neg c]; exact ⟨2, by omega, by omega, by omega⟩
  obtain ⟨q1, q2, q3⟩ := root_of_digits A Pn od hP1 hP53 hod1 hA2
  have hr := rootN_is (A * 2 ^ sqPl p e)
  have e1 : A * 2 ^ sqPl p e = A * 2 ^ (Pn + 5 + od) * 2 ^ (2 * t) := by rw [hPl, Nat.pow_add, Nat.mul_assoc]
  have hr2 := hr
  rw [e1] at hr2
  rw [← e1] at hr2
  obtain ⟨C, hC⟩ : ∃ C, C = dC rootC (A * 2 ^ (61 - Pn + od)) (Pn + 3) := ⟨_, rfl⟩
  rw [← hC] at q1 q2 q3
  have sc : rootN (A * 2 ^ sqPl p e) / 2 ^ t = C ∧ (decide (rootN (A * 2 ^ sqPl p e) % 2 ^ t ≠ 0) || decide (rootN (A * 2 ^ sqPl p e) * rootN (A * 2 ^ sqPl p e) ≠ A * 2 ^ (Pn + 5 + od) * 2 ^ (2 * t))) = decide (C * C ≠ A * 2 ^ (Pn + 5 + od)) := by
    refine IsRoot.scale t q1 ?_
    rw [← e1]; exact hr
  rw [← e1] at sc
  obtain ⟨s1, s2⟩ := sc
  have hlow : 2 ^ (Pn + 2) ≤ C := by
    refine root_low q1 ?_
    have a1 : 2 ^ (Pn - 1) * 2 ^ (Pn + 5 + od) ≤ A * 2 ^ (Pn + 5 + od) := Nat.mul_le_mul_right _ hA
    rw [← Nat.pow_add] at a1
    exact Nat.le_trans (Nat.pow_le_pow_right (by decide) (by omega)) a1
  have hnC := nb_gt hlow
  have hC0 : 0 < C := Nat.lt_of_lt_of_le (Nat.pow_pos (by decide)) hlow
  have hCr : C ≤ rootN (A * 2 ^ sqPl p e) := by rw [← s1]; exact Nat.div_le_self _ _
  have hnr := nb_gt (Nat.le_trans hlow hCr)
  refine ⟨C, _, hC, rfl, hC0, q3, by omega, by omega, by omega, fun s mn mx one inf mode z fl => ?_, fun s mn mx one inf mode z fl => ?_⟩
  · have h := RoundIs.cut (p := p) (mn := mn) (mx := mx) (one := one) (inf := inf) (mode := mode) (sign := s) (m := rootN (A * 2 ^ sqPl p e)) (e := (e - sqPl p e) / 2) (z := z) (fl := fl) t (decide (rootN (A * 2 ^ sqPl p e) * rootN (A * 2 ^ sqPl p e) ≠ A * 2 ^ sqPl p e)) (by rw [s1]; exact hC0) (by omega) (by rw [s1]; omega) (decide (dR rootC (A * 2 ^ (61 - Pn + od)) (Pn + 2) ≠ 0)) (by rw [s2, decide_eq_decide]; exact q2)
    rw [s1, het] at h
    exact h
  · exact RoundIs.rest _ (by omega) (by omega) (by omega)

theorem squareRoot_any {f p mx one inf sg nan mn fb sp : Int} (hF : IsFmt f p mx one inf sg nan) (hM : IsM p mn mx fb sp one inf sg nan) (md : Int) (k : Nat) {a : Int} {x y : Opd} (hx : OpdIs p mx one inf sg nan a x) (h3 : x.c < 3) (w : World) :
    Calls Tryz.prog 87 #[.agg #[.int .i64 p, .int .i64 mn, .int .i64 mx, .int .i64 md, .func (.func k) #[] #[]], .agg #[.int .i64 x.s, .int .i64 x.e, .int .i64 x.c, .int .u64 (((x.M / 18446744073709551616 : Nat) : Int)), .int .u64 (((x.M % 18446744073709551616 : Nat) : Int)), .bool false, .int .i64 0], .agg #[.int .i64 y.s, .int .i64 y.e, .int .i64 y.c, .int .u64 (((y.M / 18446744073709551616 : Nat) : Int)), .int .u64 (((y.M % 18446744073709551616 : Nat) : Int)), .bool false, .int .i64 0]] w fun e w' => ∃ os oe oc oh ol ot of, SameP p (sqrtO p md x y) os oe oc oh ol ot of ∧ e = .returned (.agg #[.int .i64 os, .int .i64 oe, .int .i64 oc, .int .u64 oh, .int .u64 ol, .bool ot, .int .i64 of]) ∧ Gr w w' := by
  obtain ⟨v1, v2, v3, v4, v5, v6⟩ := opd_vo hF hx
  have hpb : 24 ≤ p ∧ p ≤ 53 := by have := hF.bounds; omega
  have hfb : fb = p - 1 := by rcases hM with h | h <;> omega
  have c0 := v1.c0
  have s01 := v1.s01
  unfold sqrtO
  rw [if_neg (show ¬ 3 ≤ x.c by omega)]
  by_cases cz : x.c = 0
  · rw [if_pos cz]
    have hM0 : x.M = 0 := v3 (by omega)
    rw [cz, hM0]
    refine (squareRoot_zero p mn mx md k _ _ 0 _ _ _ _ _ _ _ _ _ w).mono ?_
    rintro r w' ⟨rfl, hg⟩
    exact ⟨_, _, _, _, _, _, _, SameP.flat p _ _ _ 0 _ rfl (by omega) (by omega) (by omega) (fun _ => ⟨rfl, s01⟩), rfl, hg⟩
  · rw [if_neg cz]
    by_cases cs : x.s = 1
    · rw [if_pos cs, cs]
      rcases (show x.c = 1 ∨ x.c = 2 by omega) with c | c
      · rw [c]
        refine (squareRoot_neg1 p mn mx md k 0 _ 0 _ _ _ _ _ _ _ _ _ w).mono ?_
        rintro r w' ⟨rfl, hg⟩
        exact ⟨_, _, _, _, _, _, _, SameP.nan p 4 (by omega) (by omega), rfl, hg⟩
      · rw [c]
        refine (squareRoot_neg2 p mn mx md k 0 _ 0 _ _ _ _ _ _ _ _ _ w).mono ?_
        rintro r w' ⟨rfl, hg⟩
        exact ⟨_, _, _, _, _, _, _, SameP.nan p 4 (by omega) (by omega), rfl, hg⟩
    · rw [if_neg cs]
      have s0 : x.s = 0 := by omega
      rw [s0]
      by_cases ci : x.c = 2
      · rw [if_pos ci, ci]
        have hM0 : x.M = 0 := v3 (by omega)
        rw [hM0]
        refine (squareRoot_inf p mn mx md k 0 _ 0 _ _ _ _ _ _ _ _ _ w).mono ?_
        rintro r w' ⟨rfl, hg⟩
        exact ⟨_, _, _, _, _, _, _, SameP.flat p _ _ _ 2 _ rfl (by omega) (by omega) (by omega) (fun _ => ⟨rfl, .inl rfl⟩), rfl, hg⟩
      · have c1 : x.c = 1 := by omega
        rw [if_neg ci, c1]
        obtain ⟨Pn, hP, hP1, hP53, hA, hA2⟩ := opd_fin hF hx c1
        obtain ⟨od, hod⟩ : ∃ od : Nat, (x.e + (p - 1)) % 2 = (od : Int) := ⟨((x.e + (p - 1)) % 2).toNat, by omega⟩
        obtain ⟨C, st, hC, hst, r1, r2, r3, r4, r5, r6, r7⟩ := root_round hP hP1 hP53 hA hA2 x.e _ _ od rfl hod rfl
        have hN : x.M * 2 ^ (61 - Pn + od) < 18446744073709551616 := by
          have h1 : x.M * 2 ^ (61 - Pn + od) < 2 ^ Pn * 2 ^ (61 - Pn + od) := Nat.mul_lt_mul_of_pos_right hA2 (Nat.pow_pos (by decide))
          rw [← Nat.pow_add] at h1
          have h2 : 2 ^ (Pn + (61 - Pn + od)) ≤ 2 ^ 62 := Nat.pow_le_pow_right (by decide) (by omega)
          have h3 : 2 ^ 62 < 18446744073709551616 := by decide
          omega
        have hwr : IntKind.u64.wrap (((x.M % 18446744073709551616 : Nat) : Int) * 2 ^ ((61 - p + od : Int)).toNat) = ((x.M * 2 ^ (61 - Pn + od) : Nat) : Int) := by
          rw [Nat.mod_eq_of_lt (by omega), show ((61 - p + od : Int)).toNat = 61 - Pn + od by omega, IntKind.wrap_u64]
          rw [Int.natCast_mul, Int.natCast_pow]
          have := hN
          rw [show ((x.M : Int) * ((2 : Nat) : Int) ^ (61 - Pn + od)) = ((x.M * 2 ^ (61 - Pn + od) : Nat) : Int) by rw [Int.natCast_mul, Int.natCast_pow]] 
          rw [show ((x.M : Int) * 2 ^ (61 - Pn + od)) = ((x.M * 2 ^ (61 - Pn + od) : Nat) : Int) by rw [Int.natCast_mul, Int.natCast_pow]; rfl]
          omega
        refine (squareRoot_num p mn mx md k x.e _ _ _ _ _ _ _ _ _ fb (x.e + (p - 1)) od (61 - p) (61 - p + od) ((x.e + (p - 1)) / 2) (x.M * 2 ^ (61 - Pn + od)) hN (by omega) (by omega) (by omega) (by omega) (by rw [hfb, IntKind.wrap_i64]; omega) (by rw [i64_parity]; exact hod) (by rw [hfb, IntKind.wrap_i64]; omega) (by rw [IntKind.wrap_i64]; omega) (by omega) (by omega) hwr rfl (by omega) (by omega) (by omega) (by omega) (fun w => fb_any hM w) 0 ((x.e + (p - 1)) / 2 - (p + 2)) 1 0 _ _ (fun w v hd => cut_any p mn mx md k 0 ((x.e + (p - 1)) / 2) (by omega) (by omega) (by omega) (by omega) hN hd (Pn + 3) (by omega)) w).mono ?_
        rintro r w' ⟨rfl, hg⟩
        refine ⟨_, _, _, _, _, _, _, .inl ⟨C, ?_, ?_, rfl, rfl, (show (0 : Int) ≤ 1 by omega), (show (1 : Int) ≤ 4 by omega), fun _ => ⟨rfl, .inl rfl⟩, fun _ => ⟨r1, by omega, fun _ => r3, by omega, by omega, fun mn mx one inf mode z fl => ?_⟩⟩, rfl, hg⟩
        · rw [Nat.div_eq_of_lt r2]; rfl
        · rw [Nat.mod_eq_of_lt r2, hC]
        · rw [show Pn + 3 - 1 = Pn + 2 from rfl, ← hst]
          exact r6 _ _ _ _ _ _ _ _
end Go.Proofs.YtkflpogmhailhaaGreatDoor

/- impl.Sqrt and spec.Sqrt; both sides. -/
set_option linter.unusedVariables false
set_option linter.unusedSimpArgs false
namespace Go.Proofs.YtkflpogmhailhaaGreatDoor
open Go.RowKit

theorem implSqrt_any (f mode a : Int) (a0 : 0 ≤ a) (a1 : a < 18446744073709551616) (w : World) (hw : Fm w) :
    Calls Tryz.prog 33 #[.int .i64 f, .int .i64 mode, .int .u64 a] w fun e w' => ∃ Z fl, OpRD sqrtO f mode a a Z fl ∧ e = .returned (.agg #[.int .u64 Z, .int .i64 fl]) ∧ Gr w w' := by
  refine implSqrt_of f mode a (OpRD sqrtO f mode a a) (fun w' hg => ?_)
  have hw' := hw.gr hg
  by_cases hf : f = 0 ∨ f = 1
  · obtain ⟨p, mx, one, inf, sg, nan, hF⟩ := fmt_of f hf
    obtain ⟨mn, fb, sp, hM, hmn, hfb⟩ := hF.m
    by_cases hm : 0 ≤ mode ∧ mode ≤ 4
    · obtain ⟨k, hk⟩ := rule_of mode hm.1 hm.2
      obtain ⟨x, hx, HA⟩ := opd_is hF hM a a0 a1
      obtain ⟨v1, v2, v3, v4, v5, v6⟩ := opd_vo hF hx
      refine (calc_okf p mn mx mode f k 87 a a _ _ _ _ _ _ _ _ _ _ _ _ (fun w'' hg' => settingOf_yes hF hM mode k (fun w => ruleOf_yes mode k hk w) (hw'.gr hg')) HA HA (SameP p (sqrtO p mode x x)) (fun w => ?_) (PackD p mn mx one inf sg nan mode (sqrtO p mode x x)) (fun os oe oc oh ol ot of w hq => pack_anyD hM mode k hk _ os oe oc oh ol ot of hq w)).mono ?_
      · by_cases h3 : 3 ≤ x.c
        · refine (combine_nan p mn mx mode k _ _ _ _ _ _ _ _ _ _ _ _ 87 x.c (by omega) h3 w).mono ?_
          rintro e w' ⟨rfl, hg⟩
          rw [show sqrtO p mode x x = ⟨x.c, 0, 0, 0⟩ from by unfold sqrtO; rw [if_pos h3]]
          exact ⟨_, _, _, _, _, _, _, SameP.nan p _ h3 (by have := v1.c4; omega), rfl, hg⟩
        · exact combine_squareRoot p mn mx mode k _ _ _ _ _ _ _ _ _ _ _ _ x.c (by omega) (by omega) _ (fun w => squareRoot_any hF hM mode k hx (by omega) w) w
      · rintro e w'' ⟨Z, fl, hp, rfl, hg'⟩
        rw [hmn] at hp
        exact ⟨_, _, .inl ⟨p, mx, one, inf, sg, nan, x, x, hF, hm, hx, hx, hp⟩, rfl, hg'⟩
    · refine (calc_no p mn mx mode nan f mode a a (fun w'' hg' => settingOf_bad hF hM mode (fun w => ruleOf_no mode (by omega) w) (hw'.gr hg')) (fun w => invalid_any hM w) 87).mono ?_
      rintro e w'' ⟨rfl, hg'⟩
      exact ⟨_, _, .inr (.inl ⟨p, mx, one, inf, sg, nan, hF, by omega, rfl, rfl⟩), rfl, hg'⟩
  · refine (calc_no _ _ _ _ _ f mode a a (fun w'' hg' => settingOf_none f mode hf (hw'.gr hg')) (fun w => invalid_any m64 w) 87).mono ?_
    rintro e w'' ⟨rfl, hg'⟩
    exact ⟨_, _, .inr (.inr ⟨hf, rfl, rfl⟩), rfl, hg'⟩

theorem specSqrt_ok {f p mx one inf sg nan : Int} (h : IsFmt f p mx one inf sg nan) (mode a : Int) (hm : 0 ≤ mode ∧ mode ≤ 4) (a0 : 0 ≤ a) (a1 : a < 18446744073709551616) {x : Opd} (hx : OpdIs p mx one inf sg nan a x) (w : World) :
    Calls Tryz.prog 34 #[.int .i64 f, .int .i64 mode, .int .u64 a] w fun e w' => ∃ Z fl, PackD p (1 - mx) mx one inf sg nan mode (sqrtO p mode x x) Z fl ∧ e = .returned (.agg #[.int .u64 Z, .int .i64 fl]) ∧ Gb w w' := by
  obtain ⟨v1, v2, v3, v4, v5, v6⟩ := opd_vo h hx
  have xc0 := v1.c0
  have xc4 := v1.c4
  have s01 := v1.s01
  have hb := h.bounds
  by_cases hfit : a < 2 * sg
  · have HF : Hid (∀ w, Calls Tryz.prog 37 #[.int .i64 f, .int .i64 mode, .int .u64 a, .int .u64 a] w fun e w' => e = .returned (.bool true) ∧ w = w') := fun w => l3Fits_yes h mode a a hm.1 hm.2 a0 hfit a0 hfit w
    have HUa := unp_det h a a0 hfit hx
    have HQ : ∀ (t : Bool), t = decide (3 ≤ x.c) → Hid (∀ w, Calls Tryz.prog 42 #[.agg #[.int .i64 x.c, .int .i64 x.s, .int .i64 x.e, .int .u64 (((x.M : Nat) : Int))]] w fun e w' => e = .returned (.bool t) ∧ Gr w w') := fun t ht w => l3Quiet_any _ _ _ _ t ht w
    have HNan : ∀ t : Bool, Hid (∀ w, Calls Tryz.prog 43 #[.int .i64 f, .bool t] w fun e w' => e = .returned (.agg #[.int .u64 nan, .int .i64 (if t then 1 else 0)]) ∧ Gr w w') := fun t w => l3Nan_any h t _ rfl w
    unfold sqrtO
    by_cases c1 : 3 ≤ x.c
    · rw [if_pos c1]
      refine (sSqrt_nan f mode a _ _ _ _ HF HUa (HQ true (by simp [c1])) (decide (x.c = 4)) (bq _ _) nan _ (HNan _) w).mono ?_
      rintro e w' ⟨rfl, hg⟩
      exact ⟨_, _, .inl (nan_pack _ _ rfl (by omega) (by omega)), rfl, hg⟩
    · rw [if_neg c1]
      have hQa := HQ false (by simp; omega)
      by_cases cz : x.c = 0
      · rw [if_pos cz]
        refine (sSqrt_zero f mode a _ _ _ _ HF HUa hQa cz (sw x.s sg 0) 0 (fun w => l3Zero_any h _ s01 w) w).mono ?_
        rintro e w' ⟨rfl, hg⟩
        exact ⟨_, _, .inl (.inl ⟨rfl, rfl, rfl⟩), rfl, hg⟩
      · rw [if_neg cz]
        by_cases cs : x.s = 1
        · rw [if_pos cs]
          refine (sSqrt_neg f mode a _ _ _ _ HF HUa hQa (by simp [cz]) cs nan 1 (fun w => l2Bad_fmt h w) w).mono ?_
          rintro e w' ⟨rfl, hg⟩
          exact ⟨_, _, .inl (bad_nan rfl), rfl, hg⟩
        · rw [if_neg cs]
          have s0 : x.s = 0 := by rcases s01 with s | s; exact s; exact absurd s cs
          by_cases ci : x.c = 2
          · rw [if_pos ci]
            refine (sSqrt_inf f mode a _ _ _ _ HF HUa hQa ci s0 (sw 0 sg inf) 0 (fun w => l3Infinity_any h _ (.inl rfl) w) w).mono ?_
            rintro e w' ⟨rfl, hg⟩
            exact ⟨_, _, .inl (.inr (.inr (.inl ⟨rfl, rfl, rfl⟩))), rfl, hg⟩
          · rw [if_neg ci]
            have cx : x.c = 1 := by omega
            obtain ⟨Pn, hP, hP1, hP53, hA, hA2⟩ := opd_fin h hx cx
            obtain ⟨od, hod⟩ : ∃ od : Nat, (x.e + (p - 1)) % 2 = (od : Int) := ⟨((x.e + (p - 1)) % 2).toNat, by omega⟩
            obtain ⟨C, st, hC, hst, r1, r2, r3, r4, r5, r6, r7⟩ := root_round hP hP1 hP53 hA hA2 x.e _ _ od rfl hod rfl
            obtain ⟨Pl, hPl⟩ : ∃ Pl, Pl = sqPl p x.e := ⟨_, rfl⟩
            have hPl2 : Pl = sqPl p x.e := hPl
            rw [← hPl] at r4 r5 r7 ⊢
            have hpar : Pl = Pn + 8 ∧ (x.e - (p + 8)) % 2 = 0 ∨ Pl = Pn + 9 ∧ (x.e - (p + 8)) % 2 = 1 := by
              rw [hPl]; unfold sqPl
              by_cases c : (x.e - (p + 8)) % 2 = 0
              · rw [if_pos c]; exact .inl ⟨by omega, c⟩
              · rw [if_neg c]; exact .inr ⟨by omega, by omega⟩
            clear hPl hPl2 r6
            have HRt : Hid (∀ v w, BigN 8 w v (x.M * 2 ^ Pl) → Calls Tryz.prog 88 #[v] w fun e w' => ∃ b k c, BigN 8 w' (.slice (some ⟨b, 0, none⟩) k c) (rootN (x.M * 2 ^ Pl)) ∧ e = .returned (.slice (some ⟨b, 0, none⟩) k c) ∧ Gb w w') := fun v w ⟨n, n1, n2⟩ => by
              refine (l4Root_any n2 (by omega)).mono ?_
              rintro e w' ⟨r, k, R, rfl, hb, hk, hr, hg⟩
              obtain ⟨b, c, rfl, _⟩ := Big.shape hb
              rw [← hr.one (rootN_is _)]
              exact ⟨b, k, c, ⟨k, by omega, hb⟩, rfl, hg⟩
            obtain ⟨z0, hz0⟩ : ∃ z0, z0 = cmpZ (rootN (x.M * 2 ^ Pl) * rootN (x.M * 2 ^ Pl)) (x.M * 2 ^ Pl) := ⟨_, rfl⟩
            have HCm : Hid (∀ v v' w, BigN 16 w v (rootN (x.M * 2 ^ Pl) * rootN (x.M * 2 ^ Pl)) → BigN 8 w v' (x.M * 2 ^ Pl) → Calls Tryz.prog 47 #[v, v'] w fun e w' => e = .returned (.int .i64 z0) ∧ Gb w w') := fun v v' w ⟨n, n1, n2⟩ ⟨n', n1', n2'⟩ => by
              rw [hz0]; exact l2Cmp_any n2 (by omega) n2' (by omega)
            have hzr : (z0 != 0) = decide (rootN (x.M * 2 ^ Pl) * rootN (x.M * 2 ^ Pl) ≠ x.M * 2 ^ Pl) := by
              rw [hz0]; unfold cmpZ
              by_cases c : rootN (x.M * 2 ^ Pl) * rootN (x.M * 2 ^ Pl) = x.M * 2 ^ Pl
              · rw [if_neg (by omega), if_neg (by omega)]; simp [c]
              · by_cases c2 : rootN (x.M * 2 ^ Pl) * rootN (x.M * 2 ^ Pl) < x.M * 2 ^ Pl
                · rw [if_pos c2]; simp [c]
                · rw [if_neg c2, if_pos (by omega)]; simp [c]
            have HR : ∀ q : Int, q = (x.e - Pl) / 2 → Hid (∀ v w, BigN 8 w v (rootN (x.M * 2 ^ Pl)) → Calls Tryz.prog 51 #[.int .i64 f, .int .i64 mode, .agg #[.int .i64 0, v, .int .i64 q, .bool (decide (rootN (x.M * 2 ^ Pl) * rootN (x.M * 2 ^ Pl) ≠ x.M * 2 ^ Pl))]] w fun e w' => ∃ z fl, PackD p (1 - mx) mx one inf sg nan mode ⟨1, 0, (x.e - Pl) / 2 - 1, sqM Pl x.M⟩ z fl ∧ e = .returned (.agg #[.int .u64 z, .int .i64 fl]) ∧ Gb w w') := fun q hq v w hB => by
              rw [hq]
              exact round_atD h mode hm.1 hm.2 ⟨1, 0, (x.e - Pl) / 2 - 1, sqM Pl x.M⟩ rfl (.inl rfl) _ r4 ((x.e - Pl) / 2) (by omega) (by omega) _ r5 (fun mn mx one inf mode z fl => r7 _ _ _ _ _ _ _ _) 8 (by omega) v w hB
            obtain ⟨q, hq⟩ : ∃ q : Int, q = (x.e - Pl) / 2 := ⟨_, rfl⟩
            have hd2 : x.e - (Pl : Int) = 2 * q := by omega
            have hqd : (x.e - (Pl : Int)).tdiv 2 = q := by rw [hd2]; exact Int.mul_tdiv_cancel_left q (by decide)
            have hqw : wrap64 q = q := by unfold wrap64; omega
            rcases hpar with ⟨e1, e2⟩ | ⟨e1, e2⟩
            · have ht : (x.e - (Pl : Int)).tmod 2 = 0 := by rw [hd2]; exact Int.mul_tmod_right 2 q
              exact sSqrt_even f mode a _ _ _ _ HF HUa hQa cx s0 x.M rfl (by omega) (by omega) (by omega) p (by omega) (by omega) (fun w => l2P_any h w) Pl _ q 0 (by omega) (by omega) rfl ht (by decide) hqd hqw _ z0 hzr _ HRt HCm _ (HR q hq) w
            · obtain ⟨r0, hr0⟩ : ∃ r0, r0 = (x.e - (p + 8)).tmod 2 := ⟨_, rfl⟩
              have hne : (r0 != 0) = true := by
                have : r0 ≠ 0 := by
                  intro c
                  rw [hr0] at c
                  have := Int.emod_emod_of_dvd (x.e - (p + 8)) (Int.dvd_refl 2)
                  have := Int.emod_eq_zero_of_dvd (Int.dvd_of_tmod_eq_zero c)
                  omega
                simp [this]
              exact sSqrt_odd f mode a _ _ _ _ HF HUa hQa cx s0 x.M rfl (by omega) (by omega) (by omega) p (by omega) (by omega) (fun w => l2P_any h w) Pl (p + 8) (x.e - (p + 8)) _ q r0 rfl rfl hr0.symm hne (by omega) (by omega) rfl hqd hqw _ z0 hzr _ HRt HCm _ (HR q hq) w
  · refine (sSqrt_bad f mode a (fun w => l3Fits_no f mode a a a0 a1 a0 a1 (nofit_of h a1 a1 (by omega)) w) nan 1 (fun w => l2Bad_fmt h w) w).mono ?_
    rintro e w' ⟨rfl, hg⟩
    have := opd_wide h hx (by omega)
    subst this
    exact ⟨_, _, .inl (bad_nan rfl), rfl, hg⟩

theorem specSqrt_any (f mode a : Int) (a0 : 0 ≤ a) (a1 : a < 18446744073709551616) (w : World) :
    Calls Tryz.prog 34 #[.int .i64 f, .int .i64 mode, .int .u64 a] w fun e w' => ∃ Z fl, OpRD sqrtO f mode a a Z fl ∧ e = .returned (.agg #[.int .u64 Z, .int .i64 fl]) ∧ Gb w w' := by
  by_cases hf : f = 0 ∨ f = 1
  · obtain ⟨p, mx, one, inf, sg, nan, hF⟩ := fmt_of f hf
    by_cases hm : 0 ≤ mode ∧ mode ≤ 4
    · obtain ⟨x, hx⟩ := opd_ex hF a a0 a1
      refine (specSqrt_ok hF mode a hm a0 a1 hx w).mono ?_
      rintro e w' ⟨Z, fl, hp, rfl, hg⟩
      exact ⟨_, _, .inl ⟨p, mx, one, inf, sg, nan, x, x, hF, hm, hx, hx, hp⟩, rfl, hg⟩
    · refine (sSqrt_bad f mode a (fun w => l3Fits_no f mode a a a0 a1 a0 a1 (.inl (by omega)) w) nan 1 (fun w => l2Bad_fmt hF w) w).mono ?_
      rintro e w' ⟨rfl, hg⟩
      exact ⟨_, _, .inr (.inl ⟨p, mx, one, inf, sg, nan, hF, by omega, rfl, rfl⟩), rfl, hg⟩
  · refine (sSqrt_bad f mode a (fun w => l3Fits_no f mode a a a0 a1 a0 a1 (.inr (.inl hf)) w) _ 1 (fun w => l2Bad_no f hf w) w).mono ?_
    rintro e w' ⟨rfl, hg⟩
    exact ⟨_, _, .inr (.inr ⟨hf, rfl, rfl⟩), rfl, hg⟩

theorem sqrt_same (f mode a : Int) (a0 : 0 ≤ a) (a1 : a < 18446744073709551616) :
    ∃ Z fl : Int, OpRD sqrtO f mode a a Z fl ∧ (∀ w, Calls Tryz.prog 34 #[.int .i64 f, .int .i64 mode, .int .u64 a] w fun e w' => e = .returned (.agg #[.int .u64 Z, .int .i64 fl]) ∧ Gb w w') ∧
      (∀ w, Fm w → Calls Tryz.prog 33 #[.int .i64 f, .int .i64 mode, .int .u64 a] w fun e w' => e = .returned (.agg #[.int .u64 Z, .int .i64 fl]) ∧ Gr w w') :=
  both_ofD sqrtO 34 33 _ sqrtO_c f mode a a a0 a1 a0 a1 (specSqrt_any f mode a a0 a1) (implSqrt_any f mode a a0 a1)
end Go.Proofs.YtkflpogmhailhaaGreatDoor
