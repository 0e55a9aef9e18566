/- spec.DrawRoundPack: the ways 0, 1. -/
import Derived.Test.YtoaggnpcmieeaaaDoorDrawA
import Derived.Deep.RegionHeld3
set_option linter.unusedVariables false
set_option linter.unusedSimpArgs false
namespace Go.Proofs.YtoaggnpcmieeaaaDoor
open Go.RowKit
attribute [local go_sem] undef

set_option maxRecDepth 100000 in
set_option maxHeartbeats 60000000 in
theorem drawRP_0 (a : Option Addr) (len cap : Nat) (w : World) (hC : CodeRow w a len) (how : Int) (hw0 : 0 ≤ how) (hw1 : how < 24) (HT : Hid (∀ w', Gr w w' → Calls Tryd.prog 46 #[.slice a len cap, .int .i64 (2 : Nat), .int .i64 24] w' fun e w'' => e = .returned (.tuple #[.int .i64 how, .int .i64 ((2 + 1 : Nat) : Int)]) ∧ w' = w'')) (HX : Hid (how < 8 ∨ how = 8)) :
    Calls Tryd.prog 17 #[.slice a len cap] w (RPDraw w) := by
  have HC : Hid (∀ w', Gr w w' → CodeRow w' a len) := fun w' hg => hC.gr hg
  have HZ : Hid (∀ h l : Int, 0 ≤ h → 0 ≤ l → h < 18446744073709551616 → l < 18446744073709551616 → ∃ z : Int, (0 ≤ z ∧ z ≤ 128) ∧ ∀ w, Calls Tryd.prog 48 #[.agg #[.int .u64 h, .int .u64 l]] w fun x w' => x = .returned (.int .i64 z) ∧ Gr w w') := fun h l h0 l0 h1 l1 => ⟨zer h l, zer_bounds h l h0 l0 h1 l1, fun w => specZeros_any h l h0 l0 h1 l1 w⟩
  clear hC
  go_enter Tryd.func17, Tryd.ntmps17
  go_upto_region 2 with (go_at_call 44; refine (drawFormat_any a len cap 0 _ (HC.out _ (by (repeat' (first | (with_reducible assumption) | (with_reducible exact Gr.refl _) | (with_reducible refine Gr.alloc ?_ _ _) | (with_reducible refine Gr.drew ?_) | go_size)))) (by omega)).mono ?_; rintro x w' ⟨f, m, f0, f1, m0, m1, rfl, hw⟩; subst hw)
  go_upto_region 3 with (go_at_call 46; refine (HT.out _ (by (repeat' (first | (with_reducible assumption) | (with_reducible exact Gr.refl _) | (with_reducible refine Gr.alloc ?_ _ _) | (with_reducible refine Gr.drew ?_) | go_size)))).mono ?_; rintro x w' ⟨rfl, hw⟩; subst hw)
  go_upto_region 4 with (go_at_call 47; refine (wideDraw_any a len cap 3 _ (HC.out _ (by (repeat' (first | (with_reducible assumption) | (with_reducible exact Gr.refl _) | (with_reducible refine Gr.alloc ?_ _ _) | (with_reducible refine Gr.drew ?_) | go_size)))) (by omega)).mono ?_; rintro x w' ⟨h, l, k, h0, h1, l0, l1, hk, rfl, c1, rfl⟩)
  go_upto_region 5 with (go_at_call 46; refine (take_any a len cap k 256 _ (HC.out _ (by (repeat' (first | (with_reducible assumption) | (with_reducible exact Gr.refl _) | (with_reducible refine Gr.alloc ?_ _ _) | (with_reducible refine Gr.drew ?_) | go_size)))) (by omega) (by omega) (by omega)).mono ?_; rintro x w' ⟨d, d0, d1, rfl, hw⟩; subst hw)
  go_upto_region 6 with (go_at_call 46; refine (take_any a len cap (k + 1) 4 _ (HC.out _ (by (repeat' (first | (with_reducible assumption) | (with_reducible exact Gr.refl _) | (with_reducible refine Gr.alloc ?_ _ _) | (with_reducible refine Gr.drew ?_) | go_size)))) (by omega) (by omega) (by omega)).mono ?_; rintro x w' ⟨s, s0, s1, rfl, hw⟩; subst hw)
  rcases (show f = 0 ∨ (f == 0) = false by simp; omega) with rfl | fne
  · skip
    have HMin : Hid (∀ w, Calls Tryd.prog 24 #[.int .i64 0] w fun x w' => x = .returned (.int .i64 (-126)) ∧ w = w') := fun w => l2Min_any (.inl ⟨rfl, rfl, rfl, rfl, rfl, rfl, rfl⟩) w
    have HP : Hid (∀ w, Calls Tryd.prog 23 #[.int .i64 0] w fun x w' => x = .returned (.int .i64 24) ∧ w = w') := fun w => l2P_any (.inl ⟨rfl, rfl, rfl, rfl, rfl, rfl, rfl⟩) w
    have HMax : Hid (∀ w, Calls Tryd.prog 49 #[.int .i64 0] w fun x w' => x = .returned (.int .i64 127) ∧ w = w') := fun w => l2Max_any (.inl ⟨rfl, rfl, rfl, rfl, rfl, rfl, rfl⟩) w
    have HTwo : Hid (∀ w, Calls Tryd.prog 22 #[.int .i64 26] w fun x w' => x = .returned (.int .u64 67108864) ∧ w = w') := fun w => l2Two_any 26 _ (by omega) (by decide) w
    go_upto_region 10 with fail
    obtain ⟨zz, zb, HZZ⟩ := HZ.out h l h0 l0 h1 l1
    have HZ2 : Hid (∀ w, Calls Tryd.prog 48 #[.agg #[.int .u64 h, .int .u64 l]] w fun x w' => x = .returned (.int .i64 zz) ∧ Gr w w') := HZZ
    clear HZZ
    obtain ⟨z00, zb00, HZ00⟩ := HZ.out 0 0 (by omega) (by omega) (by omega) (by omega)
    have HZ0 : Hid (∀ w, Calls Tryd.prog 48 #[.agg #[.int .u64 0, .int .u64 0]] w fun x w' => x = .returned (.int .i64 z00) ∧ Gr w w') := HZ00
    clear HZ00
    have hst : Hid (-10 ≤ s.tmod 2 ∧ s.tmod 2 ≤ 10) := by show _ ∧ _; rw [Int.tmod_eq_emod_of_nonneg s0]; omega
    rcases HX.out with k8 | rfl
    · skip
      have n8 : (how == 8) = false := by simp; omega
      have n9 : (how == 9) = false := by simp; omega
      have n10 : (how == 10) = false := by simp; omega
      have n11 : (how == 11) = false := by simp; omega
      have n20 : (how == 20) = false := by simp; omega
      have n21 : (how == 21) = false := by simp; omega
      have n22 : (how == 22) = false := by simp; omega
      have n23 : (how == 23) = false := by simp; omega
      have hex0 : Hid (-1000000 ≤ IntKind.i64.wrap (IntKind.i64.wrap (IntKind.i64.wrap (-126 - IntKind.i64.wrap (128 - zz)) + d.tmod 70) - 60) ∧ IntKind.i64.wrap (IntKind.i64.wrap (IntKind.i64.wrap (-126 - IntKind.i64.wrap (128 - zz)) + d.tmod 70) - 60) ≤ 1000000) := by
        show _ ∧ _
        rw [Int.tmod_eq_emod_of_nonneg d0]; simp only [IntKind.wrap_i64]; omega
      obtain ⟨ex, hexe⟩ : ∃ ex, IntKind.i64.wrap (IntKind.i64.wrap (IntKind.i64.wrap (-126 - IntKind.i64.wrap (128 - zz)) + d.tmod 70) - 60) = ex := ⟨_, rfl⟩
      have hex : Hid (-1000000 ≤ ex ∧ ex ≤ 1000000) := by rw [← hexe]; exact hex0.out
      clear hex0
      go_upto_region 11 with fail
      go_region_held3 (fun w' => w'.cell? ⟨w.heap.size + 1 + 1, 0, none⟩ = some (.int .u64 h) ∧ w'.cell? ⟨w.heap.size + 1 + 1, 1, none⟩ = some (.int .u64 l) ∧ w'.cell? ⟨w.heap.size, 0, none⟩ = some (.int .u64 0) ∧ w'.cell? ⟨w.heap.size, 1, none⟩ = some (.int .u64 0) ∧ w'.frozen? ⟨w.heap.size, 0, none⟩ = false ∧ w'.frozen? ⟨w.heap.size, 1, none⟩ = false)
        ((go_split_ands; (repeat' apply And.intro) <;> (repeat' (first | (with_reducible assumption) | (with_reducible refine Gr.old (by with_reducible assumption) ?_) | (with_reducible refine cell_setOff ?_ ?_; omega) | (with_reducible refine cell_setNew ?_ ?_; (dsimp only; omega)) | (simp [go_sem]; done) | (with_reducible refine cell_alloc _ ?_) | (with_reducible refine cell_drew ?_) | (with_reducible refine fz_old (by with_reducible assumption) ?_) | (with_reducible refine fz_alloc ?_) | (with_reducible refine fz_drew ?_)))))
        (first
          | (go_at_call 24; refine (HMin.out _).mono ?_; rintro x w' ⟨rfl, hw⟩; subst hw)
          | (go_at_call 48; refine (HZ2.out _).mono ?_; rintro x w1 ⟨rfl, hg_w1⟩; have hc_w1 := hg_w1.cells; have hf_w1 := hg_w1.frozens; have hz_w1 := hg_w1.size; (try simp only [World.size_alloc, World.size_drew, World.size_setCell] at hz_w1)))
      (try go_split_ands)
      have q0 : w1.cell? ⟨w.heap.size, 0, none⟩ = some (.int .u64 0) := kq
      have q1 : w1.cell? ⟨w.heap.size, 1, none⟩ = some (.int .u64 0) := kq
      go_upto_region 25 with fail
      rcases (show ¬ s < 2 ∨ s < 2 by omega) with k4 | k4
      · have k4d : decide (s < 2) = false := decide_eq_false (by omega)
        first | go_region | fail
        all_goals go_wp2
        all_goals
          refine bodyPost_ret (v := .tuple #[.int .i64 0, .int .i64 m, .int .i64 (s % 2), .int .i64 ex, .agg #[.int .u64 h, .int .u64 l], .bool false]) (by simp [results, Tryd.results17, go_sem, q0, q1]) rfl ⟨_, _, _, _, _, _, _, ⟨by omega, by omega⟩, ⟨m0, m1⟩, ⟨by omega, by omega⟩, hex.out, ⟨by omega, by omega⟩, ⟨by omega, by omega⟩, rfl, kr⟩
      · go_region_held3 (fun w' => w'.cell? ⟨w.heap.size + 1 + 1, 0, none⟩ = some (.int .u64 h) ∧ w'.cell? ⟨w.heap.size + 1 + 1, 1, none⟩ = some (.int .u64 l))
          ((go_split_ands; (repeat' apply And.intro) <;> (repeat' (first | (with_reducible assumption) | (with_reducible refine Gr.old (by with_reducible assumption) ?_) | (with_reducible refine cell_setOff ?_ ?_; omega) | (with_reducible refine cell_setNew ?_ ?_; (dsimp only; omega)) | (simp [go_sem]; done) | (with_reducible refine cell_alloc _ ?_) | (with_reducible refine cell_drew ?_) | (with_reducible refine fz_old (by with_reducible assumption) ?_) | (with_reducible refine fz_alloc ?_) | (with_reducible refine fz_drew ?_)))))
          (first
            | (go_at_call 23; refine (HP.out _).mono ?_; rintro x w' ⟨rfl, hw⟩; subst hw)
            | (go_at_call 48; refine (HZ2.out _).mono ?_; rintro x w2 ⟨rfl, hg_w2⟩; have hc_w2 := hg_w2.cells; have hf_w2 := hg_w2.frozens; have hz_w2 := hg_w2.size; (try simp only [World.size_alloc, World.size_drew, World.size_setCell] at hz_w2); have r0 : w2.cell? ⟨w.heap.size, 0, none⟩ = some (.int .u64 0) := (by go_split_ands; (repeat' (first | (with_reducible assumption) | (with_reducible refine Gr.old (by with_reducible assumption) ?_) | (simp [go_sem]; done) | (with_reducible refine cell_alloc _ ?_) | (with_reducible refine cell_drew ?_) | (with_reducible refine fz_old (by with_reducible assumption) ?_) | (with_reducible refine fz_alloc ?_) | (with_reducible refine fz_drew ?_)))); have r1 : w2.cell? ⟨w.heap.size, 1, none⟩ = some (.int .u64 0) := (by go_split_ands; (repeat' (first | (with_reducible assumption) | (with_reducible refine Gr.old (by with_reducible assumption) ?_) | (simp [go_sem]; done) | (with_reducible refine cell_alloc _ ?_) | (with_reducible refine cell_drew ?_) | (with_reducible refine fz_old (by with_reducible assumption) ?_) | (with_reducible refine fz_alloc ?_) | (with_reducible refine fz_drew ?_)))); have z0 : w2.frozen? ⟨w.heap.size, 0, none⟩ = false := (by go_split_ands; (repeat' (first | (with_reducible assumption) | (with_reducible refine Gr.old (by with_reducible assumption) ?_) | (simp [go_sem]; done) | (with_reducible refine cell_alloc _ ?_) | (with_reducible refine cell_drew ?_) | (with_reducible refine fz_old (by with_reducible assumption) ?_) | (with_reducible refine fz_alloc ?_) | (with_reducible refine fz_drew ?_)))); have z1 : w2.frozen? ⟨w.heap.size, 1, none⟩ = false := (by go_split_ands; (repeat' (first | (with_reducible assumption) | (with_reducible refine Gr.old (by with_reducible assumption) ?_) | (simp [go_sem]; done) | (with_reducible refine cell_alloc _ ?_) | (with_reducible refine cell_drew ?_) | (with_reducible refine fz_old (by with_reducible assumption) ?_) | (with_reducible refine fz_alloc ?_) | (with_reducible refine fz_drew ?_))))))
        all_goals go_wp2
        all_goals
          refine bodyPost_ret (v := .tuple #[.int .i64 0, .int .i64 m, .int .i64 (s.tmod 2), .int .i64 ex, .agg #[.int .u64 h, .int .u64 l], .bool _]) (by simp [results, Tryd.results17, go_sem, r0, r1]; rfl) rfl ⟨_, _, _, _, _, _, _, ⟨by omega, by omega⟩, ⟨m0, m1⟩, hst.out, hex.out, ⟨by omega, by omega⟩, ⟨by omega, by omega⟩, rfl, kr⟩
    · skip
      have hex0 : Hid (-1000000 ≤ IntKind.i64.wrap (IntKind.i64.wrap (IntKind.i64.wrap (127 - IntKind.i64.wrap (128 - zz)) + d.tmod 5) - 1) ∧ IntKind.i64.wrap (IntKind.i64.wrap (IntKind.i64.wrap (127 - IntKind.i64.wrap (128 - zz)) + d.tmod 5) - 1) ≤ 1000000) := by
        show _ ∧ _
        rw [Int.tmod_eq_emod_of_nonneg d0]; simp only [IntKind.wrap_i64]; omega
      obtain ⟨ex, hexe⟩ : ∃ ex, IntKind.i64.wrap (IntKind.i64.wrap (IntKind.i64.wrap (127 - IntKind.i64.wrap (128 - zz)) + d.tmod 5) - 1) = ex := ⟨_, rfl⟩
      have hex : Hid (-1000000 ≤ ex ∧ ex ≤ 1000000) := by rw [← hexe]; exact hex0.out
      clear hex0
      go_upto_region 13 with fail
      go_region_held3 (fun w' => w'.cell? ⟨w.heap.size + 1 + 1, 0, none⟩ = some (.int .u64 h) ∧ w'.cell? ⟨w.heap.size + 1 + 1, 1, none⟩ = some (.int .u64 l) ∧ w'.cell? ⟨w.heap.size, 0, none⟩ = some (.int .u64 0) ∧ w'.cell? ⟨w.heap.size, 1, none⟩ = some (.int .u64 0) ∧ w'.frozen? ⟨w.heap.size, 0, none⟩ = false ∧ w'.frozen? ⟨w.heap.size, 1, none⟩ = false)
        ((go_split_ands; (repeat' apply And.intro) <;> (repeat' (first | (with_reducible assumption) | (with_reducible refine Gr.old (by with_reducible assumption) ?_) | (with_reducible refine cell_setOff ?_ ?_; omega) | (with_reducible refine cell_setNew ?_ ?_; (dsimp only; omega)) | (simp [go_sem]; done) | (with_reducible refine cell_alloc _ ?_) | (with_reducible refine cell_drew ?_) | (with_reducible refine fz_old (by with_reducible assumption) ?_) | (with_reducible refine fz_alloc ?_) | (with_reducible refine fz_drew ?_)))))
        (first
          | (go_at_call 49; refine (HMax.out _).mono ?_; rintro x w' ⟨rfl, hw⟩; subst hw)
          | (go_at_call 48; refine (HZ2.out _).mono ?_; rintro x w1 ⟨rfl, hg_w1⟩; have hc_w1 := hg_w1.cells; have hf_w1 := hg_w1.frozens; have hz_w1 := hg_w1.size; (try simp only [World.size_alloc, World.size_drew, World.size_setCell] at hz_w1)))
      (try go_split_ands)
      have q0 : w1.cell? ⟨w.heap.size, 0, none⟩ = some (.int .u64 0) := kq
      have q1 : w1.cell? ⟨w.heap.size, 1, none⟩ = some (.int .u64 0) := kq
      go_upto_region 25 with fail
      rcases (show ¬ s < 2 ∨ s < 2 by omega) with k4 | k4
      · have k4d : decide (s < 2) = false := decide_eq_false (by omega)
        first | go_region | fail
        all_goals go_wp2
        all_goals
          refine bodyPost_ret (v := .tuple #[.int .i64 0, .int .i64 m, .int .i64 (s % 2), .int .i64 ex, .agg #[.int .u64 h, .int .u64 l], .bool false]) (by simp [results, Tryd.results17, go_sem, q0, q1]) rfl ⟨_, _, _, _, _, _, _, ⟨by omega, by omega⟩, ⟨m0, m1⟩, ⟨by omega, by omega⟩, hex.out, ⟨by omega, by omega⟩, ⟨by omega, by omega⟩, rfl, kr⟩
      · go_region_held3 (fun w' => w'.cell? ⟨w.heap.size + 1 + 1, 0, none⟩ = some (.int .u64 h) ∧ w'.cell? ⟨w.heap.size + 1 + 1, 1, none⟩ = some (.int .u64 l))
          ((go_split_ands; (repeat' apply And.intro) <;> (repeat' (first | (with_reducible assumption) | (with_reducible refine Gr.old (by with_reducible assumption) ?_) | (with_reducible refine cell_setOff ?_ ?_; omega) | (with_reducible refine cell_setNew ?_ ?_; (dsimp only; omega)) | (simp [go_sem]; done) | (with_reducible refine cell_alloc _ ?_) | (with_reducible refine cell_drew ?_) | (with_reducible refine fz_old (by with_reducible assumption) ?_) | (with_reducible refine fz_alloc ?_) | (with_reducible refine fz_drew ?_)))))
          (first
            | (go_at_call 23; refine (HP.out _).mono ?_; rintro x w' ⟨rfl, hw⟩; subst hw)
            | (go_at_call 48; refine (HZ2.out _).mono ?_; rintro x w2 ⟨rfl, hg_w2⟩; have hc_w2 := hg_w2.cells; have hf_w2 := hg_w2.frozens; have hz_w2 := hg_w2.size; (try simp only [World.size_alloc, World.size_drew, World.size_setCell] at hz_w2); have r0 : w2.cell? ⟨w.heap.size, 0, none⟩ = some (.int .u64 0) := (by go_split_ands; (repeat' (first | (with_reducible assumption) | (with_reducible refine Gr.old (by with_reducible assumption) ?_) | (simp [go_sem]; done) | (with_reducible refine cell_alloc _ ?_) | (with_reducible refine cell_drew ?_) | (with_reducible refine fz_old (by with_reducible assumption) ?_) | (with_reducible refine fz_alloc ?_) | (with_reducible refine fz_drew ?_)))); have r1 : w2.cell? ⟨w.heap.size, 1, none⟩ = some (.int .u64 0) := (by go_split_ands; (repeat' (first | (with_reducible assumption) | (with_reducible refine Gr.old (by with_reducible assumption) ?_) | (simp [go_sem]; done) | (with_reducible refine cell_alloc _ ?_) | (with_reducible refine cell_drew ?_) | (with_reducible refine fz_old (by with_reducible assumption) ?_) | (with_reducible refine fz_alloc ?_) | (with_reducible refine fz_drew ?_)))); have z0 : w2.frozen? ⟨w.heap.size, 0, none⟩ = false := (by go_split_ands; (repeat' (first | (with_reducible assumption) | (with_reducible refine Gr.old (by with_reducible assumption) ?_) | (simp [go_sem]; done) | (with_reducible refine cell_alloc _ ?_) | (with_reducible refine cell_drew ?_) | (with_reducible refine fz_old (by with_reducible assumption) ?_) | (with_reducible refine fz_alloc ?_) | (with_reducible refine fz_drew ?_)))); have z1 : w2.frozen? ⟨w.heap.size, 1, none⟩ = false := (by go_split_ands; (repeat' (first | (with_reducible assumption) | (with_reducible refine Gr.old (by with_reducible assumption) ?_) | (simp [go_sem]; done) | (with_reducible refine cell_alloc _ ?_) | (with_reducible refine cell_drew ?_) | (with_reducible refine fz_old (by with_reducible assumption) ?_) | (with_reducible refine fz_alloc ?_) | (with_reducible refine fz_drew ?_))))))
        all_goals go_wp2
        all_goals
          refine bodyPost_ret (v := .tuple #[.int .i64 0, .int .i64 m, .int .i64 (s.tmod 2), .int .i64 ex, .agg #[.int .u64 h, .int .u64 l], .bool _]) (by simp [results, Tryd.results17, go_sem, r0, r1]; rfl) rfl ⟨_, _, _, _, _, _, _, ⟨by omega, by omega⟩, ⟨m0, m1⟩, hst.out, hex.out, ⟨by omega, by omega⟩, ⟨by omega, by omega⟩, rfl, kr⟩
  · skip
    have HMin : Hid (∀ w, Calls Tryd.prog 24 #[.int .i64 1] w fun x w' => x = .returned (.int .i64 (-1022)) ∧ w = w') := fun w => l2Min_any (fmt64) w
    have HP : Hid (∀ w, Calls Tryd.prog 23 #[.int .i64 1] w fun x w' => x = .returned (.int .i64 53) ∧ w = w') := fun w => l2P_any (fmt64) w
    have HMax : Hid (∀ w, Calls Tryd.prog 49 #[.int .i64 1] w fun x w' => x = .returned (.int .i64 1023) ∧ w = w') := fun w => l2Max_any (fmt64) w
    have HTwo : Hid (∀ w, Calls Tryd.prog 22 #[.int .i64 55] w fun x w' => x = .returned (.int .u64 36028797018963968) ∧ w = w') := fun w => l2Two_any 55 _ (by omega) (by decide) w
    go_upto_region 10 with fail
    obtain ⟨zz, zb, HZZ⟩ := HZ.out h l h0 l0 h1 l1
    have HZ2 : Hid (∀ w, Calls Tryd.prog 48 #[.agg #[.int .u64 h, .int .u64 l]] w fun x w' => x = .returned (.int .i64 zz) ∧ Gr w w') := HZZ
    clear HZZ
    obtain ⟨z00, zb00, HZ00⟩ := HZ.out 0 0 (by omega) (by omega) (by omega) (by omega)
    have HZ0 : Hid (∀ w, Calls Tryd.prog 48 #[.agg #[.int .u64 0, .int .u64 0]] w fun x w' => x = .returned (.int .i64 z00) ∧ Gr w w') := HZ00
    clear HZ00
    have hst : Hid (-10 ≤ s.tmod 2 ∧ s.tmod 2 ≤ 10) := by show _ ∧ _; rw [Int.tmod_eq_emod_of_nonneg s0]; omega
    rcases HX.out with k8 | rfl
    · skip
      have n8 : (how == 8) = false := by simp; omega
      have n9 : (how == 9) = false := by simp; omega
      have n10 : (how == 10) = false := by simp; omega
      have n11 : (how == 11) = false := by simp; omega
      have n20 : (how == 20) = false := by simp; omega
      have n21 : (how == 21) = false := by simp; omega
      have n22 : (how == 22) = false := by simp; omega
      have n23 : (how == 23) = false := by simp; omega
      have hex0 : Hid (-1000000 ≤ IntKind.i64.wrap (IntKind.i64.wrap (IntKind.i64.wrap (-1022 - IntKind.i64.wrap (128 - zz)) + d.tmod 70) - 60) ∧ IntKind.i64.wrap (IntKind.i64.wrap (IntKind.i64.wrap (-1022 - IntKind.i64.wrap (128 - zz)) + d.tmod 70) - 60) ≤ 1000000) := by
        show _ ∧ _
        rw [Int.tmod_eq_emod_of_nonneg d0]; simp only [IntKind.wrap_i64]; omega
      obtain ⟨ex, hexe⟩ : ∃ ex, IntKind.i64.wrap (IntKind.i64.wrap (IntKind.i64.wrap (-1022 - IntKind.i64.wrap (128 - zz)) + d.tmod 70) - 60) = ex := ⟨_, rfl⟩
      have hex : Hid (-1000000 ≤ ex ∧ ex ≤ 1000000) := by rw [← hexe]; exact hex0.out
      clear hex0
      go_upto_region 11 with fail
      go_region_held3 (fun w' => w'.cell? ⟨w.heap.size + 1 + 1, 0, none⟩ = some (.int .u64 h) ∧ w'.cell? ⟨w.heap.size + 1 + 1, 1, none⟩ = some (.int .u64 l) ∧ w'.cell? ⟨w.heap.size, 0, none⟩ = some (.int .u64 0) ∧ w'.cell? ⟨w.heap.size, 1, none⟩ = some (.int .u64 0) ∧ w'.frozen? ⟨w.heap.size, 0, none⟩ = false ∧ w'.frozen? ⟨w.heap.size, 1, none⟩ = false)
        ((go_split_ands; (repeat' apply And.intro) <;> (repeat' (first | (with_reducible assumption) | (with_reducible refine Gr.old (by with_reducible assumption) ?_) | (with_reducible refine cell_setOff ?_ ?_; omega) | (with_reducible refine cell_setNew ?_ ?_; (dsimp only; omega)) | (simp [go_sem]; done) | (with_reducible refine cell_alloc _ ?_) | (with_reducible refine cell_drew ?_) | (with_reducible refine fz_old (by with_reducible assumption) ?_) | (with_reducible refine fz_alloc ?_) | (with_reducible refine fz_drew ?_)))))
        (first
          | (go_at_call 24; refine (HMin.out _).mono ?_; rintro x w' ⟨rfl, hw⟩; subst hw)
          | (go_at_call 48; refine (HZ2.out _).mono ?_; rintro x w1 ⟨rfl, hg_w1⟩; have hc_w1 := hg_w1.cells; have hf_w1 := hg_w1.frozens; have hz_w1 := hg_w1.size; (try simp only [World.size_alloc, World.size_drew, World.size_setCell] at hz_w1)))
      (try go_split_ands)
      have q0 : w1.cell? ⟨w.heap.size, 0, none⟩ = some (.int .u64 0) := kq
      have q1 : w1.cell? ⟨w.heap.size, 1, none⟩ = some (.int .u64 0) := kq
      go_upto_region 25 with fail
      rcases (show ¬ s < 2 ∨ s < 2 by omega) with k4 | k4
      · have k4d : decide (s < 2) = false := decide_eq_false (by omega)
        first | go_region | fail
        all_goals go_wp2
        all_goals
          refine bodyPost_ret (v := .tuple #[.int .i64 f, .int .i64 m, .int .i64 (s % 2), .int .i64 ex, .agg #[.int .u64 h, .int .u64 l], .bool false]) (by simp [results, Tryd.results17, go_sem, q0, q1]) rfl ⟨_, _, _, _, _, _, _, ⟨by omega, by omega⟩, ⟨m0, m1⟩, ⟨by omega, by omega⟩, hex.out, ⟨by omega, by omega⟩, ⟨by omega, by omega⟩, rfl, kr⟩
      · go_region_held3 (fun w' => w'.cell? ⟨w.heap.size + 1 + 1, 0, none⟩ = some (.int .u64 h) ∧ w'.cell? ⟨w.heap.size + 1 + 1, 1, none⟩ = some (.int .u64 l))
          ((go_split_ands; (repeat' apply And.intro) <;> (repeat' (first | (with_reducible assumption) | (with_reducible refine Gr.old (by with_reducible assumption) ?_) | (with_reducible refine cell_setOff ?_ ?_; omega) | (with_reducible refine cell_setNew ?_ ?_; (dsimp only; omega)) | (simp [go_sem]; done) | (with_reducible refine cell_alloc _ ?_) | (with_reducible refine cell_drew ?_) | (with_reducible refine fz_old (by with_reducible assumption) ?_) | (with_reducible refine fz_alloc ?_) | (with_reducible refine fz_drew ?_)))))
          (first
            | (go_at_call 23; refine (HP.out _).mono ?_; rintro x w' ⟨rfl, hw⟩; subst hw)
            | (go_at_call 48; refine (HZ2.out _).mono ?_; rintro x w2 ⟨rfl, hg_w2⟩; have hc_w2 := hg_w2.cells; have hf_w2 := hg_w2.frozens; have hz_w2 := hg_w2.size; (try simp only [World.size_alloc, World.size_drew, World.size_setCell] at hz_w2); have r0 : w2.cell? ⟨w.heap.size, 0, none⟩ = some (.int .u64 0) := (by go_split_ands; (repeat' (first | (with_reducible assumption) | (with_reducible refine Gr.old (by with_reducible assumption) ?_) | (simp [go_sem]; done) | (with_reducible refine cell_alloc _ ?_) | (with_reducible refine cell_drew ?_) | (with_reducible refine fz_old (by with_reducible assumption) ?_) | (with_reducible refine fz_alloc ?_) | (with_reducible refine fz_drew ?_)))); have r1 : w2.cell? ⟨w.heap.size, 1, none⟩ = some (.int .u64 0) := (by go_split_ands; (repeat' (first | (with_reducible assumption) | (with_reducible refine Gr.old (by with_reducible assumption) ?_) | (simp [go_sem]; done) | (with_reducible refine cell_alloc _ ?_) | (with_reducible refine cell_drew ?_) | (with_reducible refine fz_old (by with_reducible assumption) ?_) | (with_reducible refine fz_alloc ?_) | (with_reducible refine fz_drew ?_)))); have z0 : w2.frozen? ⟨w.heap.size, 0, none⟩ = false := (by go_split_ands; (repeat' (first | (with_reducible assumption) | (with_reducible refine Gr.old (by with_reducible assumption) ?_) | (simp [go_sem]; done) | (with_reducible refine cell_alloc _ ?_) | (with_reducible refine cell_drew ?_) | (with_reducible refine fz_old (by with_reducible assumption) ?_) | (with_reducible refine fz_alloc ?_) | (with_reducible refine fz_drew ?_)))); have z1 : w2.frozen? ⟨w.heap.size, 1, none⟩ = false := (by go_split_ands; (repeat' (first | (with_reducible assumption) | (with_reducible refine Gr.old (by with_reducible assumption) ?_) | (simp [go_sem]; done) | (with_reducible refine cell_alloc _ ?_) | (with_reducible refine cell_drew ?_) | (with_reducible refine fz_old (by with_reducible assumption) ?_) | (with_reducible refine fz_alloc ?_) | (with_reducible refine fz_drew ?_))))))
        all_goals go_wp2
        all_goals
          refine bodyPost_ret (v := .tuple #[.int .i64 f, .int .i64 m, .int .i64 (s.tmod 2), .int .i64 ex, .agg #[.int .u64 h, .int .u64 l], .bool _]) (by simp [results, Tryd.results17, go_sem, r0, r1]; rfl) rfl ⟨_, _, _, _, _, _, _, ⟨by omega, by omega⟩, ⟨m0, m1⟩, hst.out, hex.out, ⟨by omega, by omega⟩, ⟨by omega, by omega⟩, rfl, kr⟩
    · skip
      have hex0 : Hid (-1000000 ≤ IntKind.i64.wrap (IntKind.i64.wrap (IntKind.i64.wrap (1023 - IntKind.i64.wrap (128 - zz)) + d.tmod 5) - 1) ∧ IntKind.i64.wrap (IntKind.i64.wrap (IntKind.i64.wrap (1023 - IntKind.i64.wrap (128 - zz)) + d.tmod 5) - 1) ≤ 1000000) := by
        show _ ∧ _
        rw [Int.tmod_eq_emod_of_nonneg d0]; simp only [IntKind.wrap_i64]; omega
      obtain ⟨ex, hexe⟩ : ∃ ex, IntKind.i64.wrap (IntKind.i64.wrap (IntKind.i64.wrap (1023 - IntKind.i64.wrap (128 - zz)) + d.tmod 5) - 1) = ex := ⟨_, rfl⟩
      have hex : Hid (-1000000 ≤ ex ∧ ex ≤ 1000000) := by rw [← hexe]; exact hex0.out
      clear hex0
      go_upto_region 13 with fail
      go_region_held3 (fun w' => w'.cell? ⟨w.heap.size + 1 + 1, 0, none⟩ = some (.int .u64 h) ∧ w'.cell? ⟨w.heap.size + 1 + 1, 1, none⟩ = some (.int .u64 l) ∧ w'.cell? ⟨w.heap.size, 0, none⟩ = some (.int .u64 0) ∧ w'.cell? ⟨w.heap.size, 1, none⟩ = some (.int .u64 0) ∧ w'.frozen? ⟨w.heap.size, 0, none⟩ = false ∧ w'.frozen? ⟨w.heap.size, 1, none⟩ = false)
        ((go_split_ands; (repeat' apply And.intro) <;> (repeat' (first | (with_reducible assumption) | (with_reducible refine Gr.old (by with_reducible assumption) ?_) | (with_reducible refine cell_setOff ?_ ?_; omega) | (with_reducible refine cell_setNew ?_ ?_; (dsimp only; omega)) | (simp [go_sem]; done) | (with_reducible refine cell_alloc _ ?_) | (with_reducible refine cell_drew ?_) | (with_reducible refine fz_old (by with_reducible assumption) ?_) | (with_reducible refine fz_alloc ?_) | (with_reducible refine fz_drew ?_)))))
        (first
          | (go_at_call 49; refine (HMax.out _).mono ?_; rintro x w' ⟨rfl, hw⟩; subst hw)
          | (go_at_call 48; refine (HZ2.out _).mono ?_; rintro x w1 ⟨rfl, hg_w1⟩; have hc_w1 := hg_w1.cells; have hf_w1 := hg_w1.frozens; have hz_w1 := hg_w1.size; (try simp only [World.size_alloc, World.size_drew, World.size_setCell] at hz_w1)))
      (try go_split_ands)
      have q0 : w1.cell? ⟨w.heap.size, 0, none⟩ = some (.int .u64 0) := kq
      have q1 : w1.cell? ⟨w.heap.size, 1, none⟩ = some (.int .u64 0) := kq
      go_upto_region 25 with fail
      rcases (show ¬ s < 2 ∨ s < 2 by omega) with k4 | k4
      · have k4d : decide (s < 2) = false := decide_eq_false (by omega)
        first | go_region | fail
        all_goals go_wp2
        all_goals
          refine bodyPost_ret (v := .tuple #[.int .i64 f, .int .i64 m, .int .i64 (s % 2), .int .i64 ex, .agg #[.int .u64 h, .int .u64 l], .bool false]) (by simp [results, Tryd.results17, go_sem, q0, q1]) rfl ⟨_, _, _, _, _, _, _, ⟨by omega, by omega⟩, ⟨m0, m1⟩, ⟨by omega, by omega⟩, hex.out, ⟨by omega, by omega⟩, ⟨by omega, by omega⟩, rfl, kr⟩
      · go_region_held3 (fun w' => w'.cell? ⟨w.heap.size + 1 + 1, 0, none⟩ = some (.int .u64 h) ∧ w'.cell? ⟨w.heap.size + 1 + 1, 1, none⟩ = some (.int .u64 l))
          ((go_split_ands; (repeat' apply And.intro) <;> (repeat' (first | (with_reducible assumption) | (with_reducible refine Gr.old (by with_reducible assumption) ?_) | (with_reducible refine cell_setOff ?_ ?_; omega) | (with_reducible refine cell_setNew ?_ ?_; (dsimp only; omega)) | (simp [go_sem]; done) | (with_reducible refine cell_alloc _ ?_) | (with_reducible refine cell_drew ?_) | (with_reducible refine fz_old (by with_reducible assumption) ?_) | (with_reducible refine fz_alloc ?_) | (with_reducible refine fz_drew ?_)))))
          (first
            | (go_at_call 23; refine (HP.out _).mono ?_; rintro x w' ⟨rfl, hw⟩; subst hw)
            | (go_at_call 48; refine (HZ2.out _).mono ?_; rintro x w2 ⟨rfl, hg_w2⟩; have hc_w2 := hg_w2.cells; have hf_w2 := hg_w2.frozens; have hz_w2 := hg_w2.size; (try simp only [World.size_alloc, World.size_drew, World.size_setCell] at hz_w2); have r0 : w2.cell? ⟨w.heap.size, 0, none⟩ = some (.int .u64 0) := (by go_split_ands; (repeat' (first | (with_reducible assumption) | (with_reducible refine Gr.old (by with_reducible assumption) ?_) | (simp [go_sem]; done) | (with_reducible refine cell_alloc _ ?_) | (with_reducible refine cell_drew ?_) | (with_reducible refine fz_old (by with_reducible assumption) ?_) | (with_reducible refine fz_alloc ?_) | (with_reducible refine fz_drew ?_)))); have r1 : w2.cell? ⟨w.heap.size, 1, none⟩ = some (.int .u64 0) := (by go_split_ands; (repeat' (first | (with_reducible assumption) | (with_reducible refine Gr.old (by with_reducible assumption) ?_) | (simp [go_sem]; done) | (with_reducible refine cell_alloc _ ?_) | (with_reducible refine cell_drew ?_) | (with_reducible refine fz_old (by with_reducible assumption) ?_) | (with_reducible refine fz_alloc ?_) | (with_reducible refine fz_drew ?_)))); have z0 : w2.frozen? ⟨w.heap.size, 0, none⟩ = false := (by go_split_ands; (repeat' (first | (with_reducible assumption) | (with_reducible refine Gr.old (by with_reducible assumption) ?_) | (simp [go_sem]; done) | (with_reducible refine cell_alloc _ ?_) | (with_reducible refine cell_drew ?_) | (with_reducible refine fz_old (by with_reducible assumption) ?_) | (with_reducible refine fz_alloc ?_) | (with_reducible refine fz_drew ?_)))); have z1 : w2.frozen? ⟨w.heap.size, 1, none⟩ = false := (by go_split_ands; (repeat' (first | (with_reducible assumption) | (with_reducible refine Gr.old (by with_reducible assumption) ?_) | (simp [go_sem]; done) | (with_reducible refine cell_alloc _ ?_) | (with_reducible refine cell_drew ?_) | (with_reducible refine fz_old (by with_reducible assumption) ?_) | (with_reducible refine fz_alloc ?_) | (with_reducible refine fz_drew ?_))))))
        all_goals go_wp2
        all_goals
          refine bodyPost_ret (v := .tuple #[.int .i64 f, .int .i64 m, .int .i64 (s.tmod 2), .int .i64 ex, .agg #[.int .u64 h, .int .u64 l], .bool _]) (by simp [results, Tryd.results17, go_sem, r0, r1]; rfl) rfl ⟨_, _, _, _, _, _, _, ⟨by omega, by omega⟩, ⟨m0, m1⟩, hst.out, hex.out, ⟨by omega, by omega⟩, ⟨by omega, by omega⟩, rfl, kr⟩
end Go.Proofs.YtoaggnpcmieeaaaDoor
