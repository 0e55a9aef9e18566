/- spec.DrawRem. -/
import Derived.Test.YtkflpogmhailhaaGreatDoorR1
import Derived.Test.YtkflpogmhailhaaGreatDoorA7
import Derived.Deep.RegionHeld3
import Derived.Deep.DeepCutAuto
import Derived.BigQuiet
import Derived.WalkSmall
import Derived.Deep.QuietTactic
import Derived.Test.YtkflpogmhailhaaGreatDoorC4
import Derived.Test.YtkflpogmhailhaaGreatDoorR7
import Derived.Test.YtkflpogmhailhaaGreatDoorRA
import Derived.Test.YtkflpogmhailhaaGreatDoorR8
import Derived.Test.YtkflpogmhailhaaGreatDoorRE
import Derived.Test.YtkflpogmhailhaaGreatDoorRRB
import Derived.Test.YtkflpogmhailhaaGreatDoorLaid
import Derived.Test.YtkflpogmhailhaaGreatDoorCards
import Derived.Test.YtkflpogmhailhaaGreatDoorTie
import Derived.WalkKit
import Derived.ProofKit
import Derived.OpenShut
import Derived.ShutString
import Derived.ChangeOld
import Derived.Below
import Derived.Lib.SmallJoins
import Derived.LaidMore
import Derived.Stop.Joined
import Derived.SevenTiedAt
set_option linter.unusedVariables false
set_option linter.unusedSimpArgs false
namespace Go.Proofs.YtkflpogmhailhaaGreatDoor
open Go.RowKit

theorem Gb.drewR {W w : World} (h : Gb W w) (n : Nat) : Gb W (w.drewN n) := below_drewN h n
/-- Take number i of a region first; its slot is named. -/
theorem take_at {P : Program} {md : Region.Mode} {ops : Array Oper} {Q : Exit → Act → World → Prop} {S : World → Prop} {i : Nat} {oi : Oper} {v : Value} {d : Option Tmp} {fuel : Nat} {listed : Array Bool} {a : Act} {w : World} (hi : ops[i]? = some oi) (hd : oi.dst = d)
    (hs : Region.noSelect ops = true) (hf : Region.free md ops listed i = true) (hr : (Region.ready md ops listed).contains i = true)
    (hQ : ∀ c a w, Q (.panic c) (a.put d v) w → Q (.panic c) a w) (hy : YieldsIf P ops S oi v a) (hS : S w)
    (h : wpAnyH P md ops Q S fuel (listed.setIfInBounds i true) (a.put d v) w) : wpAnyH P md ops Q S (fuel + 1) listed a w := by
  subst hd
  exact wpAnyH_take hi hs hf hr hQ hy hS h

def RemDraw (w : World) (x : Ending) (w' : World) : Prop := ∃ f u v : Int, -10 ≤ f ∧ f ≤ 10 ∧ 0 ≤ u ∧ u < 18446744073709551616 ∧ 0 ≤ v ∧ v < 18446744073709551616 ∧ x = .returned (.tuple #[.int .i64 f, .int .u64 u, .int .u64 v]) ∧ Gb w w'

set_option maxRecDepth 100000 in
set_option maxHeartbeats 8000000 in
theorem drawRem_any (a : Option Addr) (len cap : Nat) (w : World) (hC : CodeRow w a len)
    (HFi : Hid (∀ f mode a b : Int, 0 ≤ a → a < 18446744073709551616 → 0 ≤ b → b < 18446744073709551616 → (∃ sg : Int, sg ≤ 9223372036854775808 ∧ a < 2 * sg ∧ b < 2 * sg ∧ Hid (∀ w, Calls Tryz.prog 37 #[.int .i64 f, .int .i64 mode, .int .u64 a, .int .u64 b] w fun e w' => e = .returned (.bool true) ∧ w = w') ∧
        Hid (∀ v w, 0 < v → v ≤ 100 → Calls Tryz.prog 38 #[.int .i64 f, .int .i64 0, .int .i64 1, .int .u64 v] w fun e w' => ∃ z fl : Int, (0 ≤ z ∧ z < 2 * sg) ∧ e = .returned (.agg #[.int .u64 z, .int .i64 fl]) ∧ Gb w w') ∧
        Hid (∀ a b w, 0 ≤ a → a < 2 * sg → 0 ≤ b → b < 2 * sg → Calls Tryz.prog 18 #[.int .i64 f, .int .i64 0, .int .u64 a, .int .u64 b] w fun e w' => ∃ z fl : Int, (0 ≤ z ∧ z < 2 * sg) ∧ e = .returned (.agg #[.int .u64 z, .int .i64 fl]) ∧ Gb w w') ∧
        Hid (∀ a b w, 0 ≤ a → a < 2 * sg → 0 ≤ b → b < 2 * sg → Calls Tryz.prog 29 #[.int .i64 f, .int .i64 0, .int .u64 a, .int .u64 b] w fun e w' => ∃ z fl : Int, (0 ≤ z ∧ z < 2 * sg) ∧ e = .returned (.agg #[.int .u64 z, .int .i64 fl]) ∧ Gb w w')) ∨
      Hid (∀ w, Calls Tryz.prog 37 #[.int .i64 f, .int .i64 mode, .int .u64 a, .int .u64 b] w fun e w' => e = .returned (.bool false) ∧ w = w'))) :
    Calls Tryz.prog 7 #[.slice a len cap] w (RemDraw w) := by
  have HC : Hid (∀ w', Gr w w' → CodeRow w' a len) := fun w' hg => hC.gr hg
  clear hC
  have hfd : ∀ z fl w, (Instr.field 27 (.agg #[.int .u64 z, .int .i64 fl]) 0).run Tryz.prog w = .ok (.int .u64 z) w := fun z fl w => by kernel_rfl
  go_enter Tryz.func7, Tryz.ntmps7
  go_upto_region 2 with (go_at_call 35; refine (drawTwo_any a len cap 0 _ (HC.out _ (Gr.refl _)) (by omega)).mono ?_; rintro x w1 ⟨f, m, u, v, j, f0, f1, m0, m1, u0, u1, v0, v1, hj, rfl, hg_w1⟩)
  go_upto_region 3 with (go_at_call 36; refine (take_any a len cap j 6 _ (HC.out _ hg_w1) (by omega) (by omega) (by omega)).mono ?_; rintro x w' ⟨h6, h0, h1, rfl, hw⟩; subst hw)
  go_upto_region 4 with (go_at_call 36; refine (take_any a len cap (j + 1) 9 _ (HC.out _ hg_w1) (by omega) (by omega) (by omega)).mono ?_; rintro x w' ⟨x9, x0, x1, rfl, hw⟩; subst hw)
  have hgb1 : Gb w w1 := hg_w1.gb
  rcases (show (decide (h6 < 2) = true ∧ h6 < 2) ∨ (decide (h6 < 2) = false ∧ ¬ h6 < 2) by simp; omega) with ⟨d1, d2⟩ | ⟨d1, d2⟩
  · rcases HFi.out f m u v u0 u1 v0 v1 with ⟨sg, hsg, hu2, hv2, HFt, HFr, HMu, HDv⟩ | HFt
    · clear HFi
      go_upto_region 7 with (first
        | (go_at_call 37; refine (HFt.out _).mono ?_; rintro x w' ⟨rfl, hw⟩; subst hw)
        | (go_at_call 38; refine (HFr.out _ _ (by first | omega | (simp only [IntKind.wrap_u64, wrap64]; omega)) (by first | omega | (simp only [IntKind.wrap_u64, wrap64]; omega))).mono ?_; rintro x w2 ⟨z2, g2, ⟨z20, z21⟩, rfl, hg_w2⟩; have hgb2 : Gb w w2 := Gb.g)
        | (go_at_call 18; refine (HMu.out _ _ _ (by assumption) (by assumption) (by assumption) (by assumption)).mono ?_; rintro x w3 ⟨z3, g3, ⟨z30, z31⟩, rfl, hg_w3⟩; have hgb3 : Gb w w3 := Gb.g))
      obtain ⟨w4, hw4⟩ : ∃ w4, w3.alloc (.cells #[.int .u64 z3, .int .i64 g3] 27) = w4 := ⟨_, rfl⟩
      have hg_w4 : Gr w3 w4 := by rw [← hw4]; exact (Gr.refl _).alloc _ _
      have hgb4 : Gb w w4 := Gb.g
      have rr0 : w4.cell? ⟨w3.heap.size, 0, none⟩ = some (.int .u64 z3) := by rw [← hw4]; simp [go_sem]
      have rr1 : w4.cell? ⟨w3.heap.size, 1, none⟩ = some (.int .i64 g3) := by rw [← hw4]; simp [go_sem]
      have hz4 : w3.heap.size < w4.heap.size := by rw [← hw4]; simp
      rw [hw4]
      clear hw4
      refine wp_region_noPanic ?_
      refine wp_region_held_drew (S := fun w' => w'.cell? ⟨w3.heap.size, 0, none⟩ = some (.int .u64 z3)) (by kernel_rfl) rr0 (fun hHeld => ?_)
      refine take_at (i := 0) (v := ?_) (d := some 63) (fuel := 8) rfl rfl (by kernel_rfl) (by kernel_rfl) (by kernel_rfl) (fun _ _ _ h => h) (Or.inl ⟨by rfl, ?_⟩) (by assumption) ?_
      rotate_left
      · (intro w hSw; (try dsimp only at hSw); go_simp; try with_reducible rfl)
      simp only [Act.put, List.setIfInBounds_toArray, List.set_cons_zero, List.set_cons_succ]
      refine take_at (i := 1) (v := ?_) (d := some 64) (fuel := 7) rfl rfl (by kernel_rfl) (by kernel_rfl) (by kernel_rfl) (fun _ _ _ h => h) (Or.inl ⟨by rfl, ?_⟩) (by assumption) ?_
      rotate_left
      · (intro w hSw; (try dsimp only at hSw); go_simp; try with_reducible rfl)
      simp only [Act.put, List.setIfInBounds_toArray, List.set_cons_zero, List.set_cons_succ]
      refine take_at (i := 2) (v := ?_) (d := some 65) (fuel := 6) rfl rfl (by kernel_rfl) (by kernel_rfl) (by kernel_rfl) (fun _ _ _ h => h) (Or.inl ⟨by rfl, ?_⟩) (by assumption) ?_
      rotate_left
      · (intro w hSw; (try dsimp only at hSw); go_simp; try with_reducible rfl)
      simp only [Act.put, List.setIfInBounds_toArray, List.set_cons_zero, List.set_cons_succ]
      refine take_at (i := 3) (v := ?_) (d := some 66) (fuel := 5) rfl rfl (by kernel_rfl) (by kernel_rfl) (by kernel_rfl) (fun _ _ _ h => h) (Or.inl ⟨by rfl, ?_⟩) (by assumption) ?_
      rotate_left
      · (intro w hSw; (try dsimp only at hSw); go_simp; try with_reducible rfl)
      simp only [Act.put, List.setIfInBounds_toArray, List.set_cons_zero, List.set_cons_succ]
      refine wpAnyH_ready (rs := [4, 7]) (by kernel_rfl) (by simp) ?_
      refine AllReadyH.cons rfl (fun K hK => ?_) (AllReadyH.cons rfl (fun K hK => ?_) AllReadyH.nil)
      · go_simp
        go_at_call 38
        refine (HFr.out _ _ (by omega) (by omega)).mono ?_
        rintro x w5 ⟨z5, g5, ⟨z50, z51⟩, rfl, hg_w5⟩
        have rs0 : w5.cell? ⟨w3.heap.size, 0, none⟩ = some (.int .u64 z3) := hg_w5.c; have rs1 : w5.cell? ⟨w3.heap.size, 1, none⟩ = some (.int .i64 g3) := hg_w5.c
        have hs5 := cell_size rs0
        have hgb5 : Gb w w5 := Gb.g
        refine hK.out _ _ (by assumption) (fun hHeld => ?_)
        clear hK K
        (try simp only [Act.put, List.setIfInBounds_toArray, List.set_cons_zero, List.set_cons_succ])
        refine take_at (i := 5) (v := ?_) (d := some 68) (fuel := 3) rfl rfl (by kernel_rfl) (by kernel_rfl) (by kernel_rfl) (fun _ _ _ h => h) (Or.inl ⟨by rfl, ?_⟩) (by assumption) ?_
        rotate_left
        · (intro w hSw; (try dsimp only at hSw); go_simp; try with_reducible rfl)
        simp only [Act.put, List.setIfInBounds_toArray, List.set_cons_zero, List.set_cons_succ]
        refine wpAnyH_ready (rs := [6, 7]) (by kernel_rfl) (by simp) ?_
        refine AllReadyH.cons rfl (fun K hK => ?_) (AllReadyH.cons rfl (fun K hK => ?_) AllReadyH.nil)
        · go_simp
          go_at_call 29
          refine (HDv.out _ _ _ (by assumption) (by assumption) (by assumption) (by assumption)).mono ?_
          rintro x w6 ⟨z6, g6, ⟨z60, z61⟩, rfl, hg_w6⟩
          have rt0 : w6.cell? ⟨w3.heap.size, 0, none⟩ = some (.int .u64 z3) := hg_w6.c; have rt1 : w6.cell? ⟨w3.heap.size, 1, none⟩ = some (.int .i64 g3) := hg_w6.c
          have hs6 := cell_size rt0
          have hgb6 : Gb w w6 := Gb.g
          refine hK.out _ _ (by assumption) (fun hHeld => ?_)
          clear hK K
          (try simp only [Act.put, List.setIfInBounds_toArray, List.set_cons_zero, List.set_cons_succ])
          refine wpAnyH_ready (rs := [7]) (by kernel_rfl) (by simp) ?_
          refine AllReadyH.cons rfl (fun K hK => ?_) AllReadyH.nil
          go_simp
          obtain ⟨n7, hn7⟩ : ∃ n7, w6.alloc (.cells #[.int .u64 0, .int .i64 0] 27) = n7 := ⟨_, rfl⟩
          have hg_n7 : Gb w6 n7 := by rw [← hn7]; exact (Gb.refl _).alloc _
          have ak0 : n7.cell? ⟨w6.heap.size, 0, none⟩ = some (.int .u64 0) := by rw [← hn7]; simp [go_sem]
          have ak1 : n7.cell? ⟨w6.heap.size, 1, none⟩ = some (.int .i64 0) := by rw [← hn7]; simp [go_sem]
          have akz0 : n7.frozen? ⟨w6.heap.size, 0, none⟩ = false := by rw [← hn7]; simp [go_sem]
          have akz1 : n7.frozen? ⟨w6.heap.size, 1, none⟩ = false := by rw [← hn7]; simp [go_sem]
          have hzn7 : w6.heap.size < n7.heap.size := by rw [← hn7]; simp
          rw [hn7]
          clear hn7
          have rk0 : n7.cell? ⟨w3.heap.size, 0, none⟩ = some (.int .u64 z3) := hg_n7.c; have rk1 : n7.cell? ⟨w3.heap.size, 1, none⟩ = some (.int .i64 g3) := hg_n7.c
          have hgbn7 : Gb w n7 := Gb.g
          refine hK.out _ _ (by assumption) (fun hHeld => ?_)
          clear hK K
          (try simp only [Act.put, List.setIfInBounds_toArray, List.set_cons_zero, List.set_cons_succ])
          refine wpAnyH_ready (rs := [8]) (by kernel_rfl) (by simp) ?_
          refine AllReadyH.cons rfl (fun K hK => ?_) AllReadyH.nil
          go_simp
          obtain ⟨n8, hn8⟩ : ∃ n8, (n7.setCell ⟨w6.heap.size, 0, none⟩ (.int .u64 z6)).setCell ⟨w6.heap.size, 1, none⟩ (.int .i64 g6) = n8 := ⟨_, rfl⟩
          have hle8 : w.heap.size ≤ w6.heap.size := by have q1 := hgb4.size; have q2 := hgb3.size; first | omega | (have q3 := hgb5.size; omega) | (have q3 := hgb5.size; have q4 := hgb6.size; omega)
          have hgbn8 : Gb w n8 := by rw [← hn8]; exact ((show Gb w n7 from Gb.g).setCell (a := ⟨w6.heap.size, 0, none⟩) hle8 _).setCell (a := ⟨w6.heap.size, 1, none⟩) hle8 _
          have bk0 : n8.cell? ⟨w6.heap.size, 0, none⟩ = some (.int .u64 z6) := by rw [← hn8]; (repeat' (first | (with_reducible assumption) | (with_reducible refine has_of (by with_reducible assumption)) | (with_reducible refine Gr.old (by with_reducible assumption) ?_) | (with_reducible refine Gb.old (by with_reducible assumption) ?_) | (with_reducible refine Gb.hs (by with_reducible assumption) ?_) | (with_reducible refine has_old (by with_reducible assumption) ?_) | (with_reducible refine cell_setSame ?_) | (with_reducible refine has_set ?_) | (with_reducible refine cell_setOff ?_ ?_; omega) | (with_reducible refine cell_setNew ?_ ?_; (dsimp only; omega)) | (simp [go_sem]; done) | (with_reducible refine cell_alloc _ ?_) | (with_reducible refine cell_drew ?_) | (with_reducible refine has_alloc _ ?_) | (with_reducible refine fz_old (by with_reducible assumption) ?_) | (with_reducible refine Gb.fh (by with_reducible assumption) (by with_reducible assumption) ?_) | (with_reducible refine fz_alloc ?_) | (with_reducible refine fz_set ?_) | (with_reducible refine fz_drew ?_) | go_size))
          have bs0 : n8.cell? ⟨w3.heap.size, 0, none⟩ = some (.int .u64 z3) := by rw [← hn8]; (repeat' (first | (with_reducible assumption) | (with_reducible refine has_of (by with_reducible assumption)) | (with_reducible refine Gr.old (by with_reducible assumption) ?_) | (with_reducible refine Gb.old (by with_reducible assumption) ?_) | (with_reducible refine Gb.hs (by with_reducible assumption) ?_) | (with_reducible refine has_old (by with_reducible assumption) ?_) | (with_reducible refine cell_setSame ?_) | (with_reducible refine has_set ?_) | (with_reducible refine cell_setOff ?_ ?_; omega) | (with_reducible refine cell_setNew ?_ ?_; (dsimp only; omega)) | (simp [go_sem]; done) | (with_reducible refine cell_alloc _ ?_) | (with_reducible refine cell_drew ?_) | (with_reducible refine has_alloc _ ?_) | (with_reducible refine fz_old (by with_reducible assumption) ?_) | (with_reducible refine Gb.fh (by with_reducible assumption) (by with_reducible assumption) ?_) | (with_reducible refine fz_alloc ?_) | (with_reducible refine fz_set ?_) | (with_reducible refine fz_drew ?_) | go_size))
          rw [hn8]
          clear hn8
          refine hK.out _ _ (by assumption) (fun hHeld => ?_)
          clear hK K
          (try simp only [Act.put, List.setIfInBounds_toArray, List.set_cons_zero, List.set_cons_succ])
          refine wpAnyH_done (by kernel_rfl) (NoPanic.normal ?_) _
          go_wp2
          first | (go_quiet (fail)) | skip
          go_wp2
          go_returns
          exact ⟨f, z6, v, f0, f1, z60, by omega, v0, v1, rfl, by first | exact hgbn8 | exact Gb.drewR hgbn8 _ | exact Gb.drew hgbn8⟩
        · go_simp
          obtain ⟨n7, hn7⟩ : ∃ n7, w5.alloc (.cells #[.int .u64 0, .int .i64 0] 27) = n7 := ⟨_, rfl⟩
          have hg_n7 : Gb w5 n7 := by rw [← hn7]; exact (Gb.refl _).alloc _
          have ak0 : n7.cell? ⟨w5.heap.size, 0, none⟩ = some (.int .u64 0) := by rw [← hn7]; simp [go_sem]
          have ak1 : n7.cell? ⟨w5.heap.size, 1, none⟩ = some (.int .i64 0) := by rw [← hn7]; simp [go_sem]
          have akz0 : n7.frozen? ⟨w5.heap.size, 0, none⟩ = false := by rw [← hn7]; simp [go_sem]
          have akz1 : n7.frozen? ⟨w5.heap.size, 1, none⟩ = false := by rw [← hn7]; simp [go_sem]
          have hzn7 : w5.heap.size < n7.heap.size := by rw [← hn7]; simp
          rw [hn7]
          clear hn7
          have rk0 : n7.cell? ⟨w3.heap.size, 0, none⟩ = some (.int .u64 z3) := hg_n7.c; have rk1 : n7.cell? ⟨w3.heap.size, 1, none⟩ = some (.int .i64 g3) := hg_n7.c
          have hgbn7 : Gb w n7 := Gb.g
          refine hK.out _ _ (by assumption) (fun hHeld => ?_)
          clear hK K
          (try simp only [Act.put, List.setIfInBounds_toArray, List.set_cons_zero, List.set_cons_succ])
          refine wpAnyH_ready (rs := [6]) (by kernel_rfl) (by simp) ?_
          refine AllReadyH.cons rfl (fun K hK => ?_) AllReadyH.nil
          go_simp
          go_at_call 29
          refine (HDv.out _ _ _ (by assumption) (by assumption) (by assumption) (by assumption)).mono ?_
          rintro x w6 ⟨z6, g6, ⟨z60, z61⟩, rfl, hg_w6⟩
          have rt0 : w6.cell? ⟨w3.heap.size, 0, none⟩ = some (.int .u64 z3) := hg_w6.c; have rt1 : w6.cell? ⟨w3.heap.size, 1, none⟩ = some (.int .i64 g3) := hg_w6.c
          have hs6 := cell_size rt0
          have ft0 : w6.cell? ⟨w5.heap.size, 0, none⟩ = some (.int .u64 0) := hg_w6.c; have ftz0 : w6.frozen? ⟨w5.heap.size, 0, none⟩ = false := hg_w6.z ft0; have ft1 : w6.cell? ⟨w5.heap.size, 1, none⟩ = some (.int .i64 0) := hg_w6.c; have ftz1 : w6.frozen? ⟨w5.heap.size, 1, none⟩ = false := hg_w6.z ft1
          have hgb6 : Gb w w6 := Gb.g
          refine hK.out _ _ (by assumption) (fun hHeld => ?_)
          clear hK K
          (try simp only [Act.put, List.setIfInBounds_toArray, List.set_cons_zero, List.set_cons_succ])
          refine wpAnyH_ready (rs := [8]) (by kernel_rfl) (by simp) ?_
          refine AllReadyH.cons rfl (fun K hK => ?_) AllReadyH.nil
          go_simp
          obtain ⟨n8, hn8⟩ : ∃ n8, (w6.setCell ⟨w5.heap.size, 0, none⟩ (.int .u64 z6)).setCell ⟨w5.heap.size, 1, none⟩ (.int .i64 g6) = n8 := ⟨_, rfl⟩
          have hle8 : w.heap.size ≤ w5.heap.size := by have q1 := hgb4.size; have q2 := hgb3.size; first | omega | (have q3 := hgb5.size; omega) | (have q3 := hgb5.size; have q4 := hgb6.size; omega)
          have hgbn8 : Gb w n8 := by rw [← hn8]; exact ((show Gb w w6 from Gb.g).setCell (a := ⟨w5.heap.size, 0, none⟩) hle8 _).setCell (a := ⟨w5.heap.size, 1, none⟩) hle8 _
          have bk0 : n8.cell? ⟨w5.heap.size, 0, none⟩ = some (.int .u64 z6) := by rw [← hn8]; (repeat' (first | (with_reducible assumption) | (with_reducible refine has_of (by with_reducible assumption)) | (with_reducible refine Gr.old (by with_reducible assumption) ?_) | (with_reducible refine Gb.old (by with_reducible assumption) ?_) | (with_reducible refine Gb.hs (by with_reducible assumption) ?_) | (with_reducible refine has_old (by with_reducible assumption) ?_) | (with_reducible refine cell_setSame ?_) | (with_reducible refine has_set ?_) | (with_reducible refine cell_setOff ?_ ?_; omega) | (with_reducible refine cell_setNew ?_ ?_; (dsimp only; omega)) | (simp [go_sem]; done) | (with_reducible refine cell_alloc _ ?_) | (with_reducible refine cell_drew ?_) | (with_reducible refine has_alloc _ ?_) | (with_reducible refine fz_old (by with_reducible assumption) ?_) | (with_reducible refine Gb.fh (by with_reducible assumption) (by with_reducible assumption) ?_) | (with_reducible refine fz_alloc ?_) | (with_reducible refine fz_set ?_) | (with_reducible refine fz_drew ?_) | go_size))
          have bs0 : n8.cell? ⟨w3.heap.size, 0, none⟩ = some (.int .u64 z3) := by rw [← hn8]; (repeat' (first | (with_reducible assumption) | (with_reducible refine has_of (by with_reducible assumption)) | (with_reducible refine Gr.old (by with_reducible assumption) ?_) | (with_reducible refine Gb.old (by with_reducible assumption) ?_) | (with_reducible refine Gb.hs (by with_reducible assumption) ?_) | (with_reducible refine has_old (by with_reducible assumption) ?_) | (with_reducible refine cell_setSame ?_) | (with_reducible refine has_set ?_) | (with_reducible refine cell_setOff ?_ ?_; omega) | (with_reducible refine cell_setNew ?_ ?_; (dsimp only; omega)) | (simp [go_sem]; done) | (with_reducible refine cell_alloc _ ?_) | (with_reducible refine cell_drew ?_) | (with_reducible refine has_alloc _ ?_) | (with_reducible refine fz_old (by with_reducible assumption) ?_) | (with_reducible refine Gb.fh (by with_reducible assumption) (by with_reducible assumption) ?_) | (with_reducible refine fz_alloc ?_) | (with_reducible refine fz_set ?_) | (with_reducible refine fz_drew ?_) | go_size))
          rw [hn8]
          clear hn8
          refine hK.out _ _ (by assumption) (fun hHeld => ?_)
          clear hK K
          (try simp only [Act.put, List.setIfInBounds_toArray, List.set_cons_zero, List.set_cons_succ])
          refine wpAnyH_done (by kernel_rfl) (NoPanic.normal ?_) _
          go_wp2
          first | (go_quiet (fail)) | skip
          go_wp2
          go_returns
          exact ⟨f, z6, v, f0, f1, z60, by omega, v0, v1, rfl, by first | exact hgbn8 | exact Gb.drewR hgbn8 _ | exact Gb.drew hgbn8⟩
      · go_simp
        obtain ⟨n7, hn7⟩ : ∃ n7, (w4.alloc (.cells #[.int .u64 0, .int .i64 0] 27)).drew = n7 := ⟨_, rfl⟩
        have hg_n7 : Gb w4 n7 := by rw [← hn7]; exact Gb.drew ((Gb.refl _).alloc _)
        have ak0 : n7.cell? ⟨w4.heap.size, 0, none⟩ = some (.int .u64 0) := by rw [← hn7]; simp [go_sem]
        have ak1 : n7.cell? ⟨w4.heap.size, 1, none⟩ = some (.int .i64 0) := by rw [← hn7]; simp [go_sem]
        have akz0 : n7.frozen? ⟨w4.heap.size, 0, none⟩ = false := by rw [← hn7]; simp [go_sem]
        have akz1 : n7.frozen? ⟨w4.heap.size, 1, none⟩ = false := by rw [← hn7]; simp [go_sem]
        have hzn7 : w4.heap.size < n7.heap.size := by rw [← hn7]; simp
        rw [hn7]
        clear hn7
        have rk0 : n7.cell? ⟨w3.heap.size, 0, none⟩ = some (.int .u64 z3) := hg_n7.c; have rk1 : n7.cell? ⟨w3.heap.size, 1, none⟩ = some (.int .i64 g3) := hg_n7.c
        have hgbn7 : Gb w n7 := Gb.g
        refine hK.out _ _ (by assumption) (fun hHeld => ?_)
        clear hK K
        (try simp only [Act.put, List.setIfInBounds_toArray, List.set_cons_zero, List.set_cons_succ])
        refine wpAnyH_ready (rs := [4]) (by kernel_rfl) (by simp) ?_
        refine AllReadyH.cons rfl (fun K hK => ?_) AllReadyH.nil
        go_simp
        go_at_call 38
        refine (HFr.out _ _ (by omega) (by omega)).mono ?_
        rintro x w5 ⟨z5, g5, ⟨z50, z51⟩, rfl, hg_w5⟩
        have rs0 : w5.cell? ⟨w3.heap.size, 0, none⟩ = some (.int .u64 z3) := hg_w5.c; have rs1 : w5.cell? ⟨w3.heap.size, 1, none⟩ = some (.int .i64 g3) := hg_w5.c
        have hs5 := cell_size rs0
        have fs0 : w5.cell? ⟨w4.heap.size, 0, none⟩ = some (.int .u64 0) := hg_w5.c; have fsz0 : w5.frozen? ⟨w4.heap.size, 0, none⟩ = false := hg_w5.z fs0; have fs1 : w5.cell? ⟨w4.heap.size, 1, none⟩ = some (.int .i64 0) := hg_w5.c; have fsz1 : w5.frozen? ⟨w4.heap.size, 1, none⟩ = false := hg_w5.z fs1
        have hgb5 : Gb w w5 := Gb.g
        refine hK.out _ _ (by assumption) (fun hHeld => ?_)
        clear hK K
        (try simp only [Act.put, List.setIfInBounds_toArray, List.set_cons_zero, List.set_cons_succ])
        refine take_at (i := 5) (v := ?_) (d := some 68) (fuel := 2) rfl rfl (by kernel_rfl) (by kernel_rfl) (by kernel_rfl) (fun _ _ _ h => h) (Or.inl ⟨by rfl, ?_⟩) (by assumption) ?_
        rotate_left
        · (intro w hSw; (try dsimp only at hSw); go_simp; try with_reducible rfl)
        simp only [Act.put, List.setIfInBounds_toArray, List.set_cons_zero, List.set_cons_succ]
        refine wpAnyH_ready (rs := [6]) (by kernel_rfl) (by simp) ?_
        refine AllReadyH.cons rfl (fun K hK => ?_) AllReadyH.nil
        go_simp
        go_at_call 29
        refine (HDv.out _ _ _ (by assumption) (by assumption) (by assumption) (by assumption)).mono ?_
        rintro x w6 ⟨z6, g6, ⟨z60, z61⟩, rfl, hg_w6⟩
        have rt0 : w6.cell? ⟨w3.heap.size, 0, none⟩ = some (.int .u64 z3) := hg_w6.c; have rt1 : w6.cell? ⟨w3.heap.size, 1, none⟩ = some (.int .i64 g3) := hg_w6.c
        have hs6 := cell_size rt0
        have ft0 : w6.cell? ⟨w4.heap.size, 0, none⟩ = some (.int .u64 0) := hg_w6.c; have ftz0 : w6.frozen? ⟨w4.heap.size, 0, none⟩ = false := hg_w6.z ft0; have ft1 : w6.cell? ⟨w4.heap.size, 1, none⟩ = some (.int .i64 0) := hg_w6.c; have ftz1 : w6.frozen? ⟨w4.heap.size, 1, none⟩ = false := hg_w6.z ft1
        have hgb6 : Gb w w6 := Gb.g
        refine hK.out _ _ (by assumption) (fun hHeld => ?_)
        clear hK K
        (try simp only [Act.put, List.setIfInBounds_toArray, List.set_cons_zero, List.set_cons_succ])
        refine wpAnyH_ready (rs := [8]) (by kernel_rfl) (by simp) ?_
        refine AllReadyH.cons rfl (fun K hK => ?_) AllReadyH.nil
        go_simp
        obtain ⟨n8, hn8⟩ : ∃ n8, (w6.setCell ⟨w4.heap.size, 0, none⟩ (.int .u64 z6)).setCell ⟨w4.heap.size, 1, none⟩ (.int .i64 g6) = n8 := ⟨_, rfl⟩
        have hle8 : w.heap.size ≤ w4.heap.size := by have q1 := hgb4.size; have q2 := hgb3.size; first | omega | (have q3 := hgb5.size; omega) | (have q3 := hgb5.size; have q4 := hgb6.size; omega)
        have hgbn8 : Gb w n8 := by rw [← hn8]; exact ((show Gb w w6 from Gb.g).setCell (a := ⟨w4.heap.size, 0, none⟩) hle8 _).setCell (a := ⟨w4.heap.size, 1, none⟩) hle8 _
        have bk0 : n8.cell? ⟨w4.heap.size, 0, none⟩ = some (.int .u64 z6) := by rw [← hn8]; (repeat' (first | (with_reducible assumption) | (with_reducible refine has_of (by with_reducible assumption)) | (with_reducible refine Gr.old (by with_reducible assumption) ?_) | (with_reducible refine Gb.old (by with_reducible assumption) ?_) | (with_reducible refine Gb.hs (by with_reducible assumption) ?_) | (with_reducible refine has_old (by with_reducible assumption) ?_) | (with_reducible refine cell_setSame ?_) | (with_reducible refine has_set ?_) | (with_reducible refine cell_setOff ?_ ?_; omega) | (with_reducible refine cell_setNew ?_ ?_; (dsimp only; omega)) | (simp [go_sem]; done) | (with_reducible refine cell_alloc _ ?_) | (with_reducible refine cell_drew ?_) | (with_reducible refine has_alloc _ ?_) | (with_reducible refine fz_old (by with_reducible assumption) ?_) | (with_reducible refine Gb.fh (by with_reducible assumption) (by with_reducible assumption) ?_) | (with_reducible refine fz_alloc ?_) | (with_reducible refine fz_set ?_) | (with_reducible refine fz_drew ?_) | go_size))
        have bs0 : n8.cell? ⟨w3.heap.size, 0, none⟩ = some (.int .u64 z3) := by rw [← hn8]; (repeat' (first | (with_reducible assumption) | (with_reducible refine has_of (by with_reducible assumption)) | (with_reducible refine Gr.old (by with_reducible assumption) ?_) | (with_reducible refine Gb.old (by with_reducible assumption) ?_) | (with_reducible refine Gb.hs (by with_reducible assumption) ?_) | (with_reducible refine has_old (by with_reducible assumption) ?_) | (with_reducible refine cell_setSame ?_) | (with_reducible refine has_set ?_) | (with_reducible refine cell_setOff ?_ ?_; omega) | (with_reducible refine cell_setNew ?_ ?_; (dsimp only; omega)) | (simp [go_sem]; done) | (with_reducible refine cell_alloc _ ?_) | (with_reducible refine cell_drew ?_) | (with_reducible refine has_alloc _ ?_) | (with_reducible refine fz_old (by with_reducible assumption) ?_) | (with_reducible refine Gb.fh (by with_reducible assumption) (by with_reducible assumption) ?_) | (with_reducible refine fz_alloc ?_) | (with_reducible refine fz_set ?_) | (with_reducible refine fz_drew ?_) | go_size))
        rw [hn8]
        clear hn8
        refine hK.out _ _ (by assumption) (fun hHeld => ?_)
        clear hK K
        (try simp only [Act.put, List.setIfInBounds_toArray, List.set_cons_zero, List.set_cons_succ])
        refine wpAnyH_done (by kernel_rfl) (NoPanic.normal ?_) _
        go_wp2
        first | (go_quiet (fail)) | skip
        go_wp2
        go_returns
        exact ⟨f, z6, v, f0, f1, z60, by omega, v0, v1, rfl, by first | exact hgbn8 | exact Gb.drewR hgbn8 _ | exact Gb.drew hgbn8⟩
    · clear HFi
      go_wp2_with (go_at_call 37; refine (HFt.out _).mono ?_; rintro x w' ⟨rfl, hw⟩; subst hw)
      go_returns
      exact ⟨f, u, v, f0, f1, u0, u1, v0, v1, rfl, hgb1⟩
  · clear HFi
    go_wp2
    go_returns
    exact ⟨f, u, v, f0, f1, u0, u1, v0, v1, rfl, hgb1⟩
end Go.Proofs.YtkflpogmhailhaaGreatDoor

/- laws.FnRem: the walk. -/
set_option linter.unusedVariables false
set_option linter.unusedSimpArgs false
namespace Go.Proofs.YtkflpogmhailhaaGreatDoor
open Go.RowKit

/-- What is asked of two drawn words. -/
structure RmA (f a b Z fl ca cb : Int) (w : World) : Prop where
  irm : ∀ w', Gb w w' → Calls Tryz.prog 8 #[.int .i64 f, .int .u64 a, .int .u64 b] w' fun e w'' => e = .returned (.agg #[.int .u64 Z, .int .i64 fl]) ∧ Gr w' w''
  srm : ∀ w', Calls Tryz.prog 9 #[.int .i64 f, .int .u64 a, .int .u64 b] w' fun e w'' => e = .returned (.agg #[.int .u64 Z, .int .i64 fl]) ∧ Gb w' w''
  cla : ∀ w', Calls Tryz.prog 10 #[.int .i64 f, .int .u64 a] w' fun e w'' => e = .returned (.int .i64 ca) ∧ Gr w' w''
  clb : ∀ w', Calls Tryz.prog 10 #[.int .i64 f, .int .u64 b] w' fun e w'' => e = .returned (.int .i64 cb) ∧ Gr w' w''
structure RmB (f b Z z u S gl r cl : Int) (w : World) : Prop where
  szz : ∀ w', Calls Tryz.prog 11 #[.int .i64 f, .int .u64 Z] w' fun e w'' => e = .returned (.int .u64 z) ∧ w' = w''
  szb : ∀ w', Calls Tryz.prog 11 #[.int .i64 f, .int .u64 b] w' fun e w'' => e = .returned (.int .u64 u) ∧ w' = w''
  add : ∀ w', Gb w w' → Calls Tryz.prog 13 #[.int .i64 f, .int .i64 3, .int .u64 z, .int .u64 z] w' fun e w'' => e = .returned (.agg #[.int .u64 S, .int .i64 gl]) ∧ Gr w' w''
  cmp : ∀ w', Gb w w' → Calls Tryz.prog 12 #[.int .i64 f, .int .u64 S, .int .u64 u, .bool true] w' fun e w'' => e = .returned (.tuple #[.int .i64 r, .int .i64 cl]) ∧ Gr w' w''
  rm2 : ∀ w', Gb w w' → Calls Tryz.prog 8 #[.int .i64 f, .int .u64 Z, .int .u64 b] w' fun e w'' => e = .returned (.agg #[.int .u64 Z, .int .i64 0]) ∧ Gr w' w''
def RmF (f a b : Int) (w : World) : Prop := ∃ Z fl ca cb, RmA f a b Z fl ca cb w ∧ ((ca == 1) = false ∨ ca = 1 ∧ (cb == 1) = false ∨ ca = 1 ∧ cb = 1 ∧ fl = 0 ∧ ∃ z u S gl r cl, RmB f b Z z u S gl r cl w ∧ decide (0 < r) = false)

set_option maxRecDepth 1000000 in
set_option maxHeartbeats 8000000 in
theorem rem_walk (a : Option Addr) (len cap : Nat) (w : World) (hC : CodeRow w a len)
    (HD : Hid (∀ w', Gb w w' → Calls Tryz.prog 7 #[.slice a len cap] w' (RemDraw w')))
    (HF : Hid (∀ f u v, 0 ≤ u → u < 18446744073709551616 → 0 ≤ v → v < 18446744073709551616 → RmF f u v w)) :
    Calls Tryz.prog 3 #[.slice a len cap] w fun e w' => e = .returned (.bool true) ∧ Gb w w' := by
  have hlen : len ≤ 1048576 := hC.1
  clear hC
  have hfd : ∀ z fl w, (Instr.field 27 (.agg #[.int .u64 z, .int .i64 fl]) 0).run Tryz.prog w = .ok (.int .u64 z) w := fun z fl w => by kernel_rfl
  go_enter Tryz.func3, Tryz.ntmps3
  go_upto_region 4 with (go_at_call 7; refine (HD.out _ (Gb.refl _)).mono ?_; rintro x w1 ⟨f, u, v, f0, f1, u0, u1, v0, v1, rfl, hg_w1⟩)
  obtain ⟨Z, fl, ca, cb, SA, hrest⟩ := HF.out f u v u0 u1 v0 v1
  have HA : Hid (RmA f u v Z fl ca cb w) := SA
  have HR : Hid ((ca == 1) = false ∨ ca = 1 ∧ (cb == 1) = false ∨ ca = 1 ∧ cb = 1 ∧ fl = 0 ∧ ∃ z u S gl r cl, RmB f v Z z u S gl r cl w ∧ decide (0 < r) = false) := hrest
  have hgb1 : Gb w w1 := hg_w1
  have hq1 := eqRS_same Z fl
  have hq2 := eqRS_same Z 0
  clear SA HF HD hrest
  go_upto_region 5 with (go_at_call 8; with_reducible refine (RmA.irm HA.out _ Gb.g).mono ?_; rintro x w2 ⟨rfl, hg_w2⟩; have hgb2 : Gb w w2 := Gb.g)
  obtain ⟨w3, hw3⟩ : ∃ w3, w2.alloc (.cells #[.int .u64 Z, .int .i64 fl] 27) = w3 := ⟨_, rfl⟩
  have hg_w3 : Gr w2 w3 := by rw [← hw3]; exact (Gr.refl _).alloc _ _
  have hgb3 : Gb w w3 := Gb.g
  have ra0 : w3.cell? ⟨w2.heap.size, 0, none⟩ = some (.int .u64 Z) := by rw [← hw3]; simp [go_sem]
  have ra1 : w3.cell? ⟨w2.heap.size, 1, none⟩ = some (.int .i64 fl) := by rw [← hw3]; simp [go_sem]
  have hz3 : w2.heap.size < w3.heap.size := by rw [← hw3]; simp
  rw [hw3]
  clear hw3
  go_region_held3 (fun w' => w'.cell? ⟨w2.heap.size, 0, none⟩ = some (.int .u64 Z) ∧ w'.cell? ⟨w2.heap.size, 1, none⟩ = some (.int .i64 fl))
    ((go_split_ands; (repeat' apply And.intro) <;> exact kh))
    ((go_at_call 9; with_reducible refine (RmA.srm HA.out _).mono ?_; rintro x w4 ⟨rfl, hg_w4⟩; have rb0 : w4.cell? ⟨w2.heap.size, 0, none⟩ = some (.int .u64 Z) := hg_w4.c; have rb1 : w4.cell? ⟨w2.heap.size, 1, none⟩ = some (.int .i64 fl) := hg_w4.c; have hgb4 : Gb w w4 := Gb.g))
  all_goals (try go_split_ands)
  all_goals
    rcases HR.out with k | ⟨rfl, k⟩ | ⟨rfl, rfl, rfl, z, q, S, gl, r, cl, SB, hr⟩
    · go_wp2_with (go_at_call 10; first | (with_reducible refine (RmA.cla HA.out _).mono ?_; rintro x w5 ⟨rfl, hg_w5⟩; have hgb5 : Gb w w5 := Gb.g) | (with_reducible refine (RmA.clb HA.out _).mono ?_; rintro x w6 ⟨rfl, hg_w6⟩; have hgb6 : Gb w w6 := Gb.g))
      go_returns
      exact ⟨rfl, Gb.g⟩
    · go_wp2_with (go_at_call 10; first | (with_reducible refine (RmA.cla HA.out _).mono ?_; rintro x w5 ⟨rfl, hg_w5⟩; have hgb5 : Gb w w5 := Gb.g) | (with_reducible refine (RmA.clb HA.out _).mono ?_; rintro x w6 ⟨rfl, hg_w6⟩; have hgb6 : Gb w w6 := Gb.g))
      go_returns
      exact ⟨rfl, Gb.g⟩
    · have HB : Hid (RmB f v Z z q S gl r cl w) := SB
      clear SB HR
      go_upto_region 13 with (first
        | (go_at_call 10; first | (with_reducible refine (RmA.cla HA.out _).mono ?_; rintro x w5 ⟨rfl, hg_w5⟩; have rc0 : w5.cell? ⟨w2.heap.size, 0, none⟩ = some (.int .u64 Z) := hg_w5.c; have rc1 : w5.cell? ⟨w2.heap.size, 1, none⟩ = some (.int .i64 0) := hg_w5.c; have hgb5 : Gb w w5 := Gb.g) | (with_reducible refine (RmA.clb HA.out _).mono ?_; rintro x w6 ⟨rfl, hg_w6⟩; have rd0 : w6.cell? ⟨w2.heap.size, 0, none⟩ = some (.int .u64 Z) := hg_w6.c; have rd1 : w6.cell? ⟨w2.heap.size, 1, none⟩ = some (.int .i64 0) := hg_w6.c; have hgb6 : Gb w w6 := Gb.g))
        | (go_at_call 11; first | (with_reducible refine (RmB.szz HB.out _).mono ?_; rintro x wk ⟨rfl, hw⟩; subst hw) | (with_reducible refine (RmB.szb HB.out _).mono ?_; rintro x wk ⟨rfl, hw⟩; subst hw))
        | (go_at_call 13; with_reducible refine (RmB.add HB.out _ Gb.g).mono ?_; rintro x w7 ⟨rfl, hg_w7⟩; have re0 : w7.cell? ⟨w2.heap.size, 0, none⟩ = some (.int .u64 Z) := hg_w7.c; have re1 : w7.cell? ⟨w2.heap.size, 1, none⟩ = some (.int .i64 0) := hg_w7.c; have hgb7 : Gb w w7 := Gb.g)
        | (go_at_call 12; with_reducible refine (RmB.cmp HB.out _ Gb.g).mono ?_; rintro x w8 ⟨rfl, hg_w8⟩; have rf0 : w8.cell? ⟨w2.heap.size, 0, none⟩ = some (.int .u64 Z) := hg_w8.c; have rf1 : w8.cell? ⟨w2.heap.size, 1, none⟩ = some (.int .i64 0) := hg_w8.c; have hgb8 : Gb w w8 := Gb.g))
      go_region_held3 (fun w' => w'.cell? ⟨w2.heap.size, 0, none⟩ = some (.int .u64 Z))
        ((go_split_ands; (repeat' apply And.intro) <;> exact kh))
        ((go_at_call 8; with_reducible refine (RmB.rm2 HB.out _ Gb.g).mono ?_; rintro x w9 ⟨rfl, hg_w9⟩; have rg0 : w9.cell? ⟨w2.heap.size, 0, none⟩ = some (.int .u64 Z) := hg_w9.c; have rg1 : w9.cell? ⟨w2.heap.size, 1, none⟩ = some (.int .i64 0) := hg_w9.c; have hgb9 : Gb w w9 := Gb.g))
      all_goals (try go_split_ands)
      all_goals go_wp2
      all_goals go_returns
      all_goals exact ⟨rfl, Gb.g⟩
end Go.Proofs.YtkflpogmhailhaaGreatDoor

/- FnRem: the remainder is exact, at most half, and itself when it is done again. -/
set_option linter.unusedVariables false
set_option linter.unusedSimpArgs false
namespace Go.Proofs.YtkflpogmhailhaaGreatDoor
open Go.RowKit

/-- Numbers of few digits on the format's grid are of the format. -/
theorem fit_gen {f p mx one inf sg nan : Int} (h : IsFmt f p mx one inf sg nan) {l : Nat} {q : Int} (l0 : 0 < l) (hl : (l : Int) < 2 * one) (hq : 2 - mx - p ≤ q) (ht : (nb l : Int) + q - 1 ≤ mx) : ∃ z, ∀ mode s, RoundIs p (1 - mx) mx one inf mode s l q false z 0 := by
  have hb := h.bounds
  obtain ⟨P, hp, ho, hP⟩ := fmt_pow h
  have hn : nb l ≤ P + 1 := nb_le (by rw [Nat.pow_succ]; omega)
  by_cases c : 1 - mx ≤ (nb l : Int) + q - 1
  · exact fit_exact h l0 (by omega) c ht
  · have hinf : inf = one * (2 * mx + 1) := by rcases h with ⟨rfl, rfl, rfl, rfl, rfl, rfl, rfl⟩ | ⟨rfl, rfl, rfl, rfl, rfl, rfl, rfl⟩ <;> decide
    obtain ⟨g, hg⟩ : ∃ g : Int, 1 - mx - p + 1 = g := ⟨_, rfl⟩
    have hh : cutHalf l q g false = 0 := cutHalf_pos _ _ _ (by omega)
    have hlt := cutLo_lt l q g (P + 1) (by omega)
    rw [Nat.pow_succ] at hlt
    have h3 : 2 * one ≤ one * (2 * mx + 1) := by rw [Int.mul_comm 2 one]; exact Int.mul_le_mul_of_nonneg_left (by omega) (by omega)
    refine ⟨(cutLo l q g : Nat) + one * (1 - mx - (1 - mx)), fun mode s => ⟨(nb l : Int) + q - 1, 1 - mx, cutLo l q g, _, 0, rfl, .inl ⟨by omega, rfl⟩, by rw [hg, hh], by rw [hg, chosen_zero], rfl, .inr (.inr ⟨by omega, ?_, rfl, .inl ⟨rfl, rfl⟩⟩)⟩⟩
    rw [Int.sub_self, Int.mul_zero]; omega

/-- A number of a word, on the grid. -/
theorem opd_grid {f p mx one inf sg nan a : Int} (h : IsFmt f p mx one inf sg nan) (a0 : 0 ≤ a) {x : Opd} (hx : OpdIs p mx one inf sg nan a x) (c : x.c = 1) :
    ∃ (m k : Nat) (g : Int), 0 < m ∧ (m : Int) < 2 * one ∧ 2 - mx - p ≤ g ∧ x.M = m * 2 ^ k ∧ x.e = g - k ∧ (nb m : Int) + g - 1 ≤ mx := by
  have hb := h.bounds
  obtain ⟨_, v, hv, hn, _⟩ := word_is h a0 hx (by omega)
  obtain ⟨_, v0, v1, vz, vi⟩ := hv
  have hr : ∃ z, RoundIs p (1 - mx) mx one inf 0 x.s x.M x.e false z 0 := by
    rcases pack_own h a0 hx (by omega) 0 with ⟨d, _⟩ | ⟨_, z, hr, _⟩ | ⟨d, _⟩ | ⟨d, _⟩ | ⟨d, _⟩
    · omega
    · exact ⟨z, hr⟩
    all_goals omega
  obtain ⟨z, top, E, r, r2, hf, t1, _, _, _, _, hc⟩ := hr
  have htop : (nb x.M : Int) + x.e - 1 ≤ mx := by omega
  obtain ⟨k, m, e0, hm, hg, he, g1, g2⟩ := hn c
  have vp : 0 < v := by omega
  have hm0 : 0 < m ∧ m < 2 * one ∧ 2 - mx - p ≤ e0 := by
    rcases hm with ⟨q1, rfl, rfl⟩ | ⟨q1, rfl, rfl⟩
    · exact ⟨vp, by omega, by omega⟩
    · have r0 := Int.emod_nonneg v (show one ≠ 0 by omega)
      have r1 := Int.emod_lt_of_pos v (show 0 < one by omega)
      have d1 := Int.le_ediv_of_mul_le (show 0 < one by omega) (show 1 * one ≤ v by omega)
      exact ⟨by omega, by omega, by omega⟩
  have hM : x.M = m.toNat * 2 ^ k := by
    have h1 : ((x.M : Nat) : Int) = ((m.toNat * 2 ^ k : Nat) : Int) := by
      rw [hg, Int.natCast_mul, Int.toNat_of_nonneg (by omega), Int.natCast_pow]; rfl
    exact Int.ofNat.inj h1
  refine ⟨m.toNat, k, e0, by omega, by omega, hm0.2.2, hM, he, ?_⟩
  have := nb_scale m.toNat k (by omega)
  rw [← hM] at this
  omega

theorem remM_le (X d : Nat) (hd : 0 < d) : remM X d ≤ X ∧ 2 * remM X d ≤ d := by
  have h1 := Nat.mod_lt X hd
  have h2 := Nat.mod_le X d
  unfold remM
  by_cases c : remUp X d = true
  · rw [if_pos c]
    have := of_decide_eq_true c
    omega
  · rw [if_neg c]
    have : ¬ (d < 2 * (X % d) ∨ d = 2 * (X % d) ∧ X / d % 2 = 1) := fun k => c (decide_eq_true k)
    omega
theorem remM_scale (X d t : Nat) (ht : 0 < t) : remM (X * t) (d * t) = remM X d * t := by
  have h1 : X * t % (d * t) = X % d * t := Nat.mul_mod_mul_right t X d
  have h2 : X * t / (d * t) = X / d := Nat.mul_div_mul_right X d ht
  have hu : remUp (X * t) (d * t) = remUp X d := by
    unfold remUp
    rw [h1, h2, decide_eq_decide]
    have e1 : 2 * (X % d * t) = 2 * (X % d) * t := (Nat.mul_assoc 2 _ _).symm
    rw [e1]
    constructor
    · rintro (k | ⟨k, k'⟩)
      · exact .inl (Nat.lt_of_mul_lt_mul_right k)
      · exact .inr ⟨Nat.eq_of_mul_eq_mul_right ht k, k'⟩
    · rintro (k | ⟨k, k'⟩)
      · exact .inl (Nat.mul_lt_mul_of_pos_right k ht)
      · exact .inr ⟨by rw [← k], k'⟩
  unfold remM
  rw [hu, h1]
  split
  · rw [Nat.sub_mul]
  · rfl
theorem rem_half (A d : Nat) (h0 : 0 < A) (h : 2 * A ≤ d) : remUp A d = false ∧ remM A d = A := by
  have hm : A % d = A := Nat.mod_eq_of_lt (by omega)
  have hq : A / d = 0 := Nat.div_eq_of_lt (by omega)
  have : remUp A d = false := by unfold remUp; rw [hm, hq]; exact decide_eq_false (by omega)
  exact ⟨this, by unfold remM; rw [this, hm]; rfl⟩

/-- The remainder of two numbers: few digits, on the grid, at most half. -/
theorem rem_grid {f p mx one inf sg nan a b : Int} (h : IsFmt f p mx one inf sg nan) (a0 : 0 ≤ a) (b0 : 0 ≤ b) {x y : Opd} (hx : OpdIs p mx one inf sg nan a x) (hy : OpdIs p mx one inf sg nan b y) (cx : x.c = 1) (cy : y.c = 1) :
    ∃ (l : Nat) (g : Int), (l : Int) < 2 * one ∧ 2 - mx - p ≤ g ∧ g ≤ 2000 ∧ nv (remM (remX x y) (remD x y)) (min x.e y.e) = nv l g ∧ 2 * nv l g ≤ nv y.M y.e ∧ (0 < l → (nb l : Int) + g ≤ mx) := by
  have hb := h.bounds
  obtain ⟨m, k, g, m0, m1, mg, hM, he, _⟩ := opd_grid h a0 hx cx
  obtain ⟨n, j, q, n0, n1, ng, hN, hf, ht⟩ := opd_grid h b0 hy cy
  have x0 := (opd_vo h hx).2.2.2.1
  have y0 := (opd_vo h hy).2.2.2.1
  have x1 := (opd_vo h hx).2.2.2.2.1
  have y1 := (opd_vo h hy).2.2.2.2.1
  have k53 : (opd_vo h hx).2.2.2.2.2 = (opd_vo h hx).2.2.2.2.2 := rfl
  obtain ⟨t, htt⟩ : ∃ t : Nat, min g q - min x.e y.e = (t : Int) := ⟨(min g q - min x.e y.e).toNat, by omega⟩
  have hX : remX x y = m * 2 ^ (g - min g q).toNat * 2 ^ t := by
    unfold remX
    rw [hM, Nat.mul_assoc, ← Nat.pow_add, Nat.mul_assoc, ← Nat.pow_add, show k + (x.e - min x.e y.e).toNat = (g - min g q).toNat + t by omega]
  have hD : remD x y = n * 2 ^ (q - min g q).toNat * 2 ^ t := by
    unfold remD
    rw [hN, Nat.mul_assoc, ← Nat.pow_add, Nat.mul_assoc, ← Nat.pow_add, show j + (y.e - min x.e y.e).toNat = (q - min g q).toNat + t by omega]
  have ht0 : 0 < 2 ^ t := Nat.pow_pos (by decide)
  have hd0 : 0 < n * 2 ^ (q - min g q).toNat := Nat.mul_pos n0 (Nat.pow_pos (by decide))
  obtain ⟨e1, e2⟩ := remM_le (m * 2 ^ (g - min g q).toNat) (n * 2 ^ (q - min g q).toNat) hd0
  have kb : (k : Int) ≤ 60 ∧ (j : Int) ≤ 60 := by
    have a1 := (opd_vo h hx).2.2.2.2.2
    have a2 := (opd_vo h hy).2.2.2.2.2
    rw [hM, nb_scale m k m0] at a1
    rw [hN, nb_scale n j n0] at a2
    have := nb_pos m m0
    have := nb_pos n n0
    omega
  refine ⟨remM (m * 2 ^ (g - min g q).toNat) (n * 2 ^ (q - min g q).toNat), min g q, ?_, by omega, by omega, ?_, ?_, fun hl => ?_⟩
  · rcases Int.le_total g q with c | c
    · rw [show (g - min g q).toNat = 0 by omega, Nat.pow_zero, Nat.mul_one] at e1 ⊢
      omega
    · rw [show (q - min g q).toNat = 0 by omega, Nat.pow_zero, Nat.mul_one] at e2 ⊢
      omega
  · rw [hX, hD, remM_scale _ _ _ ht0, show min x.e y.e = min g q - (t : Int) by omega]
    exact nv_scale _ _ _ (by omega)
  · have hy' : nv y.M y.e = nv (n * 2 ^ (q - min g q).toNat) (min g q) := by
      rw [hN, hf, nv_scale _ _ _ (by omega), show min g q = q - ((q - min g q).toNat : Int) by omega]
      rw [show (q - (q - ((q - min g q).toNat : Int))).toNat = (q - min g q).toNat by omega]
      exact (nv_scale _ _ _ (by omega)).symm
    rw [hy']
    unfold nv
    rw [← Nat.mul_assoc]
    exact Nat.mul_le_mul_right _ e2
  · have hnb : nb (remM (m * 2 ^ (g - min g q).toNat) (n * 2 ^ (q - min g q).toNat)) + 1 ≤ nb (n * 2 ^ (q - min g q).toNat) := by
      have a1 := nb_scale _ 1 hl
      rw [← a1]
      have a2 := nb_lt (n * 2 ^ (q - min g q).toNat)
      exact nb_le (by omega)
    rw [nb_scale _ _ n0] at hnb
    omega

theorem norm_nv {p mx one v e v' e' : Int} {g g' : Nat} (o0 : 0 < one) (v0 : 0 < v) (h : v < v') (e0 : 0 ≤ e + 6000) (hn : NormIs p mx one v e (g : Int)) (hn' : NormIs p mx one v' e' (g' : Int)) : nv g e < nv g' e' := by
  have b1 : (g : Int) < 2 * one := by obtain ⟨_, _, _, _, _, _, _, k⟩ := hn; exact k
  have b2 : one ≤ (g' : Int) := by obtain ⟨_, _, _, _, _, _, k, _⟩ := hn'; exact k
  unfold nv
  rcases norm_less o0 v0 h hn hn' with c | ⟨c, d⟩
  · obtain ⟨t, ht⟩ : ∃ t : Nat, (e' + 6000).toNat = (e + 6000).toNat + (t + 1) := ⟨(e' - e - 1).toNat, by omega⟩
    rw [ht, Nat.pow_add, Nat.pow_succ, Nat.mul_comm (2 ^ (e + 6000).toNat), ← Nat.mul_assoc]
    refine Nat.mul_lt_mul_of_pos_right ?_ (Nat.pow_pos (by decide))
    have : 0 < 2 ^ t := Nat.pow_pos (by decide)
    have h2 : g' * 1 ≤ g' * 2 ^ t := Nat.mul_le_mul_left _ this
    rw [← Nat.mul_assoc]
    omega
  · rw [c]
    exact Nat.mul_lt_mul_of_pos_right (by omega) (Nat.pow_pos (by decide))

/-- Words without signs stand in the order of their numbers. -/
theorem word_le {f p mx one inf sg nan v u : Int} (h : IsFmt f p mx one inf sg nan) (v0 : 0 ≤ v) (v1 : v < inf) (u0 : 0 ≤ u) (u1 : u < inf) {x y : Opd} (hx : OpdIs p mx one inf sg nan v x) (hy : OpdIs p mx one inf sg nan u y) (cx : x.c = 1) (cy : y.c = 1) (hle : nv x.M x.e ≤ nv y.M y.e) : v ≤ u := by
  have hb := h.bounds
  rcases Int.lt_or_le u v with c | c
  · exfalso
    obtain ⟨_, v', ⟨s1, _, _, _, _⟩, n1, _⟩ := word_is h v0 hx (by omega)
    obtain ⟨_, u', ⟨s2, _, _, z2, _⟩, n2, _⟩ := word_is h u0 hy (by omega)
    obtain rfl : v' = v := by omega
    obtain rfl : u' = u := by omega
    have := (opd_vo h hy).2.2.2.1
    have := norm_nv (by omega) (by omega) c (by omega) (n2 cy) (n1 cx)
    omega
  · exact c

theorem OpRD.atR {R : Int → Int → Opd → Opd → Opd} {f mode a b Z fl p mx one inf sg nan : Int} {x y : Opd} (h : OpRD R f mode a b Z fl) (hF : IsFmt f p mx one inf sg nan) (hm : 0 ≤ mode ∧ mode ≤ 4) (hx : OpdIs p mx one inf sg nan a x) (hy : OpdIs p mx one inf sg nan b y) : PackD p (1 - mx) mx one inf sg nan mode (R p mode x y) Z fl := by
  rcases h with ⟨p', mx', one', inf', sg', nan', x', y', hF', _, hx', hy', hp⟩ | ⟨_, _, _, _, _, _, _, c, _⟩ | ⟨c, _⟩
  · obtain ⟨rfl, rfl, rfl, rfl, rfl, rfl⟩ := hF.one hF'
    obtain rfl := hx.one hF hx'
    obtain rfl := hy.one hF hy'
    exact hp
  · exfalso; omega
  · exact absurd hF.yes.symm (by simp [c])
theorem OpR.atR {R : Int → Opd → Opd → Opd} {f mode a b Z fl p mx one inf sg nan : Int} {x y : Opd} (h : OpR R f mode a b Z fl) (hF : IsFmt f p mx one inf sg nan) (hm : 0 ≤ mode ∧ mode ≤ 4) (hx : OpdIs p mx one inf sg nan a x) (hy : OpdIs p mx one inf sg nan b y) : PackIs p (1 - mx) mx one inf sg nan mode (R mode x y) Z fl := by
  rcases h with ⟨p', mx', one', inf', sg', nan', x', y', hF', _, hx', hy', hp⟩ | ⟨_, _, _, _, _, _, _, c, _⟩ | ⟨c, _⟩
  · obtain ⟨rfl, rfl, rfl, rfl, rfl, rfl⟩ := hF.one hF'
    obtain rfl := hx.one hF hx'
    obtain rfl := hy.one hF hy'
    exact hp
  · exfalso; omega
  · exact absurd hF.yes.symm (by simp [c])

theorem sw_mod {sg s v : Int} (hs : s = 0 ∨ s = 1) (v0 : 0 ≤ v) (v1 : v < sg) : sw s sg v % sg = v := by
  unfold sw
  rcases hs with rfl | rfl
  · rw [if_neg (by decide)]; exact Int.emod_eq_of_lt v0 v1
  · rw [if_pos rfl, Int.add_emod_right]; exact Int.emod_eq_of_lt v0 v1

theorem cmp_le {f p mx one inf sg nan S u : Int} (h : IsFmt f p mx one inf sg nan) (S0 : 0 ≤ S) (u0 : 0 ≤ u) (hle : S ≤ u) (u1 : u < inf) {x y : Opd} (hx : OpdIs p mx one inf sg nan S x) (hy : OpdIs p mx one inf sg nan u y) (xc : x.c ≤ 2) (yc : y.c ≤ 2) {s : Bool} {r cl : Int} (hc : CmpIs f S u s r cl) : r ≤ 0 := by
  have hb := h.bounds
  rw [(cmp_n h S0 u0 hx hy xc yc hc).1]
  unfold nW
  rw [if_pos (by omega), if_pos (by omega)]
  unfold cmpI
  rw [if_neg (show ¬ u < S by omega)]
  split <;> omega

theorem rem_facts {f p mx one inf sg nan a b Z fl : Int} (h : IsFmt f p mx one inf sg nan) (a0 : 0 ≤ a) (b0 : 0 ≤ b) {x y : Opd} (hx : OpdIs p mx one inf sg nan a x) (hy : OpdIs p mx one inf sg nan b y) (cx : x.c = 1) (cy : y.c = 1) (hR : OpRD remO f 0 a b Z fl) :
    fl = 0 ∧ (0 ≤ Z ∧ Z < 2 * sg) ∧ OpRD remO f 0 Z b Z 0 ∧ ∀ S gl, OpR sumO f 3 (Z % sg) (Z % sg) S gl → (0 ≤ S ∧ S < 18446744073709551616) ∧ ∀ r cl s, CmpIs f S (b % sg) s r cl → r ≤ 0 := by
  have hb := h.bounds
  have hxs := (opd_vo h hx).1.s01
  have hys := (opd_vo h hy).1.s01
  obtain ⟨_, u, ⟨hbs, u0, u1, uz, ui⟩, _, _⟩ := word_is h b0 hy (by omega)
  have ub : u < inf := by omega
  have hbm : b = sw y.s sg u := by
    unfold sw
    rcases hbs with ⟨q, rfl⟩ | ⟨q, rfl⟩
    · rw [if_neg (by omega)]
    · rw [if_pos q]
  have hbu : b % sg = u := by rw [hbm]; exact sw_mod hys u0 (by omega)
  have hy0 : OpdIs p mx one inf sg nan u ⟨y.c, 0, y.e, y.M⟩ := (OpdIs.bare h hys u0 (by omega) (by rw [← hbm]; exact hy)).2
  have hp := hR.atR h (by omega) hx hy
  obtain ⟨l, g, l1, g0, g1, hnv, hhalf, htop⟩ := rem_grid h a0 b0 hx hy cx cy
  have ye0 := (opd_vo h hy).2.2.2.1
  have xe0 := (opd_vo h hx).2.2.2.1
  have hO : remO p 0 x y = if remM (remX x y) (remD x y) = 0 then ⟨0, x.s, 0, 0⟩ else ⟨1, if remUp (remX x y) (remD x y) then 1 - x.s else x.s, min x.e y.e, remM (remX x y) (remD x y)⟩ := by
    unfold remO
    rw [if_neg (by omega), if_neg (by omega), if_neg (by omega)]
  rw [hO] at hp
  rcases Nat.eq_zero_or_pos (remM (remX x y) (remD x y)) with z0 | z0
  · rw [if_pos z0] at hp
    obtain ⟨hZ, hfl⟩ : Z = sw x.s sg 0 ∧ fl = 0 := by
      rcases hp with (⟨_, k, k'⟩ | ⟨c, _⟩ | ⟨c, _⟩ | ⟨c, _⟩ | ⟨c, _⟩) | ⟨c, _⟩
      · exact ⟨k, k'⟩
      all_goals (exfalso; dsimp only at c; omega)
    have hZr : 0 ≤ Z ∧ Z < 2 * sg := by rw [hZ]; unfold sw; split <;> omega
    have hZm : Z % sg = 0 := by rw [hZ]; exact sw_mod hxs (by omega) (by omega)
    obtain ⟨r, hr⟩ := opd_ex h Z hZr.1 (by omega)
    have hrc : r.c = 0 := by
      rw [hZ] at hr
      obtain ⟨_, y2⟩ := OpdIs.bare h hxs (by omega) (by omega) hr
      rcases y2 with ⟨_, v', h1, h2⟩ | ⟨k, _⟩
      · dsimp only at h1 h2
        rcases h2 with ⟨_, k, _⟩ | ⟨_, _, k, _⟩ | ⟨_, k, _⟩ | ⟨_, k, _⟩ | ⟨_, _, k, _⟩ <;> omega
      · exfalso; omega
    refine ⟨hfl, hZr, .inl ⟨p, mx, one, inf, sg, nan, r, y, h, by omega, hr, hy, ?_⟩, fun S gl hS => ?_⟩
    · have : remO p 0 r y = r := by unfold remO; rw [if_neg (by omega), if_neg (by omega), if_pos (.inl hrc)]
      rw [this]
      exact .inl (pack_own h hZr.1 hr (by omega) 0)
    · rw [hZm] at hS
      obtain ⟨o, ho⟩ := opd_ex h 0 (by omega) (by omega)
      have hoc : o.c = 0 ∧ o.s = 0 := by
        rcases ho with ⟨_, v', h1, h2⟩ | ⟨k, _⟩
        · rcases h2 with ⟨_, k, _⟩ | ⟨_, _, k, _⟩ | ⟨_, k, _⟩ | ⟨_, k, _⟩ | ⟨_, _, k, _⟩ <;> omega
        · exfalso; omega
      have hs := hS.atR h (by omega) ho ho
      have : sumO 3 o o = o := by unfold sumO; rw [if_neg (by omega), if_neg (by omega), if_neg (by omega), if_neg (by omega), if_pos rfl]
      rw [this] at hs
      have hS0 : S = 0 := by
        rcases hs with ⟨_, k, _⟩ | ⟨c, _⟩ | ⟨c, _⟩ | ⟨c, _⟩ | ⟨c, _⟩
        · rw [k, hoc.2]; unfold sw; rw [if_neg (by decide)]
        all_goals (exfalso; omega)
      subst hS0
      refine ⟨by omega, fun r cl s hc => ?_⟩
      rw [hbu] at hc
      exact cmp_le h (by omega) u0 u0 ub ho hy0 (by omega) (by dsimp only; omega) hc
  · rw [if_neg (by omega)] at hp
    obtain ⟨s', hs'⟩ : ∃ s', (if remUp (remX x y) (remD x y) then 1 - x.s else x.s) = s' := ⟨_, rfl⟩
    rw [hs'] at hp
    have s01 : s' = 0 ∨ s' = 1 := by rw [← hs']; split <;> omega
    obtain ⟨z, hr, hZ⟩ : ∃ z, RoundIs p (1 - mx) mx one inf 0 s' (remM (remX x y) (remD x y)) (min x.e y.e) false z fl ∧ Z = sw s' sg z := by
      rcases hp with (⟨c, _⟩ | ⟨_, z, k, k'⟩ | ⟨c, _⟩ | ⟨c, _⟩ | ⟨c, _⟩) | ⟨c, _⟩
      · exfalso; dsimp only at c; omega
      · exact ⟨z, k, k'⟩
      all_goals (exfalso; dsimp only at c; omega)
    have l0 : 0 < l := by
      rcases Nat.eq_zero_or_pos l with k | k
      · exfalso
        rw [k] at hnv
        unfold nv at hnv
        rw [Nat.zero_mul] at hnv
        have := Nat.mul_pos z0 (Nat.pow_pos (n := (min x.e y.e + 6000).toNat) (show 0 < 2 by decide))
        omega
      · exact k
    have ht := htop l0
    obtain ⟨zz, hz⟩ := fit_gen h l0 l1 g0 (by omega)
    have hr' := (RoundIs.nv z0 l0 (by omega) (by omega) hnv).1 hr
    obtain ⟨e1, hfl⟩ := RoundIs.one hr' (hz 0 s')
    subst e1
    have hrx : RoundIs p (1 - mx) mx one inf 0 s' l g false z 0 := hz 0 s'
    obtain ⟨zp, zi, hop⟩ := exact_word h s01 l0 (by omega) hrx
    have hZr : 0 ≤ Z ∧ Z < 2 * sg := by rw [hZ]; unfold sw; split <;> omega
    have hZm : Z % sg = z := by rw [hZ]; exact sw_mod s01 (by omega) (by omega)
    obtain ⟨r, hro⟩ := opd_ex h Z hZr.1 (by omega)
    obtain ⟨rc, rs, rn⟩ := hop r (by rw [← hZ]; exact hro)
    have rM := ((opd_vo h hro).1.fin rc).1
    have re0 := (opd_vo h hro).2.2.2.1
    have hro0 : OpdIs p mx one inf sg nan z ⟨r.c, 0, r.e, r.M⟩ := (OpdIs.bare h s01 (by omega) (by omega) (by rw [← hZ]; exact hro)).2
    refine ⟨hfl, hZr, .inl ⟨p, mx, one, inf, sg, nan, r, y, h, by omega, hro, hy, ?_⟩, fun S gl hS => ?_⟩
    · have hX : nv (remX r y) (min r.e y.e) = nv r.M r.e := by
        unfold remX
        rw [show min r.e y.e = r.e - ((r.e - min r.e y.e).toNat : Int) by omega]
        rw [show (r.e - (r.e - ((r.e - min r.e y.e).toNat : Int))).toNat = (r.e - min r.e y.e).toNat by omega]
        exact nv_scale _ _ _ (by omega)
      have hD : nv (remD r y) (min r.e y.e) = nv y.M y.e := by
        unfold remD
        rw [show min r.e y.e = y.e - ((y.e - min r.e y.e).toNat : Int) by omega]
        rw [show (y.e - (y.e - ((y.e - min r.e y.e).toNat : Int))).toNat = (y.e - min r.e y.e).toNat by omega]
        exact nv_scale _ _ _ (by omega)
      have hX0 : 0 < remX r y := Nat.mul_pos rM (Nat.pow_pos (by decide))
      have hle : 2 * remX r y ≤ remD r y := by
        have : 2 * nv (remX r y) (min r.e y.e) ≤ nv (remD r y) (min r.e y.e) := by rw [hX, hD, rn]; exact hhalf
        unfold nv at this
        rw [← Nat.mul_assoc] at this
        exact Nat.le_of_mul_le_mul_right this (Nat.pow_pos (by decide))
      obtain ⟨q1, q2⟩ := rem_half _ _ hX0 hle
      have hOr : remO p 0 r y = ⟨1, r.s, min r.e y.e, remX r y⟩ := by
        unfold remO
        rw [if_neg (by omega), if_neg (by omega), if_neg (by omega), q2, q1, if_neg (by omega)]; rfl
      rw [hOr]
      refine .inl (.inr (.inl ⟨rfl, z, ?_, by rw [hZ, rs]⟩))
      dsimp only
      rw [rs]
      exact (RoundIs.nv hX0 l0 (by omega) (by omega) (by rw [hX, rn])).2 hrx
    · rw [hZm] at hS
      have hs := hS.atR h (by omega) hro0 hro0
      have hsum : sumO 3 ⟨r.c, 0, r.e, r.M⟩ ⟨r.c, 0, r.e, r.M⟩ = ⟨1, 0, r.e, r.M + r.M⟩ := by
        unfold sumO
        dsimp only
        rw [if_neg (by omega), if_neg (by omega), if_neg (by omega), if_pos rc]
        unfold totO bothM
        dsimp only
        rw [if_pos rfl, Int.min_self, Int.sub_self]
        simp
      rw [hsum] at hs
      obtain ⟨t, hrt, hSt⟩ : ∃ t, RoundIs p (1 - mx) mx one inf 3 0 (r.M + r.M) r.e false t gl ∧ S = sw 0 sg t := by
        rcases hs with ⟨c, _⟩ | ⟨_, t, k, k'⟩ | ⟨c, _⟩ | ⟨c, _⟩ | ⟨c, _⟩
        · exfalso; dsimp only at c; omega
        · exact ⟨t, k, k'⟩
        all_goals (exfalso; dsimp only at c; omega)
      have hnv2 : nv (r.M + r.M) r.e = nv l (g + 1) := by
        have e2 : nv l (g + 1) = 2 * nv l g := by
          unfold nv
          rw [show (g + 1 + 6000).toNat = (g + 6000).toNat + 1 by omega, Nat.pow_succ, ← Nat.mul_assoc, Nat.mul_comm]
        rw [e2, ← rn]
        unfold nv
        rw [Nat.add_mul]; omega
      obtain ⟨t0, ht0⟩ := fit_gen h l0 l1 (show 2 - mx - p ≤ g + 1 by omega) (by omega)
      have hrt' := (RoundIs.nv (show 0 < r.M + r.M by omega) l0 (by omega) (by omega) hnv2).1 hrt
      obtain ⟨e1, _⟩ := RoundIs.one hrt' (ht0 3 0)
      subst e1
      obtain ⟨tp, ti, htop'⟩ := exact_word h (.inl rfl) l0 (by omega) (ht0 3 0)
      have hSe : S = t := by rw [hSt]; unfold sw; rw [if_neg (by decide)]
      subst hSe
      obtain ⟨o, ho⟩ := opd_ex h S (by omega) (by omega)
      obtain ⟨oc, os, on⟩ := htop' o (by rw [← hSt]; exact ho)
      refine ⟨by omega, fun r' cl s hc => ?_⟩
      rw [hbu] at hc
      refine cmp_le h (by omega) u0 ?_ ub ho hy0 (by omega) (by dsimp only; omega) hc
      refine word_le h (by omega) (by omega) u0 ub ho hy0 oc cy ?_
      rw [on]
      have e2 : nv l (g + 1) = 2 * nv l g := by
        unfold nv
        rw [show (g + 1 + 6000).toNat = (g + 6000).toNat + 1 by omega, Nat.pow_succ, ← Nat.mul_assoc, Nat.mul_comm]
      rw [e2]
      exact hhalf
end Go.Proofs.YtkflpogmhailhaaGreatDoor

/- laws.FnRem: what its walk calls. -/
set_option linter.unusedVariables false
set_option linter.unusedSimpArgs false
namespace Go.Proofs.YtkflpogmhailhaaGreatDoor
open Go.RowKit

theorem rem_class (f v : Int) (v0 : 0 ≤ v) (v1 : v < 18446744073709551616) : ∃ c : Int, (∀ w, Calls Tryz.prog 10 #[.int .i64 f, .int .u64 v] w fun e w' => e = .returned (.int .i64 c) ∧ Gr w w') ∧ (c = 4 ∨ ∃ p mx one inf sg nan x, IsFmt f p mx one inf sg nan ∧ v < 2 * sg ∧ OpdIs p mx one inf sg nan v x ∧ x.c = c) := by
  rcases fit_or f v v0 v1 with ⟨p, mx, one, inf, sg, nan, hF, hv⟩ | hno
  · obtain ⟨x, hx⟩ := opd_ex hF v v0 v1
    exact ⟨x.c, fun w => wClass_any f v _ _ _ _ (unp_det hF v v0 hv hx) w, .inr ⟨p, mx, one, inf, sg, nan, x, hF, hv, hx, rfl⟩⟩
  · exact ⟨4, fun w => wClass_any f v 4 0 0 0 (fun w => specUnpack_no f v v0 hno w) w, .inl rfl⟩

theorem CodeRow.gbR {w w' : World} {a : Option Addr} {len : Nat} (h : CodeRow w a len) (g : Gb w w') : CodeRow w' a len := by
  obtain ⟨h1, h2⟩ := h
  refine ⟨h1, ?_⟩
  rcases h2 with e | ⟨b, off, rfl, hc⟩
  · exact .inl e
  · refine .inr ⟨b, off, rfl, fun i hi => ?_⟩
    obtain ⟨z, z0, z1, hz⟩ := hc i hi
    exact ⟨z, z0, z1, g.old hz⟩

theorem mz_fmt {f p mx one inf sg nan : Int} (h : IsFmt f p mx one inf sg nan) : mz f = sg := by
  rcases h with ⟨rfl, rfl, rfl, rfl, rfl, rfl, rfl⟩ | ⟨rfl, rfl, rfl, rfl, rfl, rfl, rfl⟩ <;> rfl

theorem sum_cls (o : Opd) (h0 : 0 ≤ o.c) (h4 : o.c ≤ 4) : 0 ≤ (sumO 3 o o).c ∧ (sumO 3 o o).c ≤ 4 := by
  unfold sumO
  repeat' split
  all_goals first | (dsimp only; omega) | omega | (unfold totO; rw [if_pos rfl]; dsimp only; omega)

theorem rem_all (f a b : Int) (a0 : 0 ≤ a) (a1 : a < 18446744073709551616) (b0 : 0 ≤ b) (b1 : b < 18446744073709551616) (w : World) (hw : Fm w) : RmF f a b w := by
  obtain ⟨Z, fl, hR, SR, IR⟩ := rem_same f a b a0 a1 b0 b1
  obtain ⟨ca, CA, hca⟩ := rem_class f a a0 a1
  obtain ⟨cb, CB, hcb⟩ := rem_class f b b0 b1
  refine ⟨Z, fl, ca, cb, ⟨fun w' hg => IR w' (hw.gb hg), SR, CA, CB⟩, ?_⟩
  by_cases h1 : ca = 1
  · by_cases h2 : cb = 1
    · refine .inr (.inr ⟨h1, h2, ?_⟩)
      rcases hca with q | ⟨p, mx, one, inf, sg, nan, x, hF, ha, hx, cx⟩
      · exfalso; omega
      · rcases hcb with q | ⟨p', mx', one', inf', sg', nan', y, hF', hb', hy, cy⟩
        · exfalso; omega
        · obtain ⟨rfl, rfl, rfl, rfl, rfl, rfl⟩ := hF.one hF'
          have hbb := hF.bounds
          obtain ⟨hfl, ⟨Z0, Z1⟩, hR2, hAdd⟩ := rem_facts hF a0 b0 hx hy (by omega) (by omega) hR
          have hsz : ∀ v : Int, 0 ≤ v → ∀ w', Calls Tryz.prog 11 #[.int .i64 f, .int .u64 v] w' fun e w'' => e = .returned (.int .u64 (v % sg)) ∧ w' = w'' := fun v v0 w' => by
            have := wSize_any f v v0 w'
            rw [mz_fmt hF] at this
            exact this
          have m0 := Int.emod_nonneg Z (show sg ≠ 0 by omega)
          have m1 := Int.emod_lt_of_pos Z (show 0 < sg by omega)
          have n0 := Int.emod_nonneg b (show sg ≠ 0 by omega)
          have n1 := Int.emod_lt_of_pos b (show 0 < sg by omega)
          obtain ⟨o, ho⟩ := opd_ex hF (Z % sg) m0 (by omega)
          obtain ⟨k0, k4⟩ := sum_cls o (opd_vo hF ho).1.c0 (opd_vo hF ho).1.c4
          obtain ⟨S, gl, hp⟩ := pack_is p (1 - mx) mx one inf sg nan 3 _ k0 k4
          have hS : OpR sumO f 3 (Z % sg) (Z % sg) S gl := .inl ⟨p, mx, one, inf, sg, nan, o, o, hF, by omega, ho, ho, hp⟩
          obtain ⟨⟨S0, S1⟩, hcmp⟩ := hAdd S gl hS
          obtain ⟨s, hs⟩ := opd_ex hF S S0 S1
          obtain ⟨t, ht⟩ := opd_ex hF (b % sg) n0 (by omega)
          obtain ⟨r, cl, hc⟩ := CmpO.ex s t (opd_vo hF hs).1 (opd_vo hF ht).1 true
          have hC : CmpIs f S (b % sg) true r cl := .inl ⟨p, mx, one, inf, sg, nan, s, t, hF, hs, ht, hc⟩
          have hr := hcmp r cl true hC
          obtain ⟨Y, yl, hY, _, IY⟩ := rem_same f Z b Z0 (by omega) b0 b1
          obtain ⟨rfl, rfl⟩ := OpRD.one hR2 hY
          refine ⟨hfl, Z % sg, b % sg, S, gl, r, cl, ⟨hsz Z Z0, hsz b b0, fun w' hg => (implAdd_any f 3 (Z % sg) (Z % sg) m0 (by omega) m0 (by omega) w' (hw.gb hg)).mono ?_, fun w' hg => (implCompare_any f S (b % sg) true S0 S1 n0 (by omega) w' (hw.gb hg)).mono ?_, fun w' hg => IY w' (hw.gb hg)⟩, decide_eq_false (by omega)⟩
          · rintro e w'' ⟨S', gl', hS', rfl, hg'⟩
            obtain ⟨rfl, rfl⟩ := OpR.one hS hS'
            exact ⟨rfl, hg'⟩
          · rintro e w'' ⟨r', cl', hC', rfl, hg'⟩
            obtain ⟨rfl, rfl⟩ := CmpIs.one hC hC'
            exact ⟨rfl, hg'⟩
    · exact .inr (.inl ⟨h1, by simp [h2]⟩)
  · exact .inl (by simp [h1])

theorem lawRemP (a : Option Addr) (len cap : Nat) (w : World) (hC : CodeRow w a len) (hw : Fm w) :
    Calls Tryz.prog 3 #[.slice a len cap] w fun e w' => e = .returned (.bool true) ∧ Gb w w' := by
  refine rem_walk a len cap w hC (fun w' hg => drawRem_any a len cap w' (CodeRow.gbR hC hg) (fun f mode a b a0 a1 b0 b1 => ?_)) (fun f u v u0 u1 v0 v1 => rem_all f u v u0 u1 v0 v1 w hw)
  by_cases hf : f = 0 ∨ f = 1
  · obtain ⟨p, mx, one, inf, sg, nan, hF⟩ := fmt_of f hf
    by_cases hm : 0 ≤ mode ∧ mode ≤ 4
    · by_cases hfit : a < 2 * sg ∧ b < 2 * sg
      · exact .inl ⟨sg, hF.bounds.2.2.2.2.2.2.2.2.2.2.1, hfit.1, hfit.2, fun w => l3Fits_yes hF mode a b hm.1 hm.2 a0 hfit.1 b0 hfit.2 w, fun v w v0 v1 => from_small hF v v0 v1 w, fun a b w a0 a1 b0 b1 => mul_some hF a b a0 a1 b0 b1 w, fun a b w a0 a1 b0 b1 => div_all hF a b a0 a1 b0 b1 w⟩
      · exact .inr (fun w => l3Fits_no f mode a b a0 a1 b0 b1 (nofit_of hF a1 b1 (by omega)) w)
    · exact .inr (fun w => l3Fits_no f mode a b a0 a1 b0 b1 (.inl (by omega)) w)
  · exact .inr (fun w => l3Fits_no f mode a b a0 a1 b0 b1 (.inr (.inl hf)) w)
end Go.Proofs.YtkflpogmhailhaaGreatDoor

/- The frame of the proof of FnRem; the walk: lawRemP. -/
namespace Go.Proofs.YtkflpogmhailhaaGreatDoor.fnRem
open Go.ChangeShapes Go.WideShapes Go.ChangeAt Go.RowKit Go.Joins
set_option linter.unusedVariables false

theorem laidOut : laidOutB Tryz.prog = true := by kernel_rfl

set_option maxRecDepth 100000 in
/-- Longer than the bound: true at once. -/
theorem long_any (a : Option Addr) (len cap : Nat) (w : World) (h : (1048576 : Int) < (len : Int)) :
    Calls Tryz.prog 3 #[.slice a len cap] w fun e w' => e = .returned (.bool true) ∧ Gb w w' := by
  go_enter Tryz.func3, Tryz.ntmps3
  go_wp2
  go_ret
  exact ⟨rfl, Gb.refl _⟩

/-- What a reading of the code tells: a row of bytes, or nothing. -/
theorem codeRow {w : World} {a : Option Addr} {len cap : Nat} (hl : len ≤ 1048576)
    (h : len = 0 ∨ ∃ (x : Addr) (zs : List Int), a = some x ∧ len ≤ zs.length ∧ (∀ i, i < zs.length → w.cell? (x.add i) = some (.int .u8 (zs.getD i 0))) ∧ ∀ n ∈ zs, (Lit.int .u8 n).wf = true) : CodeRow w a len := by
  refine ⟨hl, ?_⟩
  rcases h with e | ⟨x, zs, rfl, hz, hc, hw⟩
  · exact .inl e
  · rcases (show len = 0 ∨ 0 < len by omega) with e | hp
    · exact .inl e
    · obtain ⟨b, off, rfl, hcell⟩ := ints_at hc (by omega)
      refine .inr ⟨b, off, rfl, fun i hi => ⟨zs.getD i 0, ?_, ?_, hcell i (by omega)⟩⟩
      · rw [List.getD_eq_getElem?_getD]; exact (range_u8 hw i).1
      · rw [List.getD_eq_getElem?_getD]; exact (range_u8 hw i).2

theorem walk (a : Option Addr) (len cap : Nat) (w : World) (hw : Fm w)
    (h : len = 0 ∨ ∃ (x : Addr) (zs : List Int), a = some x ∧ len ≤ zs.length ∧ (∀ i, i < zs.length → w.cell? (x.add i) = some (.int .u8 (zs.getD i 0))) ∧ ∀ n ∈ zs, (Lit.int .u8 n).wf = true) :
    Calls Tryz.prog 3 #[.slice a len cap] w fun e w' => e = .returned (.bool true) ∧ Gb w w' := by
  rcases (show len ≤ 1048576 ∨ 1048576 < len by omega) with hl | hl
  · exact lawRemP a len cap w (codeRow (cap := cap) hl h) hw
  · exact long_any a len cap w (by omega)

set_option maxRecDepth 100000 in
theorem lifted (os : Os) (started : os.Started) (H : Type) (enc : TypeId × Value → H) :
    ReturnsInHanded {} Tryz.checked os 3 .any (fun w args => (Rows.fnRemSpec.pre enc Tryz.prog Tryz.f3 [] false w args ∧ laidMetH Tryz.prog laidF w) ∧ sizedMet enc Tryz.prog Tryz.f3 (OpenSpec.ofChange Rows.fnRemSpec) false w args)
      (Rows.fnRemSpec.post enc Tryz.prog Tryz.f3 false true false false) := by
  refine returnsInHanded_of_change_and (C := Tryz.checked) (X := fun w _ => laidMetH Tryz.prog laidF w) (fun _ _ _ hh h => h.of_heap hh) ownF started (by kernel_rfl) Tryz.func3
    (ChangeSpec.witness_shaped (enc := enc) (C := Tryz.checked) (os := os) (X := fun w _ => laidMetH Tryz.prog laidF w) false (World.doorLaid Tryz.prog 16 os) #[.slice none 0 0] 8 rfl (World.shaped_of_RefB (by kernel_rfl) (by kernel_rfl)) (by kernel_rfl) (by kernel_rfl) (by kernel_rfl) (door_met os _)) ?_
  intro W base args ds gs before hval0 hW _ _ hL _
  have hval : ∀ (j : Nat) t v, Tryz.f3.params[j]? = some t → args[j]? = some v → Value.okWide Tryz.prog W .any base t v := hval0
  have hW' := hW
  obtain ⟨p, q, hA0, hV0, rfl, hfz, hnd⟩ := hW
  have hA : DataW.TrodAll enc Tryz.prog W 0 (fun _ => true) true Tryz.f3.params.toList args.toList ds p := hA0
  have hV : DataW.TrodVars enc Tryz.prog W (fun _ => true) ["loop.example/s01330/impl.formats"] gs q := hV0
  rw [Tryz.params3] at hA hval
  obtain ⟨v0, vs0, d0, ds0, p0, q0, hargs, rfl, rfl, h0, r0⟩ := trodAll_cons hA
  obtain ⟨rfl, rfl, rfl⟩ := trodAll_nil r0
  obtain rfl : args = #[v0] := by cases args; simp_all
  obtain rfl := vars_opened hL hV
  obtain ⟨a0, len0, cap0, rfl⟩ := okWide_slice Tryz.underlying22 (hval 0 22 v0 rfl rfl)
  have k0 := h0
  have lt0 : ∀ x ∈ p0, x.block < W.heap.size := by obtain ⟨m, hm⟩ := k0; exact DataW.trod_lt m _ _ _ hm
  have w0 : len0 = 0 ∨ ∃ (x : Addr) (zs : List Int), a0 = some x ∧ len0 ≤ zs.length ∧ (∀ i, i < zs.length → W.cell? (x.add i) = some (.int .u8 (zs.getD i 0))) ∧ ∀ n ∈ zs, (Lit.int .u8 n).wf = true := by
    obtain ⟨fuel, hf⟩ := h0
    rcases open_ints Tryz.underlying22 Tryz.underlying5 (by kernel_rfl) hf with ⟨hcs, _⟩ | ⟨x, l, c, zs, hcs, _, hl, hm, hz, _, hcell, hwz⟩
    · simp [Value.cells] at hcs
      obtain ⟨rfl, rfl, rfl⟩ := hcs
      exact .inl rfl
    · simp [Value.cells] at hcs
      obtain ⟨rfl, rfl, rfl⟩ := hcs
      have hz' : zs.length = cap0 := by simpa using hz
      exact .inr ⟨x, zs, rfl, by omega, hcell, hwz⟩
  clear hA0 hV0 hval0
  refine (walk a0 len0 cap0 W (fm_of_laid hL) w0).mono fun e W' ⟨he, hgb⟩ => ?_
  have bel : Below W.heap.size W W' := hgb
  subst he
  exact ⟨_, rfl, _, _, _, [], _, _, hW', (trodAll_cons_mk (shut_bool Tryz.underlying4 _) trodAll_mk0), (trodAll_cons_mk (Below.trod laidOut (by kernel_rfl) (of_decide_eq_true (by kernel_rfl)) k0 bel lt0) trodAll_mk0), vars_again enc hgb (cells_of_laid hL) _, Below.frame hgb _, fun h => by cases h⟩

theorem over : Rows.fnRemRow.holds Tryz.pinned (OpenSpec.ofChange Rows.fnRemSpec) :=
  OpenClaim.holds_of_wide 3 Tryz.f3 rfl rfl rfl rfl rfl rfl rfl ⟨rfl, rfl, rfl, rfl, rfl⟩ rfl rfl rfl rfl rfl (by kernel_rfl) Tryz.func3 (by kernel_rfl)
    (of_decide_eq_true (by kernel_rfl)) (by unfold Func.isWrapper; first | (rw [if_pos (by decide +kernel)]; kernel_rfl) | (rw [if_neg (by decide +kernel)]; exact ⟨rfl, rfl⟩))
    (fun os started H enc _ => lifted os started H enc)
end Go.Proofs.YtkflpogmhailhaaGreatDoor.fnRem

namespace Go.Proofs.YtkflpogmhailhaaGreatDoor
open Go
theorem FnRem_holds : Rows.FnRemCardSaid :=
  Claim7.holds_tied_plain_at .later [] [.wider] true (true, "22ebe88655376be4049b74d9712a31ba9e80f22bda0705f4855dd580b07badec") false
    fnRem.over (fun _ h => by cases h) (by kernel_rfl) (fun _ h => by cases h) fnRem_row_tie rfl ⟨rfl, rfl⟩ (by kernel_rfl) rfl
    (fun f fn hf hfn => by
      obtain rfl : f = 3 := Option.some.inj ((show Tryz.prog.funcNamed "loop.example/s01330/laws.FnRem" = some 3 by kernel_rfl).symm.trans hf) |>.symm
      obtain rfl : fn = Tryz.f3 := (Option.some.inj (Tryz.func3.symm.trans hfn)).symm
      exact ⟨by kernel_rfl, fun j t ht => by
        rw [Tryz.params3] at ht
        have hm : t ∈ [22] := by simpa using Array.mem_of_getElem? ht
        have hall : ([22].all fun u => !Tryz.prog.wantsStandIn u) = true := by kernel_rfl
        exact (show Tryz.prog.wantsStandIn t = false by simpa using List.all_eq_true.1 hall t hm)⟩)
    (by kernel_rfl)
#print axioms FnRem_holds
end Go.Proofs.YtkflpogmhailhaaGreatDoor
