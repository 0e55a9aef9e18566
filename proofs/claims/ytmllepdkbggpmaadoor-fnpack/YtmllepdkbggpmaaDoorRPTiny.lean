/- impl's tiny. -/
import Derived.Test.YtmllepdkbggpmaaDoorF2b
import Derived.Deep.RegionHeld3
set_option linter.unusedVariables false
set_option linter.unusedSimpArgs false
namespace Go.Proofs.YtmllepdkbggpmaaDoor
open Go.RowKit

set_option maxRecDepth 100000 in
set_option maxHeartbeats 2000000 in
theorem tiny_ne {p mn mx : Int} (m0 : -1022 ≤ mn) (m1 : mn ≤ 0) (fv : Value) (top sign e mh ml : Int) (sticky : Bool) (hne : (top == mn - 1) = false) (w : World) :
    Calls Tryd.prog 67 #[.agg #[.int .i64 p, .int .i64 mn, .int .i64 mx], fv, .int .i64 top, .int .i64 sign, .int .i64 e, .agg #[.int .u64 mh, .int .u64 ml], .bool sticky] w fun x w' => x = .returned (.bool (decide (top < mn))) ∧ Gr w w' := by
  go_enter Tryd.func67, Tryd.ntmps67
  go_wp2
  go_returns
  exact ⟨rfl, by (repeat' (first | (with_reducible assumption) | (with_reducible exact Gr.refl _) | (with_reducible refine Gr.alloc ?_ _ _) | (with_reducible refine Gr.drew ?_) | (with_reducible refine Gr.setCell ?_ ?_ _) | (with_reducible refine Gr.trans ?_ (by with_reducible assumption)) | go_size))⟩

set_option maxRecDepth 100000 in
set_option maxHeartbeats 1000000 in
theorem tiny_eq {p mn mx fb sp one inf sg nan : Int} (h : IsM p mn mx fb sp one inf sg nan) (fv : Value) (top sign e mh ml a1 dr r2 : Int) (sticky b2 tb : Bool) (htop : top = mn - 1) (e0 : -200000 ≤ e) (e1 : e ≤ 200000) (ha : top - fb = a1) (hdr : a1 - e = dr) (r0 : 0 ≤ r2) (r1 : r2 < 18446744073709551616) (htb : tb = decide (r2 < 2 * one))
    (HAt : Hid (∀ w, Calls Tryd.prog 66 #[fv, .int .i64 dr, .int .i64 sign, .agg #[.int .u64 mh, .int .u64 ml], .bool sticky] w fun x w' => x = .returned (.tuple #[.int .u64 r2, .bool b2]) ∧ Gr w w')) (w : World) :
    Calls Tryd.prog 67 #[.agg #[.int .i64 p, .int .i64 mn, .int .i64 mx], fv, .int .i64 top, .int .i64 sign, .int .i64 e, .agg #[.int .u64 mh, .int .u64 ml], .bool sticky] w fun x w' => x = .returned (.bool tb) ∧ Gr w w' := by
  have HF : Hid (∀ w, Calls Tryd.prog 52 #[.agg #[.int .i64 p, .int .i64 mn, .int .i64 mx]] w fun e w' => e = .returned (.int .i64 fb) ∧ Gr w w') := fun w => fb_any h w
  have tb2 : -2000 ≤ top ∧ top ≤ 0 := by rcases h with h | h <;> omega
  have u1 : IntKind.i64.wrap (top - fb) = a1 := by rw [ha]; exact wi64 _ (by rcases h with h | h <;> omega) (by rcases h with h | h <;> omega)
  have u2 : IntKind.i64.wrap (a1 - e) = dr := by rw [hdr]; exact wi64 _ (by rcases h with h | h <;> omega) (by rcases h with h | h <;> omega)
  have HT : Hid (tb = decide (r2 < 2 * one)) := htb
  clear ha hdr htb
  rcases h with ⟨rfl, rfl, rfl, rfl, rfl, rfl, rfl, rfl, rfl⟩ | ⟨rfl, rfl, rfl, rfl, rfl, rfl, rfl, rfl, rfl⟩
  · have heq : (top == -127) = true := by simp; omega
    clear htop
    go_enter Tryd.func67, Tryd.ntmps67
    go_wp2
    go_region_held3 (fun w' => w'.cell? ⟨w.heap.size, 0, none⟩ = some (.int .i64 24) ∧ w'.cell? ⟨w.heap.size, 1, none⟩ = some (.int .i64 (-126)) ∧ w'.cell? ⟨w.heap.size, 2, none⟩ = some (.int .i64 127) ∧ w'.cell? ⟨w.heap.size + 1, 0, none⟩ = some (.int .u64 mh) ∧ w'.cell? ⟨w.heap.size + 1, 1, none⟩ = some (.int .u64 ml))
      ((go_split_ands; (repeat' apply And.intro) <;> (repeat' (first | (with_reducible assumption) | (with_reducible refine has_of (by with_reducible assumption)) | (with_reducible refine Gr.old (by with_reducible assumption) ?_) | (with_reducible refine cell_swap _ ?_ (by with_reducible assumption); omega) | (with_reducible refine cell_setSame ?_) | (with_reducible refine has_old (by with_reducible assumption) ?_) | (with_reducible refine has_set ?_) | (with_reducible refine cell_setOff ?_ ?_; omega) | (with_reducible refine cell_setNew ?_ ?_; (dsimp only; omega)) | (simp [go_sem]; done) | (simp [go_sem]; rfl) | (with_reducible refine cell_alloc _ ?_) | (with_reducible refine cell_drew ?_) | (with_reducible refine has_alloc _ ?_) | (with_reducible refine fz_old (by with_reducible assumption) ?_) | (with_reducible refine fz_alloc ?_) | (with_reducible refine fz_set ?_) | (with_reducible refine fz_drew ?_)))))
      (first
        | (go_at_call 52; refine (HF.out _).mono ?_; rintro e w1 ⟨rfl, hg_w1⟩; have hc_w1 := hg_w1.cells; have hf_w1 := hg_w1.frozens; have hz_w1 := hg_w1.size; (try simp only [World.size_alloc, World.size_drew, World.size_setCell] at hz_w1))
        | (go_at_call 66; refine (HAt.out _).mono ?_; rintro e w2 ⟨rfl, hg_w2⟩; have hc_w2 := hg_w2.cells; have hf_w2 := hg_w2.frozens; have hz_w2 := hg_w2.size; (try simp only [World.size_alloc, World.size_drew, World.size_setCell] at hz_w2)))
    all_goals (try go_split_ands)
    all_goals go_wp2
    all_goals go_returns
    all_goals
      refine ⟨ret_congr (congrArg Value.bool ?_), by (repeat' (first | (with_reducible assumption) | (with_reducible exact Gr.refl _) | (with_reducible refine Gr.alloc ?_ _ _) | (with_reducible refine Gr.drew ?_) | (with_reducible refine Gr.setCell ?_ ?_ _) | (with_reducible refine Gr.trans ?_ (by with_reducible assumption)) | go_size))⟩
      rw [HT.out]
      first
        | (rw [Bool.eq_iff_iff]; simp; omega)
        | (by_cases c : r2 < 16777216
           · rw [decide_eq_true (by omega)]; simp; omega
           · rw [decide_eq_false (by omega)]; simp; omega)
  · have heq : (top == -1023) = true := by simp; omega
    clear htop
    go_enter Tryd.func67, Tryd.ntmps67
    go_wp2
    go_region_held3 (fun w' => w'.cell? ⟨w.heap.size, 0, none⟩ = some (.int .i64 53) ∧ w'.cell? ⟨w.heap.size, 1, none⟩ = some (.int .i64 (-1022)) ∧ w'.cell? ⟨w.heap.size, 2, none⟩ = some (.int .i64 1023) ∧ w'.cell? ⟨w.heap.size + 1, 0, none⟩ = some (.int .u64 mh) ∧ w'.cell? ⟨w.heap.size + 1, 1, none⟩ = some (.int .u64 ml))
      ((go_split_ands; (repeat' apply And.intro) <;> (repeat' (first | (with_reducible assumption) | (with_reducible refine has_of (by with_reducible assumption)) | (with_reducible refine Gr.old (by with_reducible assumption) ?_) | (with_reducible refine cell_swap _ ?_ (by with_reducible assumption); omega) | (with_reducible refine cell_setSame ?_) | (with_reducible refine has_old (by with_reducible assumption) ?_) | (with_reducible refine has_set ?_) | (with_reducible refine cell_setOff ?_ ?_; omega) | (with_reducible refine cell_setNew ?_ ?_; (dsimp only; omega)) | (simp [go_sem]; done) | (simp [go_sem]; rfl) | (with_reducible refine cell_alloc _ ?_) | (with_reducible refine cell_drew ?_) | (with_reducible refine has_alloc _ ?_) | (with_reducible refine fz_old (by with_reducible assumption) ?_) | (with_reducible refine fz_alloc ?_) | (with_reducible refine fz_set ?_) | (with_reducible refine fz_drew ?_)))))
      (first
        | (go_at_call 52; refine (HF.out _).mono ?_; rintro e w1 ⟨rfl, hg_w1⟩; have hc_w1 := hg_w1.cells; have hf_w1 := hg_w1.frozens; have hz_w1 := hg_w1.size; (try simp only [World.size_alloc, World.size_drew, World.size_setCell] at hz_w1))
        | (go_at_call 66; refine (HAt.out _).mono ?_; rintro e w2 ⟨rfl, hg_w2⟩; have hc_w2 := hg_w2.cells; have hf_w2 := hg_w2.frozens; have hz_w2 := hg_w2.size; (try simp only [World.size_alloc, World.size_drew, World.size_setCell] at hz_w2)))
    all_goals (try go_split_ands)
    all_goals go_wp2
    all_goals go_returns
    all_goals
      refine ⟨ret_congr (congrArg Value.bool ?_), by (repeat' (first | (with_reducible assumption) | (with_reducible exact Gr.refl _) | (with_reducible refine Gr.alloc ?_ _ _) | (with_reducible refine Gr.drew ?_) | (with_reducible refine Gr.setCell ?_ ?_ _) | (with_reducible refine Gr.trans ?_ (by with_reducible assumption)) | go_size))⟩
      rw [HT.out]
      first
        | (rw [Bool.eq_iff_iff]; simp; omega)
        | (by_cases c : r2 < 9007199254740992
           · rw [decide_eq_true (by omega)]; simp; omega
           · rw [decide_eq_false (by omega)]; simp; omega)
end Go.Proofs.YtmllepdkbggpmaaDoor
