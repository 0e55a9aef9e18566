/- spec.l5Int of what is not negative. -/
import Derived.Test.YtfakbjgbbcigpaaDoorL5S
import Derived.Deep.RegionHeld3
set_option linter.unusedVariables false
set_option linter.unusedSimpArgs false
namespace Go.Proofs.YtfakbjgbbcigpaaDoor
open Go.RowKit

set_option maxRecDepth 1000000 in
set_option maxHeartbeats 4000000 in
theorem l5Int_p (kind a B d : Int) (M L : Nat) (t : Bool) (B0 : 0 < B) (hd : decide (d ≤ 0) = t) (ha : decide (9223372036854775808 ≤ a) = false) (HK : Hid (∀ w, Calls Tryd.prog 41 #[.int .i64 kind] w fun e w' => e = .returned (.tuple #[.int .i64 B, .bool true]) ∧ w = w')) (HB : Hid (∀ w, Calls Tryd.prog 83 #[.int .u64 a] w fun e w' => ∃ b k c, BigN 2 w' (.slice (some ⟨b, 0, none⟩) k c) M ∧ e = .returned (.slice (some ⟨b, 0, none⟩) k c) ∧ Gb w w')) (HT : Hid (∀ w, Calls Tryd.prog 74 #[.int .i64 63] w fun e w' => e = .returned (.int .u64 9223372036854775808) ∧ w = w')) (HM : Hid (∀ w, Calls Tryd.prog 44 #[.int .i64 kind, .int .i64 0] w fun e w' => ∃ b k c, BigN 20 w' (.slice (some ⟨b, 0, none⟩) k c) L ∧ e = .returned (.slice (some ⟨b, 0, none⟩) k c) ∧ Gb w w')) (HC : Hid (∀ v v' w, BigN 2 w v M → BigN 20 w v' L → Calls Tryd.prog 47 #[v, v'] w fun e w' => e = .returned (.int .i64 d) ∧ Gb w w')) (w : World) :
    Calls Tryd.prog 54 #[.int .i64 kind, .int .u64 a] w fun e w' => ∃ b k c, BigN 2 w' (.slice (some ⟨b, 0, none⟩) k c) M ∧ e = .returned (.tuple #[.agg #[.int .i64 0, .slice (some ⟨b, 0, none⟩) k c, .int .i64 0, .bool false], .bool t]) ∧ Gb w w' := by
  go_enter Tryd.func54, Tryd.ntmps54
  go_upto_region 3 with (first
    | (go_at_call 41; refine (HK.out _).mono ?_; rintro e wk ⟨rfl, hw⟩; subst hw)
    | (go_at_call 83; refine (HB.out _).mono ?_; rintro e n1 ⟨b1, k1, q1, hb1, rfl, hg_n1⟩; have kr0 : n1.cell? ⟨w.heap.size, 0, none⟩ = some (.int .i64 0) := hg_n1.c; have krz0 : n1.frozen? ⟨w.heap.size, 0, none⟩ = false := hg_n1.z kr0; have kr1 : n1.cell? ⟨w.heap.size, 1, none⟩ = some (.slice none 0 0) := hg_n1.c; have krz1 : n1.frozen? ⟨w.heap.size, 1, none⟩ = false := hg_n1.z kr1; have kr2 : n1.cell? ⟨w.heap.size, 2, none⟩ = some (.int .i64 0) := hg_n1.c; have krz2 : n1.frozen? ⟨w.heap.size, 2, none⟩ = false := hg_n1.z kr2; have kr3 : n1.cell? ⟨w.heap.size, 3, none⟩ = some (.bool false) := hg_n1.c; have krz3 : n1.frozen? ⟨w.heap.size, 3, none⟩ = false := hg_n1.z kr3; have hz1 := cell_size kr0))
  obtain ⟨w2, hw2⟩ : ∃ w2, n1.alloc (.cells #[.int .i64 0, .slice (some ⟨b1, 0, none⟩) k1 q1, .int .i64 0, .bool false] 71) = w2 := ⟨_, rfl⟩
  have hg_w2 : Gb n1 w2 := by rw [← hw2]; exact (Gb.refl _).alloc _
  have hb2 : BigN 2 w2 (.slice (some ⟨b1, 0, none⟩) k1 q1) M := BigN.gb hb1 hg_w2
  have x0 : w2.cell? ⟨n1.heap.size, 0, none⟩ = some (.int .i64 0) := by rw [← hw2]; simp [go_sem]
  have x1 : w2.cell? ⟨n1.heap.size, 1, none⟩ = some (.slice (some ⟨b1, 0, none⟩) k1 q1) := by rw [← hw2]; simp [go_sem]
  have x2 : w2.cell? ⟨n1.heap.size, 2, none⟩ = some (.int .i64 0) := by rw [← hw2]; simp [go_sem]
  have x3 : w2.cell? ⟨n1.heap.size, 3, none⟩ = some (.bool false) := by rw [← hw2]; simp [go_sem]
  have hz2 : n1.heap.size < w2.heap.size := by rw [← hw2]; simp
  rw [hw2]
  clear hw2
  have mr0 : w2.cell? ⟨w.heap.size, 0, none⟩ = some (.int .i64 0) := hg_w2.c; have mrz0 : w2.frozen? ⟨w.heap.size, 0, none⟩ = false := hg_w2.z mr0; have mr1 : w2.cell? ⟨w.heap.size, 1, none⟩ = some (.slice none 0 0) := hg_w2.c; have mrz1 : w2.frozen? ⟨w.heap.size, 1, none⟩ = false := hg_w2.z mr1; have mr2 : w2.cell? ⟨w.heap.size, 2, none⟩ = some (.int .i64 0) := hg_w2.c; have mrz2 : w2.frozen? ⟨w.heap.size, 2, none⟩ = false := hg_w2.z mr2; have mr3 : w2.cell? ⟨w.heap.size, 3, none⟩ = some (.bool false) := hg_w2.c; have mrz3 : w2.frozen? ⟨w.heap.size, 3, none⟩ = false := hg_w2.z mr3
  have hgw : Gb w w2 := Gb.g
  go_wp2_with (go_at_call 74; refine (HT.out _).mono ?_; rintro e wk ⟨rfl, hw⟩; subst hw)
  go_region_held3 (fun w' => w'.cell? ⟨n1.heap.size, 0, none⟩ = some (.int .i64 0) ∧ w'.cell? ⟨n1.heap.size, 1, none⟩ = some (.slice (some ⟨b1, 0, none⟩) k1 q1) ∧ w'.cell? ⟨n1.heap.size, 2, none⟩ = some (.int .i64 0) ∧ w'.cell? ⟨n1.heap.size, 3, none⟩ = some (.bool false))
    ((go_split_ands; (repeat' apply And.intro) <;> (repeat' (first | (with_reducible assumption) | (with_reducible refine has_of (by with_reducible assumption)) | (with_reducible refine Gr.old (by with_reducible assumption) ?_) | (with_reducible refine Gb.old (by with_reducible assumption) ?_) | (with_reducible refine Gb.hs (by with_reducible assumption) ?_) | (with_reducible refine has_old (by with_reducible assumption) ?_) | (with_reducible refine cell_setSame ?_) | (with_reducible refine has_set ?_) | (with_reducible refine cell_setOff ?_ ?_; omega) | (with_reducible refine cell_setNew ?_ ?_; (dsimp only; omega)) | (simp [go_sem]; done) | (with_reducible refine cell_alloc _ ?_) | (with_reducible refine cell_drew ?_) | (with_reducible refine has_alloc _ ?_) | (with_reducible refine fz_old (by with_reducible assumption) ?_) | (with_reducible refine Gb.fh (by with_reducible assumption) (by with_reducible assumption) ?_) | (with_reducible refine fz_alloc ?_) | (with_reducible refine fz_set ?_) | (with_reducible refine fz_drew ?_) | go_size))))
    (first
      | (go_at_call 44; refine (HM.out _).mono ?_; rintro e n3 ⟨b3, k3, q3, hb3, rfl, hg_n3⟩; have nr0 : n3.cell? ⟨w.heap.size, 0, none⟩ = some (.int .i64 0) := hg_n3.c; have nrz0 : n3.frozen? ⟨w.heap.size, 0, none⟩ = false := hg_n3.z nr0; have nr1 : n3.cell? ⟨w.heap.size, 1, none⟩ = some (.slice none 0 0) := hg_n3.c; have nrz1 : n3.frozen? ⟨w.heap.size, 1, none⟩ = false := hg_n3.z nr1; have nr2 : n3.cell? ⟨w.heap.size, 2, none⟩ = some (.int .i64 0) := hg_n3.c; have nrz2 : n3.frozen? ⟨w.heap.size, 2, none⟩ = false := hg_n3.z nr2; have nr3 : n3.cell? ⟨w.heap.size, 3, none⟩ = some (.bool false) := hg_n3.c; have nrz3 : n3.frozen? ⟨w.heap.size, 3, none⟩ = false := hg_n3.z nr3)
      | (go_at_call 47; with_reducible refine (HC.out _ _ _ (BigN.gb hb2 Gb.g) (BigN.gb hb3 Gb.g)).mono ?_; rintro e n4 ⟨rfl, hg_n4⟩; have or0 : n4.cell? ⟨w.heap.size, 0, none⟩ = some (.int .i64 0) := hg_n4.c; have orz0 : n4.frozen? ⟨w.heap.size, 0, none⟩ = false := hg_n4.z or0; have or1 : n4.cell? ⟨w.heap.size, 1, none⟩ = some (.slice none 0 0) := hg_n4.c; have orz1 : n4.frozen? ⟨w.heap.size, 1, none⟩ = false := hg_n4.z or1; have or2 : n4.cell? ⟨w.heap.size, 2, none⟩ = some (.int .i64 0) := hg_n4.c; have orz2 : n4.frozen? ⟨w.heap.size, 2, none⟩ = false := hg_n4.z or2; have or3 : n4.cell? ⟨w.heap.size, 3, none⟩ = some (.bool false) := hg_n4.c; have orz3 : n4.frozen? ⟨w.heap.size, 3, none⟩ = false := hg_n4.z or3))
  all_goals (try go_split_ands)
  all_goals go_wp2
  all_goals
    refine bodyPost_ret (v := .tuple #[.agg #[.int .i64 0, .slice (some ⟨b1, 0, none⟩) k1 q1, .int .i64 0, .bool false], .bool t]) (by simp [results, Tryd.results54, go_sem, or0, or1, or2, or3, hd]) rfl ⟨b1, k1, q1, ?_, rfl, ?_⟩
    · exact (BigN.gb hb2 Gb.g).st4 or0 or1 or2 or3
    · exact Gb.g

end Go.Proofs.YtfakbjgbbcigpaaDoor
