/- spec.l3NoProduct. -/
import Derived.Test.YtkflpogmhailhaaGreatDoorB4
import Derived.Test.YtkflpogmhailhaaGreatDoorR3
set_option linter.unusedVariables false
set_option linter.unusedSimpArgs false
namespace Go.Proofs.YtkflpogmhailhaaGreatDoor
open Go.RowKit

set_option maxRecDepth 100000 in
theorem l3NoProduct_any (c s x g c' s' x' g' : Int) (b : Bool) (hb : b = decide (c = 2 ∧ c' = 0 ∨ c = 0 ∧ c' = 2)) (w : World) :
    Calls Tryz.prog 67 #[.agg #[.int .i64 c, .int .i64 s, .int .i64 x, .int .u64 g], .agg #[.int .i64 c', .int .i64 s', .int .i64 x', .int .u64 g']] w fun e w' => e = .returned (.bool b) ∧ Gr w w' := by
  have hB : Hid (b = decide (c = 2 ∧ c' = 0 ∨ c = 0 ∧ c' = 2)) := hb
  clear hb
  rcases (show c = 2 ∨ c = 0 ∨ (c ≠ 2 ∧ c ≠ 0) by omega) with rfl | rfl | ⟨h1, h2⟩
  · go_enter Tryz.func67, Tryz.ntmps67
    go_wp2
    all_goals go_returns
    all_goals exact ⟨ret_congr (congrArg Value.bool (by rw [hB.out, Bool.eq_iff_iff]; simp <;> omega)), kr⟩
  · go_enter Tryz.func67, Tryz.ntmps67
    go_wp2
    all_goals go_returns
    all_goals exact ⟨ret_congr (congrArg Value.bool (by rw [hB.out, Bool.eq_iff_iff]; simp <;> omega)), kr⟩
  · have e1 : (c == 2) = false := by simp; omega
    have e2 : (c == 0) = false := by simp; omega
    go_enter Tryz.func67, Tryz.ntmps67
    go_wp2
    all_goals go_returns
    all_goals exact ⟨ret_congr (congrArg Value.bool (by rw [hB.out, Bool.eq_iff_iff]; simp <;> omega)), kr⟩

end Go.Proofs.YtkflpogmhailhaaGreatDoor

/- spec.l3Product. -/

set_option linter.unusedVariables false
set_option linter.unusedSimpArgs false
namespace Go.Proofs.YtkflpogmhailhaaGreatDoor
open Go.RowKit

set_option maxRecDepth 1000000 in
set_option maxHeartbeats 8000000 in
theorem l3Product_any (c s x c' s' x' : Int) (G G' : Nat) (hG : G < 18446744073709551616) (hG' : G' < 18446744073709551616) (hs : s = 0 ∨ s = 1) (hs' : s' = 0 ∨ s' = 1) (x0 : -50000 ≤ x) (x1 : x ≤ 50000) (y0 : -50000 ≤ x') (y1 : x' ≤ 50000) (w : World) :
    Calls Tryz.prog 68 #[.agg #[.int .i64 c, .int .i64 s, .int .i64 x, .int .u64 ((G : Nat))], .agg #[.int .i64 (c'), .int .i64 (s'), .int .i64 (x'), .int .u64 ((G' : Nat))]] w fun e w' => ∃ b k cc, BigN 4 w' (.slice (some ⟨b, 0, none⟩) k cc) (G * G') ∧ e = .returned (.agg #[.int .i64 (mulS s s'), .slice (some ⟨b, 0, none⟩) k cc, .int .i64 (x + x'), .bool false]) ∧ Gb w w' := by
  have HB : Hid (∀ (H : Nat) w, H < 18446744073709551616 → Calls Tryz.prog 45 #[.int .u64 (H : Nat)] w fun e w' => ∃ b k c, BigN 2 w' (.slice (some ⟨b, 0, none⟩) k c) H ∧ e = .returned (.slice (some ⟨b, 0, none⟩) k c) ∧ Gb w w') := fun H w hH => big_slice (l2Big_any H hH w)
  have HM : Hid (∀ v v' (N N' : Nat) w, BigN 2 w v N → BigN 2 w v' N' → Calls Tryz.prog 89 #[v, v'] w fun e w' => ∃ b k c, BigN 4 w' (.slice (some ⟨b, 0, none⟩) k c) (N * N') ∧ e = .returned (.slice (some ⟨b, 0, none⟩) k c) ∧ Gb w w') := fun v v' N N' w ⟨n, a1, a2⟩ ⟨n', b1, b2⟩ => big_slice ((l2Mul_any a2 (by omega) b2 (by omega)).mono (fun e w' ⟨v, k, c1, c2, c3, c4⟩ => ⟨v, k, c1, c2, by omega, c4⟩))
  have u1 : IntKind.i64.wrap (x + x') = x + x' := by rw [IntKind.wrap_i64]; omega
  obtain ⟨z, hz⟩ : ∃ z, x + x' = z := ⟨_, rfl⟩
  rw [hz] at u1 ⊢
  have u2 : IntKind.i64.wrap (x + x') = z := by rw [hz]; exact u1
  clear u1 hz

  rcases hs with rfl | rfl <;> rcases hs' with rfl | rfl
  · go_enter Tryz.func68, Tryz.ntmps68
    go_wp2
    go_region_held3 (fun w' => w'.cell? ⟨w.heap.size, 1, none⟩ = some (.int .i64 0) ∧ w'.cell? ⟨w.heap.size, 2, none⟩ = some (.int .i64 x) ∧ w'.cell? ⟨w.heap.size, 3, none⟩ = some (.int .u64 (G : Nat)) ∧ w'.cell? ⟨w.heap.size + 1, 1, none⟩ = some (.int .i64 0) ∧ w'.cell? ⟨w.heap.size + 1, 2, none⟩ = some (.int .i64 x') ∧ w'.cell? ⟨w.heap.size + 1, 3, none⟩ = some (.int .u64 (G' : Nat)))
      ((go_split_ands; (repeat' apply And.intro) <;> exact kh))
      (first
        | (go_at_call 45; refine (HB.out _ _ (by assumption)).mono ?_; rintro e w1 ⟨b, k, cc, hbig, rfl, hg_w1⟩; have ar0 : w1.cell? ⟨w.heap.size + 1 + 1, 0, none⟩ = some (.int .i64 0) := hg_w1.c; have arz0 : w1.frozen? ⟨w.heap.size + 1 + 1, 0, none⟩ = false := hg_w1.z ar0; have ar1 : w1.cell? ⟨w.heap.size + 1 + 1, 1, none⟩ = some (.slice none 0 0) := hg_w1.c; have arz1 : w1.frozen? ⟨w.heap.size + 1 + 1, 1, none⟩ = false := hg_w1.z ar1; have ar2 : w1.cell? ⟨w.heap.size + 1 + 1, 2, none⟩ = some (.int .i64 0) := hg_w1.c; have arz2 : w1.frozen? ⟨w.heap.size + 1 + 1, 2, none⟩ = false := hg_w1.z ar2; have ar3 : w1.cell? ⟨w.heap.size + 1 + 1, 3, none⟩ = some (.bool false) := hg_w1.c; have arz3 : w1.frozen? ⟨w.heap.size + 1 + 1, 3, none⟩ = false := hg_w1.z ar3)
        | (go_at_call 89; refine (HM.out _ _ _ _ _ (BigN.gb (by assumption) Gb.g) (BigN.gb (by assumption) Gb.g)).mono ?_; rintro e w2 ⟨b2, k2, cc2, hbig2, rfl, hg_w2⟩; have br0 : w2.cell? ⟨w.heap.size + 1 + 1, 0, none⟩ = some (.int .i64 0) := hg_w2.c; have brz0 : w2.frozen? ⟨w.heap.size + 1 + 1, 0, none⟩ = false := hg_w2.z br0; have br1 : w2.cell? ⟨w.heap.size + 1 + 1, 1, none⟩ = some (.slice none 0 0) := hg_w2.c; have brz1 : w2.frozen? ⟨w.heap.size + 1 + 1, 1, none⟩ = false := hg_w2.z br1; have br2 : w2.cell? ⟨w.heap.size + 1 + 1, 2, none⟩ = some (.int .i64 0) := hg_w2.c; have brz2 : w2.frozen? ⟨w.heap.size + 1 + 1, 2, none⟩ = false := hg_w2.z br2; have br3 : w2.cell? ⟨w.heap.size + 1 + 1, 3, none⟩ = some (.bool false) := hg_w2.c; have brz3 : w2.frozen? ⟨w.heap.size + 1 + 1, 3, none⟩ = false := hg_w2.z br3))
    all_goals (try go_split_ands)
    all_goals go_wp2
    all_goals
      refine bodyPost_ret (v := .agg #[.int .i64 0, .slice (some ⟨b2, 0, none⟩) k2 cc2, .int .i64 z, .bool false]) (by simp [results, Tryz.results68, go_sem, br0, br1, br2, br3]; rfl) rfl ⟨b2, k2, cc2, ?_, rfl, ?_⟩
      · exact hbig2.st4 br0 br1 br2 br3
      · exact Gb.g

  · go_enter Tryz.func68, Tryz.ntmps68
    go_wp2
    go_region_held3 (fun w' => w'.cell? ⟨w.heap.size, 1, none⟩ = some (.int .i64 0) ∧ w'.cell? ⟨w.heap.size, 2, none⟩ = some (.int .i64 x) ∧ w'.cell? ⟨w.heap.size, 3, none⟩ = some (.int .u64 (G : Nat)) ∧ w'.cell? ⟨w.heap.size + 1, 1, none⟩ = some (.int .i64 1) ∧ w'.cell? ⟨w.heap.size + 1, 2, none⟩ = some (.int .i64 x') ∧ w'.cell? ⟨w.heap.size + 1, 3, none⟩ = some (.int .u64 (G' : Nat)))
      ((go_split_ands; (repeat' apply And.intro) <;> exact kh))
      (first
        | (go_at_call 45; refine (HB.out _ _ (by assumption)).mono ?_; rintro e w1 ⟨b, k, cc, hbig, rfl, hg_w1⟩; have ar0 : w1.cell? ⟨w.heap.size + 1 + 1, 0, none⟩ = some (.int .i64 0) := hg_w1.c; have arz0 : w1.frozen? ⟨w.heap.size + 1 + 1, 0, none⟩ = false := hg_w1.z ar0; have ar1 : w1.cell? ⟨w.heap.size + 1 + 1, 1, none⟩ = some (.slice none 0 0) := hg_w1.c; have arz1 : w1.frozen? ⟨w.heap.size + 1 + 1, 1, none⟩ = false := hg_w1.z ar1; have ar2 : w1.cell? ⟨w.heap.size + 1 + 1, 2, none⟩ = some (.int .i64 0) := hg_w1.c; have arz2 : w1.frozen? ⟨w.heap.size + 1 + 1, 2, none⟩ = false := hg_w1.z ar2; have ar3 : w1.cell? ⟨w.heap.size + 1 + 1, 3, none⟩ = some (.bool false) := hg_w1.c; have arz3 : w1.frozen? ⟨w.heap.size + 1 + 1, 3, none⟩ = false := hg_w1.z ar3)
        | (go_at_call 89; refine (HM.out _ _ _ _ _ (BigN.gb (by assumption) Gb.g) (BigN.gb (by assumption) Gb.g)).mono ?_; rintro e w2 ⟨b2, k2, cc2, hbig2, rfl, hg_w2⟩; have br0 : w2.cell? ⟨w.heap.size + 1 + 1, 0, none⟩ = some (.int .i64 0) := hg_w2.c; have brz0 : w2.frozen? ⟨w.heap.size + 1 + 1, 0, none⟩ = false := hg_w2.z br0; have br1 : w2.cell? ⟨w.heap.size + 1 + 1, 1, none⟩ = some (.slice none 0 0) := hg_w2.c; have brz1 : w2.frozen? ⟨w.heap.size + 1 + 1, 1, none⟩ = false := hg_w2.z br1; have br2 : w2.cell? ⟨w.heap.size + 1 + 1, 2, none⟩ = some (.int .i64 0) := hg_w2.c; have brz2 : w2.frozen? ⟨w.heap.size + 1 + 1, 2, none⟩ = false := hg_w2.z br2; have br3 : w2.cell? ⟨w.heap.size + 1 + 1, 3, none⟩ = some (.bool false) := hg_w2.c; have brz3 : w2.frozen? ⟨w.heap.size + 1 + 1, 3, none⟩ = false := hg_w2.z br3))
    all_goals (try go_split_ands)
    all_goals go_wp2
    all_goals
      refine bodyPost_ret (v := .agg #[.int .i64 1, .slice (some ⟨b2, 0, none⟩) k2 cc2, .int .i64 z, .bool false]) (by simp [results, Tryz.results68, go_sem, br0, br1, br2, br3]; rfl) rfl ⟨b2, k2, cc2, ?_, rfl, ?_⟩
      · exact hbig2.st4 br0 br1 br2 br3
      · exact Gb.g

  · go_enter Tryz.func68, Tryz.ntmps68
    go_wp2
    go_region_held3 (fun w' => w'.cell? ⟨w.heap.size, 1, none⟩ = some (.int .i64 1) ∧ w'.cell? ⟨w.heap.size, 2, none⟩ = some (.int .i64 x) ∧ w'.cell? ⟨w.heap.size, 3, none⟩ = some (.int .u64 (G : Nat)) ∧ w'.cell? ⟨w.heap.size + 1, 1, none⟩ = some (.int .i64 0) ∧ w'.cell? ⟨w.heap.size + 1, 2, none⟩ = some (.int .i64 x') ∧ w'.cell? ⟨w.heap.size + 1, 3, none⟩ = some (.int .u64 (G' : Nat)))
      ((go_split_ands; (repeat' apply And.intro) <;> exact kh))
      (first
        | (go_at_call 45; refine (HB.out _ _ (by assumption)).mono ?_; rintro e w1 ⟨b, k, cc, hbig, rfl, hg_w1⟩; have ar0 : w1.cell? ⟨w.heap.size + 1 + 1, 0, none⟩ = some (.int .i64 0) := hg_w1.c; have arz0 : w1.frozen? ⟨w.heap.size + 1 + 1, 0, none⟩ = false := hg_w1.z ar0; have ar1 : w1.cell? ⟨w.heap.size + 1 + 1, 1, none⟩ = some (.slice none 0 0) := hg_w1.c; have arz1 : w1.frozen? ⟨w.heap.size + 1 + 1, 1, none⟩ = false := hg_w1.z ar1; have ar2 : w1.cell? ⟨w.heap.size + 1 + 1, 2, none⟩ = some (.int .i64 0) := hg_w1.c; have arz2 : w1.frozen? ⟨w.heap.size + 1 + 1, 2, none⟩ = false := hg_w1.z ar2; have ar3 : w1.cell? ⟨w.heap.size + 1 + 1, 3, none⟩ = some (.bool false) := hg_w1.c; have arz3 : w1.frozen? ⟨w.heap.size + 1 + 1, 3, none⟩ = false := hg_w1.z ar3)
        | (go_at_call 89; refine (HM.out _ _ _ _ _ (BigN.gb (by assumption) Gb.g) (BigN.gb (by assumption) Gb.g)).mono ?_; rintro e w2 ⟨b2, k2, cc2, hbig2, rfl, hg_w2⟩; have br0 : w2.cell? ⟨w.heap.size + 1 + 1, 0, none⟩ = some (.int .i64 0) := hg_w2.c; have brz0 : w2.frozen? ⟨w.heap.size + 1 + 1, 0, none⟩ = false := hg_w2.z br0; have br1 : w2.cell? ⟨w.heap.size + 1 + 1, 1, none⟩ = some (.slice none 0 0) := hg_w2.c; have brz1 : w2.frozen? ⟨w.heap.size + 1 + 1, 1, none⟩ = false := hg_w2.z br1; have br2 : w2.cell? ⟨w.heap.size + 1 + 1, 2, none⟩ = some (.int .i64 0) := hg_w2.c; have brz2 : w2.frozen? ⟨w.heap.size + 1 + 1, 2, none⟩ = false := hg_w2.z br2; have br3 : w2.cell? ⟨w.heap.size + 1 + 1, 3, none⟩ = some (.bool false) := hg_w2.c; have brz3 : w2.frozen? ⟨w.heap.size + 1 + 1, 3, none⟩ = false := hg_w2.z br3))
    all_goals (try go_split_ands)
    all_goals go_wp2
    all_goals
      refine bodyPost_ret (v := .agg #[.int .i64 1, .slice (some ⟨b2, 0, none⟩) k2 cc2, .int .i64 z, .bool false]) (by simp [results, Tryz.results68, go_sem, br0, br1, br2, br3]; rfl) rfl ⟨b2, k2, cc2, ?_, rfl, ?_⟩
      · exact hbig2.st4 br0 br1 br2 br3
      · exact Gb.g

  · go_enter Tryz.func68, Tryz.ntmps68
    go_wp2
    go_region_held3 (fun w' => w'.cell? ⟨w.heap.size, 1, none⟩ = some (.int .i64 1) ∧ w'.cell? ⟨w.heap.size, 2, none⟩ = some (.int .i64 x) ∧ w'.cell? ⟨w.heap.size, 3, none⟩ = some (.int .u64 (G : Nat)) ∧ w'.cell? ⟨w.heap.size + 1, 1, none⟩ = some (.int .i64 1) ∧ w'.cell? ⟨w.heap.size + 1, 2, none⟩ = some (.int .i64 x') ∧ w'.cell? ⟨w.heap.size + 1, 3, none⟩ = some (.int .u64 (G' : Nat)))
      ((go_split_ands; (repeat' apply And.intro) <;> exact kh))
      (first
        | (go_at_call 45; refine (HB.out _ _ (by assumption)).mono ?_; rintro e w1 ⟨b, k, cc, hbig, rfl, hg_w1⟩; have ar0 : w1.cell? ⟨w.heap.size + 1 + 1, 0, none⟩ = some (.int .i64 0) := hg_w1.c; have arz0 : w1.frozen? ⟨w.heap.size + 1 + 1, 0, none⟩ = false := hg_w1.z ar0; have ar1 : w1.cell? ⟨w.heap.size + 1 + 1, 1, none⟩ = some (.slice none 0 0) := hg_w1.c; have arz1 : w1.frozen? ⟨w.heap.size + 1 + 1, 1, none⟩ = false := hg_w1.z ar1; have ar2 : w1.cell? ⟨w.heap.size + 1 + 1, 2, none⟩ = some (.int .i64 0) := hg_w1.c; have arz2 : w1.frozen? ⟨w.heap.size + 1 + 1, 2, none⟩ = false := hg_w1.z ar2; have ar3 : w1.cell? ⟨w.heap.size + 1 + 1, 3, none⟩ = some (.bool false) := hg_w1.c; have arz3 : w1.frozen? ⟨w.heap.size + 1 + 1, 3, none⟩ = false := hg_w1.z ar3)
        | (go_at_call 89; refine (HM.out _ _ _ _ _ (BigN.gb (by assumption) Gb.g) (BigN.gb (by assumption) Gb.g)).mono ?_; rintro e w2 ⟨b2, k2, cc2, hbig2, rfl, hg_w2⟩; have br0 : w2.cell? ⟨w.heap.size + 1 + 1, 0, none⟩ = some (.int .i64 0) := hg_w2.c; have brz0 : w2.frozen? ⟨w.heap.size + 1 + 1, 0, none⟩ = false := hg_w2.z br0; have br1 : w2.cell? ⟨w.heap.size + 1 + 1, 1, none⟩ = some (.slice none 0 0) := hg_w2.c; have brz1 : w2.frozen? ⟨w.heap.size + 1 + 1, 1, none⟩ = false := hg_w2.z br1; have br2 : w2.cell? ⟨w.heap.size + 1 + 1, 2, none⟩ = some (.int .i64 0) := hg_w2.c; have brz2 : w2.frozen? ⟨w.heap.size + 1 + 1, 2, none⟩ = false := hg_w2.z br2; have br3 : w2.cell? ⟨w.heap.size + 1 + 1, 3, none⟩ = some (.bool false) := hg_w2.c; have brz3 : w2.frozen? ⟨w.heap.size + 1 + 1, 3, none⟩ = false := hg_w2.z br3))
    all_goals (try go_split_ands)
    all_goals go_wp2
    all_goals
      refine bodyPost_ret (v := .agg #[.int .i64 0, .slice (some ⟨b2, 0, none⟩) k2 cc2, .int .i64 z, .bool false]) (by simp [results, Tryz.results68, go_sem, br0, br1, br2, br3]; rfl) rfl ⟨b2, k2, cc2, ?_, rfl, ?_⟩
      · exact hbig2.st4 br0 br1 br2 br3
      · exact Gb.g



end Go.Proofs.YtkflpogmhailhaaGreatDoor
