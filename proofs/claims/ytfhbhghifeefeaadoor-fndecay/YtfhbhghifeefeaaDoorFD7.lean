/- laws.FnDecay. -/
import Derived.Test.YtfhbhghifeefeaaDoorQ7
import Derived.Deep.RegionHeld3
set_option linter.unusedVariables false
set_option linter.unusedSimpArgs false
namespace Go.Proofs.YtfhbhghifeefeaaDoor
open Go.RowKit

theorem bases_fall (u v : Int) : (v ≤ u → baseN u ≤ baseN v) := fun h => above_anti tailF h 18

set_option maxRecDepth 100000 in
set_option maxHeartbeats 4000000 in
theorem lawFnDecay (a b : Option Addr) (la ca lb cb : Nat) (w : World) (hA : CodeRow w a la) (hB : CodeRow w b lb) (hT : Tl w) (hD : Dc w) :
    Calls Tryd.prog 5 #[.slice a la ca, .slice b lb cb] w fun e w' => e = .returned (.bool true) ∧ Below w.heap.size w w' := by
  have fa := hA.few
  have fb := hB.few
  have g1 : ¬ (1048576 : Int) < la := by omega
  have g2 : ¬ (1048576 : Int) < lb := by omega
  have HA : Hid (∀ w', Gr w w' → CodeRow w' a la) := fun w' hg => hA.gr hg
  have HB : Hid (∀ w', Gr w w' → CodeRow w' b lb) := fun w' hg => hB.gr hg
  have HT : Hid (∀ w', Gr w w' → Tl w') := fun w' hg => hT.below hg.below
  have HD : Hid (∀ w', Gr w w' → Dc w') := fun w' hg => hD.below hg.below
  obtain ⟨z, z0, z1, hz⟩ := pick0 b lb cb w hB
  have HP : Hid _ := hz
  clear hA hB hT hD hz
  go_enter Tryd.func5, Tryd.ntmps5
  go_upto_region 4 with (go_at_call 10; refine (drawBase_any a la ca _ (HA.out _ (Gr.refl _))).mono ?_; rintro e w1 ⟨u, u0, u1, rfl, hg_w1⟩)
  go_upto_region 5 with (go_at_call 10; refine (drawBase_any b lb cb _ (HB.out _ hg_w1)).mono ?_; rintro e w2 ⟨v, v0, v1, rfl, hg_w2⟩)
  have G2 : Hid (Gr w w2) := hg_w1.trans hg_w2
  clear hg_w1 hg_w2
  go_upto_region 6 with (go_at_call 7; refine (base_i u u0 u1 (HT.out _ G2.out)).mono ?_; rintro e w3 ⟨rfl, hw⟩; subst hw)
  go_upto_region 7 with (go_at_call 7; refine (base_i v v0 v1 (HT.out _ G2.out)).mono ?_; rintro e w3 ⟨rfl, hw⟩; subst hw)
  have n1 := baseN_le u
  have n2 := baseN_le v
  rcases (show (u < v ∧ ¬ v < u ∧ ¬ (baseN u : Int) < baseN v) ∨ (v < u ∧ ¬ u < v ∧ ¬ (baseN v : Int) < baseN u) ∨ (¬ u < v ∧ ¬ v < u) by
    rcases (show u < v ∨ v < u ∨ u = v by omega) with h | h | h
    · have := bases_fall v u (by omega)
      exact .inl ⟨h, by omega, by omega⟩
    · have := bases_fall u v (by omega)
      exact .inr (.inl ⟨h, by omega, by omega⟩)
    · exact .inr (.inr ⟨by omega, by omega⟩)) with ⟨c1, c2, c3⟩ | ⟨c1, c2, c3⟩ | ⟨c1, c2⟩
  all_goals
    go_upto_region 9 with (go_at_call 6; refine (base_s _ (by assumption) (by assumption) _).mono ?_; rintro e w3 ⟨rfl, hg_w3⟩)
  all_goals
    have G3 : Hid (Gr w w3) := (show Gr w w3 from (by have := G2.out; (repeat' (first | (with_reducible assumption) | (with_reducible exact Gr.refl _) | (with_reducible refine Gr.alloc ?_ _ _) | (with_reducible refine Gr.drew ?_) | (with_reducible refine Gr.setCell ?_ ?_ _) | (with_reducible refine Gr.trans ?_ (by with_reducible assumption)) | go_size))))
    clear c1 c2 n1 n2
    clear hg_w3
    go_upto_region 10 with (go_at_call 11; refine (drawDecay_any a la ca _ (HA.out _ G3.out)).mono ?_; rintro e w4 ⟨t, t0, t1, rfl, hg_w4⟩)
    have G4 : Hid (Gr w w4) := G3.out.trans hg_w4
    clear hg_w4
    go_upto_region 11 with (go_at_call 9; refine (decay_i t t0 t1 (HD.out _ G4.out)).mono ?_; rintro e w5 ⟨rfl, hg_w5⟩)
    have G5 : Hid (Gr w w5) := G4.out.trans hg_w5
    clear hg_w5
    go_upto_region 13 with (go_at_call 8; refine (decay_s t t0 t1 _).mono ?_; rintro e w6 ⟨rfl, hg_w6⟩)
    have G6 : Hid (Gr w w6) := G5.out.trans hg_w6
    clear hg_w6
    go_wp2
    go_loop [11, 12] (fun p i => ∃ j : Nat, (j : Int) ≤ z % 38 ∧ p = .int .u64 (2 ^ j) ∧ i = .int .i64 j) (fun _ i => 38 - (intOf i).toNat)
    case atStart => exact ⟨0, by omega, rfl, rfl⟩
    case round =>
      obtain ⟨j, hj, rfl, rfl⟩ := hrel
      by_cases h : (j : Int) < z % 38
      · obtain ⟨P, hP⟩ : ∃ P : Int, 2 ^ j = P := ⟨_, rfl⟩
        have hP1 : Hid ((2 : Int) ^ (j + 1) = P * 2) := by show _ = _; rw [Int.pow_succ, hP]
        have hP2 : 0 ≤ P ∧ P < 274877906944 := by
          rw [← hP]
          refine ⟨Int.pow_nonneg (by decide), ?_⟩
          have := Nat.pow_lt_pow_right (show 1 < 2 by decide) (show j < 38 by omega)
          have e : ((2 ^ j : Nat) : Int) = (2 : Int) ^ j := by push_cast; rfl
          omega
        rw [hP]
        clear hP
        go_wp2_with (go_at_call 12; refine (HP.out _ G6.out).mono ?_; rintro e w7 ⟨rfl, hw⟩; subst hw)
        go_round
        case rel => exact ⟨j + 1, by omega, by rw [hP1.out], by go_num⟩
        case measure => simp [intOf]; omega
      · have O := or_bit t0 t1 j (by omega)
        generalize (2 : Int) ^ j = P at *
        obtain ⟨x, hx⟩ : ∃ x, bits .or .u64 t P = x := ⟨_, rfl⟩
        rw [hx] at O
        obtain ⟨o0, o1, o2⟩ := O
        have HX : Hid (∀ w', Gr w w' → Calls Tryd.prog 9 #[.int .u64 x] w' fun e w'' => e = .returned (.int .u64 (decayN x)) ∧ Gr w' w'') := fun w' hg => decay_i _ o0 o1 (HD.out _ hg)
        by_cases ht : 274877906944 ≤ t
        · clear o2 HX hx
          go_wp2_with (go_at_call 12; refine (HP.out _ G6.out).mono ?_; rintro e w7 ⟨rfl, hw⟩; subst hw)
          go_returns
          exact ⟨rfl, G6.out.below⟩
        · have o3 := (o2 (by omega)).2
          have d0 := decayN_in t
          have d1 := decayN_in x
          generalize decayN x = y at *
          generalize decayN t = y' at *
          clear o2
          go_upto_region 18 with (go_at_call 12; refine (HP.out _ G6.out).mono ?_; rintro e w7 ⟨rfl, hw⟩; subst hw)
          go_wp2_with (go_at_call 9; refine (HX.out _ G6.out).mono ?_; rintro e w8 ⟨rfl, hg_w8⟩)
          go_returns
          exact ⟨rfl, (G6.out.trans hg_w8).below⟩
end Go.Proofs.YtfhbhghifeefeaaDoor
