/- Decay of both sides. -/
import Derived.Test.YtfhbhghifeefeaaDoorT7d
import Derived.Test.YtfhbhghifeefeaaDoorB7
import Derived.Test.YtfhbhghifeefeaaDoorMul
import Derived.Test.YtfhbhghifeefeaaDoorMulI
import Derived.Test.YtfhbhghifeefeaaDoorSpecShift
import Derived.Test.YtfhbhghifeefeaaDoorShiftRI
import Derived.Test.YtfhbhghifeefeaaDoorL2A
import Derived.WalkSmall
set_option linter.unusedVariables false
set_option linter.unusedSimpArgs false
namespace Go.Proofs.YtfhbhghifeefeaaDoor
open Go.RowKit

theorem shrLo_share (a b : Int) : shrLo (a * b / 18446744073709551616) (a * b % 18446744073709551616) (bnd 63).toNat = share a b := by
  have e : (bnd 63).toNat = 63 := by decide
  rw [e]
  unfold shrLo share
  rw [show a * b / 18446744073709551616 * 18446744073709551616 + a * b % 18446744073709551616 = a * b by omega]
  rfl

set_option maxHeartbeats 1000000 in
theorem part_s (a b : Int) (a0 : 0 ≤ a) (a1 : a < 18446744073709551616) (b0 : 0 ≤ b) (b1 : b < 18446744073709551616) (w : World) :
    Calls Tryd.prog 16 #[.int .u64 a, .int .u64 b] w fun e w' => e = .returned (.int .u64 (share a b)) ∧ Gr w w' := by
  obtain ⟨p0, p1⟩ := mul_bounds a b a0 a1 b0 b1
  have e0 := shrLo_share a b
  generalize share a b = s at *
  have H1 : Hid (∀ w, Calls Tryd.prog 21 #[.int .u64 a, .int .u64 b] w fun e w' => e = .returned (.agg #[.int .u64 (a * b / 18446744073709551616), .int .u64 (a * b % 18446744073709551616)]) ∧ Gr w w') := fun w => (specMul_int a b a0 a1 b0 b1 w).mono fun e w' ⟨h, c, hw⟩ => ⟨h, by subst hw; (repeat' (first | (with_reducible assumption) | (with_reducible exact Gr.refl _) | (with_reducible refine Gr.alloc ?_ _ _) | (with_reducible refine Gr.drew ?_) | (with_reducible refine Gr.setCell ?_ ?_ _) | (with_reducible refine Gr.trans ?_ (by with_reducible assumption)) | go_size))⟩
  have H2 : Hid (∀ w, Calls Tryd.prog 20 #[.agg #[.int .u64 (a * b / 18446744073709551616), .int .u64 (a * b % 18446744073709551616)], .int .i64 63] w fun e w' => ∃ x y, e = .returned (.tuple #[.agg #[.int .u64 x, .int .u64 s], .bool y]) ∧ Gr w w') := fun w => (specShr_any _ _ 63 (by omega) (by omega) (by omega) (by omega) w).mono fun e w' ⟨h, c1, c2, hw⟩ => ⟨_, _, h.trans (by rw [e0]), by subst hw; (repeat' (first | (with_reducible assumption) | (with_reducible exact Gr.refl _) | (with_reducible refine Gr.alloc ?_ _ _) | (with_reducible refine Gr.drew ?_) | (with_reducible refine Gr.setCell ?_ ?_ _) | (with_reducible refine Gr.trans ?_ (by with_reducible assumption)) | go_size))⟩
  clear e0
  generalize a * b / 18446744073709551616 = x at *
  generalize a * b % 18446744073709551616 = y at *
  go_enter Tryd.func16, Tryd.ntmps16
  go_wp2_with (first
    | (go_at_call 21; refine (H1.out _).mono ?_; rintro e w1 ⟨rfl, hg_w1⟩)
    | (go_at_call 20; refine (H2.out _).mono ?_; rintro e w2 ⟨x2, y2, rfl, hg_w2⟩))
  go_returns
  exact ⟨rfl, kr⟩

set_option maxHeartbeats 1000000 in
theorem share_i (a b : Int) (a0 : 0 ≤ a) (a1 : a < 18446744073709551616) (b0 : 0 ≤ b) (b1 : b < 18446744073709551616) (w : World) :
    Calls Tryd.prog 17 #[.int .u64 a, .int .u64 b] w fun e w' => e = .returned (.int .u64 (share a b)) ∧ Gr w w' := by
  obtain ⟨p0, p1⟩ := mul_bounds a b a0 a1 b0 b1
  have e0 := shrLo_share a b
  generalize share a b = s at *
  have H1 : Hid (∀ w, Calls Tryd.prog 23 #[.int .u64 a, .int .u64 b] w fun e w' => e = .returned (.agg #[.int .u64 (a * b / 18446744073709551616), .int .u64 (a * b % 18446744073709551616)]) ∧ Gr w w') := mulWide_any a b a0 a1 b0 b1
  have H2 : Hid (∀ w, Calls Tryd.prog 22 #[.agg #[.int .u64 (a * b / 18446744073709551616), .int .u64 (a * b % 18446744073709551616)], .int .i64 63] w fun e w' => ∃ x y, e = .returned (.tuple #[.agg #[.int .u64 x, .int .u64 s], .bool y]) ∧ Gr w w') := fun w => (shiftRight_any _ _ 63 (by omega) (by omega) (by omega) (by omega) w).mono fun e w' ⟨h, hw⟩ => ⟨_, _, h.trans (by rw [e0]), hw⟩
  clear e0
  generalize a * b / 18446744073709551616 = x at *
  generalize a * b % 18446744073709551616 = y at *
  go_enter Tryd.func17, Tryd.ntmps17
  go_wp2_with (first
    | (go_at_call 23; refine (H1.out _).mono ?_; rintro e w1 ⟨rfl, hg_w1⟩)
    | (go_at_call 22; refine (H2.out _).mono ?_; rintro e w2 ⟨x2, y2, rfl, hg_w2⟩))
  go_returns
  exact ⟨rfl, kr⟩

theorem decays_s (w : World) : Calls Tryd.prog 15 #[] w fun e w' => ∃ b, e = .returned (.slice (some ⟨b, 0, none⟩) 38 38) ∧ Gr w w' ∧ ∀ i, i < 38 → w'.cell? ⟨b, i, none⟩ = some (.int .u64 (decayF i)) := by
  go_enter Tryd.func15, Tryd.ntmps15
  go_wp2
  go_returns
  exact ⟨_, rfl, kr, fun i hi => (World.cell?_alloc_new _ _ _ _).trans (decayC_at i hi)⟩

theorem two38 (w : World) : Calls Tryd.prog 14 #[.int .i64 38] w fun e w' => e = .returned (.int .u64 274877906944) ∧ w = w' := l2Two_any 38 _ (by omega) (by decide) w
theorem two63 (w : World) : Calls Tryd.prog 14 #[.int .i64 63] w fun e w' => e = .returned (.int .u64 9223372036854775808) ∧ w = w' := l2Two_any 63 _ (by omega) (by decide) w

theorem half_step (t : Int) (k : Nat) : t / 2 ^ k / 2 = t / 2 ^ (k + 1) := by
  rw [Int.pow_succ, Int.ediv_ediv_of_nonneg (Int.pow_nonneg (by decide))]
theorem pow_le_i {t : Int} (h0 : 0 ≤ t) (h1 : t < 18446744073709551616) (k : Nat) : 0 ≤ t / 2 ^ k ∧ t / 2 ^ k < 18446744073709551616 :=
  ⟨Int.ediv_nonneg h0 (Int.pow_nonneg (by decide)), Int.lt_of_le_of_lt (Int.ediv_le_self _ h0) h1⟩

set_option maxHeartbeats 1000000 in
theorem decay_s (t : Int) (h0 : 0 ≤ t) (h1 : t < 18446744073709551616) (w : World) :
    Calls Tryd.prog 8 #[.int .u64 t] w fun e w' => e = .returned (.int .u64 (decayN t)) ∧ Gr w w' := by
  by_cases hb : t < 274877906944
  · have hn : decayN t = dec t 38 := if_pos hb
    rw [hn]
    have hb' : ¬ 274877906944 ≤ t := by omega
    clear hn
    go_enter Tryd.func8, Tryd.ntmps8
    go_upto_region 3 with (go_at_call 14; refine (two38 _).mono ?_; rintro e w0 ⟨rfl, hw⟩; subst hw)
    go_upto_region 4 with (go_at_call 15; refine (decays_s _).mono ?_; rintro e w1 ⟨b, rfl, hg0, hc0⟩)
    go_wp2_with (go_at_call 14; refine (two63 _).mono ?_; rintro e w0 ⟨rfl, hw⟩; subst hw)
    have hc : Hid _ := hc0
    have hg : Hid (Gr w w1) := hg0
    clear hc0 hg0
    go_loopw [0, 4, 5] (fun x y i wr => ∃ k : Nat, k ≤ 38 ∧ x = .int .u64 (t / 2 ^ k) ∧ y = .int .u64 (dec t k) ∧ i = .int .i64 k ∧ Hid (Gr w1 wr)) (fun _ _ i _ => 38 - (intOf i).toNat)
    case atStart => exact ⟨0, by omega, by rw [Int.pow_zero, Int.ediv_one], rfl, rfl, Gr.refl _⟩
    case round =>
      obtain ⟨k, hk, rfl, rfl, rfl, hr⟩ := hrel
      rename_i wr
      by_cases h : (k : Int) < 38
      · have q := hr.out.old (hc.out k (by omega))
        obtain ⟨t0, t1⟩ := decayF_in k
        obtain ⟨d0, d1⟩ := dec_in t k
        obtain ⟨x0, x1⟩ := pow_le_i h0 h1 k
        have HS : Hid (dec t (k + 1) = if t / 2 ^ k % 2 = 1 then share (dec t k) (decayF k) else dec t k) := rfl
        have HX : Hid (t / 2 ^ k / 2 = t / 2 ^ (k + 1)) := half_step t k
        have HY : Hid (∀ w, Calls Tryd.prog 16 #[.int .u64 (dec t k), .int .u64 (decayF k)] w fun e w' => e = .returned (.int .u64 (share (dec t k) (decayF k))) ∧ Gr w w') := part_s _ _ d0 (by omega) t0 (by omega)
        generalize t / 2 ^ k = x at *
        generalize share (dec t k) (decayF k) = z at *
        generalize dec t k = y at *
        generalize decayF k = f at *
        by_cases hb : x % 2 = 1
        · go_wp2_with (go_at_call 16; refine (HY.out _).mono ?_; rintro e w2 ⟨rfl, hg_w2⟩)
          go_roundw
          case rel => exact ⟨k + 1, by omega, by rw [← HX.out], by rw [HS.out, if_pos hb], by go_num, hr.out.trans hg_w2⟩
          case measure => simp [intOf]; omega
        · have hb2 : x % 2 = 0 := by omega
          have HB : Hid (¬ x % 2 = 1) := hb
          clear hb
          go_wp2
          go_roundw
          case rel => exact ⟨k + 1, by omega, by rw [← HX.out], by rw [HS.out, if_neg HB.out], by go_num, hr⟩
          case measure => simp [intOf]; omega
      · obtain rfl : k = 38 := by omega
        go_wp2
        go_returns
        exact ⟨rfl, hg.out.trans hr.out⟩
  · have hn : decayN t = 0 := if_neg hb
    rw [hn]
    have hb' : 274877906944 ≤ t := by omega
    clear hn hb
    go_enter Tryd.func8, Tryd.ntmps8
    go_wp2_with (go_at_call 14; refine (two38 _).mono ?_; rintro e w0 ⟨rfl, hw⟩; subst hw)
    go_returns
    exact ⟨rfl, Gr.refl _⟩

set_option maxHeartbeats 1000000 in
theorem decay_i (t : Int) (h0 : 0 ≤ t) (h1 : t < 18446744073709551616) {w : World} (hT : Dc w) :
    Calls Tryd.prog 9 #[.int .u64 t] w fun e w' => e = .returned (.int .u64 (decayN t)) ∧ Gr w w' := by
  have hsh : t / 2 ^ 38 = t / 274877906944 := rfl
  by_cases hb : t < 274877906944
  · have hn : decayN t = dec t 38 := if_pos hb
    rw [hn]
    have hb' : t / 274877906944 = 0 := by omega
    clear hn
    obtain ⟨tt, fr, hg⟩ := hT
    have hc : Hid (∀ i, i < 38 → decayC[i]? = some (.int .u64 (decayF i))) := decayC_at
    have hz : decayC.size = 38 := rfl
    generalize decayC = cs at *
    go_enter Tryd.func9, Tryd.ntmps9
    go_wp2_with (refine wpList_load_row rfl 35 _ rfl 1 rfl tt cs fr _ hg Tryd.underlying35 rfl (by rw [hz]; kernel_rfl) ?_)
    go_loopw [3, 10] (fun y i wr => ∃ k : Nat, k ≤ 38 ∧ y = .int .u64 (dec t k) ∧ i = .int .i64 k ∧ Hid (Gr w wr)) (fun _ i _ => 38 - (intOf i).toNat)
    case atStart => exact ⟨0, by omega, rfl, rfl, Gr.refl _⟩
    case round =>
      obtain ⟨k, hk, rfl, rfl, hr⟩ := hrel
      rename_i wr
      by_cases h : (k : Int) < 38
      · have q := index_row Tryd.underlying35 (show k < 38 by omega) (hc.out k (by omega)) wr
        obtain ⟨t0, t1⟩ := decayF_in k
        obtain ⟨d0, d1⟩ := dec_in t k
        obtain ⟨x0, x1⟩ := pow_le_i h0 h1 k
        have hand := and_one_u64 (t / 2 ^ k) x0 (by omega)
        have HS : Hid (dec t (k + 1) = if t / 2 ^ k % 2 = 1 then share (dec t k) (decayF k) else dec t k) := rfl
        have HY : Hid (∀ w, Calls Tryd.prog 17 #[.int .u64 (dec t k), .int .u64 (decayF k)] w fun e w' => e = .returned (.int .u64 (share (dec t k) (decayF k))) ∧ Gr w w') := share_i _ _ d0 (by omega) t0 (by omega)
        generalize share (dec t k) (decayF k) = z at *
        generalize dec t k = y at *
        generalize decayF k = f at *
        by_cases hb : t / 2 ^ k % 2 = 1
        · go_wp2_with (go_at_call 17; refine (HY.out _).mono ?_; rintro e w2 ⟨rfl, hg_w2⟩)
          go_roundw
          case rel => exact ⟨k + 1, by omega, by rw [HS.out, if_pos hb], by go_num, hr.out.trans hg_w2⟩
          case measure => simp [intOf]; omega
        · have hb2 : t / 2 ^ k % 2 = 0 := by omega
          have HB : Hid (¬ t / 2 ^ k % 2 = 1) := hb
          clear hb
          go_wp2
          go_roundw
          case rel => exact ⟨k + 1, by omega, by rw [HS.out, if_neg HB.out], by go_num, hr⟩
          case measure => simp [intOf]; omega
      · obtain rfl : k = 38 := by omega
        go_wp2
        go_returns
        exact ⟨rfl, hr.out⟩
  · have hn : decayN t = 0 := if_neg hb
    rw [hn]
    have hb' : (t / 274877906944 == 0) = false := by simp; omega
    clear hn
    go_enter Tryd.func9, Tryd.ntmps9
    go_wp2
    go_returns
    exact ⟨rfl, Gr.refl _⟩

set_option maxHeartbeats 1000000 in
theorem lawDecay (t : Int) (h0 : 0 ≤ t) (h1 : t < 18446744073709551616) {w : World} (hT : Dc w) :
    Calls Tryd.prog 4 #[.int .u64 t] w fun e w' => e = .returned (.bool true) ∧ Below w.heap.size w w' := by
  have HT : Hid (Dc w) := hT
  clear hT
  go_enter Tryd.func4, Tryd.ntmps4
  go_wp2_with (first
    | (go_at_call 8; refine (decay_s t h0 h1 _).mono ?_; rintro e w1 ⟨rfl, hg_w1⟩)
    | (go_at_call 9; refine (decay_i t h0 h1 (HT.out.below hg_w1.below)).mono ?_; rintro e w2 ⟨rfl, hg_w2⟩))
  go_returns
  exact ⟨rfl, (hg_w1.trans hg_w2).below⟩
end Go.Proofs.YtfhbhghifeefeaaDoor
