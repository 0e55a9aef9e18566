/- Base of both sides. -/
import Derived.Test.YtfhbhghifeefeaaDoorT7
set_option linter.unusedVariables false
set_option linter.unusedSimpArgs false
namespace Go.Proofs.YtfhbhghifeefeaaDoor
open Go.RowKit

theorem shares_s (w : World) : Calls Tryd.prog 13 #[] w fun e w' => ∃ b, e = .returned (.slice (some ⟨b, 0, none⟩) 18 18) ∧ Gr w w' ∧ ∀ i, i < 18 → w'.cell? ⟨b, i, none⟩ = some (.int .u64 (tailF i)) := by
  go_enter Tryd.func13, Tryd.ntmps13
  go_wp2
  go_returns
  exact ⟨_, rfl, kr, fun i hi => (World.cell?_alloc_new _ _ _ _).trans (tailC_at i hi)⟩
/-- An element of an array that is a value. -/
theorem index_row {t : TypeId} {n : Nat} (h : Tryd.prog.underlying t = some (.array n 22)) {cs : Array Value} {k : Nat} {v : Value} (hk : k < n) (hv : cs[k]? = some v) (w : World) : (Instr.index t (.agg cs) (.int .i64 k)).run Tryd.prog w = .ok v w := by
  have hk' : (k : Int) < n := by omega
  simp [Instr.index, run_underlying h, asIntOf, hk, hk', hv, go_sem]

set_option maxHeartbeats 1000000 in
theorem base_s (u : Int) (h0 : 0 ≤ u) (h1 : u < 18446744073709551616) (w : World) :
    Calls Tryd.prog 6 #[.int .u64 u] w fun e w' => e = .returned (.int .i64 (baseN u : Nat)) ∧ Gr w w' := by
  go_enter Tryd.func6, Tryd.ntmps6
  go_wp2_with (go_at_call 13; refine (shares_s _).mono ?_; rintro e w1 ⟨b, rfl, hg0, hc0⟩)
  have hc : Hid _ := hc0
  have hg : Hid (Gr w w1) := hg0
  clear hc0 hg0
  go_loop [4, 5] (fun n i => ∃ k : Nat, k ≤ 18 ∧ n = .int .i64 (above tailF u k : Nat) ∧ i = .int .i64 k) (fun _ i => 18 - (intOf i).toNat)
  case atStart => exact ⟨0, by omega, rfl, rfl⟩
  case round =>
    obtain ⟨k, hk, rfl, rfl⟩ := hrel
    have ha := above_le tailF u k
    obtain ⟨n, hn⟩ : ∃ n, above tailF u k = n := ⟨_, rfl⟩
    rw [hn] at ha ⊢
    by_cases h : (k : Int) < 18
    · have q := hc.out k (by omega)
      obtain ⟨t0, t1⟩ := tailF_in k
      have hs : above tailF u (k + 1) = n + if u < tailF k then 1 else 0 := by rw [← hn]; rfl
      have HS : Hid _ := hs
      clear hs
      generalize tailF k = t at *
      by_cases hb : u < t
      · go_wp2
        go_round
        case rel => exact ⟨k + 1, by omega, by rw [HS.out, if_pos hb]; go_num, by go_num⟩
        case measure => simp [intOf]; omega
      · go_wp2
        go_round
        case rel => exact ⟨k + 1, by omega, by rw [HS.out, if_neg hb]; go_num, by go_num⟩
        case measure => simp [intOf]; omega
    · obtain rfl : k = 18 := by omega
      go_wp2
      go_returns
      exact ⟨by rw [← hn]; rfl, hg.out⟩

set_option maxHeartbeats 1000000 in
theorem base_i (u : Int) (h0 : 0 ≤ u) (h1 : u < 18446744073709551616) {w : World} (hT : Tl w) :
    Calls Tryd.prog 7 #[.int .u64 u] w fun e w' => e = .returned (.int .i64 (baseN u : Nat)) ∧ w = w' := by
  obtain ⟨t, fr, hg⟩ := hT
  have hc : Hid (∀ i, i < 18 → tailC[i]? = some (.int .u64 (tailF i))) := tailC_at
  have hz : tailC.size = 18 := rfl
  generalize tailC = cs at *
  go_enter Tryd.func7, Tryd.ntmps7
  go_wp2_with (refine wpList_load_row rfl 32 _ rfl 0 rfl t cs fr _ hg Tryd.underlying32 rfl (by rw [hz]; kernel_rfl) ?_)
  go_loop [3, 7] (fun n i => ∃ k : Nat, k ≤ 18 ∧ n = .int .i64 (above tailF u k : Nat) ∧ i = .int .i64 k) (fun _ i => 18 - (intOf i).toNat)
  case atStart => exact ⟨0, by omega, rfl, rfl⟩
  case round =>
    obtain ⟨k, hk, rfl, rfl⟩ := hrel
    have ha := above_le tailF u k
    obtain ⟨n, hn⟩ : ∃ n, above tailF u k = n := ⟨_, rfl⟩
    rw [hn] at ha ⊢
    by_cases h : (k : Int) < 18
    · have q := index_row Tryd.underlying32 (show k < 18 by omega) (hc.out k (by omega)) w
      obtain ⟨t0, t1⟩ := tailF_in k
      have hs : above tailF u (k + 1) = n + if u < tailF k then 1 else 0 := by rw [← hn]; rfl
      have HS : Hid _ := hs
      clear hs
      generalize tailF k = t at *
      by_cases hb : u < t
      · go_wp2
        go_round
        case rel => exact ⟨k + 1, by omega, by rw [HS.out, if_pos hb]; go_num, by go_num⟩
        case measure => simp [intOf]; omega
      · go_wp2
        go_round
        case rel => exact ⟨k + 1, by omega, by rw [HS.out, if_neg hb]; go_num, by go_num⟩
        case measure => simp [intOf]; omega
    · obtain rfl : k = 18 := by omega
      go_wp2
      go_returns
      exact ⟨by rw [← hn]; rfl, rfl⟩

set_option maxHeartbeats 1000000 in
theorem lawBase (u : Int) (h0 : 0 ≤ u) (h1 : u < 18446744073709551616) {w : World} (hT : Tl w) :
    Calls Tryd.prog 3 #[.int .u64 u] w fun e w' => e = .returned (.bool true) ∧ Below w.heap.size w w' := by
  have HT : Hid (Tl w) := hT
  clear hT
  go_enter Tryd.func3, Tryd.ntmps3
  go_wp2_with (first
    | (go_at_call 6; refine (base_s u h0 h1 _).mono ?_; rintro e w1 ⟨rfl, hg_w1⟩)
    | (go_at_call 7; refine (base_i u h0 h1 (HT.out.below hg_w1.below)).mono ?_; rintro e w2 ⟨rfl, hw2⟩; subst hw2))
  go_returns
  exact ⟨rfl, hg_w1.below⟩
end Go.Proofs.YtfhbhghifeefeaaDoor
