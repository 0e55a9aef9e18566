/- laws.FnExactUnpack. -/
import Derived.Test.YtoaggnpcmieeaaaDoorF2E
set_option linter.unusedVariables false
set_option linter.unusedSimpArgs false
namespace Go.Proofs.YtoaggnpcmieeaaaDoor
open Go.RowKit

set_option maxHeartbeats 1000000 in
theorem eqParts_same (c s x g : Int) (w : World) :
    Calls Tryd.prog 9 #[.agg #[.int .i64 c, .int .i64 s, .int .i64 x, .int .u64 g], .agg #[.int .i64 c, .int .i64 s, .int .i64 x, .int .u64 g]] w fun e w' => e = .returned (.bool true) ∧ Gr w w' := by
  go_enter Tryd.func9, Tryd.ntmps9
  go_wp2
  go_returns
  exact ⟨rfl, kr⟩

set_option maxRecDepth 100000 in
set_option maxHeartbeats 1000000 in
theorem lawUnpack (f W : Int) (f0 : -9223372036854775808 ≤ f) (f1 : f < 9223372036854775808) (h0 : 0 ≤ W) (h1 : W < 18446744073709551616) {w : World} (hw : Fm w) :
    Calls Tryd.prog 3 #[.int .i64 f, .int .u64 W] w fun e w' => e = .returned (.bool true) ∧ Gr w w' := by
  have H : Hid (∃ c s x g : Int, (∀ w, Calls Tryd.prog 7 #[.int .i64 f, .int .u64 W] w fun e w' => e = .returned (.agg #[.int .i64 c, .int .i64 s, .int .i64 x, .int .u64 g]) ∧ Gr w w') ∧
      (∀ w, Fm w → Calls Tryd.prog 8 #[.int .i64 f, .int .u64 W] w fun e w' => e = .returned (.agg #[.int .i64 c, .int .i64 s, .int .i64 x, .int .u64 g]) ∧ Gr w w')) := by
    rcases fit_or f W h0 h1 with ⟨p, mx, one, inf, sg, nan, hf, hW⟩ | hno
    · obtain ⟨c, s, x, g, hu⟩ := unpack_is hf W h0 hW
      refine ⟨c, s, x, g, fun w => (specUnpack_fit hf W h0 hW w).mono ?_, fun w hw => (implUnpack_fit hf W h0 hW hw).mono ?_⟩
      all_goals
        rintro e w' ⟨c', s', x', g', hu', rfl, hg⟩
        obtain ⟨rfl, rfl, rfl, rfl⟩ := UnpackIs.one hf hu hu'
        exact ⟨rfl, hg⟩
    · refine ⟨4, 0, 0, 0, fun w => specUnpack_no f W h0 hno w, fun w hw => ?_⟩
      rcases hno with hno | ⟨rfl, hno⟩
      · exact implUnpack_none f W hno w
      · exact implUnpack_wide W hno h1 hw
  obtain ⟨c, s, x, g, HA, HB⟩ := H.out
  have HS : Hid (∀ w, Calls Tryd.prog 7 #[.int .i64 f, .int .u64 W] w fun e w' => e = .returned (.agg #[.int .i64 c, .int .i64 s, .int .i64 x, .int .u64 g]) ∧ Gr w w') := HA
  have HI : Hid (∀ w', Gr w w' → Calls Tryd.prog 8 #[.int .i64 f, .int .u64 W] w' fun e w'' => e = .returned (.agg #[.int .i64 c, .int .i64 s, .int .i64 x, .int .u64 g]) ∧ Gr w' w'') := fun w' hg => HB w' (hw.gr hg)
  clear H HA HB hw
  go_enter Tryd.func3, Tryd.ntmps3
  go_wp2_with (first
    | (go_at_call 7; refine (HS.out _).mono ?_; rintro e w2 ⟨rfl, hg_w2⟩; have hc_w2 := hg_w2.cells; have hf_w2 := hg_w2.frozens; have hz_w2 := hg_w2.size; (try simp only [World.size_alloc, World.size_drew, World.size_setCell] at hz_w2))
    | (go_at_call 8; refine (HI.out _ kr).mono ?_; rintro e w3 ⟨rfl, hg_w3⟩; have q0 : w3.cell? ⟨w2.heap.size, 0, none⟩ = some (.int .i64 c) := kl; have q1 : w3.cell? ⟨w2.heap.size, 1, none⟩ = some (.int .i64 s) := kl; have q2 : w3.cell? ⟨w2.heap.size, 2, none⟩ = some (.int .i64 x) := kl; have q3 : w3.cell? ⟨w2.heap.size, 3, none⟩ = some (.int .u64 g) := kl; have Q0 := (fun ob => cell_alloc ob q0); have Q1 := (fun ob => cell_alloc ob q1); have Q2 := (fun ob => cell_alloc ob q2); have Q3 := (fun ob => cell_alloc ob q3))
    | (go_at_call 9; refine (eqParts_same c s x g _).mono ?_; rintro e w4 ⟨rfl, hg_w4⟩))
  go_returns
  exact ⟨rfl, kr⟩

theorem lawUnpackB (f W : Int) (f0 : -9223372036854775808 ≤ f) (f1 : f < 9223372036854775808) (h0 : 0 ≤ W) (h1 : W < 18446744073709551616) {w : World} (hw : Fm w) :
    Calls Tryd.prog 3 #[.int .i64 f, .int .u64 W] w fun e w' => e = .returned (.bool true) ∧ Gb w w' :=
  (lawUnpack f W f0 f1 h0 h1 hw).mono fun e w' h => ⟨h.1, h.2.gb⟩
end Go.Proofs.YtoaggnpcmieeaaaDoor
