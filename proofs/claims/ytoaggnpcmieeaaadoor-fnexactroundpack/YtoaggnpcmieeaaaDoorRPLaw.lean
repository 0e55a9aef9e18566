/- laws.FnExactRoundPack. -/
import Derived.Test.YtoaggnpcmieeaaaDoorRPSame
import Derived.Test.YtoaggnpcmieeaaaDoorA2
set_option linter.unusedVariables false
set_option linter.unusedSimpArgs false
namespace Go.Proofs.YtoaggnpcmieeaaaDoor
open Go.RowKit

theorem toWide_gr (a0 a1 : Int) (w : World) :
    Calls Tryd.prog 13 #[.agg #[.int .u64 a0, .int .u64 a1]] w fun e w' => e = .returned (.agg #[.int .u64 a0, .int .u64 a1]) ∧ Gr w w' := by
  go_enter Tryd.func13, Tryd.ntmps13
  go_wp2
  go_returns
  exact ⟨rfl, kr⟩
set_option maxRecDepth 100000 in
set_option maxHeartbeats 2000000 in
theorem lawRP (f mode sign exp mh ml : Int) (sticky : Bool) (f0 : -9223372036854775808 ≤ f) (f1 : f < 9223372036854775808) (m0 : -9223372036854775808 ≤ mode) (m1 : mode < 9223372036854775808) (s0 : -9223372036854775808 ≤ sign) (s1 : sign < 9223372036854775808) (e0 : -9223372036854775808 ≤ exp) (e1 : exp < 9223372036854775808) (h0 : 0 ≤ mh) (h1 : mh < 18446744073709551616) (l0 : 0 ≤ ml) (l1 : ml < 18446744073709551616) {w : World} (hw : Fm w) :
    Calls Tryd.prog 5 #[.int .i64 f, .int .i64 mode, .int .i64 sign, .int .i64 exp, .agg #[.int .u64 mh, .int .u64 ml], .bool sticky] w fun e w' => e = .returned (.bool true) ∧ Gb w w' := by
  obtain ⟨h, rfl⟩ := Int.eq_ofNat_of_zero_le h0
  obtain ⟨l, rfl⟩ := Int.eq_ofNat_of_zero_le l0
  obtain ⟨z, fl, HA, HB⟩ := rp_same f mode sign exp h l sticky (by omega) (by omega)
  generalize ((h : Nat) : Int) = mh at *
  generalize ((l : Nat) : Int) = ml at *
  have HS : Hid (∀ w, Calls Tryd.prog 12 #[.int .i64 f, .int .i64 mode, .int .i64 sign, .int .i64 exp, .agg #[.int .u64 mh, .int .u64 ml], .bool sticky] w fun x w' => x = .returned (.agg #[.int .u64 z, .int .i64 fl]) ∧ Gb w w') := HA
  have HI : Hid (∀ w', Gb w w' → Calls Tryd.prog 14 #[.int .i64 f, .int .i64 mode, .int .i64 sign, .int .i64 exp, .agg #[.int .u64 mh, .int .u64 ml], .bool sticky] w' fun x w'' => x = .returned (.agg #[.int .u64 z, .int .i64 fl]) ∧ Gr w' w'') := fun w' hg => HB w' (hw.gb hg)
  clear HA HB hw
  go_enter Tryd.func5, Tryd.ntmps5
  go_wp2_with (first
    | (go_at_call 13; refine (toWide_gr _ _ _).mono ?_; rintro x wt ⟨rfl, hg_wt⟩; (try (have ts0 : wt.cell? ⟨w2.heap.size, 0, none⟩ = some (.int .u64 z) := kb; have ts1 : wt.cell? ⟨w2.heap.size, 1, none⟩ = some (.int .i64 fl) := kb)))
    | (go_at_call 12; refine (HS.out _).mono ?_; rintro x w2 ⟨rfl, hg_w2⟩; have q0 : w2.cell? ⟨w.heap.size, 0, none⟩ = some (.int .u64 mh) := kb; have q1 : w2.cell? ⟨w.heap.size, 1, none⟩ = some (.int .u64 ml) := kb; have Q0 := (fun ob => cell_alloc ob q0); have Q1 := (fun ob => cell_alloc ob q1))
    | (go_at_call 14; refine (HI.out _ kg).mono ?_; rintro x w3 ⟨rfl, hg_w3⟩; have r0 : w3.cell? ⟨w2.heap.size, 0, none⟩ = some (.int .u64 z) := kb; have r1 : w3.cell? ⟨w2.heap.size, 1, none⟩ = some (.int .i64 fl) := kb; have R0 := (fun ob => cell_alloc ob r0); have R1 := (fun ob => cell_alloc ob r1))
    | (go_at_call 15; refine (eqResult_same z fl _).mono ?_; rintro x w4 ⟨rfl, hg_w4⟩))
  go_returns
  exact ⟨rfl, kg⟩
end Go.Proofs.YtoaggnpcmieeaaaDoor
