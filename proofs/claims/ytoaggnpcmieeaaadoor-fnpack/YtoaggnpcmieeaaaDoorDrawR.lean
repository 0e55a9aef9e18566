/- spec.DrawRoundPack: some parts. -/
import Derived.Test.YtoaggnpcmieeaaaDoorDrawR1
import Derived.Test.YtoaggnpcmieeaaaDoorDrawR2
import Derived.Test.YtoaggnpcmieeaaaDoorDrawR3
import Derived.Test.YtoaggnpcmieeaaaDoorDrawR4
import Derived.Test.YtoaggnpcmieeaaaDoorDrawR5
set_option linter.unusedVariables false
set_option linter.unusedSimpArgs false
namespace Go.Proofs.YtoaggnpcmieeaaaDoor
open Go.RowKit

set_option maxHeartbeats 1000000 in
/-- As take_out; the number hangs on the two bytes alone. -/
theorem take_outU (b off len cap : Nat) (k : Nat) (n z y : Int) (hlen : len ≤ 1048576) (hl : 0 < len) (hk : len ≤ k) (hk1 : k ≤ 1000) (hn0 : 0 < n) (hn1 : n ≤ 256) (z0 : 0 ≤ z) (z1 : z ≤ 255) (y0 : 0 ≤ y) (y1 : y ≤ 255) :
    ∃ x : Int, 0 ≤ x ∧ x < n ∧ ∀ w : World, w.cell? ⟨b, off + k % len, none⟩ = some (.int .u8 z) → w.cell? ⟨b, off + (k * 7 + 3) % len, none⟩ = some (.int .u8 y) →
    Calls Tryd.prog 46 #[.slice (some ⟨b, off, none⟩) len cap, .int .i64 k, .int .i64 n] w fun e w' => e = .returned (.tuple #[.int .i64 x, .int .i64 (k + 1)]) ∧ w = w' := by
  have e0 : ((len : Int) == 0) = false := by simp; omega
  have e1 : ¬ (k : Int) < (len : Int) := by omega
  have m1 : (k : Int).tmod (len : Int) = ((k % len : Nat) : Int) := by rw [Int.tmod_eq_emod_of_nonneg (by omega)]; rfl
  have m2 : ((k : Int) * 7 + 3).tmod (len : Int) = (((k * 7 + 3) % len : Nat) : Int) := by rw [Int.tmod_eq_emod_of_nonneg (by omega)]; rfl
  have b1 := Nat.mod_lt k hl
  have b2 := Nat.mod_lt (k * 7 + 3) hl
  have m3 := Int.emod_nonneg ((k : Int) * 7 + 3) (show (len : Int) ≠ 0 by omega)
  have m4 := Int.emod_lt_of_pos ((k : Int) * 7 + 3) (show (0 : Int) < len by omega)
  have d0 : 0 ≤ (k : Int) / (len : Int) := Int.ediv_nonneg (by omega) (by omega)
  have d1 : (k : Int) / (len : Int) ≤ 1000 := by have := Int.ediv_le_self (len : Int) (show (0 : Int) ≤ k by omega); omega
  obtain ⟨X, hX⟩ : ∃ X, z * 131 + y * 1117 + (k : Int) * 29 + (k : Int) / (len : Int) * 53 = X := ⟨_, rfl⟩
  have X0 : 0 ≤ X := by omega
  have X1 : X < 4294967296 := by omega
  have HB : Hid (0 ≤ bits .xor .i64 X (X / 64)) := by
    obtain ⟨N, rfl⟩ := Int.eq_ofNat_of_zero_le X0
    have : ((N : Int) / 64) = ((N / 64 : Nat) : Int) := by omega
    rw [this]; exact xor_i64 N (N / 64) (by omega) (by omega)
  obtain ⟨t0, t1⟩ := tmod_small _ n HB.out hn0
  refine ⟨_, t0, t1, fun w hz hy => ?_⟩
  clear t0 t1
  go_enter Tryd.func46, Tryd.ntmps46
  go_wp2
  go_returns
  exact ⟨rfl, rfl⟩

/-- spec.l1Take: the number is the same in every world that keeps the old blocks. -/
theorem take_all (a : Option Addr) (len cap k : Nat) (n : Int) (w : World) (hC : CodeRow w a len) (hk1 : k ≤ 1000) (hn0 : 0 < n) (hn1 : n ≤ 256) :
    ∃ x : Int, 0 ≤ x ∧ x < n ∧ ∀ w1, Gr w w1 → Calls Tryd.prog 46 #[.slice a len cap, .int .i64 k, .int .i64 n] w1 fun e w' => e = .returned (.tuple #[.int .i64 x, .int .i64 ((k + 1 : Nat) : Int)]) ∧ w1 = w' := by
  have ek : ((k + 1 : Nat) : Int) = (k : Int) + 1 := by omega
  rw [ek]
  rcases (show len = 0 ∨ 0 < len by omega) with rfl | hl
  · exact ⟨0, by omega, hn0, fun w1 _ => take_zero a cap k n (by omega) (by omega) hn0 hn1 w1⟩
  · rcases hC.cells with e | ⟨b, off, rfl, hc⟩
    · omega
    · rcases Nat.lt_or_ge k len with h | h
      · obtain ⟨z, z0, z1, hz⟩ := hc k h
        exact ⟨_, Int.emod_nonneg _ (by omega), Int.emod_lt_of_pos _ hn0, fun w1 g => take_in b off len cap k n z hC.few h hk1 hn0 hn1 w1 z0 z1 (g.old hz)⟩
      · obtain ⟨z, z0, z1, hz⟩ := hc (k % len) (Nat.mod_lt _ hl)
        obtain ⟨y, y0, y1, hy⟩ := hc ((k * 7 + 3) % len) (Nat.mod_lt _ hl)
        obtain ⟨x, x0, x1, H⟩ := take_outU b off len cap k n z y hC.few hl h hk1 hn0 hn1 z0 z1 y0 y1
        exact ⟨x, x0, x1, fun w1 g => H w1 (g.old hz) (g.old hy)⟩

theorem drawRP_any (a : Option Addr) (len cap : Nat) (w : World) (hC : CodeRow w a len) :
    Calls Tryd.prog 17 #[.slice a len cap] w (RPDraw w) := by
  obtain ⟨how, h0, h1, H⟩ := take_all a len cap 2 24 w hC (by omega) (by omega) (by omega)
  rcases (show (how < 8 ∨ how = 8) ∨ (how = 9 ∨ how = 10) ∨ (how = 11 ∨ (12 ≤ how ∧ how < 20)) ∨ (how = 20 ∨ how = 21) ∨ (how = 22 ∨ how = 23) by omega) with c | c | c | c | c
  · exact drawRP_0 a len cap w hC how h0 h1 H c
  · exact drawRP_1 a len cap w hC how h0 h1 H c
  · exact drawRP_2 a len cap w hC how h0 h1 H c
  · exact drawRP_3 a len cap w hC how h0 h1 H c
  · exact drawRP_4 a len cap w hC how h0 h1 H c
end Go.Proofs.YtoaggnpcmieeaaaDoor
