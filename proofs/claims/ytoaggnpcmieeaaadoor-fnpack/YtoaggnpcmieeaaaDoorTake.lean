/- spec.l1Take: some number below n, the next place; nothing is written. -/
import Derived.Test.YtoaggnpcmieeaaaDoorA1
import Derived.Test.YtoaggnpcmieeaaaDoorRows
import Derived.WalkSpells
import Derived.WalkLawsBesides
set_option linter.unusedVariables false
set_option linter.unusedSimpArgs false
namespace Go.Proofs.YtoaggnpcmieeaaaDoor
open Go.RowKit

/-- What is known of the code: few bytes, each there. -/
structure CodeRow (w : World) (a : Option Addr) (len : Nat) : Prop where
  few : len ≤ 1048576
  cells : len = 0 ∨ ∃ b off, a = some ⟨b, off, none⟩ ∧ ∀ i, i < len → ∃ z : Int, 0 ≤ z ∧ z ≤ 255 ∧ w.cell? ⟨b, off + i, none⟩ = some (.int .u8 z)

theorem CodeRow.gr {w w' : World} {a : Option Addr} {len : Nat} (h : CodeRow w a len) (g : Gr w w') : CodeRow w' a len := by
  refine ⟨h.few, ?_⟩
  rcases h.cells with e | ⟨b, off, e, c⟩
  · exact .inl e
  · refine .inr ⟨b, off, e, fun i hi => ?_⟩
    obtain ⟨z, z0, z1, hz⟩ := c i hi
    exact ⟨z, z0, z1, g.old hz⟩

theorem tmod_small (x n : Int) (hx : 0 ≤ x) (hn : 0 < n) : 0 ≤ Int.tmod x n ∧ Int.tmod x n < n := by
  rw [Int.tmod_eq_emod_of_nonneg hx]
  exact ⟨Int.emod_nonneg _ (by omega), Int.emod_lt_of_pos _ hn⟩

set_option maxHeartbeats 1000000 in
theorem take_zero (a : Option Addr) (cap : Nat) (p n : Int) (hp0 : 0 ≤ p) (hp1 : p ≤ 1000) (hn0 : 0 < n) (hn1 : n ≤ 256) (w : World) :
    Calls Tryd.prog 46 #[.slice a 0 cap, .int .i64 p, .int .i64 n] w fun e w' => e = .returned (.tuple #[.int .i64 0, .int .i64 (p + 1)]) ∧ w = w' := by
  go_enter Tryd.func46, Tryd.ntmps46
  go_wp2
  go_returns
  exact ⟨rfl, rfl⟩

set_option maxHeartbeats 1000000 in
theorem take_in (b off len cap : Nat) (k : Nat) (n z : Int) (hlen : len ≤ 1048576) (hk : k < len) (hk1 : k ≤ 1000) (hn0 : 0 < n) (hn1 : n ≤ 256) (w : World) (z0 : 0 ≤ z) (z1 : z ≤ 255) (hz : w.cell? ⟨b, off + k, none⟩ = some (.int .u8 z)) :
    Calls Tryd.prog 46 #[.slice (some ⟨b, off, none⟩) len cap, .int .i64 k, .int .i64 n] w fun e w' => e = .returned (.tuple #[.int .i64 (z % n), .int .i64 (k + 1)]) ∧ w = w' := by
  have e0 : ((len : Int) == 0) = false := by simp; omega
  have e1 : (k : Int) < (len : Int) := by omega
  go_enter Tryd.func46, Tryd.ntmps46
  go_wp2
  go_returns
  exact ⟨rfl, rfl⟩

theorem xor_i64 (a b : Nat) (ha : a < 4294967296) (hb : b < 4294967296) : 0 ≤ bits .xor .i64 (a : Int) (b : Int) := by
  have hx : a ^^^ b < 2 ^ 32 := Nat.xor_lt_two_pow (by omega) (by omega)
  show 0 ≤ IntKind.i64.wrap ((BitVec.ofInt 64 (a : Int) ^^^ BitVec.ofInt 64 (b : Int)).toNat : Int)
  rw [BitVec.toNat_xor, ofInt_u64 a (by omega), ofInt_u64 b (by omega), IntKind.wrap_i64]
  omega

set_option maxHeartbeats 1000000 in
theorem take_out (b off len cap : Nat) (k : Nat) (n z y : Int) (hlen : len ≤ 1048576) (hl : 0 < len) (hk : len ≤ k) (hk1 : k ≤ 1000) (hn0 : 0 < n) (hn1 : n ≤ 256) (w : World) (z0 : 0 ≤ z) (z1 : z ≤ 255) (y0 : 0 ≤ y) (y1 : y ≤ 255)
    (hz : w.cell? ⟨b, off + k % len, none⟩ = some (.int .u8 z)) (hy : w.cell? ⟨b, off + (k * 7 + 3) % len, none⟩ = some (.int .u8 y)) :
    Calls Tryd.prog 46 #[.slice (some ⟨b, off, none⟩) len cap, .int .i64 k, .int .i64 n] w fun e w' => ∃ x : Int, 0 ≤ x ∧ x < n ∧ e = .returned (.tuple #[.int .i64 x, .int .i64 (k + 1)]) ∧ w = w' := by
  have e0 : ((len : Int) == 0) = false := by simp; omega
  have e1 : ¬ (k : Int) < (len : Int) := by omega
  have m1 : (k : Int).tmod (len : Int) = ((k % len : Nat) : Int) := by rw [Int.tmod_eq_emod_of_nonneg (by omega)]; rfl
  have m2 : ((k : Int) * 7 + 3).tmod (len : Int) = (((k * 7 + 3) % len : Nat) : Int) := by rw [Int.tmod_eq_emod_of_nonneg (by omega)]; rfl
  have b1 := Nat.mod_lt k hl
  have b2 := Nat.mod_lt (k * 7 + 3) hl
  have m3 := Int.emod_nonneg ((k : Int) * 7 + 3) (show (len : Int) ≠ 0 by omega)
  have m4 := Int.emod_lt_of_pos ((k : Int) * 7 + 3) (show (0 : Int) < len by omega)
  have d0 : 0 ≤ (k : Int) / (len : Int) := Int.ediv_nonneg (by omega) (by omega)
  have d1 : (k : Int) / (len : Int) ≤ 1000 := by have := Int.ediv_le_self (len : Int) (show (0 : Int) ≤ k by omega); omega
  obtain ⟨X, hX⟩ : ∃ X, z * 131 + y * 1117 + (k : Int) * 29 + (k : Int) / (len : Int) * 53 = X := ⟨_, rfl⟩
  have X0 : 0 ≤ X := by omega
  have X1 : X < 4294967296 := by omega
  have HB : Hid (0 ≤ bits .xor .i64 X (X / 64)) := by
    obtain ⟨N, rfl⟩ := Int.eq_ofNat_of_zero_le X0
    have : ((N : Int) / 64) = ((N / 64 : Nat) : Int) := by omega
    rw [this]; exact xor_i64 N (N / 64) (by omega) (by omega)
  go_enter Tryd.func46, Tryd.ntmps46
  go_wp2
  go_returns
  obtain ⟨t0, t1⟩ := tmod_small _ n HB.out hn0
  exact ⟨_, t0, t1, rfl, rfl⟩

/-- spec.l1Take: some number below n, the next place; nothing is written. -/
theorem take_any (a : Option Addr) (len cap k : Nat) (n : Int) (w : World) (hC : CodeRow w a len) (hk1 : k ≤ 1000) (hn0 : 0 < n) (hn1 : n ≤ 256) :
    Calls Tryd.prog 46 #[.slice a len cap, .int .i64 k, .int .i64 n] w fun e w' => ∃ x : Int, 0 ≤ x ∧ x < n ∧ e = .returned (.tuple #[.int .i64 x, .int .i64 ((k + 1 : Nat) : Int)]) ∧ w = w' := by
  have ek : ((k + 1 : Nat) : Int) = (k : Int) + 1 := by omega
  rw [ek]
  rcases (show len = 0 ∨ 0 < len by omega) with rfl | hl
  · refine (take_zero a cap k n (by omega) (by omega) hn0 hn1 w).mono ?_
    rintro e w' ⟨rfl, rfl⟩
    exact ⟨0, by omega, hn0, rfl, rfl⟩
  · rcases hC.cells with e | ⟨b, off, rfl, hc⟩
    · omega
    · rcases Nat.lt_or_ge k len with h | h
      · obtain ⟨z, z0, z1, hz⟩ := hc k h
        refine (take_in b off len cap k n z hC.few h hk1 hn0 hn1 w z0 z1 hz).mono ?_
        rintro e w' ⟨rfl, rfl⟩
        exact ⟨_, Int.emod_nonneg _ (by omega), Int.emod_lt_of_pos _ hn0, rfl, rfl⟩
      · obtain ⟨z, z0, z1, hz⟩ := hc (k % len) (Nat.mod_lt _ hl)
        obtain ⟨y, y0, y1, hy⟩ := hc ((k * 7 + 3) % len) (Nat.mod_lt _ hl)
        exact take_out b off len cap k n z y hC.few hl h hk1 hn0 hn1 w z0 z1 y0 y1 hz hy
end Go.Proofs.YtoaggnpcmieeaaaDoor
