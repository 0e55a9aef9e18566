/- spec.l1Take: some number below n, the next place; nothing is written. -/
import Derived.Test.YtkflpogmhailhaaGreatDoorA1
import Derived.Test.YtkflpogmhailhaaGreatDoorRows
import Derived.WalkSpells
import Derived.WalkLawsBesides
import Derived.Deep.DeepCutAuto
import Derived.Deep.Cut
import Derived.Test.YtkflpogmhailhaaGreatDoorL2A
import Derived.Deep.RegionHeld3
import Derived.BigQuiet
import Derived.WalkSmall
import Derived.Deep.QuietTactic
import Derived.Test.YtkflpogmhailhaaGreatDoorL2B
set_option linter.unusedVariables false
set_option linter.unusedSimpArgs false
namespace Go.Proofs.YtkflpogmhailhaaGreatDoor
open Go.RowKit

/-- What is known of the code: few bytes, each there. -/
structure CodeRow (w : World) (a : Option Addr) (len : Nat) : Prop where
  few : len ≤ 1048576
  cells : len = 0 ∨ ∃ b off, a = some ⟨b, off, none⟩ ∧ ∀ i, i < len → ∃ z : Int, 0 ≤ z ∧ z ≤ 255 ∧ w.cell? ⟨b, off + i, none⟩ = some (.int .u8 z)

theorem CodeRow.gr {w w' : World} {a : Option Addr} {len : Nat} (h : CodeRow w a len) (g : Gr w w') : CodeRow w' a len := by
  refine ⟨h.few, ?_⟩
  rcases h.cells with e | ⟨b, off, e, c⟩
  · exact .inl e
  · refine .inr ⟨b, off, e, fun i hi => ?_⟩
    obtain ⟨z, z0, z1, hz⟩ := c i hi
    exact ⟨z, z0, z1, g.old hz⟩

theorem tmod_small (x n : Int) (hx : 0 ≤ x) (hn : 0 < n) : 0 ≤ Int.tmod x n ∧ Int.tmod x n < n := by
  rw [Int.tmod_eq_emod_of_nonneg hx]
  exact ⟨Int.emod_nonneg _ (by omega), Int.emod_lt_of_pos _ hn⟩

set_option maxHeartbeats 1000000 in
theorem take_zero (a : Option Addr) (cap : Nat) (p n : Int) (hp0 : 0 ≤ p) (hp1 : p ≤ 1000) (hn0 : 0 < n) (hn1 : n ≤ 256) (w : World) :
    Calls Tryz.prog 36 #[.slice a 0 cap, .int .i64 p, .int .i64 n] w fun e w' => e = .returned (.tuple #[.int .i64 0, .int .i64 (p + 1)]) ∧ w = w' := by
  go_enter Tryz.func36, Tryz.ntmps36
  go_wp2
  go_returns
  exact ⟨rfl, rfl⟩

set_option maxHeartbeats 1000000 in
theorem take_in (b off len cap : Nat) (k : Nat) (n z : Int) (hlen : len ≤ 1048576) (hk : k < len) (hk1 : k ≤ 1000) (hn0 : 0 < n) (hn1 : n ≤ 256) (w : World) (z0 : 0 ≤ z) (z1 : z ≤ 255) (hz : w.cell? ⟨b, off + k, none⟩ = some (.int .u8 z)) :
    Calls Tryz.prog 36 #[.slice (some ⟨b, off, none⟩) len cap, .int .i64 k, .int .i64 n] w fun e w' => e = .returned (.tuple #[.int .i64 (z % n), .int .i64 (k + 1)]) ∧ w = w' := by
  have e0 : ((len : Int) == 0) = false := by simp; omega
  have e1 : (k : Int) < (len : Int) := by omega
  go_enter Tryz.func36, Tryz.ntmps36
  go_wp2
  go_returns
  exact ⟨rfl, rfl⟩

theorem xor_i64 (a b : Nat) (ha : a < 4294967296) (hb : b < 4294967296) : 0 ≤ bits .xor .i64 (a : Int) (b : Int) := by
  have hx : a ^^^ b < 2 ^ 32 := Nat.xor_lt_two_pow (by omega) (by omega)
  show 0 ≤ IntKind.i64.wrap ((BitVec.ofInt 64 (a : Int) ^^^ BitVec.ofInt 64 (b : Int)).toNat : Int)
  rw [BitVec.toNat_xor, ofInt_u64 a (by omega), ofInt_u64 b (by omega), IntKind.wrap_i64]
  omega

set_option maxHeartbeats 1000000 in
theorem take_out (b off len cap : Nat) (k : Nat) (n z y : Int) (hlen : len ≤ 1048576) (hl : 0 < len) (hk : len ≤ k) (hk1 : k ≤ 1000) (hn0 : 0 < n) (hn1 : n ≤ 256) (w : World) (z0 : 0 ≤ z) (z1 : z ≤ 255) (y0 : 0 ≤ y) (y1 : y ≤ 255)
    (hz : w.cell? ⟨b, off + k % len, none⟩ = some (.int .u8 z)) (hy : w.cell? ⟨b, off + (k * 7 + 3) % len, none⟩ = some (.int .u8 y)) :
    Calls Tryz.prog 36 #[.slice (some ⟨b, off, none⟩) len cap, .int .i64 k, .int .i64 n] w fun e w' => ∃ x : Int, 0 ≤ x ∧ x < n ∧ e = .returned (.tuple #[.int .i64 x, .int .i64 (k + 1)]) ∧ w = w' := by
  have e0 : ((len : Int) == 0) = false := by simp; omega
  have e1 : ¬ (k : Int) < (len : Int) := by omega
  have m1 : (k : Int).tmod (len : Int) = ((k % len : Nat) : Int) := by rw [Int.tmod_eq_emod_of_nonneg (by omega)]; rfl
  have m2 : ((k : Int) * 7 + 3).tmod (len : Int) = (((k * 7 + 3) % len : Nat) : Int) := by rw [Int.tmod_eq_emod_of_nonneg (by omega)]; rfl
  have b1 := Nat.mod_lt k hl
  have b2 := Nat.mod_lt (k * 7 + 3) hl
  have m3 := Int.emod_nonneg ((k : Int) * 7 + 3) (show (len : Int) ≠ 0 by omega)
  have m4 := Int.emod_lt_of_pos ((k : Int) * 7 + 3) (show (0 : Int) < len by omega)
  have d0 : 0 ≤ (k : Int) / (len : Int) := Int.ediv_nonneg (by omega) (by omega)
  have d1 : (k : Int) / (len : Int) ≤ 1000 := by have := Int.ediv_le_self (len : Int) (show (0 : Int) ≤ k by omega); omega
  obtain ⟨X, hX⟩ : ∃ X, z * 131 + y * 1117 + (k : Int) * 29 + (k : Int) / (len : Int) * 53 = X := ⟨_, rfl⟩
  have X0 : 0 ≤ X := by omega
  have X1 : X < 4294967296 := by omega
  have HB : Hid (0 ≤ bits .xor .i64 X (X / 64)) := by
    obtain ⟨N, rfl⟩ := Int.eq_ofNat_of_zero_le X0
    have : ((N : Int) / 64) = ((N / 64 : Nat) : Int) := by omega
    rw [this]; exact xor_i64 N (N / 64) (by omega) (by omega)
  go_enter Tryz.func36, Tryz.ntmps36
  go_wp2
  go_returns
  obtain ⟨t0, t1⟩ := tmod_small _ n HB.out hn0
  exact ⟨_, t0, t1, rfl, rfl⟩

/-- spec.l1Take: some number below n, the next place; nothing is written. -/
theorem take_any (a : Option Addr) (len cap k : Nat) (n : Int) (w : World) (hC : CodeRow w a len) (hk1 : k ≤ 1000) (hn0 : 0 < n) (hn1 : n ≤ 256) :
    Calls Tryz.prog 36 #[.slice a len cap, .int .i64 k, .int .i64 n] w fun e w' => ∃ x : Int, 0 ≤ x ∧ x < n ∧ e = .returned (.tuple #[.int .i64 x, .int .i64 ((k + 1 : Nat) : Int)]) ∧ w = w' := by
  have ek : ((k + 1 : Nat) : Int) = (k : Int) + 1 := by omega
  rw [ek]
  rcases (show len = 0 ∨ 0 < len by omega) with rfl | hl
  · refine (take_zero a cap k n (by omega) (by omega) hn0 hn1 w).mono ?_
    rintro e w' ⟨rfl, rfl⟩
    exact ⟨0, by omega, hn0, rfl, rfl⟩
  · rcases hC.cells with e | ⟨b, off, rfl, hc⟩
    · omega
    · rcases Nat.lt_or_ge k len with h | h
      · obtain ⟨z, z0, z1, hz⟩ := hc k h
        refine (take_in b off len cap k n z hC.few h hk1 hn0 hn1 w z0 z1 hz).mono ?_
        rintro e w' ⟨rfl, rfl⟩
        exact ⟨_, Int.emod_nonneg _ (by omega), Int.emod_lt_of_pos _ hn0, rfl, rfl⟩
      · obtain ⟨z, z0, z1, hz⟩ := hc (k % len) (Nat.mod_lt _ hl)
        obtain ⟨y, y0, y1, hy⟩ := hc ((k * 7 + 3) % len) (Nat.mod_lt _ hl)
        exact take_out b off len cap k n z y hC.few hl h hk1 hn0 hn1 w z0 z1 y0 y1 hz hy
end Go.Proofs.YtkflpogmhailhaaGreatDoor

/- spec.l1Bits, l1Wide, l2DrawFormat, l2DrawExp, l2DrawWord, l2Any, DrawUnpack. -/
set_option linter.unusedVariables false
set_option linter.unusedSimpArgs false

namespace Go.Proofs.YtkflpogmhailhaaGreatDoor
open Go.RowKit

set_option maxHeartbeats 4000000 in
theorem bitsN_any (a : Option Addr) (len cap p n : Nat) (hn : n ≤ 64) (w : World) (hC : CodeRow w a len) (hp : p ≤ 900) :
    Calls Tryz.prog 134 #[.slice a len cap, .int .i64 p, .int .i64 n] w fun e w' => ∃ (v : Int) (k : Nat), 0 ≤ v ∧ v < 18446744073709551616 ∧ k ≤ p + 10 ∧ e = .returned (.tuple #[.int .u64 v, .int .i64 k]) ∧ w = w' := by
  have HC : Hid _ := hC
  clear hC
  go_enter Tryz.func134, Tryz.ntmps134
  go_wp2_with (go_at_call 36; refine (take_any a len cap p 5 _ HC.out (by omega) (by omega) (by omega)).mono ?_; rintro e w' ⟨how, hw0, hw1, rfl, hw⟩; subst hw)
  go_loop [1, 10, 11] (fun s1 s10 s11 => ∃ (i : Nat) (v : Int), i ≤ 8 ∧ s1 = .int .i64 ((p + 1 + i : Nat) : Int) ∧ s10 = .int .u64 v ∧ 0 ≤ v ∧ v < 18446744073709551616 ∧ s11 = .int .i64 i) (fun _ _ s => 8 - (intOf s).toNat)
  case atStart => exact ⟨0, 0, by omega, by go_num, rfl, by omega, by omega, rfl⟩
  case round =>
    obtain ⟨i, v, hi, rfl, rfl, v0, v1, rfl⟩ := hrel
    by_cases hlt : (i : Int) < 8
    · rcases (show how = 0 ∨ how = 1 ∨ ((how == 0) = false ∧ (how == 1) = false) by simp; omega) with rfl | rfl | ⟨e0, e1⟩
      · rcases (show i = 0 ∨ i = 7 ∨ (0 < i ∧ i < 7) by omega) with rfl | rfl | ⟨i0, i7⟩
        · go_wp2_with (go_at_call 36; refine (take_any a len cap (p + 1 + 0) 256 _ HC.out (by omega) (by omega) (by omega)).mono ?_; rintro e w' ⟨x, x0, x1, rfl, hw⟩; subst hw)
          go_round
          case rel => exact ⟨0 + 1, IntKind.u64.wrap (IntKind.u64.wrap (v * 256) + x), by omega, by go_num, rfl, by simp only [IntKind.wrap_u64]; omega, by simp only [IntKind.wrap_u64]; omega, by go_num⟩
          case measure => simp [intOf] <;> omega
        · go_wp2_with (go_at_call 36; refine (take_any a len cap (p + 1 + 7) 256 _ HC.out (by omega) (by omega) (by omega)).mono ?_; rintro e w' ⟨x, x0, x1, rfl, hw⟩; subst hw)
          go_round
          case rel => exact ⟨7 + 1, IntKind.u64.wrap (IntKind.u64.wrap (v * 256) + x), by omega, by go_num, rfl, by simp only [IntKind.wrap_u64]; omega, by simp only [IntKind.wrap_u64]; omega, by go_num⟩
          case measure => simp [intOf] <;> omega
        · go_wp2_with (go_at_call 36; refine (take_any a len cap (p + 1 + i) 256 _ HC.out (by omega) (by omega) (by omega)).mono ?_; rintro e w' ⟨x, x0, x1, rfl, hw⟩; subst hw)
          go_round
          case rel => exact ⟨i + 1, IntKind.u64.wrap (IntKind.u64.wrap (v * 256)), by omega, by go_num, rfl, by simp only [IntKind.wrap_u64]; omega, by simp only [IntKind.wrap_u64]; omega, by go_num⟩
          case measure => simp [intOf] <;> omega
      · rcases (show i = 0 ∨ i = 7 ∨ (0 < i ∧ i < 7) by omega) with rfl | rfl | ⟨i0, i7⟩
        · go_wp2_with (go_at_call 36; refine (take_any a len cap (p + 1 + 0) 256 _ HC.out (by omega) (by omega) (by omega)).mono ?_; rintro e w' ⟨x, x0, x1, rfl, hw⟩; subst hw)
          go_round
          case rel => exact ⟨0 + 1, IntKind.u64.wrap (IntKind.u64.wrap (v * 256) + x), by omega, by go_num, rfl, by simp only [IntKind.wrap_u64]; omega, by simp only [IntKind.wrap_u64]; omega, by go_num⟩
          case measure => simp [intOf] <;> omega
        · go_wp2_with (go_at_call 36; refine (take_any a len cap (p + 1 + 7) 256 _ HC.out (by omega) (by omega) (by omega)).mono ?_; rintro e w' ⟨x, x0, x1, rfl, hw⟩; subst hw)
          go_round
          case rel => exact ⟨7 + 1, IntKind.u64.wrap (IntKind.u64.wrap (v * 256) + x), by omega, by go_num, rfl, by simp only [IntKind.wrap_u64]; omega, by simp only [IntKind.wrap_u64]; omega, by go_num⟩
          case measure => simp [intOf] <;> omega
        · go_wp2_with (go_at_call 36; refine (take_any a len cap (p + 1 + i) 256 _ HC.out (by omega) (by omega) (by omega)).mono ?_; rintro e w' ⟨x, x0, x1, rfl, hw⟩; subst hw)
          go_round
          case rel => exact ⟨i + 1, IntKind.u64.wrap (IntKind.u64.wrap (v * 256) + 255), by omega, by go_num, rfl, by simp only [IntKind.wrap_u64]; omega, by simp only [IntKind.wrap_u64]; omega, by go_num⟩
          case measure => simp [intOf] <;> omega
      · go_wp2_with (go_at_call 36; refine (take_any a len cap (p + 1 + i) 256 _ HC.out (by omega) (by omega) (by omega)).mono ?_; rintro e w' ⟨x, x0, x1, rfl, hw⟩; subst hw)
        go_round
        case rel => exact ⟨i + 1, IntKind.u64.wrap (IntKind.u64.wrap (v * 256) + x), by omega, by go_num, rfl, by simp only [IntKind.wrap_u64]; omega, by simp only [IntKind.wrap_u64]; omega, by go_num⟩
        case measure => simp [intOf] <;> omega
    · by_cases h2 : how = 2
      · subst h2
        go_wp2_with (go_at_call 36; refine (take_any a len cap (p + 1 + i) 64 _ HC.out (by omega) (by omega) (by omega)).mono ?_; rintro e w' ⟨x, x0, x1, rfl, hw⟩; subst hw)
        go_loop [10, 12] (fun s10 s12 => ∃ (j v : Int), 0 ≤ j ∧ j ≤ x ∧ s10 = .int .u64 v ∧ 0 ≤ v ∧ v < 18446744073709551616 ∧ s12 = .int .i64 j) (fun _ s => (64 - intOf s).toNat)
        case atStart => exact ⟨0, v, by omega, x0, rfl, v0, v1, rfl⟩
        case round =>
          obtain ⟨j, u, j0, j1, rfl, u0, u1, rfl⟩ := hrel
          by_cases hj : j < x
          · go_wp2
            go_round
            case rel => exact ⟨j + 1, u / 2, by omega, by omega, rfl, by omega, by omega, rfl⟩
            case measure => simp [intOf]; omega
          · go_wp2
            go_loop [10, 13] (fun s10 s13 => ∃ (j : Nat) (x : Int), j ≤ 64 ∧ s10 = .int .u64 x ∧ 0 ≤ x ∧ x < 18446744073709551616 ∧ s13 = .int .i64 j) (fun _ s => 64 - (intOf s).toNat)
            case atStart => exact ⟨n, u, hn, rfl, u0, u1, rfl⟩
            case round =>
              obtain ⟨j, x, j1, rfl, x0, x1, rfl⟩ := hrel
              by_cases hj : (j : Int) < 64
              · go_wp2
                go_round
                case rel => exact ⟨j + 1, IntKind.u64.wrap (x * 2), by omega, rfl, by simp only [IntKind.wrap_u64]; omega, by simp only [IntKind.wrap_u64]; omega, by go_num⟩
                case measure => simp [intOf] <;> omega
              · go_wp2
                go_loop [10, 14] (fun s10 s14 => ∃ (j : Nat) (x : Int), j ≤ 64 ∧ s10 = .int .u64 x ∧ 0 ≤ x ∧ x < 18446744073709551616 ∧ s14 = .int .i64 j) (fun _ s => 64 - (intOf s).toNat)
                case atStart => exact ⟨n, x, hn, rfl, x0, x1, rfl⟩
                case round =>
                  obtain ⟨j', y, j2, rfl, y0, y1, rfl⟩ := hrel
                  by_cases hj' : (j' : Int) < 64
                  · go_wp2
                    go_round
                    case rel => exact ⟨j' + 1, y / 2, by omega, rfl, by omega, by omega, by go_num⟩
                    case measure => simp [intOf] <;> omega
                  · go_wp2
                    go_returns
                    first | exact ⟨y, p + 1 + i + 1, y0, y1, by omega, rfl, rfl⟩ | exact ⟨y, y0, y1, p + 1 + i + 1, by omega, rfl, rfl⟩
      · have e2 : (how == 2) = false := by simp [h2]
        clear h2
        go_wp2
        go_loop [10, 13] (fun s10 s13 => ∃ (j : Nat) (x : Int), j ≤ 64 ∧ s10 = .int .u64 x ∧ 0 ≤ x ∧ x < 18446744073709551616 ∧ s13 = .int .i64 j) (fun _ s => 64 - (intOf s).toNat)
        case atStart => exact ⟨n, v, hn, rfl, v0, v1, rfl⟩
        case round =>
          obtain ⟨j, x, j1, rfl, x0, x1, rfl⟩ := hrel
          by_cases hj : (j : Int) < 64
          · go_wp2
            go_round
            case rel => exact ⟨j + 1, IntKind.u64.wrap (x * 2), by omega, rfl, by simp only [IntKind.wrap_u64]; omega, by simp only [IntKind.wrap_u64]; omega, by go_num⟩
            case measure => simp [intOf] <;> omega
          · go_wp2
            go_loop [10, 14] (fun s10 s14 => ∃ (j : Nat) (x : Int), j ≤ 64 ∧ s10 = .int .u64 x ∧ 0 ≤ x ∧ x < 18446744073709551616 ∧ s14 = .int .i64 j) (fun _ s => 64 - (intOf s).toNat)
            case atStart => exact ⟨n, x, hn, rfl, x0, x1, rfl⟩
            case round =>
              obtain ⟨j', y, j2, rfl, y0, y1, rfl⟩ := hrel
              by_cases hj' : (j' : Int) < 64
              · go_wp2
                go_round
                case rel => exact ⟨j' + 1, y / 2, by omega, rfl, by omega, by omega, by go_num⟩
                case measure => simp [intOf] <;> omega
              · go_wp2
                go_returns
                first | exact ⟨y, p + 1 + i, y0, y1, by omega, rfl, rfl⟩ | exact ⟨y, y0, y1, p + 1 + i, by omega, rfl, rfl⟩

set_option maxRecDepth 100000 in
set_option maxHeartbeats 2000000 in
theorem drawFormat_any (a : Option Addr) (len cap p : Nat) (w : World) (hC : CodeRow w a len) (hp : p ≤ 900) :
    Calls Tryz.prog 90 #[.slice a len cap, .int .i64 p] w fun x w' => ∃ f m : Int, -10 ≤ f ∧ f ≤ 10 ∧ -10 ≤ m ∧ m ≤ 10 ∧ x = .returned (.tuple #[.int .i64 f, .int .i64 m, .int .i64 ((p + 2 : Nat) : Int)]) ∧ w = w' := by
  have HC : Hid (CodeRow w a len) := hC
  clear hC
  go_enter Tryz.func90, Tryz.ntmps90
  go_upto_region 3 with (go_at_call 36; refine (take_any a len cap p 40 _ HC.out (by omega) (by omega) (by omega)).mono ?_; rintro x w' ⟨c, c0, c1, rfl, hw⟩; subst hw)
  go_upto_region 4 with (go_at_call 36; refine (take_any a len cap (p + 1) 100 _ HC.out (by omega) (by omega) (by omega)).mono ?_; rintro x w' ⟨d, d0, d1, rfl, hw⟩; subst hw)
  rcases (show c = 39 ∨ (c == 39) = false by simp; omega) with rfl | k1 <;> rcases (show d = 99 ∨ (d == 99) = false by simp; omega) with rfl | k2
  all_goals go_wp2
  all_goals go_returns
  all_goals refine ⟨_, _, ?_, ?_, ?_, ?_, rfl, rfl⟩
  all_goals first | omega | (simp; omega)

set_option maxRecDepth 100000 in
set_option maxHeartbeats 4000000 in
theorem drawExp_any (a : Option Addr) (len cap p : Nat) (f : Int) (hf : f = 0 ∨ f = 1) (w : World) (hC : CodeRow w a len) (hp : p ≤ 900) :
    Calls Tryz.prog 133 #[.slice a len cap, .int .i64 p, .int .i64 f] w fun x w' => ∃ v : Int, 0 ≤ v ∧ v < 18446744073709551616 ∧ x = .returned (.tuple #[.int .u64 v, .int .i64 ((p + 2 : Nat) : Int)]) ∧ w = w' := by
  have HC : Hid (CodeRow w a len) := hC
  clear hC
  obtain ⟨mx, pp, hm, HM, HP⟩ : ∃ mx pp : Int, (mx = 127 ∨ mx = 1023) ∧ Hid ((24 ≤ pp ∧ pp ≤ 53) ∧ ∀ w, Calls Tryz.prog 78 #[.int .i64 f] w fun x w' => x = .returned (.int .i64 mx) ∧ w = w') ∧ Hid (∀ w, Calls Tryz.prog 76 #[.int .i64 f] w fun x w' => x = .returned (.int .i64 pp) ∧ w = w') := by
    rcases hf with rfl | rfl
    · exact ⟨127, 24, .inl rfl, ⟨by omega, fun w => l2Max_any (.inl ⟨rfl, rfl, rfl, rfl, rfl, rfl, rfl⟩) w⟩, fun w => l2P_any (.inl ⟨rfl, rfl, rfl, rfl, rfl, rfl, rfl⟩) w⟩
    · exact ⟨1023, 53, .inr rfl, ⟨by omega, fun w => l2Max_any fmt64 w⟩, fun w => l2P_any fmt64 w⟩
  have hpp := HM.out.1
  clear hf
  rcases hm with rfl | rfl
  all_goals
    go_enter Tryz.func133, Tryz.ntmps133
    go_upto_region 3 with (go_at_call 36; refine (take_any a len cap p 16 _ HC.out (by omega) (by omega) (by omega)).mono ?_; rintro x w' ⟨how, c0, c1, rfl, hw⟩; subst hw)
    go_upto_region 4 with (go_at_call 36; refine (take_any a len cap (p + 1) 256 _ HC.out (by omega) (by omega) (by omega)).mono ?_; rintro x w' ⟨d, d0, d1, rfl, hw⟩; subst hw)
    go_upto_region 5 with (go_at_call 78; refine (HM.out.2 _).mono ?_; rintro x w' ⟨rfl, hw⟩; subst hw)
    rcases (show how < 9 ∨ how = 9 ∨ how = 10 ∨ how = 11 ∨ how = 12 ∨ how = 13 ∨ how = 14 ∨ how = 15 by omega) with k | rfl | rfl | rfl | rfl | rfl | rfl | rfl
  all_goals go_wp2_with (go_at_call 76; refine (HP.out _).mono ?_; rintro x w' ⟨rfl, hw⟩; subst hw)
  all_goals go_returns
  all_goals refine ⟨_, ?_, ?_, rfl, rfl⟩
  all_goals first | omega | (simp only [IntKind.wrap_u64]; omega)

theorem l2Put_some {f p mx one inf sg nan : Int} (h : IsFmt f p mx one inf sg nan) (s v : Int) (hs : s = 0 ∨ s = 1) (v0 : 0 ≤ v) (v1 : v < 18446744073709551616) (w : World) :
    Calls Tryz.prog 61 #[.int .i64 f, .int .i64 s, .int .u64 v] w fun x w' => ∃ z : Int, 0 ≤ z ∧ z < 18446744073709551616 ∧ x = .returned (.int .u64 z) ∧ w = w' := by
  have HS : Hid (∀ w, Calls Tryz.prog 65 #[.int .i64 f] w fun x w' => x = .returned (.int .u64 sg) ∧ w = w') := fun w => l2Sign_any h w
  clear h
  rcases hs with rfl | rfl
  · go_enter Tryz.func61, Tryz.ntmps61
    go_wp2
    go_returns
    exact ⟨_, v0, v1, rfl, rfl⟩
  · go_enter Tryz.func61, Tryz.ntmps61
    go_wp2_with (go_at_call 65; refine (HS.out _).mono ?_; rintro x w' ⟨rfl, hw⟩; subst hw)
    go_returns
    refine ⟨_, ?_, ?_, rfl, rfl⟩
    all_goals (simp only [IntKind.wrap_u64]; omega)

set_option maxRecDepth 100000 in
set_option maxHeartbeats 4000000 in
theorem drawWord_any {f p mx one inf sg nan : Int} (h : IsFmt f p mx one inf sg nan) (a : Option Addr) (len cap k : Nat) (w : World) (hC : CodeRow w a len) (hp : k ≤ 800) :
    Calls Tryz.prog 110 #[.slice a len cap, .int .i64 k, .int .i64 f] w fun x w' => ∃ (v : Int) (j : Nat), 0 ≤ v ∧ v < 18446744073709551616 ∧ j ≤ k + 20 ∧ x = .returned (.tuple #[.int .u64 v, .int .i64 j]) ∧ w = w' := by
  have HC : Hid (CodeRow w a len) := hC
  have HE : Hid (∀ k : Nat, k ≤ 900 → Calls Tryz.prog 133 #[.slice a len cap, .int .i64 k, .int .i64 f] w fun x w' => ∃ v : Int, 0 ≤ v ∧ v < 18446744073709551616 ∧ x = .returned (.tuple #[.int .u64 v, .int .i64 ((k + 2 : Nat) : Int)]) ∧ w = w') := fun k hk => drawExp_any a len cap k f (by rcases h with h | h <;> omega) w hC hk
  have HP : Hid (∀ w, Calls Tryz.prog 76 #[.int .i64 f] w fun x w' => x = .returned (.int .i64 p) ∧ w = w') := fun w => l2P_any h w
  obtain ⟨p1, hp1⟩ : ∃ p1 : Int, p - 1 = p1 := ⟨_, rfl⟩
  obtain ⟨p2, hp2⟩ : ∃ p2 : Int, p - 2 = p2 := ⟨_, rfl⟩
  have H1 : Hid (∀ w, Calls Tryz.prog 75 #[.int .i64 p1] w fun x w' => x = .returned (.int .u64 one) ∧ w = w') := fun w => hp1 ▸ l2One_any h w
  have H2 : ∃ hf : Int, (0 ≤ hf ∧ hf < 18446744073709551616) ∧ Hid (∀ w, Calls Tryz.prog 75 #[.int .i64 p2] w fun x w' => x = .returned (.int .u64 hf) ∧ w = w') := by
    rw [← hp2]
    rcases h with ⟨rfl, rfl, rfl, rfl, rfl, rfl, rfl⟩ | ⟨rfl, rfl, rfl, rfl, rfl, rfl, rfl⟩
    · exact ⟨4194304, by omega, fun w => l2Two_any 22 _ (by omega) (by decide) w⟩
    · exact ⟨2251799813685248, by omega, fun w => l2Two_any 51 _ (by omega) (by decide) w⟩
  obtain ⟨hf, hfb, H2⟩ := H2
  obtain ⟨n, hn, hn64⟩ : ∃ n : Nat, p - 1 = (n : Int) ∧ n ≤ 64 := ⟨(p - 1).toNat, by rcases h with h | h <;> omega, by rcases h with h | h <;> omega⟩
  have HB : Hid (∀ k : Nat, k ≤ 900 → Calls Tryz.prog 134 #[.slice a len cap, .int .i64 k, .int .i64 p1] w fun e w' => ∃ (v : Int) (j : Nat), 0 ≤ v ∧ v < 18446744073709551616 ∧ j ≤ k + 10 ∧ e = .returned (.tuple #[.int .u64 v, .int .i64 j]) ∧ w = w') := fun k hk => by rw [← hp1, hn]; exact bitsN_any a len cap k n hn64 w hC hk
  have HPut : Hid (∀ s v w, (s = 0 ∨ s = 1) → 0 ≤ v → v < 18446744073709551616 → Calls Tryz.prog 61 #[.int .i64 f, .int .i64 s, .int .u64 v] w fun x w' => ∃ z : Int, 0 ≤ z ∧ z < 18446744073709551616 ∧ x = .returned (.int .u64 z) ∧ w = w') := fun s v w a b c => l2Put_some h s v a b c w
  have hob : 0 < one ∧ one ≤ 4503599627370496 ∧ 24 ≤ p ∧ p ≤ 53 := by rcases h with h | h <;> omega
  clear h hC hn
  go_enter Tryz.func110, Tryz.ntmps110
  go_upto_region 3 with (go_at_call 133; refine (HE.out k (by omega)).mono ?_; rintro x w' ⟨e, x0, x1, rfl, hw⟩; subst hw)
  go_upto_region 4 with (first | (go_at_call 76; refine (HP.out _).mono ?_; rintro x w' ⟨rfl, hw⟩; subst hw) | (go_at_call 134; refine (HB.out (k + 2) (by omega)).mono ?_; rintro x w' ⟨fr, j, fr0, fr1, hj, rfl, hw⟩; subst hw))
  go_upto_region 5 with (go_at_call 36; refine (take_any a len cap j 12 _ HC.out (by omega) (by omega) (by omega)).mono ?_; rintro x w' ⟨d, d0, d1, rfl, hw⟩; subst hw)
  go_upto_region 6 with (go_at_call 36; refine (take_any a len cap (j + 1) 2 _ HC.out (by omega) (by omega) (by omega)).mono ?_; rintro x w' ⟨s, s0, s1, rfl, hw⟩; subst hw)
  have hs01 : s = 0 ∨ s = 1 := by omega
  have HS01 : Hid (s = 0 ∨ s = 1) := hs01
  clear hs01
  rcases (show d = 0 ∨ d = 1 ∨ d = 2 ∨ d = 3 ∨ ((d == 0) = false ∧ (d == 1) = false ∧ (d == 2) = false ∧ (d == 3) = false) by simp; omega) with rfl | rfl | rfl | rfl | ⟨k0, k1, k2, k3⟩
  · go_wp2_with (first
      | (go_at_call 76; refine (HP.out _).mono ?_; rintro x w' ⟨rfl, hw⟩; subst hw)
      | (go_at_call 75; refine (H1.out _).mono ?_; rintro x w' ⟨rfl, hw⟩; subst hw)
      | (go_at_call 61; refine (HPut.out _ _ _ HS01.out (by first | omega | (simp only [IntKind.wrap_u64]; omega)) (by first | omega | (simp only [IntKind.wrap_u64]; omega))).mono ?_; rintro x w' ⟨z, z0, z1, rfl, hw⟩; subst hw))
    go_returns
    first | exact ⟨z, j + 1 + 1, z0, z1, by omega, rfl, rfl⟩ | exact ⟨z, z0, z1, j + 1 + 1, by omega, rfl, rfl⟩
  · go_wp2_with (first
      | (go_at_call 76; refine (HP.out _).mono ?_; rintro x w' ⟨rfl, hw⟩; subst hw)
      | (go_at_call 75; refine (H1.out _).mono ?_; rintro x w' ⟨rfl, hw⟩; subst hw)
      | (go_at_call 61; refine (HPut.out _ _ _ HS01.out (by first | omega | (simp only [IntKind.wrap_u64]; omega)) (by first | omega | (simp only [IntKind.wrap_u64]; omega))).mono ?_; rintro x w' ⟨z, z0, z1, rfl, hw⟩; subst hw))
    go_returns
    first | exact ⟨z, j + 1 + 1, z0, z1, by omega, rfl, rfl⟩ | exact ⟨z, z0, z1, j + 1 + 1, by omega, rfl, rfl⟩
  · go_upto_region 14 with (first | (go_at_call 76; refine (HP.out _).mono ?_; rintro x w' ⟨rfl, hw⟩; subst hw) | (go_at_call 75; refine (H2.out _).mono ?_; rintro x w' ⟨rfl, hw⟩; subst hw))
    go_wp2_with (first
      | (go_at_call 76; refine (HP.out _).mono ?_; rintro x w' ⟨rfl, hw⟩; subst hw)
      | (go_at_call 75; refine (H1.out _).mono ?_; rintro x w' ⟨rfl, hw⟩; subst hw)
      | (go_at_call 61; refine (HPut.out _ _ _ HS01.out (by first | omega | (simp only [IntKind.wrap_u64]; omega)) (by first | omega | (simp only [IntKind.wrap_u64]; omega))).mono ?_; rintro x w' ⟨z, z0, z1, rfl, hw⟩; subst hw))
    go_returns
    first | exact ⟨z, j + 1 + 1, z0, z1, by omega, rfl, rfl⟩ | exact ⟨z, z0, z1, j + 1 + 1, by omega, rfl, rfl⟩
  · go_wp2_with (first
      | (go_at_call 76; refine (HP.out _).mono ?_; rintro x w' ⟨rfl, hw⟩; subst hw)
      | (go_at_call 75; refine (H1.out _).mono ?_; rintro x w' ⟨rfl, hw⟩; subst hw)
      | (go_at_call 61; refine (HPut.out _ _ _ HS01.out (by first | omega | (simp only [IntKind.wrap_u64]; omega)) (by first | omega | (simp only [IntKind.wrap_u64]; omega))).mono ?_; rintro x w' ⟨z, z0, z1, rfl, hw⟩; subst hw))
    go_returns
    first | exact ⟨z, j + 1 + 1, z0, z1, by omega, rfl, rfl⟩ | exact ⟨z, z0, z1, j + 1 + 1, by omega, rfl, rfl⟩
  · go_wp2_with (first
      | (go_at_call 76; refine (HP.out _).mono ?_; rintro x w' ⟨rfl, hw⟩; subst hw)
      | (go_at_call 75; refine (H1.out _).mono ?_; rintro x w' ⟨rfl, hw⟩; subst hw)
      | (go_at_call 61; refine (HPut.out _ _ _ HS01.out (by first | omega | (simp only [IntKind.wrap_u64]; omega)) (by first | omega | (simp only [IntKind.wrap_u64]; omega))).mono ?_; rintro x w' ⟨z, z0, z1, rfl, hw⟩; subst hw))
    go_returns
    first | exact ⟨z, j + 1 + 1, z0, z1, by omega, rfl, rfl⟩ | exact ⟨z, z0, z1, j + 1 + 1, by omega, rfl, rfl⟩

set_option maxRecDepth 100000 in
set_option maxHeartbeats 4000000 in
theorem drawAny_any (a : Option Addr) (len cap k : Nat) (f : Int) (w : World) (hC : CodeRow w a len) (hp : k ≤ 700) :
    Calls Tryz.prog 59 #[.slice a len cap, .int .i64 k, .int .i64 f] w fun x w' => ∃ (v : Int) (j : Nat), 0 ≤ v ∧ v < 18446744073709551616 ∧ j ≤ k + 21 ∧ x = .returned (.tuple #[.int .u64 v, .int .i64 j]) ∧ w = w' := by
  have HC : Hid (CodeRow w a len) := hC
  have HT : Hid (∀ w, Calls Tryz.prog 75 #[.int .i64 33] w fun x w' => x = .returned (.int .u64 8589934592) ∧ w = w') := fun w => l2Two_any 33 _ (by omega) (by decide) w
  rcases (show f = 0 ∨ (f == 0) = false by simp; omega) with rfl | hf0
  · have HW : Hid (Calls Tryz.prog 110 #[.slice a len cap, .int .i64 k, .int .i64 0] w fun x w' => ∃ (v : Int) (j : Nat), 0 ≤ v ∧ v < 18446744073709551616 ∧ j ≤ k + 20 ∧ x = .returned (.tuple #[.int .u64 v, .int .i64 j]) ∧ w = w') := drawWord_any (.inl ⟨rfl, rfl, rfl, rfl, rfl, rfl, rfl⟩) a len cap k w hC (by omega)
    clear hC
    go_enter Tryz.func59, Tryz.ntmps59
    go_upto_region 6 with (go_at_call 110; refine (HW.out).mono ?_; rintro x w' ⟨v, j, v0, v1, hj, rfl, hw⟩; subst hw)
    go_upto_region 7 with (go_at_call 36; refine (take_any a len cap j 50 _ HC.out (by omega) (by omega) (by omega)).mono ?_; rintro x w' ⟨d, d0, d1, rfl, hw⟩; subst hw)
    rcases (show d = 49 ∨ (d == 49) = false by simp; omega) with rfl | k0
    all_goals go_wp2_with (go_at_call 75; refine (HT.out _).mono ?_; rintro x w' ⟨rfl, hw⟩; subst hw)
    all_goals go_returns
    all_goals first | refine ⟨_, j + 1, ?_, ?_, by omega, rfl, rfl⟩ | refine ⟨_, ?_, ?_, j + 1, by omega, rfl, rfl⟩
    all_goals first | omega | (simp only [IntKind.wrap_u64]; omega)
  · have HW : Hid (Calls Tryz.prog 110 #[.slice a len cap, .int .i64 k, .int .i64 1] w fun x w' => ∃ (v : Int) (j : Nat), 0 ≤ v ∧ v < 18446744073709551616 ∧ j ≤ k + 20 ∧ x = .returned (.tuple #[.int .u64 v, .int .i64 j]) ∧ w = w') := drawWord_any fmt64 a len cap k w hC (by omega)
    clear hC
    go_enter Tryz.func59, Tryz.ntmps59
    go_upto_region 6 with (go_at_call 110; refine (HW.out).mono ?_; rintro x w' ⟨v, j, v0, v1, hj, rfl, hw⟩; subst hw)
    go_upto_region 7 with (go_at_call 36; refine (take_any a len cap j 50 _ HC.out (by omega) (by omega) (by omega)).mono ?_; rintro x w' ⟨d, d0, d1, rfl, hw⟩; subst hw)
    rcases (show d = 49 ∨ (d == 49) = false by simp; omega) with rfl | k0
    all_goals go_wp2_with (go_at_call 75; refine (HT.out _).mono ?_; rintro x w' ⟨rfl, hw⟩; subst hw)
    all_goals go_returns
    all_goals first | refine ⟨_, j + 1, ?_, ?_, by omega, rfl, rfl⟩ | refine ⟨_, ?_, ?_, j + 1, by omega, rfl, rfl⟩
    all_goals first | omega | (simp only [IntKind.wrap_u64]; omega)

end Go.Proofs.YtkflpogmhailhaaGreatDoor

/- spec.l3Turned. -/
set_option linter.unusedVariables false
set_option linter.unusedSimpArgs false
namespace Go.Proofs.YtkflpogmhailhaaGreatDoor
open Go.RowKit

set_option maxRecDepth 100000 in
set_option maxHeartbeats 2000000 in
theorem l3Turned_any {f p mx one inf sg nan : Int} (h : IsFmt f p mx one inf sg nan) (v z : Int) (v0 : 0 ≤ v) (v1 : v < 2 * sg) (hz : v < sg ∧ z = v + sg ∨ sg ≤ v ∧ z = v - sg) (w : World) :
    Calls Tryz.prog 64 #[.int .i64 f, .int .u64 v] w fun e w' => e = .returned (.int .u64 z) ∧ w = w' := by
  have hb := h.bounds
  have HS : Hid (∀ w, Calls Tryz.prog 65 #[.int .i64 f] w fun e w' => e = .returned (.int .u64 sg) ∧ w = w') := fun w => l2Sign_any h w
  have hc : (v < sg ∧ IntKind.u64.wrap (v + sg) = z) ∨ (sg ≤ v ∧ IntKind.u64.wrap (v - sg) = z) := by
    rcases hz with ⟨a, rfl⟩ | ⟨a, rfl⟩
    · exact .inl ⟨a, by rw [IntKind.wrap_u64]; omega⟩
    · exact .inr ⟨a, by rw [IntKind.wrap_u64]; omega⟩
  clear h hz hb
  rcases hc with ⟨c, u1⟩ | ⟨c, u1⟩
  all_goals
    go_enter Tryz.func64, Tryz.ntmps64
    go_wp2_with (go_at_call 65; refine (HS.out _).mono ?_; rintro x wk ⟨rfl, hw⟩; subst hw)
    go_returns
    exact ⟨ret_congr (by first | rfl | (simp; omega) | (rw [u1])), rfl⟩

end Go.Proofs.YtkflpogmhailhaaGreatDoor

/- spec's drawing functions of chapter 3: l3DrawTwo. -/
set_option linter.unusedVariables false
set_option linter.unusedSimpArgs false
namespace Go.Proofs.YtkflpogmhailhaaGreatDoor
open Go.RowKit

theorem turned_is (sg v : Int) (h : 0 < sg) : ∃ z, (v < sg ∧ z = v + sg ∨ sg ≤ v ∧ z = v - sg) := by
  by_cases c : v < sg
  · exact ⟨_, .inl ⟨c, rfl⟩⟩
  · exact ⟨_, .inr ⟨by omega, rfl⟩⟩

theorem Gr.drewN {W w : World} (h : Gr W w) (n : Nat) : Gr W (w.drewN n) := by
  obtain ⟨⟨⟨a1, a2, a3⟩, b, c⟩, d⟩ := h
  exact ⟨⟨⟨a1, a2, a3⟩, b, c⟩, below_drewN d n⟩

/-- What l3DrawTwo gives. -/
def TwoDraw (p : Nat) (w : World) (x : Ending) (w' : World) : Prop := ∃ (f m u v : Int) (j : Nat), -10 ≤ f ∧ f ≤ 10 ∧ -10 ≤ m ∧ m ≤ 10 ∧ 0 ≤ u ∧ u < 18446744073709551616 ∧ 0 ≤ v ∧ v < 18446744073709551616 ∧ j ≤ p + 50 ∧ x = .returned (.tuple #[.int .i64 f, .int .i64 m, .int .u64 u, .int .u64 v, .int .i64 j]) ∧ Gr w w'

set_option maxRecDepth 100000 in
set_option maxHeartbeats 8000000 in
theorem drawTwo_any (a : Option Addr) (len cap p : Nat) (w : World) (hC : CodeRow w a len) (hp : p ≤ 600) :
    Calls Tryz.prog 35 #[.slice a len cap, .int .i64 p] w (TwoDraw p w) := by
  have HC : Hid (CodeRow w a len) := hC
  clear hC
  go_enter Tryz.func35, Tryz.ntmps35
  go_upto_region 2 with (go_at_call 90; refine (drawFormat_any a len cap p _ HC.out (by omega)).mono ?_; rintro x w' ⟨f, m, f0, f1, m0, m1, rfl, hw⟩; subst hw)
  go_upto_region 3 with (go_at_call 36; refine (take_any a len cap (p + 2) 8 _ HC.out (by omega) (by omega) (by omega)).mono ?_; rintro x w' ⟨hw8, h0, h1, rfl, hw⟩; subst hw)
  go_upto_region 4 with (go_at_call 36; refine (take_any a len cap (p + 2 + 1) 16 _ HC.out (by omega) (by omega) (by omega)).mono ?_; rintro x w' ⟨x16, x0, x1, rfl, hw⟩; subst hw)
  go_upto_region 5 with (go_at_call 59; refine (drawAny_any a len cap (p + 2 + 1 + 1) f _ HC.out (by omega)).mono ?_; rintro x w' ⟨u, j1, u0, u1, hj1, rfl, hw⟩; subst hw)
  go_upto_region 6 with (go_at_call 59; refine (drawAny_any a len cap j1 f _ HC.out (by omega)).mono ?_; rintro x w' ⟨v, j2, v0, v1, hj2, rfl, hw⟩; subst hw)
  rcases fit_or f u u0 u1 with ⟨pp, mx, one, inf, sg, nan, hF, hu⟩ | hno
  · have hb := hF.bounds
    obtain ⟨z, hz⟩ := turned_is sg u (by omega)
    have HFt : Hid (∀ w, Calls Tryz.prog 74 #[.int .i64 f, .int .u64 u] w fun e w' => e = .returned (.bool true) ∧ w = w') := fun w => l2Fits_yes hF u u0 hu w
    have HTn : Hid (∀ w, Calls Tryz.prog 64 #[.int .i64 f, .int .u64 u] w fun e w' => e = .returned (.int .u64 z) ∧ w = w') := fun w => l3Turned_any hF u z u0 hu hz w
    have HSg : Hid (∀ w, Calls Tryz.prog 65 #[.int .i64 f] w fun e w' => e = .returned (.int .u64 sg) ∧ w = w') := fun w => l2Sign_any hF w
    have HIn : Hid (∀ w, Calls Tryz.prog 62 #[.int .i64 f] w fun e w' => e = .returned (.int .u64 inf) ∧ w = w') := fun w => l2Inf_any hF w
    have HP : Hid (∀ w, Calls Tryz.prog 76 #[.int .i64 f] w fun e w' => e = .returned (.int .i64 pp) ∧ w = w') := fun w => l2P_any hF w
    have HTw : Hid (∀ w, Calls Tryz.prog 75 #[.int .i64 (pp - 1)] w fun e w' => e = .returned (.int .u64 one) ∧ w = w') := fun w => l2One_any hF w
    have z0 : 0 ≤ z ∧ z < 2 * sg := by omega
    clear hz hb
    rcases hF with ⟨rfl, rfl, rfl, rfl, rfl, rfl, rfl⟩ | ⟨rfl, rfl, rfl, rfl, rfl, rfl, rfl⟩
    · skip
      go_upto_region 8 with (go_at_call 74; refine (HFt.out _).mono ?_; rintro x w' ⟨rfl, hw⟩; subst hw)
      rcases (show hw8 = 0 ∨ hw8 = 1 ∨ hw8 = 2 ∨ ((hw8 == 0) = false ∧ (hw8 == 1) = false ∧ (hw8 == 2) = false) by simp; omega) with rfl | rfl | rfl | ⟨k0, k1, k2⟩
      · go_upto_region 10 with (go_at_call 64; refine (HTn.out _).mono ?_; rintro x w' ⟨rfl, hw⟩; subst hw)
        obtain ⟨r, hr⟩ : ∃ r, Int.tmod z 2147483648 = r := ⟨_, rfl⟩
        have r0 : 0 ≤ r := by rw [← hr]; exact (tmod_small z 2147483648 (by omega) (by omega)).1
        rcases (show 8 < r ∧ r < 2139095032 ∨ r ≤ 8 ∨ 8 < r ∧ 2139095032 ≤ r by omega) with ⟨c1, c2⟩ | c1 | ⟨c1, c2⟩
        · have d1 : decide (8 < r) = true := decide_eq_true c1
          have d2 : decide (r < 2139095032) = true := decide_eq_true c2
          go_quiet (first | (go_at_call 65; refine Calls.quiet_of_same ((HSg.out _).mono (fun e w' h => ⟨h.1, h.2.symm⟩))) | (go_at_call 62; refine Calls.quiet_of_same ((HIn.out _).mono (fun e w' h => ⟨h.1, h.2.symm⟩))))
          all_goals go_wp2
          all_goals go_returns
          all_goals exact ⟨_, m, u, _, j2, by omega, by omega, m0, m1, u0, u1, by first | omega | (simp only [IntKind.wrap_u64]; omega), by first | omega | (simp only [IntKind.wrap_u64]; omega), by omega, rfl, by first | exact Gr.refl _ | exact Gr.drewN (Gr.refl _) _ | exact Gr.drew (Gr.refl _)⟩
        · have d1 : decide (8 < r) = false := decide_eq_false (by omega)
          go_quiet (first | (go_at_call 65; refine Calls.quiet_of_same ((HSg.out _).mono (fun e w' h => ⟨h.1, h.2.symm⟩))) | (go_at_call 62; refine Calls.quiet_of_same ((HIn.out _).mono (fun e w' h => ⟨h.1, h.2.symm⟩))))
          all_goals go_wp2
          all_goals go_returns
          all_goals exact ⟨_, m, u, _, j2, by omega, by omega, m0, m1, u0, u1, by first | omega | (simp only [IntKind.wrap_u64]; omega), by first | omega | (simp only [IntKind.wrap_u64]; omega), by omega, rfl, by first | exact Gr.refl _ | exact Gr.drewN (Gr.refl _) _ | exact Gr.drew (Gr.refl _)⟩
        · have d1 : decide (8 < r) = true := decide_eq_true c1
          have d2 : decide (r < 2139095032) = false := decide_eq_false (by omega)
          go_quiet (first | (go_at_call 65; refine Calls.quiet_of_same ((HSg.out _).mono (fun e w' h => ⟨h.1, h.2.symm⟩))) | (go_at_call 62; refine Calls.quiet_of_same ((HIn.out _).mono (fun e w' h => ⟨h.1, h.2.symm⟩))))
          all_goals go_wp2
          all_goals go_returns
          all_goals exact ⟨_, m, u, _, j2, by omega, by omega, m0, m1, u0, u1, by first | omega | (simp only [IntKind.wrap_u64]; omega), by first | omega | (simp only [IntKind.wrap_u64]; omega), by omega, rfl, by first | exact Gr.refl _ | exact Gr.drewN (Gr.refl _) _ | exact Gr.drew (Gr.refl _)⟩
      · go_wp2
        go_returns
        exact ⟨_, m, u, _, j2, by omega, by omega, m0, m1, u0, u1, by first | omega | (simp only [IntKind.wrap_u64]; omega), by first | omega | (simp only [IntKind.wrap_u64]; omega), by omega, rfl, by first | exact Gr.refl _ | exact Gr.drewN (Gr.refl _) _ | exact Gr.drew (Gr.refl _)⟩
      · go_upto_region 17 with (first | (go_at_call 76; refine (HP.out _).mono ?_; rintro x w' ⟨rfl, hw⟩; subst hw) | (go_at_call 75; refine (HTw.out _).mono ?_; rintro x w' ⟨rfl, hw⟩; subst hw) | (go_at_call 64; refine (HTn.out _).mono ?_; rintro x w' ⟨rfl, hw⟩; subst hw))
        all_goals go_quiet (first | (go_at_call 65; refine Calls.quiet_of_same ((HSg.out _).mono (fun e w' h => ⟨h.1, h.2.symm⟩))) | (go_at_call 62; refine Calls.quiet_of_same ((HIn.out _).mono (fun e w' h => ⟨h.1, h.2.symm⟩))))
        all_goals go_wp2
        all_goals go_returns
        all_goals exact ⟨_, m, u, _, j2, by omega, by omega, m0, m1, u0, u1, by first | omega | (simp only [IntKind.wrap_u64]; omega), by first | omega | (simp only [IntKind.wrap_u64]; omega), by omega, rfl, by first | exact Gr.refl _ | exact Gr.drewN (Gr.refl _) _ | exact Gr.drew (Gr.refl _)⟩
      · go_wp2
        go_returns
        exact ⟨_, m, u, _, j2, by omega, by omega, m0, m1, u0, u1, by first | omega | (simp only [IntKind.wrap_u64]; omega), by first | omega | (simp only [IntKind.wrap_u64]; omega), by omega, rfl, by first | exact Gr.refl _ | exact Gr.drewN (Gr.refl _) _ | exact Gr.drew (Gr.refl _)⟩
    · skip
      go_upto_region 8 with (go_at_call 74; refine (HFt.out _).mono ?_; rintro x w' ⟨rfl, hw⟩; subst hw)
      rcases (show hw8 = 0 ∨ hw8 = 1 ∨ hw8 = 2 ∨ ((hw8 == 0) = false ∧ (hw8 == 1) = false ∧ (hw8 == 2) = false) by simp; omega) with rfl | rfl | rfl | ⟨k0, k1, k2⟩
      · go_upto_region 10 with (go_at_call 64; refine (HTn.out _).mono ?_; rintro x w' ⟨rfl, hw⟩; subst hw)
        obtain ⟨r, hr⟩ : ∃ r, Int.tmod z 9223372036854775808 = r := ⟨_, rfl⟩
        have r0 : 0 ≤ r := by rw [← hr]; exact (tmod_small z 9223372036854775808 (by omega) (by omega)).1
        rcases (show 8 < r ∧ r < 9218868437227405304 ∨ r ≤ 8 ∨ 8 < r ∧ 9218868437227405304 ≤ r by omega) with ⟨c1, c2⟩ | c1 | ⟨c1, c2⟩
        · have d1 : decide (8 < r) = true := decide_eq_true c1
          have d2 : decide (r < 9218868437227405304) = true := decide_eq_true c2
          go_quiet (first | (go_at_call 65; refine Calls.quiet_of_same ((HSg.out _).mono (fun e w' h => ⟨h.1, h.2.symm⟩))) | (go_at_call 62; refine Calls.quiet_of_same ((HIn.out _).mono (fun e w' h => ⟨h.1, h.2.symm⟩))))
          all_goals go_wp2
          all_goals go_returns
          all_goals exact ⟨_, m, u, _, j2, by omega, by omega, m0, m1, u0, u1, by first | omega | (simp only [IntKind.wrap_u64]; omega), by first | omega | (simp only [IntKind.wrap_u64]; omega), by omega, rfl, by first | exact Gr.refl _ | exact Gr.drewN (Gr.refl _) _ | exact Gr.drew (Gr.refl _)⟩
        · have d1 : decide (8 < r) = false := decide_eq_false (by omega)
          go_quiet (first | (go_at_call 65; refine Calls.quiet_of_same ((HSg.out _).mono (fun e w' h => ⟨h.1, h.2.symm⟩))) | (go_at_call 62; refine Calls.quiet_of_same ((HIn.out _).mono (fun e w' h => ⟨h.1, h.2.symm⟩))))
          all_goals go_wp2
          all_goals go_returns
          all_goals exact ⟨_, m, u, _, j2, by omega, by omega, m0, m1, u0, u1, by first | omega | (simp only [IntKind.wrap_u64]; omega), by first | omega | (simp only [IntKind.wrap_u64]; omega), by omega, rfl, by first | exact Gr.refl _ | exact Gr.drewN (Gr.refl _) _ | exact Gr.drew (Gr.refl _)⟩
        · have d1 : decide (8 < r) = true := decide_eq_true c1
          have d2 : decide (r < 9218868437227405304) = false := decide_eq_false (by omega)
          go_quiet (first | (go_at_call 65; refine Calls.quiet_of_same ((HSg.out _).mono (fun e w' h => ⟨h.1, h.2.symm⟩))) | (go_at_call 62; refine Calls.quiet_of_same ((HIn.out _).mono (fun e w' h => ⟨h.1, h.2.symm⟩))))
          all_goals go_wp2
          all_goals go_returns
          all_goals exact ⟨_, m, u, _, j2, by omega, by omega, m0, m1, u0, u1, by first | omega | (simp only [IntKind.wrap_u64]; omega), by first | omega | (simp only [IntKind.wrap_u64]; omega), by omega, rfl, by first | exact Gr.refl _ | exact Gr.drewN (Gr.refl _) _ | exact Gr.drew (Gr.refl _)⟩
      · go_wp2
        go_returns
        exact ⟨_, m, u, _, j2, by omega, by omega, m0, m1, u0, u1, by first | omega | (simp only [IntKind.wrap_u64]; omega), by first | omega | (simp only [IntKind.wrap_u64]; omega), by omega, rfl, by first | exact Gr.refl _ | exact Gr.drewN (Gr.refl _) _ | exact Gr.drew (Gr.refl _)⟩
      · go_upto_region 17 with (first | (go_at_call 76; refine (HP.out _).mono ?_; rintro x w' ⟨rfl, hw⟩; subst hw) | (go_at_call 75; refine (HTw.out _).mono ?_; rintro x w' ⟨rfl, hw⟩; subst hw) | (go_at_call 64; refine (HTn.out _).mono ?_; rintro x w' ⟨rfl, hw⟩; subst hw))
        all_goals go_quiet (first | (go_at_call 65; refine Calls.quiet_of_same ((HSg.out _).mono (fun e w' h => ⟨h.1, h.2.symm⟩))) | (go_at_call 62; refine Calls.quiet_of_same ((HIn.out _).mono (fun e w' h => ⟨h.1, h.2.symm⟩))))
        all_goals go_wp2
        all_goals go_returns
        all_goals exact ⟨_, m, u, _, j2, by omega, by omega, m0, m1, u0, u1, by first | omega | (simp only [IntKind.wrap_u64]; omega), by first | omega | (simp only [IntKind.wrap_u64]; omega), by omega, rfl, by first | exact Gr.refl _ | exact Gr.drewN (Gr.refl _) _ | exact Gr.drew (Gr.refl _)⟩
      · go_wp2
        go_returns
        exact ⟨_, m, u, _, j2, by omega, by omega, m0, m1, u0, u1, by first | omega | (simp only [IntKind.wrap_u64]; omega), by first | omega | (simp only [IntKind.wrap_u64]; omega), by omega, rfl, by first | exact Gr.refl _ | exact Gr.drewN (Gr.refl _) _ | exact Gr.drew (Gr.refl _)⟩
  · have HFt : Hid (∀ w, Calls Tryz.prog 74 #[.int .i64 f, .int .u64 u] w fun e w' => e = .returned (.bool false) ∧ w = w') := fun w => l2Fits_no f u u0 hno w
    clear hno
    go_wp2_with (go_at_call 74; refine (HFt.out _).mono ?_; rintro x w' ⟨rfl, hw⟩; subst hw)
    go_returns
    exact ⟨f, m, u, v, j2, f0, f1, m0, m1, u0, u1, v0, v1, by omega, rfl, by first | exact Gr.refl _ | exact Gr.drewN (Gr.refl _) _ | exact Gr.drew (Gr.refl _)⟩
end Go.Proofs.YtkflpogmhailhaaGreatDoor
