/- spec.l1Bits, l1Wide, l2DrawFormat, l2DrawExp, l2DrawWord, l2Any, DrawUnpack. -/
import Derived.Test.YtfhbhghifeefeaaDoorTake
import Derived.Deep.DeepCutAuto
import Derived.Deep.Cut
import Derived.Test.YtfhbhghifeefeaaDoorL2A
import Derived.Deep.RegionHeld3
set_option linter.unusedVariables false
set_option linter.unusedSimpArgs false

namespace Go.Proofs.YtfhbhghifeefeaaDoor
open Go.RowKit

set_option maxHeartbeats 4000000 in
theorem bitsN_any (a : Option Addr) (len cap p n : Nat) (hn : n ≤ 64) (w : World) (hC : CodeRow w a len) (hp : p ≤ 900) :
    Calls Tryd.prog 18 #[.slice a len cap, .int .i64 p, .int .i64 n] w fun e w' => ∃ (v : Int) (k : Nat), 0 ≤ v ∧ v < 18446744073709551616 ∧ k ≤ p + 10 ∧ e = .returned (.tuple #[.int .u64 v, .int .i64 k]) ∧ w = w' := by
  have HC : Hid _ := hC
  clear hC
  go_enter Tryd.func18, Tryd.ntmps18
  go_wp2_with (go_at_call 19; refine (take_any a len cap p 5 _ HC.out (by omega) (by omega) (by omega)).mono ?_; rintro e w' ⟨how, hw0, hw1, rfl, hw⟩; subst hw)
  go_loop [1, 10, 11] (fun s1 s10 s11 => ∃ (i : Nat) (v : Int), i ≤ 8 ∧ s1 = .int .i64 ((p + 1 + i : Nat) : Int) ∧ s10 = .int .u64 v ∧ 0 ≤ v ∧ v < 18446744073709551616 ∧ s11 = .int .i64 i) (fun _ _ s => 8 - (intOf s).toNat)
  case atStart => exact ⟨0, 0, by omega, by go_num, rfl, by omega, by omega, rfl⟩
  case round =>
    obtain ⟨i, v, hi, rfl, rfl, v0, v1, rfl⟩ := hrel
    by_cases hlt : (i : Int) < 8
    · rcases (show how = 0 ∨ how = 1 ∨ ((how == 0) = false ∧ (how == 1) = false) by simp; omega) with rfl | rfl | ⟨e0, e1⟩
      · rcases (show i = 0 ∨ i = 7 ∨ (0 < i ∧ i < 7) by omega) with rfl | rfl | ⟨i0, i7⟩
        · go_wp2_with (go_at_call 19; refine (take_any a len cap (p + 1 + 0) 256 _ HC.out (by omega) (by omega) (by omega)).mono ?_; rintro e w' ⟨x, x0, x1, rfl, hw⟩; subst hw)
          go_round
          case rel => exact ⟨0 + 1, IntKind.u64.wrap (IntKind.u64.wrap (v * 256) + x), by omega, by go_num, rfl, by simp only [IntKind.wrap_u64]; omega, by simp only [IntKind.wrap_u64]; omega, by go_num⟩
          case measure => simp [intOf] <;> omega
        · go_wp2_with (go_at_call 19; refine (take_any a len cap (p + 1 + 7) 256 _ HC.out (by omega) (by omega) (by omega)).mono ?_; rintro e w' ⟨x, x0, x1, rfl, hw⟩; subst hw)
          go_round
          case rel => exact ⟨7 + 1, IntKind.u64.wrap (IntKind.u64.wrap (v * 256) + x), by omega, by go_num, rfl, by simp only [IntKind.wrap_u64]; omega, by simp only [IntKind.wrap_u64]; omega, by go_num⟩
          case measure => simp [intOf] <;> omega
        · go_wp2_with (go_at_call 19; refine (take_any a len cap (p + 1 + i) 256 _ HC.out (by omega) (by omega) (by omega)).mono ?_; rintro e w' ⟨x, x0, x1, rfl, hw⟩; subst hw)
          go_round
          case rel => exact ⟨i + 1, IntKind.u64.wrap (IntKind.u64.wrap (v * 256)), by omega, by go_num, rfl, by simp only [IntKind.wrap_u64]; omega, by simp only [IntKind.wrap_u64]; omega, by go_num⟩
          case measure => simp [intOf] <;> omega
      · rcases (show i = 0 ∨ i = 7 ∨ (0 < i ∧ i < 7) by omega) with rfl | rfl | ⟨i0, i7⟩
        · go_wp2_with (go_at_call 19; refine (take_any a len cap (p + 1 + 0) 256 _ HC.out (by omega) (by omega) (by omega)).mono ?_; rintro e w' ⟨x, x0, x1, rfl, hw⟩; subst hw)
          go_round
          case rel => exact ⟨0 + 1, IntKind.u64.wrap (IntKind.u64.wrap (v * 256) + x), by omega, by go_num, rfl, by simp only [IntKind.wrap_u64]; omega, by simp only [IntKind.wrap_u64]; omega, by go_num⟩
          case measure => simp [intOf] <;> omega
        · go_wp2_with (go_at_call 19; refine (take_any a len cap (p + 1 + 7) 256 _ HC.out (by omega) (by omega) (by omega)).mono ?_; rintro e w' ⟨x, x0, x1, rfl, hw⟩; subst hw)
          go_round
          case rel => exact ⟨7 + 1, IntKind.u64.wrap (IntKind.u64.wrap (v * 256) + x), by omega, by go_num, rfl, by simp only [IntKind.wrap_u64]; omega, by simp only [IntKind.wrap_u64]; omega, by go_num⟩
          case measure => simp [intOf] <;> omega
        · go_wp2_with (go_at_call 19; refine (take_any a len cap (p + 1 + i) 256 _ HC.out (by omega) (by omega) (by omega)).mono ?_; rintro e w' ⟨x, x0, x1, rfl, hw⟩; subst hw)
          go_round
          case rel => exact ⟨i + 1, IntKind.u64.wrap (IntKind.u64.wrap (v * 256) + 255), by omega, by go_num, rfl, by simp only [IntKind.wrap_u64]; omega, by simp only [IntKind.wrap_u64]; omega, by go_num⟩
          case measure => simp [intOf] <;> omega
      · go_wp2_with (go_at_call 19; refine (take_any a len cap (p + 1 + i) 256 _ HC.out (by omega) (by omega) (by omega)).mono ?_; rintro e w' ⟨x, x0, x1, rfl, hw⟩; subst hw)
        go_round
        case rel => exact ⟨i + 1, IntKind.u64.wrap (IntKind.u64.wrap (v * 256) + x), by omega, by go_num, rfl, by simp only [IntKind.wrap_u64]; omega, by simp only [IntKind.wrap_u64]; omega, by go_num⟩
        case measure => simp [intOf] <;> omega
    · by_cases h2 : how = 2
      · subst h2
        go_wp2_with (go_at_call 19; refine (take_any a len cap (p + 1 + i) 64 _ HC.out (by omega) (by omega) (by omega)).mono ?_; rintro e w' ⟨x, x0, x1, rfl, hw⟩; subst hw)
        go_loop [10, 12] (fun s10 s12 => ∃ (j v : Int), 0 ≤ j ∧ j ≤ x ∧ s10 = .int .u64 v ∧ 0 ≤ v ∧ v < 18446744073709551616 ∧ s12 = .int .i64 j) (fun _ s => (64 - intOf s).toNat)
        case atStart => exact ⟨0, v, by omega, x0, rfl, v0, v1, rfl⟩
        case round =>
          obtain ⟨j, u, j0, j1, rfl, u0, u1, rfl⟩ := hrel
          by_cases hj : j < x
          · go_wp2
            go_round
            case rel => exact ⟨j + 1, u / 2, by omega, by omega, rfl, by omega, by omega, rfl⟩
            case measure => simp [intOf]; omega
          · go_wp2
            go_loop [10, 13] (fun s10 s13 => ∃ (j : Nat) (x : Int), j ≤ 64 ∧ s10 = .int .u64 x ∧ 0 ≤ x ∧ x < 18446744073709551616 ∧ s13 = .int .i64 j) (fun _ s => 64 - (intOf s).toNat)
            case atStart => exact ⟨n, u, hn, rfl, u0, u1, rfl⟩
            case round =>
              obtain ⟨j, x, j1, rfl, x0, x1, rfl⟩ := hrel
              by_cases hj : (j : Int) < 64
              · go_wp2
                go_round
                case rel => exact ⟨j + 1, IntKind.u64.wrap (x * 2), by omega, rfl, by simp only [IntKind.wrap_u64]; omega, by simp only [IntKind.wrap_u64]; omega, by go_num⟩
                case measure => simp [intOf] <;> omega
              · go_wp2
                go_loop [10, 14] (fun s10 s14 => ∃ (j : Nat) (x : Int), j ≤ 64 ∧ s10 = .int .u64 x ∧ 0 ≤ x ∧ x < 18446744073709551616 ∧ s14 = .int .i64 j) (fun _ s => 64 - (intOf s).toNat)
                case atStart => exact ⟨n, x, hn, rfl, x0, x1, rfl⟩
                case round =>
                  obtain ⟨j', y, j2, rfl, y0, y1, rfl⟩ := hrel
                  by_cases hj' : (j' : Int) < 64
                  · go_wp2
                    go_round
                    case rel => exact ⟨j' + 1, y / 2, by omega, rfl, by omega, by omega, by go_num⟩
                    case measure => simp [intOf] <;> omega
                  · go_wp2
                    go_returns
                    first | exact ⟨y, p + 1 + i + 1, y0, y1, by omega, rfl, rfl⟩ | exact ⟨y, y0, y1, p + 1 + i + 1, by omega, rfl, rfl⟩
      · have e2 : (how == 2) = false := by simp [h2]
        clear h2
        go_wp2
        go_loop [10, 13] (fun s10 s13 => ∃ (j : Nat) (x : Int), j ≤ 64 ∧ s10 = .int .u64 x ∧ 0 ≤ x ∧ x < 18446744073709551616 ∧ s13 = .int .i64 j) (fun _ s => 64 - (intOf s).toNat)
        case atStart => exact ⟨n, v, hn, rfl, v0, v1, rfl⟩
        case round =>
          obtain ⟨j, x, j1, rfl, x0, x1, rfl⟩ := hrel
          by_cases hj : (j : Int) < 64
          · go_wp2
            go_round
            case rel => exact ⟨j + 1, IntKind.u64.wrap (x * 2), by omega, rfl, by simp only [IntKind.wrap_u64]; omega, by simp only [IntKind.wrap_u64]; omega, by go_num⟩
            case measure => simp [intOf] <;> omega
          · go_wp2
            go_loop [10, 14] (fun s10 s14 => ∃ (j : Nat) (x : Int), j ≤ 64 ∧ s10 = .int .u64 x ∧ 0 ≤ x ∧ x < 18446744073709551616 ∧ s14 = .int .i64 j) (fun _ s => 64 - (intOf s).toNat)
            case atStart => exact ⟨n, x, hn, rfl, x0, x1, rfl⟩
            case round =>
              obtain ⟨j', y, j2, rfl, y0, y1, rfl⟩ := hrel
              by_cases hj' : (j' : Int) < 64
              · go_wp2
                go_round
                case rel => exact ⟨j' + 1, y / 2, by omega, rfl, by omega, by omega, by go_num⟩
                case measure => simp [intOf] <;> omega
              · go_wp2
                go_returns
                first | exact ⟨y, p + 1 + i, y0, y1, by omega, rfl, rfl⟩ | exact ⟨y, y0, y1, p + 1 + i, by omega, rfl, rfl⟩

end Go.Proofs.YtfhbhghifeefeaaDoor
