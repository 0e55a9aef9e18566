/- spec.l1Bits, l1Wide, l2DrawFormat, l2DrawExp, l2DrawWord, l2Any, DrawUnpack. -/
import Derived.Test.YtoaggnpcmieeaaaDoorTake
import Derived.Deep.DeepCutAuto
import Derived.Deep.Cut
import Derived.Test.YtoaggnpcmieeaaaDoorL2A
import Derived.Deep.RegionHeld3
set_option linter.unusedVariables false
set_option linter.unusedSimpArgs false

namespace Go.Proofs.YtoaggnpcmieeaaaDoor
open Go.RowKit

set_option maxHeartbeats 4000000 in
theorem bitsN_any (a : Option Addr) (len cap p n : Nat) (hn : n ≤ 64) (w : World) (hC : CodeRow w a len) (hp : p ≤ 900) :
    Calls Tryd.prog 65 #[.slice a len cap, .int .i64 p, .int .i64 n] w fun e w' => ∃ (v : Int) (k : Nat), 0 ≤ v ∧ v < 18446744073709551616 ∧ k ≤ p + 10 ∧ e = .returned (.tuple #[.int .u64 v, .int .i64 k]) ∧ w = w' := by
  have HC : Hid _ := hC
  clear hC
  go_enter Tryd.func65, Tryd.ntmps65
  go_wp2_with (go_at_call 46; refine (take_any a len cap p 5 _ HC.out (by omega) (by omega) (by omega)).mono ?_; rintro e w' ⟨how, hw0, hw1, rfl, hw⟩; subst hw)
  go_loop [1, 10, 11] (fun s1 s10 s11 => ∃ (i : Nat) (v : Int), i ≤ 8 ∧ s1 = .int .i64 ((p + 1 + i : Nat) : Int) ∧ s10 = .int .u64 v ∧ 0 ≤ v ∧ v < 18446744073709551616 ∧ s11 = .int .i64 i) (fun _ _ s => 8 - (intOf s).toNat)
  case atStart => exact ⟨0, 0, by omega, by go_num, rfl, by omega, by omega, rfl⟩
  case round =>
    obtain ⟨i, v, hi, rfl, rfl, v0, v1, rfl⟩ := hrel
    by_cases hlt : (i : Int) < 8
    · rcases (show how = 0 ∨ how = 1 ∨ ((how == 0) = false ∧ (how == 1) = false) by simp; omega) with rfl | rfl | ⟨e0, e1⟩
      · rcases (show i = 0 ∨ i = 7 ∨ (0 < i ∧ i < 7) by omega) with rfl | rfl | ⟨i0, i7⟩
        · go_wp2_with (go_at_call 46; refine (take_any a len cap (p + 1 + 0) 256 _ HC.out (by omega) (by omega) (by omega)).mono ?_; rintro e w' ⟨x, x0, x1, rfl, hw⟩; subst hw)
          go_round
          case rel => exact ⟨0 + 1, IntKind.u64.wrap (IntKind.u64.wrap (v * 256) + x), by omega, by go_num, rfl, by simp only [IntKind.wrap_u64]; omega, by simp only [IntKind.wrap_u64]; omega, by go_num⟩
          case measure => simp [intOf] <;> omega
        · go_wp2_with (go_at_call 46; refine (take_any a len cap (p + 1 + 7) 256 _ HC.out (by omega) (by omega) (by omega)).mono ?_; rintro e w' ⟨x, x0, x1, rfl, hw⟩; subst hw)
          go_round
          case rel => exact ⟨7 + 1, IntKind.u64.wrap (IntKind.u64.wrap (v * 256) + x), by omega, by go_num, rfl, by simp only [IntKind.wrap_u64]; omega, by simp only [IntKind.wrap_u64]; omega, by go_num⟩
          case measure => simp [intOf] <;> omega
        · go_wp2_with (go_at_call 46; refine (take_any a len cap (p + 1 + i) 256 _ HC.out (by omega) (by omega) (by omega)).mono ?_; rintro e w' ⟨x, x0, x1, rfl, hw⟩; subst hw)
          go_round
          case rel => exact ⟨i + 1, IntKind.u64.wrap (IntKind.u64.wrap (v * 256)), by omega, by go_num, rfl, by simp only [IntKind.wrap_u64]; omega, by simp only [IntKind.wrap_u64]; omega, by go_num⟩
          case measure => simp [intOf] <;> omega
      · rcases (show i = 0 ∨ i = 7 ∨ (0 < i ∧ i < 7) by omega) with rfl | rfl | ⟨i0, i7⟩
        · go_wp2_with (go_at_call 46; refine (take_any a len cap (p + 1 + 0) 256 _ HC.out (by omega) (by omega) (by omega)).mono ?_; rintro e w' ⟨x, x0, x1, rfl, hw⟩; subst hw)
          go_round
          case rel => exact ⟨0 + 1, IntKind.u64.wrap (IntKind.u64.wrap (v * 256) + x), by omega, by go_num, rfl, by simp only [IntKind.wrap_u64]; omega, by simp only [IntKind.wrap_u64]; omega, by go_num⟩
          case measure => simp [intOf] <;> omega
        · go_wp2_with (go_at_call 46; refine (take_any a len cap (p + 1 + 7) 256 _ HC.out (by omega) (by omega) (by omega)).mono ?_; rintro e w' ⟨x, x0, x1, rfl, hw⟩; subst hw)
          go_round
          case rel => exact ⟨7 + 1, IntKind.u64.wrap (IntKind.u64.wrap (v * 256) + x), by omega, by go_num, rfl, by simp only [IntKind.wrap_u64]; omega, by simp only [IntKind.wrap_u64]; omega, by go_num⟩
          case measure => simp [intOf] <;> omega
        · go_wp2_with (go_at_call 46; refine (take_any a len cap (p + 1 + i) 256 _ HC.out (by omega) (by omega) (by omega)).mono ?_; rintro e w' ⟨x, x0, x1, rfl, hw⟩; subst hw)
          go_round
          case rel => exact ⟨i + 1, IntKind.u64.wrap (IntKind.u64.wrap (v * 256) + 255), by omega, by go_num, rfl, by simp only [IntKind.wrap_u64]; omega, by simp only [IntKind.wrap_u64]; omega, by go_num⟩
          case measure => simp [intOf] <;> omega
      · go_wp2_with (go_at_call 46; refine (take_any a len cap (p + 1 + i) 256 _ HC.out (by omega) (by omega) (by omega)).mono ?_; rintro e w' ⟨x, x0, x1, rfl, hw⟩; subst hw)
        go_round
        case rel => exact ⟨i + 1, IntKind.u64.wrap (IntKind.u64.wrap (v * 256) + x), by omega, by go_num, rfl, by simp only [IntKind.wrap_u64]; omega, by simp only [IntKind.wrap_u64]; omega, by go_num⟩
        case measure => simp [intOf] <;> omega
    · by_cases h2 : how = 2
      · subst h2
        go_wp2_with (go_at_call 46; refine (take_any a len cap (p + 1 + i) 64 _ HC.out (by omega) (by omega) (by omega)).mono ?_; rintro e w' ⟨x, x0, x1, rfl, hw⟩; subst hw)
        go_loop [10, 12] (fun s10 s12 => ∃ (j v : Int), 0 ≤ j ∧ j ≤ x ∧ s10 = .int .u64 v ∧ 0 ≤ v ∧ v < 18446744073709551616 ∧ s12 = .int .i64 j) (fun _ s => (64 - intOf s).toNat)
        case atStart => exact ⟨0, v, by omega, x0, rfl, v0, v1, rfl⟩
        case round =>
          obtain ⟨j, u, j0, j1, rfl, u0, u1, rfl⟩ := hrel
          by_cases hj : j < x
          · go_wp2
            go_round
            case rel => exact ⟨j + 1, u / 2, by omega, by omega, rfl, by omega, by omega, rfl⟩
            case measure => simp [intOf]; omega
          · go_wp2
            go_loop [10, 13] (fun s10 s13 => ∃ (j : Nat) (x : Int), j ≤ 64 ∧ s10 = .int .u64 x ∧ 0 ≤ x ∧ x < 18446744073709551616 ∧ s13 = .int .i64 j) (fun _ s => 64 - (intOf s).toNat)
            case atStart => exact ⟨n, u, hn, rfl, u0, u1, rfl⟩
            case round =>
              obtain ⟨j, x, j1, rfl, x0, x1, rfl⟩ := hrel
              by_cases hj : (j : Int) < 64
              · go_wp2
                go_round
                case rel => exact ⟨j + 1, IntKind.u64.wrap (x * 2), by omega, rfl, by simp only [IntKind.wrap_u64]; omega, by simp only [IntKind.wrap_u64]; omega, by go_num⟩
                case measure => simp [intOf] <;> omega
              · go_wp2
                go_loop [10, 14] (fun s10 s14 => ∃ (j : Nat) (x : Int), j ≤ 64 ∧ s10 = .int .u64 x ∧ 0 ≤ x ∧ x < 18446744073709551616 ∧ s14 = .int .i64 j) (fun _ s => 64 - (intOf s).toNat)
                case atStart => exact ⟨n, x, hn, rfl, x0, x1, rfl⟩
                case round =>
                  obtain ⟨j', y, j2, rfl, y0, y1, rfl⟩ := hrel
                  by_cases hj' : (j' : Int) < 64
                  · go_wp2
                    go_round
                    case rel => exact ⟨j' + 1, y / 2, by omega, rfl, by omega, by omega, by go_num⟩
                    case measure => simp [intOf] <;> omega
                  · go_wp2
                    go_returns
                    first | exact ⟨y, p + 1 + i + 1, y0, y1, by omega, rfl, rfl⟩ | exact ⟨y, y0, y1, p + 1 + i + 1, by omega, rfl, rfl⟩
      · have e2 : (how == 2) = false := by simp [h2]
        clear h2
        go_wp2
        go_loop [10, 13] (fun s10 s13 => ∃ (j : Nat) (x : Int), j ≤ 64 ∧ s10 = .int .u64 x ∧ 0 ≤ x ∧ x < 18446744073709551616 ∧ s13 = .int .i64 j) (fun _ s => 64 - (intOf s).toNat)
        case atStart => exact ⟨n, v, hn, rfl, v0, v1, rfl⟩
        case round =>
          obtain ⟨j, x, j1, rfl, x0, x1, rfl⟩ := hrel
          by_cases hj : (j : Int) < 64
          · go_wp2
            go_round
            case rel => exact ⟨j + 1, IntKind.u64.wrap (x * 2), by omega, rfl, by simp only [IntKind.wrap_u64]; omega, by simp only [IntKind.wrap_u64]; omega, by go_num⟩
            case measure => simp [intOf] <;> omega
          · go_wp2
            go_loop [10, 14] (fun s10 s14 => ∃ (j : Nat) (x : Int), j ≤ 64 ∧ s10 = .int .u64 x ∧ 0 ≤ x ∧ x < 18446744073709551616 ∧ s14 = .int .i64 j) (fun _ s => 64 - (intOf s).toNat)
            case atStart => exact ⟨n, x, hn, rfl, x0, x1, rfl⟩
            case round =>
              obtain ⟨j', y, j2, rfl, y0, y1, rfl⟩ := hrel
              by_cases hj' : (j' : Int) < 64
              · go_wp2
                go_round
                case rel => exact ⟨j' + 1, y / 2, by omega, rfl, by omega, by omega, by go_num⟩
                case measure => simp [intOf] <;> omega
              · go_wp2
                go_returns
                first | exact ⟨y, p + 1 + i, y0, y1, by omega, rfl, rfl⟩ | exact ⟨y, y0, y1, p + 1 + i, by omega, rfl, rfl⟩

set_option maxRecDepth 100000 in
set_option maxHeartbeats 2000000 in
theorem drawFormat_any (a : Option Addr) (len cap p : Nat) (w : World) (hC : CodeRow w a len) (hp : p ≤ 900) :
    Calls Tryd.prog 44 #[.slice a len cap, .int .i64 p] w fun x w' => ∃ f m : Int, -10 ≤ f ∧ f ≤ 10 ∧ -10 ≤ m ∧ m ≤ 10 ∧ x = .returned (.tuple #[.int .i64 f, .int .i64 m, .int .i64 ((p + 2 : Nat) : Int)]) ∧ w = w' := by
  have HC : Hid (CodeRow w a len) := hC
  clear hC
  go_enter Tryd.func44, Tryd.ntmps44
  go_upto_region 3 with (go_at_call 46; refine (take_any a len cap p 40 _ HC.out (by omega) (by omega) (by omega)).mono ?_; rintro x w' ⟨c, c0, c1, rfl, hw⟩; subst hw)
  go_upto_region 4 with (go_at_call 46; refine (take_any a len cap (p + 1) 100 _ HC.out (by omega) (by omega) (by omega)).mono ?_; rintro x w' ⟨d, d0, d1, rfl, hw⟩; subst hw)
  rcases (show c = 39 ∨ (c == 39) = false by simp; omega) with rfl | k1 <;> rcases (show d = 99 ∨ (d == 99) = false by simp; omega) with rfl | k2
  all_goals go_wp2
  all_goals go_returns
  all_goals refine ⟨_, _, ?_, ?_, ?_, ?_, rfl, rfl⟩
  all_goals first | omega | (simp; omega)

set_option maxRecDepth 100000 in
set_option maxHeartbeats 4000000 in
theorem drawExp_any (a : Option Addr) (len cap p : Nat) (f : Int) (hf : f = 0 ∨ f = 1) (w : World) (hC : CodeRow w a len) (hp : p ≤ 900) :
    Calls Tryd.prog 84 #[.slice a len cap, .int .i64 p, .int .i64 f] w fun x w' => ∃ v : Int, 0 ≤ v ∧ v < 18446744073709551616 ∧ x = .returned (.tuple #[.int .u64 v, .int .i64 ((p + 2 : Nat) : Int)]) ∧ w = w' := by
  have HC : Hid (CodeRow w a len) := hC
  clear hC
  obtain ⟨mx, pp, hm, HM, HP⟩ : ∃ mx pp : Int, (mx = 127 ∨ mx = 1023) ∧ Hid ((24 ≤ pp ∧ pp ≤ 53) ∧ ∀ w, Calls Tryd.prog 49 #[.int .i64 f] w fun x w' => x = .returned (.int .i64 mx) ∧ w = w') ∧ Hid (∀ w, Calls Tryd.prog 23 #[.int .i64 f] w fun x w' => x = .returned (.int .i64 pp) ∧ w = w') := by
    rcases hf with rfl | rfl
    · exact ⟨127, 24, .inl rfl, ⟨by omega, fun w => l2Max_any (.inl ⟨rfl, rfl, rfl, rfl, rfl, rfl, rfl⟩) w⟩, fun w => l2P_any (.inl ⟨rfl, rfl, rfl, rfl, rfl, rfl, rfl⟩) w⟩
    · exact ⟨1023, 53, .inr rfl, ⟨by omega, fun w => l2Max_any fmt64 w⟩, fun w => l2P_any fmt64 w⟩
  have hpp := HM.out.1
  clear hf
  rcases hm with rfl | rfl
  all_goals
    go_enter Tryd.func84, Tryd.ntmps84
    go_upto_region 3 with (go_at_call 46; refine (take_any a len cap p 16 _ HC.out (by omega) (by omega) (by omega)).mono ?_; rintro x w' ⟨how, c0, c1, rfl, hw⟩; subst hw)
    go_upto_region 4 with (go_at_call 46; refine (take_any a len cap (p + 1) 256 _ HC.out (by omega) (by omega) (by omega)).mono ?_; rintro x w' ⟨d, d0, d1, rfl, hw⟩; subst hw)
    go_upto_region 5 with (go_at_call 49; refine (HM.out.2 _).mono ?_; rintro x w' ⟨rfl, hw⟩; subst hw)
    rcases (show how < 9 ∨ how = 9 ∨ how = 10 ∨ how = 11 ∨ how = 12 ∨ how = 13 ∨ how = 14 ∨ how = 15 by omega) with k | rfl | rfl | rfl | rfl | rfl | rfl | rfl
  all_goals go_wp2_with (go_at_call 23; refine (HP.out _).mono ?_; rintro x w' ⟨rfl, hw⟩; subst hw)
  all_goals go_returns
  all_goals refine ⟨_, ?_, ?_, rfl, rfl⟩
  all_goals first | omega | (simp only [IntKind.wrap_u64]; omega)

theorem l2Put_some {f p mx one inf sg nan : Int} (h : IsFmt f p mx one inf sg nan) (s v : Int) (hs : s = 0 ∨ s = 1) (v0 : 0 ≤ v) (v1 : v < 18446744073709551616) (w : World) :
    Calls Tryd.prog 38 #[.int .i64 f, .int .i64 s, .int .u64 v] w fun x w' => ∃ z : Int, 0 ≤ z ∧ z < 18446744073709551616 ∧ x = .returned (.int .u64 z) ∧ w = w' := by
  have HS : Hid (∀ w, Calls Tryd.prog 19 #[.int .i64 f] w fun x w' => x = .returned (.int .u64 sg) ∧ w = w') := fun w => l2Sign_any h w
  clear h
  rcases hs with rfl | rfl
  · go_enter Tryd.func38, Tryd.ntmps38
    go_wp2
    go_returns
    exact ⟨_, v0, v1, rfl, rfl⟩
  · go_enter Tryd.func38, Tryd.ntmps38
    go_wp2_with (go_at_call 19; refine (HS.out _).mono ?_; rintro x w' ⟨rfl, hw⟩; subst hw)
    go_returns
    refine ⟨_, ?_, ?_, rfl, rfl⟩
    all_goals (simp only [IntKind.wrap_u64]; omega)

set_option maxRecDepth 100000 in
set_option maxHeartbeats 4000000 in
theorem drawWord_any {f p mx one inf sg nan : Int} (h : IsFmt f p mx one inf sg nan) (a : Option Addr) (len cap k : Nat) (w : World) (hC : CodeRow w a len) (hp : k ≤ 800) :
    Calls Tryd.prog 64 #[.slice a len cap, .int .i64 k, .int .i64 f] w fun x w' => ∃ (v : Int) (j : Nat), 0 ≤ v ∧ v < 18446744073709551616 ∧ j ≤ k + 20 ∧ x = .returned (.tuple #[.int .u64 v, .int .i64 j]) ∧ w = w' := by
  have HC : Hid (CodeRow w a len) := hC
  have HE : Hid (∀ k : Nat, k ≤ 900 → Calls Tryd.prog 84 #[.slice a len cap, .int .i64 k, .int .i64 f] w fun x w' => ∃ v : Int, 0 ≤ v ∧ v < 18446744073709551616 ∧ x = .returned (.tuple #[.int .u64 v, .int .i64 ((k + 2 : Nat) : Int)]) ∧ w = w') := fun k hk => drawExp_any a len cap k f (by rcases h with h | h <;> omega) w hC hk
  have HP : Hid (∀ w, Calls Tryd.prog 23 #[.int .i64 f] w fun x w' => x = .returned (.int .i64 p) ∧ w = w') := fun w => l2P_any h w
  obtain ⟨p1, hp1⟩ : ∃ p1 : Int, p - 1 = p1 := ⟨_, rfl⟩
  obtain ⟨p2, hp2⟩ : ∃ p2 : Int, p - 2 = p2 := ⟨_, rfl⟩
  have H1 : Hid (∀ w, Calls Tryd.prog 22 #[.int .i64 p1] w fun x w' => x = .returned (.int .u64 one) ∧ w = w') := fun w => hp1 ▸ l2One_any h w
  have H2 : ∃ hf : Int, (0 ≤ hf ∧ hf < 18446744073709551616) ∧ Hid (∀ w, Calls Tryd.prog 22 #[.int .i64 p2] w fun x w' => x = .returned (.int .u64 hf) ∧ w = w') := by
    rw [← hp2]
    rcases h with ⟨rfl, rfl, rfl, rfl, rfl, rfl, rfl⟩ | ⟨rfl, rfl, rfl, rfl, rfl, rfl, rfl⟩
    · exact ⟨4194304, by omega, fun w => l2Two_any 22 _ (by omega) (by decide) w⟩
    · exact ⟨2251799813685248, by omega, fun w => l2Two_any 51 _ (by omega) (by decide) w⟩
  obtain ⟨hf, hfb, H2⟩ := H2
  obtain ⟨n, hn, hn64⟩ : ∃ n : Nat, p - 1 = (n : Int) ∧ n ≤ 64 := ⟨(p - 1).toNat, by rcases h with h | h <;> omega, by rcases h with h | h <;> omega⟩
  have HB : Hid (∀ k : Nat, k ≤ 900 → Calls Tryd.prog 65 #[.slice a len cap, .int .i64 k, .int .i64 p1] w fun e w' => ∃ (v : Int) (j : Nat), 0 ≤ v ∧ v < 18446744073709551616 ∧ j ≤ k + 10 ∧ e = .returned (.tuple #[.int .u64 v, .int .i64 j]) ∧ w = w') := fun k hk => by rw [← hp1, hn]; exact bitsN_any a len cap k n hn64 w hC hk
  have HPut : Hid (∀ s v w, (s = 0 ∨ s = 1) → 0 ≤ v → v < 18446744073709551616 → Calls Tryd.prog 38 #[.int .i64 f, .int .i64 s, .int .u64 v] w fun x w' => ∃ z : Int, 0 ≤ z ∧ z < 18446744073709551616 ∧ x = .returned (.int .u64 z) ∧ w = w') := fun s v w a b c => l2Put_some h s v a b c w
  have hob : 0 < one ∧ one ≤ 4503599627370496 ∧ 24 ≤ p ∧ p ≤ 53 := by rcases h with h | h <;> omega
  clear h hC hn
  go_enter Tryd.func64, Tryd.ntmps64
  go_upto_region 3 with (go_at_call 84; refine (HE.out k (by omega)).mono ?_; rintro x w' ⟨e, x0, x1, rfl, hw⟩; subst hw)
  go_upto_region 4 with (first | (go_at_call 23; refine (HP.out _).mono ?_; rintro x w' ⟨rfl, hw⟩; subst hw) | (go_at_call 65; refine (HB.out (k + 2) (by omega)).mono ?_; rintro x w' ⟨fr, j, fr0, fr1, hj, rfl, hw⟩; subst hw))
  go_upto_region 5 with (go_at_call 46; refine (take_any a len cap j 12 _ HC.out (by omega) (by omega) (by omega)).mono ?_; rintro x w' ⟨d, d0, d1, rfl, hw⟩; subst hw)
  go_upto_region 6 with (go_at_call 46; refine (take_any a len cap (j + 1) 2 _ HC.out (by omega) (by omega) (by omega)).mono ?_; rintro x w' ⟨s, s0, s1, rfl, hw⟩; subst hw)
  have hs01 : s = 0 ∨ s = 1 := by omega
  have HS01 : Hid (s = 0 ∨ s = 1) := hs01
  clear hs01
  rcases (show d = 0 ∨ d = 1 ∨ d = 2 ∨ d = 3 ∨ ((d == 0) = false ∧ (d == 1) = false ∧ (d == 2) = false ∧ (d == 3) = false) by simp; omega) with rfl | rfl | rfl | rfl | ⟨k0, k1, k2, k3⟩
  · go_wp2_with (first
      | (go_at_call 23; refine (HP.out _).mono ?_; rintro x w' ⟨rfl, hw⟩; subst hw)
      | (go_at_call 22; refine (H1.out _).mono ?_; rintro x w' ⟨rfl, hw⟩; subst hw)
      | (go_at_call 38; refine (HPut.out _ _ _ HS01.out (by first | omega | (simp only [IntKind.wrap_u64]; omega)) (by first | omega | (simp only [IntKind.wrap_u64]; omega))).mono ?_; rintro x w' ⟨z, z0, z1, rfl, hw⟩; subst hw))
    go_returns
    first | exact ⟨z, j + 1 + 1, z0, z1, by omega, rfl, rfl⟩ | exact ⟨z, z0, z1, j + 1 + 1, by omega, rfl, rfl⟩
  · go_wp2_with (first
      | (go_at_call 23; refine (HP.out _).mono ?_; rintro x w' ⟨rfl, hw⟩; subst hw)
      | (go_at_call 22; refine (H1.out _).mono ?_; rintro x w' ⟨rfl, hw⟩; subst hw)
      | (go_at_call 38; refine (HPut.out _ _ _ HS01.out (by first | omega | (simp only [IntKind.wrap_u64]; omega)) (by first | omega | (simp only [IntKind.wrap_u64]; omega))).mono ?_; rintro x w' ⟨z, z0, z1, rfl, hw⟩; subst hw))
    go_returns
    first | exact ⟨z, j + 1 + 1, z0, z1, by omega, rfl, rfl⟩ | exact ⟨z, z0, z1, j + 1 + 1, by omega, rfl, rfl⟩
  · go_upto_region 14 with (first | (go_at_call 23; refine (HP.out _).mono ?_; rintro x w' ⟨rfl, hw⟩; subst hw) | (go_at_call 22; refine (H2.out _).mono ?_; rintro x w' ⟨rfl, hw⟩; subst hw))
    go_wp2_with (first
      | (go_at_call 23; refine (HP.out _).mono ?_; rintro x w' ⟨rfl, hw⟩; subst hw)
      | (go_at_call 22; refine (H1.out _).mono ?_; rintro x w' ⟨rfl, hw⟩; subst hw)
      | (go_at_call 38; refine (HPut.out _ _ _ HS01.out (by first | omega | (simp only [IntKind.wrap_u64]; omega)) (by first | omega | (simp only [IntKind.wrap_u64]; omega))).mono ?_; rintro x w' ⟨z, z0, z1, rfl, hw⟩; subst hw))
    go_returns
    first | exact ⟨z, j + 1 + 1, z0, z1, by omega, rfl, rfl⟩ | exact ⟨z, z0, z1, j + 1 + 1, by omega, rfl, rfl⟩
  · go_wp2_with (first
      | (go_at_call 23; refine (HP.out _).mono ?_; rintro x w' ⟨rfl, hw⟩; subst hw)
      | (go_at_call 22; refine (H1.out _).mono ?_; rintro x w' ⟨rfl, hw⟩; subst hw)
      | (go_at_call 38; refine (HPut.out _ _ _ HS01.out (by first | omega | (simp only [IntKind.wrap_u64]; omega)) (by first | omega | (simp only [IntKind.wrap_u64]; omega))).mono ?_; rintro x w' ⟨z, z0, z1, rfl, hw⟩; subst hw))
    go_returns
    first | exact ⟨z, j + 1 + 1, z0, z1, by omega, rfl, rfl⟩ | exact ⟨z, z0, z1, j + 1 + 1, by omega, rfl, rfl⟩
  · go_wp2_with (first
      | (go_at_call 23; refine (HP.out _).mono ?_; rintro x w' ⟨rfl, hw⟩; subst hw)
      | (go_at_call 22; refine (H1.out _).mono ?_; rintro x w' ⟨rfl, hw⟩; subst hw)
      | (go_at_call 38; refine (HPut.out _ _ _ HS01.out (by first | omega | (simp only [IntKind.wrap_u64]; omega)) (by first | omega | (simp only [IntKind.wrap_u64]; omega))).mono ?_; rintro x w' ⟨z, z0, z1, rfl, hw⟩; subst hw))
    go_returns
    first | exact ⟨z, j + 1 + 1, z0, z1, by omega, rfl, rfl⟩ | exact ⟨z, z0, z1, j + 1 + 1, by omega, rfl, rfl⟩

set_option maxRecDepth 100000 in
set_option maxHeartbeats 4000000 in
theorem drawAny_any (a : Option Addr) (len cap k : Nat) (f : Int) (w : World) (hC : CodeRow w a len) (hp : k ≤ 700) :
    Calls Tryd.prog 45 #[.slice a len cap, .int .i64 k, .int .i64 f] w fun x w' => ∃ (v : Int) (j : Nat), 0 ≤ v ∧ v < 18446744073709551616 ∧ j ≤ k + 21 ∧ x = .returned (.tuple #[.int .u64 v, .int .i64 j]) ∧ w = w' := by
  have HC : Hid (CodeRow w a len) := hC
  have HT : Hid (∀ w, Calls Tryd.prog 22 #[.int .i64 33] w fun x w' => x = .returned (.int .u64 8589934592) ∧ w = w') := fun w => l2Two_any 33 _ (by omega) (by decide) w
  rcases (show f = 0 ∨ (f == 0) = false by simp; omega) with rfl | hf0
  · have HW : Hid (Calls Tryd.prog 64 #[.slice a len cap, .int .i64 k, .int .i64 0] w fun x w' => ∃ (v : Int) (j : Nat), 0 ≤ v ∧ v < 18446744073709551616 ∧ j ≤ k + 20 ∧ x = .returned (.tuple #[.int .u64 v, .int .i64 j]) ∧ w = w') := drawWord_any (.inl ⟨rfl, rfl, rfl, rfl, rfl, rfl, rfl⟩) a len cap k w hC (by omega)
    clear hC
    go_enter Tryd.func45, Tryd.ntmps45
    go_upto_region 6 with (go_at_call 64; refine (HW.out).mono ?_; rintro x w' ⟨v, j, v0, v1, hj, rfl, hw⟩; subst hw)
    go_upto_region 7 with (go_at_call 46; refine (take_any a len cap j 50 _ HC.out (by omega) (by omega) (by omega)).mono ?_; rintro x w' ⟨d, d0, d1, rfl, hw⟩; subst hw)
    rcases (show d = 49 ∨ (d == 49) = false by simp; omega) with rfl | k0
    all_goals go_wp2_with (go_at_call 22; refine (HT.out _).mono ?_; rintro x w' ⟨rfl, hw⟩; subst hw)
    all_goals go_returns
    all_goals first | refine ⟨_, j + 1, ?_, ?_, by omega, rfl, rfl⟩ | refine ⟨_, ?_, ?_, j + 1, by omega, rfl, rfl⟩
    all_goals first | omega | (simp only [IntKind.wrap_u64]; omega)
  · have HW : Hid (Calls Tryd.prog 64 #[.slice a len cap, .int .i64 k, .int .i64 1] w fun x w' => ∃ (v : Int) (j : Nat), 0 ≤ v ∧ v < 18446744073709551616 ∧ j ≤ k + 20 ∧ x = .returned (.tuple #[.int .u64 v, .int .i64 j]) ∧ w = w') := drawWord_any fmt64 a len cap k w hC (by omega)
    clear hC
    go_enter Tryd.func45, Tryd.ntmps45
    go_upto_region 6 with (go_at_call 64; refine (HW.out).mono ?_; rintro x w' ⟨v, j, v0, v1, hj, rfl, hw⟩; subst hw)
    go_upto_region 7 with (go_at_call 46; refine (take_any a len cap j 50 _ HC.out (by omega) (by omega) (by omega)).mono ?_; rintro x w' ⟨d, d0, d1, rfl, hw⟩; subst hw)
    rcases (show d = 49 ∨ (d == 49) = false by simp; omega) with rfl | k0
    all_goals go_wp2_with (go_at_call 22; refine (HT.out _).mono ?_; rintro x w' ⟨rfl, hw⟩; subst hw)
    all_goals go_returns
    all_goals first | refine ⟨_, j + 1, ?_, ?_, by omega, rfl, rfl⟩ | refine ⟨_, ?_, ?_, j + 1, by omega, rfl, rfl⟩
    all_goals first | omega | (simp only [IntKind.wrap_u64]; omega)

end Go.Proofs.YtoaggnpcmieeaaaDoor
