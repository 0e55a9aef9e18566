/- math/bits.Div64. -/
import Derived.Test.YtmcbciaeibfgpaaLen64
import Derived.Test.YtmcbciaeibfgpaaDivMath
import Derived.Laws.Bits64b
import Derived.BigQuiet
set_option linter.unusedVariables false
set_option linter.unusedSimpArgs false
namespace Go.Proofs.Ytmcbciaeibfgpaa
open Go.RowKit

theorem bits_low (x : Int) (h0 : 0 ≤ x) (h1 : x < 18446744073709551616) : bits .and .u64 x 4294967295 = x % 4294967296 := by
  obtain ⟨a, rfl⟩ := Int.eq_ofNat_of_zero_le h0
  have h := bits_and_u64_nat a 4294967295 (by omega) (by omega)
  have e : a &&& 4294967295 = a % 4294967296 := Nat.and_two_pow_sub_one_eq_mod a 32
  rw [e] at h
  exact h.trans (by omega)

/-- The shift that brings the highest 1 to the top. -/
theorem norm_shift (y : Int) (h0 : 0 < y) (h1 : y < 18446744073709551616) : ∃ s : Nat, s < 64 ∧ 64 - (Go.Lib.bitLen y.toNat : Int) = (s : Int) ∧ 9223372036854775808 ≤ y * 2 ^ s ∧ y * 2 ^ s < 18446744073709551616 := by
  obtain ⟨n, rfl⟩ := Int.eq_ofNat_of_zero_le (show 0 ≤ y by omega)
  have hn : (n : Int).toNat = n := by omega
  rw [hn]
  have hL := Go.Lib.bitLen_le n 64 (by omega) (by omega)
  have hh := Go.Lib.bitLen_half n (by omega) (by omega)
  generalize hLe : Go.Lib.bitLen n = L at *
  have hlow : 2 ^ (L - 1) ≤ n := by
    rcases Nat.lt_or_ge n (2 ^ (L - 1)) with c | c
    · have := Go.Lib.bitLen_le n (L - 1) (by omega) c
      omega
    · exact c
  have hup : n < 2 ^ L := by
    rcases Nat.lt_or_ge n (2 ^ L) with c | c
    · exact c
    · have e := Go.Lib.bitLen_shift L n c (by omega)
      have hz : n / 2 ^ L ≠ 0 := by
        have : 1 ≤ n / 2 ^ L := (Nat.le_div_iff_mul_le (Nat.pow_pos (by decide))).mpr (by omega)
        omega
      have e2 := Go.Lib.bitLen_half (n / 2 ^ L) hz (by have := Nat.div_le_self n (2 ^ L); omega)
      omega
  refine ⟨64 - L, by omega, by omega, ?_, ?_⟩
  · have e : 2 ^ (L - 1) * 2 ^ (64 - L) = 9223372036854775808 := by rw [← Nat.pow_add, show L - 1 + (64 - L) = 63 by omega]
    have := Nat.mul_le_mul_right (2 ^ (64 - L)) hlow
    rw [e] at this
    have c : (n : Int) * 2 ^ (64 - L) = ((n * 2 ^ (64 - L) : Nat) : Int) := by push_cast; rfl
    rw [c]; omega
  · have e : 2 ^ L * 2 ^ (64 - L) = 18446744073709551616 := by rw [← Nat.pow_add, show L + (64 - L) = 64 by omega]
    have := Nat.mul_lt_mul_of_pos_right hup (show 0 < 2 ^ (64 - L) from Nat.pow_pos (by decide))
    rw [e] at this
    have c : (n : Int) * 2 ^ (64 - L) = ((n * 2 ^ (64 - L) : Nat) : Int) := by push_cast; rfl
    rw [c]; omega

set_option maxHeartbeats 1000000 in
theorem div64_small (lo y : Int) (hl0 : 0 ≤ lo) (hl1 : lo < 18446744073709551616) (hy0 : 0 < y) (hy1 : y < 18446744073709551616) (w : World) :
    Calls Try.prog 55 #[.int .u64 0, .int .u64 lo, .int .u64 y] w fun e w' => e = .returned (.tuple #[.int .u64 (lo / y), .int .u64 (lo % y)]) ∧ Gr w w' := by
  have e0 : (y == 0) = false := by simp; omega
  have e1 : decide (y ≤ 0) = false := by simp; omega
  go_enter Try.func55, Try.ntmps55
  go_wp2
  go_region
  go_wp2
  go_returns
  exact ⟨rfl, by (repeat' (first | (with_reducible assumption) | (with_reducible exact Gr.refl _) | (with_reducible refine Gr.alloc ?_ _ _) | (with_reducible refine Gr.drew ?_) | (with_reducible refine Gr.setCell ?_ ?_ _) | (with_reducible refine Gr.trans ?_ (by with_reducible assumption)) | go_size))⟩

theorem wrap_quo (U n : Int) (h0 : 0 ≤ U) (h1 : U < 18446744073709551616) (hn : 0 < n) : IntKind.u64.wrap (U.tdiv n) = U / n := by
  rw [Int.tdiv_eq_ediv_of_nonneg h0, IntKind.wrap_u64]
  have := Int.ediv_nonneg h0 (show 0 ≤ n by omega)
  have := Int.ediv_le_self n h0
  omega
theorem wrap_rest (U n : Int) (h0 : 0 ≤ U) (h1 : U < 18446744073709551616) (hn : 0 < n) : IntKind.u64.wrap (U - IntKind.u64.wrap (U / n * n)) = U % n := by
  have e := Int.ediv_mul_add_emod U n
  have r0 := Int.emod_nonneg U (show n ≠ 0 by omega)
  have r1 := Int.emod_lt_of_pos U hn
  have q0 : 0 ≤ U / n * n := Int.mul_nonneg (Int.ediv_nonneg h0 (by omega)) (by omega)
  rw [IntKind.wrap_u64, IntKind.wrap_u64]
  generalize U / n * n = p at *
  generalize U % n = t at *
  omega

theorem wrap_sub3 (U u z R : Int) (hR : R = U * 4294967296 + u - z) (h0 : 0 ≤ R) (h1 : R < 18446744073709551616) :
    IntKind.u64.wrap (IntKind.u64.wrap (IntKind.u64.wrap (U * 4294967296) + u) - IntKind.u64.wrap z) = R := by
  simp only [IntKind.wrap_u64]
  omega
theorem ret_tt {a a' b b' : Int} (h1 : a = a') (h2 : b = b') : Ending.returned (.tuple #[.int .u64 a, .int .u64 b]) = .returned (.tuple #[.int .u64 a', .int .u64 b']) := by rw [h1, h2]

/-- What the text hands back at the end. -/
theorem div_fin (n y Y U W u1 u0 g1 g2 R R2 : Int) (s : Nat) (hy : 0 < y) (hn0 : 0 ≤ n) (hn : n < y * 18446744073709551616) (hY : y * 2 ^ s = Y) (hY1 : Y < 18446744073709551616) (hUW : n * 2 ^ s = U * 18446744073709551616 + W) (hW : W = u1 * 4294967296 + u0)
    (hR : R = U * 4294967296 + u1 - g1 * Y) (hR2 : R2 = R * 4294967296 + u0 - g2 * Y) (r0 : 0 ≤ R2) (r1 : R2 < Y) :
    IntKind.u64.wrap (IntKind.u64.wrap (g1 * 4294967296) + g2) = n / y ∧ IntKind.u64.wrap (IntKind.u64.wrap (IntKind.u64.wrap (R * 4294967296) + u0) - IntKind.u64.wrap (g2 * Y)) / 2 ^ s = n % y ∧ g1 * 4294967296 + g2 = n / y := by
  obtain ⟨e1, e2⟩ := two_digits n y (2 ^ s) Y U u1 u0 g1 g2 R R2 hy (Int.pow_pos (by decide)) hY.symm (by omega) hR hR2 r0 r1
  refine ⟨?_, ?_, e1⟩
  · have a0 := Int.ediv_nonneg hn0 (show 0 ≤ y by omega)
    have a1 : n / y < 18446744073709551616 := Int.ediv_lt_of_lt_mul hy (by rw [Int.mul_comm]; exact hn)
    rw [← e1] at a0 a1 ⊢
    simp only [IntKind.wrap_u64]
    omega
  · rw [wrap_sub3 R u0 (g2 * Y) R2 hR2 r0 (by omega)]; exact e2

set_option maxHeartbeats 4000000 in
theorem div64_big (hi lo y : Int) (hh0 : 0 < hi) (hh1 : hi < y) (hl0 : 0 ≤ lo) (hl1 : lo < 18446744073709551616) (hy1 : y < 18446744073709551616) (w : World) :
    Calls Try.prog 55 #[.int .u64 hi, .int .u64 lo, .int .u64 y] w fun e w' => e = .returned (.tuple #[.int .u64 ((hi * 18446744073709551616 + lo) / y), .int .u64 ((hi * 18446744073709551616 + lo) % y)]) ∧ Gr w w' := by
  obtain ⟨s, hs, hsl, hY0, hY1⟩ := norm_shift y (by omega) hy1
  have hlz := fun w => lz64_any y (by omega) hy1 w
  rw [hsl] at hlz
  clear hsl
  have e0 : (y == 0) = false := by simp; omega
  have e2 : (hi == 0) = false := by simp; omega
  have hP : (0 : Int) < 2 ^ s := Int.pow_pos (by decide)
  -- the numbers of the text, by name
  obtain ⟨m1, m2⟩ := shl_lo_lo lo hi s hs hl0 (by omega) hl1 (by omega)
  have hN0 : 0 ≤ (hi * 18446744073709551616 + lo) * 2 ^ s := Int.mul_nonneg (by omega) (by omega)
  have hN1 : (hi * 18446744073709551616 + lo) * 2 ^ s < y * 2 ^ s * 18446744073709551616 := by
    have := Int.mul_lt_mul_of_pos_right (show hi * 18446744073709551616 + lo < y * 18446744073709551616 by omega) hP
    rw [Int.mul_right_comm y] at this
    exact this
  obtain ⟨Y, hY⟩ : ∃ Y, y * 2 ^ s = Y := ⟨_, rfl⟩
  obtain ⟨U, hU⟩ : ∃ U, shlHi hi lo s = U := ⟨_, rfl⟩
  obtain ⟨W, hW⟩ : ∃ W, shlLo hi lo s = W := ⟨_, rfl⟩
  rw [hU] at m2
  rw [hW] at m1
  rw [hY] at hY0 hY1 hN1
  have hUW : Hid ((hi * 18446744073709551616 + lo) * 2 ^ s = U * 18446744073709551616 + W ∧ 0 ≤ W ∧ W < 18446744073709551616 ∧ 0 ≤ U ∧ U < Y) := by
    unfold shlHi at hU; unfold shlLo at hW
    refine ⟨?_, ?_, ?_, ?_, ?_⟩ <;> (generalize (hi * 18446744073709551616 + lo) * 2 ^ s = N at *; omega)
  clear hU hW hN0 hN1
  obtain ⟨n1, hn1⟩ : ∃ n1, Y / 4294967296 = n1 := ⟨_, rfl⟩
  obtain ⟨n0, hn0⟩ : ∃ n0, Y % 4294967296 = n0 := ⟨_, rfl⟩
  have hYn : Hid (Y = n1 * 4294967296 + n0) := by show _ = _; omega
  have b1 : 2147483648 ≤ n1 := by omega
  have b2 : n1 < 4294967296 := by omega
  have b3 : 0 ≤ n0 := by omega
  have b4 : n0 < 4294967296 := by omega
  have hand : bits .and .u64 Y 4294967295 = n0 := by rw [bits_low Y (by omega) hY1]; exact hn0
  obtain ⟨u1, hu1⟩ : ∃ u1, W / 4294967296 = u1 := ⟨_, rfl⟩
  obtain ⟨u0, hu0⟩ : ∃ u0, W % 4294967296 = u0 := ⟨_, rfl⟩
  have hWand : bits .and .u64 W 4294967295 = u0 := by rw [bits_low W hUW.out.2.1 hUW.out.2.2.1]; exact hu0
  have hWn : Hid (W = u1 * 4294967296 + u0) := by show _ = _; omega
  have c1 : 0 ≤ u1 := by have := hUW.out.2.1; omega
  have c2 : u1 < 4294967296 := by have := hUW.out.2.2.1; omega
  have c3 : 0 ≤ u0 := by omega
  have c4 : u0 < 4294967296 := by omega
  have hU0 : 0 ≤ U := hUW.out.2.2.2.1
  have hU1 : U < 18446744073709551616 := by have := hUW.out.2.2.2.2; omega
  have hq1 := wrap_quo U n1 hU0 hU1 (by omega)
  have hr1 := wrap_rest U n1 hU0 hU1 (by omega)
  obtain ⟨HS, hS1⟩ := Guess.start n1 n0 U u1 b1 b2 b3 b4 hU0 (by have := hUW.out.2.2.2.2; have := hYn.out; omega) c1 c2
  obtain ⟨g, hg⟩ : ∃ g, U / n1 = g := ⟨_, rfl⟩
  obtain ⟨t, ht⟩ : ∃ t, U % n1 = t := ⟨_, rfl⟩
  rw [hg] at hq1 hr1 HS
  rw [ht] at hr1 HS hS1
  have HSg : Hid _ := HS
  have g0 := HS.nonneg
  have gs := HS.small
  have t0 := HS.rest
  clear hg ht HS hn0 hu0
  go_enter Try.func55, Try.ntmps55
  go_wp2_with (go_at_call 52; refine (hlz _).mono ?_; rintro e w' ⟨rfl, hw⟩; rw [hw]; clear hw w')
  clear hand hWand hn1 hu1 m1 m2 hq1 hr1 hlz e0 e2
  have HY : Hid _ := hY
  clear hY
  have hY : Hid (y * 2 ^ s = Y) := HY
  clear HY
  go_loop [15, 16] (fun a b => ∃ g t : Int, a = .int .u64 g ∧ b = .int .u64 t ∧ Hid (Guess n1 n0 U u1 g t) ∧ 0 ≤ g ∧ g ≤ 4294967297 ∧ 0 ≤ t ∧ t < 4294967296) (fun a _ => (intOf a).toNat)
  case atStart => exact ⟨g, t, rfl, rfl, HSg, g0, gs, t0, by omega⟩
  case round =>
    clear HSg g0 gs t0 hS1
    obtain ⟨G, T, rfl, rfl, HG, g0, gs, t0, t1⟩ := hrel
    have hUY : U < n1 * 4294967296 + n0 := by have := hUW.out.2.2.2.2; have := hYn.out; omega
    have p0 : 0 ≤ G * n0 := Int.mul_nonneg g0 b3
    by_cases k1 : 4294967296 ≤ G
    · have HG' : Hid _ := HG.out.less b1 b3 hUY c2 (by omega) (.inl k1)
      by_cases k2 : T + n1 < 4294967296
      · go_wp2
        go_round
        case rel => exact ⟨G - 1, T + n1, rfl, rfl, HG', by omega, by omega, by omega, by omega⟩
        case measure => simp [intOf]; omega
      · have hR := HG'.out.right (guess_grown HG'.out b3 b4 c1 (by omega) (by omega))
        rw [← hYn.out] at hR
        obtain ⟨R, hRe⟩ : ∃ R, R = U * 4294967296 + u1 - (G - 1) * Y := ⟨_, rfl⟩
        rw [← hRe] at hR
        obtain ⟨R0, R1⟩ := hR
        have hun := wrap_sub3 U u1 ((G - 1) * Y) R hRe R0 (by omega)
        have HRe : Hid _ := hRe
        clear hRe
        have hq2 := wrap_quo R n1 R0 (by omega) (by omega)
        have hr2 := wrap_rest R n1 R0 (by omega) (by omega)
        have hRY : R < n1 * 4294967296 + n0 := by have := hYn.out; omega
        obtain ⟨HS2, hS2⟩ := Guess.start n1 n0 R u0 b1 b2 b3 b4 R0 hRY c3 c4
        obtain ⟨h2, hh2⟩ : ∃ g, R / n1 = g := ⟨_, rfl⟩
        obtain ⟨v2, hv2⟩ : ∃ t, R % n1 = t := ⟨_, rfl⟩
        rw [hh2] at hq2 hr2 HS2
        rw [hv2] at hr2 HS2 hS2
        have HS2g : Hid _ := HS2
        have f0 := HS2.nonneg
        have fs := HS2.small
        have v0 := HS2.rest
        clear hh2 hv2 HS2
        go_wp2
        clear hun hq2 hr2
        go_loop [18, 16] (fun a b => ∃ g t : Int, a = .int .u64 g ∧ b = .int .u64 t ∧ Hid (Guess n1 n0 R u0 g t) ∧ 0 ≤ g ∧ g ≤ 4294967297 ∧ 0 ≤ t ∧ t < 4294967296) (fun a _ => (intOf a).toNat)
        case atStart => exact ⟨h2, v2, rfl, rfl, HS2g, f0, fs, v0, by omega⟩
        case round =>
          clear HS2g f0 fs v0 hS2
          clear p0 g0 gs t0 t1 HG
          obtain ⟨H, V, rfl, rfl, HG, g0, gs, t0, t1⟩ := hrel
          have hUY : R < n1 * 4294967296 + n0 := hRY
          have p0 : 0 ≤ H * n0 := Int.mul_nonneg g0 b3
          by_cases k1 : 4294967296 ≤ H
          · have HG' : Hid _ := HG.out.less b1 b3 hUY c4 (by omega) (.inl k1)
            by_cases k2 : V + n1 < 4294967296
            · go_wp2
              go_round
              case rel => exact ⟨H - 1, V + n1, rfl, rfl, HG', by omega, by omega, by omega, by omega⟩
              case measure => simp [intOf]; omega
            · have hR := HG'.out.right (guess_grown HG'.out b3 b4 c3 (by omega) (by omega))
              rw [← hYn.out] at hR
              have HF : Hid _ := div_fin (hi * 18446744073709551616 + lo) y Y U W u1 u0 (G - 1) (H - 1) R _ s (by omega) (by omega) (by omega) hY.out hY1 hUW.out.1 hWn.out HRe.out rfl hR.1 hR.2
              go_wp2
              go_returns
              exact ⟨ret_tt (by first | exact HF.out.1 | exact HF.out.2.2) HF.out.2.1, by (repeat' (first | (with_reducible assumption) | (with_reducible exact Gr.refl _) | (with_reducible refine Gr.alloc ?_ _ _) | (with_reducible refine Gr.drew ?_) | (with_reducible refine Gr.setCell ?_ ?_ _) | (with_reducible refine Gr.trans ?_ (by with_reducible assumption)) | go_size))⟩
          · have p1 : H * n0 < 18446744073709551616 := by
              have := Int.mul_le_mul (show H ≤ 4294967295 by omega) (show n0 ≤ 4294967295 by omega) b3 (by omega)
              omega
            by_cases k3 : 4294967296 * V + u0 < H * n0
            · have g1 : 1 ≤ H := by
                rcases (show H = 0 ∨ 1 ≤ H by omega) with h | h
                · rw [h, Int.zero_mul] at k3; omega
                · exact h
              have HG' : Hid _ := HG.out.less b1 b3 hUY c4 g1 (.inr k3)
              by_cases k2 : V + n1 < 4294967296
              · go_wp2
                go_round
                case rel => exact ⟨H - 1, V + n1, rfl, rfl, HG', by omega, by omega, by omega, by omega⟩
                case measure => simp [intOf]; omega
              · have hR := HG'.out.right (guess_grown HG'.out b3 b4 c3 (by omega) (by omega))
                rw [← hYn.out] at hR
                have HF : Hid _ := div_fin (hi * 18446744073709551616 + lo) y Y U W u1 u0 (G - 1) (H - 1) R _ s (by omega) (by omega) (by omega) hY.out hY1 hUW.out.1 hWn.out HRe.out rfl hR.1 hR.2
                go_wp2
                go_returns
                exact ⟨ret_tt (by first | exact HF.out.1 | exact HF.out.2.2) HF.out.2.1, by (repeat' (first | (with_reducible assumption) | (with_reducible exact Gr.refl _) | (with_reducible refine Gr.alloc ?_ _ _) | (with_reducible refine Gr.drew ?_) | (with_reducible refine Gr.setCell ?_ ?_ _) | (with_reducible refine Gr.trans ?_ (by with_reducible assumption)) | go_size))⟩
            · have hR := HG.out.right (by omega)
              rw [← hYn.out] at hR
              have HF : Hid _ := div_fin (hi * 18446744073709551616 + lo) y Y U W u1 u0 (G - 1) H R _ s (by omega) (by omega) (by omega) hY.out hY1 hUW.out.1 hWn.out HRe.out rfl hR.1 hR.2
              go_wp2
              go_returns
              exact ⟨ret_tt (by first | exact HF.out.1 | exact HF.out.2.2) HF.out.2.1, by (repeat' (first | (with_reducible assumption) | (with_reducible exact Gr.refl _) | (with_reducible refine Gr.alloc ?_ _ _) | (with_reducible refine Gr.drew ?_) | (with_reducible refine Gr.setCell ?_ ?_ _) | (with_reducible refine Gr.trans ?_ (by with_reducible assumption)) | go_size))⟩
    · have p1 : G * n0 < 18446744073709551616 := by
        have := Int.mul_le_mul (show G ≤ 4294967295 by omega) (show n0 ≤ 4294967295 by omega) b3 (by omega)
        omega
      by_cases k3 : 4294967296 * T + u1 < G * n0
      · have g1 : 1 ≤ G := by
          rcases (show G = 0 ∨ 1 ≤ G by omega) with h | h
          · rw [h, Int.zero_mul] at k3; omega
          · exact h
        have HG' : Hid _ := HG.out.less b1 b3 hUY c2 g1 (.inr k3)
        by_cases k2 : T + n1 < 4294967296
        · go_wp2
          go_round
          case rel => exact ⟨G - 1, T + n1, rfl, rfl, HG', by omega, by omega, by omega, by omega⟩
          case measure => simp [intOf]; omega
        · have hR := HG'.out.right (guess_grown HG'.out b3 b4 c1 (by omega) (by omega))
          rw [← hYn.out] at hR
          obtain ⟨R, hRe⟩ : ∃ R, R = U * 4294967296 + u1 - (G - 1) * Y := ⟨_, rfl⟩
          rw [← hRe] at hR
          obtain ⟨R0, R1⟩ := hR
          have hun := wrap_sub3 U u1 ((G - 1) * Y) R hRe R0 (by omega)
          have HRe : Hid _ := hRe
          clear hRe
          have hq2 := wrap_quo R n1 R0 (by omega) (by omega)
          have hr2 := wrap_rest R n1 R0 (by omega) (by omega)
          have hRY : R < n1 * 4294967296 + n0 := by have := hYn.out; omega
          obtain ⟨HS2, hS2⟩ := Guess.start n1 n0 R u0 b1 b2 b3 b4 R0 hRY c3 c4
          obtain ⟨h2, hh2⟩ : ∃ g, R / n1 = g := ⟨_, rfl⟩
          obtain ⟨v2, hv2⟩ : ∃ t, R % n1 = t := ⟨_, rfl⟩
          rw [hh2] at hq2 hr2 HS2
          rw [hv2] at hr2 HS2 hS2
          have HS2g : Hid _ := HS2
          have f0 := HS2.nonneg
          have fs := HS2.small
          have v0 := HS2.rest
          clear hh2 hv2 HS2
          go_wp2
          clear hun hq2 hr2
          go_loop [18, 16] (fun a b => ∃ g t : Int, a = .int .u64 g ∧ b = .int .u64 t ∧ Hid (Guess n1 n0 R u0 g t) ∧ 0 ≤ g ∧ g ≤ 4294967297 ∧ 0 ≤ t ∧ t < 4294967296) (fun a _ => (intOf a).toNat)
          case atStart => exact ⟨h2, v2, rfl, rfl, HS2g, f0, fs, v0, by omega⟩
          case round =>
            clear HS2g f0 fs v0 hS2
            clear p0 g0 gs t0 t1 HG
            obtain ⟨H, V, rfl, rfl, HG, g0, gs, t0, t1⟩ := hrel
            have hUY : R < n1 * 4294967296 + n0 := hRY
            have p0 : 0 ≤ H * n0 := Int.mul_nonneg g0 b3
            by_cases k1 : 4294967296 ≤ H
            · have HG' : Hid _ := HG.out.less b1 b3 hUY c4 (by omega) (.inl k1)
              by_cases k2 : V + n1 < 4294967296
              · go_wp2
                go_round
                case rel => exact ⟨H - 1, V + n1, rfl, rfl, HG', by omega, by omega, by omega, by omega⟩
                case measure => simp [intOf]; omega
              · have hR := HG'.out.right (guess_grown HG'.out b3 b4 c3 (by omega) (by omega))
                rw [← hYn.out] at hR
                have HF : Hid _ := div_fin (hi * 18446744073709551616 + lo) y Y U W u1 u0 (G - 1) (H - 1) R _ s (by omega) (by omega) (by omega) hY.out hY1 hUW.out.1 hWn.out HRe.out rfl hR.1 hR.2
                go_wp2
                go_returns
                exact ⟨ret_tt (by first | exact HF.out.1 | exact HF.out.2.2) HF.out.2.1, by (repeat' (first | (with_reducible assumption) | (with_reducible exact Gr.refl _) | (with_reducible refine Gr.alloc ?_ _ _) | (with_reducible refine Gr.drew ?_) | (with_reducible refine Gr.setCell ?_ ?_ _) | (with_reducible refine Gr.trans ?_ (by with_reducible assumption)) | go_size))⟩
            · have p1 : H * n0 < 18446744073709551616 := by
                have := Int.mul_le_mul (show H ≤ 4294967295 by omega) (show n0 ≤ 4294967295 by omega) b3 (by omega)
                omega
              by_cases k3 : 4294967296 * V + u0 < H * n0
              · have g1 : 1 ≤ H := by
                  rcases (show H = 0 ∨ 1 ≤ H by omega) with h | h
                  · rw [h, Int.zero_mul] at k3; omega
                  · exact h
                have HG' : Hid _ := HG.out.less b1 b3 hUY c4 g1 (.inr k3)
                by_cases k2 : V + n1 < 4294967296
                · go_wp2
                  go_round
                  case rel => exact ⟨H - 1, V + n1, rfl, rfl, HG', by omega, by omega, by omega, by omega⟩
                  case measure => simp [intOf]; omega
                · have hR := HG'.out.right (guess_grown HG'.out b3 b4 c3 (by omega) (by omega))
                  rw [← hYn.out] at hR
                  have HF : Hid _ := div_fin (hi * 18446744073709551616 + lo) y Y U W u1 u0 (G - 1) (H - 1) R _ s (by omega) (by omega) (by omega) hY.out hY1 hUW.out.1 hWn.out HRe.out rfl hR.1 hR.2
                  go_wp2
                  go_returns
                  exact ⟨ret_tt (by first | exact HF.out.1 | exact HF.out.2.2) HF.out.2.1, by (repeat' (first | (with_reducible assumption) | (with_reducible exact Gr.refl _) | (with_reducible refine Gr.alloc ?_ _ _) | (with_reducible refine Gr.drew ?_) | (with_reducible refine Gr.setCell ?_ ?_ _) | (with_reducible refine Gr.trans ?_ (by with_reducible assumption)) | go_size))⟩
              · have hR := HG.out.right (by omega)
                rw [← hYn.out] at hR
                have HF : Hid _ := div_fin (hi * 18446744073709551616 + lo) y Y U W u1 u0 (G - 1) H R _ s (by omega) (by omega) (by omega) hY.out hY1 hUW.out.1 hWn.out HRe.out rfl hR.1 hR.2
                go_wp2
                go_returns
                exact ⟨ret_tt (by first | exact HF.out.1 | exact HF.out.2.2) HF.out.2.1, by (repeat' (first | (with_reducible assumption) | (with_reducible exact Gr.refl _) | (with_reducible refine Gr.alloc ?_ _ _) | (with_reducible refine Gr.drew ?_) | (with_reducible refine Gr.setCell ?_ ?_ _) | (with_reducible refine Gr.trans ?_ (by with_reducible assumption)) | go_size))⟩
      · have hR := HG.out.right (by omega)
        rw [← hYn.out] at hR
        obtain ⟨R, hRe⟩ : ∃ R, R = U * 4294967296 + u1 - G * Y := ⟨_, rfl⟩
        rw [← hRe] at hR
        obtain ⟨R0, R1⟩ := hR
        have hun := wrap_sub3 U u1 (G * Y) R hRe R0 (by omega)
        have HRe : Hid _ := hRe
        clear hRe
        have hq2 := wrap_quo R n1 R0 (by omega) (by omega)
        have hr2 := wrap_rest R n1 R0 (by omega) (by omega)
        have hRY : R < n1 * 4294967296 + n0 := by have := hYn.out; omega
        obtain ⟨HS2, hS2⟩ := Guess.start n1 n0 R u0 b1 b2 b3 b4 R0 hRY c3 c4
        obtain ⟨h2, hh2⟩ : ∃ g, R / n1 = g := ⟨_, rfl⟩
        obtain ⟨v2, hv2⟩ : ∃ t, R % n1 = t := ⟨_, rfl⟩
        rw [hh2] at hq2 hr2 HS2
        rw [hv2] at hr2 HS2 hS2
        have HS2g : Hid _ := HS2
        have f0 := HS2.nonneg
        have fs := HS2.small
        have v0 := HS2.rest
        clear hh2 hv2 HS2
        go_wp2
        clear hun hq2 hr2
        go_loop [18, 16] (fun a b => ∃ g t : Int, a = .int .u64 g ∧ b = .int .u64 t ∧ Hid (Guess n1 n0 R u0 g t) ∧ 0 ≤ g ∧ g ≤ 4294967297 ∧ 0 ≤ t ∧ t < 4294967296) (fun a _ => (intOf a).toNat)
        case atStart => exact ⟨h2, v2, rfl, rfl, HS2g, f0, fs, v0, by omega⟩
        case round =>
          clear HS2g f0 fs v0 hS2
          clear p0 g0 gs t0 t1 HG
          obtain ⟨H, V, rfl, rfl, HG, g0, gs, t0, t1⟩ := hrel
          have hUY : R < n1 * 4294967296 + n0 := hRY
          have p0 : 0 ≤ H * n0 := Int.mul_nonneg g0 b3
          by_cases k1 : 4294967296 ≤ H
          · have HG' : Hid _ := HG.out.less b1 b3 hUY c4 (by omega) (.inl k1)
            by_cases k2 : V + n1 < 4294967296
            · go_wp2
              go_round
              case rel => exact ⟨H - 1, V + n1, rfl, rfl, HG', by omega, by omega, by omega, by omega⟩
              case measure => simp [intOf]; omega
            · have hR := HG'.out.right (guess_grown HG'.out b3 b4 c3 (by omega) (by omega))
              rw [← hYn.out] at hR
              have HF : Hid _ := div_fin (hi * 18446744073709551616 + lo) y Y U W u1 u0 G (H - 1) R _ s (by omega) (by omega) (by omega) hY.out hY1 hUW.out.1 hWn.out HRe.out rfl hR.1 hR.2
              go_wp2
              go_returns
              exact ⟨ret_tt (by first | exact HF.out.1 | exact HF.out.2.2) HF.out.2.1, by (repeat' (first | (with_reducible assumption) | (with_reducible exact Gr.refl _) | (with_reducible refine Gr.alloc ?_ _ _) | (with_reducible refine Gr.drew ?_) | (with_reducible refine Gr.setCell ?_ ?_ _) | (with_reducible refine Gr.trans ?_ (by with_reducible assumption)) | go_size))⟩
          · have p1 : H * n0 < 18446744073709551616 := by
              have := Int.mul_le_mul (show H ≤ 4294967295 by omega) (show n0 ≤ 4294967295 by omega) b3 (by omega)
              omega
            by_cases k3 : 4294967296 * V + u0 < H * n0
            · have g1 : 1 ≤ H := by
                rcases (show H = 0 ∨ 1 ≤ H by omega) with h | h
                · rw [h, Int.zero_mul] at k3; omega
                · exact h
              have HG' : Hid _ := HG.out.less b1 b3 hUY c4 g1 (.inr k3)
              by_cases k2 : V + n1 < 4294967296
              · go_wp2
                go_round
                case rel => exact ⟨H - 1, V + n1, rfl, rfl, HG', by omega, by omega, by omega, by omega⟩
                case measure => simp [intOf]; omega
              · have hR := HG'.out.right (guess_grown HG'.out b3 b4 c3 (by omega) (by omega))
                rw [← hYn.out] at hR
                have HF : Hid _ := div_fin (hi * 18446744073709551616 + lo) y Y U W u1 u0 G (H - 1) R _ s (by omega) (by omega) (by omega) hY.out hY1 hUW.out.1 hWn.out HRe.out rfl hR.1 hR.2
                go_wp2
                go_returns
                exact ⟨ret_tt (by first | exact HF.out.1 | exact HF.out.2.2) HF.out.2.1, by (repeat' (first | (with_reducible assumption) | (with_reducible exact Gr.refl _) | (with_reducible refine Gr.alloc ?_ _ _) | (with_reducible refine Gr.drew ?_) | (with_reducible refine Gr.setCell ?_ ?_ _) | (with_reducible refine Gr.trans ?_ (by with_reducible assumption)) | go_size))⟩
            · have hR := HG.out.right (by omega)
              rw [← hYn.out] at hR
              have HF : Hid _ := div_fin (hi * 18446744073709551616 + lo) y Y U W u1 u0 G H R _ s (by omega) (by omega) (by omega) hY.out hY1 hUW.out.1 hWn.out HRe.out rfl hR.1 hR.2
              go_wp2
              go_returns
              exact ⟨ret_tt (by first | exact HF.out.1 | exact HF.out.2.2) HF.out.2.1, by (repeat' (first | (with_reducible assumption) | (with_reducible exact Gr.refl _) | (with_reducible refine Gr.alloc ?_ _ _) | (with_reducible refine Gr.drew ?_) | (with_reducible refine Gr.setCell ?_ ?_ _) | (with_reducible refine Gr.trans ?_ (by with_reducible assumption)) | go_size))⟩

theorem div64_any (hi lo y : Int) (hh0 : 0 ≤ hi) (hh1 : hi < y) (hl0 : 0 ≤ lo) (hl1 : lo < 18446744073709551616) (hy1 : y < 18446744073709551616) (w : World) :
    Calls Try.prog 55 #[.int .u64 hi, .int .u64 lo, .int .u64 y] w fun e w' => e = .returned (.tuple #[.int .u64 ((hi * 18446744073709551616 + lo) / y), .int .u64 ((hi * 18446744073709551616 + lo) % y)]) ∧ Gr w w' := by
  rcases (show hi = 0 ∨ 0 < hi by omega) with rfl | h
  · rw [show (0 : Int) * 18446744073709551616 + lo = lo by omega]
    exact div64_small lo y hl0 hl1 (by omega) hy1 w
  · exact div64_big hi lo y h hh1 hl0 hl1 hy1 w
end Go.Proofs.Ytmcbciaeibfgpaa
