/- spec.DrawMulWide, DrawAddWide, DrawDivWide, DrawSqrtWide, DrawZeros: some words. -/
import Derived.Test.YtmcbciaeibfgpaaDraw
import Derived.Test.YtmcbciaeibfgpaaMul
import Derived.Test.YtmcbciaeibfgpaaSpecShift
set_option linter.unusedVariables false
set_option linter.unusedSimpArgs false
namespace Go.Proofs.Ytmcbciaeibfgpaa
open Go.RowKit

structure Wd (x : Int) : Prop where
  lo : 0 ≤ x
  hi : x < 18446744073709551616

set_option maxHeartbeats 1000000 in
theorem drawMul_any (a : Option Addr) (len cap : Nat) (w : World) (hC : CodeRow w a len) :
    Calls Try.prog 30 #[.slice a len cap] w fun e w' => ∃ x y : Int, Wd x ∧ Wd y ∧ e = .returned (.tuple #[.int .u64 x, .int .u64 y]) ∧ w = w' := by
  have HC : Hid _ := hC
  clear hC
  go_enter Try.func30, Try.ntmps30
  go_upto_region 2 with (go_at_call 46; refine (bits_any a len cap 0 _ HC.out (by omega)).mono ?_; rintro e w' ⟨x, k, x0, x1, hk, rfl, hw⟩; subst hw)
  go_wp2_with (go_at_call 46; refine (bits_any a len cap k _ HC.out (by omega)).mono ?_; rintro e w' ⟨y, j, y0, y1, hj, rfl, hw⟩; subst hw)
  go_returns
  exact ⟨x, y, ⟨x0, x1⟩, ⟨y0, y1⟩, rfl, rfl⟩

set_option maxHeartbeats 1000000 in
theorem drawAdd_any (a : Option Addr) (len cap : Nat) (w : World) (hC : CodeRow w a len) :
    Calls Try.prog 31 #[.slice a len cap] w fun e w' => ∃ ah al bh bl : Int, Wd ah ∧ Wd al ∧ Wd bh ∧ Wd bl ∧ e = .returned (.tuple #[.agg #[.int .u64 ah, .int .u64 al], .agg #[.int .u64 bh, .int .u64 bl]]) ∧ Gr w w' := by
  have HC : Hid _ := hC
  clear hC
  go_enter Try.func31, Try.ntmps31
  go_upto_region 2 with (go_at_call 47; refine (wideDraw_any a len cap 0 _ (HC.out.gr (by (repeat' (first | (with_reducible assumption) | (with_reducible exact Gr.refl _) | (with_reducible refine Gr.alloc ?_ _ _) | (with_reducible refine Gr.drew ?_) | (with_reducible refine Gr.setCell ?_ ?_ _) | (with_reducible refine Gr.trans ?_ (by with_reducible assumption)) | go_size)))) (by omega)).mono ?_; rintro e w' ⟨ah, al, k, a0, a1, a2, a3, hk, rfl, c1, rfl⟩)
  go_upto_region 3 with (go_at_call 47; refine (wideDraw_any a len cap k _ (HC.out.gr (by (repeat' (first | (with_reducible assumption) | (with_reducible exact Gr.refl _) | (with_reducible refine Gr.alloc ?_ _ _) | (with_reducible refine Gr.drew ?_) | (with_reducible refine Gr.setCell ?_ ?_ _) | (with_reducible refine Gr.trans ?_ (by with_reducible assumption)) | go_size)))) (by omega)).mono ?_; rintro e w' ⟨bh, bl, j, b0, b1, b2, b3, hj, rfl, c2, rfl⟩)
  go_upto_region 4 with (go_at_call 48; refine (take_any a len cap j 6 _ (HC.out.gr (by (repeat' (first | (with_reducible assumption) | (with_reducible exact Gr.refl _) | (with_reducible refine Gr.alloc ?_ _ _) | (with_reducible refine Gr.drew ?_) | (with_reducible refine Gr.setCell ?_ ?_ _) | (with_reducible refine Gr.trans ?_ (by with_reducible assumption)) | go_size)))) (by omega) (by omega) (by omega)).mono ?_; rintro e w' ⟨how, hw0, hw1, rfl, hw⟩; subst hw)
  rcases (show how = 0 ∨ how = 1 ∨ ((how == 0) = false ∧ (how == 1) = false) by simp; omega) with rfl | rfl | ⟨e0, e1⟩
  all_goals
    go_wp2
    go_region
  all_goals go_wp2
  all_goals go_returns
  · exact ⟨ah, al, ah, al, ⟨a0, a1⟩, ⟨a2, a3⟩, ⟨a0, a1⟩, ⟨a2, a3⟩, rfl, by (repeat' (first | (with_reducible assumption) | (with_reducible exact Gr.refl _) | (with_reducible refine Gr.alloc ?_ _ _) | (with_reducible refine Gr.drew ?_) | (with_reducible refine Gr.setCell ?_ ?_ _) | (with_reducible refine Gr.trans ?_ (by with_reducible assumption)) | go_size))⟩
  · exact ⟨ah, al, ah, bl, ⟨a0, a1⟩, ⟨a2, a3⟩, ⟨a0, a1⟩, ⟨b2, b3⟩, rfl, by (repeat' (first | (with_reducible assumption) | (with_reducible exact Gr.refl _) | (with_reducible refine Gr.alloc ?_ _ _) | (with_reducible refine Gr.drew ?_) | (with_reducible refine Gr.setCell ?_ ?_ _) | (with_reducible refine Gr.trans ?_ (by with_reducible assumption)) | go_size))⟩
  · exact ⟨ah, al, bh, bl, ⟨a0, a1⟩, ⟨a2, a3⟩, ⟨b0, b1⟩, ⟨b2, b3⟩, rfl, by (repeat' (first | (with_reducible assumption) | (with_reducible exact Gr.refl _) | (with_reducible refine Gr.alloc ?_ _ _) | (with_reducible refine Gr.drew ?_) | (with_reducible refine Gr.setCell ?_ ?_ _) | (with_reducible refine Gr.trans ?_ (by with_reducible assumption)) | go_size))⟩

set_option maxHeartbeats 1000000 in
theorem drawDiv_any (a : Option Addr) (len cap : Nat) (w : World) (hC : CodeRow w a len) :
    Calls Try.prog 32 #[.slice a len cap] w fun e w' => ∃ ah al d : Int, Wd ah ∧ Wd al ∧ Wd d ∧ e = .returned (.tuple #[.agg #[.int .u64 ah, .int .u64 al], .int .u64 d]) ∧ Gr w w' := by
  have HC : Hid _ := hC
  clear hC
  go_enter Try.func32, Try.ntmps32
  go_upto_region 2 with (go_at_call 47; refine (wideDraw_any a len cap 0 _ (HC.out.gr (by (repeat' (first | (with_reducible assumption) | (with_reducible exact Gr.refl _) | (with_reducible refine Gr.alloc ?_ _ _) | (with_reducible refine Gr.drew ?_) | (with_reducible refine Gr.setCell ?_ ?_ _) | (with_reducible refine Gr.trans ?_ (by with_reducible assumption)) | go_size)))) (by omega)).mono ?_; rintro e w' ⟨ah, al, k, a0, a1, a2, a3, hk, rfl, c1, rfl⟩)
  go_upto_region 3 with (go_at_call 46; refine (bits_any a len cap k _ (HC.out.gr (by (repeat' (first | (with_reducible assumption) | (with_reducible exact Gr.refl _) | (with_reducible refine Gr.alloc ?_ _ _) | (with_reducible refine Gr.drew ?_) | (with_reducible refine Gr.setCell ?_ ?_ _) | (with_reducible refine Gr.trans ?_ (by with_reducible assumption)) | go_size)))) (by omega)).mono ?_; rintro e w' ⟨d, j, d0, d1, hj, rfl, hw⟩; subst hw)
  go_upto_region 4 with (go_at_call 48; refine (take_any a len cap j 8 _ (HC.out.gr (by (repeat' (first | (with_reducible assumption) | (with_reducible exact Gr.refl _) | (with_reducible refine Gr.alloc ?_ _ _) | (with_reducible refine Gr.drew ?_) | (with_reducible refine Gr.setCell ?_ ?_ _) | (with_reducible refine Gr.trans ?_ (by with_reducible assumption)) | go_size)))) (by omega) (by omega) (by omega)).mono ?_; rintro e w' ⟨how, hw0, hw1, rfl, hw⟩; subst hw)
  rcases (show how = 0 ∨ (how == 0) = false by simp; omega) with rfl | e0
  all_goals go_wp2
  all_goals go_returns
  · exact ⟨ah, al, d % 8, ⟨a0, a1⟩, ⟨a2, a3⟩, ⟨by omega, by omega⟩, rfl, by (repeat' (first | (with_reducible assumption) | (with_reducible exact Gr.refl _) | (with_reducible refine Gr.alloc ?_ _ _) | (with_reducible refine Gr.drew ?_) | (with_reducible refine Gr.setCell ?_ ?_ _) | (with_reducible refine Gr.trans ?_ (by with_reducible assumption)) | go_size))⟩
  · exact ⟨ah, al, d, ⟨a0, a1⟩, ⟨a2, a3⟩, ⟨d0, d1⟩, rfl, by (repeat' (first | (with_reducible assumption) | (with_reducible exact Gr.refl _) | (with_reducible refine Gr.alloc ?_ _ _) | (with_reducible refine Gr.drew ?_) | (with_reducible refine Gr.setCell ?_ ?_ _) | (with_reducible refine Gr.trans ?_ (by with_reducible assumption)) | go_size))⟩

set_option maxHeartbeats 1000000 in
theorem drawSqrt_any (a : Option Addr) (len cap : Nat) (w : World) (hC : CodeRow w a len) :
    Calls Try.prog 33 #[.slice a len cap] w fun e w' => ∃ ah al : Int, Wd ah ∧ Wd al ∧ e = .returned (.agg #[.int .u64 ah, .int .u64 al]) ∧ Gr w w' := by
  have HC : Hid _ := hC
  clear hC
  go_enter Try.func33, Try.ntmps33
  go_upto_region 2 with (go_at_call 47; refine (wideDraw_any a len cap 0 _ (HC.out.gr (by (repeat' (first | (with_reducible assumption) | (with_reducible exact Gr.refl _) | (with_reducible refine Gr.alloc ?_ _ _) | (with_reducible refine Gr.drew ?_) | (with_reducible refine Gr.setCell ?_ ?_ _) | (with_reducible refine Gr.trans ?_ (by with_reducible assumption)) | go_size)))) (by omega)).mono ?_; rintro e w' ⟨ah, al, k, a0, a1, a2, a3, hk, rfl, c1, rfl⟩)
  go_upto_region 3 with (go_at_call 48; refine (take_any a len cap k 6 _ (HC.out.gr (by (repeat' (first | (with_reducible assumption) | (with_reducible exact Gr.refl _) | (with_reducible refine Gr.alloc ?_ _ _) | (with_reducible refine Gr.drew ?_) | (with_reducible refine Gr.setCell ?_ ?_ _) | (with_reducible refine Gr.trans ?_ (by with_reducible assumption)) | go_size)))) (by omega) (by omega) (by omega)).mono ?_; rintro e w' ⟨how, hw0, hw1, rfl, hw⟩; subst hw)
  obtain ⟨m0, m1⟩ := mul_bounds al al a2 a3 a2 a3
  go_upto_region 4 with (go_at_call 12; refine (specMul_int al al a2 a3 a2 a3 _).mono ?_; rintro e w' ⟨rfl, c2, rfl⟩)
  obtain ⟨sh, hsh⟩ : ∃ x, al * al / 18446744073709551616 = x := ⟨_, rfl⟩
  obtain ⟨sl, hsl⟩ : ∃ x, al * al % 18446744073709551616 = x := ⟨_, rfl⟩
  have s0 : 0 ≤ sl := by omega
  have s1 : sl < 18446744073709551616 := by omega
  rw [hsh] at m0 m1
  rcases (show how = 0 ∨ how = 1 ∨ ((how == 0) = false ∧ (how == 1) = false) by simp; omega) with rfl | rfl | ⟨e0, e1⟩
  · go_wp2
    go_returns
    exact ⟨sh, sl, ⟨m0, m1⟩, ⟨s0, s1⟩, by simp only [hsh, hsl], by (repeat' (first | (with_reducible assumption) | (with_reducible exact Gr.refl _) | (with_reducible refine Gr.alloc ?_ _ _) | (with_reducible refine Gr.drew ?_) | (with_reducible refine Gr.setCell ?_ ?_ _) | (with_reducible refine Gr.trans ?_ (by with_reducible assumption)) | go_size))⟩
  · by_cases hp : 0 < sl
    · go_wp2
      go_returns
      exact ⟨sh, sl - 1, ⟨m0, m1⟩, ⟨by omega, by omega⟩, by simp only [hsh, hsl], by (repeat' (first | (with_reducible assumption) | (with_reducible exact Gr.refl _) | (with_reducible refine Gr.alloc ?_ _ _) | (with_reducible refine Gr.drew ?_) | (with_reducible refine Gr.setCell ?_ ?_ _) | (with_reducible refine Gr.trans ?_ (by with_reducible assumption)) | go_size))⟩
    · go_wp2
      go_returns
      first | exact ⟨ah, al, ⟨a0, a1⟩, ⟨a2, a3⟩, rfl, by (repeat' (first | (with_reducible assumption) | (with_reducible exact Gr.refl _) | (with_reducible refine Gr.alloc ?_ _ _) | (with_reducible refine Gr.drew ?_) | (with_reducible refine Gr.setCell ?_ ?_ _) | (with_reducible refine Gr.trans ?_ (by with_reducible assumption)) | go_size))⟩ | exact ⟨ah, ⟨a0, a1⟩, al, ⟨a2, a3⟩, rfl, by (repeat' (first | (with_reducible assumption) | (with_reducible exact Gr.refl _) | (with_reducible refine Gr.alloc ?_ _ _) | (with_reducible refine Gr.drew ?_) | (with_reducible refine Gr.setCell ?_ ?_ _) | (with_reducible refine Gr.trans ?_ (by with_reducible assumption)) | go_size))⟩
  · go_wp2
    go_returns
    first | exact ⟨ah, al, ⟨a0, a1⟩, ⟨a2, a3⟩, rfl, by (repeat' (first | (with_reducible assumption) | (with_reducible exact Gr.refl _) | (with_reducible refine Gr.alloc ?_ _ _) | (with_reducible refine Gr.drew ?_) | (with_reducible refine Gr.setCell ?_ ?_ _) | (with_reducible refine Gr.trans ?_ (by with_reducible assumption)) | go_size))⟩ | exact ⟨ah, ⟨a0, a1⟩, al, ⟨a2, a3⟩, rfl, by (repeat' (first | (with_reducible assumption) | (with_reducible exact Gr.refl _) | (with_reducible refine Gr.alloc ?_ _ _) | (with_reducible refine Gr.drew ?_) | (with_reducible refine Gr.setCell ?_ ?_ _) | (with_reducible refine Gr.trans ?_ (by with_reducible assumption)) | go_size))⟩

set_option maxHeartbeats 1000000 in
theorem drawZeros_any (a : Option Addr) (len cap : Nat) (w : World) (hC : CodeRow w a len) :
    Calls Try.prog 34 #[.slice a len cap] w fun e w' => ∃ ah al : Int, Wd ah ∧ Wd al ∧ e = .returned (.agg #[.int .u64 ah, .int .u64 al]) ∧ Gr w w' := by
  have HC : Hid _ := hC
  clear hC
  go_enter Try.func34, Try.ntmps34
  go_upto_region 2 with (go_at_call 47; refine (wideDraw_any a len cap 0 _ (HC.out.gr (by (repeat' (first | (with_reducible assumption) | (with_reducible exact Gr.refl _) | (with_reducible refine Gr.alloc ?_ _ _) | (with_reducible refine Gr.drew ?_) | (with_reducible refine Gr.setCell ?_ ?_ _) | (with_reducible refine Gr.trans ?_ (by with_reducible assumption)) | go_size)))) (by omega)).mono ?_; rintro e w' ⟨ah, al, k, a0, a1, a2, a3, hk, rfl, c1, rfl⟩)
  go_upto_region 3 with (go_at_call 48; refine (take_any a len cap k 160 _ (HC.out.gr (by (repeat' (first | (with_reducible assumption) | (with_reducible exact Gr.refl _) | (with_reducible refine Gr.alloc ?_ _ _) | (with_reducible refine Gr.drew ?_) | (with_reducible refine Gr.setCell ?_ ?_ _) | (with_reducible refine Gr.trans ?_ (by with_reducible assumption)) | go_size)))) (by omega) (by omega) (by omega)).mono ?_; rintro e w' ⟨n, hw0, hw1, rfl, hw⟩; subst hw)
  go_wp2_with (go_at_call 20; refine (specShr_any ah al (n - 30) a0 a2 a1 a3 _).mono ?_; rintro e w' ⟨rfl, c2, c3, rfl⟩)
  go_returns
  have hV0 : 0 ≤ ah * 18446744073709551616 + al := by omega
  have hV1 : ah * 18446744073709551616 + al < 340282366920938463463374607431768211456 := by omega
  have hD0 : 0 ≤ (ah * 18446744073709551616 + al) / 2 ^ (bnd (n - 30)).toNat := Int.ediv_nonneg hV0 (Int.pow_nonneg (by decide))
  have hD1 := Int.ediv_le_self (2 ^ (bnd (n - 30)).toNat) hV0
  refine ⟨_, _, ⟨?_, ?_⟩, ⟨?_, ?_⟩, rfl, by (repeat' (first | (with_reducible assumption) | (with_reducible exact Gr.refl _) | (with_reducible refine Gr.alloc ?_ _ _) | (with_reducible refine Gr.drew ?_) | (with_reducible refine Gr.setCell ?_ ?_ _) | (with_reducible refine Gr.trans ?_ (by with_reducible assumption)) | go_size))⟩
  all_goals (first | unfold shrHi | unfold shrLo)
  all_goals (generalize (ah * 18446744073709551616 + al) / 2 ^ (bnd (n - 30)).toNat = D at *; omega)
end Go.Proofs.Ytmcbciaeibfgpaa
