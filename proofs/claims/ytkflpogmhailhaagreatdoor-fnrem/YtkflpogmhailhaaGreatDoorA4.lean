/- Contracts: math/bits.Add64 (the model's own entry), impl.words.plus. -/
import Derived.Test.YtkflpogmhailhaaGreatDoorRows
import Derived.WalkKit
import Derived.WalkSpells
import Derived.Laws.Externs
import Derived.Handy
import Derived.Deep.RegionHeld3
import Derived.Test.YtkflpogmhailhaaGreatDoorA1
import Derived.Test.YtkflpogmhailhaaGreatDoorA2
import Derived.Laws.Bits64b
import Derived.Shelf.Spec.BitsCarry
namespace Go.Proofs.YtkflpogmhailhaaGreatDoor
open Go.RowKit

theorem add64 (x y c : Int) (hx : 0 ≤ x) (hy : 0 ≤ y) (hc0 : 0 ≤ c) (hc : c ≤ 1) (w : World) : (callFunc 159 #[.int .u64 x, .int .u64 y, .int .u64 c]).run Tryz.prog w =
    .ok (.value (.tuple #[.int .u64 ((x + y + c) % 18446744073709551616), .int .u64 ((x + y + c) / 18446744073709551616)])) w := by
  rw [run_callFunc_extern Tryz.func159 (by kernel_rfl) (by kernel_rfl) (by kernel_rfl) (e := add64Entry) (by kernel_rfl), run_add64 x y c hx hy hc0 hc]
  rfl
theorem add64_0 (x y : Int) (hx : 0 ≤ x) (hy : 0 ≤ y) (w : World) : (callFunc 159 #[.int .u64 x, .int .u64 y, .int .u64 0]).run Tryz.prog w =
    .ok (.value (.tuple #[.int .u64 ((x + y) % 18446744073709551616), .int .u64 ((x + y) / 18446744073709551616)])) w := by
  simpa using add64 x y 0 hx hy (Int.le_refl 0) (by decide) w

set_option maxHeartbeats 1000000 in
theorem plus_any (a0 a1 b0 b1 : Int) (ha0 : 0 ≤ a0) (ha1 : 0 ≤ a1) (hb0 : 0 ≤ b0) (hb1 : 0 ≤ b1) (ga0 : a0 < 18446744073709551616) (gb0 : b0 < 18446744073709551616) (w : World) :
    Calls Tryz.prog 153 #[.agg #[.int .u64 a0, .int .u64 a1], .agg #[.int .u64 b0, .int .u64 b1]] w fun e w' =>
      e = .returned (.tuple #[.agg #[.int .u64 ((a0 + b0) % 18446744073709551616), .int .u64 ((a1 + b1 + (a0 + b0) / 18446744073709551616) % 18446744073709551616)],
        .bool ((a1 + b1 + (a0 + b0) / 18446744073709551616) / 18446744073709551616 != 0)]) ∧ ∃ c1 c2 c3 c4 : Array Value, w' = ((((w.alloc (.cells c1 150)).alloc (.cells c2 150)).alloc (.cells c3 150)).alloc (.cells c4 150)).drew.drew := by
  have k0 : 0 ≤ (a0 + b0) / 18446744073709551616 := by omega
  have k1 : (a0 + b0) / 18446744073709551616 ≤ 1 := by omega
  go_enter Tryz.func153, Tryz.ntmps153
  go_wp2
  refine wp_loop_rounds 3 ?_
  rw [rounds_succ]
  go_wp2
  go_region_with (simp only [add64_0 a0 b0 ha0 hb0])
  all_goals (go_wp2; rw [rounds_succ]; go_wp2; go_region_with (simp only [add64 a1 b1 _ ha1 hb1 k0 k1]))
  all_goals (go_wp2; rw [rounds_succ]; go_wp2; go_returns; exact ⟨rfl, _, _, _, _, rfl⟩)

end Go.Proofs.YtkflpogmhailhaaGreatDoor

/- impl.AddWide. -/
set_option linter.unusedVariables false
namespace Go.Proofs.YtkflpogmhailhaaGreatDoor
open Go.RowKit

set_option maxHeartbeats 1000000 in
theorem addWide_any (ah al bh bl : Int) (ha0 : 0 ≤ ah) (ha1 : ah < 18446744073709551616) (hb0 : 0 ≤ al) (hb1 : al < 18446744073709551616) (hc0 : 0 ≤ bh) (hc1 : bh < 18446744073709551616) (hd0 : 0 ≤ bl) (hd1 : bl < 18446744073709551616) (w : World) :
    Calls Tryz.prog 131 #[.agg #[.int .u64 ah, .int .u64 al], .agg #[.int .u64 bh, .int .u64 bl]] w fun e w' =>
      e = .returned (.tuple #[.agg #[.int .u64 ((ah + bh + (al + bl) / 18446744073709551616) % 18446744073709551616), .int .u64 ((al + bl) % 18446744073709551616)], .bool ((ah + bh + (al + bl) / 18446744073709551616) / 18446744073709551616 != 0)]) ∧ Gr w w' := by
  go_enter Tryz.func131, Tryz.ntmps131
  go_wp2
  go_region_held3 (fun w' => w'.cell? ⟨w.heap.size, 0, none⟩ = some (.int .u64 ah) ∧ w'.cell? ⟨w.heap.size, 1, none⟩ = some (.int .u64 al) ∧ w'.cell? ⟨w.heap.size + 1, 0, none⟩ = some (.int .u64 bh) ∧ w'.cell? ⟨w.heap.size + 1, 1, none⟩ = some (.int .u64 bl))
    (simp [go_sem, World.cell?_alloc_past])
    (first
      | (go_at_call 150; refine (wordsOf_any _ _ _).mono ?_; rintro e w1 ⟨rfl, c1, c2, rfl⟩)
      | (go_at_call 153; refine (plus_any al ah bl bh hb0 ha0 hd0 hc0 hb1 hd1 _).mono ?_; rintro e w2 ⟨rfl, d1, d2, d3, d4, rfl⟩))
  all_goals go_wp2_with (go_at_call 136; refine (wide_any _ _ _).mono ?_; rintro e w1 ⟨rfl, f1, f2, rfl⟩)
  all_goals go_returns
  all_goals exact ⟨rfl, ⟨by go_grown, by go_grown⟩⟩
end Go.Proofs.YtkflpogmhailhaaGreatDoor

/- math/bits.Mul64. -/
set_option linter.unusedVariables false
set_option linter.unusedSimpArgs false
namespace Go.Proofs.YtkflpogmhailhaaGreatDoor
open Go.RowKit

theorem mul_bounds (x y : Int) (hx0 : 0 ≤ x) (hx : x < 18446744073709551616) (hy0 : 0 ≤ y) (hy : y < 18446744073709551616) : 0 ≤ x * y / 18446744073709551616 ∧ x * y / 18446744073709551616 < 18446744073709551616 := by
  have h1 : 0 ≤ x * y := Int.mul_nonneg hx0 hy0
  have h2 : x * y ≤ 18446744073709551615 * 18446744073709551615 := Int.mul_le_mul (by omega) (by omega) hy0 (by omega)
  generalize x * y = p at *
  omega

/-- The lower half of a word. -/
theorem low32 (x : Int) (h0 : 0 ≤ x) (h1 : x < 18446744073709551616) : bits .and .u64 x 4294967295 = x % 4294967296 := by
  obtain ⟨n, rfl⟩ := Int.eq_ofNat_of_zero_le h0
  refine (bits_and_u64_nat n 4294967295 (by omega) (by omega)).trans ?_
  rw [show n &&& 4294967295 = n % 4294967296 from Nat.and_two_pow_sub_one_eq_mod n 32]
  omega

/-- The product of two words out of the four products of their halves. -/
structure Halves (x y a b c d : Int) : Prop where
  all : x * y = a * 18446744073709551616 + (b + c) * 4294967296 + d
  a0 : 0 ≤ a
  a1 : a ≤ 18446744065119617025
  b0 : 0 ≤ b
  b1 : b ≤ 18446744065119617025
  c0 : 0 ≤ c
  c1 : c ≤ 18446744065119617025
  d0 : 0 ≤ d
  d1 : d ≤ 18446744065119617025

theorem half_prod (u v : Int) (u0 : 0 ≤ u) (u1 : u < 4294967296) (v0 : 0 ≤ v) (v1 : v < 4294967296) : 0 ≤ u * v ∧ u * v ≤ 18446744065119617025 := by
  refine ⟨Int.mul_nonneg u0 v0, ?_⟩
  have := Int.mul_le_mul (show u ≤ 4294967295 by omega) (show v ≤ 4294967295 by omega) v0 (by omega)
  omega
theorem halves (x y x1 x0 y1 y0 : Int) (hx : x = x1 * 4294967296 + x0) (hy : y = y1 * 4294967296 + y0) (bx1 : 0 ≤ x1) (cx1 : x1 < 4294967296) (bx0 : 0 ≤ x0) (cx0 : x0 < 4294967296) (by1 : 0 ≤ y1) (cy1 : y1 < 4294967296) (by0 : 0 ≤ y0) (cy0 : y0 < 4294967296) :
    Halves x y (x1 * y1) (x1 * y0) (x0 * y1) (x0 * y0) := by
  obtain ⟨a0, a1⟩ := half_prod x1 y1 bx1 cx1 by1 cy1
  obtain ⟨b0, b1⟩ := half_prod x1 y0 bx1 cx1 by0 cy0
  obtain ⟨c0, c1⟩ := half_prod x0 y1 bx0 cx0 by1 cy1
  obtain ⟨d0, d1⟩ := half_prod x0 y0 bx0 cx0 by0 cy0
  refine ⟨?_, a0, a1, b0, b1, c0, c1, d0, d1⟩
  rw [hx, hy, Int.add_mul, Int.mul_add, Int.mul_add, Int.mul_right_comm x1 4294967296 y0, ← Int.mul_assoc x0 y1, ← Int.mul_assoc (x1 * 4294967296) y1, Int.mul_right_comm x1 4294967296 y1]
  generalize x1 * y1 = a
  generalize x1 * y0 = b
  generalize x0 * y1 = c
  generalize x0 * y0 = d
  omega

theorem ret_uu {a a' b b' : Int} (h1 : a = a') (h2 : b = b') : Ending.returned (.tuple #[.int .u64 a, .int .u64 b]) = .returned (.tuple #[.int .u64 a', .int .u64 b']) := by rw [h1, h2]
theorem ret_ww {a a' b b' : Int} (h1 : a = a') (h2 : b = b') : Ending.returned (.agg #[.int .u64 a, .int .u64 b]) = .returned (.agg #[.int .u64 a', .int .u64 b']) := by rw [h1, h2]

set_option maxHeartbeats 1000000 in
theorem mul64_int (x y : Int) (hx0 : 0 ≤ x) (hx : x < 18446744073709551616) (hy0 : 0 ≤ y) (hy : y < 18446744073709551616) (w : World) :
    Calls Tryz.prog 155 #[.int .u64 x, .int .u64 y] w fun e w' => e = .returned (.tuple #[.int .u64 (x * y / 18446744073709551616), .int .u64 (x * y % 18446744073709551616)]) ∧ w' = w := by
  have la := low32 x hx0 hx
  have lb := low32 y hy0 hy
  obtain ⟨x1, hx1⟩ : ∃ v, x / 4294967296 = v := ⟨_, rfl⟩
  obtain ⟨x0, hxl⟩ : ∃ v, x % 4294967296 = v := ⟨_, rfl⟩
  obtain ⟨y1, hy1⟩ : ∃ v, y / 4294967296 = v := ⟨_, rfl⟩
  obtain ⟨y0, hyl⟩ : ∃ v, y % 4294967296 = v := ⟨_, rfl⟩
  rw [hxl] at la
  rw [hyl] at lb
  obtain ⟨eq, a0, a1, b0, b1, c0, c1, d0, d1⟩ := halves x y x1 x0 y1 y0 (by omega) (by omega) (by omega) (by omega) (by omega) (by omega) (by omega) (by omega) (by omega) (by omega)
  obtain ⟨a, ha⟩ : ∃ v, x1 * y1 = v := ⟨_, rfl⟩
  obtain ⟨b, hb⟩ : ∃ v, x1 * y0 = v := ⟨_, rfl⟩
  obtain ⟨c, hc⟩ : ∃ v, x0 * y1 = v := ⟨_, rfl⟩
  obtain ⟨d, hd⟩ : ∃ v, x0 * y0 = v := ⟨_, rfl⟩
  rw [ha, hb, hc, hd] at eq
  rw [ha] at a0 a1
  rw [hb] at b0 b1
  rw [hc] at c0 c1
  rw [hd] at d0 d1
  obtain ⟨t, ht⟩ : ∃ v, b + d / 4294967296 = v := ⟨_, rfl⟩
  have lt := low32 t (by omega) (by omega)
  have t0 : 0 ≤ t := by omega
  have t1 : t < 18446744073709551616 := by omega
  have E : Hid _ := eq
  have hT : Hid (b + d / 4294967296 = t) := ht
  clear eq hxl hyl
  go_enter Tryz.func155, Tryz.ntmps155
  go_wp2
  go_ret2
  have e := E.out
  have f := hT.out
  generalize x * y = p at *
  refine ⟨ret_uu ?_ ?_, rfl⟩
  · omega
  · first | omega | (simp only [IntKind.wrap_u64]; done) | (simp only [IntKind.wrap_u64]; omega)

end Go.Proofs.YtkflpogmhailhaaGreatDoor

/- impl.MulWide. -/
namespace Go.Proofs.YtkflpogmhailhaaGreatDoor
open Go.RowKit

set_option maxHeartbeats 1000000 in
theorem mulWide_any (x y : Int) (hx0 : 0 ≤ x) (hx : x < 18446744073709551616) (hy0 : 0 ≤ y) (hy : y < 18446744073709551616) (w : World) :
    Calls Tryz.prog 112 #[.int .u64 x, .int .u64 y] w fun e w' => e = .returned (.agg #[.int .u64 (x * y / 18446744073709551616), .int .u64 (x * y % 18446744073709551616)]) ∧ Gr w w' := by
  obtain ⟨b0, b1⟩ := mul_bounds x y hx0 hx hy0 hy
  have e1 : x * y % 18446744073709551616 % 18446744073709551616 = x * y % 18446744073709551616 := by omega
  have e2 : x * y % 18446744073709551616 / 18446744073709551616 = 0 := by omega
  have e3 : x * y / 18446744073709551616 % 18446744073709551616 = x * y / 18446744073709551616 := by omega
  have e4 : x * y / 18446744073709551616 / 18446744073709551616 = 0 := by omega
  go_enter Tryz.func112, Tryz.ntmps112
  go_wp2_with (first
    | (go_at_call 155; refine (mul64_int x y hx0 hx hy0 hy _).mono ?_; rintro e w' ⟨rfl, rfl⟩)
    | (go_at_call 153; refine (plus_any 0 0 _ _ (by omega) (by omega) (by omega) (by omega) (by omega) (by omega) _).mono ?_; rintro e w1 ⟨rfl, d1, d2, d3, d4, rfl⟩)
    | (go_at_call 136; refine (wide_any _ _ _).mono ?_; rintro e w2 ⟨rfl, f1, f2, rfl⟩)
    | go_in)
  go_returns
  exact ⟨rfl, ⟨by go_grown, by go_grown⟩⟩

end Go.Proofs.YtkflpogmhailhaaGreatDoor

/- math/bits.Sub64 (the model's own entry), words.minus, words.below. -/
set_option linter.unusedVariables false
set_option linter.unusedSimpArgs false
namespace Go.Proofs.YtkflpogmhailhaaGreatDoor
open Go.RowKit

def bow (x y : Int) : Int := if x < y then 1 else 0
theorem bow_le (x y : Int) : bow x y ≤ 1 := by unfold bow; split <;> omega
theorem bow_ge (x y : Int) : 0 ≤ bow x y := by unfold bow; split <;> omega

theorem sub64 (x y b : Int) (hx : 0 ≤ x) (hy : 0 ≤ y) (hy' : y < 18446744073709551616) (hb0 : 0 ≤ b) (hb : b ≤ 1) (w : World) : (callFunc 160 #[.int .u64 x, .int .u64 y, .int .u64 b]).run Tryz.prog w =
    .ok (.value (.tuple #[.int .u64 ((x - y - b) % 18446744073709551616), .int .u64 (bow x (y + b))])) w := by
  obtain ⟨x, rfl⟩ := Int.eq_ofNat_of_zero_le hx
  obtain ⟨y, rfl⟩ := Int.eq_ofNat_of_zero_le hy
  obtain ⟨b, rfl⟩ := Int.eq_ofNat_of_zero_le hb0
  rw [run_callFunc_extern Tryz.func160 (by kernel_rfl) (by kernel_rfl) (by kernel_rfl) (e := sub64Entry) (by kernel_rfl), run_sub64 x y b (by omega)]
  have e1 : (((x + 18446744073709551616 - y - b) % 18446744073709551616 : Nat) : Int) = ((x : Int) - y - b) % 18446744073709551616 := by omega
  have e2 : ((if x < y + b then 1 else 0 : Nat) : Int) = bow x (y + b) := by unfold bow; split <;> split <;> omega
  rw [← e1, ← e2]
  rfl
theorem sub64_0 (x y : Int) (hx : 0 ≤ x) (hy : 0 ≤ y) (hy' : y < 18446744073709551616) (w : World) : (callFunc 160 #[.int .u64 x, .int .u64 y, .int .u64 0]).run Tryz.prog w =
    .ok (.value (.tuple #[.int .u64 ((x - y) % 18446744073709551616), .int .u64 (bow x y)])) w := by
  simpa using sub64 x y 0 hx hy hy' (Int.le_refl 0) (by decide) w

set_option maxHeartbeats 1000000 in
theorem minus_any (a0 a1 b0 b1 : Int) (ha0 : 0 ≤ a0) (ha1 : 0 ≤ a1) (hb0 : 0 ≤ b0) (hb1 : 0 ≤ b1) (gb0 : b0 < 18446744073709551616) (gb1 : b1 < 18446744073709551616) (w : World) :
    Calls Tryz.prog 154 #[.agg #[.int .u64 a0, .int .u64 a1], .agg #[.int .u64 b0, .int .u64 b1]] w fun e w' =>
      e = .returned (.tuple #[.agg #[.int .u64 ((a0 - b0) % 18446744073709551616), .int .u64 ((a1 - b1 - bow a0 b0) % 18446744073709551616)],
        .bool (bow a1 (b1 + bow a0 b0) != 0)]) ∧ ∃ c1 c2 c3 c4 : Array Value, w' = ((((w.alloc (.cells c1 150)).alloc (.cells c2 150)).alloc (.cells c3 150)).alloc (.cells c4 150)).drew.drew := by
  have k0 := bow_ge a0 b0
  have k1 := bow_le a0 b0
  go_enter Tryz.func154, Tryz.ntmps154
  go_wp2
  refine wp_loop_rounds 3 ?_
  rw [rounds_succ]
  go_wp2
  go_region_with (simp only [sub64_0 a0 b0 ha0 hb0 gb0])
  all_goals (go_wp2; rw [rounds_succ]; go_wp2; go_region_with (simp only [sub64 a1 b1 _ ha1 hb1 gb1 k0 k1]))
  all_goals (go_wp2; rw [rounds_succ]; go_wp2; go_returns; exact ⟨rfl, _, _, _, _, rfl⟩)

/-- Less, by words. -/
def lt2 (a1 a0 b1 b0 : Int) : Bool := bow a1 (b1 + bow a0 b0) != 0
theorem lt2_iff (a1 a0 b1 b0 : Int) (ha0 : 0 ≤ a0) (hb0 : 0 ≤ b0) (ga0 : a0 < 18446744073709551616) (gb0 : b0 < 18446744073709551616) : lt2 a1 a0 b1 b0 = decide (a1 * 18446744073709551616 + a0 < b1 * 18446744073709551616 + b0) := by
  unfold lt2 bow
  rw [Bool.eq_iff_iff]
  simp only [bne_iff_ne, ne_eq, decide_eq_true_eq]
  split <;> split <;> omega
end Go.Proofs.YtkflpogmhailhaaGreatDoor

/- impl.SubWide. -/
set_option linter.unusedVariables false
set_option linter.unusedSimpArgs false
namespace Go.Proofs.YtkflpogmhailhaaGreatDoor
open Go.RowKit

set_option maxHeartbeats 1000000 in
theorem subWide_any (ah al bh bl : Int) (ha0 : 0 ≤ ah) (ha1 : ah < 18446744073709551616) (hb0 : 0 ≤ al) (hb1 : al < 18446744073709551616) (hc0 : 0 ≤ bh) (hc1 : bh < 18446744073709551616) (hd0 : 0 ≤ bl) (hd1 : bl < 18446744073709551616) (w : World) :
    Calls Tryz.prog 132 #[.agg #[.int .u64 ah, .int .u64 al], .agg #[.int .u64 bh, .int .u64 bl]] w fun e w' =>
      e = .returned (.tuple #[.agg #[.int .u64 ((ah - bh - bow al bl) % 18446744073709551616), .int .u64 ((al - bl) % 18446744073709551616)], .bool (lt2 ah al bh bl)]) ∧ Gr w w' := by
  have HL : Hid (lt2 ah al bh bl = (bow ah (bh + bow al bl) != 0)) := rfl
  go_enter Tryz.func132, Tryz.ntmps132
  go_wp2
  go_region_held3 (fun w' => w'.cell? ⟨w.heap.size, 0, none⟩ = some (.int .u64 ah) ∧ w'.cell? ⟨w.heap.size, 1, none⟩ = some (.int .u64 al) ∧ w'.cell? ⟨w.heap.size + 1, 0, none⟩ = some (.int .u64 bh) ∧ w'.cell? ⟨w.heap.size + 1, 1, none⟩ = some (.int .u64 bl))
    (simp [go_sem, World.cell?_alloc_past])
    (first
      | (go_at_call 150; refine (wordsOf_any _ _ _).mono ?_; rintro e w1 ⟨rfl, c1, c2, rfl⟩)
      | (go_at_call 154; refine (minus_any al ah bl bh hb0 ha0 hd0 hc0 hd1 hc1 _).mono ?_; rintro e w2 ⟨rfl, d1, d2, d3, d4, rfl⟩))
  all_goals go_wp2_with (go_at_call 136; refine (wide_any _ _ _).mono ?_; rintro e w1 ⟨rfl, f1, f2, rfl⟩)
  all_goals go_returns
  all_goals exact ⟨ret_wb rfl rfl HL.out.symm, ⟨by go_grown, by go_grown⟩⟩
end Go.Proofs.YtkflpogmhailhaaGreatDoor
