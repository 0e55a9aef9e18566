/- Sums of operands. -/
import Derived.Test.YtkflpogmhailhaaDoorB2
import Derived.Test.YtkflpogmhailhaaDoorL3K
import Derived.Test.YtkflpogmhailhaaDoorL3P
set_option linter.unusedVariables false
set_option linter.unusedSimpArgs false
namespace Go.Proofs.YtkflpogmhailhaaDoor
open Go.RowKit

theorem nilO_s (md : Int) : (nilO md).s = 0 ∨ (nilO md).s = 1 := by
  unfold nilO; dsimp only; split
  · exact .inr rfl
  · exact .inl rfl
theorem totO_cs (md : Int) (x y : Opd) (hx : x.s = 0 ∨ x.s = 1) (hy : y.s = 0 ∨ y.s = 1) : ((totO md x y).c = 0 ∨ (totO md x y).c = 1) ∧ ((totO md x y).s = 0 ∨ (totO md x y).s = 1) := by
  unfold totO
  split
  · exact ⟨.inr rfl, hx⟩
  · split
    · exact ⟨.inl rfl, nilO_s md⟩
    · split
      · exact ⟨.inr rfl, hx⟩
      · exact ⟨.inr rfl, hy⟩

theorem sum_any (p mn mx md : Int) (k : Nat) (x y : Opd) (hx : VO x) (hy : VO y) (h2 : max x.c y.c < 3) (w : World) :
    Calls Tryd.prog 51 #[.agg #[.int .i64 p, .int .i64 mn, .int .i64 mx, .int .i64 md, .func (.func k) #[] #[]], .agg #[.int .i64 x.s, .int .i64 x.e, .int .i64 x.c, .int .u64 (((x.M / 18446744073709551616 : Nat) : Int)), .int .u64 (((x.M % 18446744073709551616 : Nat) : Int)), .bool false, .int .i64 0], .agg #[.int .i64 y.s, .int .i64 y.e, .int .i64 y.c, .int .u64 (((y.M / 18446744073709551616 : Nat) : Int)), .int .u64 (((y.M % 18446744073709551616 : Nat) : Int)), .bool false, .int .i64 0]] w fun e w' => ∃ os oe oc oh ol ot, SameV (sumO md x y) os oe oc oh ol ot ∧ e = .returned (.agg #[.int .i64 os, .int .i64 oe, .int .i64 oc, .int .u64 oh, .int .u64 ol, .bool ot, .int .i64 0]) ∧ Gr w w' := by
  have c0 := hx.c0
  have d0 := hy.c0
  unfold sumO
  rw [if_neg (show ¬ 3 ≤ max x.c y.c by omega)]
  by_cases c1 : y.c < x.c
  · rw [if_pos c1]
    refine (sum_gt p mn mx md k _ _ _ _ _ _ _ _ _ _ _ _ c1 w).mono ?_
    rintro r w' ⟨rfl, hg⟩
    exact ⟨_, _, _, _, _, _, hx.same, rfl, hg⟩
  · rw [if_neg c1]
    by_cases c2 : x.c < y.c
    · rw [if_pos c2]
      refine (sum_lt p mn mx md k _ _ _ _ _ _ _ _ _ _ _ _ c2 w).mono ?_
      rintro r w' ⟨rfl, hg⟩
      exact ⟨_, _, _, _, _, _, hy.same, rfl, hg⟩
    · rw [if_neg c2]
      by_cases c3 : x.c = 1
      · rw [if_pos c3]
        refine (sum_tot p mn mx md k _ _ _ _ _ _ _ _ _ _ _ _ c3 (by omega) (fun os oe oc oh ol ot => SameV (totO md x y) os oe oc oh ol ot) (fun w => ?_) w).mono (fun e w' h => h)
        refine (total_any p mn mx md k x y hx hy c3 (by omega) w).mono ?_
        rintro r w' ⟨c, s, e, M, st, hsm, rfl, hg⟩
        obtain ⟨t1, t2⟩ := totO_cs md x y hx.s01 hy.s01
        have tc := hsm.1
        exact ⟨_, _, _, _, _, _, ⟨M, rfl, rfl, hsm, by omega, by omega, fun hc => by rw [← hsm.2.1 hc]; exact t2⟩, rfl, hg⟩
      · rw [if_neg c3]
        by_cases c4 : x.s = y.s
        · rw [if_pos c4]
          refine (sum_sg p mn mx md k _ _ _ _ _ _ _ _ _ _ _ _ (by omega) (by simp [c3]) c4 w).mono ?_
          rintro r w' ⟨rfl, hg⟩
          exact ⟨_, _, _, _, _, _, hx.same, rfl, hg⟩
        · rw [if_neg c4]
          by_cases c5 : x.c = 2
          · rw [if_pos c5]
            refine (sum_inf p mn mx md k _ _ _ _ _ _ _ _ _ _ _ _ c5 (by omega) (by simp [c4]) w).mono ?_
            rintro r w' ⟨rfl, hg⟩
            exact ⟨_, _, _, _, _, _, ⟨0, rfl, rfl, ⟨rfl, fun _ => rfl, (fun h => by cases h)⟩, (show (0 : Int) ≤ 4 by omega), (show (4 : Int) ≤ 4 by omega), fun _ => .inl rfl⟩, rfl, hg⟩
          · rw [if_neg c5]
            refine (sum_nil p mn mx md k _ _ _ _ _ _ _ _ _ _ _ _ (by omega) (by omega) (by simp [c4]) _ _ _ _ _ _ (fun w => nothing_any p mn mx md k w) w).mono ?_
            rintro r w' ⟨rfl, hg⟩
            exact ⟨_, _, _, _, _, _, ⟨0, rfl, rfl, nil_same md, by omega, by omega, fun _ => nilO_s md⟩, rfl, hg⟩

theorem VO.turn {x : Opd} (h : VO x) : VO (turnO x) := ⟨h.c0, h.c4, by have := h.s01; unfold turnO; dsimp only; omega, h.fin, h.nil, h.e0, h.e1⟩

theorem sumO_nan (md : Int) (x y : Opd) (h : 3 ≤ max x.c y.c) : sumO md x y = ⟨max x.c y.c, 0, 0, 0⟩ := by unfold sumO; rw [if_pos h]

theorem combine_sum_any (p mn mx md : Int) (k : Nat) (x y : Opd) (hx : VO x) (hy : VO y) (w : World) :
    Calls Tryd.prog 60 #[.agg #[.int .i64 p, .int .i64 mn, .int .i64 mx, .int .i64 md, .func (.func k) #[] #[]], .func (.func 51) #[] #[], .agg #[.int .i64 x.s, .int .i64 x.e, .int .i64 x.c, .int .u64 (((x.M / 18446744073709551616 : Nat) : Int)), .int .u64 (((x.M % 18446744073709551616 : Nat) : Int)), .bool false, .int .i64 0], .agg #[.int .i64 y.s, .int .i64 y.e, .int .i64 y.c, .int .u64 (((y.M / 18446744073709551616 : Nat) : Int)), .int .u64 (((y.M % 18446744073709551616 : Nat) : Int)), .bool false, .int .i64 0]] w fun e w' => ∃ os oe oc oh ol ot, SameV (sumO md x y) os oe oc oh ol ot ∧ e = .returned (.agg #[.int .i64 os, .int .i64 oe, .int .i64 oc, .int .u64 oh, .int .u64 ol, .bool ot, .int .i64 0]) ∧ Gr w w' := by
  by_cases h : 3 ≤ max x.c y.c
  · refine (combine_nan p mn mx md k _ _ _ _ _ _ _ _ _ _ _ _ 51 _ rfl h w).mono ?_
    rintro r w' ⟨rfl, hg⟩
    have := hx.c4
    have := hy.c4
    rw [sumO_nan md x y h]
    exact ⟨_, _, _, _, _, _, nan_same _ h (by omega), rfl, hg⟩
  · exact combine_sum p mn mx md k _ _ _ _ _ _ _ _ _ _ _ _ _ rfl (by omega) _ (fun w => sum_any p mn mx md k x y hx hy (by omega) w) w

end Go.Proofs.YtkflpogmhailhaaDoor

/- impl's Add, Sub, Mul: what they answer. -/
set_option linter.unusedVariables false
set_option linter.unusedSimpArgs false
namespace Go.Proofs.YtkflpogmhailhaaDoor
open Go.RowKit
theorem product_any (p mn mx md : Int) (k : Nat) (x y : Opd) (hx : VO x) (hy : VO y) (hxM : x.M < 18446744073709551616) (hyM : y.M < 18446744073709551616) (h2 : max x.c y.c < 3) (w : World) :
    Calls Tryd.prog 54 #[.agg #[.int .i64 p, .int .i64 mn, .int .i64 mx, .int .i64 md, .func (.func k) #[] #[]], .agg #[.int .i64 x.s, .int .i64 x.e, .int .i64 x.c, .int .u64 (((x.M / 18446744073709551616 : Nat) : Int)), .int .u64 (((x.M % 18446744073709551616 : Nat) : Int)), .bool false, .int .i64 0], .agg #[.int .i64 y.s, .int .i64 y.e, .int .i64 y.c, .int .u64 (((y.M / 18446744073709551616 : Nat) : Int)), .int .u64 (((y.M % 18446744073709551616 : Nat) : Int)), .bool false, .int .i64 0]] w fun e w' => e = .returned (.agg #[.int .i64 ((prodO x y).s), .int .i64 ((prodO x y).e), .int .i64 ((prodO x y).c), .int .u64 ((((prodO x y).M / 18446744073709551616 : Nat) : Int)), .int .u64 ((((prodO x y).M % 18446744073709551616 : Nat) : Int)), .bool false, .int .i64 0]) ∧ Gr w w' := by
  have HT : Hid (∀ w, Calls Tryd.prog 87 #[.agg #[.int .i64 x.s, .int .i64 x.e], .agg #[.int .i64 y.s, .int .i64 y.e]] w fun e w' => e = .returned (.agg #[.int .i64 (mulS x.s y.s), .int .i64 (x.e + y.e)]) ∧ Gr w w') := fun w => times_any x.s x.e y.s y.e hx.s01 hy.s01 (by have := hx.e0; omega) (by have := hx.e1; omega) (by have := hy.e0; omega) (by have := hy.e1; omega) w
  have hMm : Hid (∀ w, Calls Tryd.prog 88 #[.int .u64 ((x.M % 18446744073709551616 : Nat) : Int), .int .u64 ((y.M % 18446744073709551616 : Nat) : Int)] w fun e w' => e = .returned (.agg #[.int .u64 ((x.M * y.M / 18446744073709551616 : Nat) : Int), .int .u64 ((x.M * y.M % 18446744073709551616 : Nat) : Int)]) ∧ Gr w w') := fun w => by
    rw [Nat.mod_eq_of_lt hxM, Nat.mod_eq_of_lt hyM]; exact mulW x.M y.M hxM hyM w
  have c0 := hx.c0
  have d0 := hy.c0
  obtain ⟨cx, sx, ex, Mx⟩ := x
  obtain ⟨cy, sy, ey, My⟩ := y
  dsimp only at *
  rcases (show cx = 0 ∨ cx = 1 ∨ cx = 2 by omega) with rfl | rfl | rfl <;> rcases (show cy = 0 ∨ cy = 1 ∨ cy = 2 by omega) with rfl | rfl | rfl
  · rw [show prodO ⟨0, sx, ex, Mx⟩ ⟨0, sy, ey, My⟩ = ⟨0, mulS sx sy, ex + ey, 0⟩ from by unfold prodO; dsimp only; rw [if_neg (by decide), if_neg (by decide), if_pos (by decide)]]
    refine (product_00 p mn mx md k _ _ _ _ _ _ _ _ _ _ _ _ HT w).mono ?_
    rintro r w' ⟨rfl, hg⟩
    exact ⟨by simp, hg⟩
  · rw [show prodO ⟨0, sx, ex, Mx⟩ ⟨1, sy, ey, My⟩ = ⟨0, mulS sx sy, ex + ey, 0⟩ from by unfold prodO; dsimp only; rw [if_neg (by decide), if_neg (by decide), if_pos (by decide)]]
    refine (product_01 p mn mx md k _ _ _ _ _ _ _ _ _ _ _ _ HT w).mono ?_
    rintro r w' ⟨rfl, hg⟩
    exact ⟨by simp, hg⟩
  · rw [show prodO ⟨0, sx, ex, Mx⟩ ⟨2, sy, ey, My⟩ = ⟨4, mulS sx sy, ex + ey, 0⟩ from by unfold prodO; dsimp only; rw [if_neg (by decide), if_pos (by decide)]]
    refine (product_02 p mn mx md k _ _ _ _ _ _ _ _ _ _ _ _ HT w).mono ?_
    rintro r w' ⟨rfl, hg⟩
    exact ⟨by simp, hg⟩
  · rw [show prodO ⟨1, sx, ex, Mx⟩ ⟨0, sy, ey, My⟩ = ⟨0, mulS sx sy, ex + ey, 0⟩ from by unfold prodO; dsimp only; rw [if_neg (by decide), if_neg (by decide), if_pos (by decide)]]
    refine (product_10 p mn mx md k _ _ _ _ _ _ _ _ _ _ _ _ HT w).mono ?_
    rintro r w' ⟨rfl, hg⟩
    exact ⟨by simp, hg⟩
  · rw [show prodO ⟨1, sx, ex, Mx⟩ ⟨1, sy, ey, My⟩ = ⟨1, mulS sx sy, ex + ey, Mx * My⟩ from by unfold prodO; dsimp only; rw [if_neg (by decide), if_neg (by decide), if_neg (by decide), if_neg (by decide)]]
    exact product_11 p mn mx md k _ _ _ _ _ _ _ _ _ _ _ _ HT _ _ hMm w
  · rw [show prodO ⟨1, sx, ex, Mx⟩ ⟨2, sy, ey, My⟩ = ⟨2, mulS sx sy, ex + ey, 0⟩ from by unfold prodO; dsimp only; rw [if_neg (by decide), if_neg (by decide), if_neg (by decide), if_pos (by decide)]]
    refine (product_12 p mn mx md k _ _ _ _ _ _ _ _ _ _ _ _ HT w).mono ?_
    rintro r w' ⟨rfl, hg⟩
    exact ⟨by simp, hg⟩
  · rw [show prodO ⟨2, sx, ex, Mx⟩ ⟨0, sy, ey, My⟩ = ⟨4, mulS sx sy, ex + ey, 0⟩ from by unfold prodO; dsimp only; rw [if_neg (by decide), if_pos (by decide)]]
    refine (product_20 p mn mx md k _ _ _ _ _ _ _ _ _ _ _ _ HT w).mono ?_
    rintro r w' ⟨rfl, hg⟩
    exact ⟨by simp, hg⟩
  · rw [show prodO ⟨2, sx, ex, Mx⟩ ⟨1, sy, ey, My⟩ = ⟨2, mulS sx sy, ex + ey, 0⟩ from by unfold prodO; dsimp only; rw [if_neg (by decide), if_neg (by decide), if_neg (by decide), if_pos (by decide)]]
    refine (product_21 p mn mx md k _ _ _ _ _ _ _ _ _ _ _ _ HT w).mono ?_
    rintro r w' ⟨rfl, hg⟩
    exact ⟨by simp, hg⟩
  · rw [show prodO ⟨2, sx, ex, Mx⟩ ⟨2, sy, ey, My⟩ = ⟨2, mulS sx sy, ex + ey, 0⟩ from by unfold prodO; dsimp only; rw [if_neg (by decide), if_neg (by decide), if_neg (by decide), if_pos (by decide)]]
    refine (product_22 p mn mx md k _ _ _ _ _ _ _ _ _ _ _ _ HT w).mono ?_
    rintro r w' ⟨rfl, hg⟩
    exact ⟨by simp, hg⟩

theorem prodO_nan (x y : Opd) (h : 3 ≤ max x.c y.c) : prodO x y = ⟨max x.c y.c, 0, 0, 0⟩ := by unfold prodO; rw [if_pos h]

theorem prodO_vo {x y : Opd} (hx : VO x) (hy : VO y) (hxn : nb x.M ≤ 53) (hyn : nb y.M ≤ 53) (x0 : -2000 ≤ x.e) (x1 : x.e ≤ 2000) (y0 : -2000 ≤ y.e) (y1 : y.e ≤ 2000) : VO (prodO x y) := by
  have hm : mulS x.s y.s = 0 ∨ mulS x.s y.s = 1 := by unfold mulS; split <;> simp
  have cx4 := hx.c4
  have cy4 := hy.c4
  have cx0 := hx.c0
  have cy0 := hy.c0
  unfold prodO
  split
  · rename_i h; exact ⟨by dsimp only; omega, by dsimp only; omega, .inl rfl, fun c => by dsimp only at c; omega, fun _ => rfl, (by dsimp only; omega), (by dsimp only; omega)⟩
  · rename_i h
    split
    · exact ⟨(by dsimp only; omega), (by dsimp only; omega), hm, (fun c => by cases c), fun _ => rfl, by dsimp only; omega, by dsimp only; omega⟩
    · split
      · exact ⟨(by dsimp only; omega), (by dsimp only; omega), hm, (fun c => by cases c), fun _ => rfl, by dsimp only; omega, by dsimp only; omega⟩
      · split
        · exact ⟨(by dsimp only; omega), (by dsimp only; omega), hm, (fun c => by cases c), fun _ => rfl, by dsimp only; omega, by dsimp only; omega⟩
        · rename_i h1 h2 h3
          have ex := (hx.fin (by omega)).1
          have ey := (hy.fin (by omega)).1
          refine ⟨(by dsimp only; omega), (by dsimp only; omega), hm, fun _ => ⟨Nat.mul_pos ex ey, ?_⟩, fun c => absurd rfl c, by dsimp only; omega, by dsimp only; omega⟩
          refine nb_le ?_
          have a1 := nb_lt x.M
          have a2 := nb_lt y.M
          have a3 := pow2_mono hxn
          have a4 := pow2_mono hyn
          have : x.M * y.M < 2 ^ 53 * 2 ^ 53 := Nat.mul_lt_mul'' (by omega) (by omega)
          rw [← Nat.pow_add] at this
          exact this

theorem combine_product_any (p mn mx md : Int) (k : Nat) (x y : Opd) (hx : VO x) (hy : VO y) (hxM : x.M < 18446744073709551616) (hyM : y.M < 18446744073709551616) (w : World) :
    Calls Tryd.prog 60 #[.agg #[.int .i64 p, .int .i64 mn, .int .i64 mx, .int .i64 md, .func (.func k) #[] #[]], .func (.func 54) #[] #[], .agg #[.int .i64 x.s, .int .i64 x.e, .int .i64 x.c, .int .u64 (((x.M / 18446744073709551616 : Nat) : Int)), .int .u64 (((x.M % 18446744073709551616 : Nat) : Int)), .bool false, .int .i64 0], .agg #[.int .i64 y.s, .int .i64 y.e, .int .i64 y.c, .int .u64 (((y.M / 18446744073709551616 : Nat) : Int)), .int .u64 (((y.M % 18446744073709551616 : Nat) : Int)), .bool false, .int .i64 0]] w fun e w' => e = .returned (.agg #[.int .i64 ((prodO x y).s), .int .i64 ((prodO x y).e), .int .i64 ((prodO x y).c), .int .u64 ((((prodO x y).M / 18446744073709551616 : Nat) : Int)), .int .u64 ((((prodO x y).M % 18446744073709551616 : Nat) : Int)), .bool false, .int .i64 0]) ∧ Gr w w' := by
  by_cases h : 3 ≤ max x.c y.c
  · refine (combine_nan p mn mx md k _ _ _ _ _ _ _ _ _ _ _ _ 54 _ rfl h w).mono ?_
    rintro r w' ⟨rfl, hg⟩
    rw [prodO_nan x y h]
    exact ⟨by simp, hg⟩
  · refine (combine_product p mn mx md k _ _ _ _ _ _ _ _ _ _ _ _ _ rfl (by omega) (fun os oe oc oh ol ot => os = (prodO x y).s ∧ oe = (prodO x y).e ∧ oc = (prodO x y).c ∧ oh = (((prodO x y).M / 18446744073709551616 : Nat) : Int) ∧ ol = (((prodO x y).M % 18446744073709551616 : Nat) : Int) ∧ ot = false) (fun w => ?_) w).mono ?_
    · refine (product_any p mn mx md k x y hx hy hxM hyM (by omega) w).mono ?_
      rintro r w' ⟨rfl, hg⟩
      exact ⟨_, _, _, _, _, _, ⟨rfl, rfl, rfl, rfl, rfl, rfl⟩, rfl, hg⟩
    · rintro r w' ⟨os, oe, oc, oh, ol, ot, ⟨rfl, rfl, rfl, rfl, rfl, rfl⟩, rfl, hg⟩
      exact ⟨rfl, hg⟩
end Go.Proofs.YtkflpogmhailhaaDoor
