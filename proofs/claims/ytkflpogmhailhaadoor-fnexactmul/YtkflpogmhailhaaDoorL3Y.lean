/- spec.l3Sum, whole; spec's Add and Mul: what they answer. -/
import Derived.Test.YtkflpogmhailhaaDoorL3V
import Derived.Test.YtkflpogmhailhaaDoorL3YA
import Derived.Test.YtkflpogmhailhaaDoorB6
set_option linter.unusedVariables false
set_option linter.unusedSimpArgs false
namespace Go.Proofs.YtkflpogmhailhaaDoor
open Go.RowKit
theorem l3Sum_any {f p mx one inf sg nan : Int} (h : IsFmt f p mx one inf sg nan) (mode : Int) (m0 : 0 ≤ mode) (m1 : mode ≤ 4) (x y : Opd) (hx : VO x) (hy : VO y) (cx : x.c ≤ 1) (cy : y.c ≤ 1) (x0 : -4000 ≤ x.e) (x1 : x.e ≤ 4000) (y0 : -4000 ≤ y.e) (y1 : y.e ≤ 4000) (bx kx qx gy ky qy : Nat) {w : World} (HX : BigN 4 w (.slice (some ⟨bx, 0, none⟩) kx qx) x.M) (HY : BigN 4 w (.slice (some ⟨gy, 0, none⟩) ky qy) y.M) :
    Calls Tryd.prog 49 #[.int .i64 f, .int .i64 mode, .agg #[.int .i64 x.s, .slice (some ⟨bx, 0, none⟩) kx qx, .int .i64 x.e, .bool false], .agg #[.int .i64 y.s, .slice (some ⟨gy, 0, none⟩) ky qy, .int .i64 y.e, .bool false]] w fun e w' => ∃ z fl, PackIs p (1 - mx) mx one inf sg nan mode (sumO mode x y) z fl ∧ e = .returned (.agg #[.int .u64 z, .int .i64 fl]) ∧ Gb w w' := by
  have c0 := hx.c0
  have d0 := hy.c0
  have zx := bigN_zk HX
  have zy := bigN_zk HY
  have hzero : ∀ s : Int, (s = 0 ∨ s = 1) → Hid (∀ w, Calls Tryd.prog 36 #[.int .i64 f, .int .i64 s] w fun e w' => e = .returned (.agg #[.int .u64 (sw s sg 0), .int .i64 0]) ∧ Gr w w') := fun s hs w => l3Zero_any h s hs w
  have hnil : ∀ o : Opd, o = nilO mode → PackIs p (1 - mx) mx one inf sg nan mode o (sw (if mode = 4 then 1 else 0) sg 0) 0 := fun o ho => by rw [ho]; exact .inl ⟨rfl, rfl, rfl⟩
  have htot : ∀ (ex ey sT : Int) (MT : Nat), -4000 ≤ ex → ex ≤ 4000 → -4000 ≤ ey → ey ≤ 4000 → TotIs x.s y.s (x.M * 2 ^ (ex - min ex ey).toNat) (y.M * 2 ^ (ey - min ex ey).toNat) sT MT → Hid (∀ w', Gb w w' → Calls Tryd.prog 84 #[.agg #[.int .i64 x.s, .slice (some ⟨bx, 0, none⟩) kx qx, .int .i64 ex, .bool false], .agg #[.int .i64 y.s, .slice (some ⟨gy, 0, none⟩) ky qy, .int .i64 ey, .bool false]] w' fun e w'' => ∃ b k c, BigN 1000 w'' (.slice (some ⟨b, 0, none⟩) k c) MT ∧ e = .returned (.agg #[.int .i64 sT, .slice (some ⟨b, 0, none⟩) k c, .int .i64 (min ex ey), .bool false]) ∧ Gb w' w'') := fun ex ey sT MT a1 a2 a3 a4 hT w' hg => l3Total_any x.s y.s ex ey bx kx qx gy ky qy x.M y.M (HX.gb hg) (HY.gb hg) a1 a2 a3 a4 sT MT hT
  rcases (show x.c = 0 ∨ x.c = 1 by omega) with xc | xc <;> rcases (show y.c = 0 ∨ y.c = 1 by omega) with yc | yc
  · -- two zeros
    have xM := hx.nil (by omega)
    have yM := hy.nil (by omega)
    rw [decide_eq_true xM] at zx
    rw [decide_eq_true yM] at zy
    have hsum : sumO mode x y = if x.s = y.s then x else nilO mode := by
      unfold sumO
      rw [if_neg (show ¬ 3 ≤ max x.c y.c by omega), if_neg (show ¬ y.c < x.c by omega), if_neg (show ¬ x.c < y.c by omega), if_neg (show ¬ x.c = 1 by omega), if_neg (show ¬ x.c = 2 by omega)]
    by_cases hs : x.s = y.s
    · have hT := htot y.e y.e x.s 0 y0 y1 y0 y1 (.inl ⟨hs, rfl, by rw [xM, yM]; simp⟩)
      refine (l3Sum_zzS f mode x.s y.s x.e y.e x.s _ bx kx qx gy ky qy 0 zx zy hT rfl (by simp [hs]) _ (hzero x.s hx.s01)).mono ?_
      rintro r w' ⟨rfl, hg⟩
      refine ⟨_, _, ?_, rfl, hg⟩
      rw [hsum, if_pos hs]
      exact .inl ⟨xc, rfl, rfl⟩
    · have hT := htot y.e y.e x.s 0 y0 y1 y0 y1 (.inr (.inl ⟨hs, by rw [xM, yM]; simp, rfl, by rw [xM, yM]; simp⟩))
      rw [hsum, if_neg hs]
      by_cases hm : mode = 4
      · refine (l3Sum_zzD f mode x.s y.s x.e y.e x.s _ bx kx qx gy ky qy 0 zx zy hT rfl (by simp [hs]) (by simp [hm]) _ (hzero 1 (.inr rfl))).mono ?_
        rintro r w' ⟨rfl, hg⟩
        have := hnil _ rfl
        rw [if_pos hm] at this
        exact ⟨_, _, this, rfl, hg⟩
      · refine (l3Sum_zzO f mode x.s y.s x.e y.e x.s _ bx kx qx gy ky qy 0 zx zy hT rfl (by simp [hs]) (by simp [hm]) _ (hzero 0 (.inl rfl))).mono ?_
        rintro r w' ⟨rfl, hg⟩
        have := hnil _ rfl
        rw [if_neg hm] at this
        exact ⟨_, _, this, rfl, hg⟩
  · -- a zero and a number
    have xM := hx.nil (by omega)
    have yM := (hy.fin yc).1
    rw [decide_eq_true xM] at zx
    rw [decide_eq_false (by omega)] at zy
    have hsum : sumO mode x y = y := by
      unfold sumO
      rw [if_neg (show ¬ 3 ≤ max x.c y.c by omega), if_neg (show ¬ y.c < x.c by omega), if_pos (show x.c < y.c by omega)]
    have hT := htot y.e y.e y.s y.M y0 y1 y0 y1 (by
      have e1 : (y.e - min y.e y.e).toNat = 0 := by omega
      rw [e1, xM]
      simp only [Nat.pow_zero, Nat.mul_one]
      by_cases hs : x.s = y.s
      · exact .inl ⟨hs, hs.symm, by omega⟩
      · exact .inr (.inr ⟨hs, by omega, rfl, by omega⟩))
    rw [show min y.e y.e = y.e by omega] at hT
    refine (l3Sum_znR f mode x.s y.s x.e y.e y.s y.e bx kx qx gy ky qy y.M zx zy hT yM (fun z fl => PackIs p (1 - mx) mx one inf sg nan mode y z fl) (fun v w hB => round_at h mode m0 m1 y yc hy.s01 yM (by omega) (by omega) 1000 (by omega) v w hB)).mono ?_
    rw [hsum]
    exact fun e w' h => h
  · -- a number and a zero
    have xM := (hx.fin xc).1
    have yM := hy.nil (by omega)
    rw [decide_eq_false (by omega)] at zx
    rw [decide_eq_true yM] at zy
    have hsum : sumO mode x y = x := by
      unfold sumO
      rw [if_neg (show ¬ 3 ≤ max x.c y.c by omega), if_pos (show y.c < x.c by omega)]
    have hT := htot x.e x.e x.s x.M x0 x1 x0 x1 (by
      have e1 : (x.e - min x.e x.e).toNat = 0 := by omega
      rw [e1, yM]
      simp only [Nat.pow_zero, Nat.mul_one]
      by_cases hs : x.s = y.s
      · exact .inl ⟨hs, rfl, by omega⟩
      · exact .inr (.inl ⟨hs, by omega, rfl, by omega⟩))
    rw [show min x.e x.e = x.e by omega] at hT
    refine (l3Sum_nzR f mode x.s y.s x.e y.e x.s x.e bx kx qx gy ky qy x.M zx zy hT xM (fun z fl => PackIs p (1 - mx) mx one inf sg nan mode x z fl) (fun v w hB => round_at h mode m0 m1 x xc hx.s01 xM (by omega) (by omega) 1000 (by omega) v w hB)).mono ?_
    rw [hsum]
    exact fun e w' h => h
  · -- two numbers
    have xM := (hx.fin xc).1
    have yM := (hy.fin yc).1
    rw [decide_eq_false (by omega)] at zx
    rw [decide_eq_false (by omega)] at zy
    have hsum : sumO mode x y = totO mode x y := by
      unfold sumO
      rw [if_neg (show ¬ 3 ≤ max x.c y.c by omega), if_neg (show ¬ y.c < x.c by omega), if_neg (show ¬ x.c < y.c by omega), if_pos xc]
    have hmin : -5000 ≤ min x.e y.e ∧ min x.e y.e ≤ 5000 := by omega
    rw [hsum]
    have hb : bothM x y = (x.M * 2 ^ (x.e - min x.e y.e).toNat, y.M * 2 ^ (y.e - min x.e y.e).toNat) := rfl
    obtain ⟨A, hA⟩ : ∃ A, x.M * 2 ^ (x.e - min x.e y.e).toNat = A := ⟨_, rfl⟩
    obtain ⟨B, hB⟩ : ∃ B, y.M * 2 ^ (y.e - min x.e y.e).toNat = B := ⟨_, rfl⟩
    have hA0 : 0 < A := by rw [← hA]; exact Nat.mul_pos xM (Nat.pow_pos (by decide))
    have hB0 : 0 < B := by rw [← hB]; exact Nat.mul_pos yM (Nat.pow_pos (by decide))
    have htot' := htot x.e y.e
    rw [hA, hB] at hb htot'
    unfold totO
    rw [hb]
    dsimp only
    by_cases hs : x.s = y.s
    · rw [if_pos hs]
      exact l3Sum_nnR f mode x.s y.s x.e y.e x.s _ bx kx qx gy ky qy (A + B) zx zy (htot' _ _ x0 x1 y0 y1 (.inl ⟨hs, rfl, rfl⟩)) (by omega) _ (fun v w hB => round_at h mode m0 m1 ⟨1, x.s, min x.e y.e, A + B⟩ rfl hx.s01 (by dsimp only; omega) hmin.1 hmin.2 1000 (by omega) v w hB)
    · rw [if_neg hs]
      by_cases hab : A = B
      · rw [if_pos hab]
        have hT := htot' x.s 0 x0 x1 y0 y1 (.inr (.inl ⟨hs, by omega, rfl, by omega⟩))
        by_cases hm : mode = 4
        · refine (l3Sum_nnD f mode x.s y.s x.e y.e x.s _ bx kx qx gy ky qy 0 zx zy hT rfl (by simp [hs]) (by simp [hm]) _ (hzero 1 (.inr rfl))).mono ?_
          rintro r w' ⟨rfl, hg⟩
          have := hnil _ rfl
          rw [if_pos hm] at this
          exact ⟨_, _, this, rfl, hg⟩
        · refine (l3Sum_nnO f mode x.s y.s x.e y.e x.s _ bx kx qx gy ky qy 0 zx zy hT rfl (by simp [hs]) (by simp [hm]) _ (hzero 0 (.inl rfl))).mono ?_
          rintro r w' ⟨rfl, hg⟩
          have := hnil _ rfl
          rw [if_neg hm] at this
          exact ⟨_, _, this, rfl, hg⟩
      · rw [if_neg hab]
        by_cases hlt : B < A
        · rw [if_pos hlt]
          exact l3Sum_nnR f mode x.s y.s x.e y.e x.s _ bx kx qx gy ky qy (A - B) zx zy (htot' _ _ x0 x1 y0 y1 (.inr (.inl ⟨hs, by omega, rfl, rfl⟩))) (by omega) _ (fun v w hB => round_at h mode m0 m1 ⟨1, x.s, min x.e y.e, A - B⟩ rfl hx.s01 (by dsimp only; omega) hmin.1 hmin.2 1000 (by omega) v w hB)
        · rw [if_neg hlt]
          exact l3Sum_nnR f mode x.s y.s x.e y.e y.s _ bx kx qx gy ky qy (B - A) zx zy (htot' _ _ x0 x1 y0 y1 (.inr (.inr ⟨hs, by omega, rfl, rfl⟩))) (by omega) _ (fun v w hB => round_at h mode m0 m1 ⟨1, y.s, min x.e y.e, B - A⟩ rfl hy.s01 (by dsimp only; omega) hmin.1 hmin.2 1000 (by omega) v w hB)

theorem sumO_c (mode : Int) (x y : Opd) (hx : VO x) (hy : VO y) : 0 ≤ (sumO mode x y).c ∧ (sumO mode x y).c ≤ 4 := by
  have := hx.c0
  have := hx.c4
  have := hy.c0
  have := hy.c4
  have ht := totO_cs mode x y hx.s01 hy.s01
  unfold sumO
  split
  · dsimp only; omega
  · split
    · omega
    · split
      · omega
      · split
        · omega
        · split
          · omega
          · split
            · exact ⟨by decide, by decide⟩
            · unfold nilO; dsimp only; omega
end Go.Proofs.YtkflpogmhailhaaDoor
