/- laws.FnSwap: what its walk calls; the walk. -/
import Derived.Test.YtkflpogmhailhaaGreatDoorO1
import Derived.Test.YtkflpogmhailhaaGreatDoorC4
import Derived.Test.YtkflpogmhailhaaGreatDoorA7
import Derived.Deep.RegionHeld3
import Derived.Deep.DeepCutAuto
import Derived.Test.YtkflpogmhailhaaGreatDoorA6
import Derived.Test.YtkflpogmhailhaaGreatDoorC3
import Derived.Test.YtkflpogmhailhaaGreatDoorC2
import Derived.Test.YtkflpogmhailhaaGreatDoorC8
set_option linter.unusedVariables false
set_option linter.unusedSimpArgs false
namespace Go.Proofs.YtkflpogmhailhaaGreatDoor
open Go.RowKit

/-- The sums of two drawn words. -/
structure SwA (f m u v Z fl cu cv : Int) (w : World) : Prop where
  add : ∀ w', Gb w w' → Calls Tryz.prog 13 #[.int .i64 f, .int .i64 m, .int .u64 u, .int .u64 v] w' fun e w'' => e = .returned (.agg #[.int .u64 Z, .int .i64 fl]) ∧ Gr w' w''
  spc : ∀ w', Calls Tryz.prog 15 #[.int .i64 f, .int .i64 m, .int .u64 u, .int .u64 v] w' fun e w'' => e = .returned (.agg #[.int .u64 Z, .int .i64 fl]) ∧ Gb w' w''
  rev : ∀ w', Gb w w' → Calls Tryz.prog 13 #[.int .i64 f, .int .i64 m, .int .u64 v, .int .u64 u] w' fun e w'' => e = .returned (.agg #[.int .u64 Z, .int .i64 fl]) ∧ Gr w' w''
  clu : ∀ w', Calls Tryz.prog 10 #[.int .i64 f, .int .u64 u] w' fun e w'' => e = .returned (.int .i64 cu) ∧ Gr w' w''
  clv : ∀ w', Calls Tryz.prog 10 #[.int .i64 f, .int .u64 v] w' fun e w'' => e = .returned (.int .i64 cv) ∧ Gr w' w''

/-- The products of two drawn words, and of three. -/
structure SwB (f m u v t Z fl Y gl : Int) (w : World) : Prop where
  mul : ∀ w', Gb w w' → Calls Tryz.prog 17 #[.int .i64 f, .int .i64 m, .int .u64 u, .int .u64 v] w' fun e w'' => e = .returned (.agg #[.int .u64 Z, .int .i64 fl]) ∧ Gr w' w''
  spc : ∀ w', Calls Tryz.prog 18 #[.int .i64 f, .int .i64 m, .int .u64 u, .int .u64 v] w' fun e w'' => e = .returned (.agg #[.int .u64 Z, .int .i64 fl]) ∧ Gb w' w''
  rev : ∀ w', Gb w w' → Calls Tryz.prog 17 #[.int .i64 f, .int .i64 m, .int .u64 v, .int .u64 u] w' fun e w'' => e = .returned (.agg #[.int .u64 Z, .int .i64 fl]) ∧ Gr w' w''
  fma : ∀ w', Gb w w' → Calls Tryz.prog 19 #[.int .i64 f, .int .i64 m, .int .u64 u, .int .u64 v, .int .u64 t] w' fun e w'' => e = .returned (.agg #[.int .u64 Y, .int .i64 gl]) ∧ Gr w' w''
  fmr : ∀ w', Gb w w' → Calls Tryz.prog 19 #[.int .i64 f, .int .i64 m, .int .u64 v, .int .u64 u, .int .u64 t] w' fun e w'' => e = .returned (.agg #[.int .u64 Y, .int .i64 gl]) ∧ Gr w' w''

/-- The sums with signs turned. -/
structure SwA2 (f m u v Z fl cu cv u' v' Z' m' sz fa : Int) (w : World) : Prop where
  tv : ∀ w', Calls Tryz.prog 21 #[.int .i64 f, .int .u64 v] w' fun e w'' => e = .returned (.int .u64 v') ∧ w' = w''
  tu : ∀ w', Calls Tryz.prog 21 #[.int .i64 f, .int .u64 u] w' fun e w'' => e = .returned (.int .u64 u') ∧ w' = w''
  sub : ∀ w', Gb w w' → Calls Tryz.prog 20 #[.int .i64 f, .int .i64 m, .int .u64 u, .int .u64 v'] w' fun e w'' => e = .returned (.agg #[.int .u64 Z, .int .i64 fl]) ∧ Gr w' w''
  rlu : ∀ w', Calls Tryz.prog 22 #[.int .i64 f, .int .u64 u] w' fun e w'' => e = .returned (.bool (decide (cu ≤ 1))) ∧ Gr w' w''
  rlv : ∀ w', Calls Tryz.prog 22 #[.int .i64 f, .int .u64 v] w' fun e w'' => e = .returned (.bool (decide (cv ≤ 1))) ∧ Gr w' w''
  siz : ∀ w', Calls Tryz.prog 11 #[.int .i64 f, .int .u64 Z] w' fun e w'' => e = .returned (.int .u64 sz) ∧ w' = w''
  way : ∀ w', Calls Tryz.prog 23 #[.int .i64 m] w' fun e w'' => e = .returned (.int .i64 m') ∧ w' = w''
  trn : cu ≤ 1 → cv ≤ 1 → sz ≠ 0 → fa = 0 → ∀ w', Gb w w' → Calls Tryz.prog 13 #[.int .i64 f, .int .i64 m', .int .u64 u', .int .u64 v'] w' fun e w'' => e = .returned (.agg #[.int .u64 Z', .int .i64 fl]) ∧ Gr w' w''
  tz : cu ≤ 1 → cv ≤ 1 → sz ≠ 0 → fa = 0 → ∀ w', Calls Tryz.prog 21 #[.int .i64 f, .int .u64 Z] w' fun e w'' => e = .returned (.int .u64 Z') ∧ w' = w''
  fan : bits .and .i64 fl 1 = fa

/-- The products with a sign turned. -/
structure SwB2 (g n x y P pl cx cy x' P' n' pa : Int) (w : World) : Prop where
  rlx : ∀ w', Calls Tryz.prog 22 #[.int .i64 g, .int .u64 x] w' fun e w'' => e = .returned (.bool (decide (cx ≤ 1))) ∧ Gr w' w''
  rly : ∀ w', Calls Tryz.prog 22 #[.int .i64 g, .int .u64 y] w' fun e w'' => e = .returned (.bool (decide (cy ≤ 1))) ∧ Gr w' w''
  way : ∀ w', Calls Tryz.prog 23 #[.int .i64 n] w' fun e w'' => e = .returned (.int .i64 n') ∧ w' = w''
  tx : cx ≤ 1 → ∀ w', Calls Tryz.prog 21 #[.int .i64 g, .int .u64 x] w' fun e w'' => e = .returned (.int .u64 x') ∧ w' = w''
  trn : cx ≤ 1 → cy ≤ 1 → pa = 0 → ∀ w', Gb w w' → Calls Tryz.prog 17 #[.int .i64 g, .int .i64 n', .int .u64 x', .int .u64 y] w' fun e w'' => e = .returned (.agg #[.int .u64 P', .int .i64 pl]) ∧ Gr w' w''
  tp : cx ≤ 1 → cy ≤ 1 → pa = 0 → ∀ w', Calls Tryz.prog 21 #[.int .i64 g, .int .u64 P] w' fun e w'' => e = .returned (.int .u64 P') ∧ w' = w''
  fan : bits .and .i64 pl 1 = pa

theorem CodeRow.gb {w w' : World} {a : Option Addr} {len : Nat} (h : CodeRow w a len) (g : Gb w w') : CodeRow w' a len := by
  obtain ⟨h1, h2⟩ := h
  refine ⟨h1, ?_⟩
  rcases h2 with e | ⟨b, off, rfl, hc⟩
  · exact .inl e
  · refine .inr ⟨b, off, rfl, fun i hi => ?_⟩
    obtain ⟨z, z0, z1, hz⟩ := hc i hi
    exact ⟨z, z0, z1, g.old hz⟩

set_option maxRecDepth 100000 in
set_option maxHeartbeats 4000000 in
theorem swap_head (a : Option Addr) (len cap : Nat) (w : World) (hC : CodeRow w a len)
    (HA : Hid (∀ f m u v : Int, 0 ≤ u → u < 18446744073709551616 → 0 ≤ v → v < 18446744073709551616 → ∃ Z fl cu cv, SwA f m u v Z fl cu cv w ∧ (cu ≠ 4 → cv ≠ 4 → ∃ u' v' Z' m' sz fa, SwA2 f m u v Z fl cu cv u' v' Z' m' sz fa w)))
    (HD : Hid (∀ w', Gb w w' → Calls Tryz.prog 16 #[.slice a len cap] w' (FmaDraw w')))
    (HB : Hid (∀ f m u v t : Int, 0 ≤ u → u < 18446744073709551616 → 0 ≤ v → v < 18446744073709551616 → 0 ≤ t → t < 18446744073709551616 → ∃ Z fl Y gl, SwB f m u v t Z fl Y gl w ∧ ∃ cx cy x' P' n' pa, SwB2 f m u v Z fl cx cy x' P' n' pa w)) :
    Calls Tryz.prog 4 #[.slice a len cap] w fun e w' => e = .returned (.bool true) ∧ Gb w w' := by
  have hlen : len ≤ 1048576 := hC.1
  have HC : Hid (CodeRow w a len) := hC
  clear hC
  go_enter Tryz.func4, Tryz.ntmps4
  go_upto_region 4 with (go_at_call 14; refine (drawAdd_any a len cap _ HC.out).mono ?_; rintro x w1 ⟨f, m, u, v, f0, f1, m0, m1, u0, u1, v0, v1, rfl, hg_w1⟩)
  obtain ⟨Z, fl, cu, cv, SA, SA2⟩ := HA.out f m u v u0 u1 v0 v1
  have HSA2 : Hid (cu ≠ 4 → cv ≠ 4 → ∃ u' v' Z' m' sz fa, SwA2 f m u v Z fl cu cv u' v' Z' m' sz fa w) := SA2
  have HSA : Hid (SwA f m u v Z fl cu cv w) := SA
  have hgb1 : Gb w w1 := hg_w1.gb
  have hq := eqRS_same Z fl
  clear SA SA2 HA
  go_upto_region 5 with (go_at_call 13; refine (SwA.add HSA.out _ hgb1).mono ?_; rintro x w2 ⟨rfl, hg_w2⟩)
  have hgb2 : Gb w w2 := hgb1.trans hg_w2.gb
  go_region_held3 (fun w' => w'.cell? ⟨w2.heap.size, 0, none⟩ = some (.int .u64 Z) ∧ w'.cell? ⟨w2.heap.size, 1, none⟩ = some (.int .i64 fl))
    ((go_split_ands; (repeat' apply And.intro) <;> exact kh))
    (first
      | (go_at_call 15; refine (SwA.spc HSA.out _).mono ?_; rintro x w3 ⟨rfl, hg_w3⟩)
      | (go_at_call 13; refine (SwA.rev HSA.out _ Gb.g).mono ?_; rintro x w4 ⟨rfl, hg_w4⟩; have hgb4 : Gb w w4 := Gb.g; have sm0 : w4.cell? ⟨w2.heap.size, 0, none⟩ = some (.int .u64 Z) := kb; have sm1 : w4.cell? ⟨w2.heap.size, 1, none⟩ = some (.int .i64 fl) := kb))
  all_goals (try go_split_ands)
  go_upto_region 8 with (go_at_call 16; refine (HD.out _ Gb.g).mono ?_; rintro x w5 ⟨g, wy, x', y', z', g0, g1, n0, n1, x0, x1, y0, y1, z0, z1, rfl, hg_w5⟩; have sn0 : w5.cell? ⟨w2.heap.size, 0, none⟩ = some (.int .u64 Z) := hg_w5.c; have sn1 : w5.cell? ⟨w2.heap.size, 1, none⟩ = some (.int .i64 fl) := hg_w5.c)
  obtain ⟨P, pl, Y, gl, SB, cx, cy, xt, Pt, nt, pa, SB2⟩ := HB.out g wy x' y' z' x0 x1 y0 y1 z0 z1
  have HB2 : Hid (SwB2 g wy x' y' P pl cx cy xt Pt nt pa w) := SB2
  have HSB : Hid (SwB g wy x' y' z' P pl Y gl w) := SB
  have hgb5 : Gb w w5 := hgb4.trans hg_w5
  have hqP := eqRS_same P pl
  have hqY := eqRS_same Y gl
  clear SB SB2 HB HD
  go_upto_region 9 with (go_at_call 17; refine (SwB.mul HSB.out _ hgb5).mono ?_; rintro x w6 ⟨rfl, hg_w6⟩; have so0 : w6.cell? ⟨w2.heap.size, 0, none⟩ = some (.int .u64 Z) := hg_w6.c; have so1 : w6.cell? ⟨w2.heap.size, 1, none⟩ = some (.int .i64 fl) := hg_w6.c)
  have hgb6 : Gb w w6 := hgb5.trans hg_w6.gb
  go_region_held3 (fun w' => w'.cell? ⟨w6.heap.size, 0, none⟩ = some (.int .u64 P) ∧ w'.cell? ⟨w6.heap.size, 1, none⟩ = some (.int .i64 pl) ∧ w'.cell? ⟨w2.heap.size, 0, none⟩ = some (.int .u64 Z) ∧ w'.cell? ⟨w2.heap.size, 1, none⟩ = some (.int .i64 fl))
    ((go_split_ands; (repeat' apply And.intro) <;> exact kh))
    (first
      | (go_at_call 18; refine (SwB.spc HSB.out _).mono ?_; rintro x w7 ⟨rfl, hg_w7⟩)
      | (go_at_call 17; refine (SwB.rev HSB.out _ Gb.g).mono ?_; rintro x w8 ⟨rfl, hg_w8⟩; have hgb8 : Gb w w8 := Gb.g)
      | (go_at_call 19; first
          | (with_reducible refine (SwB.fma HSB.out _ Gb.g).mono ?_; rintro x w9 ⟨rfl, hg_w9⟩; have hgb9 : Gb w w9 := Gb.g)
          | (with_reducible refine (SwB.fmr HSB.out _ Gb.g).mono ?_; rintro x w9 ⟨rfl, hg_w9⟩; have hgb9 : Gb w w9 := Gb.g)))
  all_goals (try go_split_ands)
  rcases (show cu = 4 ∨ ((cu == 4) = false ∧ cv = 4) ∨ ((cu == 4) = false ∧ (cv == 4) = false) by simp; omega) with rfl | ⟨k1, rfl⟩ | ⟨k1, k2⟩
  · go_wp2_with (go_at_call 10; first | (with_reducible refine (SwA.clu HSA.out _).mono ?_; rintro x wa ⟨rfl, hg_wa⟩; have hgba : Gb w wa := Gb.g; have as0 : wa.cell? ⟨w2.heap.size, 0, none⟩ = some (.int .u64 Z) := kb; have as1 : wa.cell? ⟨w2.heap.size, 1, none⟩ = some (.int .i64 fl) := kb; have ap0 : wa.cell? ⟨w6.heap.size, 0, none⟩ = some (.int .u64 P) := kb; have ap1 : wa.cell? ⟨w6.heap.size, 1, none⟩ = some (.int .i64 pl) := kb) | (with_reducible refine (SwA.clv HSA.out _).mono ?_; rintro x wb ⟨rfl, hg_wb⟩; have hgbb : Gb w wb := Gb.g; have bs0 : wb.cell? ⟨w2.heap.size, 0, none⟩ = some (.int .u64 Z) := kb; have bs1 : wb.cell? ⟨w2.heap.size, 1, none⟩ = some (.int .i64 fl) := kb; have bp0 : wb.cell? ⟨w6.heap.size, 0, none⟩ = some (.int .u64 P) := kb; have bp1 : wb.cell? ⟨w6.heap.size, 1, none⟩ = some (.int .i64 pl) := kb))
    go_returns
    exact ⟨rfl, Gb.g⟩
  · go_wp2_with (go_at_call 10; first | (with_reducible refine (SwA.clu HSA.out _).mono ?_; rintro x wa ⟨rfl, hg_wa⟩; have hgba : Gb w wa := Gb.g; have as0 : wa.cell? ⟨w2.heap.size, 0, none⟩ = some (.int .u64 Z) := kb; have as1 : wa.cell? ⟨w2.heap.size, 1, none⟩ = some (.int .i64 fl) := kb; have ap0 : wa.cell? ⟨w6.heap.size, 0, none⟩ = some (.int .u64 P) := kb; have ap1 : wa.cell? ⟨w6.heap.size, 1, none⟩ = some (.int .i64 pl) := kb) | (with_reducible refine (SwA.clv HSA.out _).mono ?_; rintro x wb ⟨rfl, hg_wb⟩; have hgbb : Gb w wb := Gb.g; have bs0 : wb.cell? ⟨w2.heap.size, 0, none⟩ = some (.int .u64 Z) := kb; have bs1 : wb.cell? ⟨w2.heap.size, 1, none⟩ = some (.int .i64 fl) := kb; have bp0 : wb.cell? ⟨w6.heap.size, 0, none⟩ = some (.int .u64 P) := kb; have bp1 : wb.cell? ⟨w6.heap.size, 1, none⟩ = some (.int .i64 pl) := kb))
    go_returns
    exact ⟨rfl, Gb.g⟩
  · obtain ⟨u', v', Z', m', sz, fa, SA2⟩ := HSA2.out (by simpa using k1) (by simpa using k2)
    have HA2 : Hid (SwA2 f m u v Z fl cu cv u' v' Z' m' sz fa w) := SA2
    have hfa := SA2.fan
    have hpa := SwB2.fan HB2.out
    clear SA2 HSA2
    go_upto_region 13 with (go_at_call 10; first | (with_reducible refine (SwA.clu HSA.out _).mono ?_; rintro x wa ⟨rfl, hg_wa⟩; have hgba : Gb w wa := Gb.g; have as0 : wa.cell? ⟨w2.heap.size, 0, none⟩ = some (.int .u64 Z) := kb; have as1 : wa.cell? ⟨w2.heap.size, 1, none⟩ = some (.int .i64 fl) := kb; have ap0 : wa.cell? ⟨w6.heap.size, 0, none⟩ = some (.int .u64 P) := kb; have ap1 : wa.cell? ⟨w6.heap.size, 1, none⟩ = some (.int .i64 pl) := kb) | (with_reducible refine (SwA.clv HSA.out _).mono ?_; rintro x wb ⟨rfl, hg_wb⟩; have hgbb : Gb w wb := Gb.g; have bs0 : wb.cell? ⟨w2.heap.size, 0, none⟩ = some (.int .u64 Z) := kb; have bs1 : wb.cell? ⟨w2.heap.size, 1, none⟩ = some (.int .i64 fl) := kb; have bp0 : wb.cell? ⟨w6.heap.size, 0, none⟩ = some (.int .u64 P) := kb; have bp1 : wb.cell? ⟨w6.heap.size, 1, none⟩ = some (.int .i64 pl) := kb))
    go_region_held3 (fun w' => w'.cell? ⟨w2.heap.size, 0, none⟩ = some (.int .u64 Z) ∧ w'.cell? ⟨w2.heap.size, 1, none⟩ = some (.int .i64 fl))
      ((go_split_ands; (repeat' apply And.intro) <;> exact kh))
      (first
        | (go_at_call 21; refine (SwA2.tv HA2.out _).mono ?_; rintro x wk ⟨rfl, hw⟩; subst hw)
        | (go_at_call 20; refine (SwA2.sub HA2.out _ Gb.g).mono ?_; rintro x wc ⟨rfl, hg_wc⟩; have hgbc : Gb w wc := Gb.g; have cs0 : wc.cell? ⟨w2.heap.size, 0, none⟩ = some (.int .u64 Z) := kb; have cs1 : wc.cell? ⟨w2.heap.size, 1, none⟩ = some (.int .i64 fl) := kb; have cp0 : wc.cell? ⟨w6.heap.size, 0, none⟩ = some (.int .u64 P) := kb; have cp1 : wc.cell? ⟨w6.heap.size, 1, none⟩ = some (.int .i64 pl) := kb))
    all_goals (try go_split_ands)
    have pways : decide (cx ≤ 1) = false ∨ (decide (cx ≤ 1) = true ∧ decide (cy ≤ 1) = false) ∨ (decide (cx ≤ 1) = true ∧ decide (cy ≤ 1) = true ∧ (pa == 0) = false) ∨ (decide (cx ≤ 1) = true ∧ decide (cy ≤ 1) = true ∧ (pa == 0) = true) := by
      by_cases a1 : cx ≤ 1 <;> by_cases a2 : cy ≤ 1 <;> by_cases a3 : pa = 0 <;> simp [a1, a2, a3]
    have hqq : Hid (decide (cx ≤ 1) = true → decide (cy ≤ 1) = true → (pa == 0) = true → cx ≤ 1 ∧ cy ≤ 1 ∧ pa = 0) := fun a b c => ⟨of_decide_eq_true a, of_decide_eq_true b, by simpa using c⟩
    have sways : decide (cu ≤ 1) = false ∨ (decide (cu ≤ 1) = true ∧ decide (cv ≤ 1) = false) ∨ (decide (cu ≤ 1) = true ∧ decide (cv ≤ 1) = true ∧ sz = 0) ∨ (decide (cu ≤ 1) = true ∧ decide (cv ≤ 1) = true ∧ (sz == 0) = false ∧ (fa == 0) = false) ∨ (decide (cu ≤ 1) = true ∧ decide (cv ≤ 1) = true ∧ (sz == 0) = false ∧ (fa == 0) = true) := by
      by_cases a1 : cu ≤ 1 <;> by_cases a2 : cv ≤ 1 <;> by_cases a3 : sz = 0 <;> by_cases a4 : fa = 0 <;> simp [a1, a2, a3, a4]
    have htt : Hid (decide (cu ≤ 1) = true → decide (cv ≤ 1) = true → (sz == 0) = false → (fa == 0) = true → cu ≤ 1 ∧ cv ≤ 1 ∧ sz ≠ 0 ∧ fa = 0) := fun a b c d => ⟨of_decide_eq_true a, of_decide_eq_true b, by simpa using c, by simpa using d⟩
    have PW : Hid (decide (cx ≤ 1) = false ∨ (decide (cx ≤ 1) = true ∧ decide (cy ≤ 1) = false) ∨ (decide (cx ≤ 1) = true ∧ decide (cy ≤ 1) = true ∧ (pa == 0) = false) ∨ (decide (cx ≤ 1) = true ∧ decide (cy ≤ 1) = true ∧ (pa == 0) = true)) := pways
    clear pways
    rcases sways with s1 | ⟨s1, s2⟩ | ⟨s1, s2, rfl⟩ | ⟨s1, s2, s3, s4⟩ | ⟨s1, s2, s3, s4⟩
    · go_upto_region 19 with (first | (go_at_call 22; first | (with_reducible refine (SwA2.rlu HA2.out _).mono ?_; rintro x wd ⟨rfl, hg_wd⟩; have hgbd : Gb w wd := Gb.g; have ds0 : wd.cell? ⟨w2.heap.size, 0, none⟩ = some (.int .u64 Z) := kb; have ds1 : wd.cell? ⟨w2.heap.size, 1, none⟩ = some (.int .i64 fl) := kb; have dp0 : wd.cell? ⟨w6.heap.size, 0, none⟩ = some (.int .u64 P) := kb; have dp1 : wd.cell? ⟨w6.heap.size, 1, none⟩ = some (.int .i64 pl) := kb) | (with_reducible refine (SwA2.rlv HA2.out _).mono ?_; rintro x we ⟨rfl, hg_we⟩; have hgbe : Gb w we := Gb.g; have es0 : we.cell? ⟨w2.heap.size, 0, none⟩ = some (.int .u64 Z) := kb; have es1 : we.cell? ⟨w2.heap.size, 1, none⟩ = some (.int .i64 fl) := kb; have ep0 : we.cell? ⟨w6.heap.size, 0, none⟩ = some (.int .u64 P) := kb; have ep1 : we.cell? ⟨w6.heap.size, 1, none⟩ = some (.int .i64 pl) := kb)) | (go_at_call 11; refine (SwA2.siz HA2.out _).mono ?_; rintro x wk ⟨rfl, hw⟩; subst hw))
      rcases PW.out with r1 | ⟨r1, r2⟩ | ⟨r1, r2, r3⟩ | ⟨r1, r2, r3⟩
      · go_wp2_with (go_at_call 22; first | (with_reducible refine (SwB2.rlx HB2.out _).mono ?_; rintro x wg ⟨rfl, hg_wg⟩; have hgbg : Gb w wg := Gb.g; have gp0 : wg.cell? ⟨w6.heap.size, 0, none⟩ = some (.int .u64 P) := kb; have gp1 : wg.cell? ⟨w6.heap.size, 1, none⟩ = some (.int .i64 pl) := kb) | (with_reducible refine (SwB2.rly HB2.out _).mono ?_; rintro x wh ⟨rfl, hg_wh⟩; have hgbh : Gb w wh := Gb.g; have hp0 : wh.cell? ⟨w6.heap.size, 0, none⟩ = some (.int .u64 P) := kb; have hp1 : wh.cell? ⟨w6.heap.size, 1, none⟩ = some (.int .i64 pl) := kb))
        go_returns
        exact ⟨rfl, Gb.g⟩
      · go_wp2_with (go_at_call 22; first | (with_reducible refine (SwB2.rlx HB2.out _).mono ?_; rintro x wg ⟨rfl, hg_wg⟩; have hgbg : Gb w wg := Gb.g; have gp0 : wg.cell? ⟨w6.heap.size, 0, none⟩ = some (.int .u64 P) := kb; have gp1 : wg.cell? ⟨w6.heap.size, 1, none⟩ = some (.int .i64 pl) := kb) | (with_reducible refine (SwB2.rly HB2.out _).mono ?_; rintro x wh ⟨rfl, hg_wh⟩; have hgbh : Gb w wh := Gb.g; have hp0 : wh.cell? ⟨w6.heap.size, 0, none⟩ = some (.int .u64 P) := kb; have hp1 : wh.cell? ⟨w6.heap.size, 1, none⟩ = some (.int .i64 pl) := kb))
        go_returns
        exact ⟨rfl, Gb.g⟩
      · go_wp2_with (go_at_call 22; first | (with_reducible refine (SwB2.rlx HB2.out _).mono ?_; rintro x wg ⟨rfl, hg_wg⟩; have hgbg : Gb w wg := Gb.g; have gp0 : wg.cell? ⟨w6.heap.size, 0, none⟩ = some (.int .u64 P) := kb; have gp1 : wg.cell? ⟨w6.heap.size, 1, none⟩ = some (.int .i64 pl) := kb) | (with_reducible refine (SwB2.rly HB2.out _).mono ?_; rintro x wh ⟨rfl, hg_wh⟩; have hgbh : Gb w wh := Gb.g; have hp0 : wh.cell? ⟨w6.heap.size, 0, none⟩ = some (.int .u64 P) := kb; have hp1 : wh.cell? ⟨w6.heap.size, 1, none⟩ = some (.int .i64 pl) := kb))
        go_returns
        exact ⟨rfl, Gb.g⟩
      · obtain ⟨q1, q2, q3⟩ := hqq.out r1 r2 r3
        go_upto_region 21 with (first | (go_at_call 22; first | (with_reducible refine (SwB2.rlx HB2.out _).mono ?_; rintro x wg ⟨rfl, hg_wg⟩; have hgbg : Gb w wg := Gb.g; have gp0 : wg.cell? ⟨w6.heap.size, 0, none⟩ = some (.int .u64 P) := kb; have gp1 : wg.cell? ⟨w6.heap.size, 1, none⟩ = some (.int .i64 pl) := kb) | (with_reducible refine (SwB2.rly HB2.out _).mono ?_; rintro x wh ⟨rfl, hg_wh⟩; have hgbh : Gb w wh := Gb.g; have hp0 : wh.cell? ⟨w6.heap.size, 0, none⟩ = some (.int .u64 P) := kb; have hp1 : wh.cell? ⟨w6.heap.size, 1, none⟩ = some (.int .i64 pl) := kb)) | (go_at_call 23; refine (SwB2.way HB2.out _).mono ?_; rintro x wk ⟨rfl, hw⟩; subst hw) | (go_at_call 21; refine (SwB2.tx HB2.out q1 _).mono ?_; rintro x wk ⟨rfl, hw⟩; subst hw) | (go_at_call 17; refine (SwB2.trn HB2.out q1 q2 q3 _ Gb.g).mono ?_; rintro x wi ⟨rfl, hg_wi⟩; have hgbi : Gb w wi := Gb.g; have ip0 : wi.cell? ⟨w6.heap.size, 0, none⟩ = some (.int .u64 P) := kb; have ip1 : wi.cell? ⟨w6.heap.size, 1, none⟩ = some (.int .i64 pl) := kb))
        go_region_held3 (fun w' => w'.cell? ⟨w6.heap.size, 0, none⟩ = some (.int .u64 P) ∧ w'.cell? ⟨w6.heap.size, 1, none⟩ = some (.int .i64 pl) ∧ w'.cell? ⟨wi.heap.size, 0, none⟩ = some (.int .u64 Pt) ∧ w'.cell? ⟨wi.heap.size, 1, none⟩ = some (.int .i64 pl))
          ((go_split_ands; (repeat' apply And.intro) <;> exact kh))
          (first | (go_at_call 21; refine (SwB2.tp HB2.out q1 q2 q3 _).mono ?_; rintro x wk ⟨rfl, hw⟩; subst hw))
        all_goals (try go_split_ands)
        all_goals go_wp2
        all_goals go_returns
        all_goals exact ⟨by simp, Gb.g⟩
    · go_upto_region 19 with (first | (go_at_call 22; first | (with_reducible refine (SwA2.rlu HA2.out _).mono ?_; rintro x wd ⟨rfl, hg_wd⟩; have hgbd : Gb w wd := Gb.g; have ds0 : wd.cell? ⟨w2.heap.size, 0, none⟩ = some (.int .u64 Z) := kb; have ds1 : wd.cell? ⟨w2.heap.size, 1, none⟩ = some (.int .i64 fl) := kb; have dp0 : wd.cell? ⟨w6.heap.size, 0, none⟩ = some (.int .u64 P) := kb; have dp1 : wd.cell? ⟨w6.heap.size, 1, none⟩ = some (.int .i64 pl) := kb) | (with_reducible refine (SwA2.rlv HA2.out _).mono ?_; rintro x we ⟨rfl, hg_we⟩; have hgbe : Gb w we := Gb.g; have es0 : we.cell? ⟨w2.heap.size, 0, none⟩ = some (.int .u64 Z) := kb; have es1 : we.cell? ⟨w2.heap.size, 1, none⟩ = some (.int .i64 fl) := kb; have ep0 : we.cell? ⟨w6.heap.size, 0, none⟩ = some (.int .u64 P) := kb; have ep1 : we.cell? ⟨w6.heap.size, 1, none⟩ = some (.int .i64 pl) := kb)) | (go_at_call 11; refine (SwA2.siz HA2.out _).mono ?_; rintro x wk ⟨rfl, hw⟩; subst hw))
      rcases PW.out with r1 | ⟨r1, r2⟩ | ⟨r1, r2, r3⟩ | ⟨r1, r2, r3⟩
      · go_wp2_with (go_at_call 22; first | (with_reducible refine (SwB2.rlx HB2.out _).mono ?_; rintro x wg ⟨rfl, hg_wg⟩; have hgbg : Gb w wg := Gb.g; have gp0 : wg.cell? ⟨w6.heap.size, 0, none⟩ = some (.int .u64 P) := kb; have gp1 : wg.cell? ⟨w6.heap.size, 1, none⟩ = some (.int .i64 pl) := kb) | (with_reducible refine (SwB2.rly HB2.out _).mono ?_; rintro x wh ⟨rfl, hg_wh⟩; have hgbh : Gb w wh := Gb.g; have hp0 : wh.cell? ⟨w6.heap.size, 0, none⟩ = some (.int .u64 P) := kb; have hp1 : wh.cell? ⟨w6.heap.size, 1, none⟩ = some (.int .i64 pl) := kb))
        go_returns
        exact ⟨rfl, Gb.g⟩
      · go_wp2_with (go_at_call 22; first | (with_reducible refine (SwB2.rlx HB2.out _).mono ?_; rintro x wg ⟨rfl, hg_wg⟩; have hgbg : Gb w wg := Gb.g; have gp0 : wg.cell? ⟨w6.heap.size, 0, none⟩ = some (.int .u64 P) := kb; have gp1 : wg.cell? ⟨w6.heap.size, 1, none⟩ = some (.int .i64 pl) := kb) | (with_reducible refine (SwB2.rly HB2.out _).mono ?_; rintro x wh ⟨rfl, hg_wh⟩; have hgbh : Gb w wh := Gb.g; have hp0 : wh.cell? ⟨w6.heap.size, 0, none⟩ = some (.int .u64 P) := kb; have hp1 : wh.cell? ⟨w6.heap.size, 1, none⟩ = some (.int .i64 pl) := kb))
        go_returns
        exact ⟨rfl, Gb.g⟩
      · go_wp2_with (go_at_call 22; first | (with_reducible refine (SwB2.rlx HB2.out _).mono ?_; rintro x wg ⟨rfl, hg_wg⟩; have hgbg : Gb w wg := Gb.g; have gp0 : wg.cell? ⟨w6.heap.size, 0, none⟩ = some (.int .u64 P) := kb; have gp1 : wg.cell? ⟨w6.heap.size, 1, none⟩ = some (.int .i64 pl) := kb) | (with_reducible refine (SwB2.rly HB2.out _).mono ?_; rintro x wh ⟨rfl, hg_wh⟩; have hgbh : Gb w wh := Gb.g; have hp0 : wh.cell? ⟨w6.heap.size, 0, none⟩ = some (.int .u64 P) := kb; have hp1 : wh.cell? ⟨w6.heap.size, 1, none⟩ = some (.int .i64 pl) := kb))
        go_returns
        exact ⟨rfl, Gb.g⟩
      · obtain ⟨q1, q2, q3⟩ := hqq.out r1 r2 r3
        go_upto_region 21 with (first | (go_at_call 22; first | (with_reducible refine (SwB2.rlx HB2.out _).mono ?_; rintro x wg ⟨rfl, hg_wg⟩; have hgbg : Gb w wg := Gb.g; have gp0 : wg.cell? ⟨w6.heap.size, 0, none⟩ = some (.int .u64 P) := kb; have gp1 : wg.cell? ⟨w6.heap.size, 1, none⟩ = some (.int .i64 pl) := kb) | (with_reducible refine (SwB2.rly HB2.out _).mono ?_; rintro x wh ⟨rfl, hg_wh⟩; have hgbh : Gb w wh := Gb.g; have hp0 : wh.cell? ⟨w6.heap.size, 0, none⟩ = some (.int .u64 P) := kb; have hp1 : wh.cell? ⟨w6.heap.size, 1, none⟩ = some (.int .i64 pl) := kb)) | (go_at_call 23; refine (SwB2.way HB2.out _).mono ?_; rintro x wk ⟨rfl, hw⟩; subst hw) | (go_at_call 21; refine (SwB2.tx HB2.out q1 _).mono ?_; rintro x wk ⟨rfl, hw⟩; subst hw) | (go_at_call 17; refine (SwB2.trn HB2.out q1 q2 q3 _ Gb.g).mono ?_; rintro x wi ⟨rfl, hg_wi⟩; have hgbi : Gb w wi := Gb.g; have ip0 : wi.cell? ⟨w6.heap.size, 0, none⟩ = some (.int .u64 P) := kb; have ip1 : wi.cell? ⟨w6.heap.size, 1, none⟩ = some (.int .i64 pl) := kb))
        go_region_held3 (fun w' => w'.cell? ⟨w6.heap.size, 0, none⟩ = some (.int .u64 P) ∧ w'.cell? ⟨w6.heap.size, 1, none⟩ = some (.int .i64 pl) ∧ w'.cell? ⟨wi.heap.size, 0, none⟩ = some (.int .u64 Pt) ∧ w'.cell? ⟨wi.heap.size, 1, none⟩ = some (.int .i64 pl))
          ((go_split_ands; (repeat' apply And.intro) <;> exact kh))
          (first | (go_at_call 21; refine (SwB2.tp HB2.out q1 q2 q3 _).mono ?_; rintro x wk ⟨rfl, hw⟩; subst hw))
        all_goals (try go_split_ands)
        all_goals go_wp2
        all_goals go_returns
        all_goals exact ⟨by simp, Gb.g⟩
    · go_upto_region 19 with (first | (go_at_call 22; first | (with_reducible refine (SwA2.rlu HA2.out _).mono ?_; rintro x wd ⟨rfl, hg_wd⟩; have hgbd : Gb w wd := Gb.g; have ds0 : wd.cell? ⟨w2.heap.size, 0, none⟩ = some (.int .u64 Z) := kb; have ds1 : wd.cell? ⟨w2.heap.size, 1, none⟩ = some (.int .i64 fl) := kb; have dp0 : wd.cell? ⟨w6.heap.size, 0, none⟩ = some (.int .u64 P) := kb; have dp1 : wd.cell? ⟨w6.heap.size, 1, none⟩ = some (.int .i64 pl) := kb) | (with_reducible refine (SwA2.rlv HA2.out _).mono ?_; rintro x we ⟨rfl, hg_we⟩; have hgbe : Gb w we := Gb.g; have es0 : we.cell? ⟨w2.heap.size, 0, none⟩ = some (.int .u64 Z) := kb; have es1 : we.cell? ⟨w2.heap.size, 1, none⟩ = some (.int .i64 fl) := kb; have ep0 : we.cell? ⟨w6.heap.size, 0, none⟩ = some (.int .u64 P) := kb; have ep1 : we.cell? ⟨w6.heap.size, 1, none⟩ = some (.int .i64 pl) := kb)) | (go_at_call 11; refine (SwA2.siz HA2.out _).mono ?_; rintro x wk ⟨rfl, hw⟩; subst hw))
      rcases PW.out with r1 | ⟨r1, r2⟩ | ⟨r1, r2, r3⟩ | ⟨r1, r2, r3⟩
      · go_wp2_with (go_at_call 22; first | (with_reducible refine (SwB2.rlx HB2.out _).mono ?_; rintro x wg ⟨rfl, hg_wg⟩; have hgbg : Gb w wg := Gb.g; have gp0 : wg.cell? ⟨w6.heap.size, 0, none⟩ = some (.int .u64 P) := kb; have gp1 : wg.cell? ⟨w6.heap.size, 1, none⟩ = some (.int .i64 pl) := kb) | (with_reducible refine (SwB2.rly HB2.out _).mono ?_; rintro x wh ⟨rfl, hg_wh⟩; have hgbh : Gb w wh := Gb.g; have hp0 : wh.cell? ⟨w6.heap.size, 0, none⟩ = some (.int .u64 P) := kb; have hp1 : wh.cell? ⟨w6.heap.size, 1, none⟩ = some (.int .i64 pl) := kb))
        go_returns
        exact ⟨rfl, Gb.g⟩
      · go_wp2_with (go_at_call 22; first | (with_reducible refine (SwB2.rlx HB2.out _).mono ?_; rintro x wg ⟨rfl, hg_wg⟩; have hgbg : Gb w wg := Gb.g; have gp0 : wg.cell? ⟨w6.heap.size, 0, none⟩ = some (.int .u64 P) := kb; have gp1 : wg.cell? ⟨w6.heap.size, 1, none⟩ = some (.int .i64 pl) := kb) | (with_reducible refine (SwB2.rly HB2.out _).mono ?_; rintro x wh ⟨rfl, hg_wh⟩; have hgbh : Gb w wh := Gb.g; have hp0 : wh.cell? ⟨w6.heap.size, 0, none⟩ = some (.int .u64 P) := kb; have hp1 : wh.cell? ⟨w6.heap.size, 1, none⟩ = some (.int .i64 pl) := kb))
        go_returns
        exact ⟨rfl, Gb.g⟩
      · go_wp2_with (go_at_call 22; first | (with_reducible refine (SwB2.rlx HB2.out _).mono ?_; rintro x wg ⟨rfl, hg_wg⟩; have hgbg : Gb w wg := Gb.g; have gp0 : wg.cell? ⟨w6.heap.size, 0, none⟩ = some (.int .u64 P) := kb; have gp1 : wg.cell? ⟨w6.heap.size, 1, none⟩ = some (.int .i64 pl) := kb) | (with_reducible refine (SwB2.rly HB2.out _).mono ?_; rintro x wh ⟨rfl, hg_wh⟩; have hgbh : Gb w wh := Gb.g; have hp0 : wh.cell? ⟨w6.heap.size, 0, none⟩ = some (.int .u64 P) := kb; have hp1 : wh.cell? ⟨w6.heap.size, 1, none⟩ = some (.int .i64 pl) := kb))
        go_returns
        exact ⟨rfl, Gb.g⟩
      · obtain ⟨q1, q2, q3⟩ := hqq.out r1 r2 r3
        go_upto_region 21 with (first | (go_at_call 22; first | (with_reducible refine (SwB2.rlx HB2.out _).mono ?_; rintro x wg ⟨rfl, hg_wg⟩; have hgbg : Gb w wg := Gb.g; have gp0 : wg.cell? ⟨w6.heap.size, 0, none⟩ = some (.int .u64 P) := kb; have gp1 : wg.cell? ⟨w6.heap.size, 1, none⟩ = some (.int .i64 pl) := kb) | (with_reducible refine (SwB2.rly HB2.out _).mono ?_; rintro x wh ⟨rfl, hg_wh⟩; have hgbh : Gb w wh := Gb.g; have hp0 : wh.cell? ⟨w6.heap.size, 0, none⟩ = some (.int .u64 P) := kb; have hp1 : wh.cell? ⟨w6.heap.size, 1, none⟩ = some (.int .i64 pl) := kb)) | (go_at_call 23; refine (SwB2.way HB2.out _).mono ?_; rintro x wk ⟨rfl, hw⟩; subst hw) | (go_at_call 21; refine (SwB2.tx HB2.out q1 _).mono ?_; rintro x wk ⟨rfl, hw⟩; subst hw) | (go_at_call 17; refine (SwB2.trn HB2.out q1 q2 q3 _ Gb.g).mono ?_; rintro x wi ⟨rfl, hg_wi⟩; have hgbi : Gb w wi := Gb.g; have ip0 : wi.cell? ⟨w6.heap.size, 0, none⟩ = some (.int .u64 P) := kb; have ip1 : wi.cell? ⟨w6.heap.size, 1, none⟩ = some (.int .i64 pl) := kb))
        go_region_held3 (fun w' => w'.cell? ⟨w6.heap.size, 0, none⟩ = some (.int .u64 P) ∧ w'.cell? ⟨w6.heap.size, 1, none⟩ = some (.int .i64 pl) ∧ w'.cell? ⟨wi.heap.size, 0, none⟩ = some (.int .u64 Pt) ∧ w'.cell? ⟨wi.heap.size, 1, none⟩ = some (.int .i64 pl))
          ((go_split_ands; (repeat' apply And.intro) <;> exact kh))
          (first | (go_at_call 21; refine (SwB2.tp HB2.out q1 q2 q3 _).mono ?_; rintro x wk ⟨rfl, hw⟩; subst hw))
        all_goals (try go_split_ands)
        all_goals go_wp2
        all_goals go_returns
        all_goals exact ⟨by simp, Gb.g⟩
    · have s5 : (sz != 0) = true := by simpa using s3
      go_upto_region 19 with (first | (go_at_call 22; first | (with_reducible refine (SwA2.rlu HA2.out _).mono ?_; rintro x wd ⟨rfl, hg_wd⟩; have hgbd : Gb w wd := Gb.g; have ds0 : wd.cell? ⟨w2.heap.size, 0, none⟩ = some (.int .u64 Z) := kb; have ds1 : wd.cell? ⟨w2.heap.size, 1, none⟩ = some (.int .i64 fl) := kb; have dp0 : wd.cell? ⟨w6.heap.size, 0, none⟩ = some (.int .u64 P) := kb; have dp1 : wd.cell? ⟨w6.heap.size, 1, none⟩ = some (.int .i64 pl) := kb) | (with_reducible refine (SwA2.rlv HA2.out _).mono ?_; rintro x we ⟨rfl, hg_we⟩; have hgbe : Gb w we := Gb.g; have es0 : we.cell? ⟨w2.heap.size, 0, none⟩ = some (.int .u64 Z) := kb; have es1 : we.cell? ⟨w2.heap.size, 1, none⟩ = some (.int .i64 fl) := kb; have ep0 : we.cell? ⟨w6.heap.size, 0, none⟩ = some (.int .u64 P) := kb; have ep1 : we.cell? ⟨w6.heap.size, 1, none⟩ = some (.int .i64 pl) := kb)) | (go_at_call 11; refine (SwA2.siz HA2.out _).mono ?_; rintro x wk ⟨rfl, hw⟩; subst hw))
      rcases PW.out with r1 | ⟨r1, r2⟩ | ⟨r1, r2, r3⟩ | ⟨r1, r2, r3⟩
      · go_wp2_with (go_at_call 22; first | (with_reducible refine (SwB2.rlx HB2.out _).mono ?_; rintro x wg ⟨rfl, hg_wg⟩; have hgbg : Gb w wg := Gb.g; have gp0 : wg.cell? ⟨w6.heap.size, 0, none⟩ = some (.int .u64 P) := kb; have gp1 : wg.cell? ⟨w6.heap.size, 1, none⟩ = some (.int .i64 pl) := kb) | (with_reducible refine (SwB2.rly HB2.out _).mono ?_; rintro x wh ⟨rfl, hg_wh⟩; have hgbh : Gb w wh := Gb.g; have hp0 : wh.cell? ⟨w6.heap.size, 0, none⟩ = some (.int .u64 P) := kb; have hp1 : wh.cell? ⟨w6.heap.size, 1, none⟩ = some (.int .i64 pl) := kb))
        go_returns
        exact ⟨rfl, Gb.g⟩
      · go_wp2_with (go_at_call 22; first | (with_reducible refine (SwB2.rlx HB2.out _).mono ?_; rintro x wg ⟨rfl, hg_wg⟩; have hgbg : Gb w wg := Gb.g; have gp0 : wg.cell? ⟨w6.heap.size, 0, none⟩ = some (.int .u64 P) := kb; have gp1 : wg.cell? ⟨w6.heap.size, 1, none⟩ = some (.int .i64 pl) := kb) | (with_reducible refine (SwB2.rly HB2.out _).mono ?_; rintro x wh ⟨rfl, hg_wh⟩; have hgbh : Gb w wh := Gb.g; have hp0 : wh.cell? ⟨w6.heap.size, 0, none⟩ = some (.int .u64 P) := kb; have hp1 : wh.cell? ⟨w6.heap.size, 1, none⟩ = some (.int .i64 pl) := kb))
        go_returns
        exact ⟨rfl, Gb.g⟩
      · go_wp2_with (go_at_call 22; first | (with_reducible refine (SwB2.rlx HB2.out _).mono ?_; rintro x wg ⟨rfl, hg_wg⟩; have hgbg : Gb w wg := Gb.g; have gp0 : wg.cell? ⟨w6.heap.size, 0, none⟩ = some (.int .u64 P) := kb; have gp1 : wg.cell? ⟨w6.heap.size, 1, none⟩ = some (.int .i64 pl) := kb) | (with_reducible refine (SwB2.rly HB2.out _).mono ?_; rintro x wh ⟨rfl, hg_wh⟩; have hgbh : Gb w wh := Gb.g; have hp0 : wh.cell? ⟨w6.heap.size, 0, none⟩ = some (.int .u64 P) := kb; have hp1 : wh.cell? ⟨w6.heap.size, 1, none⟩ = some (.int .i64 pl) := kb))
        go_returns
        exact ⟨rfl, Gb.g⟩
      · obtain ⟨q1, q2, q3⟩ := hqq.out r1 r2 r3
        go_upto_region 21 with (first | (go_at_call 22; first | (with_reducible refine (SwB2.rlx HB2.out _).mono ?_; rintro x wg ⟨rfl, hg_wg⟩; have hgbg : Gb w wg := Gb.g; have gp0 : wg.cell? ⟨w6.heap.size, 0, none⟩ = some (.int .u64 P) := kb; have gp1 : wg.cell? ⟨w6.heap.size, 1, none⟩ = some (.int .i64 pl) := kb) | (with_reducible refine (SwB2.rly HB2.out _).mono ?_; rintro x wh ⟨rfl, hg_wh⟩; have hgbh : Gb w wh := Gb.g; have hp0 : wh.cell? ⟨w6.heap.size, 0, none⟩ = some (.int .u64 P) := kb; have hp1 : wh.cell? ⟨w6.heap.size, 1, none⟩ = some (.int .i64 pl) := kb)) | (go_at_call 23; refine (SwB2.way HB2.out _).mono ?_; rintro x wk ⟨rfl, hw⟩; subst hw) | (go_at_call 21; refine (SwB2.tx HB2.out q1 _).mono ?_; rintro x wk ⟨rfl, hw⟩; subst hw) | (go_at_call 17; refine (SwB2.trn HB2.out q1 q2 q3 _ Gb.g).mono ?_; rintro x wi ⟨rfl, hg_wi⟩; have hgbi : Gb w wi := Gb.g; have ip0 : wi.cell? ⟨w6.heap.size, 0, none⟩ = some (.int .u64 P) := kb; have ip1 : wi.cell? ⟨w6.heap.size, 1, none⟩ = some (.int .i64 pl) := kb))
        go_region_held3 (fun w' => w'.cell? ⟨w6.heap.size, 0, none⟩ = some (.int .u64 P) ∧ w'.cell? ⟨w6.heap.size, 1, none⟩ = some (.int .i64 pl) ∧ w'.cell? ⟨wi.heap.size, 0, none⟩ = some (.int .u64 Pt) ∧ w'.cell? ⟨wi.heap.size, 1, none⟩ = some (.int .i64 pl))
          ((go_split_ands; (repeat' apply And.intro) <;> exact kh))
          (first | (go_at_call 21; refine (SwB2.tp HB2.out q1 q2 q3 _).mono ?_; rintro x wk ⟨rfl, hw⟩; subst hw))
        all_goals (try go_split_ands)
        all_goals go_wp2
        all_goals go_returns
        all_goals exact ⟨by simp, Gb.g⟩
    · obtain ⟨t1, t2, t3, t4⟩ := htt.out s1 s2 s3 s4
      go_upto_region 17 with (first | (go_at_call 22; first | (with_reducible refine (SwA2.rlu HA2.out _).mono ?_; rintro x wd ⟨rfl, hg_wd⟩; have hgbd : Gb w wd := Gb.g; have ds0 : wd.cell? ⟨w2.heap.size, 0, none⟩ = some (.int .u64 Z) := kb; have ds1 : wd.cell? ⟨w2.heap.size, 1, none⟩ = some (.int .i64 fl) := kb; have dp0 : wd.cell? ⟨w6.heap.size, 0, none⟩ = some (.int .u64 P) := kb; have dp1 : wd.cell? ⟨w6.heap.size, 1, none⟩ = some (.int .i64 pl) := kb) | (with_reducible refine (SwA2.rlv HA2.out _).mono ?_; rintro x we ⟨rfl, hg_we⟩; have hgbe : Gb w we := Gb.g; have es0 : we.cell? ⟨w2.heap.size, 0, none⟩ = some (.int .u64 Z) := kb; have es1 : we.cell? ⟨w2.heap.size, 1, none⟩ = some (.int .i64 fl) := kb; have ep0 : we.cell? ⟨w6.heap.size, 0, none⟩ = some (.int .u64 P) := kb; have ep1 : we.cell? ⟨w6.heap.size, 1, none⟩ = some (.int .i64 pl) := kb)) | (go_at_call 11; refine (SwA2.siz HA2.out _).mono ?_; rintro x wk ⟨rfl, hw⟩; subst hw) | (go_at_call 23; refine (SwA2.way HA2.out _).mono ?_; rintro x wk ⟨rfl, hw⟩; subst hw) | (go_at_call 21; first | (with_reducible refine (SwA2.tu HA2.out _).mono ?_; rintro x wk ⟨rfl, hw⟩; subst hw) | (with_reducible refine (SwA2.tv HA2.out _).mono ?_; rintro x wk ⟨rfl, hw⟩; subst hw)) | (go_at_call 13; refine (SwA2.trn HA2.out t1 t2 t3 t4 _ Gb.g).mono ?_; rintro x wf ⟨rfl, hg_wf⟩; have hgbf : Gb w wf := Gb.g; have fs0 : wf.cell? ⟨w2.heap.size, 0, none⟩ = some (.int .u64 Z) := kb; have fs1 : wf.cell? ⟨w2.heap.size, 1, none⟩ = some (.int .i64 fl) := kb; have fp0 : wf.cell? ⟨w6.heap.size, 0, none⟩ = some (.int .u64 P) := kb; have fp1 : wf.cell? ⟨w6.heap.size, 1, none⟩ = some (.int .i64 pl) := kb))
      go_region_held3 (fun w' => w'.cell? ⟨w2.heap.size, 0, none⟩ = some (.int .u64 Z) ∧ w'.cell? ⟨w2.heap.size, 1, none⟩ = some (.int .i64 fl) ∧ w'.cell? ⟨wf.heap.size, 0, none⟩ = some (.int .u64 Z') ∧ w'.cell? ⟨wf.heap.size, 1, none⟩ = some (.int .i64 fl))
        ((go_split_ands; (repeat' apply And.intro) <;> exact kh))
        (first | (go_at_call 21; refine (SwA2.tz HA2.out t1 t2 t3 t4 _).mono ?_; rintro x wk ⟨rfl, hw⟩; subst hw))
      all_goals (try go_split_ands)
      go_upto_region 19 with fail
      rcases PW.out with r1 | ⟨r1, r2⟩ | ⟨r1, r2, r3⟩ | ⟨r1, r2, r3⟩
      · go_wp2_with (go_at_call 22; first | (with_reducible refine (SwB2.rlx HB2.out _).mono ?_; rintro x wg ⟨rfl, hg_wg⟩; have hgbg : Gb w wg := Gb.g; have gp0 : wg.cell? ⟨w6.heap.size, 0, none⟩ = some (.int .u64 P) := kb; have gp1 : wg.cell? ⟨w6.heap.size, 1, none⟩ = some (.int .i64 pl) := kb) | (with_reducible refine (SwB2.rly HB2.out _).mono ?_; rintro x wh ⟨rfl, hg_wh⟩; have hgbh : Gb w wh := Gb.g; have hp0 : wh.cell? ⟨w6.heap.size, 0, none⟩ = some (.int .u64 P) := kb; have hp1 : wh.cell? ⟨w6.heap.size, 1, none⟩ = some (.int .i64 pl) := kb))
        go_returns
        exact ⟨rfl, Gb.g⟩
      · go_wp2_with (go_at_call 22; first | (with_reducible refine (SwB2.rlx HB2.out _).mono ?_; rintro x wg ⟨rfl, hg_wg⟩; have hgbg : Gb w wg := Gb.g; have gp0 : wg.cell? ⟨w6.heap.size, 0, none⟩ = some (.int .u64 P) := kb; have gp1 : wg.cell? ⟨w6.heap.size, 1, none⟩ = some (.int .i64 pl) := kb) | (with_reducible refine (SwB2.rly HB2.out _).mono ?_; rintro x wh ⟨rfl, hg_wh⟩; have hgbh : Gb w wh := Gb.g; have hp0 : wh.cell? ⟨w6.heap.size, 0, none⟩ = some (.int .u64 P) := kb; have hp1 : wh.cell? ⟨w6.heap.size, 1, none⟩ = some (.int .i64 pl) := kb))
        go_returns
        exact ⟨rfl, Gb.g⟩
      · go_wp2_with (go_at_call 22; first | (with_reducible refine (SwB2.rlx HB2.out _).mono ?_; rintro x wg ⟨rfl, hg_wg⟩; have hgbg : Gb w wg := Gb.g; have gp0 : wg.cell? ⟨w6.heap.size, 0, none⟩ = some (.int .u64 P) := kb; have gp1 : wg.cell? ⟨w6.heap.size, 1, none⟩ = some (.int .i64 pl) := kb) | (with_reducible refine (SwB2.rly HB2.out _).mono ?_; rintro x wh ⟨rfl, hg_wh⟩; have hgbh : Gb w wh := Gb.g; have hp0 : wh.cell? ⟨w6.heap.size, 0, none⟩ = some (.int .u64 P) := kb; have hp1 : wh.cell? ⟨w6.heap.size, 1, none⟩ = some (.int .i64 pl) := kb))
        go_returns
        exact ⟨rfl, Gb.g⟩
      · obtain ⟨q1, q2, q3⟩ := hqq.out r1 r2 r3
        go_upto_region 21 with (first | (go_at_call 22; first | (with_reducible refine (SwB2.rlx HB2.out _).mono ?_; rintro x wg ⟨rfl, hg_wg⟩; have hgbg : Gb w wg := Gb.g; have gp0 : wg.cell? ⟨w6.heap.size, 0, none⟩ = some (.int .u64 P) := kb; have gp1 : wg.cell? ⟨w6.heap.size, 1, none⟩ = some (.int .i64 pl) := kb) | (with_reducible refine (SwB2.rly HB2.out _).mono ?_; rintro x wh ⟨rfl, hg_wh⟩; have hgbh : Gb w wh := Gb.g; have hp0 : wh.cell? ⟨w6.heap.size, 0, none⟩ = some (.int .u64 P) := kb; have hp1 : wh.cell? ⟨w6.heap.size, 1, none⟩ = some (.int .i64 pl) := kb)) | (go_at_call 23; refine (SwB2.way HB2.out _).mono ?_; rintro x wk ⟨rfl, hw⟩; subst hw) | (go_at_call 21; refine (SwB2.tx HB2.out q1 _).mono ?_; rintro x wk ⟨rfl, hw⟩; subst hw) | (go_at_call 17; refine (SwB2.trn HB2.out q1 q2 q3 _ Gb.g).mono ?_; rintro x wi ⟨rfl, hg_wi⟩; have hgbi : Gb w wi := Gb.g; have ip0 : wi.cell? ⟨w6.heap.size, 0, none⟩ = some (.int .u64 P) := kb; have ip1 : wi.cell? ⟨w6.heap.size, 1, none⟩ = some (.int .i64 pl) := kb))
        go_region_held3 (fun w' => w'.cell? ⟨w6.heap.size, 0, none⟩ = some (.int .u64 P) ∧ w'.cell? ⟨w6.heap.size, 1, none⟩ = some (.int .i64 pl) ∧ w'.cell? ⟨wi.heap.size, 0, none⟩ = some (.int .u64 Pt) ∧ w'.cell? ⟨wi.heap.size, 1, none⟩ = some (.int .i64 pl))
          ((go_split_ands; (repeat' apply And.intro) <;> exact kh))
          (first | (go_at_call 21; refine (SwB2.tp HB2.out q1 q2 q3 _).mono ?_; rintro x wk ⟨rfl, hw⟩; subst hw))
        all_goals (try go_split_ands)
        all_goals go_wp2
        all_goals go_returns
        all_goals exact ⟨by simp, Gb.g⟩
end Go.Proofs.YtkflpogmhailhaaGreatDoor

/- Turned signs: both ways along an axis change places. -/
set_option linter.unusedVariables false
namespace Go.Proofs.YtkflpogmhailhaaGreatDoor

/-- The way for numbers with turned signs. -/
def tw (mode : Int) : Int := if mode = 3 then 4 else if mode = 4 then 3 else mode

theorem tw_ok (mode : Int) (h : 0 ≤ mode ∧ mode ≤ 4) : 0 ≤ tw mode ∧ tw mode ≤ 4 := by unfold tw; split <;> (try split) <;> omega

theorem up_turn (mode sign : Int) (lo half : Nat) (hs : sign = 0 ∨ sign = 1) (hm : 0 ≤ mode ∧ mode ≤ 4) : up (tw mode) (1 - sign) lo half = up mode sign lo half := by
  unfold up tw
  rw [decide_eq_decide]
  rcases (show mode = 0 ∨ mode = 1 ∨ mode = 2 ∨ mode = 3 ∨ mode = 4 by omega) with rfl | rfl | rfl | rfl | rfl <;> rcases hs with rfl | rfl <;> simp

theorem ovMag_turn (inf mode sign : Int) (hs : sign = 0 ∨ sign = 1) (hm : 0 ≤ mode ∧ mode ≤ 4) : ovMag inf (tw mode) (1 - sign) = ovMag inf mode sign := by
  unfold ovMag tw
  rcases (show mode = 0 ∨ mode = 1 ∨ mode = 2 ∨ mode = 3 ∨ mode = 4 by omega) with rfl | rfl | rfl | rfl | rfl <;> rcases hs with rfl | rfl <;> simp

theorem RoundIs.turn {p mn mx one inf mode sign : Int} {M : Nat} {e : Int} {rest : Bool} {z fl : Int} (hs : sign = 0 ∨ sign = 1) (hm : 0 ≤ mode ∧ mode ≤ 4) (h : RoundIs p mn mx one inf mode sign M e rest z fl) : RoundIs p mn mx one inf (tw mode) (1 - sign) M e rest z fl := by
  obtain ⟨top, E, r, r2, hf, h1, h2, h3, h4, h5, h6⟩ := h
  refine ⟨top, E, r, r2, hf, h1, h2, h3, ?_, ?_, ?_⟩
  · rw [h4]; unfold chosen; rw [up_turn _ _ _ _ hs hm]
  · rw [h5]; unfold chosen; rw [up_turn _ _ _ _ hs hm]
  · rw [ovMag_turn inf mode sign hs hm]; exact h6

theorem sumO_turn (mode : Int) (x y : Opd) (hx : x.s = 0 ∨ x.s = 1) (hy : y.s = 0 ∨ y.s = 1) (cx : x.c ≤ 1) (cy : y.c ≤ 1) (h : (sumO mode x y).c = 1) : sumO (tw mode) (turnO x) (turnO y) = turnO (sumO mode x y) := by
  have hss : (1 - x.s = 1 - y.s) ↔ (x.s = y.s) := by omega
  have hb : bothM (turnO x) (turnO y) = bothM x y := rfl
  have hnil : (nilO mode).c = 0 := rfl
  unfold sumO at h ⊢
  rw [show (turnO x).c = x.c from rfl, show (turnO y).c = y.c from rfl]
  by_cases c1 : 3 ≤ max x.c y.c
  · omega
  · rw [if_neg c1] at h ⊢
    rw [if_neg c1]
    by_cases c2 : y.c < x.c
    · rw [if_pos c2, if_pos c2]
    · rw [if_neg c2] at h ⊢
      rw [if_neg c2]
      by_cases c3 : x.c < y.c
      · rw [if_pos c3, if_pos c3]
      · rw [if_neg c3] at h ⊢
        rw [if_neg c3]
        by_cases c4 : x.c = 1
        · rw [if_pos c4] at h ⊢
          rw [if_pos c4]
          unfold totO at h ⊢
          rw [hb, show (turnO x).s = 1 - x.s from rfl, show (turnO y).s = 1 - y.s from rfl, show (turnO x).e = x.e from rfl, show (turnO y).e = y.e from rfl]
          by_cases c5 : x.s = y.s
          · rw [if_pos c5, if_pos (hss.2 c5)]; rfl
          · have c5' : ¬ 1 - x.s = 1 - y.s := fun k => c5 (hss.1 k)
            rw [if_neg c5] at h ⊢
            rw [if_neg c5']
            by_cases c6 : (bothM x y).1 = (bothM x y).2
            · rw [if_pos c6] at h; rw [hnil] at h; cases h
            · rw [if_neg c6, if_neg c6]
              by_cases c7 : (bothM x y).2 < (bothM x y).1
              · rw [if_pos c7, if_pos c7]; rfl
              · rw [if_neg c7, if_neg c7]; rfl
        · rw [if_neg c4] at h
          by_cases c5 : x.s = y.s
          · rw [if_pos c5] at h; exact absurd h c4
          · rw [if_neg c5, if_neg (show ¬ x.c = 2 by omega), hnil] at h; cases h

theorem mulS_turn (s t : Int) (hs : s = 0 ∨ s = 1) (ht : t = 0 ∨ t = 1) : mulS (1 - s) t = 1 - mulS s t := by
  unfold mulS
  rcases hs with rfl | rfl <;> rcases ht with rfl | rfl <;> simp

theorem prodO_turn (x y : Opd) (hx : x.s = 0 ∨ x.s = 1) (hy : y.s = 0 ∨ y.s = 1) (h3 : max x.c y.c < 3) : prodO (turnO x) y = turnO (prodO x y) := by
  have n3 : ¬ 3 ≤ max x.c y.c := by omega
  unfold prodO
  rw [show (turnO x).c = x.c from rfl, show (turnO x).s = 1 - x.s from rfl, show (turnO x).e = x.e from rfl, show (turnO x).M = x.M from rfl, mulS_turn _ _ hx hy, if_neg n3, if_neg n3]
  by_cases c1 : min x.c y.c = 0 ∧ max x.c y.c = 2
  · rw [if_pos c1, if_pos c1]; rfl
  · rw [if_neg c1, if_neg c1]
    by_cases c2 : min x.c y.c = 0
    · rw [if_pos c2, if_pos c2]; rfl
    · rw [if_neg c2, if_neg c2]
      by_cases c3 : max x.c y.c = 2
      · rw [if_pos c3, if_pos c3]; rfl
      · rw [if_neg c3, if_neg c3]; rfl

theorem turn_turn (x : Opd) : turnO (turnO x) = x := by
  unfold turnO; cases x; simp; omega
end Go.Proofs.YtkflpogmhailhaaGreatDoor

/- laws.FnSwap: what its walk calls holds. -/
set_option linter.unusedVariables false
set_option linter.unusedSimpArgs false
namespace Go.Proofs.YtkflpogmhailhaaGreatDoor
open Go.RowKit

theorem round_bounds {f p mx one inf sg nan mode s : Int} {M : Nat} {e : Int} {b : Bool} {z fl : Int} (h : IsFmt f p mx one inf sg nan) (hr : RoundIs p (1 - mx) mx one inf mode s M e b z fl) : 0 ≤ z ∧ z < sg := by
  have hb := h.bounds
  obtain ⟨top, E, r, r2, hf, h1, h2, h3, h4, h5, h6⟩ := hr
  have hov : ovMag inf mode s = inf ∨ ovMag inf mode s = inf - 1 := by unfold ovMag; split <;> simp
  have hE : 0 ≤ one * (E - (1 - mx)) := Int.mul_nonneg (by omega) (by omega)
  rcases h6 with ⟨_, rfl, _⟩ | ⟨_, _, rfl, _⟩ | ⟨_, h7, rfl, _⟩
  · omega
  · omega
  · generalize one * (E - (1 - mx)) = Q at *
    omega

theorem pack_bounds {f p mx one inf sg nan mode : Int} {o : Opd} {Z fl : Int} (h : IsFmt f p mx one inf sg nan) (hs : o.s = 0 ∨ o.s = 1) (hp : PackIs p (1 - mx) mx one inf sg nan mode o Z fl) : 0 ≤ Z ∧ Z < 2 * sg := by
  have hb := h.bounds
  have hsw : ∀ z, 0 ≤ z → z < sg → 0 ≤ sw o.s sg z ∧ sw o.s sg z < 2 * sg := by
    intro z z0 z1
    unfold sw
    split <;> omega
  rcases hp with ⟨_, rfl, _⟩ | ⟨_, z, hz, rfl⟩ | ⟨_, rfl, _⟩ | ⟨_, rfl, _⟩ | ⟨_, rfl, _⟩
  · exact hsw 0 (by omega) (by omega)
  · have := round_bounds h hz
    exact hsw z this.1 this.2
  · exact hsw inf (by omega) (by omega)
  · omega
  · omega

theorem mz_sg {f p mx one inf sg nan : Int} (h : IsFmt f p mx one inf sg nan) : mz f = sg := by
  unfold mz
  rcases h with ⟨rfl, rfl, rfl, rfl, rfl, rfl, rfl⟩ | ⟨rfl, rfl, rfl, rfl, rfl, rfl, rfl⟩ <;> simp

theorem sumO_s (mode : Int) (x y : Opd) (hx : x.s = 0 ∨ x.s = 1) (hy : y.s = 0 ∨ y.s = 1) : (sumO mode x y).s = 0 ∨ (sumO mode x y).s = 1 := by
  have ht := totO_cs mode x y hx hy
  have hn := nilO_s mode
  unfold sumO
  split
  · exact .inl rfl
  · split
    · exact hx
    · split
      · exact hy
      · split
        · exact ht.2
        · split
          · exact hx
          · split
            · exact .inl rfl
            · exact hn
theorem prodO_ss (x y : Opd) : (prodO x y).s = 0 ∨ (prodO x y).s = 1 := by
  have hm : mulS x.s y.s = 0 ∨ mulS x.s y.s = 1 := by unfold mulS; split <;> simp
  unfold prodO
  split
  · exact .inl rfl
  · split
    · exact hm
    · split
      · exact hm
      · split
        · exact hm
        · exact hm

/-- Operands of the same class and sign that are no numbers are the same. -/
theorem opd_same {f p mx one inf sg nan a b : Int} (h : IsFmt f p mx one inf sg nan) {x y : Opd} (hx : OpdIs p mx one inf sg nan a x) (hy : OpdIs p mx one inf sg nan b y) (c : x.c = y.c) (s : x.s = y.s) (n : x.c ≠ 1) : x = y := by
  have hz : ∀ {d : Int} {z : Opd}, OpdIs p mx one inf sg nan d z → z.c ≠ 1 → z.e = 0 ∧ z.M = 0 := by
    intro d z hz hn
    rcases hz with ⟨_, v, _, hc⟩ | ⟨_, rfl⟩
    · rcases hc with ⟨_, _, e, g⟩ | ⟨_, _, _, e, g⟩ | ⟨_, _, e, g⟩ | ⟨_, _, e, g⟩ | ⟨_, _, e, _⟩
      · exact ⟨e, by omega⟩
      · exact ⟨e, by omega⟩
      · exact ⟨e, by omega⟩
      · exact ⟨e, by omega⟩
      · exact absurd e hn
    · exact ⟨rfl, rfl⟩
  obtain ⟨e1, m1⟩ := hz hx n
  obtain ⟨e2, m2⟩ := hz hy (by omega)
  obtain ⟨xc, xs, xe, xM⟩ := x
  obtain ⟨yc, ys, ye, yM⟩ := y
  dsimp only at *
  subst c s e1 e2 m1 m2
  rfl

theorem OpR.add_comm {f mode a b Z fl : Int} (h : OpR sumO f mode a b Z fl) : OpR sumO f mode b a Z fl := by
  rcases h with ⟨p, mx, one, inf, sg, nan, x, y, hF, hm, hx, hy, hp⟩ | h | h
  · refine .inl ⟨p, mx, one, inf, sg, nan, y, x, hF, hm, hy, hx, ?_⟩
    rw [sumO_comm mode y x (fun c s n => opd_same hF hy hx c s n)]
    exact hp
  · exact .inr (.inl h)
  · exact .inr (.inr h)
theorem OpR.mul_comm {f mode a b Z fl : Int} (h : OpR mulO f mode a b Z fl) : OpR mulO f mode b a Z fl := by
  rcases h with ⟨p, mx, one, inf, sg, nan, x, y, hF, hm, hx, hy, hp⟩ | h | h
  · refine .inl ⟨p, mx, one, inf, sg, nan, y, x, hF, hm, hy, hx, ?_⟩
    unfold mulO at *
    rw [prodO_comm y x]
    exact hp
  · exact .inr (.inl h)
  · exact .inr (.inr h)
theorem FmaR.comm {f mode a b c Z fl : Int} (h : FmaR f mode a b c Z fl) : FmaR f mode b a c Z fl := by
  rcases h with ⟨p, mx, one, inf, sg, nan, x, y, z, hF, hm, hx, hy, hz, hp⟩ | h | h
  · refine .inl ⟨p, mx, one, inf, sg, nan, y, x, z, hF, hm, hy, hx, hz, ?_⟩
    unfold fmaO at *
    rw [prodO_comm y x]
    exact hp
  · exact .inr (.inl h)
  · exact .inr (.inr h)

/-- A word's class, as the model says it. -/
theorem class_of (f v : Int) (v0 : 0 ≤ v) (v1 : v < 18446744073709551616) : ∃ c : Int, (∀ w, Calls Tryz.prog 10 #[.int .i64 f, .int .u64 v] w fun e w' => e = .returned (.int .i64 c) ∧ Gr w w') ∧ (c = 4 ∨ ∃ p mx one inf sg nan x, IsFmt f p mx one inf sg nan ∧ v < 2 * sg ∧ OpdIs p mx one inf sg nan v x ∧ x.c = c) := by
  rcases fit_or f v v0 v1 with ⟨p, mx, one, inf, sg, nan, hF, hv⟩ | hno
  · obtain ⟨x, hx⟩ := opd_ex hF v v0 v1
    exact ⟨x.c, fun w => wClass_any f v _ _ _ _ (unp_det hF v v0 hv hx) w, .inr ⟨p, mx, one, inf, sg, nan, x, hF, hv, hx, rfl⟩⟩
  · exact ⟨4, fun w => wClass_any f v 4 0 0 0 (fun w => specUnpack_no f v v0 hno w) w, .inl rfl⟩

theorem sw_turn (s sg z : Int) (hs : s = 0 ∨ s = 1) (z0 : 0 ≤ z) (z1 : z < sg) : sw s sg z < sg ∧ sw (1 - s) sg z = sw s sg z + sg ∨ sg ≤ sw s sg z ∧ sw (1 - s) sg z = sw s sg z - sg := by
  rcases hs with rfl | rfl
  · left; unfold sw; simp; omega
  · right; unfold sw; simp; omega

theorem turned_ex (sg v : Int) (h : 0 < sg) (v0 : 0 ≤ v) (v1 : v < 2 * sg) : ∃ z, (v < sg ∧ z = v + sg ∨ sg ≤ v ∧ z = v - sg) ∧ 0 ≤ z ∧ z < 2 * sg := by
  obtain ⟨z, hz⟩ := turned_is sg v h
  exact ⟨z, hz, by omega, by omega⟩

theorem sums (f m u v : Int) (u0 : 0 ≤ u) (u1 : u < 18446744073709551616) (v0 : 0 ≤ v) (v1 : v < 18446744073709551616) (w : World) (hw : Fm w) :
    ∃ Z fl cu cv, SwA f m u v Z fl cu cv w ∧ (cu ≠ 4 → cv ≠ 4 → ∃ u' v' Z' m' sz fa, SwA2 f m u v Z fl cu cv u' v' Z' m' sz fa w) := by
  obtain ⟨Z, fl, hR, hs, hi⟩ := add_same f m u v u0 u1 v0 v1
  obtain ⟨Z2, fl2, hR2, _, hi2⟩ := add_same f m v u v0 v1 u0 u1
  obtain ⟨rfl, rfl⟩ := OpR.one hR.add_comm hR2
  obtain ⟨cu, hcu, du⟩ := class_of f u u0 u1
  obtain ⟨cv, hcv, dv⟩ := class_of f v v0 v1
  refine ⟨Z, fl, cu, cv, ⟨fun w' g => hi w' (hw.gb g), hs, fun w' g => hi2 w' (hw.gb g), hcu, hcv⟩, fun nu nv => ?_⟩
  obtain ⟨p, mx, one, inf, sg, nan, x, hF, fu, hx, rfl⟩ := du.resolve_left nu
  obtain ⟨p', mx', one', inf', sg', nan', y, hF', fv, hy, rfl⟩ := dv.resolve_left nv
  obtain ⟨rfl, rfl, rfl, rfl, rfl, rfl⟩ := hF.one hF'
  have hb := hF.bounds
  have hmz := mz_sg hF
  obtain ⟨vx, _⟩ := opd_vo hF hx
  obtain ⟨vy, _⟩ := opd_vo hF hy
  obtain ⟨u', hu', u0', u1'⟩ := turned_ex sg u (by omega) u0 fu
  obtain ⟨v', hv', v0', v1'⟩ := turned_ex sg v (by omega) v0 fv
  have ox := (turned_opd hF u u' u0 fu hu' hx).2.2
  have oy := (turned_opd hF v v' v0 fv hv' hy).2.2
  have hZ : 0 ≤ Z ∧ Z < 2 * sg := by
    rcases hR with ⟨p1, mx1, one1, inf1, sg1, nan1, x1, y1, hF1, hm1, hx1, hy1, hp1⟩ | ⟨p1, mx1, one1, inf1, sg1, nan1, hF1, _, rfl, _⟩ | ⟨hn, _, _⟩
    · obtain ⟨rfl, rfl, rfl, rfl, rfl, rfl⟩ := hF.one hF1
      obtain rfl := hx.one hF hx1
      obtain rfl := hy.one hF hy1
      exact pack_bounds hF (sumO_s m x y vx.s01 vy.s01) hp1
    · obtain ⟨rfl, rfl, rfl, rfl, rfl, rfl⟩ := hF.one hF1
      omega
    · exact absurd hF.yes.symm (by simp [hn])
  obtain ⟨Z', hZ', _, _⟩ := turned_ex sg Z (by omega) hZ.1 hZ.2
  have htrn : x.c ≤ 1 → y.c ≤ 1 → Z % mz f ≠ 0 → bits .and .i64 fl 1 = 0 → OpR sumO f (tw m) u' v' Z' fl := by
    intro c1 c2 c3 c4
    rw [hmz] at c3
    rcases hR with ⟨p1, mx1, one1, inf1, sg1, nan1, x1, y1, hF1, hm1, hx1, hy1, hp1⟩ | ⟨p1, mx1, one1, inf1, sg1, nan1, hF1, _, rfl, rfl⟩ | ⟨hn, _, _⟩
    · obtain ⟨rfl, rfl, rfl, rfl, rfl, rfl⟩ := hF.one hF1
      obtain rfl := hx.one hF hx1
      obtain rfl := hy.one hF hy1
      have hsg := sumO_s m x y vx.s01 vy.s01
      have hc : (sumO m x y).c = 0 ∨ (sumO m x y).c = 1 := by
        have ht := totO_cs m x y vx.s01 vy.s01
        have a0 := vx.c0
        have b0 := vy.c0
        unfold sumO
        rw [if_neg (by omega)]
        split
        · omega
        · split
          · omega
          · split
            · exact ht.1
            · split
              · omega
              · rw [if_neg (by omega)]; exact .inl rfl
      rcases hp1 with ⟨_, rfl, _⟩ | ⟨h1, z, hz, rfl⟩ | ⟨h2, _⟩ | ⟨h2, _⟩ | ⟨h2, _⟩
      · exfalso; apply c3
        unfold sw; split
        · rw [Int.zero_add, Int.emod_self]
        · rfl
      · have zb := round_bounds hF hz
        refine .inl ⟨_, _, _, _, _, _, turnO x, turnO y, hF, tw_ok m hm1, ox, oy, ?_⟩
        rw [sumO_turn m x y vx.s01 vy.s01 c1 c2 h1]
        refine .inr (.inl ⟨h1, z, hz.turn hsg hm1, ?_⟩)
        have ht := sw_turn (sumO m x y).s sg z hsg zb.1 zb.2
        show Z' = sw (1 - (sumO m x y).s) sg z
        omega
      · omega
      · omega
      · omega
    · exact absurd c4 (by decide +kernel)
    · exact absurd hF.yes.symm (by simp [hn])
  refine ⟨u', v', Z', tw m, Z % mz f, bits .and .i64 fl 1, ⟨fun w' => wTurned_any f v v' v0 (by rw [hmz]; exact fv) (by rw [hmz]; exact hv') w', fun w' => wTurned_any f u u' u0 (by rw [hmz]; exact fu) (by rw [hmz]; exact hu') w', fun w' g => ?_, fun w' => wReal_any f u x.c _ rfl hcu w', fun w' => wReal_any f v y.c _ rfl hcv w', fun w' => wSize_any f Z hZ.1 w', fun w' => wTurnedWay_any m (tw m) rfl w', fun c1 c2 c3 c4 w' g => ?_, fun _ _ _ _ w' => wTurned_any f Z Z' hZ.1 (by rw [hmz]; exact hZ.2) (by rw [hmz]; exact hZ') w', rfl⟩⟩
  · refine (implSub_any f m u v' u0 u1 v0' (by omega) w' (hw.gb g)).mono ?_
    rintro e w'' ⟨Z3, fl3, hR3, rfl, hg⟩
    have : OpR subO f m u v' Z fl := by
      rcases hR with ⟨p1, mx1, one1, inf1, sg1, nan1, x1, y1, hF1, hm1, hx1, hy1, hp1⟩ | h | h
      · obtain ⟨rfl, rfl, rfl, rfl, rfl, rfl⟩ := hF.one hF1
        obtain rfl := hy.one hF hy1
        refine .inl ⟨_, _, _, _, _, _, x1, turnO y, hF, hm1, hx1, oy, ?_⟩
        unfold subO
        rw [turn_turn]
        exact hp1
      · exact .inr (.inl h)
      · exact .inr (.inr h)
    obtain ⟨rfl, rfl⟩ := OpR.one this hR3
    exact ⟨rfl, hg⟩
  · refine (implAdd_any f (tw m) u' v' u0' (by omega) v0' (by omega) w' (hw.gb g)).mono ?_
    rintro e w'' ⟨Z3, fl3, hR3, rfl, hg⟩
    obtain ⟨rfl, rfl⟩ := OpR.one (htrn c1 c2 c3 c4) hR3
    exact ⟨rfl, hg⟩

theorem products (f m u v t : Int) (u0 : 0 ≤ u) (u1 : u < 18446744073709551616) (v0 : 0 ≤ v) (v1 : v < 18446744073709551616) (t0 : 0 ≤ t) (t1 : t < 18446744073709551616) (w : World) (hw : Fm w) :
    ∃ Z fl Y gl, SwB f m u v t Z fl Y gl w ∧ ∃ cx cy x' P' n' pa, SwB2 f m u v Z fl cx cy x' P' n' pa w := by
  obtain ⟨Z, fl, hR, hs, hi⟩ := mul_same f m u v u0 u1 v0 v1
  obtain ⟨Z2, fl2, hR2, _, hi2⟩ := mul_same f m v u v0 v1 u0 u1
  obtain ⟨rfl, rfl⟩ := OpR.one hR.mul_comm hR2
  obtain ⟨Y, gl, hY, _, hiY⟩ := fma_same f m u v t u0 u1 v0 v1 t0 t1
  obtain ⟨Y2, gl2, hY2, _, hiY2⟩ := fma_same f m v u t v0 v1 u0 u1 t0 t1
  obtain ⟨rfl, rfl⟩ := FmaR.one hY.comm hY2
  obtain ⟨cx, hcx, dx⟩ := class_of f u u0 u1
  obtain ⟨cy, hcy, dy⟩ := class_of f v v0 v1
  refine ⟨Z, fl, Y, gl, ⟨fun w' g => hi w' (hw.gb g), hs, fun w' g => hi2 w' (hw.gb g), fun w' g => hiY w' (hw.gb g), fun w' g => hiY2 w' (hw.gb g)⟩, ?_⟩
  have hrl := fun w' => wReal_any f u cx _ rfl hcx w'
  have hrl2 := fun w' => wReal_any f v cy _ rfl hcy w'
  by_cases hc : cx ≤ 1 ∧ cy ≤ 1
  · obtain ⟨c1, c2⟩ := hc
    obtain ⟨p, mx, one, inf, sg, nan, x, hF, fu, hx, rfl⟩ := dx.resolve_left (by omega)
    obtain ⟨p', mx', one', inf', sg', nan', y, hF', fv, hy, rfl⟩ := dy.resolve_left (by omega)
    obtain ⟨rfl, rfl, rfl, rfl, rfl, rfl⟩ := hF.one hF'
    have hb := hF.bounds
    have hmz := mz_sg hF
    obtain ⟨vx, _⟩ := opd_vo hF hx
    obtain ⟨vy, _⟩ := opd_vo hF hy
    obtain ⟨u', hu', u0', u1'⟩ := turned_ex sg u (by omega) u0 fu
    have ox := (turned_opd hF u u' u0 fu hu' hx).2.2
    have hZ : 0 ≤ Z ∧ Z < 2 * sg := by
      rcases hR with ⟨p1, mx1, one1, inf1, sg1, nan1, x1, y1, hF1, hm1, hx1, hy1, hp1⟩ | ⟨p1, mx1, one1, inf1, sg1, nan1, hF1, _, rfl, _⟩ | ⟨hn, _, _⟩
      · obtain ⟨rfl, rfl, rfl, rfl, rfl, rfl⟩ := hF.one hF1
        exact pack_bounds hF (prodO_ss x1 y1) hp1
      · obtain ⟨rfl, rfl, rfl, rfl, rfl, rfl⟩ := hF.one hF1
        omega
      · exact absurd hF.yes.symm (by simp [hn])
    obtain ⟨Z', hZ', _, _⟩ := turned_ex sg Z (by omega) hZ.1 hZ.2
    have htrn : bits .and .i64 fl 1 = 0 → OpR mulO f (tw m) u' v Z' fl := by
      intro c4
      rcases hR with ⟨p1, mx1, one1, inf1, sg1, nan1, x1, y1, hF1, hm1, hx1, hy1, hp1⟩ | ⟨p1, mx1, one1, inf1, sg1, nan1, hF1, _, rfl, rfl⟩ | ⟨hn, _, _⟩
      · obtain ⟨rfl, rfl, rfl, rfl, rfl, rfl⟩ := hF.one hF1
        obtain rfl := hx.one hF hx1
        obtain rfl := hy.one hF hy1
        have hsg := prodO_ss x y
        have a0 := vx.c0
        have b0 := vy.c0
        have hc : (prodO x y).c = 0 ∨ (prodO x y).c = 1 := by
          unfold prodO
          rw [if_neg (by omega), if_neg (by omega)]
          split
          · exact .inl rfl
          · rw [if_neg (by omega)]; exact .inr rfl
        refine .inl ⟨_, _, _, _, _, _, turnO x, y, hF, tw_ok m hm1, ox, hy, ?_⟩
        unfold mulO at *
        rw [prodO_turn x y vx.s01 vy.s01 (by omega)]
        rcases hp1 with ⟨h1, rfl, rfl⟩ | ⟨h1, z, hz, rfl⟩ | ⟨h2, _⟩ | ⟨h2, _⟩ | ⟨h2, _⟩
        · have ht := sw_turn (prodO x y).s sg 0 hsg (by omega) (by omega)
          refine .inl ⟨h1, ?_, rfl⟩
          show Z' = sw (1 - (prodO x y).s) sg 0
          omega
        · have zb := round_bounds hF hz
          have ht := sw_turn (prodO x y).s sg z hsg zb.1 zb.2
          refine .inr (.inl ⟨h1, z, hz.turn hsg hm1, ?_⟩)
          show Z' = sw (1 - (prodO x y).s) sg z
          omega
        · omega
        · omega
        · omega
      · exact absurd c4 (by decide +kernel)
      · exact absurd hF.yes.symm (by simp [hn])
    refine ⟨x.c, y.c, u', Z', tw m, bits .and .i64 fl 1, ⟨hrl, hrl2, fun w' => wTurnedWay_any m (tw m) rfl w', fun _ w' => wTurned_any f u u' u0 (by rw [hmz]; exact fu) (by rw [hmz]; exact hu') w', fun _ _ c4 w' g => ?_, fun _ _ _ w' => wTurned_any f Z Z' hZ.1 (by rw [hmz]; exact hZ.2) (by rw [hmz]; exact hZ') w', rfl⟩⟩
    refine (implMul_any f (tw m) u' v u0' (by omega) v0 v1 w' (hw.gb g)).mono ?_
    rintro e w'' ⟨Z3, fl3, hR3, rfl, hg⟩
    obtain ⟨rfl, rfl⟩ := OpR.one (htrn c4) hR3
    exact ⟨rfl, hg⟩
  · by_cases c1 : cx ≤ 1
    · have c2 : ¬ cy ≤ 1 := fun k => hc ⟨c1, k⟩
      obtain ⟨p, mx, one, inf, sg, nan, x, hF, fu, hx, rfl⟩ := dx.resolve_left (by omega)
      have hb := hF.bounds
      have hmz := mz_sg hF
      obtain ⟨u', hu', u0', u1'⟩ := turned_ex sg u (by omega) u0 fu
      exact ⟨x.c, cy, u', 0, tw m, bits .and .i64 fl 1, ⟨hrl, hrl2, fun w' => wTurnedWay_any m (tw m) rfl w', fun _ w' => wTurned_any f u u' u0 (by rw [hmz]; exact fu) (by rw [hmz]; exact hu') w', fun _ k => absurd k c2, fun _ k => absurd k c2, rfl⟩⟩
    · exact ⟨cx, cy, 0, 0, tw m, bits .and .i64 fl 1, ⟨hrl, hrl2, fun w' => wTurnedWay_any m (tw m) rfl w', fun k => absurd k c1, fun k => absurd k c1, fun k => absurd k c1, rfl⟩⟩

theorem lawSwap (a : Option Addr) (len cap : Nat) (w : World) (hC : CodeRow w a len) (hw : Fm w) :
    Calls Tryz.prog 4 #[.slice a len cap] w fun e w' => e = .returned (.bool true) ∧ Gb w w' := by
  refine swap_head a len cap w hC (fun f m u v u0 u1 v0 v1 => sums f m u v u0 u1 v0 v1 w hw) (fun w' g => ?_) (fun f m u v t u0 u1 v0 v1 t0 t1 => products f m u v t u0 u1 v0 v1 t0 t1 w hw)
  refine drawFma_any a len cap w' (hC.gb g) (fun f mode a b a0 a1 b0 b1 => ?_) (fun f p mx one inf sg nan a b hF a0 a1 b0 b1 => ?_)
  · by_cases hf : f = 0 ∨ f = 1
    · obtain ⟨p, mx, one, inf, sg, nan, hF⟩ := fmt_of f hf
      by_cases hm : 0 ≤ mode ∧ mode ≤ 4
      · by_cases hfit : a < 2 * sg ∧ b < 2 * sg
        · exact .inl ⟨p, mx, one, inf, sg, nan, hF, fun w => l3Fits_yes hF mode a b hm.1 hm.2 a0 hfit.1 b0 hfit.2 w⟩
        · exact .inr (fun w => l3Fits_no f mode a b a0 a1 b0 b1 (nofit_of hF a1 b1 (by omega)) w)
      · exact .inr (fun w => l3Fits_no f mode a b a0 a1 b0 b1 (.inl (by omega)) w)
    · exact .inr (fun w => l3Fits_no f mode a b a0 a1 b0 b1 (.inr (.inl hf)) w)
  · obtain ⟨Z, fl, hR, hs, _⟩ := mul_same f 0 a b a0 a1 b0 b1
    have hZ : 0 ≤ Z ∧ Z < 2 * sg := by
      have hb := hF.bounds
      rcases hR with ⟨p1, mx1, one1, inf1, sg1, nan1, x1, y1, hF1, hm1, hx1, hy1, hp1⟩ | ⟨p1, mx1, one1, inf1, sg1, nan1, hF1, _, rfl, _⟩ | ⟨hn, _, _⟩
      · obtain ⟨rfl, rfl, rfl, rfl, rfl, rfl⟩ := hF.one hF1
        exact pack_bounds hF (prodO_ss x1 y1) hp1
      · obtain ⟨rfl, rfl, rfl, rfl, rfl, rfl⟩ := hF.one hF1
        omega
      · exact absurd hF.yes.symm (by simp [hn])
    exact ⟨Z, fl, hZ.1, hZ.2, hs⟩
end Go.Proofs.YtkflpogmhailhaaGreatDoor
