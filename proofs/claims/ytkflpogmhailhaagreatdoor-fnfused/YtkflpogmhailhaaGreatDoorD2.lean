/- laws.FnFused: what its walk calls; the walk. -/
import Derived.Test.YtkflpogmhailhaaGreatDoorO1
import Derived.Test.YtkflpogmhailhaaGreatDoorC4
import Derived.Test.YtkflpogmhailhaaGreatDoorA7
import Derived.Deep.RegionHeld3
import Derived.Deep.DeepCutAuto
import Derived.Test.YtkflpogmhailhaaGreatDoorC0
import Derived.Test.YtkflpogmhailhaaGreatDoorL3V
import Derived.Test.YtkflpogmhailhaaGreatDoorC2
import Derived.Test.YtkflpogmhailhaaGreatDoorC8
set_option linter.unusedVariables false
set_option linter.unusedSimpArgs false
namespace Go.Proofs.YtkflpogmhailhaaGreatDoor
open Go.RowKit

/-- Fma of three drawn words. -/
structure FuA (f m u v t Z fl : Int) (b1 b2 b3 : Bool) (w : World) : Prop where
  fma : ∀ w', Gb w w' → Calls Tryz.prog 19 #[.int .i64 f, .int .i64 m, .int .u64 u, .int .u64 v, .int .u64 t] w' fun e w'' => e = .returned (.agg #[.int .u64 Z, .int .i64 fl]) ∧ Gr w' w''
  spc : ∀ w', Calls Tryz.prog 24 #[.int .i64 f, .int .i64 m, .int .u64 u, .int .u64 v, .int .u64 t] w' fun e w'' => e = .returned (.agg #[.int .u64 Z, .int .i64 fl]) ∧ Gb w' w''
  rlu : ∀ w', Calls Tryz.prog 22 #[.int .i64 f, .int .u64 u] w' fun e w'' => e = .returned (.bool b1) ∧ Gr w' w''
  rlv : ∀ w', Calls Tryz.prog 22 #[.int .i64 f, .int .u64 v] w' fun e w'' => e = .returned (.bool b2) ∧ Gr w' w''
  rlt : ∀ w', Calls Tryz.prog 22 #[.int .i64 f, .int .u64 t] w' fun e w'' => e = .returned (.bool b3) ∧ Gr w' w''

/-- Fma with one, and with a zero. -/
structure FuB (f m u v t o Z1 f1 Z2 f2 cu su xu gu cv sv xv gv mz y : Int) (w : World) : Prop where
  one : ∀ w', Calls Tryz.prog 25 #[.int .i64 f] w' fun e w'' => e = .returned (.int .u64 o) ∧ Gb w' w''
  fm1 : ∀ w', Gb w w' → Calls Tryz.prog 19 #[.int .i64 f, .int .i64 m, .int .u64 u, .int .u64 o, .int .u64 t] w' fun e w'' => e = .returned (.agg #[.int .u64 Z1, .int .i64 f1]) ∧ Gr w' w''
  add : ∀ w', Gb w w' → Calls Tryz.prog 13 #[.int .i64 f, .int .i64 m, .int .u64 u, .int .u64 t] w' fun e w'' => e = .returned (.agg #[.int .u64 Z1, .int .i64 f1]) ∧ Gr w' w''
  upu : ∀ w', Calls Tryz.prog 26 #[.int .i64 f, .int .u64 u] w' fun e w'' => e = .returned (.agg #[.int .i64 cu, .int .i64 su, .int .i64 xu, .int .u64 gu]) ∧ Gr w' w''
  upv : ∀ w', Calls Tryz.prog 26 #[.int .i64 f, .int .u64 v] w' fun e w'' => e = .returned (.agg #[.int .i64 cv, .int .i64 sv, .int .i64 xv, .int .u64 gv]) ∧ Gr w' w''
  min : ∀ w', Calls Tryz.prog 27 #[.int .i64 f] w' fun e w'' => e = .returned (.int .u64 mz) ∧ w' = w''
  fm2 : ∀ w', Gb w w' → Calls Tryz.prog 19 #[.int .i64 f, .int .i64 m, .int .u64 u, .int .u64 v, .int .u64 y] w' fun e w'' => e = .returned (.agg #[.int .u64 Z2, .int .i64 f2]) ∧ Gr w' w''
  mul : ∀ w', Gb w w' → Calls Tryz.prog 17 #[.int .i64 f, .int .i64 m, .int .u64 u, .int .u64 v] w' fun e w'' => e = .returned (.agg #[.int .u64 Z2, .int .i64 f2]) ∧ Gr w' w''
  yis : su = sv ∧ y = 0 ∨ (su == sv) = false ∧ y = mz

theorem CodeRow.gb {w w' : World} {a : Option Addr} {len : Nat} (h : CodeRow w a len) (g : Gb w w') : CodeRow w' a len := by
  obtain ⟨h1, h2⟩ := h
  refine ⟨h1, ?_⟩
  rcases h2 with e | ⟨b, off, rfl, hc⟩
  · exact .inl e
  · refine .inr ⟨b, off, rfl, fun i hi => ?_⟩
    obtain ⟨z, z0, z1, hz⟩ := hc i hi
    exact ⟨z, z0, z1, g.old hz⟩

set_option maxRecDepth 1000000 in
set_option maxHeartbeats 4000000 in
theorem fused_head (a : Option Addr) (len cap : Nat) (w : World) (hC : CodeRow w a len)
    (HD : Hid (∀ w', Gb w w' → Calls Tryz.prog 16 #[.slice a len cap] w' (FmaDraw w')))
    (HA : Hid (∀ f m u v t : Int, 0 ≤ u → u < 18446744073709551616 → 0 ≤ v → v < 18446744073709551616 → 0 ≤ t → t < 18446744073709551616 → ∃ Z fl b1 b2 b3, FuA f m u v t Z fl b1 b2 b3 w ∧ (b1 = true → b2 = true → b3 = true → 0 ≤ m → m ≤ 4 → ∃ o Z1 f1 Z2 f2 cu su xu gu cv sv xv gv mz y, FuB f m u v t o Z1 f1 Z2 f2 cu su xu gu cv sv xv gv mz y w))) :
    Calls Tryz.prog 5 #[.slice a len cap] w fun e w' => e = .returned (.bool true) ∧ Gb w w' := by
  have hlen : len ≤ 1048576 := hC.1
  clear hC
  go_enter Tryz.func5, Tryz.ntmps5
  go_upto_region 4 with (go_at_call 16; refine (HD.out _ (Gb.refl _)).mono ?_; rintro x w1 ⟨f, m, u, v, t, f0, f1, m0, m1, u0, u1, v0, v1, t0, t1, rfl, hg_w1⟩)
  obtain ⟨Z, fl, b1, b2, b3, SA, SB⟩ := HA.out f m u v t u0 u1 v0 v1 t0 t1
  have HSA : Hid (FuA f m u v t Z fl b1 b2 b3 w) := SA
  have HSB : Hid (b1 = true → b2 = true → b3 = true → 0 ≤ m → m ≤ 4 → ∃ o Z1 f1 Z2 f2 cu su xu gu cv sv xv gv mz y, FuB f m u v t o Z1 f1 Z2 f2 cu su xu gu cv sv xv gv mz y w) := SB
  have hgb1 : Gb w w1 := hg_w1
  have hq := eqRS_same Z fl
  clear SA SB HA HD
  cases b1
  · go_wp2_with (first
      | (go_at_call 19; with_reducible refine (FuA.fma HSA.out _ Gb.g).mono ?_; rintro x w2 ⟨rfl, hg_w2⟩; have hgb2 : Gb w w2 := Gb.g)
      | (go_at_call 24; with_reducible refine (FuA.spc HSA.out _).mono ?_; rintro x w3 ⟨rfl, hg_w3⟩; have hgb3 : Gb w w3 := Gb.g)
      | (go_at_call 22; first | (with_reducible refine (FuA.rlu HSA.out _).mono ?_; rintro x wu ⟨rfl, hg_wu⟩; have hgbu : Gb w wu := Gb.g)))
    go_returns
    exact ⟨rfl, Gb.g⟩
  · cases b2
    · go_wp2_with (first
        | (go_at_call 19; with_reducible refine (FuA.fma HSA.out _ Gb.g).mono ?_; rintro x w2 ⟨rfl, hg_w2⟩; have hgb2 : Gb w w2 := Gb.g)
        | (go_at_call 24; with_reducible refine (FuA.spc HSA.out _).mono ?_; rintro x w3 ⟨rfl, hg_w3⟩; have hgb3 : Gb w w3 := Gb.g)
        | (go_at_call 22; first | (with_reducible refine (FuA.rlu HSA.out _).mono ?_; rintro x wu ⟨rfl, hg_wu⟩; have hgbu : Gb w wu := Gb.g) | (with_reducible refine (FuA.rlv HSA.out _).mono ?_; rintro x wv ⟨rfl, hg_wv⟩; have hgbv : Gb w wv := Gb.g)))
      go_returns
      exact ⟨rfl, Gb.g⟩
    · cases b3
      · go_wp2_with (first
          | (go_at_call 19; with_reducible refine (FuA.fma HSA.out _ Gb.g).mono ?_; rintro x w2 ⟨rfl, hg_w2⟩; have hgb2 : Gb w w2 := Gb.g)
          | (go_at_call 24; with_reducible refine (FuA.spc HSA.out _).mono ?_; rintro x w3 ⟨rfl, hg_w3⟩; have hgb3 : Gb w w3 := Gb.g)
          | (go_at_call 22; first | (with_reducible refine (FuA.rlu HSA.out _).mono ?_; rintro x wu ⟨rfl, hg_wu⟩; have hgbu : Gb w wu := Gb.g) | (with_reducible refine (FuA.rlv HSA.out _).mono ?_; rintro x wv ⟨rfl, hg_wv⟩; have hgbv : Gb w wv := Gb.g) | (with_reducible refine (FuA.rlt HSA.out _).mono ?_; rintro x wt ⟨rfl, hg_wt⟩; have hgbt : Gb w wt := Gb.g)))
        go_returns
        exact ⟨rfl, Gb.g⟩
      · by_cases hm0 : m < 0
        · go_wp2_with (first
            | (go_at_call 19; with_reducible refine (FuA.fma HSA.out _ Gb.g).mono ?_; rintro x w2 ⟨rfl, hg_w2⟩; have hgb2 : Gb w w2 := Gb.g)
            | (go_at_call 24; with_reducible refine (FuA.spc HSA.out _).mono ?_; rintro x w3 ⟨rfl, hg_w3⟩; have hgb3 : Gb w w3 := Gb.g)
            | (go_at_call 22; first | (with_reducible refine (FuA.rlu HSA.out _).mono ?_; rintro x wu ⟨rfl, hg_wu⟩; have hgbu : Gb w wu := Gb.g) | (with_reducible refine (FuA.rlv HSA.out _).mono ?_; rintro x wv ⟨rfl, hg_wv⟩; have hgbv : Gb w wv := Gb.g) | (with_reducible refine (FuA.rlt HSA.out _).mono ?_; rintro x wt ⟨rfl, hg_wt⟩; have hgbt : Gb w wt := Gb.g)))
          go_returns
          exact ⟨rfl, Gb.g⟩
        · by_cases hm4 : 4 < m
          · go_wp2_with (first
              | (go_at_call 19; with_reducible refine (FuA.fma HSA.out _ Gb.g).mono ?_; rintro x w2 ⟨rfl, hg_w2⟩; have hgb2 : Gb w w2 := Gb.g)
              | (go_at_call 24; with_reducible refine (FuA.spc HSA.out _).mono ?_; rintro x w3 ⟨rfl, hg_w3⟩; have hgb3 : Gb w w3 := Gb.g)
              | (go_at_call 22; first | (with_reducible refine (FuA.rlu HSA.out _).mono ?_; rintro x wu ⟨rfl, hg_wu⟩; have hgbu : Gb w wu := Gb.g) | (with_reducible refine (FuA.rlv HSA.out _).mono ?_; rintro x wv ⟨rfl, hg_wv⟩; have hgbv : Gb w wv := Gb.g) | (with_reducible refine (FuA.rlt HSA.out _).mono ?_; rintro x wt ⟨rfl, hg_wt⟩; have hgbt : Gb w wt := Gb.g)))
            go_returns
            exact ⟨rfl, Gb.g⟩
          · obtain ⟨o, Z1, fl1, Z2, fl2, cu, su, xu, gu, cv, sv, xv, gv, mz, y, SB⟩ := HSB.out rfl rfl rfl (by omega) (by omega)
            have HB : Hid (FuB f m u v t o Z1 fl1 Z2 fl2 cu su xu gu cv sv xv gv mz y w) := SB
            have hyis := SB.yis
            have hq1 := eqRS_same Z1 fl1
            have hq2 := eqRS_same Z2 fl2
            have hfu : ∀ w, (Instr.field 44 (.agg #[.int .i64 cu, .int .i64 su, .int .i64 xu, .int .u64 gu]) 1).run Tryz.prog w = .ok (.int .i64 su) w := fun w => by kernel_rfl
            have hfv : ∀ w, (Instr.field 44 (.agg #[.int .i64 cv, .int .i64 sv, .int .i64 xv, .int .u64 gv]) 1).run Tryz.prog w = .ok (.int .i64 sv) w := fun w => by kernel_rfl
            clear SB HSB
            rcases hyis with ⟨rfl, rfl⟩ | ⟨hne, rfl⟩
            · go_wp2_with (first
                | (go_at_call 19; first | (with_reducible refine (FuA.fma HSA.out _ Gb.g).mono ?_; rintro x w2 ⟨rfl, hg_w2⟩; have hgb2 : Gb w w2 := Gb.g) | (with_reducible refine (FuB.fm1 HB.out _ Gb.g).mono ?_; rintro x w5 ⟨rfl, hg_w5⟩; have hgb5 : Gb w w5 := Gb.g) | (with_reducible refine (FuB.fm2 HB.out _ Gb.g).mono ?_; rintro x w9 ⟨rfl, hg_w9⟩; have hgb9 : Gb w w9 := Gb.g))
                | (go_at_call 24; with_reducible refine (FuA.spc HSA.out _).mono ?_; rintro x w3 ⟨rfl, hg_w3⟩; have hgb3 : Gb w w3 := Gb.g)
                | (go_at_call 22; first | (with_reducible refine (FuA.rlu HSA.out _).mono ?_; rintro x wu ⟨rfl, hg_wu⟩; have hgbu : Gb w wu := Gb.g) | (with_reducible refine (FuA.rlv HSA.out _).mono ?_; rintro x wv ⟨rfl, hg_wv⟩; have hgbv : Gb w wv := Gb.g) | (with_reducible refine (FuA.rlt HSA.out _).mono ?_; rintro x wt ⟨rfl, hg_wt⟩; have hgbt : Gb w wt := Gb.g))
                | (go_at_call 25; refine (FuB.one HB.out _).mono ?_; rintro x w4 ⟨rfl, hg_w4⟩; have hgb4 : Gb w w4 := Gb.g)
                | (go_at_call 13; refine (FuB.add HB.out _ Gb.g).mono ?_; rintro x w6 ⟨rfl, hg_w6⟩; have hgb6 : Gb w w6 := Gb.g)
                | (go_at_call 26; first | (with_reducible refine (FuB.upu HB.out _).mono ?_; rintro x w7 ⟨rfl, hg_w7⟩; have hgb7 : Gb w w7 := Gb.g) | (with_reducible refine (FuB.upv HB.out _).mono ?_; rintro x w8 ⟨rfl, hg_w8⟩; have hgb8 : Gb w w8 := Gb.g))
                | (go_at_call 27; refine (FuB.min HB.out _).mono ?_; rintro x wk ⟨rfl, hw⟩; subst hw)
                | (go_at_call 17; refine (FuB.mul HB.out _ Gb.g).mono ?_; rintro x w10 ⟨rfl, hg_w10⟩; have hgb10 : Gb w w10 := Gb.g))
              go_returns
              exact ⟨rfl, Gb.g⟩
            · go_wp2_with (first
                | (go_at_call 19; first | (with_reducible refine (FuA.fma HSA.out _ Gb.g).mono ?_; rintro x w2 ⟨rfl, hg_w2⟩; have hgb2 : Gb w w2 := Gb.g) | (with_reducible refine (FuB.fm1 HB.out _ Gb.g).mono ?_; rintro x w5 ⟨rfl, hg_w5⟩; have hgb5 : Gb w w5 := Gb.g) | (with_reducible refine (FuB.fm2 HB.out _ Gb.g).mono ?_; rintro x w9 ⟨rfl, hg_w9⟩; have hgb9 : Gb w w9 := Gb.g))
                | (go_at_call 24; with_reducible refine (FuA.spc HSA.out _).mono ?_; rintro x w3 ⟨rfl, hg_w3⟩; have hgb3 : Gb w w3 := Gb.g)
                | (go_at_call 22; first | (with_reducible refine (FuA.rlu HSA.out _).mono ?_; rintro x wu ⟨rfl, hg_wu⟩; have hgbu : Gb w wu := Gb.g) | (with_reducible refine (FuA.rlv HSA.out _).mono ?_; rintro x wv ⟨rfl, hg_wv⟩; have hgbv : Gb w wv := Gb.g) | (with_reducible refine (FuA.rlt HSA.out _).mono ?_; rintro x wt ⟨rfl, hg_wt⟩; have hgbt : Gb w wt := Gb.g))
                | (go_at_call 25; refine (FuB.one HB.out _).mono ?_; rintro x w4 ⟨rfl, hg_w4⟩; have hgb4 : Gb w w4 := Gb.g)
                | (go_at_call 13; refine (FuB.add HB.out _ Gb.g).mono ?_; rintro x w6 ⟨rfl, hg_w6⟩; have hgb6 : Gb w w6 := Gb.g)
                | (go_at_call 26; first | (with_reducible refine (FuB.upu HB.out _).mono ?_; rintro x w7 ⟨rfl, hg_w7⟩; have hgb7 : Gb w w7 := Gb.g) | (with_reducible refine (FuB.upv HB.out _).mono ?_; rintro x w8 ⟨rfl, hg_w8⟩; have hgb8 : Gb w w8 := Gb.g))
                | (go_at_call 27; refine (FuB.min HB.out _).mono ?_; rintro x wk ⟨rfl, hw⟩; subst hw)
                | (go_at_call 17; refine (FuB.mul HB.out _ Gb.g).mono ?_; rintro x w10 ⟨rfl, hg_w10⟩; have hgb10 : Gb w w10 := Gb.g))
              go_returns
              exact ⟨rfl, Gb.g⟩
end Go.Proofs.YtkflpogmhailhaaGreatDoor

/- laws.wOne: spec.FromInt of 1. -/
set_option linter.unusedVariables false
set_option linter.unusedSimpArgs false
namespace Go.Proofs.YtkflpogmhailhaaGreatDoor
open Go.RowKit

theorem l5Kind_0 (w : World) : Calls Tryz.prog 120 #[.int .i64 0] w fun e w' => e = .returned (.tuple #[.int .i64 32, .bool true]) ∧ w = w' := by
  go_enter Tryz.func120, Tryz.ntmps120
  go_wp2
  go_returns
  exact ⟨rfl, rfl⟩

set_option maxRecDepth 100000 in
set_option maxHeartbeats 1000000 in
theorem l5Most_00 (w : World) : Calls Tryz.prog 121 #[.int .i64 0, .int .i64 0] w fun e w' => ∃ b k c, BigN 10 w' (.slice (some ⟨b, 0, none⟩) k c) 2147483647 ∧ e = .returned (.slice (some ⟨b, 0, none⟩) k c) ∧ Gb w w' := by
  have HO : Hid (∀ w, Calls Tryz.prog 45 #[.int .u64 1] w fun e w' => ∃ b k c, BigN 2 w' (.slice (some ⟨b, 0, none⟩) k c) 1 ∧ e = .returned (.slice (some ⟨b, 0, none⟩) k c) ∧ Gb w w') := fun w => big_slice (l2Big_any 1 (by omega) w)
  have HS : Hid (∀ v w, BigN 2 w v 1 → Calls Tryz.prog 44 #[v, .int .i64 31] w fun e w' => ∃ b k c, BigN 8 w' (.slice (some ⟨b, 0, none⟩) k c) 2147483648 ∧ e = .returned (.slice (some ⟨b, 0, none⟩) k c) ∧ Gb w w') := fun v w ⟨n, a1, a2⟩ => big_slice ((l2Shl_any a2 (by omega) 31 (by omega)).mono (fun e w' ⟨v, k, c1, c2, c3, c4⟩ => ⟨v, k, c1, c2, by omega, c4⟩))
  have HB : Hid (∀ v v' w, BigN 8 w v 2147483648 → BigN 2 w v' 1 → Calls Tryz.prog 49 #[v, v'] w fun e w' => ∃ b k c, BigN 10 w' (.slice (some ⟨b, 0, none⟩) k c) 2147483647 ∧ e = .returned (.slice (some ⟨b, 0, none⟩) k c) ∧ Gb w w') := fun v v' w ⟨n, a1, a2⟩ ⟨n', b1, b2⟩ => big_slice ((l2Sub_any a2 (by omega) b2 (by omega) (by omega)).mono (fun e w' ⟨v, k, c1, c2, c3, c4⟩ => ⟨v, k, c1, c2, by omega, c4⟩))
  go_enter Tryz.func121, Tryz.ntmps121
  go_wp2_with (first
    | (go_at_call 120; refine (l5Kind_0 _).mono ?_; rintro e wk ⟨rfl, hw⟩; subst hw)
    | (go_at_call 45; refine (HO.out _).mono ?_; rintro e n1 ⟨b1, k1, q1, hb1, rfl, hg_n1⟩)
    | (go_at_call 44; with_reducible refine (HS.out _ _ hb1).mono ?_; rintro e n2 ⟨b2, k2, q2, hb2, rfl, hg_n2⟩)
    | (go_at_call 49; with_reducible refine (HB.out _ _ _ (BigN.gb hb2 hg_n1) hb1).mono ?_; rintro e n4 ⟨b4, k4, q4, hb4, rfl, hg_n4⟩))
  go_returns
  exact ⟨_, _, _, hb4, rfl, Gb.g⟩

set_option maxRecDepth 100000 in
set_option maxHeartbeats 1000000 in
theorem l5Int_01 (w : World) : Calls Tryz.prog 92 #[.int .i64 0, .int .u64 1] w fun e w' => ∃ b k c, BigN 2 w' (.slice (some ⟨b, 0, none⟩) k c) 1 ∧ e = .returned (.tuple #[.agg #[.int .i64 0, .slice (some ⟨b, 0, none⟩) k c, .int .i64 0, .bool false], .bool true]) ∧ Gb w w' := by
  have HO : Hid (∀ w, Calls Tryz.prog 45 #[.int .u64 1] w fun e w' => ∃ b k c, BigN 2 w' (.slice (some ⟨b, 0, none⟩) k c) 1 ∧ e = .returned (.slice (some ⟨b, 0, none⟩) k c) ∧ Gb w w') := fun w => big_slice (l2Big_any 1 (by omega) w)
  have HT : Hid (∀ w, Calls Tryz.prog 75 #[.int .i64 63] w fun e w' => e = .returned (.int .u64 9223372036854775808) ∧ w = w') := fun w => l2Two_any 63 _ (by omega) (by decide) w
  have HC : Hid (∀ v v' w, BigN 2 w v 1 → BigN 10 w v' 2147483647 → Calls Tryz.prog 47 #[v, v'] w fun e w' => e = .returned (.int .i64 (-1)) ∧ Gb w w') := fun v v' w ⟨n, a1, a2⟩ ⟨n', b1, b2⟩ => l2Cmp_any a2 (by omega) b2 (by omega)
  go_enter Tryz.func92, Tryz.ntmps92
  go_upto_region 3 with (first
    | (go_at_call 120; refine (l5Kind_0 _).mono ?_; rintro e wk ⟨rfl, hw⟩; subst hw)
    | (go_at_call 45; refine (HO.out _).mono ?_; rintro e n1 ⟨b1, k1, q1, hb1, rfl, hg_n1⟩; have kr0 : n1.cell? ⟨w.heap.size, 0, none⟩ = some (.int .i64 0) := hg_n1.c; have krz0 : n1.frozen? ⟨w.heap.size, 0, none⟩ = false := hg_n1.z kr0; have kr1 : n1.cell? ⟨w.heap.size, 1, none⟩ = some (.slice none 0 0) := hg_n1.c; have krz1 : n1.frozen? ⟨w.heap.size, 1, none⟩ = false := hg_n1.z kr1; have kr2 : n1.cell? ⟨w.heap.size, 2, none⟩ = some (.int .i64 0) := hg_n1.c; have krz2 : n1.frozen? ⟨w.heap.size, 2, none⟩ = false := hg_n1.z kr2; have kr3 : n1.cell? ⟨w.heap.size, 3, none⟩ = some (.bool false) := hg_n1.c; have krz3 : n1.frozen? ⟨w.heap.size, 3, none⟩ = false := hg_n1.z kr3; have hz1 := cell_size kr0))
  obtain ⟨w2, hw2⟩ : ∃ w2, n1.alloc (.cells #[.int .i64 0, .slice (some ⟨b1, 0, none⟩) k1 q1, .int .i64 0, .bool false] 70) = w2 := ⟨_, rfl⟩
  have hg_w2 : Gb n1 w2 := by rw [← hw2]; exact (Gb.refl _).alloc _
  have hb2 : BigN 2 w2 (.slice (some ⟨b1, 0, none⟩) k1 q1) 1 := BigN.gb hb1 hg_w2
  have x0 : w2.cell? ⟨n1.heap.size, 0, none⟩ = some (.int .i64 0) := by rw [← hw2]; simp [go_sem]
  have x1 : w2.cell? ⟨n1.heap.size, 1, none⟩ = some (.slice (some ⟨b1, 0, none⟩) k1 q1) := by rw [← hw2]; simp [go_sem]
  have x2 : w2.cell? ⟨n1.heap.size, 2, none⟩ = some (.int .i64 0) := by rw [← hw2]; simp [go_sem]
  have x3 : w2.cell? ⟨n1.heap.size, 3, none⟩ = some (.bool false) := by rw [← hw2]; simp [go_sem]
  have hz2 : n1.heap.size < w2.heap.size := by rw [← hw2]; simp
  rw [hw2]
  clear hw2
  have mr0 : w2.cell? ⟨w.heap.size, 0, none⟩ = some (.int .i64 0) := hg_w2.c; have mrz0 : w2.frozen? ⟨w.heap.size, 0, none⟩ = false := hg_w2.z mr0; have mr1 : w2.cell? ⟨w.heap.size, 1, none⟩ = some (.slice none 0 0) := hg_w2.c; have mrz1 : w2.frozen? ⟨w.heap.size, 1, none⟩ = false := hg_w2.z mr1; have mr2 : w2.cell? ⟨w.heap.size, 2, none⟩ = some (.int .i64 0) := hg_w2.c; have mrz2 : w2.frozen? ⟨w.heap.size, 2, none⟩ = false := hg_w2.z mr2; have mr3 : w2.cell? ⟨w.heap.size, 3, none⟩ = some (.bool false) := hg_w2.c; have mrz3 : w2.frozen? ⟨w.heap.size, 3, none⟩ = false := hg_w2.z mr3
  have hgw : Gb w w2 := Gb.g
  go_wp2_with (go_at_call 75; refine (HT.out _).mono ?_; rintro e wk ⟨rfl, hw⟩; subst hw)
  go_region_held3 (fun w' => w'.cell? ⟨n1.heap.size, 0, none⟩ = some (.int .i64 0) ∧ w'.cell? ⟨n1.heap.size, 1, none⟩ = some (.slice (some ⟨b1, 0, none⟩) k1 q1) ∧ w'.cell? ⟨n1.heap.size, 2, none⟩ = some (.int .i64 0) ∧ w'.cell? ⟨n1.heap.size, 3, none⟩ = some (.bool false))
    ((go_split_ands; (repeat' apply And.intro) <;> exact kh))
    (first
      | (go_at_call 121; refine (l5Most_00 _).mono ?_; rintro e n3 ⟨b3, k3, q3, hb3, rfl, hg_n3⟩; have nr0 : n3.cell? ⟨w.heap.size, 0, none⟩ = some (.int .i64 0) := hg_n3.c; have nrz0 : n3.frozen? ⟨w.heap.size, 0, none⟩ = false := hg_n3.z nr0; have nr1 : n3.cell? ⟨w.heap.size, 1, none⟩ = some (.slice none 0 0) := hg_n3.c; have nrz1 : n3.frozen? ⟨w.heap.size, 1, none⟩ = false := hg_n3.z nr1; have nr2 : n3.cell? ⟨w.heap.size, 2, none⟩ = some (.int .i64 0) := hg_n3.c; have nrz2 : n3.frozen? ⟨w.heap.size, 2, none⟩ = false := hg_n3.z nr2; have nr3 : n3.cell? ⟨w.heap.size, 3, none⟩ = some (.bool false) := hg_n3.c; have nrz3 : n3.frozen? ⟨w.heap.size, 3, none⟩ = false := hg_n3.z nr3)
      | (go_at_call 47; with_reducible refine (HC.out _ _ _ (BigN.gb hb2 Gb.g) (BigN.gb hb3 Gb.g)).mono ?_; rintro e n4 ⟨rfl, hg_n4⟩; have or0 : n4.cell? ⟨w.heap.size, 0, none⟩ = some (.int .i64 0) := hg_n4.c; have orz0 : n4.frozen? ⟨w.heap.size, 0, none⟩ = false := hg_n4.z or0; have or1 : n4.cell? ⟨w.heap.size, 1, none⟩ = some (.slice none 0 0) := hg_n4.c; have orz1 : n4.frozen? ⟨w.heap.size, 1, none⟩ = false := hg_n4.z or1; have or2 : n4.cell? ⟨w.heap.size, 2, none⟩ = some (.int .i64 0) := hg_n4.c; have orz2 : n4.frozen? ⟨w.heap.size, 2, none⟩ = false := hg_n4.z or2; have or3 : n4.cell? ⟨w.heap.size, 3, none⟩ = some (.bool false) := hg_n4.c; have orz3 : n4.frozen? ⟨w.heap.size, 3, none⟩ = false := hg_n4.z or3))
  all_goals (try go_split_ands)
  all_goals go_wp2
  all_goals
    refine bodyPost_ret (v := .tuple #[.agg #[.int .i64 0, .slice (some ⟨b1, 0, none⟩) k1 q1, .int .i64 0, .bool false], .bool true]) (by simp [results, Tryz.results92, go_sem, or0, or1, or2, or3]) rfl ⟨b1, k1, q1, ?_, rfl, ?_⟩
    · exact (BigN.gb hb2 Gb.g).st4 or0 or1 or2 or3
    · exact Gb.g

set_option maxRecDepth 100000 in
set_option maxHeartbeats 1000000 in
theorem fromInt_1 {f p mx one inf sg nan : Int} (h : IsFmt f p mx one inf sg nan) (w : World) :
    Calls Tryz.prog 38 #[.int .i64 f, .int .i64 0, .int .i64 0, .int .u64 1] w fun e w' => ∃ z fl, PackIs p (1 - mx) mx one inf sg nan 0 ⟨1, 0, 0, 1⟩ z fl ∧ e = .returned (.agg #[.int .u64 z, .int .i64 fl]) ∧ Gb w w' := by
  have HFm : Hid (∀ w, Calls Tryz.prog 60 #[.int .i64 f] w fun e w' => e = .returned (.bool true) ∧ w = w') := fun w => l2Format_any f true (by simp [h.yes]) w
  have HWy : Hid (∀ w, Calls Tryz.prog 91 #[.int .i64 0] w fun e w' => e = .returned (.bool true) ∧ w = w') := fun w => l2Way_any 0 true (by decide) w
  have HR : Hid (∀ v w, BigN 2 w v 1 → Calls Tryz.prog 51 #[.int .i64 f, .int .i64 0, .agg #[.int .i64 0, v, .int .i64 0, .bool false]] w fun e w' => ∃ z fl, PackIs p (1 - mx) mx one inf sg nan 0 ⟨1, 0, 0, 1⟩ z fl ∧ e = .returned (.agg #[.int .u64 z, .int .i64 fl]) ∧ Gb w w') := fun v w hB => round_at h 0 (by omega) (by omega) ⟨1, 0, 0, 1⟩ rfl (.inl rfl) (by decide) (by decide) (by decide) 2 (by omega) v w hB
  clear h
  go_enter Tryz.func38, Tryz.ntmps38
  go_upto_region 2 with (go_at_call 92; refine (l5Int_01 _).mono ?_; rintro e n1 ⟨b1, k1, q1, hb1, rfl, hg_n1⟩; have kr0 : n1.cell? ⟨w.heap.size, 0, none⟩ = some (.int .u64 0) := hg_n1.c; have krz0 : n1.frozen? ⟨w.heap.size, 0, none⟩ = false := hg_n1.z kr0; have kr1 : n1.cell? ⟨w.heap.size, 1, none⟩ = some (.int .i64 0) := hg_n1.c; have krz1 : n1.frozen? ⟨w.heap.size, 1, none⟩ = false := hg_n1.z kr1; have hz1 := cell_size kr0; have hk0 : (((k1 : Nat) : Int) == 0) = false := (by rw [bigN_zk hb1]; decide))
  obtain ⟨w2, hw2⟩ : ∃ w2, n1.alloc (.cells #[.int .i64 0, .slice (some ⟨b1, 0, none⟩) k1 q1, .int .i64 0, .bool false] 70) = w2 := ⟨_, rfl⟩
  have hg_w2 : Gb n1 w2 := by rw [← hw2]; exact (Gb.refl _).alloc _
  have hb2 : BigN 2 w2 (.slice (some ⟨b1, 0, none⟩) k1 q1) 1 := BigN.gb hb1 hg_w2
  have x0 : w2.cell? ⟨n1.heap.size, 0, none⟩ = some (.int .i64 0) := by rw [← hw2]; simp [go_sem]
  have x1 : w2.cell? ⟨n1.heap.size, 1, none⟩ = some (.slice (some ⟨b1, 0, none⟩) k1 q1) := by rw [← hw2]; simp [go_sem]
  have x2 : w2.cell? ⟨n1.heap.size, 2, none⟩ = some (.int .i64 0) := by rw [← hw2]; simp [go_sem]
  have x3 : w2.cell? ⟨n1.heap.size, 3, none⟩ = some (.bool false) := by rw [← hw2]; simp [go_sem]
  have hz2 : n1.heap.size < w2.heap.size := by rw [← hw2]; simp
  rw [hw2]
  clear hw2
  have mr0 : w2.cell? ⟨w.heap.size, 0, none⟩ = some (.int .u64 0) := hg_w2.c; have mrz0 : w2.frozen? ⟨w.heap.size, 0, none⟩ = false := hg_w2.z mr0; have mr1 : w2.cell? ⟨w.heap.size, 1, none⟩ = some (.int .i64 0) := hg_w2.c; have mrz1 : w2.frozen? ⟨w.heap.size, 1, none⟩ = false := hg_w2.z mr1
  go_wp2_with (first
    | (go_at_call 60; refine (HFm.out _).mono ?_; rintro e wk ⟨rfl, hw⟩; subst hw)
    | (go_at_call 91; refine (HWy.out _).mono ?_; rintro e wk ⟨rfl, hw⟩; subst hw)
    | (go_at_call 51; with_reducible refine (HR.out _ _ hb2).mono ?_; rintro e w9 ⟨z, fl, hq, rfl, hg_w9⟩; have zr0 : w9.cell? ⟨w.heap.size, 0, none⟩ = some (.int .u64 0) := hg_w9.c; have zrz0 : w9.frozen? ⟨w.heap.size, 0, none⟩ = false := hg_w9.z zr0; have zr1 : w9.cell? ⟨w.heap.size, 1, none⟩ = some (.int .i64 0) := hg_w9.c; have zrz1 : w9.frozen? ⟨w.heap.size, 1, none⟩ = false := hg_w9.z zr1))
  refine bodyPost_ret (v := .agg #[.int .u64 z, .int .i64 fl]) (by simp [results, Tryz.results38, go_sem, zr0, zr1]) rfl ⟨z, fl, hq, rfl, ?_⟩
  exact Gb.g

set_option maxRecDepth 100000 in
theorem wOne_of {f p mx one inf sg nan : Int} (h : IsFmt f p mx one inf sg nan) (w : World) :
    Calls Tryz.prog 25 #[.int .i64 f] w fun e w' => ∃ z fl, PackIs p (1 - mx) mx one inf sg nan 0 ⟨1, 0, 0, 1⟩ z fl ∧ e = .returned (.int .u64 z) ∧ Gb w w' := by
  have hf : ∀ z fl w, (Instr.field 27 (.agg #[.int .u64 z, .int .i64 fl]) 0).run Tryz.prog w = .ok (.int .u64 z) w := fun z fl w => by kernel_rfl
  have HI : Hid (∀ w, Calls Tryz.prog 38 #[.int .i64 f, .int .i64 0, .int .i64 0, .int .u64 1] w fun e w' => ∃ z fl, PackIs p (1 - mx) mx one inf sg nan 0 ⟨1, 0, 0, 1⟩ z fl ∧ e = .returned (.agg #[.int .u64 z, .int .i64 fl]) ∧ Gb w w') := fun w => fromInt_1 h w
  clear h
  go_enter Tryz.func25, Tryz.ntmps25
  go_wp2_with (go_at_call 38; refine (HI.out _).mono ?_; rintro x w1 ⟨z, fl, hq, rfl, hg_w1⟩)
  go_returns
  exact ⟨z, fl, hq, rfl, Gb.g⟩
end Go.Proofs.YtkflpogmhailhaaGreatDoor

/- laws.FnFused: what its walk calls holds. -/
set_option linter.unusedVariables false
set_option linter.unusedSimpArgs false
namespace Go.Proofs.YtkflpogmhailhaaGreatDoor
open Go.RowKit

theorem round_bounds {f p mx one inf sg nan mode s : Int} {M : Nat} {e : Int} {b : Bool} {z fl : Int} (h : IsFmt f p mx one inf sg nan) (hr : RoundIs p (1 - mx) mx one inf mode s M e b z fl) : 0 ≤ z ∧ z < sg := by
  have hb := h.bounds
  obtain ⟨top, E, r, r2, hf, h1, h2, h3, h4, h5, h6⟩ := hr
  have hov : ovMag inf mode s = inf ∨ ovMag inf mode s = inf - 1 := by unfold ovMag; split <;> simp
  have hE : 0 ≤ one * (E - (1 - mx)) := Int.mul_nonneg (by omega) (by omega)
  rcases h6 with ⟨_, rfl, _⟩ | ⟨_, _, rfl, _⟩ | ⟨_, h7, rfl, _⟩
  · omega
  · omega
  · generalize one * (E - (1 - mx)) = Q at *
    omega

theorem pack_bounds {f p mx one inf sg nan mode : Int} {o : Opd} {Z fl : Int} (h : IsFmt f p mx one inf sg nan) (hs : o.s = 0 ∨ o.s = 1) (hp : PackIs p (1 - mx) mx one inf sg nan mode o Z fl) : 0 ≤ Z ∧ Z < 2 * sg := by
  have hb := h.bounds
  have hsw : ∀ z, 0 ≤ z → z < sg → 0 ≤ sw o.s sg z ∧ sw o.s sg z < 2 * sg := by
    intro z z0 z1
    unfold sw
    split <;> omega
  rcases hp with ⟨_, rfl, _⟩ | ⟨_, z, hz, rfl⟩ | ⟨_, rfl, _⟩ | ⟨_, rfl, _⟩ | ⟨_, rfl, _⟩
  · exact hsw 0 (by omega) (by omega)
  · have := round_bounds h hz
    exact hsw z this.1 this.2
  · exact hsw inf (by omega) (by omega)
  · omega
  · omega

theorem prodO_ss (x y : Opd) : (prodO x y).s = 0 ∨ (prodO x y).s = 1 := by
  have hm : mulS x.s y.s = 0 ∨ mulS x.s y.s = 1 := by unfold mulS; split <;> simp
  unfold prodO
  split
  · exact .inl rfl
  · split
    · exact hm
    · split
      · exact hm
      · split
        · exact hm
        · exact hm

theorem mz_sg {f p mx one inf sg nan : Int} (h : IsFmt f p mx one inf sg nan) : mz f = sg := by
  unfold mz
  rcases h with ⟨rfl, rfl, rfl, rfl, rfl, rfl, rfl⟩ | ⟨rfl, rfl, rfl, rfl, rfl, rfl, rfl⟩ <;> simp

/-- A word's class, as the model says it. -/
theorem class_of (f v : Int) (v0 : 0 ≤ v) (v1 : v < 18446744073709551616) : ∃ c : Int, (∀ w, Calls Tryz.prog 10 #[.int .i64 f, .int .u64 v] w fun e w' => e = .returned (.int .i64 c) ∧ Gr w w') ∧ (c = 4 ∨ ∃ p mx one inf sg nan x, IsFmt f p mx one inf sg nan ∧ v < 2 * sg ∧ OpdIs p mx one inf sg nan v x ∧ x.c = c) := by
  rcases fit_or f v v0 v1 with ⟨p, mx, one, inf, sg, nan, hF, hv⟩ | hno
  · obtain ⟨x, hx⟩ := opd_ex hF v v0 v1
    exact ⟨x.c, fun w => wClass_any f v _ _ _ _ (unp_det hF v v0 hv hx) w, .inr ⟨p, mx, one, inf, sg, nan, x, hF, hv, hx, rfl⟩⟩
  · exact ⟨4, fun w => wClass_any f v 4 0 0 0 (fun w => specUnpack_no f v v0 hno w) w, .inl rfl⟩

/-! A number in other units. -/
theorem bothM_scale (x z : Opd) (k : Nat) : ∃ j : Nat, bothM ⟨x.c, x.s, x.e - k, x.M * 2 ^ k⟩ z = ((bothM x z).1 * 2 ^ j, (bothM x z).2 * 2 ^ j) ∧ min (x.e - k) z.e = min x.e z.e - j := by
  refine ⟨(min x.e z.e - min (x.e - k) z.e).toNat, ?_, by omega⟩
  unfold bothM
  dsimp only
  rw [Nat.mul_assoc, Nat.mul_assoc, Nat.mul_assoc, ← Nat.pow_add, ← Nat.pow_add, ← Nat.pow_add]
  congr 3
  · omega
  · omega

theorem totO_scale (mode : Int) (x z : Opd) (k : Nat) (hx : 0 < x.M) (hz : 0 < z.M) :
    (totO mode ⟨x.c, x.s, x.e - k, x.M * 2 ^ k⟩ z = nilO mode ∧ totO mode x z = nilO mode) ∨
    ∃ (s e : Int) (M j : Nat), 0 < M ∧ totO mode x z = ⟨1, s, e, M⟩ ∧ totO mode ⟨x.c, x.s, x.e - k, x.M * 2 ^ k⟩ z = ⟨1, s, e - j, M * 2 ^ j⟩ := by
  obtain ⟨j, h1, h2⟩ := bothM_scale x z k
  have hp : 0 < 2 ^ j := Nat.pow_pos (by decide)
  have p1 : 0 < (bothM x z).1 := Nat.mul_pos hx (Nat.pow_pos (by decide))
  have p2 : 0 < (bothM x z).2 := Nat.mul_pos hz (Nat.pow_pos (by decide))
  unfold totO
  rw [h1]
  dsimp only
  rw [h2]
  obtain ⟨a, ha⟩ : ∃ a, a = (bothM x z).1 := ⟨_, rfl⟩
  obtain ⟨b, hb⟩ : ∃ b, b = (bothM x z).2 := ⟨_, rfl⟩
  rw [← ha] at p1
  rw [← hb] at p2
  rw [← ha, ← hb]
  by_cases cs : x.s = z.s
  · rw [if_pos cs, if_pos cs]
    exact .inr ⟨_, _, a + b, j, by omega, rfl, by rw [Nat.add_mul]⟩
  · rw [if_neg cs, if_neg cs]
    by_cases ce : a = b
    · rw [if_pos (by rw [ce]), if_pos ce]; exact .inl ⟨rfl, rfl⟩
    · rw [if_neg (fun c => ce (Nat.eq_of_mul_eq_mul_right hp c)), if_neg ce]
      by_cases cl : b < a
      · rw [if_pos (Nat.mul_lt_mul_of_pos_right cl hp), if_pos cl]
        exact .inr ⟨_, _, a - b, j, by omega, rfl, by rw [Nat.sub_mul]⟩
      · rw [if_neg (fun c => cl (Nat.lt_of_mul_lt_mul_right c)), if_neg cl]
        exact .inr ⟨_, _, b - a, j, by omega, rfl, by rw [Nat.sub_mul]⟩

theorem PackIs.scaled {p mn mx one inf sg nan mode s e : Int} {M j : Nat} {Z fl : Int} (hM : 0 < M) (h : PackIs p mn mx one inf sg nan mode ⟨1, s, e, M⟩ Z fl) : PackIs p mn mx one inf sg nan mode ⟨1, s, e - j, M * 2 ^ j⟩ Z fl := by
  rcases h with ⟨c, _⟩ | ⟨_, z, hz, hw⟩ | ⟨c, _⟩ | ⟨c, _⟩ | ⟨c, _⟩
  · cases c
  · exact .inr (.inl ⟨rfl, z, (RoundIs.scale j hM).2 hz, hw⟩)
  · cases c
  · cases c
  · cases c

/-- What is packed is told by class and sign alone where there are no digits. -/
theorem PackIs.flat {p mn mx one inf sg nan mode : Int} {o o' : Opd} {Z fl : Int} (hc : o'.c = o.c) (hs : o'.s = o.s) (h0 : o.c = 0) (h : PackIs p mn mx one inf sg nan mode o Z fl) : PackIs p mn mx one inf sg nan mode o' Z fl := by
  rcases h with ⟨c, hw, hf⟩ | ⟨c, _⟩ | ⟨c, _⟩ | ⟨c, _⟩ | ⟨c, _⟩
  · exact .inl ⟨by omega, by rw [hs]; exact hw, hf⟩
  · exfalso; omega
  · exfalso; omega
  · exfalso; omega
  · exfalso; omega

/-- Times 1. -/
theorem sum_one {p mn mx one inf sg nan mode : Int} {x z : Opd} (hx : VO x) (hz : VO z) (cx : x.c ≤ 1) (cz : z.c ≤ 1) (P : Nat) {Z fl : Int} (h : PackIs p mn mx one inf sg nan mode (sumO mode x z) Z fl) :
    PackIs p mn mx one inf sg nan mode (sumO mode (prodO x ⟨1, 0, -(P : Int), 2 ^ P⟩) z) Z fl := by
  have x0 := hx.c0
  have z0 := hz.c0
  have hms : mulS x.s 0 = x.s := by rcases hx.s01 with c | c <;> rw [c] <;> decide
  rcases (show x.c = 0 ∨ x.c = 1 by omega) with c | c
  · have hpr : prodO x ⟨1, 0, -(P : Int), 2 ^ P⟩ = ⟨0, x.s, x.e + -(P : Int), 0⟩ := by
      unfold prodO; dsimp only
      rw [c, if_neg (by decide), if_neg (by decide), if_pos (by decide), hms]
    rw [hpr]
    unfold sumO at h ⊢
    dsimp only at h ⊢
    rw [c] at h
    rcases (show z.c = 0 ∨ z.c = 1 by omega) with d | d
    · rw [d] at h ⊢
      rw [if_neg (by decide), if_neg (by decide), if_neg (by decide), if_neg (by decide)] at h ⊢
      by_cases cs : x.s = z.s
      · rw [if_pos cs] at h ⊢
        exact PackIs.flat (o := x) (show (0 : Int) = x.c from c.symm) rfl c h
      · rw [if_neg cs] at h ⊢
        exact h
    · rw [d] at h ⊢
      rw [if_neg (by decide), if_neg (by decide), if_pos (by decide)] at h ⊢
      exact h
  · have hpr : prodO x ⟨1, 0, -(P : Int), 2 ^ P⟩ = ⟨x.c, x.s, x.e - P, x.M * 2 ^ P⟩ := by
      unfold prodO; dsimp only
      rw [c, if_neg (by decide), if_neg (by decide), if_neg (by decide), if_neg (by decide), hms]
      rfl
    rw [hpr]
    have hM := (hx.fin c).1
    unfold sumO at h ⊢
    dsimp only at h ⊢
    rcases (show z.c = 0 ∨ z.c = 1 by omega) with d | d
    · rw [c, d] at h ⊢
      rw [if_neg (by decide), if_pos (by decide)] at h ⊢
      obtain ⟨xc, xs, xe, xM⟩ := x
      dsimp only at *
      subst c
      exact h.scaled hM
    · have hzM := (hz.fin d).1
      have hh : PackIs p mn mx one inf sg nan mode (totO mode x z) Z fl := by
        rw [c, d, if_neg (by decide), if_neg (by decide), if_neg (by decide), if_pos rfl] at h
        exact h
      rcases totO_scale mode x z P hM hzM with ⟨e1, e2⟩ | ⟨s, e, M, j, hpos, e1, e2⟩
      · rw [c] at e1
        rw [c, d, if_neg (by decide), if_neg (by decide), if_neg (by decide), if_pos rfl, e1]
        rw [e2] at hh; exact hh
      · rw [c] at e2
        rw [c, d, if_neg (by decide), if_neg (by decide), if_neg (by decide), if_pos rfl, e2]
        rw [e1] at hh; exact hh.scaled hpos

/-- Plus a zero of the product's sign. -/
theorem prod_zero (mode : Int) {x y : Opd} (hx : VO x) (hy : VO y) (cx : x.c ≤ 1) (cy : y.c ≤ 1) : sumO mode (prodO x y) ⟨0, mulS x.s y.s, 0, 0⟩ = prodO x y := by
  have x0 := hx.c0
  have y0 := hy.c0
  have hp : (prodO x y).c = 0 ∧ (prodO x y).s = mulS x.s y.s ∨ (prodO x y).c = 1 := by
    unfold prodO
    rw [if_neg (by omega), if_neg (by omega)]
    by_cases c : min x.c y.c = 0
    · rw [if_pos c]; exact .inl ⟨rfl, rfl⟩
    · rw [if_neg c, if_neg (by omega)]; exact .inr rfl
  unfold sumO
  dsimp only
  rcases hp with ⟨c, s⟩ | c
  · rw [c, if_neg (by decide), if_neg (by decide), if_neg (by decide), if_neg (by decide), if_pos s]
  · rw [c, if_neg (by decide), if_pos (by decide)]

/-- The word of 1. -/
theorem one_word {f p mx one inf sg nan : Int} (h : IsFmt f p mx one inf sg nan) : ∃ (o : Int) (P : Nat), 0 ≤ o ∧ o < 18446744073709551616 ∧ PackIs p (1 - mx) mx one inf sg nan 0 ⟨1, 0, 0, 1⟩ o 0 ∧ OpdIs p mx one inf sg nan o ⟨1, 0, -(P : Int), 2 ^ P⟩ := by
  rcases h with ⟨rfl, rfl, rfl, rfl, rfl, rfl, rfl⟩ | ⟨rfl, rfl, rfl, rfl, rfl, rfl, rfl⟩
  · refine ⟨1065353216, 23, by decide, by decide, .inr (.inl ⟨rfl, 1065353216, ⟨0, 0, 8388608, 8388608, 0, by decide, .inr ⟨by decide, rfl⟩, by decide, by decide, by decide, .inr (.inr ⟨by decide, by decide, by decide, .inl ⟨rfl, rfl⟩⟩)⟩, by decide⟩), .inl ⟨by decide, 1065353216, .inl ⟨rfl, rfl, by decide⟩, .inr (.inr (.inr (.inr ⟨by decide, by decide, rfl, 0, 8388608, -23, .inr ⟨by decide, by decide, by decide⟩, by decide, by decide, by decide, by decide⟩)))⟩⟩
  · refine ⟨4607182418800017408, 52, by decide, by decide, .inr (.inl ⟨rfl, 4607182418800017408, ⟨0, 0, 4503599627370496, 4503599627370496, 0, by decide, .inr ⟨by decide, rfl⟩, by decide, by decide, by decide, .inr (.inr ⟨by decide, by decide, by decide, .inl ⟨rfl, rfl⟩⟩)⟩, by decide⟩), .inl ⟨by decide, 4607182418800017408, .inl ⟨rfl, rfl, by decide⟩, .inr (.inr (.inr (.inr ⟨by decide, by decide, rfl, 0, 4503599627370496, -52, .inr ⟨by decide, by decide, by decide⟩, by decide, by decide, by decide, by decide⟩)))⟩⟩

theorem fused (f m u v t : Int) (u0 : 0 ≤ u) (u1 : u < 18446744073709551616) (v0 : 0 ≤ v) (v1 : v < 18446744073709551616) (t0 : 0 ≤ t) (t1 : t < 18446744073709551616) (w : World) (hw : Fm w) :
    ∃ Z fl b1 b2 b3, FuA f m u v t Z fl b1 b2 b3 w ∧ (b1 = true → b2 = true → b3 = true → 0 ≤ m → m ≤ 4 → ∃ o Z1 f1 Z2 f2 cu su xu gu cv sv xv gv mz y, FuB f m u v t o Z1 f1 Z2 f2 cu su xu gu cv sv xv gv mz y w) := by
  obtain ⟨Z, fl, hR, hs, hi⟩ := fma_same f m u v t u0 u1 v0 v1 t0 t1
  obtain ⟨cu, hcu, du⟩ := class_of f u u0 u1
  obtain ⟨cv, hcv, dv⟩ := class_of f v v0 v1
  obtain ⟨ct, hct, dt⟩ := class_of f t t0 t1
  refine ⟨Z, fl, decide (cu ≤ 1), decide (cv ≤ 1), decide (ct ≤ 1), ⟨fun w' g => hi w' (hw.gb g), hs, fun w' => wReal_any f u cu _ rfl hcu w', fun w' => wReal_any f v cv _ rfl hcv w', fun w' => wReal_any f t ct _ rfl hct w'⟩, fun e1 e2 e3 m0 m4 => ?_⟩
  have c1 : cu ≤ 1 := of_decide_eq_true e1
  have c2 : cv ≤ 1 := of_decide_eq_true e2
  have c3 : ct ≤ 1 := of_decide_eq_true e3
  obtain ⟨p, mx, one, inf, sg, nan, x, hF, fu, hx, rfl⟩ := du.resolve_left (by omega)
  obtain ⟨p', mx', one', inf', sg', nan', y, hF', fv, hy, rfl⟩ := dv.resolve_left (by omega)
  obtain ⟨rfl, rfl, rfl, rfl, rfl, rfl⟩ := hF.one hF'
  obtain ⟨p', mx', one', inf', sg', nan', z, hF', ft, hz, rfl⟩ := dt.resolve_left (by omega)
  obtain ⟨rfl, rfl, rfl, rfl, rfl, rfl⟩ := hF.one hF'
  have hb := hF.bounds
  have hmz := mz_sg hF
  obtain ⟨vx, _⟩ := opd_vo hF hx
  obtain ⟨vy, _⟩ := opd_vo hF hy
  obtain ⟨vz, _⟩ := opd_vo hF hz
  obtain ⟨o, P, o0, o1, hpo, hoo⟩ := one_word hF
  obtain ⟨Z1, f1, hR1, _, hi1⟩ := add_same f m u t u0 u1 t0 t1
  obtain ⟨Z2, f2, hR2, _, hi2⟩ := mul_same f m u v u0 u1 v0 v1
  obtain ⟨Z3, f3, hR3, _, hi3⟩ := fma_same f m u o t u0 u1 o0 o1 t0 t1
  have k1 : FmaR f m u o t Z1 f1 := by
    rcases hR1 with ⟨p1, mx1, one1, inf1, sg1, nan1, x1, z1, hF1, hm1, hx1, hz1, hp1⟩ | ⟨p1, mx1, one1, inf1, sg1, nan1, hF1, hm1, _, _⟩ | ⟨hn, _, _⟩
    · obtain ⟨rfl, rfl, rfl, rfl, rfl, rfl⟩ := hF.one hF1
      obtain rfl := hx.one hF hx1
      obtain rfl := hz.one hF hz1
      exact .inl ⟨_, _, _, _, _, _, x, _, z, hF, hm1, hx, hoo, hz, sum_one vx vz c1 c3 P hp1⟩
    · exfalso; omega
    · exact absurd hF.yes.symm (by simp [hn])
  obtain ⟨rfl, rfl⟩ := FmaR.one k1 hR3
  obtain ⟨yw, hyw, hyo, y0, y1⟩ : ∃ yw : Int, (x.s = y.s ∧ yw = 0 ∨ (x.s == y.s) = false ∧ yw = mz f) ∧ OpdIs p mx one inf sg nan yw ⟨0, mulS x.s y.s, 0, 0⟩ ∧ 0 ≤ yw ∧ yw < 18446744073709551616 := by
    by_cases cs : x.s = y.s
    · refine ⟨0, .inl ⟨cs, rfl⟩, .inl ⟨by omega, 0, ?_, .inl ⟨rfl, rfl, rfl, rfl⟩⟩, by omega, by omega⟩
      exact .inl ⟨by unfold mulS; rw [if_pos cs], rfl, by omega⟩
    · refine ⟨mz f, .inr ⟨by simp [cs], rfl⟩, .inl ⟨by omega, 0, ?_, .inl ⟨rfl, rfl, rfl, rfl⟩⟩, by omega, by omega⟩
      exact .inr ⟨by unfold mulS; rw [if_neg cs], by omega, by omega⟩
  obtain ⟨Z4, f4, hR4, _, hi4⟩ := fma_same f m u v yw u0 u1 v0 v1 y0 y1
  have k2 : FmaR f m u v yw Z2 f2 := by
    rcases hR2 with ⟨p1, mx1, one1, inf1, sg1, nan1, x1, y1', hF1, hm1, hx1, hy1, hp1⟩ | ⟨p1, mx1, one1, inf1, sg1, nan1, hF1, hm1, _, _⟩ | ⟨hn, _, _⟩
    · obtain ⟨rfl, rfl, rfl, rfl, rfl, rfl⟩ := hF.one hF1
      obtain rfl := hx.one hF hx1
      obtain rfl := hy.one hF hy1
      refine .inl ⟨_, _, _, _, _, _, x, y, _, hF, hm1, hx, hy, hyo, ?_⟩
      unfold fmaO
      rw [prod_zero m vx vy c1 c2]
      exact hp1
    · exfalso; omega
    · exact absurd hF.yes.symm (by simp [hn])
  obtain ⟨rfl, rfl⟩ := FmaR.one k2 hR4
  refine ⟨o, Z1, f1, Z2, f2, x.c, x.s, x.e, x.M, y.c, y.s, y.e, y.M, mz f, yw, ⟨fun w' => ?_, fun w' g => hi3 w' (hw.gb g), fun w' g => hi1 w' (hw.gb g), (unp_det hF u u0 fu hx).out, (unp_det hF v v0 fv hy).out, fun w' => wMinus_any f w', fun w' g => hi4 w' (hw.gb g), fun w' g => hi2 w' (hw.gb g), hyw⟩⟩
  refine (wOne_of hF w').mono ?_
  rintro e w'' ⟨z', fl', hp, rfl, hg⟩
  obtain ⟨rfl, _⟩ := PackIs.one hp hpo
  exact ⟨rfl, hg⟩

theorem lawFused (a : Option Addr) (len cap : Nat) (w : World) (hC : CodeRow w a len) (hw : Fm w) :
    Calls Tryz.prog 5 #[.slice a len cap] w fun e w' => e = .returned (.bool true) ∧ Gb w w' := by
  refine fused_head a len cap w hC (fun w' g => ?_) (fun f m u v t u0 u1 v0 v1 t0 t1 => fused f m u v t u0 u1 v0 v1 t0 t1 w hw)
  refine drawFma_any a len cap w' (hC.gb g) (fun f mode a b a0 a1 b0 b1 => ?_) (fun f p mx one inf sg nan a b hF a0 a1 b0 b1 => ?_)
  · by_cases hf : f = 0 ∨ f = 1
    · obtain ⟨p, mx, one, inf, sg, nan, hF⟩ := fmt_of f hf
      by_cases hm : 0 ≤ mode ∧ mode ≤ 4
      · by_cases hfit : a < 2 * sg ∧ b < 2 * sg
        · exact .inl ⟨p, mx, one, inf, sg, nan, hF, fun w => l3Fits_yes hF mode a b hm.1 hm.2 a0 hfit.1 b0 hfit.2 w⟩
        · exact .inr (fun w => l3Fits_no f mode a b a0 a1 b0 b1 (nofit_of hF a1 b1 (by omega)) w)
      · exact .inr (fun w => l3Fits_no f mode a b a0 a1 b0 b1 (.inl (by omega)) w)
    · exact .inr (fun w => l3Fits_no f mode a b a0 a1 b0 b1 (.inr (.inl hf)) w)
  · obtain ⟨Z, fl, hR, hs, _⟩ := mul_same f 0 a b a0 a1 b0 b1
    have hZ : 0 ≤ Z ∧ Z < 2 * sg := by
      have hb := hF.bounds
      rcases hR with ⟨p1, mx1, one1, inf1, sg1, nan1, x1, y1, hF1, hm1, hx1, hy1, hp1⟩ | ⟨p1, mx1, one1, inf1, sg1, nan1, hF1, _, rfl, _⟩ | ⟨hn, _, _⟩
      · obtain ⟨rfl, rfl, rfl, rfl, rfl, rfl⟩ := hF.one hF1
        exact pack_bounds hF (prodO_ss x1 y1) hp1
      · obtain ⟨rfl, rfl, rfl, rfl, rfl, rfl⟩ := hF.one hF1
        omega
      · exact absurd hF.yes.symm (by simp [hn])
    exact ⟨Z, fl, hZ.1, hZ.2, hs⟩
end Go.Proofs.YtkflpogmhailhaaGreatDoor
