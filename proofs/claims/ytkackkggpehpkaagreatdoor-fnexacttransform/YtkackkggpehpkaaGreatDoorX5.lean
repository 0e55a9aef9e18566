/- impl.walk, forth. -/
import Derived.Test.YtkackkggpehpkaaGreatDoorX4
import Derived.Test.YtkackkggpehpkaaGreatDoorX2
import Derived.Deep.DeepCutAuto
import Derived.Deep.Cut
import Derived.Test.YtkackkggpehpkaaGreatDoorX3
set_option linter.unusedVariables false
set_option linter.unusedSimpArgs false
set_option maxHeartbeats 40000000
namespace Go.Proofs.YtkackkggpehpkaaGreatDoor
open Go.RowKit

/-- What impl.walk answers, forth. -/
def WalkT (o : Ops) (k : Nat) : Prop := ∀ (K : Int) (w : World) (v cv : Value) (n : Nat) (cs : Nat → Int), K = (k : Int) → Fm w → Rd w .u64 v (2 ^ k) (2 ^ k) cs → (∀ j, Wd (cs j)) → CR o w cv n → k < n → n ≤ 7 →
 Calls Tryz.prog 92 #[.int .i64 K, v, .func (.func 93) #[] #[], .func (.func 94) #[] #[], .func (.func 95) #[cv] #[]] w fun e w' => ∃ v', e = .returned v' ∧ Ow w' w.heap.size 54 2 .u64 v' (2 ^ (k - 1)) (flat (o.tr k cs)) ∧ Gb w w'

set_option maxRecDepth 1000000 in
theorem walkT_one (o : Ops) : WalkT o 1 := by
 intro K w v cv n cs hK hw hr hcs hc hk hn
 have HV : Hid (Calls Tryz.prog 94 #[v] w fun e w' => ∃ v', e = .returned v' ∧ Ow w' w.heap.size 54 2 .u64 v' 1 (flat (o.tr 1 cs)) ∧ Gb w w') := valueOf_i hr
 obtain rfl : K = 1 := hK
 clear hw hr hcs hc hk hn
 go_enter Tryz.func92, Tryz.ntmps92
 go_wp2_with (go_at_call 94; refine HV.out.mono ?_; rintro e w1 ⟨v', rfl, ho1, hg_w1⟩)
 go_returns
 exact ⟨_, rfl, ho1, hg_w1⟩

set_option maxRecDepth 1000000 in
theorem walkT_more {o : Ops} (H : o.I) (HI : o.In) (k : Nat) (IH : WalkT o (k + 1)) : WalkT o (k + 2) := by
 intro K w v cv n cs hK hw hr hcs hc hk hn
 unfold WalkT at IH
 obtain ⟨K1, hK1⟩ : ∃ K1 : Int, K1 = ((k + 1 : Nat) : Int) := ⟨_, rfl⟩
 have uK : IntKind.i64.wrap (K - 1) = K1 := by rw [IntKind.wrap_i64]; omega
 obtain ⟨h, hh⟩ : ∃ h, h = 2 ^ (k + 1) := ⟨_, rfl⟩
 obtain ⟨L, hL⟩ : ∃ L, L = 2 ^ (k + 2) := ⟨_, rfl⟩
 have h2 : L = h + h := by rw [hL, hh, Nat.pow_succ]; omega
 have hmax : h ≤ 64 := by
  rw [hh]
  have := Nat.pow_le_pow_right (show 0 < 2 by decide) (show k + 1 ≤ 6 by omega)
  omega
 have hpos : 0 < h := by rw [hh]; exact Nat.pow_pos (by decide)
 rw [← hL] at hr
 obtain ⟨bx, cx, rfl, hx1, hx2, hxc⟩ := hr.at (by omega)
 have HX : Hid _ := hxc
 have HC : Hid _ := hc
 have HF : Hid _ := hw
 have HH : Hid _ := hh
 have hmk : ∀ w, (Instr.makeSlice 27 (.int .i64 (h : Int)) (.int .i64 (h : Int))).run Tryz.prog w = .ok (.slice (some ⟨w.heap.size, 0, none⟩) h h) (w.alloc (.cells (madeCells #[.int .u64 0] (h * 1)) 49)) := fun w => make_run 27 49 (.int .u64 0) 1 8 Tryz.underlying27 infoU (by decide) h (by omega) w
 have hdiv2 : (L : Int) / 2 = (h : Int) := by omega
 have HMd : Hid (∀ w : World, Ow (w.alloc (.cells (madeCells #[.int .u64 0] h) 49)) w.heap.size 49 1 .u64 (.slice (some ⟨w.heap.size, 0, none⟩) h h) h (fun _ => 0)) := fun w => by have := Ow.made w 49 1 #[.int .u64 0] .u64 (Go.Proofs.YtkackkggpehpkaaGreatDoor.z1 _) h (by omega); rw [Nat.mul_one] at this; exact this
 have HM2 : Hid (∀ (w : World) (ob : Obj), Ow ((w.alloc ob).alloc (.cells (madeCells #[.int .u64 0] h) 49)) w.heap.size 49 1 .u64 (.slice (some ⟨w.heap.size + 1, 0, none⟩) h h) h (fun _ => 0)) := fun w ob => by have := HMd.out (w.alloc ob); rw [World.size_alloc] at this; exact this.mono (by omega)
 have k3 : (K == 1) = false := by simp; omega
 have HK1 : Hid _ := hK1
 have HK : Hid _ := hK
 clear hK1 hK
 have HL2 : Hid _ := h2
 have hL128 : L ≤ 128 := by omega
 clear hr hxc hc hw hh hL h2
 go_enter Tryz.func92, Tryz.ntmps92
 go_wp2
 go_cut [11, 12] (fun f s wx => ∃ b1 b2 : Nat, f = .slice (some ⟨b1, 0, none⟩) h h ∧ s = .slice (some ⟨b2, 0, none⟩) h h ∧ b1 ≠ b2 ∧ Ow wx w.heap.size 49 1 .u64 (.slice (some ⟨b1, 0, none⟩) h h) h (fun _ => 0) ∧ Ow wx w.heap.size 49 1 .u64 (.slice (some ⟨b2, 0, none⟩) h h) h (fun _ => 0) ∧ Gb w wx)
 case first =>
  go_region
  all_goals (go_wp2; go_meet)
  ·exact ⟨_, _, rfl, rfl, by omega, Ow.drew (Ow.alloc (HMd.out w) _), Ow.drew (HM2.out w _), kg⟩
  ·exact ⟨_, _, rfl, rfl, by omega, Ow.drew (HM2.out w _), Ow.drew (Ow.alloc (HMd.out w) _), kg⟩
 case rest =>
  obtain ⟨b1, b2, rfl, rfl, hne, ho1, ho2, hgc⟩ := hcut
  have HO1 : Hid _ := ho1
  have HO2 : Hid _ := ho2
  clear ho1 ho2
  go_wp2
  go_loopw [33] (fun i wr => ∃ j : Nat, j ≤ h ∧ i = .int .i64 j ∧ Ow wr w.heap.size 49 1 .u64 (.slice (some ⟨b1, 0, none⟩) h h) h (fun q => if q < j then cs (2 * q) else 0) ∧ Ow wr w.heap.size 49 1 .u64 (.slice (some ⟨b2, 0, none⟩) h h) h (fun q => if q < j then cs (2 * q + 1) else 0) ∧ Gb w wr) (fun i _ => h - (intOf i).toNat)
  case atStart => exact ⟨0, Nat.zero_le _, rfl, Ow.congr HO1.out (fun q hq => by rw [if_neg (by omega)]), Ow.congr HO2.out (fun q hq => by rw [if_neg (by omega)]), hgc⟩
  case round =>
   obtain ⟨j, hj, rfl, ho1, ho2, hgb⟩ := hrel
   have HP1 : Hid _ := ho1
   have HP2 : Hid _ := ho2
   by_cases hlt : j < h
   ·have hlt' : (j : Int) < (h : Int) := by omega
    obtain ⟨b1', cap1, e1, hb1, _, _, _, hc1⟩ := ho1.at hpos
    obtain ⟨b2', cap2, e2, hb2, _, _, _, hc2⟩ := ho2.at hpos
    simp only [Value.slice.injEq, Option.some.injEq, Addr.mk.injEq, and_true, true_and] at e1 e2
    obtain ⟨rfl, rfl⟩ := e1
    obtain ⟨rfl, rfl⟩ := e2
    obtain ⟨c1, z1⟩ := hc1 j (by omega)
    obtain ⟨c2, z2⟩ := hc2 j (by omega)
    rw [if_neg (by omega)] at c1 c2
    obtain ⟨J0, hJ0⟩ : ∃ J0 : Nat, J0 = 2 * j := ⟨_, rfl⟩
    obtain ⟨J1, hJ1⟩ : ∃ J1 : Nat, J1 = 2 * j + 1 := ⟨_, rfl⟩
    obtain ⟨x, hx⟩ : ∃ x, cs (2 * j) = x := ⟨_, rfl⟩
    obtain ⟨y, hy⟩ : ∃ y, cs (2 * j + 1) = y := ⟨_, rfl⟩
    have x0 : wr.cell? ⟨bx, J0, none⟩ = some (.int .u64 x) := by rw [hJ0, ← hx]; exact hgb.old (HX.out _ (by have := HL2.out; omega))
    have x1 : wr.cell? ⟨bx, J1, none⟩ = some (.int .u64 y) := by rw [hJ1, ← hy]; exact hgb.old (HX.out _ (by have := HL2.out; omega))
    have hbx := cell_size (HX.out 0 (by have := HL2.out; omega))
    have u0 : IntKind.i64.wrap (2 * (j : Int)) = (J0 : Int) := by rw [IntKind.wrap_i64]; omega
    have u1 : IntKind.i64.wrap ((J0 : Int) + 1) = (J1 : Int) := by rw [IntKind.wrap_i64]; omega
    have i0 : (J0 : Int) < (L : Int) := by have := HL2.out; omega
    have i1 : (J1 : Int) < (L : Int) := by have := HL2.out; omega
    have HJ0 : Hid _ := hJ0
    have HJ1 : Hid _ := hJ1
    have Hx : Hid _ := hx
    have Hy : Hid _ := hy
    clear hJ0 hJ1 hx hy
    clear ho1 ho2 hc1 hc2
    go_wp2
    go_region_held3 (fun w' => w'.cell? ⟨bx, J0, none⟩ = some (.int .u64 x) ∧ w'.cell? ⟨bx, J1, none⟩ = some (.int .u64 y))
     ((go_split_ands; (repeat' apply And.intro) <;> exact kh))
     (first
      | (go_at_call 93; refine kw (kept_i _ _ _) ?_)
      | (go_at_call 135; refine kw (kept1_i _ _ _) ?_))
    all_goals
     go_wp2
     go_roundw
     case rel =>
      refine ⟨j + 1, by omega, by go_num, ?_, ?_, kg⟩
      ·refine Ow.drew (Ow.other (Ow.congr (Ow.store HP1.out j x) (fun q hq => ?_)) (fun e => hne e.symm) _)
       by_cases e1 : q = j
       ·rw [if_pos e1, if_pos (by omega), e1, Hx.out]
       ·by_cases e2 : q < j
        ·rw [if_neg e1, if_pos e2, if_pos (by omega)]
        ·rw [if_neg e1, if_neg e2, if_neg (by omega)]
      ·refine Ow.drew (Ow.congr (Ow.store (Ow.other HP2.out (fun e => hne e) _) j y) (fun q hq => ?_))
       by_cases e1 : q = j
       ·rw [if_pos e1, if_pos (by omega), e1, Hy.out]
       ·by_cases e2 : q < j
        ·rw [if_neg e1, if_pos e2, if_pos (by omega)]
        ·rw [if_neg e1, if_neg e2, if_neg (by omega)]
     case measure => simp [intOf] <;> omega
   ·obtain rfl : j = h := by omega
    have hjm' : ¬ (j : Int) < (j : Int) := by omega
    rename World => W
    have hS : ∀ w', Gb W w' → Fm w' := fun w' hg => Fm.gb HF.out (hgb.trans hg)
    have r1 : Rd W .u64 (.slice (some ⟨b1, 0, none⟩) j j) (2 ^ (k + 1)) (2 ^ (k + 1)) (fun m => cs (2 * m)) := by
     rw [← HH.out]
     have := Ow.rd HP1.out
     rw [Nat.mul_one] at this
     exact this.congr (fun q hq => by rw [if_pos hq])
    have r2 : Rd W .u64 (.slice (some ⟨b2, 0, none⟩) j j) (2 ^ (k + 1)) (2 ^ (k + 1)) (fun m => cs (2 * m + 1)) := by
     rw [← HH.out]
     have := Ow.rd HP2.out
     rw [Nat.mul_one] at this
     exact this.congr (fun q hq => by rw [if_pos hq])
    obtain ⟨m, hm⟩ : ∃ m, m = 2 ^ k := ⟨_, rfl⟩
    have hm1 : 0 < m := by rw [hm]; exact Nat.pow_pos (by decide)
    have hmj : j = 2 * m := by rw [HH.out, hm, Nat.pow_succ]; omega
    have HA : Hid (Calls Tryz.prog 92 #[.int .i64 K1, .slice (some ⟨b1, 0, none⟩) j j, .func (.func 93) #[] #[], .func (.func 94) #[] #[], .func (.func 95) #[cv] #[]] W fun e w' => ∃ b cap, e = .returned (.slice (some ⟨b, 0, none⟩) m cap) ∧ b < w'.heap.size ∧ (∀ q, q < m * 2 → w'.cell? ⟨b, q, none⟩ = some (.int .u64 (flat (o.tr (k + 1) (fun m => cs (2 * m))) q))) ∧ Gb W w') := by
     show Calls _ _ _ _ _
     refine (IH K1 W _ cv n _ HK1.out (hS _ (Gb.refl _)) r1 (fun _ => hcs _) (CR.gb HC.out hgb) (by omega) hn).mono fun e w'' ⟨v, e1, e2, e3⟩ => ?_
     rw [show k + 1 - 1 = k by omega, ← hm] at e2
     obtain ⟨b, cap, rfl, c1, c2, _, _, c3⟩ := e2.at hm1
     exact ⟨b, cap, e1, c2, fun j hj => (c3 j hj).1, e3⟩
    have HB : Hid (∀ W2, Gb W W2 → Calls Tryz.prog 92 #[.int .i64 K1, .slice (some ⟨b2, 0, none⟩) j j, .func (.func 93) #[] #[], .func (.func 94) #[] #[], .func (.func 95) #[cv] #[]] W2 fun e w' => ∃ b cap, e = .returned (.slice (some ⟨b, 0, none⟩) m cap) ∧ b < w'.heap.size ∧ (∀ q, q < m * 2 → w'.cell? ⟨b, q, none⟩ = some (.int .u64 (flat (o.tr (k + 1) (fun m => cs (2 * m + 1))) q))) ∧ Gb W2 w') := by
     intro W2 hg2
     refine (IH K1 W2 _ cv n _ HK1.out (hS _ hg2) (r2.gb hg2) (fun _ => hcs _) ((CR.gb HC.out hgb).gb hg2) (by omega) hn).mono fun e w'' ⟨v, e1, e2, e3⟩ => ?_
     rw [show k + 1 - 1 = k by omega, ← hm] at e2
     obtain ⟨b, cap, rfl, c1, c2, _, _, c3⟩ := e2.at hm1
     exact ⟨b, cap, e1, c2, fun j hj => (c3 j hj).1, e3⟩
    obtain ⟨M2, hM2⟩ : ∃ M2 : Nat, M2 = 2 * m := ⟨_, rfl⟩
    have u2 : IntKind.i64.wrap (2 * (m : Int)) = (M2 : Int) := by rw [IntKind.wrap_i64]; omega
    have hmk2 : ∀ w, (Instr.makeSlice 22 (.int .i64 (M2 : Int)) (.int .i64 (M2 : Int))).run Tryz.prog w = .ok (.slice (some ⟨w.heap.size, 0, none⟩) M2 M2) (w.alloc (.cells (madeCells #[.int .u64 0, .int .u64 0] (M2 * 2)) 54)) := fun w => make_run 22 54 (.agg #[.int .u64 0, .int .u64 0]) 2 16 Tryz.underlying22 infoC (by decide) M2 (by omega) w
    have HM3 : Hid (∀ w : World, Ow (w.alloc (.cells (madeCells #[.int .u64 0, .int .u64 0] (M2 * 2)) 54)) w.heap.size 54 2 .u64 (.slice (some ⟨w.heap.size, 0, none⟩) M2 M2) M2 (fun _ => 0)) := fun w => Ow.made w 54 2 #[.int .u64 0, .int .u64 0] .u64 (z2 _) M2 (by omega)
    have HMj : Hid _ := hmj
    have HM : Hid _ := hm
    have HM2' : Hid _ := hM2
    have HGB : Hid _ := hgb
    have HCS : Hid _ := hcs
    have HSS : Hid _ := hS
    have hm64 : m ≤ 64 := by omega
    have hM128 : M2 ≤ 128 := by omega
    clear hmj hm hM2 ho1 ho2 r1 r2 HM2 HMd hmk hdiv2 hgb IH hcs hS
    go_wp2_with (first
     | (go_at_call 92; first | (with_reducible refine HA.out.mono ?_; rintro e w2 ⟨ba, ca, rfl, hba, hca, hg_w2⟩) | (go_loud (with_reducible refine (HB.out _ hg_w2).mono ?_); rintro e w3 ⟨bb, cb, rfl, hbb, hcb, hg_w3⟩; have HCA : Hid _ := hca; have HCB : Hid _ := hcb; clear hca hcb)))
    have hgW3 : Gb W w3 := hg_w2.trans hg_w3
    have hsz3 := hgW3.size
    have hszw := (HGB.out : Gb w W).size
    have hAB : Gb w2 w3 := hg_w3
    go_loopw [82] (fun i wr => ∃ j' : Nat, j' ≤ m ∧ i = .int .i64 j' ∧ Ow wr w3.heap.size 54 2 .u64 (.slice (some ⟨w3.heap.size, 0, none⟩) M2 M2) M2 (fun q => if q < 4 * j' then flat (o.tr (k + 2) cs) q else 0) ∧ Gb w3 wr) (fun i _ => m - (intOf i).toNat)
    case atStart => exact ⟨0, Nat.zero_le _, rfl, Ow.congr (HM3.out w3) (fun q hq => by rw [if_neg (by omega)]), kg⟩
    case round =>
     obtain ⟨i, hi, rfl, hof, hg3⟩ := hrel
     have HFo : Hid _ := hof
     by_cases hlt : i < m
     ·have hlt' : (i : Int) < (m : Int) := by omega
      obtain ⟨b', cap', e, _, _, _, _, hcz⟩ := hof.at (by have := HM2'.out; omega)
      simp only [Value.slice.injEq, Option.some.injEq, Addr.mk.injEq, and_true, true_and] at e
      obtain ⟨rfl, rfl⟩ := e
      obtain ⟨J0, hJ0⟩ : ∃ J0 : Nat, J0 = 2 * i := ⟨_, rfl⟩
      obtain ⟨J1, hJ1⟩ : ∃ J1 : Nat, J1 = 2 * i + 1 := ⟨_, rfl⟩
      have hM2e := HM2'.out
      obtain ⟨c0, z0⟩ := hcz (J0 * 2) (by omega)
      obtain ⟨c1, z1⟩ := hcz (J0 * 2 + 1) (by omega)
      obtain ⟨c2, z2⟩ := hcz (J1 * 2) (by omega)
      obtain ⟨c3, z3⟩ := hcz (J1 * 2 + 1) (by omega)
      rw [if_neg (by omega)] at c0 c1 c2 c3
      obtain ⟨a1, ha1⟩ : ∃ a1, (o.tr (k + 1) (fun m => cs (2 * m)) i).1 = a1 := ⟨_, rfl⟩
      obtain ⟨a2, ha2⟩ : ∃ a2, (o.tr (k + 1) (fun m => cs (2 * m)) i).2 = a2 := ⟨_, rfl⟩
      obtain ⟨d1, hd1⟩ : ∃ d1, (o.tr (k + 1) (fun m => cs (2 * m + 1)) i).1 = d1 := ⟨_, rfl⟩
      obtain ⟨d2, hd2⟩ : ∃ d2, (o.tr (k + 1) (fun m => cs (2 * m + 1)) i).2 = d2 := ⟨_, rfl⟩
      have p0 : wr.cell? ⟨ba, i * 2, none⟩ = some (.int .u64 a1) := by rw [← ha1, ← flat_re, Nat.mul_comm]; exact hg3.old (hAB.old (HCA.out (2 * i) (by omega)))
      have p1 : wr.cell? ⟨ba, i * 2 + 1, none⟩ = some (.int .u64 a2) := by rw [← ha2, ← flat_im, Nat.mul_comm]; exact hg3.old (hAB.old (HCA.out (2 * i + 1) (by omega)))
      have p2 : wr.cell? ⟨bb, i * 2, none⟩ = some (.int .u64 d1) := by rw [← hd1, ← flat_re, Nat.mul_comm]; exact hg3.old (HCB.out (2 * i) (by omega))
      have p3 : wr.cell? ⟨bb, i * 2 + 1, none⟩ = some (.int .u64 d2) := by rw [← hd2, ← flat_im, Nat.mul_comm]; exact hg3.old (HCB.out (2 * i + 1) (by omega))
      have wE := HI.tr (k + 1) (fun m => cs (2 * m)) i (fun _ => HCS.out _)
      have wO := HI.tr (k + 1) (fun m => cs (2 * m + 1)) i (fun _ => HCS.out _)
      unfold WdC at wE wO
      rw [ha1, ha2] at wE
      rw [hd1, hd2] at wO
      obtain ⟨x, y, hxy⟩ : ∃ x y, o.rt (k + 2) (2 * i) = (x, y) := ⟨_, _, rfl⟩
      have wX := HI.rt (k + 2) (2 * i)
      rw [hxy] at wX
      have hgw3 : Gb w wr := Gb.trans (Gb.trans HGB.out hgW3) hg3
      have HSp : Hid (∀ w', Gb w w' → Calls Tryz.prog 95 #[cv, .int .i64 K, .int .i64 i] w' fun e w'' => e = .returned (.func (.func 136) #[.agg #[.int .u64 x, .int .u64 y]] #[]) ∧ w' = w'') := fun w' hg => by
       rw [show K = ((k + 2 : Nat) : Int) from HK.out]
       exact spreadOf_i (CR.gb HC.out hg) (k + 2) i (by omega) hk hn (by rw [show k + 2 - 1 = k + 1 by omega, Nat.pow_succ, ← HM.out]; omega) x y hxy
      obtain ⟨t, ht⟩ : ∃ t, o.cMul (x, y) (d1, d2) = t := ⟨_, rfl⟩
      have HSq : Hid (∀ w', Gb w w' → Calls Tryz.prog 136 #[.agg #[.int .u64 x, .int .u64 y], .agg #[.int .u64 a1, .int .u64 a2], .agg #[.int .u64 d1, .int .u64 d2]] w' fun e w'' => e = .returned (.tuple #[.agg #[.int .u64 (o.add a1 t.1), .int .u64 (o.add a2 t.2)], .agg #[.int .u64 (o.sub a1 t.1), .int .u64 (o.sub a2 t.2)]]) ∧ Gr w' w'') := fun w' hg => cspread_i H HI wX.1 wX.2 wE.1 wE.2 wO.1 wO.2 (Fm.gb HF.out hg) t ht
      have s0 : o.tr (k + 2) cs (2 * i) = (o.add a1 t.1, o.add a2 t.2) := by
       simp only [Ops.tr]
       rw [if_pos (by omega), show 2 * i / 2 = i by omega, hxy, show o.tr (k + 1) (fun m => cs (2 * m + 1)) i = (d1, d2) by rw [← hd1, ← hd2], ht]
       unfold Ops.cAdd
       rw [ha1, ha2]
      have s1 : o.tr (k + 2) cs (2 * i + 1) = (o.sub a1 t.1, o.sub a2 t.2) := by
       simp only [Ops.tr]
       rw [if_neg (by omega), show (2 * i + 1) / 2 = i by omega, hxy, show o.tr (k + 1) (fun m => cs (2 * m + 1)) i = (d1, d2) by rw [← hd1, ← hd2], ht]
       unfold Ops.cSub
       rw [ha1, ha2]
      obtain ⟨v0, hv0⟩ : ∃ v0, o.add a1 t.1 = v0 := ⟨_, rfl⟩
      obtain ⟨v1, hv1⟩ : ∃ v1, o.add a2 t.2 = v1 := ⟨_, rfl⟩
      obtain ⟨v2, hv2⟩ : ∃ v2, o.sub a1 t.1 = v2 := ⟨_, rfl⟩
      obtain ⟨v3, hv3⟩ : ∃ v3, o.sub a2 t.2 = v3 := ⟨_, rfl⟩
      rw [hv0, hv1] at s0
      rw [hv2, hv3] at s1
      rw [hv0, hv1, hv2, hv3] at HSq
      have f0 : Hid (flat (o.tr (k + 2) cs) (J0 * 2) = v0) := by show _ = _; rw [Nat.mul_comm, flat_re, hJ0, s0]
      have f1 : Hid (flat (o.tr (k + 2) cs) (J0 * 2 + 1) = v1) := by show _ = _; rw [Nat.mul_comm, flat_im, hJ0, s0]
      have f2 : Hid (flat (o.tr (k + 2) cs) (J1 * 2) = v2) := by show _ = _; rw [Nat.mul_comm, flat_re, hJ1, s1]
      have f3 : Hid (flat (o.tr (k + 2) cs) (J1 * 2 + 1) = v3) := by show _ = _; rw [Nat.mul_comm, flat_im, hJ1, s1]
      have u0 : IntKind.i64.wrap (2 * (i : Int)) = (J0 : Int) := by rw [IntKind.wrap_i64]; omega
      have u1 : IntKind.i64.wrap ((J0 : Int) + 1) = (J1 : Int) := by rw [IntKind.wrap_i64]; omega
      have i0 : (J0 : Int) < (M2 : Int) := by omega
      have i1 : (J1 : Int) < (M2 : Int) := by omega
      have HJ0 : Hid _ := hJ0
      have HJ1 : Hid _ := hJ1
      have n0 : ¬ J0 = J1 := by omega
      have n1 : ¬ J0 * 2 = J1 * 2 := by omega
      have n2 : ¬ J0 * 2 + 1 = J1 * 2 := by omega
      have n3 : ¬ J0 * 2 = J1 * 2 + 1 := by omega
      have n4 : ¬ J0 * 2 + 1 = J1 * 2 + 1 := by omega
      have hsb : ba < w3.heap.size := by have := hAB.size; omega
      have hszr := hg3.size
      clear hof hcz hJ0 hJ1 hM2e ha1 ha2 hd1 hd2 wE wO hxy wX ht s0 s1 hv0 hv1 hv2 hv3
      go_wp2
      go_region_held3 (fun w' => w'.cell? ⟨ba, i * 2, none⟩ = some (.int .u64 a1) ∧ w'.cell? ⟨ba, i * 2 + 1, none⟩ = some (.int .u64 a2) ∧ w'.cell? ⟨bb, i * 2, none⟩ = some (.int .u64 d1) ∧ w'.cell? ⟨bb, i * 2 + 1, none⟩ = some (.int .u64 d2))
       ((go_split_ands; (repeat' apply And.intro) <;> exact kh))
       (first
        | (go_at_call 95; refine kw (HSp.out _ kg) ?_)
        | (go_at_call 136; refine (HSq.out _ kg).mono ?_; rintro e w5 ⟨rfl, hg_w5⟩; have cc0 : w5.cell? ⟨w3.heap.size, J0 * 2, none⟩ = some (.int .u64 0) := hg_w5.c; have cz0 : w5.frozen? ⟨w3.heap.size, J0 * 2, none⟩ = false := hg_w5.z; have cc1 : w5.cell? ⟨w3.heap.size, J0 * 2 + 1, none⟩ = some (.int .u64 0) := hg_w5.c; have cz1 : w5.frozen? ⟨w3.heap.size, J0 * 2 + 1, none⟩ = false := hg_w5.z; have cc2 : w5.cell? ⟨w3.heap.size, J1 * 2, none⟩ = some (.int .u64 0) := hg_w5.c; have cz2 : w5.frozen? ⟨w3.heap.size, J1 * 2, none⟩ = false := hg_w5.z; have cc3 : w5.cell? ⟨w3.heap.size, J1 * 2 + 1, none⟩ = some (.int .u64 0) := hg_w5.c; have cz3 : w5.frozen? ⟨w3.heap.size, J1 * 2 + 1, none⟩ = false := hg_w5.z))
      all_goals
       go_wp2
       go_roundw
       case rel =>
        refine ⟨i + 1, by omega, by go_num, ?_, kg⟩
        refine Ow.congr (Ow.store (Ow.store (Ow.store (Ow.store (Ow.gb (Ow.drew HFo.out) hg_w5.gb) (J0 * 2) v0) (J0 * 2 + 1) v1) (J1 * 2) v2) (J1 * 2 + 1) v3) (fun q hq => ?_)
        have j0 := HJ0.out
        have j1 := HJ1.out
        by_cases e3 : q = J1 * 2 + 1
        ·rw [if_pos e3, if_pos (by omega), e3]; exact f3.out.symm
        ·by_cases e2 : q = J1 * 2
         ·rw [if_neg e3, if_pos e2, if_pos (by omega), e2]; exact f2.out.symm
         ·by_cases e1 : q = J0 * 2 + 1
          ·rw [if_neg e3, if_neg e2, if_pos e1, if_pos (by omega), e1]; exact f1.out.symm
          ·by_cases e0 : q = J0 * 2
           ·rw [if_neg e3, if_neg e2, if_neg e1, if_pos e0, if_pos (by omega), e0]; exact f0.out.symm
           ·by_cases e4 : q < 4 * i
            ·rw [if_neg e3, if_neg e2, if_neg e1, if_neg e0, if_pos e4, if_pos (by omega)]
            ·rw [if_neg e3, if_neg e2, if_neg e1, if_neg e0, if_neg e4, if_neg (by omega)]
       case measure => simp [intOf] <;> omega
     ·obtain rfl : i = m := by omega
      have hjm2 : ¬ (i : Int) < (i : Int) := by omega
      have eM : 2 ^ (k + 1) = M2 := by rw [Nat.pow_succ, ← HM.out, HM2'.out]; omega
      have hgw3 : Gb w wr := Gb.trans (Gb.trans HGB.out hgW3) hg3
      clear hof
      go_wp2
      go_returns
      refine ⟨_, rfl, ?_, hgw3⟩
      exact Ow.mono (Ow.congr HFo.out (fun q hq => by rw [if_pos (by have := HM2'.out; omega)])) (by omega)
theorem walkT_i {o : Ops} (H : o.I) (HI : o.In) : ∀ k : Nat, 1 ≤ k → WalkT o k
 | 0, h => absurd h (by omega)
 | 1, _ => walkT_one o
 | k + 2, _ => walkT_more H HI k (walkT_i H HI (k + 1) (by omega))
end Go.Proofs.YtkackkggpehpkaaGreatDoor

/- spec.Transform. -/
set_option linter.unusedVariables false
set_option linter.unusedSimpArgs false
set_option maxHeartbeats 40000000
namespace Go.Proofs.YtkackkggpehpkaaGreatDoor
open Go.RowKit

theorem Ow.nlt {w : World} {base : Nat} {t : TypeId} {size : Nat} {k : IntKind} {v : Value} {n : Nat} {g : Nat → Int} (h : Ow w base t size k v n g) {p : Nat} (hp : p < base) : v.ownBlock ≠ some p := fun e => by
 have := (World.ownsRow.lt h p e).1
 omega
/-- What spec.Transform answers. -/
def TransS (o : Ops) (k : Nat) : Prop := ∀ (K : Int) (w : World) (v : Value) (cs : Nat → Int), K = (k : Int) → Rd w .u64 v (2 ^ k) (2 ^ k) cs → (∀ j, Wd (cs j)) →
 Calls Tryz.prog 14 #[.int .i64 K, v] w fun e w' => ∃ v', e = .returned v' ∧ Ow w' w.heap.size 54 2 .u64 v' (2 ^ (k - 1)) (flat (o.tr k cs)) ∧ Gb w w'

set_option maxRecDepth 1000000 in
theorem transS_one (o : Ops) : TransS o 1 := by
 intro K w v cs hK hr hcs
 obtain rfl : K = 1 := hK
 have HS : KW 43 #[.int .i64 1] (.int .i64 2) := fun w => size_k 1 1 rfl (by omega) 2 rfl w
 obtain ⟨b, cap, rfl, h1, h2, hc⟩ := hr.at (by decide)
 have c0 : w.cell? ⟨b, 0, none⟩ = some (.int .u64 (cs 0)) := hc 0 (by decide)
 have c1 : w.cell? ⟨b, 1, none⟩ = some (.int .u64 (cs 1)) := hc 1 (by decide)
 have e0 : flat (o.tr 1 cs) 0 = cs 0 := rfl
 have e1 : flat (o.tr 1 cs) 1 = cs 1 := rfl
 generalize flat (o.tr 1 cs) = f at *
 generalize cs 0 = x at *
 generalize cs 1 = y at *
 clear hr hc hcs
 go_enter Tryz.func14, Tryz.ntmps14
 go_wp2_with (go_at_call 43; refine kw (HS.out _) ?_)
 go_region
 all_goals go_wp2
 all_goals go_returns
 all_goals
  refine ⟨_, rfl, ?_, kg⟩
  have := World.ownsRow_lit (base := w.heap.size) (e := 54) (size := 2) w.drew #[.int .u64 x, .int .u64 y] 1 (Nat.le_refl _) (by decide) rfl
  refine Ow.congr (g := fun j => if j = 0 then x else y) this (fun j hj => ?_)
  match j, hj with
  | 0, _ => exact e0.symm
  | 1, _ => exact e1.symm

set_option maxRecDepth 1000000 in
theorem transS_more {o : Ops} (H : o.S) (HI : o.In) (k : Nat) (hk6 : k + 2 ≤ 6) (IH : TransS o (k + 1)) : TransS o (k + 2) := by
 intro K w v cs hK hr hcs
 unfold TransS at IH
 obtain ⟨K1, hK1⟩ : ∃ K1 : Int, K1 = ((k + 1 : Nat) : Int) := ⟨_, rfl⟩
 have uK : IntKind.i64.wrap (K - 1) = K1 := by rw [IntKind.wrap_i64]; omega
 have k1 : ¬ K < 1 := by omega
 have k2 : ¬ (6 : Int) < K := by omega
 have k3 : (K == 1) = false := by simp; omega
 obtain ⟨m, hm⟩ : ∃ m, m = 2 ^ k := ⟨_, rfl⟩
 have hm1 : 0 < m := by rw [hm]; exact Nat.pow_pos (by decide)
 have hm2 : m ≤ 32 := by
  rw [hm]
  have := Nat.pow_le_pow_right (show 0 < 2 by decide) (show k ≤ 5 by omega)
  omega
 have ep1 : 2 ^ (k + 1) = 2 * m := by rw [Nat.pow_succ, ← hm]; omega
 obtain ⟨L, hL⟩ : ∃ L, L = 2 ^ (k + 2) := ⟨_, rfl⟩
 have hLm : L = 4 * m := by rw [hL, Nat.pow_succ, ep1]; omega
 rw [← hL] at hr
 have HS : KW 43 #[.int .i64 K] (.int .i64 (L : Int)) := fun w => size_k K (k + 2) hK (by omega) L (by rw [hL]) w
 have hSp : ∀ (w' : World) (v' : Value) (e : Ending) (f : Nat → Int × Int) (b0 : Nat), (∃ u, e = .returned u ∧ Ow w' b0 54 2 .u64 u m (flat f)) → ∃ b cap, e = .returned (.slice (some ⟨b, 0, none⟩) m cap) ∧ b < w'.heap.size ∧ ∀ q, q < m * 2 → w'.cell? ⟨b, q, none⟩ = some (.int .u64 (flat f q)) := fun w' v' e f b0 ⟨u, e1, e2⟩ => by
  obtain ⟨b, cap, rfl, _, c2, _, _, c3⟩ := e2.at hm1
  exact ⟨b, cap, e1, c2, fun j hj => (c3 j hj).1⟩
 have HE : ∀ (C : Int) (c : Nat), C = (c : Int) → c ≤ 1 → Hid (∀ w', Gb w w' → Calls Tryz.prog 44 #[v, .int .i64 C] w' fun e w'' => ∃ u, e = .returned u ∧ Rd w'' .u64 u (2 ^ (k + 1)) (2 ^ (k + 1)) (fun q => cs (2 * q + c)) ∧ Gb w' w'') := fun C c hC hc w' hg => (every_c C c hC hc w' v L (2 * m) cs (hr.gb hg) (by omega) (by omega) (by omega)).mono fun e w'' ⟨u, e1, e2, e3⟩ => by
  rw [ep1]
  have := e2.rd
  rw [Nat.mul_one] at this
  exact ⟨u, e1, this, e3⟩
 have HT : ∀ c, Hid (∀ w' u, Rd w' .u64 u (2 ^ (k + 1)) (2 ^ (k + 1)) (fun q => cs (2 * q + c)) → Calls Tryz.prog 14 #[.int .i64 K1, u] w' fun e w'' => ∃ b cap, e = .returned (.slice (some ⟨b, 0, none⟩) m cap) ∧ b < w''.heap.size ∧ (∀ q, q < m * 2 → w''.cell? ⟨b, q, none⟩ = some (.int .u64 (flat (o.tr (k + 1) (fun q => cs (2 * q + c))) q))) ∧ Gb w' w'') := fun c w' u hu => (IH K1 w' u _ hK1 hu (fun _ => hcs _)).mono fun e w'' ⟨v', e1, e2, e3⟩ => by
  rw [show k + 1 - 1 = k by omega, ← hm] at e2
  obtain ⟨b, cap, p1, p2, p3⟩ := hSp w'' v' e _ _ ⟨v', e1, e2⟩
  exact ⟨b, cap, p1, p2, p3, e3⟩
 have HE0 : Hid (∀ w', Gb w w' → Calls Tryz.prog 44 #[v, .int .i64 0] w' fun e w'' => ∃ u, e = .returned u ∧ Rd w'' .u64 u (2 ^ (k + 1)) (2 ^ (k + 1)) (fun q => cs (2 * q + 0)) ∧ Gb w' w'') := HE 0 0 rfl (by omega)
 have HE1 : Hid (∀ w', Gb w w' → Calls Tryz.prog 44 #[v, .int .i64 1] w' fun e w'' => ∃ u, e = .returned u ∧ Rd w'' .u64 u (2 ^ (k + 1)) (2 ^ (k + 1)) (fun q => cs (2 * q + 1)) ∧ Gb w' w'') := HE 1 1 rfl (by omega)
 have HT0 := HT 0
 have HT1 := HT 1
 obtain ⟨R, hR⟩ : ∃ R, R = 2 * m := ⟨_, rfl⟩
 have HRt : Hid (∀ w', Calls Tryz.prog 9 #[.int .i64 K] w' fun e w'' => ∃ b cap, e = .returned (.slice (some ⟨b, 0, none⟩) R cap) ∧ b < w''.heap.size ∧ (∀ q, q < R * 2 → w''.cell? ⟨b, q, none⟩ = some (.int .u64 (flat (o.rt (k + 2)) q))) ∧ Gb w' w'') := fun w' => by
  rw [hK]
  refine (roots_s H HI (k + 2) (by omega) hk6 w').mono fun e w'' ⟨u, e1, e2, e3⟩ => ?_
  rw [show k + 2 - 1 = k + 1 by omega, ep1, ← hR] at e2
  obtain ⟨b, cap, rfl, _, c2, _, _, c3⟩ := e2.at (by omega)
  exact ⟨b, cap, e1, c2, fun j hj => (c3 j hj).1, e3⟩
 obtain ⟨bx, cx, rfl, hx1, hx2, hxc⟩ := hr.at (by omega)
 have HPr : Hid (∀ a1 a2 b1 b2, Wd a1 → Wd a2 → Wd b1 → Wd b2 → ∀ w', Calls Tryz.prog 45 #[.agg #[.int .u64 a1, .int .u64 a2], .agg #[.int .u64 b1, .int .u64 b2]] w' fun e w'' => e = .returned (.agg #[.int .u64 ((o.cMul (a1, a2) (b1, b2)).1), .int .u64 ((o.cMul (a1, a2) (b1, b2)).2)]) ∧ Gb w' w'') := fun a1 a2 b1 b2 h1 h2 h3 h4 w' => cprod_s H HI h1 h2 h3 h4 w'
 have HSu : Hid (∀ a1 a2 b1 b2, Wd a1 → Wd a2 → Wd b1 → Wd b2 → ∀ w', Calls Tryz.prog 46 #[.agg #[.int .u64 a1, .int .u64 a2], .agg #[.int .u64 b1, .int .u64 b2]] w' fun e w'' => e = .returned (.agg #[.int .u64 (o.add a1 b1), .int .u64 (o.add a2 b2)]) ∧ Gb w' w'') := fun a1 a2 b1 b2 h1 h2 h3 h4 w' => csum_s H h1 h2 h3 h4 w'
 have HDi : Hid (∀ a1 a2 b1 b2, Wd a1 → Wd a2 → Wd b1 → Wd b2 → ∀ w', Calls Tryz.prog 47 #[.agg #[.int .u64 a1, .int .u64 a2], .agg #[.int .u64 b1, .int .u64 b2]] w' fun e w'' => e = .returned (.agg #[.int .u64 (o.sub a1 b1), .int .u64 (o.sub a2 b2)]) ∧ Gb w' w'') := fun a1 a2 b1 b2 h1 h2 h3 h4 w' => cdiff_s H h1 h2 h3 h4 w'
 have HM : Hid _ := hm
 have HLm : Hid _ := hLm
 have HEp : Hid _ := ep1
 have hL2 : L ≤ 128 := by omega
 have HCS : Hid _ := hcs
 have HR2 : Hid _ := hR
 have hR64 : R ≤ 64 := by omega
 clear hr hxc HE HT hSp IH hK hK1 hm hL hLm ep1 hcs hR
 go_enter Tryz.func14, Tryz.ntmps14
 go_upto_region 5 with (go_at_call 43; refine kw (HS.out _) ?_)
 go_upto_region 6 with (first
  | (go_at_call 44; refine (HE0.out _ kg).mono ?_; rintro e w1 ⟨u1, rfl, hr1, hg_w1⟩)
  | (go_at_call 14; refine (HT0.out _ _ hr1).mono ?_; rintro e w2 ⟨ba, ca, rfl, hba, hca, hg_w2⟩))
 go_upto_region 7 with (first
  | (go_at_call 44; refine (HE1.out _ kg).mono ?_; rintro e w3 ⟨u3, rfl, hr3, hg_w3⟩)
  | (go_at_call 14; refine (HT1.out _ _ hr3).mono ?_; rintro e w4 ⟨bb, cb, rfl, hbb, hcb, hg_w4⟩))
 go_upto_region 8 with (go_at_call 9; refine (HRt.out _).mono ?_; rintro e W ⟨br, cr, rfl, hbr, hcr, hg_W⟩)
 have gA : Gb w2 W := (hg_w3.trans hg_w4).trans hg_W
 have HCA : Hid (∀ q, q < m * 2 → W.cell? ⟨ba, q, none⟩ = some (.int .u64 (flat (o.tr (k + 1) (fun q => cs (2 * q + 0))) q))) := fun q hq => gA.old (hca q hq)
 have HCB : Hid (∀ q, q < m * 2 → W.cell? ⟨bb, q, none⟩ = some (.int .u64 (flat (o.tr (k + 1) (fun q => cs (2 * q + 1))) q))) := fun q hq => hg_W.old (hcb q hq)
 have HCR : Hid _ := hcr
 have hgW : Gb w W := kg
 have hba' : ba < W.heap.size := by have := gA.size; omega
 have hbb' : bb < W.heap.size := by have := hg_W.size; omega
 have hszw := hgW.size
 clear hca hcb hcr hg_w1 hg_w2 hg_w3 hg_w4 hg_W gA HE0 HE1 HT0 HT1 HRt hr1 hr3 hba hbb
 go_wp2
 go_loopw [8, 9] (fun f i wr => ∃ j : Nat, j ≤ m ∧ i = .int .i64 j ∧ Ow wr W.heap.size 54 2 .u64 f (2 * j) (flat (o.tr (k + 2) cs)) ∧ Gb W wr) (fun _ i _ => m - (intOf i).toNat)
 case atStart => exact ⟨0, Nat.zero_le _, rfl, Ow.lit W _ _ _ _, kg⟩
 case round =>
  obtain ⟨j, hj, rfl, hof, hgb⟩ := hrel
  have hsz := hgb.size
  by_cases hlt : j < m
  ·have hlt' : (j : Int) < (m : Int) := by omega
   obtain ⟨J0, hJ0⟩ : ∃ J0 : Nat, J0 = 2 * j := ⟨_, rfl⟩
   have u0 : IntKind.i64.wrap (2 * (j : Int)) = (J0 : Int) := by rw [IntKind.wrap_i64]; omega
   have i0 : (J0 : Int) < (R : Int) := by have := HR2.out; omega
   obtain ⟨a1, ha1⟩ : ∃ a1, (o.tr (k + 1) (fun q => cs (2 * q + 0)) j).1 = a1 := ⟨_, rfl⟩
   obtain ⟨a2, ha2⟩ : ∃ a2, (o.tr (k + 1) (fun q => cs (2 * q + 0)) j).2 = a2 := ⟨_, rfl⟩
   obtain ⟨d1, hd1⟩ : ∃ d1, (o.tr (k + 1) (fun q => cs (2 * q + 1)) j).1 = d1 := ⟨_, rfl⟩
   obtain ⟨d2, hd2⟩ : ∃ d2, (o.tr (k + 1) (fun q => cs (2 * q + 1)) j).2 = d2 := ⟨_, rfl⟩
   obtain ⟨x, y, hxy⟩ : ∃ x y, o.rt (k + 2) (2 * j) = (x, y) := ⟨_, _, rfl⟩
   have p0 : wr.cell? ⟨ba, j * 2, none⟩ = some (.int .u64 a1) := by rw [← ha1, ← flat_re, Nat.mul_comm]; exact hgb.old (HCA.out (2 * j) (by omega))
   have p1 : wr.cell? ⟨ba, j * 2 + 1, none⟩ = some (.int .u64 a2) := by rw [← ha2, ← flat_im, Nat.mul_comm]; exact hgb.old (HCA.out (2 * j + 1) (by omega))
   have p2 : wr.cell? ⟨bb, j * 2, none⟩ = some (.int .u64 d1) := by rw [← hd1, ← flat_re, Nat.mul_comm]; exact hgb.old (HCB.out (2 * j) (by omega))
   have p3 : wr.cell? ⟨bb, j * 2 + 1, none⟩ = some (.int .u64 d2) := by rw [← hd2, ← flat_im, Nat.mul_comm]; exact hgb.old (HCB.out (2 * j + 1) (by omega))
   have p4 : wr.cell? ⟨br, J0 * 2, none⟩ = some (.int .u64 x) := by have := hgb.old (HCR.out (J0 * 2) (by have := HR2.out; omega)); rw [Nat.mul_comm, flat_re, hJ0, hxy] at this; rw [Nat.mul_comm, hJ0]; exact this
   have p5 : wr.cell? ⟨br, J0 * 2 + 1, none⟩ = some (.int .u64 y) := by have := hgb.old (HCR.out (J0 * 2 + 1) (by have := HR2.out; omega)); rw [Nat.mul_comm, flat_im, hJ0, hxy] at this; rw [Nat.mul_comm, hJ0]; exact this
   have wE := HI.tr (k + 1) (fun q => cs (2 * q + 0)) j (fun _ => HCS.out _)
   have wO := HI.tr (k + 1) (fun q => cs (2 * q + 1)) j (fun _ => HCS.out _)
   unfold WdC at wE wO
   rw [ha1, ha2] at wE
   rw [hd1, hd2] at wO
   have wX := HI.rt (k + 2) (2 * j)
   rw [hxy] at wX
   obtain ⟨t1, ht1⟩ : ∃ t1, (o.cMul (x, y) (d1, d2)).1 = t1 := ⟨_, rfl⟩
   obtain ⟨t2, ht2⟩ : ∃ t2, (o.cMul (x, y) (d1, d2)).2 = t2 := ⟨_, rfl⟩
   have wT := HI.cMul wX (show WdC (d1, d2) from wO)
   unfold WdC at wT
   rw [ht1, ht2] at wT
   have G1 := HPr.out x y d1 d2 wX.1 wX.2 wO.1 wO.2
   rw [ht1, ht2] at G1
   have G2 := HSu.out a1 a2 t1 t2 wE.1 wE.2 wT.1 wT.2
   have G3 := HDi.out a1 a2 t1 t2 wE.1 wE.2 wT.1 wT.2
   have eO : o.tr (k + 1) (fun q => cs (2 * q + 1)) j = (d1, d2) := by rw [← hd1, ← hd2]
   have eT : o.cMul (x, y) (d1, d2) = (t1, t2) := by rw [← ht1, ← ht2]
   have s0 : o.tr (k + 2) cs (2 * j) = (o.add a1 t1, o.add a2 t2) := by
    simp only [Ops.tr]
    rw [if_pos (by omega), show 2 * j / 2 = j by omega, hxy, eO, eT]
    unfold Ops.cAdd
    rw [← ha1, ← ha2]; rfl
   have s1 : o.tr (k + 2) cs (2 * j + 1) = (o.sub a1 t1, o.sub a2 t2) := by
    simp only [Ops.tr]
    rw [if_neg (by omega), show (2 * j + 1) / 2 = j by omega, hxy, eO, eT]
    unfold Ops.cSub
    rw [← ha1, ← ha2]; rfl
   generalize o.add a1 t1 = v0 at *
   generalize o.add a2 t2 = v1 at *
   generalize o.sub a1 t1 = v2 at *
   generalize o.sub a2 t2 = v3 at *
   have F1 : Hid _ := G1
   have F2 : Hid _ := G2
   have F3 : Hid _ := G3
   have e0 : Hid (flat (o.tr (k + 2) cs) (2 * j * 2 + 0) = v0) := by show _ = _; rw [show 2 * j * 2 + 0 = 2 * (2 * j) by omega, flat_re, s0]
   have e1 : Hid (flat (o.tr (k + 2) cs) (2 * j * 2 + 1) = v1) := by show _ = _; rw [show 2 * j * 2 + 1 = 2 * (2 * j) + 1 by omega, flat_im, s0]
   have e2 : Hid (flat (o.tr (k + 2) cs) (2 * j * 2 + 2) = v2) := by show _ = _; rw [show 2 * j * 2 + 2 = 2 * (2 * j + 1) by omega, flat_re, s1]
   have e3 : Hid (flat (o.tr (k + 2) cs) (2 * j * 2 + 3) = v3) := by show _ = _; rw [show 2 * j * 2 + 3 = 2 * (2 * j + 1) + 1 by omega, flat_im, s1]
   have HO : Hid _ := hof
   have hOg := fun w' (hg : Gb wr w') => Ow.gb hof hg
   have hnb := hof.nlt hba'
   have hnw := fun p (hp : wr.heap.size ≤ p) => hof.ne hp
   have HOg : Hid _ := hOg
   have HNb : Hid _ := hnb
   have HNw : Hid _ := hnw
   clear hof hOg hnb hnw G1 G2 G3 eO eT s0 s1 ha1 ha2 hd1 hd2 hxy wE wO wX wT ht1 ht2 hJ0 HPr HSu HDi
   go_wp2
   go_cut [10] from 48 to 78 (fun s wx => ∃ bt : Nat, s = .pointer (some ⟨bt, 0, none⟩) ∧ wx.cell? ⟨bt, 0, none⟩ = some (.int .u64 t1) ∧ wx.cell? ⟨bt, 1, none⟩ = some (.int .u64 t2) ∧ wr.heap.size ≤ bt ∧ Gb wr wx)
   case first =>
    go_region_held3 (fun w' => w'.cell? ⟨br, J0 * 2, none⟩ = some (.int .u64 x) ∧ w'.cell? ⟨br, J0 * 2 + 1, none⟩ = some (.int .u64 y) ∧ w'.cell? ⟨bb, j * 2, none⟩ = some (.int .u64 d1) ∧ w'.cell? ⟨bb, j * 2 + 1, none⟩ = some (.int .u64 d2))
     ((go_split_ands; (repeat' apply And.intro) <;> exact kh))
     (first
      | (go_at_call 45; with_reducible refine (F1.out _).mono ?_; rintro e w2 ⟨rfl, hg_w2⟩; have hz2 := hg_w2.size; (try simp only [World.size_alloc, World.size_drew, World.size_setCell] at hz2); (try (have bx0 : w2.cell? ⟨wr.heap.size, 0, none⟩ = some (.int .u64 0) := hg_w2.old (by simp [go_sem]); have bx1 : w2.cell? ⟨wr.heap.size, 1, none⟩ = some (.int .u64 0) := hg_w2.old (by simp [go_sem]); have bz0 : w2.frozen? ⟨wr.heap.size, 0, none⟩ = false := hg_w2.fzc (v := .int .u64 0) (by simp [go_sem]) (fz_drew (fz_alloc (fz_new (Nat.le_refl _)))); have bz1 : w2.frozen? ⟨wr.heap.size, 1, none⟩ = false := hg_w2.fzc (v := .int .u64 0) (by simp [go_sem]) (fz_drew (fz_alloc (fz_new (Nat.le_refl _))))))))
    all_goals (go_wp2; go_meet)
    all_goals exact ⟨_, rfl, kb, kb, by omega, kg⟩
   case rest =>
    obtain ⟨bt, rfl, c0, c1, hbt, hgt⟩ := hcut
    have q0 : wc.cell? ⟨ba, j * 2, none⟩ = some (.int .u64 a1) := hgt.old p0
    have q1 : wc.cell? ⟨ba, j * 2 + 1, none⟩ = some (.int .u64 a2) := hgt.old p1
    have hbt2 := cell_size c0
    have hszc := hgt.size
    clear p0 p1 p2 p3 p4 p5
    go_wp2
    go_region_held3 (fun w' => w'.cell? ⟨ba, j * 2, none⟩ = some (.int .u64 a1) ∧ w'.cell? ⟨ba, j * 2 + 1, none⟩ = some (.int .u64 a2) ∧ w'.cell? ⟨bt, 0, none⟩ = some (.int .u64 t1) ∧ w'.cell? ⟨bt, 1, none⟩ = some (.int .u64 t2))
     ((go_split_ands; (repeat' apply And.intro) <;> exact kh))
     (first
      | (go_at_call 46; with_reducible refine (F2.out _).mono ?_; rintro e w3 ⟨rfl, hg_w3⟩; have hz3 := hg_w3.size; (try simp only [World.size_alloc, World.size_drew, World.size_setCell] at hz3))
      | (go_at_call 47; with_reducible refine (F3.out _).mono ?_; rintro e w3 ⟨rfl, hg_w3⟩; have hz3 := hg_w3.size; (try simp only [World.size_alloc, World.size_drew, World.size_setCell] at hz3))
      | (refine step_more rfl _ _ 22 rfl 54 (.agg #[.int .u64 0, .int .u64 0]) 2 16 .u64 Tryz.underlying22 infoCs rfl (by decide) (by decide) W.heap.size (2 * j) 2 (flat (o.tr (k + 2) cs)) _ w3.heap.size rfl (HOg.out _ kg) rfl (cells4s (by simp [go_sem]) (by simp [go_sem]) (by simp [go_sem]) (by simp [go_sem]) e0.out e1.out e2.out e3.out) (by omega) (by omega) (by simp [go_sem]; omega) ?_; intro v' w4 hown4 hb4 hk4 _; have r0 : w4.cell? ⟨ba, j * 2, none⟩ = some (.int .u64 a1) := hk4 _ _ _ kb HNb.out; have r1 : w4.cell? ⟨ba, j * 2 + 1, none⟩ = some (.int .u64 a2) := hk4 _ _ _ kb HNb.out; have r2 : w4.cell? ⟨bt, 0, none⟩ = some (.int .u64 t1) := hk4 _ _ _ kb (HNw.out _ hbt); have r3 : w4.cell? ⟨bt, 1, none⟩ = some (.int .u64 t2) := hk4 _ _ _ kb (HNw.out _ hbt)))
    all_goals
     go_wp2
     go_roundw
     case rel => exact ⟨j + 1, by omega, by go_num, hown4, Gb.below kg hb4 (Nat.le_refl _)⟩
     case measure => simp [intOf] <;> omega
  ·obtain rfl : j = m := by omega
   have hjm' : ¬ (j : Int) < (j : Int) := by omega
   have HO : Hid _ := hof
   have hgw : Gb w wr := hgW.trans hgb
   have eM : 2 ^ (k + 1) = 2 * j := HEp.out
   have HM1 := Ow.mono hof hszw
   clear hof
   go_wp2
   go_returns
   exact ⟨_, rfl, HM1, hgw⟩
theorem transS_s {o : Ops} (H : o.S) (HI : o.In) : ∀ k : Nat, 1 ≤ k → k ≤ 6 → TransS o k
 | 0, h, _ => absurd h (by omega)
 | 1, _, _ => transS_one o
 | k + 2, _, h => transS_more H HI k h (transS_s H HI (k + 1) (by omega) (by omega))
end Go.Proofs.YtkackkggpehpkaaGreatDoor

/- Transform of both sides; laws.FnExactTransform. -/
set_option linter.unusedVariables false
set_option linter.unusedSimpArgs false
set_option maxHeartbeats 40000000
namespace Go.Proofs.YtkackkggpehpkaaGreatDoor
open Go.RowKit

def tN (k : Int) (n : Nat) : Nat := if 1 ≤ k ∧ k ≤ 6 ∧ n = 2 ^ k.toNat then 2 ^ (k.toNat - 1) else 0
theorem tN_le (k : Int) (n : Nat) : tN k n ≤ 64 := by
 unfold tN
 split
 ·have := Nat.pow_le_pow_right (show 0 < 2 by decide) (show k.toNat - 1 ≤ 6 by omega)
  omega
 ·omega
/-- A call that makes a list of complex numbers. -/
abbrev MakesD (F : Nat) (args : Array Value) (w : World) (n : Nat) (f : Nat → Int × Int) : Prop := Calls Tryz.prog F args w fun e w' => ∃ v, e = .returned v ∧ Ow w' w.heap.size 54 2 .u64 v n (flat f) ∧ Gb w w'

theorem log_any (k : Int) (b : Bool) (hb : b = decide (1 ≤ k ∧ k ≤ 6)) (w : World) :
  Calls Tryz.prog 40 #[.int .i64 k] w fun e w' => e = .returned (.bool b) ∧ w = w' := by
 rcases (show (k < 1 ∨ 1 ≤ k ∧ 6 < k ∨ 1 ≤ k ∧ k ≤ 6) by omega) with c | ⟨c, c'⟩ | ⟨c, c'⟩
 ·obtain rfl : b = false := by rw [hb]; simp; omega
  have c1 : ¬ 1 ≤ k := by omega
  clear hb
  go_enter Tryz.func40, Tryz.ntmps40
  go_wp2
  go_returns
  exact ⟨rfl, rfl⟩
 ·obtain rfl : b = false := by rw [hb]; simp; omega
  have c1 : ¬ k ≤ 6 := by omega
  clear hb
  go_enter Tryz.func40, Tryz.ntmps40
  go_wp2
  go_returns
  exact ⟨rfl, rfl⟩
 ·obtain rfl : b = true := by rw [hb]; simp; omega
  clear hb
  go_enter Tryz.func40, Tryz.ntmps40
  go_wp2
  go_returns
  exact ⟨rfl, rfl⟩

set_option maxRecDepth 100000 in
theorem transform_i {o : Ops} (H : o.I) (HI : o.In) (k : Nat) (hk1 : 1 ≤ k) (hk6 : k ≤ 6) {w : World} {v cv : Value} {cs : Nat → Int} (hw : Fm w) (hr : Rd w .u64 v (2 ^ k) (2 ^ k) cs) (hcs : ∀ j, Wd (cs j)) (hc : CR o w cv (k + 1)) :
  MakesD 48 #[cv, v] w (2 ^ (k - 1)) (o.tr k cs) := by
 have HW : Hid (Calls Tryz.prog 92 #[.int .i64 (k : Int), v, .func (.func 93) #[] #[], .func (.func 94) #[] #[], .func (.func 95) #[cv] #[]] w fun e w' => ∃ v', e = .returned v' ∧ Ow w' w.heap.size 54 2 .u64 v' (2 ^ (k - 1)) (flat (o.tr k cs)) ∧ Gb w w') := walkT_i H HI k hk1 k w v cv (k + 1) cs rfl hw hr hcs hc (by omega) (by omega)
 obtain ⟨g, cap, rfl, _⟩ := hc
 obtain ⟨n, hn⟩ : ∃ n, n = k + 1 := ⟨_, rfl⟩
 rw [← hn] at HW ⊢
 have u : IntKind.i64.wrap ((n : Int) - 1) = (k : Int) := by rw [IntKind.wrap_i64]; omega
 clear hw hr hcs H HI hn
 go_enter Tryz.func48, Tryz.ntmps48
 go_wp2_with (go_at_call 92; refine HW.out.mono ?_; rintro e w1 ⟨v', rfl, ho1, hg_w1⟩)
 go_returns
 exact ⟨_, rfl, ho1, hg_w1⟩

set_option maxRecDepth 100000 in
theorem Transform_i {o : Ops} (H : o.I) (HI : o.In) (k : Int) {w : World} {v : Value} {n : Nat} {cs : Nat → Int} (hn : n ≤ 2000000) (hw : Fm w) (hr : Rd w .u64 v n n cs) (hcs : ∀ j, Wd (cs j)) :
  MakesD 16 #[.int .i64 k, v] w (tN k n) (o.tr k.toNat cs) := by
 by_cases h : 1 ≤ k ∧ k ≤ 6
 ·have HL : KW 40 #[.int .i64 k] (.bool true) := fun w => log_any _ true (by simp; omega) w
  by_cases hk : n = 2 ^ k.toNat
  ·have ht : tN k n = 2 ^ (k.toNat - 1) := by unfold tN; rw [if_pos ⟨h.1, h.2, hk⟩]
   rw [ht]
   have HC : Hid (Calls Tryz.prog 41 #[.int .i64 k] w fun e w' => ∃ cv, e = .returned cv ∧ CR o w' cv (k.toNat + 1) ∧ Gb w w') := by
    have := circleOf_i H HI k.toNat (by omega) (by omega) hw
    rw [Int.toNat_of_nonneg (by omega)] at this
    exact this.mono fun e w' ⟨v, e1, e2, e3⟩ => ⟨v, e1, e2.cr (by omega), e3⟩
   have HT : Hid (∀ w' cv, Gb w w' → CR o w' cv (k.toNat + 1) → MakesD 48 #[cv, v] w' (2 ^ (k.toNat - 1)) (o.tr k.toNat cs)) := fun w' cv hg hc => transform_i H HI k.toNat (by omega) (by omega) (hw.gb hg) (by rw [← hk]; exact hr.gb hg) hcs hc
   obtain ⟨a, cap, rfl, _⟩ := hr
   have hkk : (2 : Int) ^ k.toNat = (n : Int) := by rw [hk]; simp
   generalize 2 ^ (k.toNat - 1) = N at *
   generalize o.tr k.toNat cs = f at *
   generalize k.toNat + 1 = n1 at *
   have hcase : k = 1 ∧ n = 2 ∨ k = 2 ∧ n = 4 ∨ k = 3 ∧ n = 8 ∨ k = 4 ∧ n = 16 ∨ k = 5 ∧ n = 32 ∨ k = 6 ∧ n = 64 := by
    rcases (show k = 1 ∨ k = 2 ∨ k = 3 ∨ k = 4 ∨ k = 5 ∨ k = 6 by omega) with rfl | rfl | rfl | rfl | rfl | rfl <;> simp at hk <;> simp [hk]
   clear hkk hk ht H HI hw hcs h
   rcases hcase with ⟨rfl, rfl⟩ | ⟨rfl, rfl⟩ | ⟨rfl, rfl⟩ | ⟨rfl, rfl⟩ | ⟨rfl, rfl⟩ | ⟨rfl, rfl⟩
   all_goals
    go_enter Tryz.func16, Tryz.ntmps16
    go_wp2_with (first
     | (go_at_call 40; refine kw (HL.out _) ?_)
     | (go_at_call 41; refine HC.out.mono ?_; rintro e w1 ⟨cv, rfl, hcr, hg_w1⟩)
     | (go_at_call 48; refine (HT.out _ _ hg_w1 hcr).mono ?_; rintro e w2 ⟨v2, rfl, ho2, hg_w2⟩))
    go_returns
    exact ⟨_, rfl, Ow.mono ho2 hg_w1.size, hg_w1.trans hg_w2⟩
  ·have ht : tN k n = 0 := by unfold tN; rw [if_neg (fun h' => hk h'.2.2)]
   rw [ht]
   obtain ⟨a, cap, rfl, _⟩ := hr
   have hcase : k = 1 ∧ ((n : Int) == 2) = false ∨ k = 2 ∧ ((n : Int) == 4) = false ∨ k = 3 ∧ ((n : Int) == 8) = false ∨ k = 4 ∧ ((n : Int) == 16) = false ∨ k = 5 ∧ ((n : Int) == 32) = false ∨ k = 6 ∧ ((n : Int) == 64) = false := by
    rcases (show k = 1 ∨ k = 2 ∨ k = 3 ∨ k = 4 ∨ k = 5 ∨ k = 6 by omega) with rfl | rfl | rfl | rfl | rfl | rfl <;> simp at hk <;> simp <;> omega
   clear hk ht H HI hw hcs h
   rcases hcase with ⟨rfl, hq⟩ | ⟨rfl, hq⟩ | ⟨rfl, hq⟩ | ⟨rfl, hq⟩ | ⟨rfl, hq⟩ | ⟨rfl, hq⟩
   all_goals
    go_enter Tryz.func16, Tryz.ntmps16
    go_wp2_with (go_at_call 40; refine kw (HL.out _) ?_)
    go_returns
    exact ⟨_, rfl, Ow.nil _ _ _ _ _ _, Gb.refl w⟩
 ·have HL : KW 40 #[.int .i64 k] (.bool false) := fun w => log_any _ false (by simp; omega) w
  have ht : tN k n = 0 := by unfold tN; rw [if_neg (fun h' => h ⟨h'.1, h'.2.1⟩)]
  rw [ht]
  obtain ⟨a, cap, rfl, _⟩ := hr
  clear ht H HI hw hcs h
  go_enter Tryz.func16, Tryz.ntmps16
  go_wp2_with (go_at_call 40; refine kw (HL.out _) ?_)
  go_returns
  exact ⟨_, rfl, Ow.nil _ _ _ _ _ _, Gb.refl w⟩

set_option maxRecDepth 100000 in
theorem Transform_s {o : Ops} (H : o.S) (HI : o.In) (k : Int) {w : World} {v : Value} {n : Nat} {cs : Nat → Int} (hn : n ≤ 2000000) (hr : Rd w .u64 v n n cs) (hcs : ∀ j, Wd (cs j)) :
  MakesD 14 #[.int .i64 k, v] w (tN k n) (o.tr k.toNat cs) := by
 by_cases h : 1 ≤ k ∧ k ≤ 6
 ·by_cases hk : n = 2 ^ k.toNat
  ·have ht : tN k n = 2 ^ (k.toNat - 1) := by unfold tN; rw [if_pos ⟨h.1, h.2, hk⟩]
   rw [ht]
   rw [hk] at hr
   exact transS_s H HI k.toNat (by omega) (by omega) k w v cs (by omega) hr hcs
  ·have ht : tN k n = 0 := by unfold tN; rw [if_neg (fun h' => hk h'.2.2)]
   rw [ht]
   obtain ⟨a, cap, rfl, _⟩ := hr
   obtain ⟨L, hL⟩ : ∃ L, L = 2 ^ k.toNat := ⟨_, rfl⟩
   have HS : KW 43 #[.int .i64 k] (.int .i64 (L : Int)) := fun w => size_k k k.toNat (by omega) (by omega) L (by rw [hL]) w
   have hq : ((n : Int) == (L : Int)) = false := by simp; omega
   have k1 : ¬ k < 1 := by omega
   have k2 : ¬ (6 : Int) < k := by omega
   clear hk ht H HI hcs h hL
   go_enter Tryz.func14, Tryz.ntmps14
   go_wp2_with (go_at_call 43; refine kw (HS.out _) ?_)
   go_returns
   exact ⟨_, rfl, Ow.lit _ _ _ _ _, kg⟩
 ·have ht : tN k n = 0 := by unfold tN; rw [if_neg (fun h' => h ⟨h'.1, h'.2.1⟩)]
  rw [ht]
  obtain ⟨a, cap, rfl, _⟩ := hr
  clear ht H HI hcs
  rcases (show k < 1 ∨ 1 ≤ k ∧ 6 < k by omega) with c | ⟨c, c'⟩
  ·clear h
   go_enter Tryz.func14, Tryz.ntmps14
   go_wp2
   go_returns
   exact ⟨_, rfl, Ow.lit _ _ _ _ _, kg⟩
  ·have c1 : ¬ k < 1 := by omega
   clear h
   go_enter Tryz.func14, Tryz.ntmps14
   go_wp2
   go_returns
   exact ⟨_, rfl, Ow.lit _ _ _ _ _, kg⟩

set_option maxRecDepth 100000 in
theorem lawTransform {o : Ops} (HS : o.S) (HP : o.I) (HI : o.In) (k : Int) (a : Option Addr) (n cap : Nat) (cs : Nat → Int) (hcs : ∀ j, Wd (cs j)) {w : World} (hw : Fm w) (ha : ArgRow w .u64 a n cs) (hn : n ≤ 1048576) :
  Calls Tryz.prog 4 #[.int .i64 k, .slice a n cap] w fun e w' => e = .returned (.bool true) ∧ Gb w w' := by
 have hN := tN_le k n
 have H1 : Hid (∀ w v, Rd w .u64 v n n cs → MakesD 14 #[.int .i64 k, v] w (tN k n) (o.tr k.toNat cs)) := fun w v hr => Transform_s HS HI k (by omega) hr hcs
 have H2 : Hid (∀ w' v, Gb w w' → Rd w' .u64 v n n cs → MakesD 16 #[.int .i64 k, v] w' (tN k n) (o.tr k.toNat cs)) := fun w' v hg hr => Transform_i HP HI k (by omega) (hw.gb hg) hr hcs
 have H3 : Hid (∀ w', Gb w w' → Calls Tryz.prog 15 #[.slice a n cap] w' fun e w'' => ∃ v, e = .returned v ∧ Ow w'' w'.heap.size 49 1 .u64 v n cs ∧ Gb w' w'') := fun w' hg => toUint64S_any (ha.gb hg) (by omega)
 generalize tN k n = N at *
 generalize o.tr k.toNat cs = f at *
 have hnn : ¬ (1048576 : Int) < (n : Int) := by omega
 have hz : ¬ ((2 * N + 1 : Nat) : Int) < 0 := by omega
 have hz1 : ¬ (1 + (n : Int)) < 0 := by omega
 clear HS HP HI hw ha hcs
 have rd1 : ∀ {w' : World} {b : Nat} {v : Value}, Ow w' b 49 1 .u64 v n cs → Rd w' .u64 v n n cs := fun ho => by have := ho.rd; rw [Nat.mul_one] at this; exact this
 go_enter Tryz.func4, Tryz.ntmps4
 go_upto_region 4 with (first
  | (go_at_call 15; refine (H3.out _ kg).mono ?_; rintro e w1 ⟨u1, rfl, hu1, hg_w1⟩)
  | (go_at_call 14; refine (H1.out _ _ (rd1 hu1)).mono ?_; rintro e w2 ⟨v0, rfl, ho0, hg_w2⟩))
 go_upto_region 5 with (go_at_call 15; refine (H3.out _ kg).mono ?_; rintro e w3 ⟨x1, rfl, hx1, hg_w3⟩)
 go_upto_region 6 with (go_at_call 16; refine (H2.out _ _ kg (rd1 hx1)).mono ?_; rintro e w4 ⟨v1, rfl, ho1, hg_w4⟩)
 go_upto_region 8 with (go_at_call 11; refine (eqCplxS_same ho1.rd ((ho0.rd.gb hg_w3).gb hg_w4) (by omega)).mono ?_; rintro e w5 ⟨rfl, hg_w5⟩)
 have hx5 := (hx1.gb hg_w4).gb hg_w5
 go_upto_region 10 with (first
  | (go_at_call 15; refine (H3.out _ kg).mono ?_; rintro e w6 ⟨u6, rfl, hu6, hg_w6⟩)
  | (go_at_call 17; refine (eqUint64S_same (rd1 (hx5.gb hg_w6)) (rd1 hu6) (by omega)).mono ?_; rintro e w7 ⟨rfl, hg_w7⟩))
 have hx7 := (hx5.gb hg_w6).gb hg_w7
 have ho17 : Ow w7 w3.heap.size 54 2 .u64 v1 N (flat f) := ((ho1.gb hg_w5).gb hg_w6).gb hg_w7
 have hr07 : Rd w7 .u64 v0 N (N * 2) (flat f) := ((((ho0.rd.gb hg_w3).gb hg_w4).gb hg_w5).gb hg_w6).gb hg_w7
 have hg_7 : Gb w w7 := kg
 go_upto_region 12 with (go_at_call 18; refine (markUint64S_any 1 (by omega) (by omega) hx7 (by omega)).mono ?_; rintro e w8 ⟨rfl, _, hmk8⟩)
 have hs1 := hg_w1.size
 have hs2 := hg_w2.size
 have hs3 := hg_w3.size
 have hb0 : ∀ p, v0.ownBlock = some p → w1.heap.size ≤ p ∧ p < w2.heap.size := fun p h => ⟨(World.ownsRow.lt ho0 p h).1, (World.ownsRow.lt ho0 p h).2⟩
 have hbx : ∀ p, x1.ownBlock = some p → w2.heap.size ≤ p ∧ p < w3.heap.size := fun p h => ⟨(World.ownsRow.lt hx1 p h).1, (World.ownsRow.lt hx1 p h).2⟩
 have hb1 : ∀ p, v1.ownBlock = some p → w3.heap.size ≤ p := fun p h => (World.ownsRow.lt ho1 p h).1
 have ho8 : Ow w8 w3.heap.size 54 2 .u64 v1 N (flat f) := Ow.mk hmk8 ho17 (fun p h h' => by have := hb1 p h; have := hbx p h'; omega)
 have hr8 : Rd w8 .u64 v0 N (N * 2) (flat f) := Rd.mk hmk8 hr07 (fun p h h' => by have := hb0 p h; have := hbx p h'; omega)
 have hg_8 : Gb w w8 := Gb.below hg_7 (hmk8.below (base := w2.heap.size) fun p h => (hbx p h).1) (by omega)
 clear hmk8 hx1 hx5 hx7 hu1 hu6 ho17 hr07
 go_upto_region 15 with (go_at_call 11; refine (eqCplxS_same ho8.rd hr8 (by omega)).mono ?_; rintro e w9 ⟨rfl, hg_w9⟩)
 go_upto_region 16 with (go_at_call 12; refine (markCplxS_any (ho8.gb hg_w9) (by omega)).mono ?_; rintro e wa ⟨rfl, hoa, hmka⟩)
 have hra : Rd wa .u64 v0 N (N * 2) (flat f) := Rd.mk hmka (hr8.gb hg_w9) (fun p h h' => by have := hb0 p h; have := hb1 p h'; omega)
 have hg_a : Gb w wa := Gb.below (Gb.trans hg_8 hg_w9) (hmka.below (base := w3.heap.size) hb1) (by omega)
 clear hmka
 go_upto_region 22 with (go_at_call 13; refine kw (heldCplxS_any hoa.rd (by omega)) ?_)
 go_upto_region 23 with (first
  | (go_at_call 15; refine (H3.out _ kg).mono ?_; rintro e wb ⟨ub, rfl, hub, hg_wb⟩)
  | (go_at_call 16; refine (H2.out _ _ kg (rd1 hub)).mono ?_; rintro e wd ⟨vd, rfl, hod, hg_wd⟩))
 go_wp2_with (go_at_call 11; refine (eqCplxS_same hod.rd ((hra.gb hg_wb).gb hg_wd) (by omega)).mono ?_; rintro e we ⟨rfl, hg_we⟩)
 go_returns
 exact ⟨rfl, kg⟩
end Go.Proofs.YtkackkggpehpkaaGreatDoor

/- laws.FnExactTransform. -/
set_option linter.unusedVariables false
namespace Go.Proofs.YtkackkggpehpkaaGreatDoor
open Go.RowKit

theorem lawTransformF (k : Int) (k0 : -9223372036854775808 ≤ k) (k1 : k < 9223372036854775808) (a : Option Addr) (n cap : Nat) (cs : Nat → Int) (hcs : ∀ j, Wd (cs j)) {w : World} (hw : Fm w) (ha : ArgRow w .u64 a n cs) (hn : n ≤ 1048576) :
  Calls Tryz.prog 4 #[.int .i64 k, .slice a n cap] w fun e w' => e = .returned (.bool true) ∧ Gb w w' := lawTransform opsW_s opsW_i opsW_in k a n cap cs hcs hw ha hn
end Go.Proofs.YtkackkggpehpkaaGreatDoor
