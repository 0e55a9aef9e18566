import Derived.Test.YtnbbfeknbfohhaaGreatDoorIa
import Derived.Test.YtnbbfeknbfohhaaGreatDoorSa
set_option linter.unusedVariables false
set_option linter.unusedSimpArgs false
set_option maxRecDepth 1000000
set_option maxHeartbeats 40000000
open Go.Value renaming int → J, slice → X
open Go.IntKind renaming i64 → Y, u64 → Z
open Go.Ending renaming returned → O
open Go.Proofs.Tryz
namespace Go.Proofs.YtnbbfeknbfohhaaGreatDoor
open Go.RowKit
theorem Y3 {P : Prop} (h : P := by
 go_region
 all_goals (go_wp2; go_meet)
 ·exact ⟨_, _, rfl, rfl, om, Ow.drew (Ow.alloc (RV.out w) _), Ow.drew (HM2.out w _), kg⟩
 ·exact ⟨_, _, rfl, rfl, om, Ow.drew (HM2.out w _), Ow.drew (Ow.alloc (RV.out w) _), kg⟩) : P := h
def Ij (o : Ops) (k : Nat) : Prop := ∀ (K : Int) (w : World) (v cv : Value) (n : Nat) (cs : Nat → Int), K = (k : Int) → Fm w → Rd w Z v (2 ^ k) (2 ^ k) cs → (∀ j, Wd (cs j)) → CR o w cv n → k < n → n ≤ 7 →
 CT 142 #[J Y K, v, .func (.func 143) #[] #[], .func (.func 144) #[] #[], .func (.func 145) #[cv] #[]] w fun e w' => ∃ v', e = O v' ∧ Ow w' w.heap.size 46 2 Z v' (2 ^ (k - 1)) (flat (o.tr k cs)) ∧ Gb w w'
theorem Ov (o : Ops) : Ij o 1 := by
 intro K w v cv n cs hK hw hr hcs hc hk hn
 have HV : Hid (CT 144 #[v] w fun e w' => ∃ v', e = O v' ∧ Ow w' w.heap.size 46 2 Z v' 1 (flat (o.tr 1 cs)) ∧ Gb w w') := Oy hr
 obtain rfl : K = 1 := hK
 clear hw hr hcs hc hk hn
 go_enter func142, ntmps142
 go_wp2_with (go_at_call 144; refine HV.out.mono ?_; rintro e w1 ⟨v', rfl, ho1, aj⟩)
 go_returns
 exact ⟨_, rfl, ho1, aj⟩
theorem IX {o : Ops} (H : o.I) (HI : o.In) (k : Nat) (IH : Ij o (k + 1)) : Ij o (k + 2) := by
 intro K w v cv n cs hK hw hr hcs hc hk hn
 unfold Ij at IH
 obtain ⟨K1, hK1⟩ : ∃ K1 : Int, K1 = ((k + 1 : Nat) : Int) := ⟨_, rfl⟩
 have uK : IntKind.i64.wrap (K - 1) = K1 := wi
 obtain ⟨h, hh⟩ : ∃ h, h = 2 ^ (k + 1) := ⟨_, rfl⟩
 obtain ⟨L, hL⟩ : ∃ L, L = 2 ^ (k + 2) := ⟨_, rfl⟩
 have h2 : L = h + h := by rw [hL, hh, Nat.pow_succ]; omega
 have hmax : h ≤ 64 := by
  rw [hh]
  have := Nat.pow_le_pow_right (show 0 < 2 by decide) (show k + 1 ≤ 6 by omega)
  omega
 have hpos : 0 < h := by rw [hh]; exact Nat.pow_pos de
 rw [← hL] at hr
 obtain ⟨bx, cx, rfl, hx1, hx2, hxc⟩ := hr.at om
 have HX : Hid _ := hxc
 have HC : Hid _ := hc
 have HF : Hid _ := hw
 have HH : Hid _ := hh
 have hmk : ∀ w, (Instr.makeSlice 39 (J Y (h : Int)) (J Y (h : Int))).run Tryz.prog w = .ok (X (some ⟨w.heap.size, 0, none⟩) h h) (w.alloc (.cells (madeCells #[J Z 0] (h * 1)) 22)) := fun w => nD 39 22 (J Z 0) 1 8 Tryz.underlying39 NU de h om w
 have U1 : (L : Int) / 2 = (h : Int) := om
 have RV : Hid (∀ w : World, Ow (w.alloc (.cells (madeCells #[J Z 0] h) 22)) w.heap.size 22 1 Z (X (some ⟨w.heap.size, 0, none⟩) h h) h (fun _ => 0)) := fun w => by have := Ow.made w 22 1 #[J Z 0] Z (Go.Proofs.YtnbbfeknbfohhaaGreatDoor.z1 _) h (by omega); rw [Nat.mul_one] at this; exact this
 have HM2 : Hid (∀ (w : World) (ob : Obj), Ow ((w.alloc ob).alloc (.cells (madeCells #[J Z 0] h) 22)) w.heap.size 22 1 Z (X (some ⟨w.heap.size + 1, 0, none⟩) h h) h (fun _ => 0)) := fun w ob => by have := RV.out (w.alloc ob); rw [World.size_alloc] at this; exact this.mono om
 have k3 : (K == 1) = false := by simp; omega
 have HK1 : Hid _ := hK1
 have HK : Hid _ := hK
 clear hK1 hK
 have HL2 : Hid _ := h2
 have aCG : L ≤ 128 := om
 clear hr hxc hc hw hh hL h2
 go_enter func142, ntmps142
 go_wp2
 go_cut [11, 12] (fun f s wx => ∃ b1 b2 : Nat, f = X (some ⟨b1, 0, none⟩) h h ∧ s = X (some ⟨b2, 0, none⟩) h h ∧ b1 ≠ b2 ∧ Ow wx w.heap.size 22 1 Z (X (some ⟨b1, 0, none⟩) h h) h (fun _ => 0) ∧ Ow wx w.heap.size 22 1 Z (X (some ⟨b2, 0, none⟩) h h) h (fun _ => 0) ∧ Gb w wx)
 case first =>
  exact Y3
 case rest =>
  obtain ⟨b1, b2, rfl, rfl, hne, ho1, ho2, hgc⟩ := hcut
  have HO1 : Hid _ := ho1
  have HO2 : Hid _ := ho2
  clear ho1 ho2
  go_wp2
  go_loopw [33] (fun i wr => ∃ j : Nat, j ≤ h ∧ i = J Y j ∧ Ow wr w.heap.size 22 1 Z (X (some ⟨b1, 0, none⟩) h h) h (fun q => if q < j then cs (2 * q) else 0) ∧ Ow wr w.heap.size 22 1 Z (X (some ⟨b2, 0, none⟩) h h) h (fun q => if q < j then cs (2 * q + 1) else 0) ∧ Gb w wr) (fun i _ => h - (intOf i).toNat)
  case atStart => exact ⟨0, Nat.zero_le _, rfl, Ow.congr HO1.out (fun q hq => by rw [if_neg (by omega)]), Ow.congr HO2.out (fun q hq => by rw [if_neg (by omega)]), hgc⟩
  case round =>
   obtain ⟨j, hj, rfl, ho1, ho2, hgb⟩ := hrel
   have YL : Hid _ := ho1
   have HP2 : Hid _ := ho2
   by_cases hlt : j < h
   ·have hlt' : (j : Int) < (h : Int) := om
    obtain ⟨b1', cap1, e1, hb1, _, _, _, hc1⟩ := ho1.at hpos
    obtain ⟨b2', cap2, e2, hb2, _, _, _, hc2⟩ := ho2.at hpos
    simp only [Value.slice.injEq, Option.some.injEq, Addr.mk.injEq, and_true, true_and] at e1 e2
    obtain ⟨rfl, rfl⟩ := e1
    obtain ⟨rfl, rfl⟩ := e2
    obtain ⟨c1, z1⟩ := hc1 j om
    obtain ⟨c2, z2⟩ := hc2 j om
    rw [if_neg (by omega)] at c1 c2
    obtain ⟨J0, hJ0⟩ : ∃ J0 : Nat, J0 = 2 * j := ⟨_, rfl⟩
    obtain ⟨J1, hJ1⟩ : ∃ J1 : Nat, J1 = 2 * j + 1 := ⟨_, rfl⟩
    obtain ⟨x, hx⟩ : ∃ x, cs (2 * j) = x := ⟨_, rfl⟩
    obtain ⟨y, hy⟩ : ∃ y, cs (2 * j + 1) = y := ⟨_, rfl⟩
    have x0 : wr.cell? ⟨bx, J0, none⟩ = some (J Z x) := by rw [hJ0, ← hx]; exact hgb.old (HX.out _ (by have := HL2.out; omega))
    have x1 : wr.cell? ⟨bx, J1, none⟩ = some (J Z y) := by rw [hJ1, ← hy]; exact hgb.old (HX.out _ (by have := HL2.out; omega))
    have hbx := au (HX.out 0 (by have := HL2.out; omega))
    have u0 : IntKind.i64.wrap (2 * (j : Int)) = (J0 : Int) := wi
    have u1 : IntKind.i64.wrap ((J0 : Int) + 1) = (J1 : Int) := wi
    have i0 : (J0 : Int) < (L : Int) := by have := HL2.out; omega
    have i1 : (J1 : Int) < (L : Int) := by have := HL2.out; omega
    have HJ0 : Hid _ := hJ0
    have HJ1 : Hid _ := hJ1
    have Hx : Hid _ := hx
    have Hy : Hid _ := hy
    clear hJ0 hJ1 hx hy
    clear ho1 ho2 hc1 hc2
    go_wp2
    go_region_held3 (fun w' => w'.cell? ⟨bx, J0, none⟩ = some (J Z x) ∧ w'.cell? ⟨bx, J1, none⟩ = some (J Z y))
     ((go_split_ands; (repeat' apply And.intro) <;> exact kh))
     (first
      | (go_at_call 143; refine kw (UD _ _ _) ?_)
      | (go_at_call 197; refine kw (NT _ _ _) ?_))
    all_goals
     go_wp2
     go_roundw
     case rel =>
      refine ⟨j + 1, om, by go_num, ?_, ?_, kg⟩
      ·refine Ow.drew (Ow.other (Ow.congr (Ow.store YL.out j x) (fun q hq => ?_)) (fun e => hne e.symm) _)
       by_cases e1 : q = j
       ·rw [if_pos e1, if_pos om, e1, Hx.out]
       ·by_cases e2 : q < j
        ·rw [if_neg e1, if_pos e2, if_pos (by omega)]
        ·rw [if_neg e1, if_neg e2, if_neg (by omega)]
      ·refine Ow.drew (Ow.congr (Ow.store (Ow.other HP2.out (fun e => hne e) _) j y) (fun q hq => ?_))
       by_cases e1 : q = j
       ·rw [if_pos e1, if_pos om, e1, Hy.out]
       ·by_cases e2 : q < j
        ·rw [if_neg e1, if_pos e2, if_pos (by omega)]
        ·rw [if_neg e1, if_neg e2, if_neg (by omega)]
     case measure => simp [intOf] <;> omega
   ·obtain rfl : j = h := om
    have vw : ¬ (j : Int) < (j : Int) := om
    rename World => W
    have hS : ∀ w', Gb W w' → Fm w' := fun w' hg => Fm.gb HF.out (hgb.trans hg)
    have r1 : Rd W Z (X (some ⟨b1, 0, none⟩) j j) (2 ^ (k + 1)) (2 ^ (k + 1)) (fun m => cs (2 * m)) := by
     rw [← HH.out]
     have := Ow.rd YL.out
     rw [Nat.mul_one] at this
     exact this.congr (fun q hq => by rw [if_pos hq])
    have r2 : Rd W Z (X (some ⟨b2, 0, none⟩) j j) (2 ^ (k + 1)) (2 ^ (k + 1)) (fun m => cs (2 * m + 1)) := by
     rw [← HH.out]
     have := Ow.rd HP2.out
     rw [Nat.mul_one] at this
     exact this.congr (fun q hq => by rw [if_pos hq])
    obtain ⟨m, hm⟩ : ∃ m, m = 2 ^ k := ⟨_, rfl⟩
    have hm1 : 0 < m := by rw [hm]; exact Nat.pow_pos de
    have hmj : j = 2 * m := by rw [HH.out, hm, Nat.pow_succ]; omega
    have HA : Hid (CT 142 #[J Y K1, X (some ⟨b1, 0, none⟩) j j, .func (.func 143) #[] #[], .func (.func 144) #[] #[], .func (.func 145) #[cv] #[]] W fun e w' => ∃ b cap, e = O (X (some ⟨b, 0, none⟩) m cap) ∧ b < w'.heap.size ∧ (∀ q, q < m * 2 → w'.cell? ⟨b, q, none⟩ = some (J Z (flat (o.tr (k + 1) (fun m => cs (2 * m))) q))) ∧ Gb W w') := by
     show Calls _ _ _ _ _
     refine (IH K1 W _ cv n _ HK1.out (hS _ (Gb.refl _)) r1 (fun _ => hcs _) (CR.gb HC.out hgb) om hn).mono fun e w'' ⟨v, e1, e2, e3⟩ => ?_
     rw [show k + 1 - 1 = k by omega, ← hm] at e2
     obtain ⟨b, cap, rfl, c1, c2, _, _, c3⟩ := e2.at hm1
     exact ⟨b, cap, e1, c2, fun j hj => (c3 j hj).1, e3⟩
    have HB : Hid (∀ W2, Gb W W2 → CT 142 #[J Y K1, X (some ⟨b2, 0, none⟩) j j, .func (.func 143) #[] #[], .func (.func 144) #[] #[], .func (.func 145) #[cv] #[]] W2 fun e w' => ∃ b cap, e = O (X (some ⟨b, 0, none⟩) m cap) ∧ b < w'.heap.size ∧ (∀ q, q < m * 2 → w'.cell? ⟨b, q, none⟩ = some (J Z (flat (o.tr (k + 1) (fun m => cs (2 * m + 1))) q))) ∧ Gb W2 w') := by
     intro W2 hg2
     refine (IH K1 W2 _ cv n _ HK1.out (hS _ hg2) (r2.gb hg2) (fun _ => hcs _) ((CR.gb HC.out hgb).gb hg2) om hn).mono fun e w'' ⟨v, e1, e2, e3⟩ => ?_
     rw [show k + 1 - 1 = k by omega, ← hm] at e2
     obtain ⟨b, cap, rfl, c1, c2, _, _, c3⟩ := e2.at hm1
     exact ⟨b, cap, e1, c2, fun j hj => (c3 j hj).1, e3⟩
    obtain ⟨M2, hM2⟩ : ∃ M2 : Nat, M2 = 2 * m := ⟨_, rfl⟩
    have u2 : IntKind.i64.wrap (2 * (m : Int)) = (M2 : Int) := wi
    have aDV : ∀ w, (Instr.makeSlice 43 (J Y (M2 : Int)) (J Y (M2 : Int))).run Tryz.prog w = .ok (X (some ⟨w.heap.size, 0, none⟩) M2 M2) (w.alloc (.cells (madeCells #[J Z 0, J Z 0] (M2 * 2)) 46)) := fun w => nD 43 46 (.agg #[J Z 0, J Z 0]) 2 16 Tryz.underlying43 UK de M2 om w
    have HM3 : Hid (∀ w : World, Ow (w.alloc (.cells (madeCells #[J Z 0, J Z 0] (M2 * 2)) 46)) w.heap.size 46 2 Z (X (some ⟨w.heap.size, 0, none⟩) M2 M2) M2 (fun _ => 0)) := fun w => Ow.made w 46 2 #[J Z 0, J Z 0] Z (z2 _) M2 om
    have HMj : Hid _ := hmj
    have HM : Hid _ := hm
    have Ey : Hid _ := hM2
    have HGB : Hid _ := hgb
    have Wh : Hid _ := hcs
    have HSS : Hid _ := hS
    have aFh : m ≤ 64 := om
    have aCF : M2 ≤ 128 := om
    clear hmj hm hM2 ho1 ho2 r1 r2 HM2 RV hmk U1 hgb IH hcs hS
    go_wp2_with (first
     | (go_at_call 142; first | (with_reducible refine HA.out.mono ?_; rintro e w2 ⟨ba, ca, rfl, hba, hca, ak⟩) | (go_loud (with_reducible refine (HB.out _ ak).mono ?_); rintro e w3 ⟨bb, cb, rfl, hbb, hcb, aA⟩; have Rw : Hid _ := hca; have Ru : Hid _ := hcb; clear hca hcb)))
    have QM : Gb W w3 := ak.trans aA
    have hsz3 := QM.size
    have QL := (HGB.out : Gb w W).size
    have hAB : Gb w2 w3 := aA
    go_loopw [82] (fun i wr => ∃ j' : Nat, j' ≤ m ∧ i = J Y j' ∧ Ow wr w3.heap.size 46 2 Z (X (some ⟨w3.heap.size, 0, none⟩) M2 M2) M2 (fun q => if q < 4 * j' then flat (o.tr (k + 2) cs) q else 0) ∧ Gb w3 wr) (fun i _ => m - (intOf i).toNat)
    case atStart => exact ⟨0, Nat.zero_le _, rfl, Ow.congr (HM3.out w3) (fun q hq => by rw [if_neg (by omega)]), kg⟩
    case round =>
     obtain ⟨i, hi, rfl, hof, hg3⟩ := hrel
     have HFo : Hid _ := hof
     by_cases hlt : i < m
     ·have hlt' : (i : Int) < (m : Int) := om
      obtain ⟨b', cap', e, _, _, _, _, hcz⟩ := hof.at (by have := Ey.out; omega)
      simp only [Value.slice.injEq, Option.some.injEq, Addr.mk.injEq, and_true, true_and] at e
      obtain ⟨rfl, rfl⟩ := e
      obtain ⟨J0, hJ0⟩ : ∃ J0 : Nat, J0 = 2 * i := ⟨_, rfl⟩
      obtain ⟨J1, hJ1⟩ : ∃ J1 : Nat, J1 = 2 * i + 1 := ⟨_, rfl⟩
      have aA7 := Ey.out
      obtain ⟨c0, z0⟩ := hcz (J0 * 2) om
      obtain ⟨c1, z1⟩ := hcz (J0 * 2 + 1) om
      obtain ⟨c2, z2⟩ := hcz (J1 * 2) om
      obtain ⟨c3, z3⟩ := hcz (J1 * 2 + 1) om
      rw [if_neg (by omega)] at c0 c1 c2 c3
      obtain ⟨a1, ha1⟩ : ∃ a1, (o.tr (k + 1) (fun m => cs (2 * m)) i).1 = a1 := ⟨_, rfl⟩
      obtain ⟨a2, ha2⟩ : ∃ a2, (o.tr (k + 1) (fun m => cs (2 * m)) i).2 = a2 := ⟨_, rfl⟩
      obtain ⟨d1, hd1⟩ : ∃ d1, (o.tr (k + 1) (fun m => cs (2 * m + 1)) i).1 = d1 := ⟨_, rfl⟩
      obtain ⟨d2, hd2⟩ : ∃ d2, (o.tr (k + 1) (fun m => cs (2 * m + 1)) i).2 = d2 := ⟨_, rfl⟩
      have p0 : wr.cell? ⟨ba, i * 2, none⟩ = some (J Z a1) := by rw [← ha1, ← aZ, Nat.mul_comm]; exact hg3.old (hAB.old (Rw.out (2 * i) om))
      have p1 : wr.cell? ⟨ba, i * 2 + 1, none⟩ = some (J Z a2) := by rw [← ha2, ← bC, Nat.mul_comm]; exact hg3.old (hAB.old (Rw.out (2 * i + 1) om))
      have p2 : wr.cell? ⟨bb, i * 2, none⟩ = some (J Z d1) := by rw [← hd1, ← aZ, Nat.mul_comm]; exact hg3.old (Ru.out (2 * i) om)
      have p3 : wr.cell? ⟨bb, i * 2 + 1, none⟩ = some (J Z d2) := by rw [← hd2, ← bC, Nat.mul_comm]; exact hg3.old (Ru.out (2 * i + 1) om)
      have wE := HI.tr (k + 1) (fun m => cs (2 * m)) i (fun _ => Wh.out _)
      have wO := HI.tr (k + 1) (fun m => cs (2 * m + 1)) i (fun _ => Wh.out _)
      unfold mF at wE wO
      rw [ha1, ha2] at wE
      rw [hd1, hd2] at wO
      obtain ⟨x, y, hxy⟩ : ∃ x y, o.rt (k + 2) (2 * i) = (x, y) := ⟨_, _, rfl⟩
      have wX := HI.rt (k + 2) (2 * i)
      rw [hxy] at wX
      have Ya : Gb w wr := Gb.trans (Gb.trans HGB.out QM) hg3
      have HSp : Hid (∀ w', Gb w w' → QW 145 #[cv, J Y K, J Y i] w' (.func (.func 198) #[.agg #[J Z x, J Z y]] #[])) := fun w' hg => by
       rw [show K = ((k + 2 : Nat) : Int) from HK.out]
       exact Jc (CR.gb HC.out hg) (k + 2) i om hk hn (by rw [show k + 2 - 1 = k + 1 by omega, Nat.pow_succ, ← HM.out]; omega) x y hxy
      obtain ⟨t, ht⟩ : ∃ t, o.cMul (x, y) (d1, d2) = t := ⟨_, rfl⟩
      have WI : Hid (∀ w', Gb w w' → QR 198 #[.agg #[J Z x, J Z y], .agg #[J Z a1, J Z a2], .agg #[J Z d1, J Z d2]] w' (.tuple #[.agg #[J Z (o.add a1 t.1), J Z (o.add a2 t.2)], .agg #[J Z (o.sub a1 t.1), J Z (o.sub a2 t.2)]])) := fun w' hg => QX H HI wX.1 wX.2 wE.1 wE.2 wO.1 wO.2 (Fm.gb HF.out hg) t ht
      have s0 : o.tr (k + 2) cs (2 * i) = (o.add a1 t.1, o.add a2 t.2) := by
       simp only [Ops.tr]
       rw [if_pos om, show 2 * i / 2 = i by omega, hxy, show o.tr (k + 1) (fun m => cs (2 * m + 1)) i = (d1, d2) by rw [← hd1, ← hd2], ht]
       unfold Ops.cAdd
       rw [ha1, ha2]
      have s1 : o.tr (k + 2) cs (2 * i + 1) = (o.sub a1 t.1, o.sub a2 t.2) := by
       simp only [Ops.tr]
       rw [if_neg om, show (2 * i + 1) / 2 = i by omega, hxy, show o.tr (k + 1) (fun m => cs (2 * m + 1)) i = (d1, d2) by rw [← hd1, ← hd2], ht]
       unfold Ops.cSub
       rw [ha1, ha2]
      obtain ⟨v0, hv0⟩ : ∃ v0, o.add a1 t.1 = v0 := ⟨_, rfl⟩
      obtain ⟨v1, hv1⟩ : ∃ v1, o.add a2 t.2 = v1 := ⟨_, rfl⟩
      obtain ⟨v2, hv2⟩ : ∃ v2, o.sub a1 t.1 = v2 := ⟨_, rfl⟩
      obtain ⟨v3, hv3⟩ : ∃ v3, o.sub a2 t.2 = v3 := ⟨_, rfl⟩
      rw [hv0, hv1] at s0
      rw [hv2, hv3] at s1
      rw [hv0, hv1, hv2, hv3] at WI
      have f0 : Hid (flat (o.tr (k + 2) cs) (J0 * 2) = v0) := by show _ = _; rw [Nat.mul_comm, aZ, hJ0, s0]
      have f1 : Hid (flat (o.tr (k + 2) cs) (J0 * 2 + 1) = v1) := by show _ = _; rw [Nat.mul_comm, bC, hJ0, s0]
      have f2 : Hid (flat (o.tr (k + 2) cs) (J1 * 2) = v2) := by show _ = _; rw [Nat.mul_comm, aZ, hJ1, s1]
      have f3 : Hid (flat (o.tr (k + 2) cs) (J1 * 2 + 1) = v3) := by show _ = _; rw [Nat.mul_comm, bC, hJ1, s1]
      have u0 : IntKind.i64.wrap (2 * (i : Int)) = (J0 : Int) := wi
      have u1 : IntKind.i64.wrap ((J0 : Int) + 1) = (J1 : Int) := wi
      have i0 : (J0 : Int) < (M2 : Int) := om
      have i1 : (J1 : Int) < (M2 : Int) := om
      have HJ0 : Hid _ := hJ0
      have HJ1 : Hid _ := hJ1
      have n0 : ¬ J0 = J1 := om
      have n1 : ¬ J0 * 2 = J1 * 2 := om
      have n2 : ¬ J0 * 2 + 1 = J1 * 2 := om
      have n3 : ¬ J0 * 2 = J1 * 2 + 1 := om
      have n4 : ¬ J0 * 2 + 1 = J1 * 2 + 1 := om
      have hsb : ba < w3.heap.size := by have := hAB.size; omega
      have aCo := hg3.size
      clear hof hcz hJ0 hJ1 aA7 ha1 ha2 hd1 hd2 wE wO hxy wX ht s0 s1 hv0 hv1 hv2 hv3
      go_wp2
      go_region_held3 (fun w' => w'.cell? ⟨ba, i * 2, none⟩ = some (J Z a1) ∧ w'.cell? ⟨ba, i * 2 + 1, none⟩ = some (J Z a2) ∧ w'.cell? ⟨bb, i * 2, none⟩ = some (J Z d1) ∧ w'.cell? ⟨bb, i * 2 + 1, none⟩ = some (J Z d2))
       ((go_split_ands; (repeat' apply And.intro) <;> exact kh))
       (first
        | (go_at_call 145; refine kw (HSp.out _ kg) ?_)
        | (go_at_call 198; refine (WI.out _ kg).mono ?_; rintro e w5 ⟨rfl, aJ⟩; have cc0 : w5.cell? ⟨w3.heap.size, J0 * 2, none⟩ = some (J Z 0) := aJ.c; have RJ : w5.frozen? ⟨w3.heap.size, J0 * 2, none⟩ = false := aJ.z; have cc1 : w5.cell? ⟨w3.heap.size, J0 * 2 + 1, none⟩ = some (J Z 0) := aJ.c; have RI : w5.frozen? ⟨w3.heap.size, J0 * 2 + 1, none⟩ = false := aJ.z; have VJ : w5.cell? ⟨w3.heap.size, J1 * 2, none⟩ = some (J Z 0) := aJ.c; have cz2 : w5.frozen? ⟨w3.heap.size, J1 * 2, none⟩ = false := aJ.z; have cc3 : w5.cell? ⟨w3.heap.size, J1 * 2 + 1, none⟩ = some (J Z 0) := aJ.c; have cz3 : w5.frozen? ⟨w3.heap.size, J1 * 2 + 1, none⟩ = false := aJ.z))
      all_goals
       go_wp2
       go_roundw
       case rel =>
        refine ⟨i + 1, om, by go_num, ?_, kg⟩
        refine Ow.congr (Ow.store (Ow.store (Ow.store (Ow.store (Ow.gb (Ow.drew HFo.out) aJ.gb) (J0 * 2) v0) (J0 * 2 + 1) v1) (J1 * 2) v2) (J1 * 2 + 1) v3) (fun q hq => ?_)
        have j0 := HJ0.out
        have j1 := HJ1.out
        by_cases e3 : q = J1 * 2 + 1
        ·rw [if_pos e3, if_pos om, e3]; exact f3.out.symm
        ·by_cases e2 : q = J1 * 2
         ·rw [if_neg e3, if_pos e2, if_pos om, e2]; exact f2.out.symm
         ·by_cases e1 : q = J0 * 2 + 1
          ·rw [if_neg e3, if_neg e2, if_pos e1, if_pos om, e1]; exact f1.out.symm
          ·by_cases e0 : q = J0 * 2
           ·rw [if_neg e3, if_neg e2, if_neg e1, if_pos e0, if_pos om, e0]; exact f0.out.symm
           ·by_cases e4 : q < 4 * i
            ·rw [if_neg e3, if_neg e2, if_neg e1, if_neg e0, if_pos e4, if_pos (by omega)]
            ·rw [if_neg e3, if_neg e2, if_neg e1, if_neg e0, if_neg e4, if_neg (by omega)]
       case measure => simp [intOf] <;> omega
     ·obtain rfl : i = m := om
      have aDW : ¬ (i : Int) < (i : Int) := om
      have eM : 2 ^ (k + 1) = M2 := by rw [Nat.pow_succ, ← HM.out, Ey.out]; omega
      have Ya : Gb w wr := Gb.trans (Gb.trans HGB.out QM) hg3
      clear hof
      go_wp2
      go_returns
      refine ⟨_, rfl, ?_, Ya⟩
      exact Ow.mono (Ow.congr HFo.out (fun q hq => by rw [if_pos (by have := Ey.out; omega)])) om
theorem MV {o : Ops} (H : o.I) (HI : o.In) : ∀ k : Nat, 1 ≤ k → Ij o k
 | 0, h => absurd h om
 | 1, _ => Ov o
 | k + 2, _ => IX H HI k (MV H HI (k + 1) om)
theorem Qa {o : Ops} {v : Value} {zs : Nat → Int × Int} {w : World} (hr : Rd w Z v 1 2 (flat zs)) :
  CT 149 #[v] w fun e w' => ∃ v', e = O v' ∧ Ow w' w.heap.size 22 1 Z v' 2 (o.bk 1 zs) ∧ Gb w w' := by
 obtain ⟨b, cap, rfl, h1, h2, hc⟩ := hr.at om
 have c0 : w.cell? ⟨b, 0, none⟩ = some (J Z (zs 0).1) := hc 0 om
 have c1 : w.cell? ⟨b, 1, none⟩ = some (J Z (zs 0).2) := hc 1 om
 have e0 : o.bk 1 zs 0 = (zs 0).1 := rfl
 have e1 : o.bk 1 zs 1 = (zs 0).2 := rfl
 generalize o.bk 1 zs = f at *
 generalize (zs 0).1 = x at *
 generalize (zs 0).2 = y at *
 clear hr hc
 go_enter func149, ntmps149
 go_wp2
 go_region
 all_goals go_wp2
 all_goals go_returns
 all_goals
  refine ⟨_, rfl, ?_, kg⟩
  have := World.ownsRow_lit (base := w.heap.size) (e := 22) (size := 1) w.drew #[J Z x, J Z y] 2 (Nat.le_refl _) de rfl
  refine Ow.congr (g := fun j => if j = 0 then x else y) this (fun j hj => ?_)
  match j, hj with
  | 0, _ => exact e0.symm
  | 1, _ => exact e1.symm
theorem KG {o : Ops} {w : World} {cv : Value} {n : Nat} (hc : CR o w cv n) (k j : Nat) (hk1 : 1 ≤ k) (hk : k < n) (hn : n ≤ 7) (hj : 2 * j < 2 ^ (k - 1)) (x y : Int) (hx : o.rt k (2 * j) = (x, y)) :
  QW 148 #[cv, J Y k, J Y j] w (.func (.func 199) #[.agg #[J Z x, J Z y]] #[]) := by
 obtain ⟨g, cap, rfl, h2⟩ := hc
 obtain ⟨b, cp, h3, h4⟩ := h2 k hk1 hk
 obtain ⟨m, hm⟩ : ∃ m, 2 ^ (k - 1) = m := ⟨_, rfl⟩
 rw [hm] at h3 h4 hj
 have hmm : m ≤ 64 := by
  rw [← hm]
  have := Nat.pow_le_pow_right (show 0 < 2 by decide) (show k - 1 ≤ 6 by omega)
  omega
 have c0 : w.cell? ⟨b, 2 * j * 2, none⟩ = some (J Z x) := by rw [h4 _ om, Nat.mul_comm, aZ, hx]
 have c1 : w.cell? ⟨b, 2 * j * 2 + 1, none⟩ = some (J Z y) := by rw [h4 _ om, show 2 * j * 2 + 1 = 2 * (2 * j) + 1 by omega, bC, hx]
 have hk' : (k : Int) < (n : Int) := om
 have hj' : 2 * (j : Int) < (m : Int) := om
 clear h2 h4 hm hx
 go_enter func148, ntmps148
 go_wp2
 go_returns
 exact ⟨rfl, rfl⟩
def Ik (o : Ops) (k : Nat) : Prop := ∀ (K : Int) (w : World) (v cv : Value) (n : Nat) (zs : Nat → Int × Int), K = (k : Int) → Fm w → Rd w Z v (2 ^ (k - 1)) (2 ^ (k - 1) * 2) (flat zs) → (∀ j, mF (zs j)) → CR o w cv n → k < n → n ≤ 7 →
 CT 147 #[J Y K, v, .func (.func 148) #[cv] #[], .func (.func 149) #[] #[], .func (.func 143) #[] #[]] w fun e w' => ∃ v', e = O v' ∧ Ow w' w.heap.size 22 1 Z v' (2 ^ k) (o.bk k zs) ∧ Gb w w'
theorem Ox (o : Ops) : Ik o 1 := by
 intro K w v cv n zs hK hw hr hcs hc hk hn
 have HV : Hid (CT 149 #[v] w fun e w' => ∃ v', e = O v' ∧ Ow w' w.heap.size 22 1 Z v' 2 (o.bk 1 zs) ∧ Gb w w') := Qa hr
 obtain rfl : K = 1 := hK
 clear hw hr hcs hc hk hn
 go_enter func147, ntmps147
 go_wp2_with (go_at_call 149; refine HV.out.mono ?_; rintro e w1 ⟨v', rfl, ho1, aj⟩)
 go_returns
 exact ⟨_, rfl, ho1, aj⟩
theorem IY {o : Ops} (H : o.I) (HI : o.In) (k : Nat) (IH : Ik o (k + 1)) : Ik o (k + 2) := by
 intro K w v cv n zs hK hw hr hcs hc hk hn
 unfold Ik at IH
 obtain ⟨K1, hK1⟩ : ∃ K1 : Int, K1 = ((k + 1 : Nat) : Int) := ⟨_, rfl⟩
 have uK : IntKind.i64.wrap (K - 1) = K1 := wi
 obtain ⟨h, hh⟩ : ∃ h, h = 2 ^ k := ⟨_, rfl⟩
 obtain ⟨L, hL⟩ : ∃ L, L = 2 ^ (k + 1) := ⟨_, rfl⟩
 have h2 : L = h + h := by rw [hL, hh, Nat.pow_succ]; omega
 have hmax : h ≤ 32 := by
  rw [hh]
  have := Nat.pow_le_pow_right (show 0 < 2 by decide) (show k ≤ 5 by omega)
  omega
 have hpos : 0 < h := by rw [hh]; exact Nat.pow_pos de
 rw [show k + 2 - 1 = k + 1 by omega, ← hL] at hr
 obtain ⟨bx, cx, rfl, hx1, hx2, hxc⟩ := hr.at om
 have HX : Hid _ := hxc
 have HC : Hid _ := hc
 have HF : Hid _ := hw
 have HH : Hid _ := hh
 have HLe : Hid _ := hL
 have hmk : ∀ w, (Instr.makeSlice 43 (J Y (h : Int)) (J Y (h : Int))).run Tryz.prog w = .ok (X (some ⟨w.heap.size, 0, none⟩) h h) (w.alloc (.cells (madeCells #[J Z 0, J Z 0] (h * 2)) 46)) := fun w => nD 43 46 (.agg #[J Z 0, J Z 0]) 2 16 Tryz.underlying43 UK de h om w
 have U1 : (L : Int) / 2 = (h : Int) := om
 have RV : Hid (∀ w : World, Ow (w.alloc (.cells (madeCells #[J Z 0, J Z 0] (h * 2)) 46)) w.heap.size 46 2 Z (X (some ⟨w.heap.size, 0, none⟩) h h) h (fun _ => 0)) := fun w => Ow.made w 46 2 #[J Z 0, J Z 0] Z (Go.Proofs.YtnbbfeknbfohhaaGreatDoor.z2 _) h om
 have HM2 : Hid (∀ (w : World) (ob : Obj), Ow ((w.alloc ob).alloc (.cells (madeCells #[J Z 0, J Z 0] (h * 2)) 46)) w.heap.size 46 2 Z (X (some ⟨w.heap.size + 1, 0, none⟩) h h) h (fun _ => 0)) := fun w ob => by have := RV.out (w.alloc ob); rw [World.size_alloc] at this; exact this.mono om
 have k3 : (K == 1) = false := by simp; omega
 have HK1 : Hid _ := hK1
 have HK : Hid _ := hK
 have HL2 : Hid _ := h2
 have aCG : L ≤ 64 := om
 have Wh : Hid _ := hcs
 clear hK1 hK hr hxc hc hw hh hL h2
 go_enter func147, ntmps147
 go_wp2
 go_cut [11, 12] (fun f s wx => ∃ b1 b2 : Nat, f = X (some ⟨b1, 0, none⟩) h h ∧ s = X (some ⟨b2, 0, none⟩) h h ∧ b1 ≠ b2 ∧ Ow wx w.heap.size 46 2 Z (X (some ⟨b1, 0, none⟩) h h) h (fun _ => 0) ∧ Ow wx w.heap.size 46 2 Z (X (some ⟨b2, 0, none⟩) h h) h (fun _ => 0) ∧ Gb w wx)
 case first =>
  exact Y3
 case rest =>
  obtain ⟨b1, b2, rfl, rfl, hne, ho1, ho2, hgc⟩ := hcut
  have HO1 : Hid _ := ho1
  have HO2 : Hid _ := ho2
  clear ho1 ho2
  go_wp2
  go_loopw [33] (fun i wr => ∃ j : Nat, j ≤ h ∧ i = J Y j ∧ Ow wr w.heap.size 46 2 Z (X (some ⟨b1, 0, none⟩) h h) h (fun q => if q < 2 * j then flat (o.xC zs) q else 0) ∧ Ow wr w.heap.size 46 2 Z (X (some ⟨b2, 0, none⟩) h h) h (fun q => if q < 2 * j then flat (o.yG (k + 2) zs) q else 0) ∧ Gb w wr) (fun i _ => h - (intOf i).toNat)
  case atStart => exact ⟨0, Nat.zero_le _, rfl, Ow.congr HO1.out (fun q hq => by rw [if_neg (by omega)]), Ow.congr HO2.out (fun q hq => by rw [if_neg (by omega)]), hgc⟩
  case round =>
   obtain ⟨j, hj, rfl, ho1, ho2, hgb⟩ := hrel
   have YL : Hid _ := ho1
   have HP2 : Hid _ := ho2
   by_cases hlt : j < h
   ·have hlt' : (j : Int) < (h : Int) := om
    obtain ⟨b1', cap1, e1, hb1, hB1, _, _, hc1⟩ := ho1.at hpos
    obtain ⟨b2', cap2, e2, hb2, hB2, _, _, hc2⟩ := ho2.at hpos
    simp only [Value.slice.injEq, Option.some.injEq, Addr.mk.injEq, and_true, true_and] at e1 e2
    obtain ⟨rfl, rfl⟩ := e1
    obtain ⟨rfl, rfl⟩ := e2
    obtain ⟨c1, z1⟩ := hc1 (j * 2) om
    obtain ⟨c1', z1'⟩ := hc1 (j * 2 + 1) om
    obtain ⟨c2, z2⟩ := hc2 (j * 2) om
    obtain ⟨c2', z2'⟩ := hc2 (j * 2 + 1) om
    rw [if_neg (by omega)] at c1 c2 c1' c2'
    obtain ⟨J0, hJ0⟩ : ∃ J0 : Nat, J0 = 2 * j := ⟨_, rfl⟩
    obtain ⟨J1, hJ1⟩ : ∃ J1 : Nat, J1 = 2 * j + 1 := ⟨_, rfl⟩
    obtain ⟨x1, x2, hx⟩ : ∃ x1 x2, zs (2 * j) = (x1, x2) := ⟨_, _, rfl⟩
    obtain ⟨y1, y2, hy⟩ : ∃ y1 y2, zs (2 * j + 1) = (y1, y2) := ⟨_, _, rfl⟩
    have hLL := HL2.out
    have p0 : wr.cell? ⟨bx, J0 * 2, none⟩ = some (J Z x1) := by have := hgb.old (HX.out (2 * (2 * j)) om); rw [aZ, hx] at this; rw [hJ0, Nat.mul_comm]; exact this
    have p1 : wr.cell? ⟨bx, J0 * 2 + 1, none⟩ = some (J Z x2) := by have := hgb.old (HX.out (2 * (2 * j) + 1) om); rw [bC, hx] at this; rw [hJ0, Nat.mul_comm]; exact this
    have p2 : wr.cell? ⟨bx, J1 * 2, none⟩ = some (J Z y1) := by have := hgb.old (HX.out (2 * (2 * j + 1)) om); rw [aZ, hy] at this; rw [hJ1, Nat.mul_comm]; exact this
    have p3 : wr.cell? ⟨bx, J1 * 2 + 1, none⟩ = some (J Z y2) := by have := hgb.old (HX.out (2 * (2 * j + 1) + 1) om); rw [bC, hy] at this; rw [hJ1, Nat.mul_comm]; exact this
    have hbx := au (HX.out 0 om)
    have wZ := Wh.out (2 * j)
    have wY := Wh.out (2 * j + 1)
    rw [hx] at wZ
    rw [hy] at wY
    obtain ⟨r, s, hrs⟩ : ∃ r s, o.rt (k + 2) (2 * j) = (r, s) := ⟨_, _, rfl⟩
    have wR := HI.rt (k + 2) (2 * j)
    rw [hrs] at wR
    have HSp : Hid (∀ w', Gb w w' → QW 148 #[cv, J Y K, J Y j] w' (.func (.func 199) #[.agg #[J Z r, J Z s]] #[])) := fun w' hg => by
     rw [show K = ((k + 2 : Nat) : Int) from HK.out]
     exact KG (CR.gb HC.out hg) (k + 2) j om hk hn (by rw [show k + 2 - 1 = k + 1 by omega, ← HLe.out]; omega) r s hrs
    obtain ⟨t, ht⟩ : ∃ t, o.xC zs j = t := ⟨_, rfl⟩
    obtain ⟨u, hu⟩ : ∃ u, o.yG (k + 2) zs j = u := ⟨_, rfl⟩
    have WI : Hid (∀ w', Gb w w' → QR 199 #[.agg #[J Z r, J Z s], .agg #[J Z x1, J Z x2], .agg #[J Z y1, J Z y2]] w' (.tuple #[.agg #[J Z t.1, J Z t.2], .agg #[J Z u.1, J Z u.2]])) := fun w' hg => QZ H HI wR.1 wR.2 wZ.1 wZ.2 wY.1 wY.2 (Fm.gb HF.out hg) t u (by rw [← ht, ← hx, ← hy]; rfl) (by rw [← hu, ← hx, ← hy, ← hrs]; rfl)
    obtain ⟨t1, t2⟩ := t
    obtain ⟨u1, u2⟩ := u
    dsimp only at WI
    have f0 : Hid (flat (o.xC zs) (j * 2) = t1) := by show _ = _; rw [Nat.mul_comm, aZ, ht]
    have f1 : Hid (flat (o.xC zs) (j * 2 + 1) = t2) := by show _ = _; rw [Nat.mul_comm, bC, ht]
    have f2 : Hid (flat (o.yG (k + 2) zs) (j * 2) = u1) := by show _ = _; rw [Nat.mul_comm, aZ, hu]
    have f3 : Hid (flat (o.yG (k + 2) zs) (j * 2 + 1) = u2) := by show _ = _; rw [Nat.mul_comm, bC, hu]
    have v0 : IntKind.i64.wrap (2 * (j : Int)) = (J0 : Int) := wi
    have v1 : IntKind.i64.wrap ((J0 : Int) + 1) = (J1 : Int) := wi
    have i0 : (J0 : Int) < (L : Int) := om
    have i1 : (J1 : Int) < (L : Int) := om
    clear ho1 ho2 hc1 hc2 hJ0 hJ1 hx hy hLL wZ wY wR hrs ht hu
    go_wp2
    go_region_held3 (fun w' => w'.cell? ⟨bx, J0 * 2, none⟩ = some (J Z x1) ∧ w'.cell? ⟨bx, J0 * 2 + 1, none⟩ = some (J Z x2) ∧ w'.cell? ⟨bx, J1 * 2, none⟩ = some (J Z y1) ∧ w'.cell? ⟨bx, J1 * 2 + 1, none⟩ = some (J Z y2))
     ((go_split_ands; (repeat' apply And.intro) <;> exact kh))
     (first
      | (go_at_call 148; refine kw (HSp.out _ kg) ?_)
      | (go_at_call 199; refine (WI.out _ kg).mono ?_; rintro e w5 ⟨rfl, aJ⟩; have UM := aJ.size; (try simp only [World.size_drew] at UM); have cc0 : w5.cell? ⟨b1, j * 2, none⟩ = some (J Z 0) := aJ.c; have RJ : w5.frozen? ⟨b1, j * 2, none⟩ = false := aJ.z; have cc1 : w5.cell? ⟨b1, j * 2 + 1, none⟩ = some (J Z 0) := aJ.c; have RI : w5.frozen? ⟨b1, j * 2 + 1, none⟩ = false := aJ.z; have VJ : w5.cell? ⟨b2, j * 2, none⟩ = some (J Z 0) := aJ.c; have cz2 : w5.frozen? ⟨b2, j * 2, none⟩ = false := aJ.z; have cc3 : w5.cell? ⟨b2, j * 2 + 1, none⟩ = some (J Z 0) := aJ.c; have cz3 : w5.frozen? ⟨b2, j * 2 + 1, none⟩ = false := aJ.z))
    all_goals
     go_wp2
     go_roundw
     case rel =>
      refine ⟨j + 1, om, by go_num, ?_, ?_, kg⟩
      ·refine Ow.other (Ow.other (Ow.congr (Ow.store (Ow.store (Ow.gb (Ow.drew YL.out) aJ.gb) (j * 2) t1) (j * 2 + 1) t2) (fun q hq => ?_)) (fun e => hne e.symm) _) (fun e => hne e.symm) _
       by_cases e1 : q = j * 2 + 1
       ·rw [if_pos e1, if_pos om, e1]; exact f1.out.symm
       ·by_cases e0 : q = j * 2
        ·rw [if_neg e1, if_pos e0, if_pos om, e0]; exact f0.out.symm
        ·by_cases e2 : q < 2 * j
         ·rw [if_neg e1, if_neg e0, if_pos e2, if_pos (by omega)]
         ·rw [if_neg e1, if_neg e0, if_neg e2, if_neg (by omega)]
      ·refine Ow.congr (Ow.store (Ow.store (Ow.other (Ow.other (Ow.gb (Ow.drew HP2.out) aJ.gb) (fun e => hne e) _) (fun e => hne e) _) (j * 2) u1) (j * 2 + 1) u2) (fun q hq => ?_)
       by_cases e1 : q = j * 2 + 1
       ·rw [if_pos e1, if_pos om, e1]; exact f3.out.symm
       ·by_cases e0 : q = j * 2
        ·rw [if_neg e1, if_pos e0, if_pos om, e0]; exact f2.out.symm
        ·by_cases e2 : q < 2 * j
         ·rw [if_neg e1, if_neg e0, if_pos e2, if_pos (by omega)]
         ·rw [if_neg e1, if_neg e0, if_neg e2, if_neg (by omega)]
     case measure => simp [intOf] <;> omega
   ·obtain rfl : j = h := om
    have vw : ¬ (j : Int) < (j : Int) := om
    rename World => W
    have hS : ∀ w', Gb W w' → Fm w' := fun w' hg => Fm.gb HF.out (hgb.trans hg)
    have r1 : Rd W Z (X (some ⟨b1, 0, none⟩) j j) (2 ^ (k + 1 - 1)) (2 ^ (k + 1 - 1) * 2) (flat (o.xC zs)) := by
     rw [show k + 1 - 1 = k by omega, ← HH.out]
     exact (Ow.rd YL.out).congr (fun q hq => by rw [if_pos (by omega)])
    have r2 : Rd W Z (X (some ⟨b2, 0, none⟩) j j) (2 ^ (k + 1 - 1)) (2 ^ (k + 1 - 1) * 2) (flat (o.yG (k + 2) zs)) := by
     rw [show k + 1 - 1 = k by omega, ← HH.out]
     exact (Ow.rd HP2.out).congr (fun q hq => by rw [if_pos (by omega)])
    have hL1 : 0 < L := by have := HL2.out; omega
    have HA : Hid (CT 147 #[J Y K1, X (some ⟨b1, 0, none⟩) j j, .func (.func 148) #[cv] #[], .func (.func 149) #[] #[], .func (.func 143) #[] #[]] W fun e w' => ∃ b cap, e = O (X (some ⟨b, 0, none⟩) L cap) ∧ b < w'.heap.size ∧ (∀ q, q < L → w'.cell? ⟨b, q, none⟩ = some (J Z (o.bk (k + 1) (o.xC zs) q))) ∧ Gb W w') := by
     show Calls _ _ _ _ _
     refine (IH K1 W _ cv n _ HK1.out (hS _ (Gb.refl _)) r1 (HI.xC hcs) (CR.gb HC.out hgb) om hn).mono fun e w'' ⟨v, e1, e2, e3⟩ => ?_
     rw [← HLe.out] at e2
     obtain ⟨b, cap, rfl, c1, c2, _, _, c3⟩ := e2.at hL1
     exact ⟨b, cap, e1, c2, fun j hj => (c3 j om).1, e3⟩
    have HB : Hid (∀ W2, Gb W W2 → CT 147 #[J Y K1, X (some ⟨b2, 0, none⟩) j j, .func (.func 148) #[cv] #[], .func (.func 149) #[] #[], .func (.func 143) #[] #[]] W2 fun e w' => ∃ b cap, e = O (X (some ⟨b, 0, none⟩) L cap) ∧ b < w'.heap.size ∧ (∀ q, q < L → w'.cell? ⟨b, q, none⟩ = some (J Z (o.bk (k + 1) (o.yG (k + 2) zs) q))) ∧ Gb W2 w') := by
     intro W2 hg2
     refine (IH K1 W2 _ cv n _ HK1.out (hS _ hg2) (r2.gb hg2) (HI.yG _ hcs) ((CR.gb HC.out hgb).gb hg2) om hn).mono fun e w'' ⟨v, e1, e2, e3⟩ => ?_
     rw [← HLe.out] at e2
     obtain ⟨b, cap, rfl, c1, c2, _, _, c3⟩ := e2.at hL1
     exact ⟨b, cap, e1, c2, fun j hj => (c3 j om).1, e3⟩
    obtain ⟨M2, hM2⟩ : ∃ M2 : Nat, M2 = 2 * L := ⟨_, rfl⟩
    have u2 : IntKind.i64.wrap (2 * (L : Int)) = (M2 : Int) := wi
    have aDV : ∀ w, (Instr.makeSlice 39 (J Y (M2 : Int)) (J Y (M2 : Int))).run Tryz.prog w = .ok (X (some ⟨w.heap.size, 0, none⟩) M2 M2) (w.alloc (.cells (madeCells #[J Z 0] (M2 * 1)) 22)) := fun w => nD 39 22 (J Z 0) 1 8 Tryz.underlying39 NU de M2 om w
    have HM3 : Hid (∀ w : World, Ow (w.alloc (.cells (madeCells #[J Z 0] M2) 22)) w.heap.size 22 1 Z (X (some ⟨w.heap.size, 0, none⟩) M2 M2) M2 (fun _ => 0)) := fun w => by have := Ow.made w 22 1 #[J Z 0] Z (Go.Proofs.YtnbbfeknbfohhaaGreatDoor.z1 _) M2 (by omega); rw [Nat.mul_one] at this; exact this
    have Ey : Hid _ := hM2
    have HGB : Hid _ := hgb
    have aCF : M2 ≤ 128 := om
    clear hM2 ho1 ho2 r1 r2 HM2 RV hmk U1 hgb IH hcs hS
    go_wp2_with (first
     | (go_at_call 147; first | (with_reducible refine HA.out.mono ?_; rintro e w2 ⟨ba, ca, rfl, hba, hca, ak⟩) | (go_loud (with_reducible refine (HB.out _ ak).mono ?_); rintro e w3 ⟨bb, cb, rfl, hbb, hcb, aA⟩; have Rw : Hid _ := hca; have Ru : Hid _ := hcb; clear hca hcb)))
    have QM : Gb W w3 := ak.trans aA
    have hsz3 := QM.size
    have QL := (HGB.out : Gb w W).size
    have hAB : Gb w2 w3 := aA
    go_loopw [82] (fun i wr => ∃ j' : Nat, j' ≤ L ∧ i = J Y j' ∧ Ow wr w3.heap.size 22 1 Z (X (some ⟨w3.heap.size, 0, none⟩) M2 M2) M2 (fun q => if q < 2 * j' then o.bk (k + 2) zs q else 0) ∧ Gb w3 wr) (fun i _ => L - (intOf i).toNat)
    case atStart => exact ⟨0, Nat.zero_le _, rfl, Ow.congr (HM3.out w3) (fun q hq => by rw [if_neg (by omega)]), kg⟩
    case round =>
     obtain ⟨i, hi, rfl, hof, hg3⟩ := hrel
     have HFo : Hid _ := hof
     by_cases hlt : i < L
     ·have hlt' : (i : Int) < (L : Int) := om
      obtain ⟨b', cap', e, _, _, _, _, hcz⟩ := hof.at (by have := Ey.out; omega)
      simp only [Value.slice.injEq, Option.some.injEq, Addr.mk.injEq, and_true, true_and] at e
      obtain ⟨rfl, rfl⟩ := e
      obtain ⟨J0, hJ0⟩ : ∃ J0 : Nat, J0 = 2 * i := ⟨_, rfl⟩
      obtain ⟨J1, hJ1⟩ : ∃ J1 : Nat, J1 = 2 * i + 1 := ⟨_, rfl⟩
      have aA7 := Ey.out
      obtain ⟨c0, z0⟩ := hcz J0 om
      obtain ⟨c1, z1⟩ := hcz J1 om
      rw [if_neg (by omega)] at c0 c1
      obtain ⟨x, hx⟩ : ∃ x, o.bk (k + 1) (o.xC zs) i = x := ⟨_, rfl⟩
      obtain ⟨y, hy⟩ : ∃ y, o.bk (k + 1) (o.yG (k + 2) zs) i = y := ⟨_, rfl⟩
      have p0 : wr.cell? ⟨ba, i, none⟩ = some (J Z x) := by rw [← hx]; exact hg3.old (hAB.old (Rw.out i om))
      have p1 : wr.cell? ⟨bb, i, none⟩ = some (J Z y) := by rw [← hy]; exact hg3.old (Ru.out i om)
      have f0 : Hid (o.bk (k + 2) zs J0 = x) := by show _ = _; simp only [Ops.bk]; rw [if_pos om, show J0 / 2 = i by omega, hx]
      have f1 : Hid (o.bk (k + 2) zs J1 = y) := by show _ = _; simp only [Ops.bk]; rw [if_neg om, show J1 / 2 = i by omega, hy]
      have u0 : IntKind.i64.wrap (2 * (i : Int)) = (J0 : Int) := wi
      have u1 : IntKind.i64.wrap ((J0 : Int) + 1) = (J1 : Int) := wi
      have i0 : (J0 : Int) < (M2 : Int) := om
      have i1 : (J1 : Int) < (M2 : Int) := om
      have n0 : ¬ J0 = J1 := om
      have HJ0 : Hid _ := hJ0
      have HJ1 : Hid _ := hJ1
      have hsb : ba < w3.heap.size := by have := hAB.size; omega
      have aCo := hg3.size
      clear hof hcz hJ0 hJ1 aA7 hx hy
      go_wp2
      go_region_held3 (fun w' => w'.cell? ⟨ba, i, none⟩ = some (J Z x) ∧ w'.cell? ⟨bb, i, none⟩ = some (J Z y))
       ((go_split_ands; (repeat' apply And.intro) <;> exact kh))
       (first
        | (go_at_call 143; refine kw (UD _ _ _) ?_)
        | (go_at_call 197; refine kw (NT _ _ _) ?_))
      all_goals
       go_wp2
       go_roundw
       case rel =>
        refine ⟨i + 1, om, by go_num, ?_, kg⟩
        refine Ow.drew (Ow.congr (Ow.store (Ow.store HFo.out J0 x) J1 y) (fun q hq => ?_))
        have j0 := HJ0.out
        have j1 := HJ1.out
        by_cases e1 : q = J1
        ·rw [if_pos e1, if_pos om, e1]; exact f1.out.symm
        ·by_cases e0 : q = J0
         ·rw [if_neg e1, if_pos e0, if_pos om, e0]; exact f0.out.symm
         ·by_cases e4 : q < 2 * i
          ·rw [if_neg e1, if_neg e0, if_pos e4, if_pos (by omega)]
          ·rw [if_neg e1, if_neg e0, if_neg e4, if_neg (by omega)]
       case measure => simp [intOf] <;> omega
     ·obtain rfl : i = L := om
      have aDW : ¬ (i : Int) < (i : Int) := om
      have Ya : Gb w wr := Gb.trans (Gb.trans HGB.out QM) hg3
      have eM : 2 ^ (k + 2) = M2 := by rw [Nat.pow_succ, ← HLe.out, Ey.out]; omega
      have hfin := Ow.mono (Ow.congr hof (g' := o.bk (k + 2) zs) (fun q hq => by rw [if_pos (by have := Ey.out; omega)])) (show w.heap.size ≤ w3.heap.size by omega)
      have HFin : Hid _ := hfin
      clear hof hfin
      go_wp2
      go_returns
      exact ⟨_, rfl, HFin.out, Ya⟩
theorem MW {o : Ops} (H : o.I) (HI : o.In) : ∀ k : Nat, 1 ≤ k → Ik o k
 | 0, h => absurd h om
 | 1, _ => Ox o
 | k + 2, _ => IY H HI k (MW H HI (k + 1) om)
