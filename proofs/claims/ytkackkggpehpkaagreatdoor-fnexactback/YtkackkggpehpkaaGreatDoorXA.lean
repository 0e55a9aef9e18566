/- impl.walk, back. -/
import Derived.Test.YtkackkggpehpkaaGreatDoorX4
import Derived.Test.YtkackkggpehpkaaGreatDoorX2
import Derived.Deep.DeepCutAuto
import Derived.Deep.Cut
import Derived.Test.YtkackkggpehpkaaGreatDoorX3
set_option linter.unusedVariables false
set_option linter.unusedSimpArgs false
set_option maxHeartbeats 40000000
namespace Go.Proofs.YtkackkggpehpkaaGreatDoor
open Go.RowKit

set_option maxRecDepth 100000 in
theorem partsOf_i {o : Ops} {v : Value} {zs : Nat → Int × Int} {w : World} (hr : Rd w .u64 v 1 2 (flat zs)) :
  Calls Tryz.prog 98 #[v] w fun e w' => ∃ v', e = .returned v' ∧ Ow w' w.heap.size 49 1 .u64 v' 2 (o.bk 1 zs) ∧ Gb w w' := by
 obtain ⟨b, cap, rfl, h1, h2, hc⟩ := hr.at (by omega)
 have c0 : w.cell? ⟨b, 0, none⟩ = some (.int .u64 (zs 0).1) := hc 0 (by omega)
 have c1 : w.cell? ⟨b, 1, none⟩ = some (.int .u64 (zs 0).2) := hc 1 (by omega)
 have e0 : o.bk 1 zs 0 = (zs 0).1 := rfl
 have e1 : o.bk 1 zs 1 = (zs 0).2 := rfl
 generalize o.bk 1 zs = f at *
 generalize (zs 0).1 = x at *
 generalize (zs 0).2 = y at *
 clear hr hc
 go_enter Tryz.func98, Tryz.ntmps98
 go_wp2
 go_region
 all_goals go_wp2
 all_goals go_returns
 all_goals
  refine ⟨_, rfl, ?_, kg⟩
  have := World.ownsRow_lit (base := w.heap.size) (e := 49) (size := 1) w.drew #[.int .u64 x, .int .u64 y] 2 (Nat.le_refl _) (by decide) rfl
  refine Ow.congr (g := fun j => if j = 0 then x else y) this (fun j hj => ?_)
  match j, hj with
  | 0, _ => exact e0.symm
  | 1, _ => exact e1.symm
set_option maxRecDepth 100000 in
theorem gatherOf_i {o : Ops} {w : World} {cv : Value} {n : Nat} (hc : CR o w cv n) (k j : Nat) (hk1 : 1 ≤ k) (hk : k < n) (hn : n ≤ 7) (hj : 2 * j < 2 ^ (k - 1)) (x y : Int) (hx : o.rt k (2 * j) = (x, y)) :
  Calls Tryz.prog 97 #[cv, .int .i64 k, .int .i64 j] w fun e w' => e = .returned (.func (.func 137) #[.agg #[.int .u64 x, .int .u64 y]] #[]) ∧ w = w' := by
 obtain ⟨g, cap, rfl, h2⟩ := hc
 obtain ⟨b, cp, h3, h4⟩ := h2 k hk1 hk
 obtain ⟨m, hm⟩ : ∃ m, 2 ^ (k - 1) = m := ⟨_, rfl⟩
 rw [hm] at h3 h4 hj
 have hmm : m ≤ 64 := by
  rw [← hm]
  have := Nat.pow_le_pow_right (show 0 < 2 by decide) (show k - 1 ≤ 6 by omega)
  omega
 have c0 : w.cell? ⟨b, 2 * j * 2, none⟩ = some (.int .u64 x) := by rw [h4 _ (by omega), Nat.mul_comm, flat_re, hx]
 have c1 : w.cell? ⟨b, 2 * j * 2 + 1, none⟩ = some (.int .u64 y) := by rw [h4 _ (by omega), show 2 * j * 2 + 1 = 2 * (2 * j) + 1 by omega, flat_im, hx]
 have hk' : (k : Int) < (n : Int) := by omega
 have hj' : 2 * (j : Int) < (m : Int) := by omega
 clear h2 h4 hm hx
 go_enter Tryz.func97, Tryz.ntmps97
 go_wp2
 go_returns
 exact ⟨rfl, rfl⟩

/-- What impl.walk answers, back. -/
def WalkB (o : Ops) (k : Nat) : Prop := ∀ (K : Int) (w : World) (v cv : Value) (n : Nat) (zs : Nat → Int × Int), K = (k : Int) → Fm w → Rd w .u64 v (2 ^ (k - 1)) (2 ^ (k - 1) * 2) (flat zs) → (∀ j, WdC (zs j)) → CR o w cv n → k < n → n ≤ 7 →
 Calls Tryz.prog 96 #[.int .i64 K, v, .func (.func 97) #[cv] #[], .func (.func 98) #[] #[], .func (.func 93) #[] #[]] w fun e w' => ∃ v', e = .returned v' ∧ Ow w' w.heap.size 49 1 .u64 v' (2 ^ k) (o.bk k zs) ∧ Gb w w'

set_option maxRecDepth 1000000 in
theorem walkB_one (o : Ops) : WalkB o 1 := by
 intro K w v cv n zs hK hw hr hcs hc hk hn
 have HV : Hid (Calls Tryz.prog 98 #[v] w fun e w' => ∃ v', e = .returned v' ∧ Ow w' w.heap.size 49 1 .u64 v' 2 (o.bk 1 zs) ∧ Gb w w') := partsOf_i hr
 obtain rfl : K = 1 := hK
 clear hw hr hcs hc hk hn
 go_enter Tryz.func96, Tryz.ntmps96
 go_wp2_with (go_at_call 98; refine HV.out.mono ?_; rintro e w1 ⟨v', rfl, ho1, hg_w1⟩)
 go_returns
 exact ⟨_, rfl, ho1, hg_w1⟩

set_option maxRecDepth 1000000 in
theorem walkB_more {o : Ops} (H : o.I) (HI : o.In) (k : Nat) (IH : WalkB o (k + 1)) : WalkB o (k + 2) := by
 intro K w v cv n zs hK hw hr hcs hc hk hn
 unfold WalkB at IH
 obtain ⟨K1, hK1⟩ : ∃ K1 : Int, K1 = ((k + 1 : Nat) : Int) := ⟨_, rfl⟩
 have uK : IntKind.i64.wrap (K - 1) = K1 := by rw [IntKind.wrap_i64]; omega
 obtain ⟨h, hh⟩ : ∃ h, h = 2 ^ k := ⟨_, rfl⟩
 obtain ⟨L, hL⟩ : ∃ L, L = 2 ^ (k + 1) := ⟨_, rfl⟩
 have h2 : L = h + h := by rw [hL, hh, Nat.pow_succ]; omega
 have hmax : h ≤ 32 := by
  rw [hh]
  have := Nat.pow_le_pow_right (show 0 < 2 by decide) (show k ≤ 5 by omega)
  omega
 have hpos : 0 < h := by rw [hh]; exact Nat.pow_pos (by decide)
 rw [show k + 2 - 1 = k + 1 by omega, ← hL] at hr
 obtain ⟨bx, cx, rfl, hx1, hx2, hxc⟩ := hr.at (by omega)
 have HX : Hid _ := hxc
 have HC : Hid _ := hc
 have HF : Hid _ := hw
 have HH : Hid _ := hh
 have HLe : Hid _ := hL
 have hmk : ∀ w, (Instr.makeSlice 22 (.int .i64 (h : Int)) (.int .i64 (h : Int))).run Tryz.prog w = .ok (.slice (some ⟨w.heap.size, 0, none⟩) h h) (w.alloc (.cells (madeCells #[.int .u64 0, .int .u64 0] (h * 2)) 54)) := fun w => make_run 22 54 (.agg #[.int .u64 0, .int .u64 0]) 2 16 Tryz.underlying22 infoC (by decide) h (by omega) w
 have hdiv2 : (L : Int) / 2 = (h : Int) := by omega
 have HMd : Hid (∀ w : World, Ow (w.alloc (.cells (madeCells #[.int .u64 0, .int .u64 0] (h * 2)) 54)) w.heap.size 54 2 .u64 (.slice (some ⟨w.heap.size, 0, none⟩) h h) h (fun _ => 0)) := fun w => Ow.made w 54 2 #[.int .u64 0, .int .u64 0] .u64 (Go.Proofs.YtkackkggpehpkaaGreatDoor.z2 _) h (by omega)
 have HM2 : Hid (∀ (w : World) (ob : Obj), Ow ((w.alloc ob).alloc (.cells (madeCells #[.int .u64 0, .int .u64 0] (h * 2)) 54)) w.heap.size 54 2 .u64 (.slice (some ⟨w.heap.size + 1, 0, none⟩) h h) h (fun _ => 0)) := fun w ob => by have := HMd.out (w.alloc ob); rw [World.size_alloc] at this; exact this.mono (by omega)
 have k3 : (K == 1) = false := by simp; omega
 have HK1 : Hid _ := hK1
 have HK : Hid _ := hK
 have HL2 : Hid _ := h2
 have hL128 : L ≤ 64 := by omega
 have HCS : Hid _ := hcs
 clear hK1 hK hr hxc hc hw hh hL h2
 go_enter Tryz.func96, Tryz.ntmps96
 go_wp2
 go_cut [11, 12] (fun f s wx => ∃ b1 b2 : Nat, f = .slice (some ⟨b1, 0, none⟩) h h ∧ s = .slice (some ⟨b2, 0, none⟩) h h ∧ b1 ≠ b2 ∧ Ow wx w.heap.size 54 2 .u64 (.slice (some ⟨b1, 0, none⟩) h h) h (fun _ => 0) ∧ Ow wx w.heap.size 54 2 .u64 (.slice (some ⟨b2, 0, none⟩) h h) h (fun _ => 0) ∧ Gb w wx)
 case first =>
  go_region
  all_goals (go_wp2; go_meet)
  ·exact ⟨_, _, rfl, rfl, by omega, Ow.drew (Ow.alloc (HMd.out w) _), Ow.drew (HM2.out w _), kg⟩
  ·exact ⟨_, _, rfl, rfl, by omega, Ow.drew (HM2.out w _), Ow.drew (Ow.alloc (HMd.out w) _), kg⟩
 case rest =>
  obtain ⟨b1, b2, rfl, rfl, hne, ho1, ho2, hgc⟩ := hcut
  have HO1 : Hid _ := ho1
  have HO2 : Hid _ := ho2
  clear ho1 ho2
  go_wp2
  go_loopw [33] (fun i wr => ∃ j : Nat, j ≤ h ∧ i = .int .i64 j ∧ Ow wr w.heap.size 54 2 .u64 (.slice (some ⟨b1, 0, none⟩) h h) h (fun q => if q < 2 * j then flat (o.bkA zs) q else 0) ∧ Ow wr w.heap.size 54 2 .u64 (.slice (some ⟨b2, 0, none⟩) h h) h (fun q => if q < 2 * j then flat (o.bkB (k + 2) zs) q else 0) ∧ Gb w wr) (fun i _ => h - (intOf i).toNat)
  case atStart => exact ⟨0, Nat.zero_le _, rfl, Ow.congr HO1.out (fun q hq => by rw [if_neg (by omega)]), Ow.congr HO2.out (fun q hq => by rw [if_neg (by omega)]), hgc⟩
  case round =>
   obtain ⟨j, hj, rfl, ho1, ho2, hgb⟩ := hrel
   have HP1 : Hid _ := ho1
   have HP2 : Hid _ := ho2
   by_cases hlt : j < h
   ·have hlt' : (j : Int) < (h : Int) := by omega
    obtain ⟨b1', cap1, e1, hb1, hB1, _, _, hc1⟩ := ho1.at hpos
    obtain ⟨b2', cap2, e2, hb2, hB2, _, _, hc2⟩ := ho2.at hpos
    simp only [Value.slice.injEq, Option.some.injEq, Addr.mk.injEq, and_true, true_and] at e1 e2
    obtain ⟨rfl, rfl⟩ := e1
    obtain ⟨rfl, rfl⟩ := e2
    obtain ⟨c1, z1⟩ := hc1 (j * 2) (by omega)
    obtain ⟨c1', z1'⟩ := hc1 (j * 2 + 1) (by omega)
    obtain ⟨c2, z2⟩ := hc2 (j * 2) (by omega)
    obtain ⟨c2', z2'⟩ := hc2 (j * 2 + 1) (by omega)
    rw [if_neg (by omega)] at c1 c2 c1' c2'
    obtain ⟨J0, hJ0⟩ : ∃ J0 : Nat, J0 = 2 * j := ⟨_, rfl⟩
    obtain ⟨J1, hJ1⟩ : ∃ J1 : Nat, J1 = 2 * j + 1 := ⟨_, rfl⟩
    obtain ⟨x1, x2, hx⟩ : ∃ x1 x2, zs (2 * j) = (x1, x2) := ⟨_, _, rfl⟩
    obtain ⟨y1, y2, hy⟩ : ∃ y1 y2, zs (2 * j + 1) = (y1, y2) := ⟨_, _, rfl⟩
    have hLL := HL2.out
    have p0 : wr.cell? ⟨bx, J0 * 2, none⟩ = some (.int .u64 x1) := by have := hgb.old (HX.out (2 * (2 * j)) (by omega)); rw [flat_re, hx] at this; rw [hJ0, Nat.mul_comm]; exact this
    have p1 : wr.cell? ⟨bx, J0 * 2 + 1, none⟩ = some (.int .u64 x2) := by have := hgb.old (HX.out (2 * (2 * j) + 1) (by omega)); rw [flat_im, hx] at this; rw [hJ0, Nat.mul_comm]; exact this
    have p2 : wr.cell? ⟨bx, J1 * 2, none⟩ = some (.int .u64 y1) := by have := hgb.old (HX.out (2 * (2 * j + 1)) (by omega)); rw [flat_re, hy] at this; rw [hJ1, Nat.mul_comm]; exact this
    have p3 : wr.cell? ⟨bx, J1 * 2 + 1, none⟩ = some (.int .u64 y2) := by have := hgb.old (HX.out (2 * (2 * j + 1) + 1) (by omega)); rw [flat_im, hy] at this; rw [hJ1, Nat.mul_comm]; exact this
    have hbx := cell_size (HX.out 0 (by omega))
    have wZ := HCS.out (2 * j)
    have wY := HCS.out (2 * j + 1)
    rw [hx] at wZ
    rw [hy] at wY
    obtain ⟨r, s, hrs⟩ : ∃ r s, o.rt (k + 2) (2 * j) = (r, s) := ⟨_, _, rfl⟩
    have wR := HI.rt (k + 2) (2 * j)
    rw [hrs] at wR
    have HSp : Hid (∀ w', Gb w w' → Calls Tryz.prog 97 #[cv, .int .i64 K, .int .i64 j] w' fun e w'' => e = .returned (.func (.func 137) #[.agg #[.int .u64 r, .int .u64 s]] #[]) ∧ w' = w'') := fun w' hg => by
     rw [show K = ((k + 2 : Nat) : Int) from HK.out]
     exact gatherOf_i (CR.gb HC.out hg) (k + 2) j (by omega) hk hn (by rw [show k + 2 - 1 = k + 1 by omega, ← HLe.out]; omega) r s hrs
    obtain ⟨t, ht⟩ : ∃ t, o.bkA zs j = t := ⟨_, rfl⟩
    obtain ⟨u, hu⟩ : ∃ u, o.bkB (k + 2) zs j = u := ⟨_, rfl⟩
    have HSq : Hid (∀ w', Gb w w' → Calls Tryz.prog 137 #[.agg #[.int .u64 r, .int .u64 s], .agg #[.int .u64 x1, .int .u64 x2], .agg #[.int .u64 y1, .int .u64 y2]] w' fun e w'' => e = .returned (.tuple #[.agg #[.int .u64 t.1, .int .u64 t.2], .agg #[.int .u64 u.1, .int .u64 u.2]]) ∧ Gr w' w'') := fun w' hg => cgather_i H HI wR.1 wR.2 wZ.1 wZ.2 wY.1 wY.2 (Fm.gb HF.out hg) t u (by rw [← ht, ← hx, ← hy]; rfl) (by rw [← hu, ← hx, ← hy, ← hrs]; rfl)
    obtain ⟨t1, t2⟩ := t
    obtain ⟨u1, u2⟩ := u
    dsimp only at HSq
    have f0 : Hid (flat (o.bkA zs) (j * 2) = t1) := by show _ = _; rw [Nat.mul_comm, flat_re, ht]
    have f1 : Hid (flat (o.bkA zs) (j * 2 + 1) = t2) := by show _ = _; rw [Nat.mul_comm, flat_im, ht]
    have f2 : Hid (flat (o.bkB (k + 2) zs) (j * 2) = u1) := by show _ = _; rw [Nat.mul_comm, flat_re, hu]
    have f3 : Hid (flat (o.bkB (k + 2) zs) (j * 2 + 1) = u2) := by show _ = _; rw [Nat.mul_comm, flat_im, hu]
    have v0 : IntKind.i64.wrap (2 * (j : Int)) = (J0 : Int) := by rw [IntKind.wrap_i64]; omega
    have v1 : IntKind.i64.wrap ((J0 : Int) + 1) = (J1 : Int) := by rw [IntKind.wrap_i64]; omega
    have i0 : (J0 : Int) < (L : Int) := by omega
    have i1 : (J1 : Int) < (L : Int) := by omega
    clear ho1 ho2 hc1 hc2 hJ0 hJ1 hx hy hLL wZ wY wR hrs ht hu
    go_wp2
    go_region_held3 (fun w' => w'.cell? ⟨bx, J0 * 2, none⟩ = some (.int .u64 x1) ∧ w'.cell? ⟨bx, J0 * 2 + 1, none⟩ = some (.int .u64 x2) ∧ w'.cell? ⟨bx, J1 * 2, none⟩ = some (.int .u64 y1) ∧ w'.cell? ⟨bx, J1 * 2 + 1, none⟩ = some (.int .u64 y2))
     ((go_split_ands; (repeat' apply And.intro) <;> exact kh))
     (first
      | (go_at_call 97; refine kw (HSp.out _ kg) ?_)
      | (go_at_call 137; refine (HSq.out _ kg).mono ?_; rintro e w5 ⟨rfl, hg_w5⟩; have hz5 := hg_w5.size; (try simp only [World.size_drew] at hz5); have cc0 : w5.cell? ⟨b1, j * 2, none⟩ = some (.int .u64 0) := hg_w5.c; have cz0 : w5.frozen? ⟨b1, j * 2, none⟩ = false := hg_w5.z; have cc1 : w5.cell? ⟨b1, j * 2 + 1, none⟩ = some (.int .u64 0) := hg_w5.c; have cz1 : w5.frozen? ⟨b1, j * 2 + 1, none⟩ = false := hg_w5.z; have cc2 : w5.cell? ⟨b2, j * 2, none⟩ = some (.int .u64 0) := hg_w5.c; have cz2 : w5.frozen? ⟨b2, j * 2, none⟩ = false := hg_w5.z; have cc3 : w5.cell? ⟨b2, j * 2 + 1, none⟩ = some (.int .u64 0) := hg_w5.c; have cz3 : w5.frozen? ⟨b2, j * 2 + 1, none⟩ = false := hg_w5.z))
    all_goals
     go_wp2
     go_roundw
     case rel =>
      refine ⟨j + 1, by omega, by go_num, ?_, ?_, kg⟩
      ·refine Ow.other (Ow.other (Ow.congr (Ow.store (Ow.store (Ow.gb (Ow.drew HP1.out) hg_w5.gb) (j * 2) t1) (j * 2 + 1) t2) (fun q hq => ?_)) (fun e => hne e.symm) _) (fun e => hne e.symm) _
       by_cases e1 : q = j * 2 + 1
       ·rw [if_pos e1, if_pos (by omega), e1]; exact f1.out.symm
       ·by_cases e0 : q = j * 2
        ·rw [if_neg e1, if_pos e0, if_pos (by omega), e0]; exact f0.out.symm
        ·by_cases e2 : q < 2 * j
         ·rw [if_neg e1, if_neg e0, if_pos e2, if_pos (by omega)]
         ·rw [if_neg e1, if_neg e0, if_neg e2, if_neg (by omega)]
      ·refine Ow.congr (Ow.store (Ow.store (Ow.other (Ow.other (Ow.gb (Ow.drew HP2.out) hg_w5.gb) (fun e => hne e) _) (fun e => hne e) _) (j * 2) u1) (j * 2 + 1) u2) (fun q hq => ?_)
       by_cases e1 : q = j * 2 + 1
       ·rw [if_pos e1, if_pos (by omega), e1]; exact f3.out.symm
       ·by_cases e0 : q = j * 2
        ·rw [if_neg e1, if_pos e0, if_pos (by omega), e0]; exact f2.out.symm
        ·by_cases e2 : q < 2 * j
         ·rw [if_neg e1, if_neg e0, if_pos e2, if_pos (by omega)]
         ·rw [if_neg e1, if_neg e0, if_neg e2, if_neg (by omega)]
     case measure => simp [intOf] <;> omega
   ·obtain rfl : j = h := by omega
    have hjm' : ¬ (j : Int) < (j : Int) := by omega
    rename World => W
    have hS : ∀ w', Gb W w' → Fm w' := fun w' hg => Fm.gb HF.out (hgb.trans hg)
    have r1 : Rd W .u64 (.slice (some ⟨b1, 0, none⟩) j j) (2 ^ (k + 1 - 1)) (2 ^ (k + 1 - 1) * 2) (flat (o.bkA zs)) := by
     rw [show k + 1 - 1 = k by omega, ← HH.out]
     exact (Ow.rd HP1.out).congr (fun q hq => by rw [if_pos (by omega)])
    have r2 : Rd W .u64 (.slice (some ⟨b2, 0, none⟩) j j) (2 ^ (k + 1 - 1)) (2 ^ (k + 1 - 1) * 2) (flat (o.bkB (k + 2) zs)) := by
     rw [show k + 1 - 1 = k by omega, ← HH.out]
     exact (Ow.rd HP2.out).congr (fun q hq => by rw [if_pos (by omega)])
    have hL1 : 0 < L := by have := HL2.out; omega
    have HA : Hid (Calls Tryz.prog 96 #[.int .i64 K1, .slice (some ⟨b1, 0, none⟩) j j, .func (.func 97) #[cv] #[], .func (.func 98) #[] #[], .func (.func 93) #[] #[]] W fun e w' => ∃ b cap, e = .returned (.slice (some ⟨b, 0, none⟩) L cap) ∧ b < w'.heap.size ∧ (∀ q, q < L → w'.cell? ⟨b, q, none⟩ = some (.int .u64 (o.bk (k + 1) (o.bkA zs) q))) ∧ Gb W w') := by
     show Calls _ _ _ _ _
     refine (IH K1 W _ cv n _ HK1.out (hS _ (Gb.refl _)) r1 (HI.bkA hcs) (CR.gb HC.out hgb) (by omega) hn).mono fun e w'' ⟨v, e1, e2, e3⟩ => ?_
     rw [← HLe.out] at e2
     obtain ⟨b, cap, rfl, c1, c2, _, _, c3⟩ := e2.at hL1
     exact ⟨b, cap, e1, c2, fun j hj => (c3 j (by omega)).1, e3⟩
    have HB : Hid (∀ W2, Gb W W2 → Calls Tryz.prog 96 #[.int .i64 K1, .slice (some ⟨b2, 0, none⟩) j j, .func (.func 97) #[cv] #[], .func (.func 98) #[] #[], .func (.func 93) #[] #[]] W2 fun e w' => ∃ b cap, e = .returned (.slice (some ⟨b, 0, none⟩) L cap) ∧ b < w'.heap.size ∧ (∀ q, q < L → w'.cell? ⟨b, q, none⟩ = some (.int .u64 (o.bk (k + 1) (o.bkB (k + 2) zs) q))) ∧ Gb W2 w') := by
     intro W2 hg2
     refine (IH K1 W2 _ cv n _ HK1.out (hS _ hg2) (r2.gb hg2) (HI.bkB _ hcs) ((CR.gb HC.out hgb).gb hg2) (by omega) hn).mono fun e w'' ⟨v, e1, e2, e3⟩ => ?_
     rw [← HLe.out] at e2
     obtain ⟨b, cap, rfl, c1, c2, _, _, c3⟩ := e2.at hL1
     exact ⟨b, cap, e1, c2, fun j hj => (c3 j (by omega)).1, e3⟩
    obtain ⟨M2, hM2⟩ : ∃ M2 : Nat, M2 = 2 * L := ⟨_, rfl⟩
    have u2 : IntKind.i64.wrap (2 * (L : Int)) = (M2 : Int) := by rw [IntKind.wrap_i64]; omega
    have hmk2 : ∀ w, (Instr.makeSlice 27 (.int .i64 (M2 : Int)) (.int .i64 (M2 : Int))).run Tryz.prog w = .ok (.slice (some ⟨w.heap.size, 0, none⟩) M2 M2) (w.alloc (.cells (madeCells #[.int .u64 0] (M2 * 1)) 49)) := fun w => make_run 27 49 (.int .u64 0) 1 8 Tryz.underlying27 infoU (by decide) M2 (by omega) w
    have HM3 : Hid (∀ w : World, Ow (w.alloc (.cells (madeCells #[.int .u64 0] M2) 49)) w.heap.size 49 1 .u64 (.slice (some ⟨w.heap.size, 0, none⟩) M2 M2) M2 (fun _ => 0)) := fun w => by have := Ow.made w 49 1 #[.int .u64 0] .u64 (Go.Proofs.YtkackkggpehpkaaGreatDoor.z1 _) M2 (by omega); rw [Nat.mul_one] at this; exact this
    have HM2' : Hid _ := hM2
    have HGB : Hid _ := hgb
    have hM128 : M2 ≤ 128 := by omega
    clear hM2 ho1 ho2 r1 r2 HM2 HMd hmk hdiv2 hgb IH hcs hS
    go_wp2_with (first
     | (go_at_call 96; first | (with_reducible refine HA.out.mono ?_; rintro e w2 ⟨ba, ca, rfl, hba, hca, hg_w2⟩) | (go_loud (with_reducible refine (HB.out _ hg_w2).mono ?_); rintro e w3 ⟨bb, cb, rfl, hbb, hcb, hg_w3⟩; have HCA : Hid _ := hca; have HCB : Hid _ := hcb; clear hca hcb)))
    have hgW3 : Gb W w3 := hg_w2.trans hg_w3
    have hsz3 := hgW3.size
    have hszw := (HGB.out : Gb w W).size
    have hAB : Gb w2 w3 := hg_w3
    go_loopw [82] (fun i wr => ∃ j' : Nat, j' ≤ L ∧ i = .int .i64 j' ∧ Ow wr w3.heap.size 49 1 .u64 (.slice (some ⟨w3.heap.size, 0, none⟩) M2 M2) M2 (fun q => if q < 2 * j' then o.bk (k + 2) zs q else 0) ∧ Gb w3 wr) (fun i _ => L - (intOf i).toNat)
    case atStart => exact ⟨0, Nat.zero_le _, rfl, Ow.congr (HM3.out w3) (fun q hq => by rw [if_neg (by omega)]), kg⟩
    case round =>
     obtain ⟨i, hi, rfl, hof, hg3⟩ := hrel
     have HFo : Hid _ := hof
     by_cases hlt : i < L
     ·have hlt' : (i : Int) < (L : Int) := by omega
      obtain ⟨b', cap', e, _, _, _, _, hcz⟩ := hof.at (by have := HM2'.out; omega)
      simp only [Value.slice.injEq, Option.some.injEq, Addr.mk.injEq, and_true, true_and] at e
      obtain ⟨rfl, rfl⟩ := e
      obtain ⟨J0, hJ0⟩ : ∃ J0 : Nat, J0 = 2 * i := ⟨_, rfl⟩
      obtain ⟨J1, hJ1⟩ : ∃ J1 : Nat, J1 = 2 * i + 1 := ⟨_, rfl⟩
      have hM2e := HM2'.out
      obtain ⟨c0, z0⟩ := hcz J0 (by omega)
      obtain ⟨c1, z1⟩ := hcz J1 (by omega)
      rw [if_neg (by omega)] at c0 c1
      obtain ⟨x, hx⟩ : ∃ x, o.bk (k + 1) (o.bkA zs) i = x := ⟨_, rfl⟩
      obtain ⟨y, hy⟩ : ∃ y, o.bk (k + 1) (o.bkB (k + 2) zs) i = y := ⟨_, rfl⟩
      have p0 : wr.cell? ⟨ba, i, none⟩ = some (.int .u64 x) := by rw [← hx]; exact hg3.old (hAB.old (HCA.out i (by omega)))
      have p1 : wr.cell? ⟨bb, i, none⟩ = some (.int .u64 y) := by rw [← hy]; exact hg3.old (HCB.out i (by omega))
      have f0 : Hid (o.bk (k + 2) zs J0 = x) := by show _ = _; simp only [Ops.bk]; rw [if_pos (by omega), show J0 / 2 = i by omega, hx]
      have f1 : Hid (o.bk (k + 2) zs J1 = y) := by show _ = _; simp only [Ops.bk]; rw [if_neg (by omega), show J1 / 2 = i by omega, hy]
      have u0 : IntKind.i64.wrap (2 * (i : Int)) = (J0 : Int) := by rw [IntKind.wrap_i64]; omega
      have u1 : IntKind.i64.wrap ((J0 : Int) + 1) = (J1 : Int) := by rw [IntKind.wrap_i64]; omega
      have i0 : (J0 : Int) < (M2 : Int) := by omega
      have i1 : (J1 : Int) < (M2 : Int) := by omega
      have n0 : ¬ J0 = J1 := by omega
      have HJ0 : Hid _ := hJ0
      have HJ1 : Hid _ := hJ1
      have hsb : ba < w3.heap.size := by have := hAB.size; omega
      have hszr := hg3.size
      clear hof hcz hJ0 hJ1 hM2e hx hy
      go_wp2
      go_region_held3 (fun w' => w'.cell? ⟨ba, i, none⟩ = some (.int .u64 x) ∧ w'.cell? ⟨bb, i, none⟩ = some (.int .u64 y))
       ((go_split_ands; (repeat' apply And.intro) <;> exact kh))
       (first
        | (go_at_call 93; refine kw (kept_i _ _ _) ?_)
        | (go_at_call 135; refine kw (kept1_i _ _ _) ?_))
      all_goals
       go_wp2
       go_roundw
       case rel =>
        refine ⟨i + 1, by omega, by go_num, ?_, kg⟩
        refine Ow.drew (Ow.congr (Ow.store (Ow.store HFo.out J0 x) J1 y) (fun q hq => ?_))
        have j0 := HJ0.out
        have j1 := HJ1.out
        by_cases e1 : q = J1
        ·rw [if_pos e1, if_pos (by omega), e1]; exact f1.out.symm
        ·by_cases e0 : q = J0
         ·rw [if_neg e1, if_pos e0, if_pos (by omega), e0]; exact f0.out.symm
         ·by_cases e4 : q < 2 * i
          ·rw [if_neg e1, if_neg e0, if_pos e4, if_pos (by omega)]
          ·rw [if_neg e1, if_neg e0, if_neg e4, if_neg (by omega)]
       case measure => simp [intOf] <;> omega
     ·obtain rfl : i = L := by omega
      have hjm2 : ¬ (i : Int) < (i : Int) := by omega
      have hgw3 : Gb w wr := Gb.trans (Gb.trans HGB.out hgW3) hg3
      have eM : 2 ^ (k + 2) = M2 := by rw [Nat.pow_succ, ← HLe.out, HM2'.out]; omega
      have hfin := Ow.mono (Ow.congr hof (g' := o.bk (k + 2) zs) (fun q hq => by rw [if_pos (by have := HM2'.out; omega)])) (show w.heap.size ≤ w3.heap.size by omega)
      have HFin : Hid _ := hfin
      clear hof hfin
      go_wp2
      go_returns
      exact ⟨_, rfl, HFin.out, hgw3⟩
theorem walkB_i {o : Ops} (H : o.I) (HI : o.In) : ∀ k : Nat, 1 ≤ k → WalkB o k
 | 0, h => absurd h (by omega)
 | 1, _ => walkB_one o
 | k + 2, _ => walkB_more H HI k (walkB_i H HI (k + 1) (by omega))
end Go.Proofs.YtkackkggpehpkaaGreatDoor

/- What the laws do with lists of complex numbers that came in: szCplxS, toCplxS; heldUint64S. -/
set_option linter.unusedVariables false
set_option linter.unusedSimpArgs false
set_option maxHeartbeats 40000000
namespace Go.Proofs.YtkackkggpehpkaaGreatDoor
open Go.RowKit

theorem infoCx : (Tryz.prog.info? 54).map (fun i => (i.zero, i.size, i.bytes)) = some (some (.agg #[.int .u64 0, .int .u64 0]), 2, 16) := by kernel_rfl
/-- A list of complex numbers that came in. -/
def ArgC (w : World) (a : Option Addr) (n : Nat) (g : Nat → Int) : Prop := n = 0 ∨ ∃ b off, a = some ⟨b, off, none⟩ ∧ ∀ i, i < n * 2 → w.cell? ⟨b, off + i, none⟩ = some (.int .u64 (g i))
theorem ArgC.gb {w w' : World} {a : Option Addr} {n : Nat} {g : Nat → Int} (h : ArgC w a n g) (hg : Gb w w') : ArgC w' a n g := by
 rcases h with h | ⟨b, off, e, hc⟩
 ·exact .inl h
 ·exact .inr ⟨b, off, e, fun i hi => hg.old (hc i hi)⟩
set_option maxRecDepth 100000 in
theorem toCplx_any (x y : Int) (w : World) : Calls Tryz.prog 50 #[.agg #[.int .u64 x, .int .u64 y]] w fun e w' => e = .returned (.agg #[.int .u64 x, .int .u64 y]) ∧ Gr w w' := by
 go_enter Tryz.func50, Tryz.ntmps50
 go_wp2
 go_returns
 exact ⟨rfl, kr⟩
set_option maxRecDepth 100000 in
theorem szCplxS_any (a : Option Addr) (n cap : Nat) (w : World) (hn : n ≤ 1048576) : Calls Tryz.prog 19 #[.slice a n cap, .int .i64 1048576] w fun e w' => e = .returned (.int .i64 (1048576 - n)) ∧ w = w' := by
 have u : IntKind.i64.wrap (1048576 - (n : Int)) = 1048576 - (n : Int) := by rw [IntKind.wrap_i64]; omega
 have h : ¬ (1048576 - (n : Int)) < 0 := by omega
 go_enter Tryz.func19, Tryz.ntmps19
 go_wp2
 go_returns
 exact ⟨rfl, rfl⟩
set_option maxRecDepth 100000 in
theorem toCplxS_any {a : Option Addr} {n cap : Nat} {g : Nat → Int} {w : World} (ha : ArgC w a n g) (hn : n ≤ 2000000) :
  Calls Tryz.prog 21 #[.slice a n cap] w fun e w' => ∃ v, e = .returned v ∧ Ow w' w.heap.size 54 2 .u64 v n g ∧ Gb w w' := by
 have hmk : ∀ w, (Instr.makeSlice 22 (.int .i64 (n : Int)) (.int .i64 (n : Int))).run Tryz.prog w = .ok (.slice (some ⟨w.heap.size, 0, none⟩) n n) (w.alloc (.cells (madeCells #[.int .u64 0, .int .u64 0] (n * 2)) 54)) := fun w => make_run 22 54 (.agg #[.int .u64 0, .int .u64 0]) 2 16 Tryz.underlying22 infoCx (by decide) n (by omega) w
 have HMd : Hid (Ow (w.alloc (.cells (madeCells #[.int .u64 0, .int .u64 0] (n * 2)) 54)) w.heap.size 54 2 .u64 (.slice (some ⟨w.heap.size, 0, none⟩) n n) n (fun _ => 0)) := Ow.made w 54 2 #[.int .u64 0, .int .u64 0] .u64 (z2 _) n (by omega)
 have HT : Hid (∀ x y w, Calls Tryz.prog 50 #[.agg #[.int .u64 x, .int .u64 y]] w fun e w' => e = .returned (.agg #[.int .u64 x, .int .u64 y]) ∧ Gr w w') := fun x y w => toCplx_any x y w
 have HA : Hid _ := ha
 clear ha
 go_enter Tryz.func21, Tryz.ntmps21
 go_wp2
 go_loopw [4] (fun i wr => ∃ j : Nat, j ≤ n ∧ i = .int .i64 j ∧ Ow wr w.heap.size 54 2 .u64 (.slice (some ⟨w.heap.size, 0, none⟩) n n) n (fun q => if q < 2 * j then g q else 0) ∧ Gb w wr) (fun i _ => n - (intOf i).toNat)
 case atStart => exact ⟨0, Nat.zero_le _, rfl, Ow.congr HMd.out (fun q hq => by rw [if_neg (by omega)]), kg⟩
 case round =>
  obtain ⟨j, hj, rfl, hof, hgb⟩ := hrel
  have HF : Hid _ := hof
  by_cases hlt : j < n
  ·have hlt' : (j : Int) < (n : Int) := by omega
   obtain ⟨b, cap', e, _, hB, _, _, hcz⟩ := hof.at (by omega)
   simp only [Value.slice.injEq, Option.some.injEq, Addr.mk.injEq, and_true, true_and] at e
   obtain ⟨rfl, rfl⟩ := e
   obtain ⟨c0, z0⟩ := hcz (j * 2) (by omega)
   obtain ⟨c1, z1⟩ := hcz (j * 2 + 1) (by omega)
   rw [if_neg (by omega)] at c0 c1
   rcases HA.out with h0 | ⟨b, off, rfl, hc⟩
   ·omega
   have x0 : wr.cell? ⟨b, off + j * 2, none⟩ = some (.int .u64 (g (j * 2))) := hgb.old (hc _ (by omega))
   have x1 : wr.cell? ⟨b, off + j * 2 + 1, none⟩ = some (.int .u64 (g (j * 2 + 1))) := hgb.old (hc (j * 2 + 1) (by omega))
   obtain ⟨x, hx⟩ : ∃ x, g (j * 2) = x := ⟨_, rfl⟩
   obtain ⟨y, hy⟩ : ∃ y, g (j * 2 + 1) = y := ⟨_, rfl⟩
   rw [hx] at x0
   rw [hy] at x1
   have Hx : Hid _ := hx
   have Hy : Hid _ := hy
   clear hof hcz hx hy hc
   go_wp2_with (go_at_call 50; refine (HT.out _ _ _).mono ?_; rintro e w1 ⟨rfl, hg_w1⟩; have cc0 : w1.cell? ⟨w.heap.size, j * 2, none⟩ = some (.int .u64 0) := hg_w1.c; have cz0 : w1.frozen? ⟨w.heap.size, j * 2, none⟩ = false := hg_w1.z; have cc1 : w1.cell? ⟨w.heap.size, j * 2 + 1, none⟩ = some (.int .u64 0) := hg_w1.c; have cz1 : w1.frozen? ⟨w.heap.size, j * 2 + 1, none⟩ = false := hg_w1.z)
   go_roundw
   case rel =>
    refine ⟨j + 1, by omega, by go_num, ?_, kg⟩
    refine Ow.congr (Ow.store (Ow.store (Ow.gb HF.out hg_w1.gb) (j * 2) x) (j * 2 + 1) y) (fun q hq => ?_)
    by_cases e1 : q = j * 2 + 1
    ·rw [if_pos e1, if_pos (by omega), e1]; exact Hy.out.symm
    ·by_cases e0 : q = j * 2
     ·rw [if_neg e1, if_pos e0, if_pos (by omega), e0]; exact Hx.out.symm
     ·by_cases e2 : q < 2 * j
      ·rw [if_neg e1, if_neg e0, if_pos e2, if_pos (by omega)]
      ·rw [if_neg e1, if_neg e0, if_neg e2, if_neg (by omega)]
   case measure => simp [intOf] <;> omega
  ·obtain rfl : j = n := by omega
   have hjm' : ¬ (j : Int) < (j : Int) := by omega
   clear hof
   go_wp2
   go_returns
   exact ⟨_, rfl, Ow.congr HF.out (fun q hq => by rw [if_pos (by omega)]), hgb⟩
set_option maxRecDepth 100000 in
theorem heldUint64S_any {v : Value} {n : Nat} {w : World} (hr : Rd w .u64 v n n (fun j => 1 + (j : Int))) (hn : n ≤ 2000000) :
  Calls Tryz.prog 23 #[v, .int .i64 1] w fun e w' => e = .returned (.int .i64 (1 + (n : Int))) ∧ w = w' := by
 rcases Nat.eq_zero_or_pos n with rfl | hpos
 ·obtain ⟨a, ca, rfl, _⟩ := hr
  go_enter Tryz.func23, Tryz.ntmps23
  go_wp2
  go_loopw [1, 5] (fun k i wr => k = .int .i64 1 ∧ i = .int .i64 0 ∧ w = wr) (fun _ _ _ => 0)
  case atStart => exact ⟨rfl, rfl, rfl⟩
  case round =>
   obtain ⟨rfl, rfl, rfl⟩ := hrel
   go_wp2
   go_returns
   exact ⟨rfl, rfl⟩
 ·obtain ⟨b, cap, rfl, _, _, hc⟩ := hr.at hpos
  have HC : Hid _ := hc
  clear hr hc
  go_enter Tryz.func23, Tryz.ntmps23
  go_wp2
  go_loopw [1, 5] (fun k i wr => ∃ j : Nat, j ≤ n ∧ i = .int .i64 j ∧ k = .int .i64 (1 + (j : Int)) ∧ w = wr) (fun _ i _ => n - (intOf i).toNat)
  case atStart => exact ⟨0, Nat.zero_le _, rfl, rfl, rfl⟩
  case round =>
   obtain ⟨j, hj, rfl, rfl, rfl⟩ := hrel
   by_cases hlt : j < n
   ·have hlt' : (j : Int) < (n : Int) := by omega
    have c0 : w.cell? ⟨b, j, none⟩ = some (.int .u64 (1 + (j : Int))) := HC.out _ (by omega)
    go_wp2
    go_roundw
    case rel => exact ⟨j + 1, by omega, by go_num, by go_num, trivial⟩
    case measure => simp [intOf] <;> omega
   ·obtain rfl : j = n := by omega
    have hjm' : ¬ (j : Int) < (j : Int) := by omega
    go_wp2
    go_returns
    exact ⟨ret_congr (by first | rfl | go_num), rfl⟩
end Go.Proofs.YtkackkggpehpkaaGreatDoor

/- 'append' with what it leaves of other rows. -/
set_option linter.unusedVariables false
set_option linter.unusedSimpArgs false
namespace Go.Proofs.YtkackkggpehpkaaGreatDoor
open Go.RowKit

theorem wp_moreH {w : World} {o : Oper} {a : Act} {K : Act → World → Prop} {Q : Exit → Act → World → Prop} (s x : Operand) (ty : TypeId)
  (ho : o.op = .call { callee := .builtin .append, args := #[s, x], argTypes := #[ty, ty] }) (t : TypeId) (z : Value) (size bytes : Nat) (k : IntKind) (hty : Tryz.prog.underlying ty = some (.slice t)) (hinf : (Tryz.prog.info? t).map (fun i => (i.zero, i.size, i.bytes)) = some (some z, size, bytes)) (hzs : z.cells.size = size) (hs0 : 0 < size) (hby : bytes ≤ 1000)
  (base n r : Nat) (g : Nat → Int) (v : Value) (b : Nat) (hs : a.eval s = v) (hown : Ow w base t size k v n g) (hx : a.eval x = .slice (some ⟨b, 0, none⟩) r r)
  (hc : ∀ j, j < r * size → w.cell? ⟨b, j, none⟩ = some (.int k (g (n * size + j)))) (hr0 : 0 < r) (hn : n + r ≤ 100000000) (hbase : base ≤ w.heap.size)
  (h : ∀ v' w', Ow w' base t size k v' (n + r) g → Below base w w' → (∀ p, p < w.heap.size → v.ownBlock ≠ some p → w'.heap[p]? = w.heap[p]?) → (v'.ownBlock = v.ownBlock ∨ v'.ownBlock = some w.heap.size) → K (a.put o.dst v') w') : o.wp Tryz.prog a w K Q := by
 obtain ⟨i0, hi, hz0, hz1, hz2⟩ := info_parts hinf
 refine wp_append_lies _ s x ty ho base t i0 z size bytes hty hi hz0 hz1 hz2 hzs hs0 v n (uv k (n * size) g) hs hown ⟨b, 0, none⟩ r r (uv k (r * size) (fun j => g (n * size + j))) hx (uv_length _ _ _) ?_ ?_ hr0 (by unfold maxLen; omega) (by have := Nat.mul_le_mul hn hby; omega) hbase w.heap.size rfl ?_
 ·intro j u hj
  have hlt : j < r * size := by
   rcases Nat.lt_or_ge j (r * size) with c | c
   ·exact c
   ·rw [List.getElem?_eq_none (by rw [uv_length]; exact c)] at hj; cases hj
  rw [uv_get _ _ _ _ hlt] at hj
  obtain rfl := Option.some.inj hj
  have e : (⟨b, 0, none⟩ : Addr).add j = ⟨b, j, none⟩ := by unfold Addr.add; split <;> simp_all
  rw [e]; exact hc j hlt
 ·intro u hu
  obtain ⟨j, _, rfl⟩ := List.mem_map.1 hu
  rfl
 ·intro gb cap' w' hown' hgrow hat _
  refine h _ w' ?_ ?_ ?_ ?_
  ·show World.ownsRow _ _ _ _ _ _ _
   rw [Nat.add_mul, uv_add]
   exact hown'
  ·refine (Below.refl base w).grown hgrow hbase ?_
   intro q hq
   exact (World.ownsRow.lt hown q hq).1
  ·exact fun p hp hne => hgrow.block p hp (fun e => hne e.symm)
  ·rcases hat with e | e
   ·exact .inl (by rw [e]; rfl)
   ·exact .inr (by rw [e]; rfl)
theorem step_moreH {w : World} {ops : Array Oper} {o : Oper} {a : Act} {K : Act → World → Prop} {Q : Exit → Act → World → Prop} {E : Prop} (hgd : o.guard = none) (s x : Operand) (ty : TypeId)
  (ho : o.op = .call { callee := .builtin .append, args := #[s, x], argTypes := #[ty, ty] }) (t : TypeId) (z : Value) (size bytes : Nat) (k : IntKind) (hty : Tryz.prog.underlying ty = some (.slice t)) (hinf : (Tryz.prog.info? t).map (fun i => (i.zero, i.size, i.bytes)) = some (some z, size, bytes)) (hzs : z.cells.size = size) (hs0 : 0 < size) (hby : bytes ≤ 1000)
  (base n r : Nat) (g : Nat → Int) (v : Value) (b : Nat) (hs : a.eval s = v) (hown : Ow w base t size k v n g) (hx : a.eval x = .slice (some ⟨b, 0, none⟩) r r)
  (hc : ∀ j, j < r * size → w.cell? ⟨b, j, none⟩ = some (.int k (g (n * size + j)))) (hr0 : 0 < r) (hn : n + r ≤ 100000000) (hbase : base ≤ w.heap.size)
  (h : ∀ v' w', Ow w' base t size k v' (n + r) g → Below base w w' → (∀ p, p < w.heap.size → v.ownBlock ≠ some p → w'.heap[p]? = w.heap[p]?) → (v'.ownBlock = v.ownBlock ∨ v'.ownBlock = some w.heap.size) → K (a.put o.dst v') w') : if Region.wanted o (yielded ops a.tmps) = true then Oper.wp Tryz.prog o a w K Q else E := by
 have hw : Region.wanted o (yielded ops a.tmps) = true := by simp [Region.wanted, hgd]
 rw [if_pos hw]
 exact wp_moreH s x ty ho t z size bytes k hty hinf hzs hs0 hby base n r g v b hs hown hx hc hr0 hn hbase h
theorem cell_keepH {w w' : World} {v : Value} (hk : ∀ p, p < w.heap.size → v.ownBlock ≠ some p → w'.heap[p]? = w.heap[p]?) {p off : Nat} {u : Value} (hu : w.cell? ⟨p, off, none⟩ = some u) (hne : v.ownBlock ≠ some p) : w'.cell? ⟨p, off, none⟩ = some u := (World.cell?_of_block (w := w) (a := ⟨p, off, none⟩) (hk p (cell_size hu) hne)).trans hu
theorem Ow.keepH {w w' : World} {v u : Value} (hk : ∀ p, p < w.heap.size → v.ownBlock ≠ some p → w'.heap[p]? = w.heap[p]?) {base : Nat} {t : TypeId} {size : Nat} {k : IntKind} {n : Nat} {g : Nat → Int} (ho : Ow w base t size k u n g) (hne : ∀ p, u.ownBlock = some p → v.ownBlock ≠ some p) : Ow w' base t size k u n g := by
 refine ⟨ho.1, ?_⟩
 rcases ho.2 with hn | ⟨b, cap, cur, rfl, hb, hh, rest⟩
 ·exact .inl hn
 ·refine .inr ⟨b, cap, cur, rfl, hb, ?_, rest⟩
  rw [hk b (Array.getElem?_eq_some_iff.1 hh).1 (hne b rfl)]
  exact hh
end Go.Proofs.YtkackkggpehpkaaGreatDoor

/- spec.Back. -/
set_option linter.unusedVariables false
set_option linter.unusedSimpArgs false
set_option maxHeartbeats 40000000
namespace Go.Proofs.YtkackkggpehpkaaGreatDoor
open Go.RowKit

theorem Ow.nltB {w : World} {base : Nat} {t : TypeId} {size : Nat} {k : IntKind} {v : Value} {n : Nat} {g : Nat → Int} (h : Ow w base t size k v n g) {p : Nat} (hp : p < base) : v.ownBlock ≠ some p := fun e => by
 have := (World.ownsRow.lt h p e).1
 omega
theorem Ow.lit2 (w : World) (ob : Obj) (t : TypeId) (size : Nat) (k : IntKind) (g : Nat → Int) : Ow ((w.alloc ob).alloc (.cells #[] t)) w.heap.size t size k (.slice (some ⟨w.heap.size + 1, 0, none⟩) 0 0) 0 g := by
 have := Ow.lit (w.alloc ob) t size k g
 rw [World.size_alloc] at this
 exact this.mono (by omega)
theorem cells2s {w : World} {b m : Nat} {k : IntKind} {g : Nat → Int} {x0 x1 : Int} (r s : Nat) (hrs : r * s = 2) (h0 : w.cell? ⟨b, 0, none⟩ = some (.int k x0)) (h1 : w.cell? ⟨b, 1, none⟩ = some (.int k x1)) (e0 : g (m + 0) = x0) (e1 : g (m + 1) = x1) : ∀ j, j < r * s → w.cell? ⟨b, j, none⟩ = some (.int k (g (m + j))) := by
 intro j hj
 rw [hrs] at hj
 match j, hj with
 | 0, _ => rw [e0]; exact h0
 | 1, _ => rw [e1]; exact h1
/-- What spec.Back answers. -/
def BackS (o : Ops) (k : Nat) : Prop := ∀ (K : Int) (w : World) (v : Value) (zs : Nat → Int × Int), K = (k : Int) → Rd w .u64 v (2 ^ (k - 1)) (2 ^ (k - 1) * 2) (flat zs) → (∀ j, WdC (zs j)) →
 Calls Tryz.prog 20 #[.int .i64 K, v] w fun e w' => ∃ v', e = .returned v' ∧ Ow w' w.heap.size 49 1 .u64 v' (2 ^ k) (o.bk k zs) ∧ Gb w w'

set_option maxRecDepth 1000000 in
theorem backS_one (o : Ops) : BackS o 1 := by
 intro K w v zs hK hr hcs
 obtain rfl : K = 1 := hK
 have HS : KW 43 #[.int .i64 1] (.int .i64 2) := fun w => size_k 1 1 rfl (by omega) 2 rfl w
 obtain ⟨b, cap, rfl, h1, h2, hc⟩ := hr.at (by decide)
 have c0 : w.cell? ⟨b, 0, none⟩ = some (.int .u64 (zs 0).1) := hc 0 (by decide)
 have c1 : w.cell? ⟨b, 1, none⟩ = some (.int .u64 (zs 0).2) := hc 1 (by decide)
 have e0 : o.bk 1 zs 0 = (zs 0).1 := rfl
 have e1 : o.bk 1 zs 1 = (zs 0).2 := rfl
 generalize o.bk 1 zs = f at *
 generalize (zs 0).1 = x at *
 generalize (zs 0).2 = y at *
 clear hr hc hcs
 go_enter Tryz.func20, Tryz.ntmps20
 go_wp2_with (go_at_call 43; refine kw (HS.out _) ?_)
 go_region
 all_goals go_wp2
 all_goals go_returns
 all_goals
  refine ⟨_, rfl, ?_, kg⟩
  have := World.ownsRow_lit (base := w.heap.size) (e := 49) (size := 1) w.drew #[.int .u64 x, .int .u64 y] 2 (Nat.le_refl _) (by decide) rfl
  refine Ow.congr (g := fun j => if j = 0 then x else y) this (fun j hj => ?_)
  match j, hj with
  | 0, _ => exact e0.symm
  | 1, _ => exact e1.symm

set_option maxRecDepth 1000000 in
theorem backS_more {o : Ops} (H : o.S) (HI : o.In) (k : Nat) (hk6 : k + 2 ≤ 6) (IH : BackS o (k + 1)) : BackS o (k + 2) := by
 intro K w v zs hK hr hcs
 unfold BackS at IH
 obtain ⟨K1, hK1⟩ : ∃ K1 : Int, K1 = ((k + 1 : Nat) : Int) := ⟨_, rfl⟩
 have uK : IntKind.i64.wrap (K - 1) = K1 := by rw [IntKind.wrap_i64]; omega
 have k1 : ¬ K < 1 := by omega
 have k2 : ¬ (6 : Int) < K := by omega
 have k3 : (K == 1) = false := by simp; omega
 obtain ⟨m, hm⟩ : ∃ m, m = 2 ^ k := ⟨_, rfl⟩
 have hm1 : 0 < m := by rw [hm]; exact Nat.pow_pos (by decide)
 have hm2 : m ≤ 16 := by
  rw [hm]
  have := Nat.pow_le_pow_right (show 0 < 2 by decide) (show k ≤ 4 by omega)
  omega
 obtain ⟨L, hL⟩ : ∃ L, L = 2 ^ (k + 1) := ⟨_, rfl⟩
 obtain ⟨Z, hZ⟩ : ∃ Z, Z = 2 ^ (k + 2) := ⟨_, rfl⟩
 have hLm : L = 2 * m := by rw [hL, Nat.pow_succ, ← hm]; omega
 have hZL : Z = 2 * L := by rw [hZ, Nat.pow_succ, ← hL]; omega
 rw [show k + 2 - 1 = k + 1 by omega, ← hL] at hr
 have HS : KW 43 #[.int .i64 K] (.int .i64 (Z : Int)) := fun w => size_k K (k + 2) hK (by omega) Z (by rw [hZ]) w
 have uZ : IntKind.i64.wrap ((L : Int) * 2) = (Z : Int) := by rw [IntKind.wrap_i64]; omega
 have HRt : Hid (∀ w', Calls Tryz.prog 9 #[.int .i64 K] w' fun e w'' => ∃ b cap, e = .returned (.slice (some ⟨b, 0, none⟩) L cap) ∧ w'.heap.size ≤ b ∧ b < w''.heap.size ∧ (∀ q, q < L * 2 → w''.cell? ⟨b, q, none⟩ = some (.int .u64 (flat (o.rt (k + 2)) q))) ∧ Gb w' w'') := fun w' => by
  rw [hK]
  refine (roots_s H HI (k + 2) (by omega) hk6 w').mono fun e w'' ⟨u, e1, e2, e3⟩ => ?_
  rw [show k + 2 - 1 = k + 1 by omega, ← hL] at e2
  obtain ⟨b, cap, rfl, c1, c2, _, _, c3⟩ := e2.at (by omega)
  exact ⟨b, cap, e1, c1, c2, fun j hj => (c3 j hj).1, e3⟩
 have HB : Hid (∀ w' u (ys : Nat → Int × Int), (∀ j, WdC (ys j)) → Rd w' .u64 u m (m * 2) (flat ys) → Calls Tryz.prog 20 #[.int .i64 K1, u] w' fun e w'' => ∃ b cap, e = .returned (.slice (some ⟨b, 0, none⟩) L cap) ∧ b < w''.heap.size ∧ (∀ q, q < L → w''.cell? ⟨b, q, none⟩ = some (.int .u64 (o.bk (k + 1) ys q))) ∧ Gb w' w'') := fun w' u ys hys hu => (IH K1 w' u ys hK1 (by rw [show k + 1 - 1 = k by omega, ← hm]; exact hu) hys).mono fun e w'' ⟨v', e1, e2, e3⟩ => by
  rw [← hL] at e2
  obtain ⟨b, cap, rfl, _, c2, _, _, c3⟩ := e2.at (by omega)
  exact ⟨b, cap, e1, c2, fun j hj => (c3 j (by omega)).1, e3⟩
 have wA : Hid _ := HI.bkA hcs
 have wB : Hid _ := HI.bkB (k + 2) hcs
 have HPr : Hid (∀ a1 a2 b1 b2, Wd a1 → Wd a2 → Wd b1 → Wd b2 → ∀ w', Calls Tryz.prog 45 #[.agg #[.int .u64 a1, .int .u64 a2], .agg #[.int .u64 b1, .int .u64 b2]] w' fun e w'' => e = .returned (.agg #[.int .u64 ((o.cMul (a1, a2) (b1, b2)).1), .int .u64 ((o.cMul (a1, a2) (b1, b2)).2)]) ∧ Gb w' w'') := fun a1 a2 b1 b2 h1 h2 h3 h4 w' => cprod_s H HI h1 h2 h3 h4 w'
 have HSu : Hid (∀ a1 a2 b1 b2, Wd a1 → Wd a2 → Wd b1 → Wd b2 → ∀ w', Calls Tryz.prog 46 #[.agg #[.int .u64 a1, .int .u64 a2], .agg #[.int .u64 b1, .int .u64 b2]] w' fun e w'' => e = .returned (.agg #[.int .u64 ((o.cAdd (a1, a2) (b1, b2)).1), .int .u64 ((o.cAdd (a1, a2) (b1, b2)).2)]) ∧ Gb w' w'') := fun a1 a2 b1 b2 h1 h2 h3 h4 w' => csum_s H h1 h2 h3 h4 w'
 have HDi : Hid (∀ a1 a2 b1 b2, Wd a1 → Wd a2 → Wd b1 → Wd b2 → ∀ w', Calls Tryz.prog 47 #[.agg #[.int .u64 a1, .int .u64 a2], .agg #[.int .u64 b1, .int .u64 b2]] w' fun e w'' => e = .returned (.agg #[.int .u64 ((o.cSub (a1, a2) (b1, b2)).1), .int .u64 ((o.cSub (a1, a2) (b1, b2)).2)]) ∧ Gb w' w'') := fun a1 a2 b1 b2 h1 h2 h3 h4 w' => cdiff_s H h1 h2 h3 h4 w'
 have HHa : Hid (∀ a1 a2, Wd a1 → Wd a2 → ∀ w', Calls Tryz.prog 49 #[.agg #[.int .u64 a1, .int .u64 a2]] w' fun e w'' => e = .returned (.agg #[.int .u64 ((o.cHalf (a1, a2)).1), .int .u64 ((o.cHalf (a1, a2)).2)]) ∧ Gb w' w'') := fun a1 a2 h1 h2 w' => chalf_s H HI h1 h2 w'
 obtain ⟨bx, cx, rfl, hx1, hx2, hxc⟩ := hr.at (by omega)
 have hbx := cell_size (hxc 0 (by omega))
 have HX : Hid _ := hxc
 have HM : Hid _ := hm
 have HLm : Hid _ := hLm
 have HZL : Hid _ := hZL
 have HZe : Hid _ := hZ
 have hL2 : L ≤ 32 := by omega
 have hZ2 : Z ≤ 64 := by omega
 have HCS : Hid _ := hcs
 clear hr hxc IH hK hK1 hm hL hLm hZL hZ hcs
 go_enter Tryz.func20, Tryz.ntmps20
 go_upto_region 5 with (go_at_call 43; refine kw (HS.out _) ?_)
 go_upto_region 8 with (go_at_call 9; refine (HRt.out _).mono ?_; rintro e W ⟨br, cr, rfl, hbr0, hbr, hcr, hg_W⟩)
 have hszw := hg_W.size
 simp only [World.size_alloc] at hszw hbr0
 go_wp2
 go_loopw [5, 6, 8] (fun fa fb i wr => ∃ j : Nat, j ≤ m ∧ i = .int .i64 j ∧ Ow wr w.heap.size 54 2 .u64 fa j (flat (o.bkA zs)) ∧ Ow wr w.heap.size 54 2 .u64 fb j (flat (o.bkB (k + 2) zs)) ∧ (∀ p, fa.ownBlock = some p → fb.ownBlock ≠ some p) ∧ fa.ownBlock ≠ some br ∧ fb.ownBlock ≠ some br ∧ br < wr.heap.size ∧ Hid (∀ q, q < L * 2 → wr.cell? ⟨br, q, none⟩ = some (.int .u64 (flat (o.rt (k + 2)) q))) ∧ Gb w wr) (fun _ _ i _ => m - (intOf i).toNat)
 case atStart =>
  refine ⟨0, Nat.zero_le _, rfl, Ow.gb (Ow.alloc (Ow.lit w _ _ _ _) _) hg_W, Ow.gb (Ow.lit2 w _ _ _ _ _) hg_W, ?_, ?_, ?_, hbr, hcr, kg⟩
  ·intro p h1 h2
   simp only [Value.ownBlock, Option.some.injEq, World.size_alloc] at h1 h2
   omega
  ·simp only [Value.ownBlock, ne_eq, Option.some.injEq]; omega
  ·simp only [Value.ownBlock, ne_eq, Option.some.injEq, World.size_alloc]; omega
 case round =>
  obtain ⟨j, hj, rfl, hoa, hob, hab, har, hbrr, hbr', HCR, hgb⟩ := hrel
  have hszr := hgb.size
  obtain ⟨J0, hJ0⟩ : ∃ J0 : Nat, J0 = 2 * j := ⟨_, rfl⟩
  have uA : IntKind.i64.wrap ((j : Int) * 2) = (J0 : Int) := by rw [IntKind.wrap_i64]; omega
  have uB : IntKind.i64.wrap (2 * (j : Int)) = (J0 : Int) := by rw [IntKind.wrap_i64]; omega
  by_cases hlt : j < m
  ·obtain ⟨J1, hJ1⟩ : ∃ J1 : Nat, J1 = 2 * j + 1 := ⟨_, rfl⟩
   have uC : IntKind.i64.wrap ((J0 : Int) + 1) = (J1 : Int) := by rw [IntKind.wrap_i64]; omega
   have hLm := HLm.out
   have i0 : (J0 : Int) < (L : Int) := by omega
   have i1 : (J1 : Int) < (L : Int) := by omega
   obtain ⟨x1, x2, hx⟩ : ∃ x1 x2, zs (2 * j) = (x1, x2) := ⟨_, _, rfl⟩
   obtain ⟨y1, y2, hy⟩ : ∃ y1 y2, zs (2 * j + 1) = (y1, y2) := ⟨_, _, rfl⟩
   obtain ⟨r, s, hrs⟩ : ∃ r s, o.rt (k + 2) (2 * j) = (r, s) := ⟨_, _, rfl⟩
   have p0 : wr.cell? ⟨bx, J0 * 2, none⟩ = some (.int .u64 x1) := by have := hgb.old (HX.out (2 * (2 * j)) (by omega)); rw [flat_re, hx] at this; rw [hJ0, Nat.mul_comm]; exact this
   have p1 : wr.cell? ⟨bx, J0 * 2 + 1, none⟩ = some (.int .u64 x2) := by have := hgb.old (HX.out (2 * (2 * j) + 1) (by omega)); rw [flat_im, hx] at this; rw [hJ0, Nat.mul_comm]; exact this
   have p2 : wr.cell? ⟨bx, J1 * 2, none⟩ = some (.int .u64 y1) := by have := hgb.old (HX.out (2 * (2 * j + 1)) (by omega)); rw [flat_re, hy] at this; rw [hJ1, Nat.mul_comm]; exact this
   have p3 : wr.cell? ⟨bx, J1 * 2 + 1, none⟩ = some (.int .u64 y2) := by have := hgb.old (HX.out (2 * (2 * j + 1) + 1) (by omega)); rw [flat_im, hy] at this; rw [hJ1, Nat.mul_comm]; exact this
   have p4 : wr.cell? ⟨br, J0 * 2, none⟩ = some (.int .u64 r) := by have := HCR.out (2 * (2 * j)) (by omega); rw [flat_re, hrs] at this; rw [hJ0, Nat.mul_comm]; exact this
   have p5 : wr.cell? ⟨br, J0 * 2 + 1, none⟩ = some (.int .u64 s) := by have := HCR.out (2 * (2 * j) + 1) (by omega); rw [flat_im, hrs] at this; rw [hJ0, Nat.mul_comm]; exact this
   have wX := HCS.out (2 * j)
   have wY := HCS.out (2 * j + 1)
   have wR := HI.rt (k + 2) (2 * j)
   rw [hx] at wX
   rw [hy] at wY
   rw [hrs] at wR
   have G0 : KB 39 #[.int .u64 s] (.int .u64 (tnW s)) := fun w' => turned_s wR.2 w'
   obtain ⟨a, ha⟩ : ∃ a, o.cAdd (x1, x2) (y1, y2) = a := ⟨_, rfl⟩
   obtain ⟨d, hd⟩ : ∃ d, o.cSub (x1, x2) (y1, y2) = d := ⟨_, rfl⟩
   obtain ⟨e, he⟩ : ∃ e, o.cMul d (r, tnW s) = e := ⟨_, rfl⟩
   have wa := HI.cAdd (show WdC (x1, x2) from wX) (show WdC (y1, y2) from wY)
   have wd := HI.cSub (show WdC (x1, x2) from wX) (show WdC (y1, y2) from wY)
   rw [ha] at wa
   rw [hd] at wd
   have we := HI.cMul wd (show WdC (r, tnW s) from ⟨wR.1, tnW_wd wR.2⟩)
   rw [he] at we
   have G1 := HSu.out x1 x2 y1 y2 wX.1 wX.2 wY.1 wY.2
   rw [ha] at G1
   have G2 := HHa.out a.1 a.2 wa.1 wa.2
   have G3 := HDi.out x1 x2 y1 y2 wX.1 wX.2 wY.1 wY.2
   rw [hd] at G3
   have G4 := HPr.out d.1 d.2 r (tnW s) wd.1 wd.2 wR.1 (tnW_wd wR.2)
   rw [show (d.1, d.2) = d from rfl, he] at G4
   have G5 := HHa.out e.1 e.2 we.1 we.2
   have sA : o.bkA zs j = o.cHalf (a.1, a.2) := by unfold Ops.bkA; rw [hx, hy, ha]
   have sB : o.bkB (k + 2) zs j = o.cHalf (e.1, e.2) := by
    show o.cHalf (o.cMul (o.cSub (zs (2 * j)) (zs (2 * j + 1))) (cConj (o.rt (k + 2) (2 * j)))) = _
    rw [hx, hy, hrs, hd]
    show o.cHalf (o.cMul d (r, tnW s)) = _
    rw [he]
   obtain ⟨f1, f2, hf⟩ : ∃ f1 f2, o.cHalf (a.1, a.2) = (f1, f2) := ⟨_, _, rfl⟩
   obtain ⟨g1, g2, hg⟩ : ∃ g1 g2, o.cHalf (e.1, e.2) = (g1, g2) := ⟨_, _, rfl⟩
   rw [hf] at G2 sA
   rw [hg] at G5 sB
   obtain ⟨a1, a2⟩ := a
   obtain ⟨d1, d2⟩ := d
   obtain ⟨e1, e2⟩ := e
   dsimp only at G1 G2 G3 G4 G5
   have q0 : Hid (flat (o.bkA zs) (j * 2 + 0) = f1) := by show _ = _; rw [show j * 2 + 0 = 2 * j by omega, flat_re, sA]
   have q1 : Hid (flat (o.bkA zs) (j * 2 + 1) = f2) := by show _ = _; rw [show j * 2 + 1 = 2 * j + 1 by omega, flat_im, sA]
   have q2 : Hid (flat (o.bkB (k + 2) zs) (j * 2 + 0) = g1) := by show _ = _; rw [show j * 2 + 0 = 2 * j by omega, flat_re, sB]
   have q3 : Hid (flat (o.bkB (k + 2) zs) (j * 2 + 1) = g2) := by show _ = _; rw [show j * 2 + 1 = 2 * j + 1 by omega, flat_im, sB]
   generalize tnW s = s' at *
   have F1 : Hid _ := G1
   have F2 : Hid _ := G2
   have F3 : Hid _ := G3
   have F4 : Hid _ := G4
   have F5 : Hid _ := G5
   have HOA : Hid (∀ w', Gb wr w' → Ow w' w.heap.size 54 2 .u64 _ j (flat (o.bkA zs))) := fun w' hg => hoa.gb hg
   have HOB : Hid (∀ w', Gb wr w' → Ow w' w.heap.size 54 2 .u64 _ j (flat (o.bkB (k + 2) zs))) := fun w' hg => hob.gb hg
   have HAx : Hid _ := hoa.nltB hbx
   have HBx : Hid _ := hob.nltB hbx
   have HAw : Hid _ := fun p (hp : wr.heap.size ≤ p) => hoa.ne hp
   have HBw : Hid _ := fun p (hp : wr.heap.size ≤ p) => hob.ne hp
   have HAB : Hid _ := hab
   have HAr : Hid _ := har
   have HJ0 : Hid _ := hJ0
   have HBr : Hid _ := hbrr
   clear hoa hob hab har hbrr G1 G2 G3 G4 G5 sA sB hf hg ha hd he wa wd we wX wY wR hx hy hrs hJ0 hJ1 hLm HPr HSu HDi HHa
   go_wp2
   go_cut [9] from 44 to 98 (fun s9 wx => ∃ bt : Nat, s9 = .pointer (some ⟨bt, 0, none⟩) ∧ wx.cell? ⟨bt, 0, none⟩ = some (.int .u64 r) ∧ wx.cell? ⟨bt, 1, none⟩ = some (.int .u64 s') ∧ wr.heap.size ≤ bt ∧ Gb wr wx)
   case first =>
    go_region_held3 (fun w' => w'.cell? ⟨br, J0 * 2, none⟩ = some (.int .u64 r) ∧ w'.cell? ⟨br, J0 * 2 + 1, none⟩ = some (.int .u64 s))
     ((go_split_ands; (repeat' apply And.intro) <;> exact kh))
     (first
      | (go_at_call 39; with_reducible refine (G0.out _).mono ?_; rintro e w2 ⟨rfl, hg_w2⟩; have hz2 := hg_w2.size; (try simp only [World.size_alloc, World.size_drew, World.size_setCell] at hz2); (try (have bx0 : w2.cell? ⟨wr.heap.size, 0, none⟩ = some (.int .u64 0) := hg_w2.old (by simp [go_sem]); have bx1 : w2.cell? ⟨wr.heap.size, 1, none⟩ = some (.int .u64 0) := hg_w2.old (by simp [go_sem]); have bz0 : w2.frozen? ⟨wr.heap.size, 0, none⟩ = false := hg_w2.fzc (v := .int .u64 0) (by simp [go_sem]) (fz_drew (fz_alloc (fz_new (Nat.le_refl _)))); have bz1 : w2.frozen? ⟨wr.heap.size, 1, none⟩ = false := hg_w2.fzc (v := .int .u64 0) (by simp [go_sem]) (fz_drew (fz_alloc (fz_new (Nat.le_refl _))))))))
    all_goals (go_wp2; go_meet)
    all_goals exact ⟨_, rfl, kb, kb, by omega, kg⟩
   case rest =>
    obtain ⟨bt, rfl, c0, c1, hbt, hgt⟩ := hcut
    have n0 : wc.cell? ⟨bx, J0 * 2, none⟩ = some (.int .u64 x1) := hgt.old p0
    have n1 : wc.cell? ⟨bx, J0 * 2 + 1, none⟩ = some (.int .u64 x2) := hgt.old p1
    have n2 : wc.cell? ⟨bx, J1 * 2, none⟩ = some (.int .u64 y1) := hgt.old p2
    have n3 : wc.cell? ⟨bx, J1 * 2 + 1, none⟩ = some (.int .u64 y2) := hgt.old p3
    have hbt2 := cell_size c0
    have hszc := hgt.size
    clear p0 p1 p2 p3 p4 p5
    go_wp2
    go_region_held3 (fun w' => w'.cell? ⟨bx, J0 * 2, none⟩ = some (.int .u64 x1) ∧ w'.cell? ⟨bx, J0 * 2 + 1, none⟩ = some (.int .u64 x2) ∧ w'.cell? ⟨bx, J1 * 2, none⟩ = some (.int .u64 y1) ∧ w'.cell? ⟨bx, J1 * 2 + 1, none⟩ = some (.int .u64 y2) ∧ w'.cell? ⟨bt, 0, none⟩ = some (.int .u64 r) ∧ w'.cell? ⟨bt, 1, none⟩ = some (.int .u64 s'))
     ((go_split_ands; (repeat' apply And.intro) <;> exact kh))
     (first
      | (go_at_call 46; with_reducible refine (F1.out _).mono ?_; rintro e w2 ⟨rfl, hg_w2⟩; have hz2 := hg_w2.size; (try simp only [World.size_alloc, World.size_drew, World.size_setCell] at hz2))
      | (go_at_call 49; with_reducible refine (F2.out _).mono ?_; rintro e w3 ⟨rfl, hg_w3⟩; have hz3 := hg_w3.size; (try simp only [World.size_alloc, World.size_drew, World.size_setCell] at hz3))
      | (refine step_moreH rfl _ _ 22 rfl 54 (.agg #[.int .u64 0, .int .u64 0]) 2 16 .u64 Tryz.underlying22 infoCs rfl (by decide) (by decide) w.heap.size j 1 (flat (o.bkA zs)) _ w3.heap.size rfl (HOA.out _ kg) rfl (cells2s 1 2 rfl (by simp [go_sem]) (by simp [go_sem]) q0.out q1.out) (by omega) (by omega) (by simp [go_sem]; omega) ?_; intro v4 w4 hown4 hb4 hk4 hbl4; have r0 : w4.cell? ⟨bx, J0 * 2, none⟩ = some (.int .u64 x1) := cell_keepH hk4 kb HAx.out; have r1 : w4.cell? ⟨bx, J0 * 2 + 1, none⟩ = some (.int .u64 x2) := cell_keepH hk4 kb HAx.out; have r2 : w4.cell? ⟨bx, J1 * 2, none⟩ = some (.int .u64 y1) := cell_keepH hk4 kb HAx.out; have r3 : w4.cell? ⟨bx, J1 * 2 + 1, none⟩ = some (.int .u64 y2) := cell_keepH hk4 kb HAx.out; have r4 : w4.cell? ⟨bt, 0, none⟩ = some (.int .u64 r) := cell_keepH hk4 kb (HAw.out _ hbt); have r5 : w4.cell? ⟨bt, 1, none⟩ = some (.int .u64 s') := cell_keepH hk4 kb (HAw.out _ hbt)))
    all_goals
     have gq : Gb wr (w3.alloc (.cells #[.int .u64 f1, .int .u64 f2] 54)) := kg
     have hsq := gq.size
     have hs4 := hb4.size
     simp only [World.size_alloc] at hsq hs4 hbl4
     have hobW4 := Ow.keepH hk4 (HOB.out _ gq) (fun p hb ha => HAB.out p ha hb)
     have hgW4 : Gb w w4 := Gb.below (hgb.trans gq) hb4 (Nat.le_refl _)
     have HC4 : Hid (∀ q, q < L * 2 → w4.cell? ⟨br, q, none⟩ = some (.int .u64 (flat (o.rt (k + 2)) q))) := fun q hq => cell_keepH hk4 (gq.old (HCR.out q hq)) HAr.out
     have H4ne : Hid (∀ p, v4.ownBlock = some p → u6.ownBlock ≠ some p) := fun p h4 => by
      rcases hbl4 with e | e
      ·rw [e] at h4; exact HAB.out p h4
      ·rw [e] at h4; injection h4 with h4; exact HBw.out p (by omega)
     have H4br : Hid (v4.ownBlock ≠ some br) := by
      rcases hbl4 with e | e
      ·show _ ≠ _; rw [e]; exact HAr.out
      ·show _ ≠ _; rw [e]; intro h; injection h with h; omega
     have HO4 : Hid (∀ w', Gb w4 w' → Ow w' w.heap.size 54 2 .u64 v4 (j + 1) (flat (o.bkA zs))) := fun w' hg => hown4.gb hg
     have HL4 : Hid (∀ p, v4.ownBlock = some p → p < w4.heap.size) := fun p h => (World.ownsRow.lt hown4 p h).2
     have HOB4 : Hid (∀ w', Gb w4 w' → Ow w' w.heap.size 54 2 .u64 u6 j (flat (o.bkB (k + 2) zs))) := fun w' hg => hobW4.gb hg
     have hsr4 : wr.heap.size ≤ w4.heap.size := by omega
     clear hk4 hbl4 hown4 hobW4 hb4 gq hg_w2 hg_w3 hz2 hz3
     (try go_split_ands)
     go_wp2
     go_region_held3 (fun w' => w'.cell? ⟨bx, J0 * 2, none⟩ = some (.int .u64 x1) ∧ w'.cell? ⟨bx, J0 * 2 + 1, none⟩ = some (.int .u64 x2) ∧ w'.cell? ⟨bx, J1 * 2, none⟩ = some (.int .u64 y1) ∧ w'.cell? ⟨bx, J1 * 2 + 1, none⟩ = some (.int .u64 y2) ∧ w'.cell? ⟨bt, 0, none⟩ = some (.int .u64 r) ∧ w'.cell? ⟨bt, 1, none⟩ = some (.int .u64 s'))
      ((go_split_ands; (repeat' apply And.intro) <;> exact kh))
      (first
       | (go_at_call 47; with_reducible refine (F3.out _).mono ?_; rintro e w5 ⟨rfl, hg_w5⟩; have hz5 := hg_w5.size; (try simp only [World.size_alloc, World.size_drew, World.size_setCell] at hz5))
       | (go_at_call 45; with_reducible refine (F4.out _).mono ?_; rintro e w6 ⟨rfl, hg_w6⟩; have hz6 := hg_w6.size; (try simp only [World.size_alloc, World.size_drew, World.size_setCell] at hz6))
       | (go_at_call 49; with_reducible refine (F5.out _).mono ?_; rintro e w7 ⟨rfl, hg_w7⟩; have hz7 := hg_w7.size; (try simp only [World.size_alloc, World.size_drew, World.size_setCell] at hz7))
       | (refine step_moreH rfl _ _ 22 rfl 54 (.agg #[.int .u64 0, .int .u64 0]) 2 16 .u64 Tryz.underlying22 infoCs rfl (by decide) (by decide) w.heap.size j 1 (flat (o.bkB (k + 2) zs)) _ w7.heap.size rfl (HOB4.out _ kg) rfl (cells2s 1 2 rfl (by simp [go_sem]) (by simp [go_sem]) q2.out q3.out) (by omega) (by omega) (by simp [go_sem]; omega) ?_; intro v8 w8 hown8 hb8 hk8 hbl8; have r0 : w8.cell? ⟨bx, J0 * 2, none⟩ = some (.int .u64 x1) := cell_keepH hk8 kb HBx.out; have r1 : w8.cell? ⟨bx, J0 * 2 + 1, none⟩ = some (.int .u64 x2) := cell_keepH hk8 kb HBx.out; have r2 : w8.cell? ⟨bx, J1 * 2, none⟩ = some (.int .u64 y1) := cell_keepH hk8 kb HBx.out; have r3 : w8.cell? ⟨bx, J1 * 2 + 1, none⟩ = some (.int .u64 y2) := cell_keepH hk8 kb HBx.out; have r4 : w8.cell? ⟨bt, 0, none⟩ = some (.int .u64 r) := cell_keepH hk8 kb (HBw.out _ hbt); have r5 : w8.cell? ⟨bt, 1, none⟩ = some (.int .u64 s') := cell_keepH hk8 kb (HBw.out _ hbt)))
     all_goals
      have gq8 : Gb w4 (w7.alloc (.cells #[.int .u64 g1, .int .u64 g2] 54)) := kg
      have hsq8 := gq8.size
      have hs8 := hb8.size
      simp only [World.size_alloc] at hsq8 hs8 hbl8
      have hoa8 := Ow.keepH hk8 (HO4.out _ gq8) H4ne.out
      have hgW8 : Gb w w8 := Gb.below (hgW4.trans gq8) hb8 (Nat.le_refl _)
      have HC8 : Hid (∀ q, q < L * 2 → w8.cell? ⟨br, q, none⟩ = some (.int .u64 (flat (o.rt (k + 2)) q))) := fun q hq => cell_keepH hk8 (gq8.old (HC4.out q hq)) HBr.out
      have hd8 : ∀ p, v4.ownBlock = some p → v8.ownBlock ≠ some p := fun p h4 => by
       rcases hbl8 with e | e
       ·rw [e]; exact H4ne.out p h4
       ·rw [e]; intro h; injection h with h; have := HL4.out p h4; omega
      have hb8r : v8.ownBlock ≠ some br := by
       rcases hbl8 with e | e
       ·rw [e]; exact HBr.out
       ·rw [e]; intro h; injection h with h; omega
      go_wp2
      go_roundw
      case rel => exact ⟨j + 1, by omega, by go_num, hoa8, hown8, hd8, H4br.out, hb8r, by omega, HC8.out, hgW8⟩
      case measure => simp [intOf] <;> omega
  ·obtain rfl : j = m := by omega
   have iL : ¬ (J0 : Int) < (L : Int) := by have := HLm.out; omega
   have hra := hoa.rd
   have hrb := hob.rd
   clear hoa hob hab har hbrr hJ0 HPr HSu HDi HHa HCR
   rename World => X
   go_upto_region 15 with (go_at_call 20; refine (HB.out _ _ (o.bkA zs) wA.out hra).mono ?_; rintro e w2 ⟨ba, ca, rfl, hba, hca, hg_w2⟩)
   go_upto_region 16 with (go_at_call 20; refine (HB.out _ _ (o.bkB (k + 2) zs) wB.out (hrb.gb hg_w2)).mono ?_; rintro e w3 ⟨bb, cb, rfl, hbb, hcb, hg_w3⟩)
   have HCA : Hid (∀ q, q < L → w3.cell? ⟨ba, q, none⟩ = some (.int .u64 (o.bk (k + 1) (o.bkA zs) q))) := fun q hq => hg_w3.old (hca q hq)
   have HCB : Hid _ := hcb
   have hgX : Gb w w3 := (hgb.trans hg_w2).trans hg_w3
   have hszX := hgX.size
   have hs3 := hg_w3.size
   clear hca hcb hra hrb hgb hg_w2 hg_w3 HB
   go_wp2
   go_loopw [12, 13] (fun f i wr => ∃ i' : Nat, i' ≤ L ∧ i = .int .i64 i' ∧ Ow wr w3.heap.size 49 1 .u64 f (2 * i') (o.bk (k + 2) zs) ∧ Gb w3 wr) (fun _ i _ => L - (intOf i).toNat)
   case atStart => exact ⟨0, Nat.zero_le _, rfl, Ow.lit w3 _ _ _ _, kg⟩
   case round =>
    obtain ⟨i, hi, rfl, hof, hgr⟩ := hrel
    have hsr := hgr.size
    by_cases hlt : i < L
    ·have hlt' : (i : Int) < (L : Int) := by omega
     obtain ⟨x, hx⟩ : ∃ x, o.bk (k + 1) (o.bkA zs) i = x := ⟨_, rfl⟩
     obtain ⟨y, hy⟩ : ∃ y, o.bk (k + 1) (o.bkB (k + 2) zs) i = y := ⟨_, rfl⟩
     have p0 : wr.cell? ⟨ba, i, none⟩ = some (.int .u64 x) := by rw [← hx]; exact hgr.old (HCA.out i hlt)
     have p1 : wr.cell? ⟨bb, i, none⟩ = some (.int .u64 y) := by rw [← hy]; exact hgr.old (HCB.out i hlt)
     have e0 : Hid (o.bk (k + 2) zs (2 * i * 1 + 0) = x) := by show _ = _; rw [show 2 * i * 1 + 0 = 2 * i by omega]; simp only [Ops.bk]; rw [if_pos (by omega), show 2 * i / 2 = i by omega, hx]
     have e1 : Hid (o.bk (k + 2) zs (2 * i * 1 + 1) = y) := by show _ = _; rw [show 2 * i * 1 + 1 = 2 * i + 1 by omega]; simp only [Ops.bk]; rw [if_neg (by omega), show (2 * i + 1) / 2 = i by omega, hy]
     have HOg : Hid _ := fun w' (hg : Gb wr w') => Ow.gb hof hg
     have HNa : Hid _ := hof.nltB (show ba < w3.heap.size by omega)
     have HNb : Hid _ := hof.nltB hbb
     clear hof hx hy
     go_wp2
     go_region_held3 (fun w' => w'.cell? ⟨ba, i, none⟩ = some (.int .u64 x) ∧ w'.cell? ⟨bb, i, none⟩ = some (.int .u64 y))
      ((go_split_ands; (repeat' apply And.intro) <;> exact kh))
      (first
       | (refine step_more rfl _ _ 27 rfl 49 (.int .u64 0) 1 8 .u64 Tryz.underlying27 infoUs rfl (by decide) (by decide) w3.heap.size (2 * i) 2 (o.bk (k + 2) zs) _ wr.heap.size rfl (HOg.out _ kg) rfl (cells2s (g := o.bk (k + 2) zs) (m := 2 * i * 1) 2 1 rfl (by simp [go_sem]) (by simp [go_sem]) e0.out e1.out) (by omega) (by omega) (by simp [go_sem]; omega) ?_; intro v4 w4 hown4 hb4 hk4 _; have r0 : w4.cell? ⟨ba, i, none⟩ = some (.int .u64 x) := hk4 _ _ _ kb HNa.out; have r1 : w4.cell? ⟨bb, i, none⟩ = some (.int .u64 y) := hk4 _ _ _ kb HNb.out))
     all_goals
      go_wp2
      go_roundw
      case rel => exact ⟨i + 1, by omega, by go_num, hown4, Gb.below kg hb4 (Nat.le_refl _)⟩
      case measure => simp [intOf] <;> omega
    ·obtain rfl : i = L := by omega
     have hjm' : ¬ (i : Int) < (i : Int) := by omega
     have hgw : Gb w wr := hgX.trans hgr
     have eZ : 2 ^ (k + 2) = 2 * i := by have := HZe.out; have := HZL.out; omega
     have hfin := Ow.mono hof hszX
     clear hof
     go_wp2
     go_returns
     exact ⟨_, rfl, hfin, hgw⟩
theorem backS_s {o : Ops} (H : o.S) (HI : o.In) : ∀ k : Nat, 1 ≤ k → k ≤ 6 → BackS o k
 | 0, h, _ => absurd h (by omega)
 | 1, _, _ => backS_one o
 | k + 2, _, h => backS_more H HI k h (backS_s H HI (k + 1) (by omega) (by omega))
end Go.Proofs.YtkackkggpehpkaaGreatDoor

/- Back of both sides; laws.FnExactBack. -/
set_option linter.unusedVariables false
set_option linter.unusedSimpArgs false
set_option maxHeartbeats 40000000
namespace Go.Proofs.YtkackkggpehpkaaGreatDoor
open Go.RowKit

def bN (k : Int) (n : Nat) : Nat := if 1 ≤ k ∧ k ≤ 6 ∧ n = 2 ^ (k.toNat - 1) then 2 ^ k.toNat else 0
theorem bN_le (k : Int) (n : Nat) : bN k n ≤ 64 := by
 unfold bN
 split
 ·have := Nat.pow_le_pow_right (show 0 < 2 by decide) (show k.toNat ≤ 6 by omega)
  omega
 ·omega
/-- A call that makes a list of words. -/
abbrev MakesU (F : Nat) (args : Array Value) (w : World) (n : Nat) (f : Nat → Int) : Prop := Calls Tryz.prog F args w fun e w' => ∃ v, e = .returned v ∧ Ow w' w.heap.size 49 1 .u64 v n f ∧ Gb w w'

theorem logB_any (k : Int) (b : Bool) (hb : b = decide (1 ≤ k ∧ k ≤ 6)) (w : World) :
  Calls Tryz.prog 40 #[.int .i64 k] w fun e w' => e = .returned (.bool b) ∧ w = w' := by
 rcases (show (k < 1 ∨ 1 ≤ k ∧ 6 < k ∨ 1 ≤ k ∧ k ≤ 6) by omega) with c | ⟨c, c'⟩ | ⟨c, c'⟩
 ·obtain rfl : b = false := by rw [hb]; simp; omega
  have c1 : ¬ 1 ≤ k := by omega
  clear hb
  go_enter Tryz.func40, Tryz.ntmps40
  go_wp2
  go_returns
  exact ⟨rfl, rfl⟩
 ·obtain rfl : b = false := by rw [hb]; simp; omega
  have c1 : ¬ k ≤ 6 := by omega
  clear hb
  go_enter Tryz.func40, Tryz.ntmps40
  go_wp2
  go_returns
  exact ⟨rfl, rfl⟩
 ·obtain rfl : b = true := by rw [hb]; simp; omega
  clear hb
  go_enter Tryz.func40, Tryz.ntmps40
  go_wp2
  go_returns
  exact ⟨rfl, rfl⟩

set_option maxRecDepth 100000 in
theorem back_i {o : Ops} (H : o.I) (HI : o.In) (k : Nat) (hk1 : 1 ≤ k) (hk6 : k ≤ 6) {w : World} {v cv : Value} {zs : Nat → Int × Int} (hw : Fm w) (hr : Rd w .u64 v (2 ^ (k - 1)) (2 ^ (k - 1) * 2) (flat zs)) (hcs : ∀ j, WdC (zs j)) (hc : CR o w cv (k + 1)) :
  MakesU 51 #[cv, v] w (2 ^ k) (o.bk k zs) := by
 have HW : Hid (Calls Tryz.prog 96 #[.int .i64 (k : Int), v, .func (.func 97) #[cv] #[], .func (.func 98) #[] #[], .func (.func 93) #[] #[]] w fun e w' => ∃ v', e = .returned v' ∧ Ow w' w.heap.size 49 1 .u64 v' (2 ^ k) (o.bk k zs) ∧ Gb w w') := walkB_i H HI k hk1 k w v cv (k + 1) zs rfl hw hr hcs hc (by omega) (by omega)
 obtain ⟨g, cap, rfl, _⟩ := hc
 obtain ⟨n, hn⟩ : ∃ n, n = k + 1 := ⟨_, rfl⟩
 rw [← hn] at HW ⊢
 have u : IntKind.i64.wrap ((n : Int) - 1) = (k : Int) := by rw [IntKind.wrap_i64]; omega
 clear hw hr hcs H HI hn
 go_enter Tryz.func51, Tryz.ntmps51
 go_wp2_with (go_at_call 96; refine HW.out.mono ?_; rintro e w1 ⟨v', rfl, ho1, hg_w1⟩)
 go_returns
 exact ⟨_, rfl, ho1, hg_w1⟩

set_option maxRecDepth 100000 in
theorem Back_i {o : Ops} (H : o.I) (HI : o.In) (k : Int) {w : World} {v : Value} {n : Nat} {zs : Nat → Int × Int} (hn : n ≤ 2000000) (hw : Fm w) (hr : Rd w .u64 v n (n * 2) (flat zs)) (hcs : ∀ j, WdC (zs j)) :
  MakesU 22 #[.int .i64 k, v] w (bN k n) (o.bk k.toNat zs) := by
 by_cases h : 1 ≤ k ∧ k ≤ 6
 ·have HL : KW 40 #[.int .i64 k] (.bool true) := fun w => logB_any _ true (by simp; omega) w
  by_cases hk : n = 2 ^ (k.toNat - 1)
  ·have ht : bN k n = 2 ^ k.toNat := by unfold bN; rw [if_pos ⟨h.1, h.2, hk⟩]
   rw [ht]
   have HC : Hid (Calls Tryz.prog 41 #[.int .i64 k] w fun e w' => ∃ cv, e = .returned cv ∧ CR o w' cv (k.toNat + 1) ∧ Gb w w') := by
    have := circleOf_i H HI k.toNat (by omega) (by omega) hw
    rw [Int.toNat_of_nonneg (by omega)] at this
    exact this.mono fun e w' ⟨v, e1, e2, e3⟩ => ⟨v, e1, e2.cr (by omega), e3⟩
   have HT : Hid (∀ w' cv, Gb w w' → CR o w' cv (k.toNat + 1) → MakesU 51 #[cv, v] w' (2 ^ k.toNat) (o.bk k.toNat zs)) := fun w' cv hg hc => back_i H HI k.toNat (by omega) (by omega) (hw.gb hg) (by rw [← hk]; exact hr.gb hg) hcs hc
   obtain ⟨a, cap, rfl, _⟩ := hr
   generalize 2 ^ k.toNat = N at *
   generalize o.bk k.toNat zs = f at *
   generalize k.toNat + 1 = n1 at *
   have hcase : k = 1 ∧ n = 1 ∨ k = 2 ∧ n = 2 ∨ k = 3 ∧ n = 4 ∨ k = 4 ∧ n = 8 ∨ k = 5 ∧ n = 16 ∨ k = 6 ∧ n = 32 := by
    rcases (show k = 1 ∨ k = 2 ∨ k = 3 ∨ k = 4 ∨ k = 5 ∨ k = 6 by omega) with rfl | rfl | rfl | rfl | rfl | rfl <;> simp at hk <;> simp [hk]
   clear hk ht H HI hw hcs h
   rcases hcase with ⟨rfl, rfl⟩ | ⟨rfl, rfl⟩ | ⟨rfl, rfl⟩ | ⟨rfl, rfl⟩ | ⟨rfl, rfl⟩ | ⟨rfl, rfl⟩
   all_goals
    go_enter Tryz.func22, Tryz.ntmps22
    go_wp2_with (first
     | (go_at_call 40; refine kw (HL.out _) ?_)
     | (go_at_call 41; refine HC.out.mono ?_; rintro e w1 ⟨cv, rfl, hcr, hg_w1⟩)
     | (go_at_call 51; refine (HT.out _ _ hg_w1 hcr).mono ?_; rintro e w2 ⟨v2, rfl, ho2, hg_w2⟩))
    go_returns
    exact ⟨_, rfl, Ow.mono ho2 hg_w1.size, hg_w1.trans hg_w2⟩
  ·have ht : bN k n = 0 := by unfold bN; rw [if_neg (fun h' => hk h'.2.2)]
   rw [ht]
   obtain ⟨a, cap, rfl, _⟩ := hr
   have hcase : k = 1 ∧ ((n : Int) == 1) = false ∨ k = 2 ∧ ((n : Int) == 2) = false ∨ k = 3 ∧ ((n : Int) == 4) = false ∨ k = 4 ∧ ((n : Int) == 8) = false ∨ k = 5 ∧ ((n : Int) == 16) = false ∨ k = 6 ∧ ((n : Int) == 32) = false := by
    rcases (show k = 1 ∨ k = 2 ∨ k = 3 ∨ k = 4 ∨ k = 5 ∨ k = 6 by omega) with rfl | rfl | rfl | rfl | rfl | rfl <;> simp at hk <;> simp <;> omega
   clear hk ht H HI hw hcs h
   rcases hcase with ⟨rfl, hq⟩ | ⟨rfl, hq⟩ | ⟨rfl, hq⟩ | ⟨rfl, hq⟩ | ⟨rfl, hq⟩ | ⟨rfl, hq⟩
   all_goals
    go_enter Tryz.func22, Tryz.ntmps22
    go_wp2_with (go_at_call 40; refine kw (HL.out _) ?_)
    go_returns
    exact ⟨_, rfl, Ow.nil _ _ _ _ _ _, Gb.refl w⟩
 ·have HL : KW 40 #[.int .i64 k] (.bool false) := fun w => logB_any _ false (by simp; omega) w
  have ht : bN k n = 0 := by unfold bN; rw [if_neg (fun h' => h ⟨h'.1, h'.2.1⟩)]
  rw [ht]
  obtain ⟨a, cap, rfl, _⟩ := hr
  clear ht H HI hw hcs h
  go_enter Tryz.func22, Tryz.ntmps22
  go_wp2_with (go_at_call 40; refine kw (HL.out _) ?_)
  go_returns
  exact ⟨_, rfl, Ow.nil _ _ _ _ _ _, Gb.refl w⟩

set_option maxRecDepth 100000 in
theorem Back_s {o : Ops} (H : o.S) (HI : o.In) (k : Int) {w : World} {v : Value} {n : Nat} {zs : Nat → Int × Int} (hn : n ≤ 2000000) (hr : Rd w .u64 v n (n * 2) (flat zs)) (hcs : ∀ j, WdC (zs j)) :
  MakesU 20 #[.int .i64 k, v] w (bN k n) (o.bk k.toNat zs) := by
 by_cases h : 1 ≤ k ∧ k ≤ 6
 ·by_cases hk : n = 2 ^ (k.toNat - 1)
  ·have ht : bN k n = 2 ^ k.toNat := by unfold bN; rw [if_pos ⟨h.1, h.2, hk⟩]
   rw [ht]
   rw [hk] at hr
   exact backS_s H HI k.toNat (by omega) (by omega) k w v zs (by omega) hr hcs
  ·have ht : bN k n = 0 := by unfold bN; rw [if_neg (fun h' => hk h'.2.2)]
   rw [ht]
   obtain ⟨a, cap, rfl, _⟩ := hr
   obtain ⟨L, hL⟩ : ∃ L, L = 2 ^ k.toNat := ⟨_, rfl⟩
   have hL2 : L = 2 * 2 ^ (k.toNat - 1) := by rw [hL, Nat.mul_comm, ← Nat.pow_succ]; congr 1; omega
   have HS : KW 43 #[.int .i64 k] (.int .i64 (L : Int)) := fun w => size_k k k.toNat (by omega) (by omega) L (by rw [hL]) w
   obtain ⟨M, hM⟩ : ∃ M : Nat, M = n * 2 := ⟨_, rfl⟩
   have u : IntKind.i64.wrap ((n : Int) * 2) = (M : Int) := by rw [IntKind.wrap_i64]; omega
   have hq : ((M : Int) == (L : Int)) = false := by simp; omega
   have k1 : ¬ k < 1 := by omega
   have k2 : ¬ (6 : Int) < k := by omega
   clear hk ht H HI hcs h hL hL2 hM
   go_enter Tryz.func20, Tryz.ntmps20
   go_wp2_with (go_at_call 43; refine kw (HS.out _) ?_)
   go_returns
   exact ⟨_, rfl, Ow.lit _ _ _ _ _, kg⟩
 ·have ht : bN k n = 0 := by unfold bN; rw [if_neg (fun h' => h ⟨h'.1, h'.2.1⟩)]
  rw [ht]
  obtain ⟨a, cap, rfl, _⟩ := hr
  clear ht H HI hcs
  rcases (show k < 1 ∨ 1 ≤ k ∧ 6 < k by omega) with c | ⟨c, c'⟩
  ·clear h
   go_enter Tryz.func20, Tryz.ntmps20
   go_wp2
   go_returns
   exact ⟨_, rfl, Ow.lit _ _ _ _ _, kg⟩
  ·have c1 : ¬ k < 1 := by omega
   clear h
   go_enter Tryz.func20, Tryz.ntmps20
   go_wp2
   go_returns
   exact ⟨_, rfl, Ow.lit _ _ _ _ _, kg⟩

set_option maxRecDepth 100000 in
theorem lawBack {o : Ops} (HS : o.S) (HP : o.I) (HI : o.In) (k : Int) (a : Option Addr) (n cap : Nat) (zs : Nat → Int × Int) (hcs : ∀ j, WdC (zs j)) {w : World} (hw : Fm w) (ha : ArgC w a n (flat zs)) (hn : n ≤ 1048576) :
  Calls Tryz.prog 5 #[.int .i64 k, .slice a n cap] w fun e w' => e = .returned (.bool true) ∧ Gb w w' := by
 have hN := bN_le k n
 have H1 : Hid (∀ w v, Rd w .u64 v n (n * 2) (flat zs) → MakesU 20 #[.int .i64 k, v] w (bN k n) (o.bk k.toNat zs)) := fun w v hr => Back_s HS HI k (by omega) hr hcs
 have H2 : Hid (∀ w' v, Gb w w' → Rd w' .u64 v n (n * 2) (flat zs) → MakesU 22 #[.int .i64 k, v] w' (bN k n) (o.bk k.toNat zs)) := fun w' v hg hr => Back_i HP HI k (by omega) (hw.gb hg) hr hcs
 have H3 : Hid (∀ w', Gb w w' → Calls Tryz.prog 21 #[.slice a n cap] w' fun e w'' => ∃ v, e = .returned v ∧ Ow w'' w'.heap.size 54 2 .u64 v n (flat zs) ∧ Gb w' w'') := fun w' hg => toCplxS_any (ha.gb hg) (by omega)
 have H0 : KW 19 #[.slice a n cap, .int .i64 1048576] (.int .i64 (1048576 - n)) := fun w => szCplxS_any a n cap w hn
 generalize bN k n = N at *
 generalize o.bk k.toNat zs = f at *
 have hnn : ¬ (1048576 - (n : Int)) < 0 := by omega
 have hz : ¬ ((2 * n + 1 : Nat) : Int) < 0 := by omega
 have hz1 : ¬ (1 + (N : Int)) < 0 := by omega
 clear HS HP HI hw ha hcs
 have rd1 : ∀ {w' : World} {b : Nat} {v : Value} {g : Nat → Int}, Ow w' b 49 1 .u64 v N g → Rd w' .u64 v N N g := fun ho => by have := ho.rd; rw [Nat.mul_one] at this; exact this
 go_enter Tryz.func5, Tryz.ntmps5
 go_upto_region 5 with (go_at_call 19; refine kw (H0.out _) ?_)
 go_upto_region 6 with (first
  | (go_at_call 21; refine (H3.out _ kg).mono ?_; rintro e w1 ⟨u1, rfl, hu1, hg_w1⟩)
  | (go_at_call 20; refine (H1.out _ _ hu1.rd).mono ?_; rintro e w2 ⟨v0, rfl, ho0, hg_w2⟩))
 go_upto_region 7 with (go_at_call 21; refine (H3.out _ kg).mono ?_; rintro e w3 ⟨x1, rfl, hx1, hg_w3⟩)
 go_upto_region 8 with (go_at_call 22; refine (H2.out _ _ kg hx1.rd).mono ?_; rintro e w4 ⟨v1, rfl, ho1, hg_w4⟩)
 go_upto_region 10 with (go_at_call 17; refine (eqUint64S_same (rd1 ho1) (((rd1 ho0).gb hg_w3).gb hg_w4) (by omega)).mono ?_; rintro e w5 ⟨rfl, hg_w5⟩)
 have hx5 := (hx1.gb hg_w4).gb hg_w5
 go_upto_region 12 with (first
  | (go_at_call 21; refine (H3.out _ kg).mono ?_; rintro e w6 ⟨u6, rfl, hu6, hg_w6⟩)
  | (go_at_call 11; refine (eqCplxS_same (hx5.gb hg_w6).rd hu6.rd (by omega)).mono ?_; rintro e w7 ⟨rfl, hg_w7⟩))
 have hx7 := (hx5.gb hg_w6).gb hg_w7
 have ho17 : Ow w7 w3.heap.size 49 1 .u64 v1 N f := ((ho1.gb hg_w5).gb hg_w6).gb hg_w7
 have hr07 : Rd w7 .u64 v0 N N f := (((((rd1 ho0).gb hg_w3).gb hg_w4).gb hg_w5).gb hg_w6).gb hg_w7
 have hg_7 : Gb w w7 := kg
 go_upto_region 14 with (go_at_call 12; refine (markCplxS_any hx7 (by omega)).mono ?_; rintro e w8 ⟨rfl, _, hmk8⟩)
 have hs1 := hg_w1.size
 have hs2 := hg_w2.size
 have hs3 := hg_w3.size
 have hb0 : ∀ p, v0.ownBlock = some p → w1.heap.size ≤ p ∧ p < w2.heap.size := fun p h => ⟨(World.ownsRow.lt ho0 p h).1, (World.ownsRow.lt ho0 p h).2⟩
 have hbx : ∀ p, x1.ownBlock = some p → w2.heap.size ≤ p ∧ p < w3.heap.size := fun p h => ⟨(World.ownsRow.lt hx1 p h).1, (World.ownsRow.lt hx1 p h).2⟩
 have hb1 : ∀ p, v1.ownBlock = some p → w3.heap.size ≤ p := fun p h => (World.ownsRow.lt ho1 p h).1
 have ho8 : Ow w8 w3.heap.size 49 1 .u64 v1 N f := Ow.mk hmk8 ho17 (fun p h h' => by have := hb1 p h; have := hbx p h'; omega)
 have hr8 : Rd w8 .u64 v0 N N f := Rd.mk hmk8 hr07 (fun p h h' => by have := hb0 p h; have := hbx p h'; omega)
 have hg_8 : Gb w w8 := Gb.below hg_7 (hmk8.below (base := w2.heap.size) fun p h => (hbx p h).1) (by omega)
 clear hmk8 hx1 hx5 hx7 hu1 hu6 ho17 hr07
 go_upto_region 17 with (go_at_call 17; refine (eqUint64S_same (rd1 ho8) hr8 (by omega)).mono ?_; rintro e w9 ⟨rfl, hg_w9⟩)
 go_upto_region 18 with (go_at_call 18; refine (markUint64S_any 1 (by omega) (by omega) (ho8.gb hg_w9) (by omega)).mono ?_; rintro e wa ⟨rfl, hoa, hmka⟩)
 have hra : Rd wa .u64 v0 N N f := Rd.mk hmka (hr8.gb hg_w9) (fun p h h' => by have := hb0 p h; have := hb1 p h'; omega)
 have hg_a : Gb w wa := Gb.below (Gb.trans hg_8 hg_w9) (hmka.below (base := w3.heap.size) hb1) (by omega)
 clear hmka
 go_upto_region 24 with (go_at_call 23; refine kw (heldUint64S_any (rd1 hoa) (by omega)) ?_)
 go_upto_region 25 with (first
  | (go_at_call 21; refine (H3.out _ kg).mono ?_; rintro e wb ⟨ub, rfl, hub, hg_wb⟩)
  | (go_at_call 22; refine (H2.out _ _ kg hub.rd).mono ?_; rintro e wd ⟨vd, rfl, hod, hg_wd⟩))
 go_wp2_with (go_at_call 17; refine (eqUint64S_same (rd1 hod) ((hra.gb hg_wb).gb hg_wd) (by omega)).mono ?_; rintro e we ⟨rfl, hg_we⟩)
 go_returns
 exact ⟨rfl, kg⟩
end Go.Proofs.YtkackkggpehpkaaGreatDoor

/- laws.FnExactBack. -/
set_option linter.unusedVariables false
namespace Go.Proofs.YtkackkggpehpkaaGreatDoor
open Go.RowKit

theorem lawBackF (k : Int) (k0 : -9223372036854775808 ≤ k) (k1 : k < 9223372036854775808) (a : Option Addr) (n cap : Nat) (zs : Nat → Int × Int) (hcs : ∀ j, WdC (zs j)) {w : World} (hw : Fm w) (ha : ArgC w a n (flat zs)) (hn : n ≤ 1048576) :
  Calls Tryz.prog 5 #[.int .i64 k, .slice a n cap] w fun e w' => e = .returned (.bool true) ∧ Gb w w' := lawBack opsW_s opsW_i opsW_in k a n cap zs hcs hw ha hn
end Go.Proofs.YtkackkggpehpkaaGreatDoor
