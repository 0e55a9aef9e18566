import Derived.Test.YtnbbfeknbfohhaaGreatDoorDr
import Derived.Test.YtnbbfeknbfohhaaGreatDoorJb
import Derived.Laws.StructEq
import Derived.Deep.RegionHeld3
import Derived.Test.YtnbbfeknbfohhaaGreatDoorVr
set_option linter.unusedVariables false
set_option linter.unusedSimpArgs false
set_option maxRecDepth 1000000
set_option maxHeartbeats 40000000
open Go.Value renaming int → J
open Go.IntKind renaming i64 → Y, u64 → Z
open Go.Ending renaming returned → O
namespace Go.Proofs.YtnbbfeknbfohhaaGreatDoor
open Go.RowKit
theorem eqCx (p q : Int) (w : World) : (Op.equalIn 10000 46 (.agg #[J Z p, J Z q]) (.agg #[J Z p, J Z q])).run Tryz.prog w = .ok true w := by
 have u4 := Tryz.underlying22
 have a4 := Tryz.isAgg22
 have z4 := Tryz.sizeOf22
 have hS : Tryz.prog.underlying 46 = some (.struct (Tryz.prog.fieldsOf 46)) := by kernel_rfl
 rw [show (10000 : Nat) = 9999 + 1 from rfl, run_equalIn_agg w 9999 46 _ _ hS (by kernel_rfl)]
 simp only [Program.fieldsOf, Tryz.underlying46]
 go_simp
theorem lawBack_no (a : Option Addr) (len cap : Nat) (hlen : len ≤ 1048576) (K : Int) {w : World}
  (HD : Hid (CT 12 #[.slice a len cap] w fun e w' => ∃ vf vg, e = O (.tuple #[J Y K, vf, vg]) ∧ Gb w w' ∧ Hid (∀ w'', Gb w' w'' → NoProd 13 K vf vg w''))) :
  QB 6 #[.slice a len cap] w (.bool true) := by
 have hl : ¬ (1048576 : Int) < (len : Int) := by omega
 go_enter Tryz.func6, Tryz.ntmps6
 go_wp2_with (first
  | (go_at_call 12; refine HD.out.mono ?_; rintro e w1 ⟨vf, vg, rfl, hg_w1, HP⟩)
  | (go_at_call 13; refine (HP.out _ kg).mono ?_; rintro e w2 ⟨v, rfl, _, hg_w2⟩))
 go_returns
 exact ⟨rfl, kg⟩
theorem lawBack_yes (a : Option Addr) (len cap : Nat) (hlen : len ≤ 1048576) (K : Int) (n h : Nat) (hn0 : 0 < n) (hn : n ≤ 64) (hh0 : 0 < h) (hh : h ≤ 64) (f ws : Nat → Int) (us : Nat → Int) (zs : Nat → Int × Int) (bs : Nat → Int) {w : World}
  (HU : Hid (∀ j, j < n → IntKind.u64.wrap (f j) = us j))
  (HD : Hid (CT 12 #[.slice a len cap] w fun e w' => ∃ bf cf vg, e = O (.tuple #[J Y K, .slice (some ⟨bf, 0, none⟩) n cf, vg]) ∧ Gb w w' ∧ Hid (∀ j, j < n → w'.cell? ⟨bf, j, none⟩ = some (J Y (f j))) ∧ Hid (∀ w'', Gb w' w'' → CT 13 #[J Y K, .slice (some ⟨bf, 0, none⟩) n cf, vg] w'' fun e w3 => ∃ v, e = O (.tuple #[v, .bool true]) ∧ Gb w'' w3)))
  (HF : Hid (∀ j, j < n → ∀ w, CT 19 #[J Y 1, J Y 0, J Y 1, J Z (us j)] w fun e w' => ∃ fl : Int, e = O (.agg #[J Z (ws j), J Y fl]) ∧ Gb w w'))
  (HS : Hid (∀ w' v, Rd w' Z v n n ws → CT 20 #[J Y K, v] w' fun e w'' => ∃ b cp, e = O (.slice (some ⟨b, 0, none⟩) h cp) ∧ Hid (∀ q, q < h * 2 → w''.cell? ⟨b, q, none⟩ = some (J Z (flat zs q))) ∧ Gb w' w''))
  (HI : Hid (∀ w' v, Gb w w' → Rd w' Z v n n ws → CT 21 #[J Y K, v] w' fun e w'' => ∃ b cp, e = O (.slice (some ⟨b, 0, none⟩) h cp) ∧ Hid (Rd w'' Z (.slice (some ⟨b, 0, none⟩) h cp) h (h * 2) (flat zs)) ∧ Gb w' w''))
  (HB : Hid (∀ w' v, Gb w w' → Rd w' Z v h (h * 2) (flat zs) → CT 22 #[J Y K, v] w' fun e w'' => ∃ b cp, e = O (.slice (some ⟨b, 0, none⟩) n cp) ∧ Hid (∀ q, q < n → w''.cell? ⟨b, q, none⟩ = some (J Z (bs q))) ∧ Gb w' w''))
  (HT : Hid (∀ j, j < n → ∀ w', Gb w w' → CT 23 #[J Y 1, J Y 0, J Y 1, J Z (bs j)] w' fun e w'' => ∃ fl : Int, e = O (.agg #[J Z (us j), J Y fl]) ∧ Gr w' w'')) :
  QB 6 #[.slice a len cap] w (.bool true) := by
 have hl : ¬ (1048576 : Int) < (len : Int) := by omega
 have hfd : ∀ (z fl : Int) (w : World), (Instr.field 41 (.agg #[J Z z, J Y fl]) 0).run Tryz.prog w = .ok (J Z z) w := fun z fl w => by kernel_rfl
 go_enter Tryz.func6, Tryz.ntmps6
 go_upto_region 4 with (go_at_call 12; refine HD.out.mono ?_; rintro e w1 ⟨bf, cf, vg, rfl, hg_w1, HCf, HP⟩)
 go_upto_region 5 with (go_at_call 13; refine (HP.out _ (Gb.refl _)).mono ?_; rintro e w2 ⟨v0, rfl, hg_w2⟩)
 have HG2 : Hid (Gb w w2) := hg_w1.trans hg_w2
 have HC2 : Hid (∀ w', Gb w2 w' → ∀ j, j < n → w'.cell? ⟨bf, j, none⟩ = some (J Y (f j))) := fun w' hg j hj => hg.old (hg_w2.old (HCf.out j hj))
 have hs2 : w.heap.size ≤ w2.heap.size := HG2.out.size
 clear HP HD hg_w1 hg_w2 HCf
 go_wp2
 go_loopw [8, 9, 10] (fun s8 s9 s10 wr => ∃ (i : Nat) (vc vd : Value), vc = s8 ∧ vd = s9 ∧ i ≤ n ∧ s10 = J Y i ∧ Ow wr w2.heap.size 22 1 Z s8 i ws ∧ Ow wr w2.heap.size 22 1 Z s9 i ws ∧ (∀ p, s8.ownBlock = some p → s9.ownBlock ≠ some p) ∧ Gb w2 wr) (fun _ _ i _ => n - (intOf i).toNat)
 case atStart =>
  have oA := (Ow.lit w2 22 1 Z ws).alloc (.cells #[] 22)
  have oB := (Ow.lit (w2.alloc (.cells #[] 22)) 22 1 Z ws).mono (show w2.heap.size ≤ (w2.alloc (.cells #[] 22)).heap.size by rw [World.size_alloc]; omega)
  rw [World.size_alloc] at oB
  refine ⟨0, _, _, rfl, rfl, by omega, rfl, oA, oB, ?_, kg⟩
  intro p h h'
  simp [Value.ownBlock] at h h'
  omega
 case round =>
  obtain ⟨i, vc, vd, rfl, rfl, hi, rfl, hOc, hOd, hdis, hG⟩ := hrel
  have HOc : Hid (∀ w', Gb wr w' → Ow w' w2.heap.size 22 1 Z vc i ws) := fun w' hg => hOc.gb hg
  have HOd : Hid (∀ w', Gb wr w' → Ow w' w2.heap.size 22 1 Z vd i ws) := fun w' hg => hOd.gb hg
  have HDi : Hid (∀ p, vc.ownBlock = some p → vd.ownBlock ≠ some p) := hdis
  have HGr : Hid (Gb w2 wr) := hG
  have hsz := hG.size
  clear hOc hOd hdis hG
  by_cases hlt : (i : Int) < (n : Int)
  ·have c0 := HC2.out wr HGr.out i (by omega)
   have HFi : Hid (∀ w, CT 19 #[J Y 1, J Y 0, J Y 1, J Z (us i)] w fun e w' => ∃ fl : Int, e = O (.agg #[J Z (ws i), J Y fl]) ∧ Gb w w') := HF.out i (by omega)
   have hu := HU.out i (by omega)
   have HE : Hid (ws (i * 1 + 0) = ws i) := by show _ = _; rw [Nat.mul_one, Nat.add_zero]
   obtain ⟨z, hz⟩ : ∃ z, ws i = z := ⟨_, rfl⟩
   rw [hz] at HFi HE
   clear hz
   generalize f i = fi at *
   generalize us i = ui at *
   go_upto_region 13 with (go_at_call 19; refine (HFi.out _).mono ?_; rintro e w3 ⟨fl, rfl, hg_w3⟩)
   have hs3 := hg_w3.size
   have HX' := HE.out
   go_upto_region 14 with (at_builtin; refine wpList_more2 rfl _ _ 39 rfl 22 (J Z 0) 1 8 Z Tryz.underlying39 infoUs rfl (by decide) (by decide) w2.heap.size i 1 ws _ w3.heap.size rfl (HOc.out _ kg) rfl (cells1s (g := ws) (m := i * 1) (by simp [go_sem]) HX') (by omega) (by omega) (by rw [World.size_alloc]; omega) vd i ws (HOd.out _ kg) HDi.out ?_; intro v4 w4 hoc4 hod4 hd4 hb4)
   have HG4 : Hid (Gb w2 w4) := Gb.below (show Gb w2 _ by have := HGr.out; exact kg) hb4 (Nat.le_refl _)
   have HOd4 : Hid (∀ w', Gb w4 w' → Ow w' w2.heap.size 22 1 Z vd i ws) := fun w' hg => hod4.gb hg
   have HOc4 : Hid (∀ w', Gb w4 w' → Ow w' w2.heap.size 22 1 Z v4 (i + 1) ws) := fun w' hg => hoc4.gb hg
   have HD4 : Hid (∀ p, vd.ownBlock = some p → v4.ownBlock ≠ some p) := fun p h h' => hd4 p h' h
   have hs4 := HG4.out.size
   clear hoc4 hod4 hd4 hb4
   go_wp2_with (at_builtin; refine wpList_more2 rfl _ _ 39 rfl 22 (J Z 0) 1 8 Z Tryz.underlying39 infoUs rfl (by decide) (by decide) w2.heap.size i 1 ws _ w4.heap.size rfl (HOd4.out _ kg) rfl (cells1s (g := ws) (m := i * 1) (by simp [go_sem]) HX') (by omega) (by omega) (by rw [World.size_alloc]; omega) v4 (i + 1) ws (HOc4.out _ kg) HD4.out ?_; intro v5 w5 hod5 hoc5 hd5 hb5)
   have hg5 : Gb w2 w5 := Gb.below (show Gb w2 _ by have := HG4.out; exact kg) hb5 (Nat.le_refl _)
   clear hb5
   go_roundw
   case rel => exact ⟨i + 1, _, _, rfl, rfl, by omega, by go_num, hoc5, hod5, fun p e e' => hd5 p e' e, hg5⟩
   case measure => simp [intOf]; omega
  ·obtain rfl : i = n := by omega
   have hno : ¬ (i : Int) < (i : Int) := by omega
   have HRc : Hid (∀ w', Gb wr w' → Rd w' Z vc i i ws) := fun w' hg => rdOw (HOc.out w' hg)
   have HRd : Hid (∀ w', Gb wr w' → Rd w' Z vd i i ws) := fun w' hg => rdOw (HOd.out w' hg)
   have HGw : Hid (Gb w wr) := HG2.out.trans HGr.out
   have HC3 : Hid (∀ w', Gb wr w' → ∀ j, j < i → w'.cell? ⟨bf, j, none⟩ = some (J Y (f j))) := fun w' hg j hj => hg.old (HC2.out wr HGr.out j hj)
   clear HOc HOd HDi HGr HC2 HF hlt
   go_upto_region 16 with (go_at_call 20; refine (HS.out _ _ (HRd.out _ kg)).mono ?_; rintro e w3 ⟨bz, cz, rfl, hcz, hg_w3⟩)
   go_upto_region 17 with (go_at_call 21; refine (HI.out _ _ (by have := HGw.out; exact kg) (HRc.out _ kg)).mono ?_; rintro e w4 ⟨by', cy, rfl, hry, hg_w4⟩)
   have HG4 : Hid (Gb w w4) := (HGw.out.trans hg_w3).trans hg_w4
   have HZ : Hid (∀ w', Gb w4 w' → ∀ q, q < h * 2 → w'.cell? ⟨bz, q, none⟩ = some (J Z (flat zs q))) := fun w' hg q hq => hg.old (hg_w4.old (hcz.out q hq))
   have HY : Hid (∀ w', Gb w4 w' → ∀ q, q < h * 2 → w'.cell? ⟨by', q, none⟩ = some (J Z (flat zs q))) := fun w' hg q hq => by
    obtain ⟨b', c', e', _, _, hc'⟩ := hry.out.at hh0
    simp only [Value.slice.injEq, Option.some.injEq, Addr.mk.injEq, and_true, true_and] at e'
    obtain ⟨rfl, rfl⟩ := e'
    exact hg.old (hc' q hq)
   have HC4 : Hid (∀ w', Gb w4 w' → ∀ j, j < i → w'.cell? ⟨bf, j, none⟩ = some (J Y (f j))) := fun w' hg j hj => HC3.out w' ((hg_w3.trans hg_w4).trans hg) j hj
   clear HC3 HRc HRd HGw hg_w3 hg_w4 hcz
   go_wp2
   go_loopw [14] (fun s14 wx => ∃ q : Nat, q ≤ h ∧ s14 = J Y q ∧ Gb w4 wx) (fun i _ => h - (intOf i).toNat)
   case atStart => exact ⟨0, Nat.zero_le _, rfl, Gb.refl _⟩
   case round =>
    obtain ⟨q, hq, rfl, hgx⟩ := hrel
    by_cases hql : (q : Int) < (h : Int)
    ·have y0 := HY.out wr hgx (q * 2) (by omega)
     have y1 := HY.out wr hgx (q * 2 + 1) (by omega)
     have z0 := HZ.out wr hgx (q * 2) (by omega)
     have z1 := HZ.out wr hgx (q * 2 + 1) (by omega)
     generalize flat zs (q * 2) = x at *
     generalize flat zs (q * 2 + 1) = y at *
     have hE := eqCx x y
     go_wp2
     go_region_held3 (fun w' => w'.cell? ⟨by', q * 2, none⟩ = some (J Z x) ∧ w'.cell? ⟨by', q * 2 + 1, none⟩ = some (J Z y) ∧ w'.cell? ⟨bz, q * 2, none⟩ = some (J Z x) ∧ w'.cell? ⟨bz, q * 2 + 1, none⟩ = some (J Z y))
      ((go_split_ands; (repeat' apply And.intro) <;> exact kh))
      (fail)
     all_goals
      go_wp2
      go_roundw
      case rel => exact ⟨q + 1, by omega, by go_num, kg⟩
      case measure => simp [intOf] <;> omega
    ·obtain rfl : q = h := by omega
     have hno2 : ¬ (q : Int) < (q : Int) := by omega
     have HGx : Hid (Gb w4 wr) := hgx
     clear hql hgx HZ HY
     go_upto_region 25 with (go_at_call 22; refine (HB.out _ _ (HG4.out.trans HGx.out) (hry.out.gb HGx.out)).mono ?_; rintro e w6 ⟨bb, cb, rfl, hcb, hg_w6⟩)
     have HG6 : Hid (Gb w w6) := (HG4.out.trans HGx.out).trans hg_w6
     have HC6 : Hid (∀ w', Gb w6 w' → ∀ j, j < i → w'.cell? ⟨bf, j, none⟩ = some (J Y (f j))) := fun w' hg j hj => HC4.out w' ((HGx.out.trans hg_w6).trans hg) j hj
     have HB6 : Hid (∀ w', Gb w6 w' → ∀ j, j < i → w'.cell? ⟨bb, j, none⟩ = some (J Z (bs j))) := fun w' hg j hj => hg.old (hcb.out j hj)
     clear HC4 HGx HG4 hg_w6 hcb hry
     go_wp2
     go_loopw [16] (fun s16 wx => ∃ q : Nat, q ≤ i ∧ s16 = J Y q ∧ Gb w6 wx) (fun j _ => i - (intOf j).toNat)
     case atStart => exact ⟨0, Nat.zero_le _, rfl, Gb.refl _⟩
     case round =>
      obtain ⟨m, hm, rfl, hgx⟩ := hrel
      by_cases hml : (m : Int) < (i : Int)
      ·have c0 := HC6.out wr hgx m (by omega)
       have b0 := HB6.out wr hgx m (by omega)
       have hu := HU.out m (by omega)
       have HTm : Hid (∀ w', Gb w w' → CT 23 #[J Y 1, J Y 0, J Y 1, J Z (bs m)] w' fun e w'' => ∃ fl : Int, e = O (.agg #[J Z (us m), J Y fl]) ∧ Gr w' w'') := HT.out m (by omega)
       generalize f m = fm at *
       generalize us m = um at *
       generalize bs m = bm at *
       go_wp2
       go_region_held3 (fun w' => w'.cell? ⟨bb, m, none⟩ = some (J Z bm) ∧ w'.cell? ⟨bf, m, none⟩ = some (J Y fm))
        ((go_split_ands; (repeat' apply And.intro) <;> exact kh))
        (first
         | (go_at_call 23; with_reducible refine (HTm.out _ (by have := HG6.out; exact kg)).mono ?_; rintro e w7 ⟨fl, rfl, hg_w7⟩))
       all_goals
        go_wp2
        go_roundw
        case rel => exact ⟨m + 1, by omega, by go_num, kg⟩
        case measure => simp [intOf] <;> omega
      ·obtain rfl : m = i := by omega
       have hno3 : ¬ (m : Int) < (m : Int) := by omega
       go_wp2
       go_returns
       exact ⟨rfl, HG6.out.trans hgx⟩
theorem lawFnBack (a : Option Addr) (len cap : Nat) (w : World) (hC : CodeRow w a len) (hw : Fm w) :
  CT 6 #[.slice a len cap] w fun e w' => e = O (.bool true) ∧ Below w.heap.size w w' := by
 obtain ⟨c, hc⟩ := hC.is
 have hd := drawProduct_is cap hc
 have hN : dN c len ≤ 128 := by
  obtain ⟨⟨_, k1⟩, _⟩ := take_is cap 0 40 hc (by omega) (by omega) (by omega)
  exact Nat.le_trans (Nat.pow_le_pow_right (by decide) (dkF_le _ k1)) (by decide)
 have hL : dL c len ≤ 129 := by unfold dL; split <;> omega
 generalize dN c len = N at *
 generalize dL c len = L at *
 generalize dF c len = F at *
 generalize dG c len = G at *
 generalize ((dkF (tk c len 0 40) : Nat) : Int) = K at *
 by_cases hfit : PFit K L N F G
 ·have hfit' := hfit
  obtain ⟨h1, h6, ⟨eL, hF⟩, _, _⟩ := hfit
  obtain ⟨k, hk⟩ : ∃ k, k = K.toNat := ⟨_, rfl⟩
  have hk1 : 1 ≤ k := by omega
  have hk6 : k ≤ 6 := by omega
  have hn0 : 0 < L := by rw [eL]; exact Nat.pow_pos (by decide)
  have hh0 : 0 < 2 ^ (k - 1) := Nat.pow_pos (by decide)
  have hn64 : L ≤ 64 := by rw [eL]; exact p6_le (by omega)
  have hh64 : 2 ^ (k - 1) ≤ 64 := p6_le (by omega)
  have tn : tN K L = 2 ^ (k - 1) := by unfold tN; rw [if_pos ⟨h1, h6, eL⟩, hk]
  have bn : bN K (2 ^ (k - 1)) = L := by unfold bN; rw [if_pos ⟨h1, h6, by rw [hk]⟩, eL]
  have hwi : ∀ j, Wd (opsW.int (F j)) := fun j => opsW_in.int _
  have hwz : ∀ j, WdC (opsW.tr k (fun j => opsW.int (F j)) j) := fun j => opsW_in.tr _ _ _ hwi
  refine lawBack_yes a len cap hC.few K L (2 ^ (k - 1)) hn0 hn64 hh0 hh64 F (fun j => opsW.int (F j)) (fun j => F j % 18446744073709551616) (opsW.tr k (fun j => opsW.int (F j))) (opsW.bk k (opsW.tr k (fun j => opsW.int (F j)))) (fun j _ => ?_) ?_ (fun j hj => ?_) (fun w' v hr => ?_) (fun w' v hg hr => ?_) (fun w' v hg hr => ?_) (fun j hj w' hg => ?_)
  ·rw [IntKind.wrap_u64]
  ·refine hd.mono fun e w' ⟨vf, vg, he, hof, hog, hg⟩ => ?_
   obtain ⟨b, cp, rfl, _, _, _, _, hcell⟩ := hof.at hn0
   exact ⟨b, cp, vg, he, hg, fun j hj => (hcell j (by omega)).1, fun w'' hg' => (Prod_s opsW_s opsW_in tiW_s K hfit' ((rdOw hof).gb hg') ((rdOw hog).gb hg')).mono fun e w3 ⟨v, e1, _, e3⟩ => ⟨v, e1, e3⟩⟩
  ·exact (opsW_s.int (F j) _ (hF j hj).1 (hF j hj).2 rfl).out
  ·refine (Transform_s opsW_s opsW_in K (by omega) hr hwi).mono fun e w'' ⟨v, e1, e2, e3⟩ => ?_
   rw [tn, ← hk] at e2
   obtain ⟨b, cp, rfl, _, _, _, _, hcell⟩ := e2.at hh0
   exact ⟨b, cp, e1, fun q hq => (hcell q hq).1, e3⟩
  ·refine (Transform_y opsW_i opsW_in K (by omega) (hw.gb hg) hr hwi ⟨h1, h6⟩ eL).mono fun e w'' ⟨v, e1, e2, e3⟩ => ?_
   rw [tn, ← hk] at e2
   have e4 := e2.rd
   obtain ⟨b, cp, rfl, _, _, _, _, _⟩ := e2.at hh0
   exact ⟨b, cp, e1, e4, e3⟩
  ·refine (Back_y opsW_i opsW_in K (by omega) (hw.gb hg) hr hwz ⟨h1, h6⟩ (by rw [hk])).mono fun e w'' ⟨v, e1, e2, e3⟩ => ?_
   rw [bn, ← hk] at e2
   obtain ⟨b, cp, rfl, _, _, _, _, hcell⟩ := e2.at hn0
   exact ⟨b, cp, e1, fun q hq => (hcell q (by omega)).1, e3⟩
  ·have hb := back_exact k hk1 hk6 F (fun i hi => hF i (by rw [eL, ← hk]; exact hi)) j (by rw [hk, ← eL]; exact hj)
   have := (tiW_i _ (opsW_in.bk k _ j hwz)).out w' (hw.gb hg)
   rw [hb] at this
   exact this
 ·exact lawBack_no a len cap hC.few K (hd.mono fun e w' ⟨vf, vg, he, hof, hog, hg⟩ => ⟨vf, vg, he, hg, fun w'' hg' => Prod_nos hfit (by omega) (by omega) ((rdOw hof).gb hg') ((rdOw hog).gb hg')⟩)
end Go.Proofs.YtnbbfeknbfohhaaGreatDoor
