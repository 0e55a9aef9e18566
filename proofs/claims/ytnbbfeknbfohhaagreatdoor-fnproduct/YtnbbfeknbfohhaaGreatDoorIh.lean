import Derived.Test.YtnbbfeknbfohhaaGreatDoorIa
import Derived.Test.YtnbbfeknbfohhaaGreatDoorSf
import Derived.Test.YtnbbfeknbfohhaaGreatDoorSa
import Derived.Deep.RegionHeld3
set_option linter.unusedVariables false
set_option linter.unusedSimpArgs false
set_option maxRecDepth 1000000
set_option maxHeartbeats 40000000
open Go.Value renaming int → J
open Go.IntKind renaming i64 → Y, u64 → Z
open Go.Ending renaming returned → O
open Go.Proofs.Tryz
namespace Go.Proofs.YtnbbfeknbfohhaaGreatDoor
open Go.RowKit
theorem YZ {P : Prop} (h : P := by
 have hlt' : (j : Int) < (L : Int) := om
 have HWj : Hid _ := HW.out j hlt
 have hbj := HB.out j hlt
 obtain ⟨bb, cap', e, _, _, _, _, hcz⟩ := hof.at om
 simp only [Value.slice.injEq, Option.some.injEq, Addr.mk.injEq, and_true, true_and] at e
 obtain ⟨rfl, rfl⟩ := e
 obtain ⟨c0, z0⟩ := hcz j om
 rw [if_neg (by omega)] at c0
 have x0 : wr.cell? ⟨b, j, none⟩ = some (J Y (f j)) := hgb.old (HC.out j om)
 obtain ⟨z, hz⟩ : ∃ z, o.int (f j) = z := ⟨_, rfl⟩
 obtain ⟨x, hx⟩ : ∃ x, f j = x := ⟨_, rfl⟩
 rw [hz, hx] at HWj
 rw [hx] at x0 hbj
 have hu : IntKind.u64.wrap x = x % 18446744073709551616 := IntKind.wrap_u64 x
 have HWk : Hid _ := HWj.out _ rfl
 generalize x % 18446744073709551616 = u at *
 have y0 : ¬ x < -2047 := by have := hbj.1; omega
 have y1 : ¬ 2047 < x := by have := hbj.2; omega
 have Hz : Hid _ := hz
 clear hof hcz hx hz hbj HWj
 go_wp2_with (go_at_call 97; refine (HWk.out _ hgb).mono ?_; rintro e w2 ⟨fl, rfl, ak⟩; have c1 : w2.cell? ⟨w.heap.size, j, none⟩ = some (J Z 0) := ak.gb.old c0; have z1 := ak.z z0)
 go_roundw
 case rel =>
  refine ⟨j + 1, om, by go_num, ?_, kg⟩
  refine Ow.congr (Ow.store (Ow.gb HF.out ak.gb) j z) (fun q hq => ?_)
  by_cases e1 : q = j
  ·rw [if_pos e1, if_pos om, e1, Hz.out]
  ·by_cases e2 : q < j
   ·rw [if_neg e1, if_pos e2, if_pos (by omega)]
   ·rw [if_neg e1, if_neg e2, if_neg (by omega)]
 case measure => simp [intOf] <;> omega) : P := h
def Rj (o : Ops) : Prop := ∀ n u : Int, -2047 ≤ n → n ≤ 2047 → u = n % 18446744073709551616 → Hid (∀ w, Fm w → CT 97 #[J Y 1, J Y 0, J Y 1, J Z u] w fun e w' => ∃ fl : Int, e = O (.agg #[J Z (o.int n), J Y fl]) ∧ Gr w w')
theorem aAf {v : Value} {L : Nat} {f : Nat → Int} {w : World} (hr : Rd w Y v L L f) (n : Int) (hn : (L : Int) ≠ n) :
  QB 55 #[J Y n, v] w (.tuple #[.slice none 0 0, .bool false]) := by
 obtain ⟨a, ca, rfl, _⟩ := hr
 go_enter func55, ntmps55
 go_wp2
 go_returns
 exact ⟨rfl, Gb.refl _⟩
theorem IW {o : Ops} (HP : Rj o) {v : Value} {L : Nat} {f : Nat → Int} {w : World} (hw : Fm w) (hr : Rd w Y v L L f) (hpos : 0 < L) (hL : L ≤ 2000000) (h : ∀ i, i < L → AL (f i)) (n : Int) (hn : (L : Int) = n) :
  CT 55 #[J Y n, v] w fun e w' => ∃ v', e = O (.tuple #[v', .bool true]) ∧ Ow w' w.heap.size 22 1 Z v' L (fun j => o.int (f j)) ∧ Gb w w' := by
 subst hn
 have hf := o_
 obtain ⟨b, cap, rfl, _, _, hc⟩ := hr.at hpos
 have HC : Hid _ := hc
 have HW : Hid (∀ j, j < L → ∀ u, u = (f j) % 18446744073709551616 → ∀ w', Gb w w' → CT 97 #[J Y 1, J Y 0, J Y 1, J Z u] w' fun e w'' => ∃ fl : Int, e = O (.agg #[J Z (o.int (f j)), J Y fl]) ∧ Gr w' w'') := fun j hj u hu w' hg => (HP (f j) u (h j hj).1 (h j hj).2 hu).out w' (hw.gb hg)
 have HB : Hid _ := h
 have hb := au (hc 0 om)
 have hmk : ∀ w, (Instr.makeSlice 39 (J Y (L : Int)) (J Y (L : Int))).run Tryz.prog w = .ok (.slice (some ⟨w.heap.size, 0, none⟩) L L) (w.alloc (.cells (madeCells #[J Z 0] (L * 1)) 22)) := fun w => nD 39 22 (J Z 0) 1 8 Tryz.underlying39 NU de L om w
 have RV : Hid (Ow (w.alloc (.cells (madeCells #[J Z 0] L) 22)) w.heap.size 22 1 Z (.slice (some ⟨w.heap.size, 0, none⟩) L L) L (fun _ => 0)) := by have := Ow.made w 22 1 #[J Z 0] Z (z1 _) L (by omega); rw [Nat.mul_one] at this; exact this
 clear hr hc h HP hw
 go_enter func55, ntmps55
 go_wp2
 go_loopw [17] (fun i wr => ∃ j : Nat, j ≤ L ∧ i = J Y j ∧ Ow wr w.heap.size 22 1 Z (.slice (some ⟨w.heap.size, 0, none⟩) L L) L (fun q => if q < j then o.int (f q) else 0) ∧ Gb w wr) (fun i _ => L - (intOf i).toNat)
 case atStart => exact ⟨0, Nat.zero_le _, rfl, Ow.congr RV.out (fun q hq => by rw [if_neg (by omega)]), kg⟩
 case round =>
  obtain ⟨j, hj, rfl, hof, hgb⟩ := hrel
  have HF : Hid _ := hof
  by_cases hlt : j < L
  ·exact YZ
  ·obtain rfl : j = L := om
   have vw : ¬ (j : Int) < (j : Int) := om
   clear hof
   go_wp2
   go_returns
   exact ⟨_, rfl, Ow.congr HF.out (fun q hq => by rw [if_pos (by omega)]), hgb⟩
theorem aBM {o : Ops} (HP : Rj o) {v : Value} {L : Nat} {f : Nat → Int} {w : World} (hw : Fm w) (hr : Rd w Y v L L f) (hpos : 0 < L) (hL : L ≤ 2000000) (m : Nat) (hm : m < L) (h : ∀ i, i < m → AL (f i)) (hbad : ¬ AL (f m)) (n : Int) (hn : (L : Int) = n) :
  QB 55 #[J Y n, v] w (.tuple #[.slice none 0 0, .bool false]) := by
 subst hn
 have hf := o_
 obtain ⟨b, cap, rfl, _, _, hc⟩ := hr.at hpos
 have HC : Hid _ := hc
 have HW : Hid (∀ j, j < m → ∀ u, u = (f j) % 18446744073709551616 → ∀ w', Gb w w' → CT 97 #[J Y 1, J Y 0, J Y 1, J Z u] w' fun e w'' => ∃ fl : Int, e = O (.agg #[J Z (o.int (f j)), J Y fl]) ∧ Gr w' w'') := fun j hj u hu w' hg => (HP (f j) u (h j hj).1 (h j hj).2 hu).out w' (hw.gb hg)
 have HB : Hid _ := h
 have HN : Hid _ := hbad
 have hb := au (hc 0 om)
 have hmk : ∀ w, (Instr.makeSlice 39 (J Y (L : Int)) (J Y (L : Int))).run Tryz.prog w = .ok (.slice (some ⟨w.heap.size, 0, none⟩) L L) (w.alloc (.cells (madeCells #[J Z 0] (L * 1)) 22)) := fun w => nD 39 22 (J Z 0) 1 8 Tryz.underlying39 NU de L om w
 have RV : Hid (Ow (w.alloc (.cells (madeCells #[J Z 0] L) 22)) w.heap.size 22 1 Z (.slice (some ⟨w.heap.size, 0, none⟩) L L) L (fun _ => 0)) := by have := Ow.made w 22 1 #[J Z 0] Z (z1 _) L (by omega); rw [Nat.mul_one] at this; exact this
 clear hr hc h HP hw hbad
 go_enter func55, ntmps55
 go_wp2
 go_loopw [17] (fun i wr => ∃ j : Nat, j ≤ m ∧ i = J Y j ∧ Ow wr w.heap.size 22 1 Z (.slice (some ⟨w.heap.size, 0, none⟩) L L) L (fun q => if q < j then o.int (f q) else 0) ∧ Gb w wr) (fun i _ => L - (intOf i).toNat)
 case atStart => exact ⟨0, Nat.zero_le _, rfl, Ow.congr RV.out (fun q hq => by rw [if_neg (by omega)]), kg⟩
 case round =>
  obtain ⟨j, hj, rfl, hof, hgb⟩ := hrel
  have HF : Hid _ := hof
  by_cases hlt : j < m
  ·exact YZ
  ·obtain rfl : j = m := om
   have hlt' : (j : Int) < (L : Int) := om
   have x0 : wr.cell? ⟨b, j, none⟩ = some (J Y (f j)) := hgb.old (HC.out j om)
   have hb : f j < -2047 ∨ ¬ f j < -2047 ∧ 2047 < f j := by
    rcases (show f j < -2047 ∨ (¬ f j < -2047 ∧ 2047 < f j) ∨ (-2047 ≤ f j ∧ f j ≤ 2047) by omega) with h | h | h
    ·exact .inl h
    ·exact .inr h
    ·exact absurd h HN.out
   clear hof HF HW HB HN HC RV
   generalize f j = x at *
   rcases hb with x1 | ⟨x1, x2⟩
   ·go_wp2
    go_returns
    exact ⟨rfl, hgb⟩
   ·go_wp2
    go_returns
    exact ⟨rfl, hgb⟩
def KN (K N : Int) : Prop := K = 1 ∧ N = 2 ∨ K = 2 ∧ N = 4 ∨ K = 3 ∧ N = 8 ∨ K = 4 ∧ N = 16 ∨ K = 5 ∧ N = 32 ∨ K = 6 ∧ N = 64
theorem X9 (K : Int) (vf vg : Value) (w : World) (HL : KW 54 #[J Y K] (.bool false)) : pR 14 K vf vg w := by
 go_enter func14, ntmps14
 go_wp2_with (go_at_call 54; refine kw (HL.out _) ?_)
 go_returns
 exact ⟨_, rfl, Ow.nil _ _ _ _ _ _, Gb.refl w⟩
theorem UF (K N : Int) (hkn : KN K N) (vf vg : Value) (w : World) (HL : KW 54 #[J Y K] (.bool true)) (p q : Bool) (hpq : p = false ∨ p = true ∧ q = false)
  (HF : Hid (∀ w', Gb w w' → CT 55 #[J Y N, vf] w' fun e w'' => ∃ v, e = O (.tuple #[v, .bool p]) ∧ Gb w' w''))
  (HG : Hid (∀ w', Gb w w' → CT 55 #[J Y N, vg] w' fun e w'' => ∃ v, e = O (.tuple #[v, .bool q]) ∧ Gb w' w'')) : pR 14 K vf vg w := by
 rcases hkn with ⟨rfl, rfl⟩ | ⟨rfl, rfl⟩ | ⟨rfl, rfl⟩ | ⟨rfl, rfl⟩ | ⟨rfl, rfl⟩ | ⟨rfl, rfl⟩ <;> rcases hpq with rfl | ⟨rfl, rfl⟩
 all_goals
  go_enter func14, ntmps14
  go_upto_region 4 with (first
   | (go_at_call 54; refine kw (HL.out _) ?_)
   | (go_at_call 55; refine (HF.out _ kg).mono ?_; rintro e w1 ⟨u1, rfl, aj⟩))
  go_wp2_with (go_at_call 55; refine (HG.out _ kg).mono ?_; rintro e w2 ⟨u2, rfl, ak⟩)
  go_returns
  exact ⟨_, rfl, Ow.nil _ _ _ _ _ _, kg⟩
theorem Qe (ty t : TypeId) (z : Value) (size bytes : Nat) (hty : Tryz.prog.underlying ty = some (.slice t)) (oM : (Tryz.prog.info? t).map (fun i => (i.zero, i.size, i.bytes)) = some (some z, size, bytes)) (hby : bytes ≤ 1000) (n : Nat) (hn : n ≤ 10000000) (w : World) :
  (Instr.makeSlice ty (J Y 0) (J Y (n : Int))).run Tryz.prog w = .ok (.slice (some ⟨w.heap.size, 0, none⟩) 0 n) (w.alloc (.cells (madeCells z.cells (n * size)) t)) := by
 obtain ⟨i, hi, hz, hs, hb⟩ := info_parts oM
 have hb' : (i.bytes : Int) * (n : Int) ≤ 281474976710656 := by
  have h : i.bytes * n ≤ 1000 * 10000000 := Nat.mul_le_mul om hn
  have h' : ((i.bytes * n : Nat) : Int) ≤ 281474976710656 := om
  rwa [Int.natCast_mul] at h'
 have hr := run_make (P := Tryz.prog) w ty t i z hty hi hz Y Y 0 n om om hb' om
 simp only [Int.toNat_natCast, hs] at hr
 exact hr
theorem Ow.aCh (w : World) (t : TypeId) (size : Nat) (z : Array Value) (k : IntKind) (g : Nat → Int) (n : Nat) (hn : n ≤ 10000000) : Ow (w.alloc (.cells (madeCells z (n * size)) t)) w.heap.size t size k (.slice (some ⟨w.heap.size, 0, none⟩) 0 n) 0 g := by
 refine ⟨by simp [uv], .inr ⟨w.heap.size, n, madeCells z (n * size), rfl, Nat.le_refl _, heap_alloc_new w _, Nat.zero_le _, by unfold maxLen; omega, size_madeCells _ _, by simp [uv]⟩⟩
theorem Kv : (Tryz.prog.info? 3).map (fun i => (i.zero, i.size, i.bytes)) = some (some (J Y 0), 1, 8) := by kernel_rfl
theorem QK (kk : Nat) (K N : Int) (n h : Nat) (hK : K = (kk : Int)) (hk1 : 1 ≤ kk) (hk6 : kk ≤ 6) (hN2 : (2 : Int) ^ kk = N) (hN : N = (n : Int)) (hn : n ≤ 128) (hh : h ≤ 128) (hn0 : 0 < n) (hh0 : 0 < h) (b0 : Nat) (cap0 : Nat) (vg : Value) (w : World) (cf cg cs tz : Nat → Int) (zf zg zp : Nat → Int × Int) (C : World → Value → Prop) (HCg : Hid (∀ w w' v, C w v → Gb w w' → C w' v))
  (HL : KW 54 #[J Y K] (.bool true))
  (HF : Hid (∀ w', Gb w w' → CT 55 #[J Y N, .slice (some ⟨b0, 0, none⟩) n cap0] w' fun e w'' => ∃ v, e = O (.tuple #[v, .bool true]) ∧ Rd w'' Z v n n cf ∧ Gb w' w''))
  (HG : Hid (∀ w', Gb w w' → CT 55 #[J Y N, vg] w' fun e w'' => ∃ v, e = O (.tuple #[v, .bool true]) ∧ Rd w'' Z v n n cg ∧ Gb w' w''))
  (HC : Hid (∀ w', Gb w w' → CT 56 #[J Y K] w' fun e w'' => ∃ v, e = O v ∧ C w'' v ∧ Gb w' w''))
  (HTf : Hid (∀ w' u cv, Gb w w' → C w' cv → Rd w' Z u n n cf → CT 57 #[cv, u] w' fun e w'' => ∃ v, e = O v ∧ Ow w'' w'.heap.size 46 2 Z v h (flat zf) ∧ Gb w' w''))
  (HTg : Hid (∀ w' u cv, Gb w w' → C w' cv → Rd w' Z u n n cg → CT 57 #[cv, u] w' fun e w'' => ∃ v, e = O v ∧ Ow w'' w'.heap.size 46 2 Z v h (flat zg) ∧ Gb w' w''))
  (HP : Hid (∀ j, j < h → ∀ w', Gb w w' → QR 58 #[.agg #[J Z ((zf j).1), J Z ((zf j).2)], .agg #[J Z ((zg j).1), J Z ((zg j).2)]] w' (.agg #[J Z ((zp j).1), J Z ((zp j).2)])))
  (HB : Hid (∀ w' u cv, Gb w w' → C w' cv → Rd w' Z u h (h * 2) (flat zp) → CT 59 #[cv, u] w' fun e w'' => ∃ b cap, e = O (.slice (some ⟨b, 0, none⟩) n cap) ∧ w'.heap.size ≤ b ∧ b < w''.heap.size ∧ (∀ q, q < n → w''.cell? ⟨b, q, none⟩ = some (J Z (cs q))) ∧ Gb w' w''))
  (HI : Hid (∀ j, j < n → ∀ w', Gb w w' → CT 23 #[J Y 1, J Y 0, J Y 1, J Z (cs j)] w' fun e w'' => ∃ fl : Int, e = O (.agg #[J Z (tz j), J Y fl]) ∧ Gr w' w'')) :
  CT 14 #[J Y K, .slice (some ⟨b0, 0, none⟩) n cap0, vg] w fun e w' => ∃ v, e = O (.tuple #[v, .bool true]) ∧ Ow w' w.heap.size 3 1 Y v n (fun j => IntKind.i64.wrap (tz j)) ∧ Gb w w' := by
 have hf := Cb
 subst hK
 have hw1 : IntKind.i64.wrap N = N := wi
 have hw2 : IntKind.i64.wrap ((2 : Int) ^ kk) = N := by rw [hN2]; exact hw1
 have hw3 : IntKind.i64.wrap (1 * (2 : Int) ^ kk) = N := by rw [Int.one_mul]; exact hw2
 have HNn : Hid (N = (n : Int)) := hN
 clear hN hN2
 go_enter func14, ntmps14
 go_upto_region 4 with (first
  | (go_at_call 54; refine kw (HL.out _) ?_)
  | (go_at_call 55; refine (HF.out _ kg).mono ?_; rintro e w1 ⟨u1, rfl, hr1, aj⟩))
 go_upto_region 7 with (go_at_call 55; refine (HG.out _ kg).mono ?_; rintro e w2 ⟨u2, rfl, hr2, ak⟩)
 have hr1' := hr1.gb ak
 go_upto_region 8 with (go_at_call 56; refine (HC.out _ kg).mono ?_; rintro e W ⟨cv, rfl, hcv, tq⟩)
 have HR1 : Hid (Rd W Z u1 n n cf) := hr1'.gb tq
 have HR2 : Hid (Rd W Z u2 n n cg) := hr2.gb tq
 have HCV : Hid _ := hcv
 have GW : Hid (Gb w W) := (show Gb w W from kg)
 clear hr1 hr1' hr2 hcv aj ak tq HL HF HG HC
 go_upto_region 9 with (go_at_call 57; first
  | (with_reducible refine (HTf.out _ _ _ GW.out HCV.out HR1.out).mono ?_; rintro e w3 ⟨va, rfl, hoa, aA⟩)
  | (with_reducible refine (HTg.out _ _ _ (GW.out.trans aA) (HCg.out _ _ _ HCV.out aA) (show Rd w3 Z u2 n n cg from HR2.out.gb aA)).mono ?_; rintro e w4 ⟨vb, rfl, hob, aF⟩))
 obtain ⟨ba, ca, rfl, a1, a2, a3, a4, ac⟩ := hoa.at hh0
 obtain ⟨bb, cb, rfl, b1, b2, b3, b4, bc⟩ := hob.at hh0
 have s3 := aA.size
 have hne : ba ≠ bb := om
 have HOA : Hid (Ow w4 W.heap.size 46 2 Z (.slice (some ⟨ba, 0, none⟩) h ca) h (flat zf)) := hoa.gb aF
 have HOB : Hid (Ow w4 W.heap.size 46 2 Z (.slice (some ⟨bb, 0, none⟩) h cb) h (flat zg)) := hob.mono s3
 have GG : Hid (Gb W w4) := aA.trans aF
 have HNE : Hid _ := hne
 clear HTf HTg HR1 HR2 hoa hob aA aF ac bc a1 a2 b1 b2 s3 hne
 go_wp2
 go_loopw [53] (fun i wr => ∃ j : Nat, j ≤ h ∧ i = J Y j ∧ Ow wr W.heap.size 46 2 Z (.slice (some ⟨ba, 0, none⟩) h ca) h (fun q => if q < 2 * j then flat zp q else flat zf q) ∧ Ow wr W.heap.size 46 2 Z (.slice (some ⟨bb, 0, none⟩) h cb) h (flat zg) ∧ Gb W wr) (fun i _ => h - (intOf i).toNat)
 case atStart => exact ⟨0, Nat.zero_le _, rfl, Ow.congr HOA.out (fun q hq => by rw [if_neg (by omega)]), HOB.out, GG.out⟩
 case round =>
  obtain ⟨j, hj, rfl, ho1, ho2, hgb⟩ := hrel
  have YL : Hid _ := ho1
  have HP2 : Hid _ := ho2
  by_cases hlt : j < h
  ·have hlt' : (j : Int) < (h : Int) := om
   obtain ⟨b1', cap1, e1, hb1, hB1, _, _, hc1⟩ := ho1.at hh0
   obtain ⟨b2', cap2, e2, hb2, hB2, _, _, hc2⟩ := ho2.at hh0
   simp only [Value.slice.injEq, Option.some.injEq, Addr.mk.injEq, and_true, true_and] at e1 e2
   obtain ⟨rfl, rfl⟩ := e1
   obtain ⟨rfl, rfl⟩ := e2
   obtain ⟨c1, z1⟩ := hc1 (j * 2) om
   obtain ⟨c1', z1'⟩ := hc1 (j * 2 + 1) om
   obtain ⟨c2, z2⟩ := hc2 (j * 2) om
   obtain ⟨c2', z2'⟩ := hc2 (j * 2 + 1) om
   rw [if_neg (by omega)] at c1 c1'
   have WI : Hid (∀ w', Gb W w' → QR 58 #[.agg #[J Z ((zf j).1), J Z ((zf j).2)], .agg #[J Z ((zg j).1), J Z ((zg j).2)]] w' (.agg #[J Z ((zp j).1), J Z ((zp j).2)])) := fun w' hg => HP.out j hlt w' (GW.out.trans hg)
   have f0 : Hid (flat zp (j * 2) = (zp j).1) := by show _ = _; rw [Nat.mul_comm, aZ]
   have f1 : Hid (flat zp (j * 2 + 1) = (zp j).2) := by show _ = _; rw [Nat.mul_comm, bC]
   rw [show flat zf (j * 2) = (zf j).1 by rw [Nat.mul_comm, aZ]] at c1
   rw [show flat zf (j * 2 + 1) = (zf j).2 by rw [Nat.mul_comm, bC]] at c1'
   rw [show flat zg (j * 2) = (zg j).1 by rw [Nat.mul_comm, aZ]] at c2
   rw [show flat zg (j * 2 + 1) = (zg j).2 by rw [Nat.mul_comm, bC]] at c2'
   generalize (zf j).1 = x1 at *
   generalize (zf j).2 = x2 at *
   generalize (zg j).1 = y1 at *
   generalize (zg j).2 = y2 at *
   generalize (zp j).1 = t1 at *
   generalize (zp j).2 = t2 at *
   clear ho1 ho2 hc1 hc2
   go_wp2
   go_region_with
    (first | (go_at_call 58; refine (WI.out _ kg).mono ?_; rintro e w5 ⟨rfl, aJ⟩; have UM := aJ.size; (try simp only [World.size_drew, World.size_alloc] at UM); have cc0 : w5.cell? ⟨ba, j * 2, none⟩ = some (J Z x1) := aJ.c; have RJ : w5.frozen? ⟨ba, j * 2, none⟩ = false := aJ.z; have cc1 : w5.cell? ⟨ba, j * 2 + 1, none⟩ = some (J Z x2) := aJ.c; have RI : w5.frozen? ⟨ba, j * 2 + 1, none⟩ = false := aJ.z))
   all_goals
    go_wp2
    go_roundw
    case rel =>
     refine ⟨j + 1, om, by go_num, ?_, Ow.other (Ow.other (Ow.gb (Ow.drew (Ow.alloc HP2.out _)) aJ.gb) HNE.out _) HNE.out _, kg⟩
     refine Ow.congr (Ow.store (Ow.store (Ow.gb (Ow.drew (Ow.alloc YL.out _)) aJ.gb) (j * 2) t1) (j * 2 + 1) t2) (fun q hq => ?_)
     by_cases e1 : q = j * 2 + 1
     ·rw [if_pos e1, if_pos om, e1]; exact f1.out.symm
     ·by_cases e0 : q = j * 2
      ·rw [if_neg e1, if_pos e0, if_pos om, e0]; exact f0.out.symm
      ·by_cases e2 : q < 2 * j
       ·rw [if_neg e1, if_neg e0, if_pos e2, if_pos (by omega)]
       ·rw [if_neg e1, if_neg e0, if_neg e2, if_neg (by omega)]
    case measure => simp [intOf] <;> omega
  ·obtain rfl : j = h := om
   have vw : ¬ (j : Int) < (j : Int) := om
   rename World => V
   have rb : Rd V Z (.slice (some ⟨ba, 0, none⟩) j ca) j (j * 2) (flat zp) := (Ow.rd YL.out).congr (fun q hq => by rw [if_pos (by omega)])
   have HBk : Hid (∀ w', Gb V w' → CT 59 #[cv, .slice (some ⟨ba, 0, none⟩) j ca] w' fun e w'' => ∃ b cap, e = O (.slice (some ⟨b, 0, none⟩) n cap) ∧ w'.heap.size ≤ b ∧ b < w''.heap.size ∧ (∀ q, q < n → w''.cell? ⟨b, q, none⟩ = some (J Z (cs q))) ∧ Gb w' w'') := fun w' hg => HB.out w' _ _ (GW.out.trans (hgb.trans hg)) (HCg.out _ _ _ HCV.out (hgb.trans hg)) (rb.gb hg)
   have GV : Hid (Gb w V) := GW.out.trans hgb
   have hmk : ∀ w, (Instr.makeSlice 29 (J Y 0) (J Y (n : Int))).run Tryz.prog w = .ok (.slice (some ⟨w.heap.size, 0, none⟩) 0 n) (w.alloc (.cells (madeCells #[J Y 0] (n * 1)) 3)) := fun w => Qe 29 3 (J Y 0) 1 8 Tryz.underlying29 Kv de n om w
   clear ho1 ho2 YL HP2 HOA HOB GG rb hgb HNE HP HB HCV HCg GW
   have HM0 : Hid (Ow (V.alloc (.cells (madeCells #[J Y 0] n) 3)) V.heap.size 3 1 Y (.slice (some ⟨V.heap.size, 0, none⟩) 0 n) 0 (fun j => IntKind.i64.wrap (tz j))) := by
    have := Ow.aCh V 3 1 #[J Y 0] Y (fun j => IntKind.i64.wrap (tz j)) n om
    rw [Nat.mul_one] at this
    exact this
   go_wp2_with (go_at_call 59; refine (HBk.out _ kg).mono ?_; rintro e V2 ⟨bc, cc, rfl, aD7, hbc, hcc, ZM⟩)
   rw [World.size_alloc] at aD7
   have HO0 : Hid _ := Ow.gb HM0.out ZM
   have HCC : Hid _ := hcc
   have GV2 : Hid (Gb V V2) := (show Gb V V2 from kg)
   clear hcc ZM HM0 HBk hmk
   go_loopw [17, 75] (fun f i wr => ∃ j : Nat, j ≤ n ∧ i = J Y j ∧ Ow wr V.heap.size 3 1 Y f j (fun j => IntKind.i64.wrap (tz j)) ∧ f.ownBlock ≠ some bc ∧ (∀ q, q < n → wr.cell? ⟨bc, q, none⟩ = some (J Z (cs q))) ∧ Gb V wr) (fun _ i _ => n - (intOf i).toNat)
   case atStart => exact ⟨0, Nat.zero_le _, rfl, HO0.out, by simp [Value.ownBlock]; omega, HCC.out, GV2.out⟩
   case round =>
    obtain ⟨i, hi, rfl, hof, hnb, hcl, zZ⟩ := hrel
    have hsz2 := zZ.size
    by_cases hlt : i < n
    ·have hlt' : (i : Int) < (n : Int) := om
     have HIj : Hid _ := HI.out i hlt
     have x0 := hcl i hlt
     have hbs := au x0
     have HCL : Hid _ := hcl
     obtain ⟨y, hy⟩ : ∃ y, IntKind.i64.wrap (tz i) = y := ⟨_, rfl⟩
     have e0 : Hid ((fun j => IntKind.i64.wrap (tz j)) (i * 1 + 0) = y) := by show _ = _; rw [Nat.mul_one, Nat.add_zero]; exact hy
     have EG : Hid (∀ w2, Gb wr w2 → Ow w2 V.heap.size 3 1 Y _ i (fun j => IntKind.i64.wrap (tz j))) := fun w2 hg => Ow.gb hof hg
     have HGw : Hid (∀ w2, Gb wr w2 → Gb w w2) := fun w2 hg => GV.out.trans (zZ.trans hg)
     clear hof hcl
     go_wp2_with (first
      | (go_at_call 23; refine (HIj.out _ (HGw.out _ kg)).mono ?_; rintro e w2 ⟨fl, rfl, ak⟩)
      | (at_builtin; refine lJ rfl _ _ 29 rfl 3 (J Y 0) 1 8 Y Tryz.underlying29 Kv rfl de de V.heap.size i 1 (fun j => IntKind.i64.wrap (tz j)) _ w2.heap.size rfl (EG.out _ kg) rfl (pK (g := fun j => IntKind.i64.wrap (tz j)) (m := i * 1) (by simp [go_sem]) e0.out) om om (by have := ak.size; rw [World.size_alloc]; omega) ?_; intro v' w3 hown3 hb3 hk3 ho3))
     go_roundw
     case rel =>
      refine ⟨i + 1, om, by go_num, hown3, ?_, fun q hq => hk3 _ _ _ (by have := ak.old (HCL.out q hq); exact kb) hnb, Gb.below kg hb3 (Nat.le_refl _)⟩
      rcases ho3 with h3 | h3
      ·rw [h3]; exact hnb
      ·rw [h3, World.size_alloc]
       have := ak.size
       intro h; injection h; omega
     case measure => simp [intOf] <;> omega
    ·obtain rfl : i = n := om
     have hlt' : ¬ (i : Int) < (i : Int) := om
     have HM1 := Ow.mono hof GV.out.size
     have hgE : Gb w wr := GV.out.trans zZ
     clear hof
     go_wp2
     go_returns
     exact ⟨_, rfl, HM1, hgE⟩
