import Derived.Test.YtnbbfeknbfohhaaGreatDoorSa
import Derived.Test.YtnbbfeknbfohhaaGreatDoorX0
import Derived.Deep.RegionHeld3
import Derived.Test.YtnbbfeknbfohhaaGreatDoorSd
set_option linter.unusedVariables false
set_option linter.unusedSimpArgs false
set_option maxRecDepth 1000000
set_option maxHeartbeats 40000000
open Go.Value renaming int → J
open Go.IntKind renaming i64 → Y, u64 → Z
open Go.Ending renaming returned → O
open Go.Proofs.Tryz
namespace Go.Proofs.YtnbbfeknbfohhaaGreatDoor
open Go.RowKit
theorem YV {P : Prop} (h : P := by
 generalize f j = x at *
 have x0 : ¬ x < -2047 := by have := hb.1; omega
 have x1 : ¬ 2047 < x := by have := hb.2; omega
 clear hb
 go_wp2
 go_roundw
 case rel => exact ⟨j + 1, om, by go_num, trivial⟩
 case measure => simp [intOf] <;> omega) : P := h
def AL (x : Int) : Prop := -2047 ≤ x ∧ x ≤ 2047
theorem aAZ (n : Nat) (f : Nat → Int) : (∀ i, i < n → AL (f i)) ∨ ∃ m, m < n ∧ (∀ i, i < m → AL (f i)) ∧ ¬ AL (f m) := by
 induction n with
 | zero => exact .inl (fun i hi => absurd hi om)
 | succ n ih =>
  rcases ih with h | ⟨m, hm, h, hn⟩
  ·by_cases hb : AL (f n)
   ·exact .inl fun i hi => by
     rcases (show i < n ∨ i = n by omega) with h1 | rfl
     ·exact h i h1
     ·exact hb
   ·exact .inr ⟨n, om, h, hb⟩
  ·exact .inr ⟨m, om, h, hn⟩
theorem QY {v : Value} {L : Nat} {f : Nat → Int} {w : World} (hr : Rd w Y v L L f) (n : Int) (hn : (L : Int) ≠ n) :
  QW 50 #[v, J Y n] w (.bool false) := by
 obtain ⟨a, ca, rfl, _⟩ := hr
 go_enter func50, ntmps50
 go_wp2
 go_returns
 exact ⟨rfl, rfl⟩
theorem wP {v : Value} {L : Nat} {f : Nat → Int} {w : World} (hr : Rd w Y v L L f) (hpos : 0 < L) (hL : L ≤ 2000000) (h : ∀ i, i < L → AL (f i)) (n : Int) (hn : (L : Int) = n) :
  QW 50 #[v, J Y n] w (.bool true) := by
 subst hn
 obtain ⟨b, cap, rfl, _, _, hc⟩ := hr.at hpos
 have HC : Hid _ := hc
 have HB : Hid _ := h
 clear hr hc h
 go_enter func50, ntmps50
 go_wp2
 go_loopw [5] (fun i wr => ∃ j : Nat, j ≤ L ∧ i = J Y j ∧ w = wr) (fun i _ => L - (intOf i).toNat)
 case atStart => exact ⟨0, Nat.zero_le _, rfl, rfl⟩
 case round =>
  obtain ⟨j, hj, rfl, rfl⟩ := hrel
  by_cases hlt : j < L
  ·have hlt' : (j : Int) < (L : Int) := om
   have hb := HB.out j hlt
   have c0 : w.cell? ⟨b, j, none⟩ = some (J Y (f j)) := HC.out _ om
   exact YV
  ·obtain rfl : j = L := om
   have vw : ¬ (j : Int) < (j : Int) := om
   go_wp2
   go_returns
   exact ⟨rfl, rfl⟩
theorem VH {v : Value} {L : Nat} {f : Nat → Int} {w : World} (hr : Rd w Y v L L f) (hL : L ≤ 2000000) (m : Nat) (hm : m < L) (h : ∀ i, i < m → AL (f i)) (hbad : ¬ AL (f m)) (n : Int) (hn : (L : Int) = n) :
  QW 50 #[v, J Y n] w (.bool false) := by
 subst hn
 obtain ⟨b, cap, rfl, _, _, hc⟩ := hr.at om
 have HC : Hid _ := hc
 have HB : Hid _ := h
 have HN : Hid _ := hbad
 clear hr hc h hbad
 go_enter func50, ntmps50
 go_wp2
 go_loopw [5] (fun i wr => ∃ j : Nat, j ≤ m ∧ i = J Y j ∧ w = wr) (fun i _ => L - (intOf i).toNat)
 case atStart => exact ⟨0, Nat.zero_le _, rfl, rfl⟩
 case round =>
  obtain ⟨j, hj, rfl, rfl⟩ := hrel
  have hlt' : (j : Int) < (L : Int) := om
  have c0 : w.cell? ⟨b, j, none⟩ = some (J Y (f j)) := HC.out _ om
  by_cases hlt : j < m
  ·have hb := HB.out j hlt
   exact YV
  ·obtain rfl : j = m := om
   have hb : f j < -2047 ∨ ¬ f j < -2047 ∧ 2047 < f j := by
    rcases (show f j < -2047 ∨ (¬ f j < -2047 ∧ 2047 < f j) ∨ (-2047 ≤ f j ∧ f j ≤ 2047) by omega) with h | h | h
    ·exact .inl h
    ·exact .inr h
    ·exact absurd h HN.out
   generalize f j = x at *
   rcases hb with x0 | ⟨x0, x1⟩
   ·go_wp2
    go_returns
    exact ⟨rfl, rfl⟩
   ·go_wp2
    go_returns
    exact ⟨rfl, rfl⟩
theorem MQ {o : Ops} (H : o.S) {v : Value} {L : Nat} {f : Nat → Int} {w : World} (hr : Rd w Y v L L f) (hpos : 0 < L) (hL : L ≤ 2000000) (h : ∀ i, i < L → AL (f i)) :
  CT 51 #[v] w fun e w' => ∃ v', e = O v' ∧ Ow w' w.heap.size 22 1 Z v' L (fun j => o.int (f j)) ∧ Gb w w' := by
 obtain ⟨b, cap, rfl, _, _, hc⟩ := hr.at hpos
 have HC : Hid _ := hc
 have HW : Hid (∀ j, j < L → ∀ w, QB 109 #[J Y (f j)] w (J Z (o.int (f j)))) := fun j hj w => yK H (f j) (h j hj).1 (h j hj).2 w
 have hb := au (hc 0 om)
 clear hr hc h H
 go_enter func51, ntmps51
 go_wp2
 go_loopw [3, 4] (fun s i wr => ∃ j : Nat, j ≤ L ∧ i = J Y (j : Int) ∧ Ow wr w.heap.size 22 1 Z s j (fun m => o.int (f m)) ∧ Gb w wr) (fun _ i _ => L - (intOf i).toNat)
 case atStart => exact ⟨0, Nat.zero_le _, rfl, Ow.lit w _ _ _ _, kg⟩
 case round =>
  obtain ⟨j, hj, rfl, hof, hgb⟩ := hrel
  have HO : Hid _ := hof
  have hsz := hgb.size
  by_cases hlt : j < L
  ·have hlt' : (j : Int) < (L : Int) := om
   have HWj : Hid _ := HW.out j hlt
   obtain ⟨x, hx⟩ : ∃ x, f j = x := ⟨_, rfl⟩
   obtain ⟨z, hz⟩ : ∃ z, o.int (f j) = z := ⟨_, rfl⟩
   have x0 : wr.cell? ⟨b, j, none⟩ = some (J Y x) := by rw [← hx]; exact hgb.old (HC.out j om)
   have e0 : Hid ((fun m => o.int (f m)) (j * 1 + 0) = z) := by show _ = _; rw [← hz, Nat.mul_one, Nat.add_zero]
   rw [hz, hx] at HWj
   have EG : Hid (∀ w2, Gb wr w2 → Ow w2 w.heap.size 22 1 Z _ j (fun m => o.int (f m))) := fun w2 hg => hof.gb hg
   clear hof hx hz
   go_wp2_with (first
    | (go_at_call 109; refine (HWj.out _).mono ?_; rintro e w2 ⟨rfl, ak⟩)
    | (at_builtin; refine lJ rfl _ _ 39 rfl 22 (J Z 0) 1 8 Z Tryz.underlying39 Ku rfl de de w.heap.size j 1 (fun m => o.int (f m)) _ w2.heap.size rfl (EG.out _ kg) rfl (pK (g := fun m => o.int (f m)) (m := j * 1) (by simp [go_sem]) e0.out) om om (by have := ak.size; rw [World.size_alloc]; omega) ?_; intro v' w3 hown3 hb3 _ _))
   go_roundw
   case rel => exact ⟨j + 1, om, by go_num, hown3, Gb.below kg hb3 (Nat.le_refl _)⟩
   case measure => simp [intOf] <;> omega
  ·obtain rfl : j = L := om
   have hlt' : ¬ (j : Int) < (j : Int) := om
   clear hof
   go_wp2
   go_returns
   exact ⟨_, rfl, HO.out, hgb⟩
abbrev pR (F : Nat) (K : Int) (vf vg : Value) (w : World) : Prop := Calls Tryz.prog F #[J Y K, vf, vg] w fun e w' => ∃ v, e = O (.tuple #[v, .bool false]) ∧ Ow w' w.heap.size 3 1 Y v 0 (fun _ => 0) ∧ Gb w w'
theorem Xf (K : Int) (h : K < 1 ∨ ¬ K < 1 ∧ 6 < K) (vf vg : Value) (w : World) : pR 13 K vf vg w := by
 rcases h with h | ⟨h, h'⟩
 ·go_enter func13, ntmps13
  go_wp2
  go_returns
  exact ⟨_, rfl, Ow.lit w _ _ _ _, kg⟩
 ·go_enter func13, ntmps13
  go_wp2
  go_returns
  exact ⟨_, rfl, Ow.lit w _ _ _ _, kg⟩
theorem Xh (K N : Int) (k1 : ¬ K < 1) (k6 : ¬ 6 < K) (vf vg : Value) (w : World) (HN : KW 49 #[J Y K] (J Y N))
  (HF : Hid (QW 50 #[vf, J Y N] w (.bool false))) : pR 13 K vf vg w := by
 go_enter func13, ntmps13
 go_wp2_with (first
  | (go_at_call 49; refine kw (HN.out _) ?_)
  | (go_at_call 50; refine HF.out.mono ?_; rintro e wk ⟨rfl, hwk⟩; subst hwk))
 go_returns
 exact ⟨_, rfl, Ow.lit w _ _ _ _, kg⟩
theorem Xg (K N : Int) (k1 : ¬ K < 1) (k6 : ¬ 6 < K) (vf vg : Value) (w : World) (HN : KW 49 #[J Y K] (J Y N))
  (HF : Hid (QW 50 #[vf, J Y N] w (.bool true))) (HG : Hid (QW 50 #[vg, J Y N] w (.bool false))) : pR 13 K vf vg w := by
 go_enter func13, ntmps13
 go_wp2_with (first
  | (go_at_call 49; refine kw (HN.out _) ?_)
  | (go_at_call 50; first | (with_reducible refine HF.out.mono ?_; rintro e wk ⟨rfl, hwk⟩; subst hwk) | (with_reducible refine HG.out.mono ?_; rintro e wk ⟨rfl, hwk⟩; subst hwk)))
 go_returns
 exact ⟨_, rfl, Ow.lit w _ _ _ _, kg⟩
structure Mk (w w' : World) (v : Value) : Prop where
 os : w'.os = w.os
 tape : w'.tape = w.tape
 output : w'.output = w.output
 size : w'.heap.size = w.heap.size
 block : ∀ p, v.ownBlock ≠ some p → w'.heap[p]? = w.heap[p]?
theorem Mk.refl (w : World) (v : Value) : Mk w w v := ⟨rfl, rfl, rfl, rfl, fun _ _ => rfl⟩
theorem Mk.set {w w' : World} {b n cap : Nat} (h : Mk w w' (.slice (some ⟨b, 0, none⟩) n cap)) (j : Nat) (u : Value) : Mk w (w'.setCell ⟨b, j, none⟩ u) (.slice (some ⟨b, 0, none⟩) n cap) := by
 refine ⟨h.os, h.tape, h.output, by simp [h.size], fun p hp => ?_⟩
 rw [Below.heap_setCell _ _ _ _ (fun e => hp (by rw [e]; rfl))]
 exact h.block p hp
theorem Mk.below {w w' : World} {v : Value} (h : Mk w w' v) {base : Nat} (hv : ∀ p, v.ownBlock = some p → base ≤ p) : Below base w w' := by
 refine ⟨h.os, h.tape, h.output, Nat.le_of_eq h.size.symm, fun p hp => h.block p fun e => ?_⟩
 have := hv p e
 omega
theorem Mk.cell {w w' : World} {v : Value} (h : Mk w w' v) : ∀ p off u, w.cell? ⟨p, off, none⟩ = some u → v.ownBlock ≠ some p → w'.cell? ⟨p, off, none⟩ = some u := fun p off u hu hne => (World.cell?_of_block (w := w) (a := ⟨p, off, none⟩) (h.block p hne)).trans hu
theorem Rd.mk {w w' : World} {v u : Value} (h : Mk w w' v) {k : IntKind} {n m : Nat} {g : Nat → Int} (hr : Rd w k u n m g) (hne : ∀ p, u.ownBlock = some p → v.ownBlock ≠ some p) : Rd w' k u n m g := by
 obtain ⟨a, cap, rfl, h2, h3, h4⟩ := hr
 refine ⟨a, cap, rfl, h2, h3, fun hn => ?_⟩
 obtain ⟨b, rfl, hc⟩ := h4 hn
 exact ⟨b, rfl, fun j hj => h.cell _ _ _ (hc j hj) (hne b rfl)⟩
theorem Ow.mk {w w' : World} {v u : Value} (h : Mk w w' v) {base : Nat} {t : TypeId} {size : Nat} {k : IntKind} {n : Nat} {g : Nat → Int} (ho : Ow w base t size k u n g) (hne : ∀ p, u.ownBlock = some p → v.ownBlock ≠ some p) : Ow w' base t size k u n g := by
 refine ⟨ho.1, ?_⟩
 rcases ho.2 with hn | ⟨b, cap, cur, rfl, hb, hh, rest⟩
 ·exact .inl hn
 ·refine .inr ⟨b, cap, cur, rfl, hb, ?_, rest⟩
  rw [h.block b (hne b rfl)]
  exact hh
def MO (w : World) (k : IntKind) (a : Option Addr) (n : Nat) (g : Nat → Int) : Prop := n = 0 ∨ ∃ b off, a = some ⟨b, off, none⟩ ∧ ∀ i, i < n → w.cell? ⟨b, off + i, none⟩ = some (J k (g i))
theorem MO.gb {w w' : World} {k : IntKind} {a : Option Addr} {n : Nat} {g : Nat → Int} (h : MO w k a n g) (hg : Gb w w') : MO w' k a n g := by
 rcases h with h | ⟨b, off, e, hc⟩
 ·exact .inl h
 ·exact .inr ⟨b, off, e, fun i hi => hg.old (hc i hi)⟩
theorem aAY : (Tryz.prog.info? 3).map (fun i => (i.zero, i.size, i.bytes)) = some (some (J Y 0), 1, 8) := by kernel_rfl
theorem OG (K N : Int) (n h : Nat) (hn : n ≤ 128) (hh : h ≤ 128) (hn0 : 0 < n) (hh0 : 0 < h) (k1 : ¬ K < 1) (k6 : ¬ 6 < K) (vf vg : Value) (w : World) (cf cg cs tz : Nat → Int) (zf zg zp : Nat → Int × Int)
  (HN : KW 49 #[J Y K] (J Y N))
  (HF : Hid (QW 50 #[vf, J Y N] w (.bool true))) (HG : Hid (QW 50 #[vg, J Y N] w (.bool true)))
  (HWf : Hid (∀ w', Gb w w' → CT 51 #[vf] w' fun e w'' => ∃ v, e = O v ∧ Rd w'' Z v n n cf ∧ Gb w' w''))
  (HWg : Hid (∀ w', Gb w w' → CT 51 #[vg] w' fun e w'' => ∃ v, e = O v ∧ Rd w'' Z v n n cg ∧ Gb w' w''))
  (HTf : Hid (∀ w' u, Rd w' Z u n n cf → CT 20 #[J Y K, u] w' fun e w'' => ∃ b cap, e = O (.slice (some ⟨b, 0, none⟩) h cap) ∧ b < w''.heap.size ∧ (∀ q, q < h * 2 → w''.cell? ⟨b, q, none⟩ = some (J Z (flat zf q))) ∧ Gb w' w''))
  (HTg : Hid (∀ w' u, Rd w' Z u n n cg → CT 20 #[J Y K, u] w' fun e w'' => ∃ b cap, e = O (.slice (some ⟨b, 0, none⟩) h cap) ∧ b < w''.heap.size ∧ (∀ q, q < h * 2 → w''.cell? ⟨b, q, none⟩ = some (J Z (flat zg q))) ∧ Gb w' w''))
  (HP : Hid (∀ j, j < h → ∀ w', QB 52 #[.agg #[J Z ((zf j).1), J Z ((zf j).2)], .agg #[J Z ((zg j).1), J Z ((zg j).2)]] w' (.agg #[J Z ((zp j).1), J Z ((zp j).2)])))
  (HB : Hid (∀ w' u, Rd w' Z u h (h * 2) (flat zp) → CT 53 #[J Y K, u] w' fun e w'' => ∃ b cap, e = O (.slice (some ⟨b, 0, none⟩) n cap) ∧ b < w''.heap.size ∧ (∀ q, q < n → w''.cell? ⟨b, q, none⟩ = some (J Z (cs q))) ∧ Gb w' w''))
  (HI : Hid (∀ j, j < n → ∀ w', CT 39 #[J Y 1, J Y 0, J Y 1, J Z (cs j)] w' fun e w'' => ∃ fl : Int, e = O (.agg #[J Z (tz j), J Y fl]) ∧ Gb w' w'')) :
  CT 13 #[J Y K, vf, vg] w fun e w' => ∃ v, e = O (.tuple #[v, .bool true]) ∧ Ow w' w.heap.size 3 1 Y v n (fun j => IntKind.i64.wrap (tz j)) ∧ Gb w w' := by
 have hf := o_
 go_enter func13, ntmps13
 go_upto_region 3 with (first
  | (go_at_call 49; refine kw (HN.out _) ?_)
  | (go_at_call 50; first | (with_reducible refine HF.out.mono ?_; rintro e wk ⟨rfl, hwk⟩; subst hwk) | (with_reducible refine HG.out.mono ?_; rintro e wk ⟨rfl, hwk⟩; subst hwk)))
 clear HN HF HG
 go_upto_region 4 with (first
  | (go_at_call 51; refine (HWf.out _ kg).mono ?_; rintro e w1 ⟨u1, rfl, hr1, aj⟩)
  | (go_at_call 20; refine (HTf.out _ _ hr1).mono ?_; rintro e w2 ⟨ba, ca, rfl, hba, hca, ak⟩))
 go_upto_region 5 with (first
  | (go_at_call 51; refine (HWg.out _ kg).mono ?_; rintro e w3 ⟨u3, rfl, hr3, aA⟩)
  | (go_at_call 20; refine (HTg.out _ _ hr3).mono ?_; rintro e W ⟨bb, cb, rfl, hbb, hcb, tq⟩))
 have gA : Gb w2 W := aA.trans tq
 have Rw : Hid (∀ q, q < h * 2 → W.cell? ⟨ba, q, none⟩ = some (J Z (flat zf q))) := fun q hq => gA.old (hca q hq)
 have Ru : Hid _ := hcb
 have hgW : Gb w W := kg
 have aA4 : ba < W.heap.size := by have := gA.size; omega
 have QL := hgW.size
 clear hca hcb aj ak aA tq gA HWf HWg HTf HTg hr1 hr3 hba
 go_wp2
 go_loopw [10, 11] (fun f i wr => ∃ j : Nat, j ≤ h ∧ i = J Y j ∧ Ow wr W.heap.size 46 2 Z f j (flat zp) ∧ Gb W wr) (fun _ i _ => h - (intOf i).toNat)
 case atStart => exact ⟨0, Nat.zero_le _, rfl, Ow.lit W _ _ _ _, kg⟩
 case round =>
  obtain ⟨j, hj, rfl, hof, hgb⟩ := hrel
  have hsz := hgb.size
  by_cases hlt : j < h
  ·have hlt' : (j : Int) < (h : Int) := om
   obtain ⟨a1, ha1⟩ : ∃ a1, (zf j).1 = a1 := ⟨_, rfl⟩
   obtain ⟨a2, ha2⟩ : ∃ a2, (zf j).2 = a2 := ⟨_, rfl⟩
   obtain ⟨d1, hd1⟩ : ∃ d1, (zg j).1 = d1 := ⟨_, rfl⟩
   obtain ⟨d2, hd2⟩ : ∃ d2, (zg j).2 = d2 := ⟨_, rfl⟩
   obtain ⟨t1, ht1⟩ : ∃ t1, (zp j).1 = t1 := ⟨_, rfl⟩
   obtain ⟨t2, ht2⟩ : ∃ t2, (zp j).2 = t2 := ⟨_, rfl⟩
   have p0 : wr.cell? ⟨ba, j * 2, none⟩ = some (J Z a1) := by rw [← ha1, ← aZ, Nat.mul_comm]; exact hgb.old (Rw.out (2 * j) om)
   have p1 : wr.cell? ⟨ba, j * 2 + 1, none⟩ = some (J Z a2) := by rw [← ha2, ← bC, Nat.mul_comm]; exact hgb.old (Rw.out (2 * j + 1) om)
   have p2 : wr.cell? ⟨bb, j * 2, none⟩ = some (J Z d1) := by rw [← hd1, ← aZ, Nat.mul_comm]; exact hgb.old (Ru.out (2 * j) om)
   have p3 : wr.cell? ⟨bb, j * 2 + 1, none⟩ = some (J Z d2) := by rw [← hd2, ← bC, Nat.mul_comm]; exact hgb.old (Ru.out (2 * j + 1) om)
   have G1 := HP.out j hlt
   rw [ha1, ha2, hd1, hd2, ht1, ht2] at G1
   have F1 : Hid _ := G1
   have e0 : Hid (flat zp (j * 2 + 0) = t1) := by show _ = _; rw [show j * 2 + 0 = 2 * j by omega, aZ, ht1]
   have e1 : Hid (flat zp (j * 2 + 1) = t2) := by show _ = _; rw [show j * 2 + 1 = 2 * j + 1 by omega, bC, ht2]
   have ZQ := fun w' (hg : Gb wr w') => Ow.gb hof hg
   have EG : Hid _ := ZQ
   have HNa : Hid _ := hof.nlt aA4
   have YM : Hid _ := hof.nlt hbb
   clear hof ZQ G1 ha1 ha2 hd1 hd2 ht1 ht2 HP HB HI
   go_wp2
   go_region_held3 (fun w' => w'.cell? ⟨ba, j * 2, none⟩ = some (J Z a1) ∧ w'.cell? ⟨ba, j * 2 + 1, none⟩ = some (J Z a2) ∧ w'.cell? ⟨bb, j * 2, none⟩ = some (J Z d1) ∧ w'.cell? ⟨bb, j * 2 + 1, none⟩ = some (J Z d2))
    ((go_split_ands; (repeat' apply And.intro) <;> exact kh))
    (first
     | (go_at_call 52; with_reducible refine (F1.out _).mono ?_; rintro e w3 ⟨rfl, aA⟩; have hz3 := aA.size; (try simp only [World.size_alloc, World.size_drew, World.size_setCell] at hz3))
     | (refine step_more rfl _ _ 43 rfl 46 (.agg #[J Z 0, J Z 0]) 2 16 Z Tryz.underlying43 zT rfl de de W.heap.size j 1 (flat zp) _ w3.heap.size rfl (EG.out _ kg) rfl (yD 1 2 rfl (by simp [go_sem]) (by simp [go_sem]) e0.out e1.out) om om (by simp [go_sem]; omega) ?_; intro v' w4 hown4 hb4 hk4 _; have r0 : w4.cell? ⟨ba, j * 2, none⟩ = some (J Z a1) := hk4 _ _ _ kb HNa.out; have r1 : w4.cell? ⟨ba, j * 2 + 1, none⟩ = some (J Z a2) := hk4 _ _ _ kb HNa.out; have r2 : w4.cell? ⟨bb, j * 2, none⟩ = some (J Z d1) := hk4 _ _ _ kb YM.out; have r3 : w4.cell? ⟨bb, j * 2 + 1, none⟩ = some (J Z d2) := hk4 _ _ _ kb YM.out))
   all_goals
    go_wp2
    go_roundw
    case rel => exact ⟨j + 1, om, by go_num, hown4, Gb.below kg hb4 (Nat.le_refl _)⟩
    case measure => simp [intOf] <;> omega
  ·obtain rfl : j = h := om
   have vw : ¬ (j : Int) < (j : Int) := om
   have hgw : Gb w wr := hgW.trans hgb
   have hrd := Ow.rd hof
   clear hof Rw Ru HP
   go_upto_region 11 with (go_at_call 53; refine (HB.out _ _ hrd).mono ?_; rintro e V ⟨bc, cc, rfl, hbc, hcc, aCB⟩)
   have hgV : Gb w V := hgw.trans aCB
   have HCC : Hid _ := hcc
   have aDL := hgV.size
   clear hcc aCB hrd HB hgw
   go_wp2
   go_loopw [13, 14] (fun f i wr => ∃ j : Nat, j ≤ n ∧ i = J Y j ∧ Ow wr V.heap.size 3 1 Y f j (fun j => IntKind.i64.wrap (tz j)) ∧ Gb V wr) (fun _ i _ => n - (intOf i).toNat)
   case atStart => exact ⟨0, Nat.zero_le _, rfl, Ow.lit V _ _ _ _, kg⟩
   case round =>
    obtain ⟨i, hi, rfl, hof, zZ⟩ := hrel
    have hsz2 := zZ.size
    by_cases hlt : i < n
    ·have hlt' : (i : Int) < (n : Int) := om
     have HIj : Hid _ := HI.out i hlt
     have x0 : wr.cell? ⟨bc, i, none⟩ = some (J Z (cs i)) := zZ.old (HCC.out i om)
     obtain ⟨y, hy⟩ : ∃ y, IntKind.i64.wrap (tz i) = y := ⟨_, rfl⟩
     have e0 : Hid ((fun j => IntKind.i64.wrap (tz j)) (i * 1 + 0) = y) := by show _ = _; rw [Nat.mul_one, Nat.add_zero]; exact hy
     have EG : Hid (∀ w2, Gb wr w2 → Ow w2 V.heap.size 3 1 Y _ i (fun j => IntKind.i64.wrap (tz j))) := fun w2 hg => Ow.gb hof hg
     clear hof
     go_wp2_with (first
      | (go_at_call 39; refine (HIj.out _).mono ?_; rintro e w2 ⟨fl, rfl, ak⟩)
      | (at_builtin; refine lJ rfl _ _ 29 rfl 3 (J Y 0) 1 8 Y Tryz.underlying29 aAY rfl de de V.heap.size i 1 (fun j => IntKind.i64.wrap (tz j)) _ w2.heap.size rfl (EG.out _ kg) rfl (pK (g := fun j => IntKind.i64.wrap (tz j)) (m := i * 1) (by simp [go_sem]) e0.out) om om (by have := ak.size; rw [World.size_alloc]; omega) ?_; intro v' w3 hown3 hb3 _ _))
     go_roundw
     case rel => exact ⟨i + 1, om, by go_num, hown3, Gb.below kg hb3 (Nat.le_refl _)⟩
     case measure => simp [intOf] <;> omega
    ·obtain rfl : i = n := om
     have hlt' : ¬ (i : Int) < (i : Int) := om
     have HM1 := Ow.mono hof aDL
     have hgE : Gb w wr := hgV.trans zZ
     clear hof
     go_wp2
     go_returns
     exact ⟨_, rfl, HM1, hgE⟩
