import Derived.Test.YtnbbfeknbfohhaaGreatDoorVm
import Derived.Test.YtnbbfeknbfohhaaGreatDoorSf
import Derived.Test.YtnbbfeknbfohhaaGreatDoorDr
import Derived.Test.YtnbbfeknbfohhaaGreatDoorJa
import Derived.Deep.RegionHeld3
import Derived.BigRegion
import Derived.Test.YtnbbfeknbfohhaaGreatDoorVs
set_option linter.unusedVariables false
set_option linter.unusedSimpArgs false
open Go.IntKind renaming i64 → J
open Go.Value renaming slice → Y
open Go.Proofs.Tryz
namespace Go.Proofs.YtnbbfeknbfohhaaGreatDoor
open Go.RowKit
theorem YW {P : Prop} (h : P := by
 rw [if_neg e]
 unfold pw
 have e1 : YE n i m ≠ j := by unfold YE; split <;> omega
 by_cases c : YE n i m < j
 ·rw [if_pos c, if_pos (by omega)]
 ·rw [if_neg c, if_neg (by omega)]) : P := h
def YE (n i m : Nat) : Nat := if i ≤ m then m - i else m + n - i
def pw (n : Nat) (f g : Nat → Int) (i j m : Nat) : Int := sm (fun i => f i * sh n g i m) i + if YE n i m < j then f i * sh n g i m else 0
theorem aAC {n : Nat} {f g : Nat → Int} {i m : Nat} (hm : m < n) (hi : i < n) : pw n f g i n m = pw n f g (i + 1) 0 m := by
 unfold pw
 rw [if_pos (by unfold YE; split <;> omega), if_neg (by omega)]
 simp only [sm]
 omega
theorem Uc {n : Nat} {f g : Nat → Int} {i m : Nat} : pw n f g i 0 m = sm (fun i => f i * sh n g i m) i := by
 unfold pw
 rw [if_neg (by omega)]
 omega
theorem aCc {n : Nat} {f g : Nat → Int} {i j m : Nat} (h : i + j < n) (hm : m < n) : (if m = i + j then pw n f g i j (i + j) + f i * g j else pw n f g i j m) = pw n f g i (j + 1) m := by
 by_cases e : m = i + j
 ·subst e
  rw [if_pos rfl]
  unfold pw
  have e1 : YE n i (i + j) = j := by unfold YE; split <;> omega
  have e2 : sh n g i (i + j) = g j := by unfold sh; rw [if_pos (by omega)]; congr 1; omega
  rw [e1, e2, if_neg om, if_pos (by omega)]
  omega
 ·exact YW
theorem aCd {n : Nat} {f g : Nat → Int} {i j m q : Nat} (h : i + j = q + n) (hi : i < n) (hj : j < n) (hm : m < n) : (if m = q then pw n f g i j q - f i * g j else pw n f g i j m) = pw n f g i (j + 1) m := by
 by_cases e : m = q
 ·subst e
  rw [if_pos rfl]
  unfold pw
  have e1 : YE n i m = j := by unfold YE; split <;> omega
  have e2 : sh n g i m = -g j := by unfold sh; rw [if_neg (by omega)]; congr 2; omega
  rw [e1, e2, if_neg om, if_pos om, Int.mul_neg]
  omega
 ·exact YW
theorem ZH {x y : Int} (hx : AL x) (hy : AL y) : In' (x * y) 4190209 := by
 have := In'.mul (x := x) (b := 2047) (y := y) (c := 2047) hx hy
 exact this
theorem ZG {n : Nat} (hn : n ≤ 64) {f g : Nat → Int} (hf : ∀ i, i < n → AL (f i)) (hg : ∀ i, i < n → AL (g i)) {i j m : Nat} (hi : i < n) (hm : m < n) : In' (pw n f g i j m) 272363585 := by
 have hs : ∀ i, i < n → In' (f i * sh n g i m) 4190209 := fun i hi => by
  refine ZH (hf i hi) ?_
  unfold sh
  split
  ·exact hg _ om
  ·have := hg (m + n - i) om
   unfold AL at *; omega
 have h1 := Tm i fun q hq => hs q om
 have h2 := hs i hi
 have h3 : (i : Int) * 4190209 ≤ 268173376 := om
 unfold pw
 unfold In' at *
 split <;> omega
set_option maxRecDepth 1000000
set_option maxHeartbeats 40000000
theorem YX {P : Prop} (h : P := by
 go_region
 all_goals
  go_wp2
  go_roundw
  case rel => exact ⟨j + 1, om, by go_num, Ow.congr (Ow.store (Ow.drew HOx.out) q r) (fun m hm => HN.out m om), by have := HGx.out; exact kg⟩
  case measure => simp [intOf] <;> omega) : P := h
theorem JW (a : Option Addr) (len cap : Nat) (hlen : len ≤ 1048576) (K : Int) {w : World}
  (HD : Hid (∀ w0, Gb w w0 → CT 12 #[Y a len cap] w0 fun e w' => ∃ vf vg, e = .returned (.tuple #[.int J K, vf, vg]) ∧ Gb w0 w' ∧ Hid (∀ w'', Gb w' w'' → pR 13 K vf vg w'' ∧ pR 14 K vf vg w''))) :
  QB 4 #[Y a len cap] w (.bool true) := by
 have hl : ¬ (1048576 : Int) < (len : Int) := om
 go_enter func4, ntmps4
 go_upto_region 4 with (go_at_call 12; refine (HD.out _ (Gb.refl _)).mono ?_; rintro e w1 ⟨vf, vg, rfl, aj, HP⟩)
 go_upto_region 5 with (go_at_call 12; refine (HD.out _ kg).mono ?_; rintro e w2 ⟨vf', vg', rfl, ak, HP'⟩)
 go_upto_region 6 with (go_at_call 13; refine (HP'.out _ kg).1.mono ?_; rintro e w3 ⟨v, rfl, _, aA⟩)
 go_upto_region 7 with (go_at_call 14; refine (HP.out _ kg).2.mono ?_; rintro e w4 ⟨v', rfl, ho, aF⟩)
 obtain ⟨x, c, rfl, _, _⟩ := ho.len
 go_wp2
 go_returns
 exact ⟨rfl, kg⟩
theorem Gf (a : Option Addr) (len cap : Nat) (hlen : len ≤ 1048576) (K : Int) (n : Nat) (hn0 : 0 < n) (hn : n ≤ 64) (f g P : Nat → Int) {w : World} (Hf : Hid (∀ i, i < n → AL (f i))) (Hg : Hid (∀ i, i < n → AL (g i)))
  (HP : Hid (∀ m, m < n → P m = sm (fun i => f i * sh n g i m) n))
  (HD : Hid (∀ w0, Gb w w0 → CT 12 #[Y a len cap] w0 fun e w' => ∃ bf cf bg cg, e = .returned (.tuple #[.int J K, Y (some ⟨bf, 0, none⟩) n cf, Y (some ⟨bg, 0, none⟩) n cg]) ∧ Gb w0 w' ∧
   Hid (∀ w'', Gb w' w'' → (∀ j, j < n → w''.cell? ⟨bf, j, none⟩ = some (.int J (f j))) ∧ (∀ j, j < n → w''.cell? ⟨bg, j, none⟩ = some (.int J (g j))) ∧
    (CT 13 #[.int J K, Y (some ⟨bf, 0, none⟩) n cf, Y (some ⟨bg, 0, none⟩) n cg] w'' fun e w3 => ∃ v, e = .returned (.tuple #[v, .bool true]) ∧ Gb w'' w3) ∧
    (CT 14 #[.int J K, Y (some ⟨bf, 0, none⟩) n cf, Y (some ⟨bg, 0, none⟩) n cg] w'' fun e w3 => ∃ b c, e = .returned (.tuple #[Y (some ⟨b, 0, none⟩) n c, .bool true]) ∧ Hid (∀ j, j < n → w3.cell? ⟨b, j, none⟩ = some (.int J (P j))) ∧ Gb w'' w3)))) :
  QB 4 #[Y a len cap] w (.bool true) := by
 have hl : ¬ (1048576 : Int) < (len : Int) := om
 have hmk : ∀ w, (Instr.makeSlice 29 (.int J (n : Int)) (.int J (n : Int))).run Tryz.prog w = .ok (Y (some ⟨w.heap.size, 0, none⟩) n n) (w.alloc (.cells (madeCells #[.int J 0] (n * 1)) 3)) := fun w => nD 29 3 (.int J 0) 1 8 Tryz.underlying29 Kv de n om w
 rw [Nat.mul_one] at hmk
 go_enter func4, ntmps4
 go_upto_region 4 with (go_at_call 12; refine (HD.out _ (Gb.refl _)).mono ?_; rintro e w1 ⟨bf, cf, bg, cg, rfl, aj, H1⟩)
 go_upto_region 5 with (go_at_call 12; refine (HD.out _ kg).mono ?_; rintro e w2 ⟨bf', cf', bg', cg', rfl, ak, H2⟩)
 go_upto_region 6 with (go_at_call 13; refine (H2.out _ kg).2.2.1.mono ?_; rintro e w3 ⟨v, rfl, aA⟩)
 go_upto_region 7 with (go_at_call 14; refine (H1.out _ kg).2.2.2.mono ?_; rintro e w4 ⟨bo, co, rfl, HC, aF⟩)
 have HG : Hid (Gb w w4) := (show Gb w w4 from kg)
 have HA : Hid (∀ w', Gb w4 w' → (∀ j, j < n → w'.cell? ⟨bf', j, none⟩ = some (.int J (f j))) ∧ (∀ j, j < n → w'.cell? ⟨bg', j, none⟩ = some (.int J (g j))) ∧ ∀ j, j < n → w'.cell? ⟨bo, j, none⟩ = some (.int J (P j))) := fun w' hg => ⟨(H2.out _ ((aA.trans aF).trans hg)).1, (H2.out _ ((aA.trans aF).trans hg)).2.1, fun j hj => hg.old (HC.out j hj)⟩
 clear H1 H2 HC HD aj ak aA aF
 go_wp2
 go_loopw [15] (fun s15 wr => ∃ i : Nat, i ≤ n ∧ s15 = .int J i ∧ Ow wr w4.heap.size 3 1 J (Y (some ⟨w4.heap.size, 0, none⟩) n n) n (pw n f g i 0) ∧ Gb w4 wr) (fun i _ => n - (intOf i).toNat)
 case atStart =>
  have := Ow.made w4 3 1 #[.int J 0] J (z1 J) n om
  rw [Nat.mul_one] at this
  exact ⟨0, om, rfl, this.congr (fun j _ => by rw [Uc]; rfl), kg⟩
 case round =>
  obtain ⟨i, hi, rfl, hO, hG⟩ := hrel
  have HO : Hid (Ow wr w4.heap.size 3 1 J (Y (some ⟨w4.heap.size, 0, none⟩) n n) n (pw n f g i 0)) := hO
  have RX : Hid (Gb w4 wr) := hG
  clear hO hG
  by_cases hlt : (i : Int) < (n : Int)
  ·go_wp2
   go_loopw [16] (fun s16 wx => ∃ j : Nat, j ≤ n ∧ s16 = .int J j ∧ Ow wx w4.heap.size 3 1 J (Y (some ⟨w4.heap.size, 0, none⟩) n n) n (pw n f g i j) ∧ Gb w4 wx) (fun j _ => n - (intOf j).toNat)
   case atStart => exact ⟨0, om, rfl, HO.out, RX.out⟩
   case round =>
    obtain ⟨j, hj, rfl, hO, hG⟩ := hrel
    by_cases hjl : (j : Int) < (n : Int)
    ·obtain ⟨fA, gA, _⟩ := HA.out _ hG
     have c1 := fA i om
     have c2 := gA j om
     have hxy := ZH (Hf.out i om) (Hg.out j om)
     have HGx : Hid (Gb w4 wr) := hG
     have HOx : Hid (Ow wr w4.heap.size 3 1 J (Y (some ⟨w4.heap.size, 0, none⟩) n n) n (pw n f g i j)) := hO
     obtain ⟨b', c', e', _, _, _, _, hcell⟩ := hO.at hn0
     simp only [Value.slice.injEq, Option.some.injEq, Addr.mk.injEq, and_true, true_and] at e'
     obtain ⟨rfl, rfl⟩ := e'
     obtain ⟨y, hy⟩ : ∃ y, f i = y := ⟨_, rfl⟩
     obtain ⟨z, hz⟩ : ∃ z, g j = z := ⟨_, rfl⟩
     obtain ⟨p, hp⟩ : ∃ p, y * z = p := ⟨_, rfl⟩
     rw [hy] at c1 hxy
     rw [hz] at c2 hxy
     rw [hp] at hxy
     by_cases hs : i + j < n
     ·obtain ⟨q, hq⟩ : ∃ q, i + j = q := ⟨_, rfl⟩
      obtain ⟨c3, z3⟩ := hcell q om
      have hin := ZG hn Hf.out Hg.out (i := i) (j := j) (m := q) om om
      obtain ⟨x, hx⟩ : ∃ x, pw n f g i j q = x := ⟨_, rfl⟩
      obtain ⟨r, hr⟩ : ∃ r, x + p = r := ⟨_, rfl⟩
      have HN : Hid (∀ m, m < n → (if m = q then r else pw n f g i j m) = pw n f g i (j + 1) m) := fun m hm => by
       have := aCc (f := f) (g := g) hs hm
       rw [hq, hx, hy, hz, hp, hr] at this
       exact this
      rw [hx] at c3 hin
      unfold In' at hin hxy
      have wq : IntKind.i64.wrap (q : Int) = q := wi
      have wp : IntKind.i64.wrap p = p := wi
      have wr' : IntKind.i64.wrap r = r := wi
      have e1 : (i : Int) + (j : Int) = (q : Int) := om
      have l1 : (q : Int) < (n : Int) := om
      clear hO hG hcell fA gA hx hy hz hq hs hin hxy
      go_upto_region 20 with (fail)
      exact YX
     ·obtain ⟨q, hq⟩ : ∃ q, i + j = q + n := ⟨i + j - n, om⟩
      obtain ⟨c3, z3⟩ := hcell q om
      have hin := ZG hn Hf.out Hg.out (i := i) (j := j) (m := q) om om
      obtain ⟨x, hx⟩ : ∃ x, pw n f g i j q = x := ⟨_, rfl⟩
      obtain ⟨r, hr⟩ : ∃ r, x - p = r := ⟨_, rfl⟩
      have HN : Hid (∀ m, m < n → (if m = q then r else pw n f g i j m) = pw n f g i (j + 1) m) := fun m hm => by
       have := aCd (f := f) (g := g) hq om om hm
       rw [hx, hy, hz, hp, hr] at this
       exact this
      rw [hx] at c3 hin
      unfold In' at hin hxy
      obtain ⟨s, e1⟩ : ∃ s : Int, (i : Int) + (j : Int) = s := ⟨_, rfl⟩
      have ws : IntKind.i64.wrap s = s := wi
      have wq : IntKind.i64.wrap (q : Int) = q := wi
      have wp : IntKind.i64.wrap p = p := wi
      have wr' : IntKind.i64.wrap r = r := wi
      have e2 : s - (n : Int) = (q : Int) := om
      have l1 : ¬ s < (n : Int) := om
      have l2 : (q : Int) < (n : Int) := om
      clear hO hG hcell fA gA hx hy hz hq hs hin hxy
      go_upto_region 21 with (fail)
      exact YX
    ·have HE : Hid (j = n) := (show j = n by omega)
     go_wp2
     go_roundw
     case rel => exact ⟨i + 1, om, by go_num, hO.congr (fun m hm => by rw [HE.out]; exact aAC om om), hG⟩
     case measure => simp [intOf] <;> omega
  ·have HE : Hid (i = n) := (show i = n by omega)
   rename World => V
   have HW : Hid (∀ w', Gb V w' → ∀ j, j < n → w'.cell? ⟨w4.heap.size, j, none⟩ = some (.int J (P j)) ∧ w'.cell? ⟨bo, j, none⟩ = some (.int J (P j))) := fun w' hg j hj => by
    refine ⟨?_, (HA.out w' (RX.out.trans hg)).2.2 j hj⟩
    obtain ⟨b', c', e', _, _, _, _, hcell⟩ := HO.out.at hn0
    simp only [Value.slice.injEq, Option.some.injEq, Addr.mk.injEq, and_true, true_and] at e'
    obtain ⟨rfl, rfl⟩ := e'
    have := (hcell j om).1
    rw [Uc, HE.out, ← HP.out j hj] at this
    exact hg.old this
   have HGV : Hid (Gb w V) := HG.out.trans RX.out
   clear HO RX HA HG HP Hf Hg
   go_wp2
   go_loopw [17] (fun s17 wx => ∃ q : Nat, q ≤ n ∧ s17 = .int J q ∧ Gb V wx) (fun i _ => n - (intOf i).toNat)
   case atStart => exact ⟨0, Nat.zero_le _, rfl, Gb.refl _⟩
   case round =>
    obtain ⟨q, hq, rfl, hgx⟩ := hrel
    by_cases hql : (q : Int) < (n : Int)
    ·obtain ⟨c1, c2⟩ := HW.out _ hgx q om
     generalize P q = x at *
     go_wp2
     go_region
     all_goals
      go_wp2
      go_roundw
      case rel => exact ⟨q + 1, om, by go_num, kg⟩
      case measure => simp [intOf] <;> omega
    ·go_wp2
     go_returns
     exact ⟨rfl, HGV.out.trans hgx⟩
theorem DT (a : Option Addr) (len cap : Nat) (w : World) (hC : pV w a len) (hw : Fm w) :
  CT 4 #[Y a len cap] w fun e w' => e = .returned (.bool true) ∧ Below w.heap.size w w' := by
 obtain ⟨c, hc⟩ := hC.is
 have hd : ∀ w0, Gb w w0 → _ := fun w0 g => Ag cap (hc.gb g)
 have hN : dN c len ≤ 128 := by
  obtain ⟨⟨_, k1⟩, _⟩ := o8 cap 0 40 hc om om om
  exact Nat.le_trans (Nat.pow_le_pow_right de (Vw _ k1)) de
 have hL : dL c len ≤ 129 := by unfold dL; split <;> omega
 generalize dN c len = N at *
 generalize dL c len = L at *
 generalize dF c len = F at *
 generalize dG c len = G at *
 generalize ((Vx (tk c len 0 40) : Nat) : Int) = K at *
 by_cases hfit : YH K L N F G
 ·have ZN := hfit
  obtain ⟨h1, h6, ⟨eL, hF⟩, eN, hG⟩ := hfit
  obtain rfl : L = N := om
  obtain ⟨k, hk⟩ : ∃ k, k = K.toNat := ⟨_, rfl⟩
  have hk1 : 1 ≤ k := om
  have hk6 : k ≤ 6 := om
  rw [← hk] at eL
  have hn0 : 0 < L := by rw [eL]; exact Nat.pow_pos de
  have UW : L ≤ 64 := by rw [eL]; exact FU om
  have hP : ∀ m, m < L → pF dJ Zv k F G m = sm (fun i => F i * sh L G i m) L := fun m hm => by
   obtain ⟨hi, ht⟩ := JJ k hk1 hk6 F G (fun i hi => hF i om) (fun i hi => hG i om) m om
   unfold pF
   rw [ht, eL, ← VF k F G m hk1 om, IntKind.wrap_i64]
   unfold In' at hi
   omega
  refine Gf a len cap hC.few K L hn0 UW F G (pF dJ Zv k F G) hF hG hP fun w0 g => ?_
  refine (hd w0 g).mono fun e w' ⟨vf, vg, he, hof, hog, hg⟩ => ?_
  have rf := Bo hof
  have rg := Bo hog
  obtain ⟨bf, cf, rfl, _, _, cf'⟩ := rf.at hn0
  obtain ⟨bg, cg, rfl, _, _, cg'⟩ := rg.at hn0
  refine ⟨bf, cf, bg, cg, he, hg, fun w'' g' => ⟨fun j hj => g'.old (cf' j hj), fun j hj => g'.old (cg' j hj), ?_, ?_⟩⟩
  ·exact (aBG aAE Nu aBQ K ZN (rf.gb g') (rg.gb g')).mono fun e w3 ⟨v, e1, _, e3⟩ => ⟨v, e1, e3⟩
  ·refine (aBH aAF UG Nu aBR K ZN (hw.gb (g.trans (hg.trans g'))) (rf.gb g') (rg.gb g')).mono fun e w3 ⟨v, e1, e2, e3⟩ => ?_
   rw [← hk, ← eL] at e2
   obtain ⟨b, cp, rfl, _, _, _, _, hcell⟩ := e2.at hn0
   exact ⟨b, cp, e1, fun j hj => (hcell j om).1, e3⟩
 ·refine JW a len cap hC.few K fun w0 g => (hd w0 g).mono fun e w' ⟨vf, vg, he, hof, hog, hg⟩ => ⟨vf, vg, he, hg, fun w'' g' => ?_⟩
  exact ⟨(Ol hfit om om).1 ((Bo hof).gb g') ((Bo hog).gb g'), (Ol hfit om om).2 UG (hw.gb (g.trans (hg.trans g'))) ((Bo hof).gb g') ((Bo hog).gb g')⟩
