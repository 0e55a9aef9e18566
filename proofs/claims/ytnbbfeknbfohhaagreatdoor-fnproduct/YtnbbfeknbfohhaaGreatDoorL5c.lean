import Derived.Test.YtnbbfeknbfohhaaGreatDoorC0
import Derived.Test.YtnbbfeknbfohhaaGreatDoorL5a
import Derived.Deep.RegionHeld3
import Derived.Test.YtnbbfeknbfohhaaGreatDoorG3
set_option linter.unusedVariables false
set_option linter.unusedSimpArgs false
set_option maxRecDepth 1000000
set_option maxHeartbeats 40000000
open Go.Value renaming int → J, agg → O, slice → V, bool → E
open Go.IntKind renaming i64 → Y, u64 → Z
open Go.Ending renaming returned → X
open Go.Proofs.Tryz
namespace Go.Proofs.YtnbbfeknbfohhaaGreatDoor
open Go.RowKit
theorem DU (mode s e : Int) (M L C : Nat) (hf : Int) (t : Bool) (ht : (hf == 0) = t) (v : Value) (w : World)
  (kK : Hid (∀ w', Gb w w' → CT 155 #[O #[J Y s, v, J Y e, E false], J Y 0] w' fun x w'' => ∃ b k c, aB 70002 w'' (V (some ⟨b, 0, none⟩) k c) L ∧ x = X (.tuple #[V (some ⟨b, 0, none⟩) k c, J Y hf]) ∧ Gb w' w''))
  (HCh : Hid (∀ v' w', aB 70002 w' v' L → CT 156 #[J Y mode, J Y s, v', J Y hf] w' fun x w'' => ∃ b k c, aB 70005 w'' (V (some ⟨b, 0, none⟩) k c) C ∧ x = X (V (some ⟨b, 0, none⟩) k c) ∧ Gb w' w'')) (b0 k0 c0 : Nat) (hv : v = V (some ⟨b0, 0, none⟩) k0 c0) :
  CT 120 #[J Y mode, O #[J Y s, v, J Y e, E false]] w fun x w' => ∃ b k c, aB 70005 w' (V (some ⟨b, 0, none⟩) k c) C ∧ x = X (.tuple #[V (some ⟨b, 0, none⟩) k c, E t]) ∧ Gb w w' := by
 subst hv
 go_enter func120, ntmps120
 go_wp2_with (first
  | (go_at_call 155; refine (kK.out _ Gb.g).mono ?_; rintro x n1 ⟨b1, k1, q1, hb1, rfl, lT⟩; have ks0 := lT.e1 w.heap.size 0 (J Y s))
  | (go_at_call 156; with_reducible refine (HCh.out _ _ hb1).mono ?_; rintro x n2 ⟨b2, k2, q2, hb2, rfl, Aa⟩))
 go_returns
 exact ⟨_, _, _, hb2, rfl, Gb.g⟩
theorem SG {P : Prop} (h : P := by
 go_enter func127, ntmps127
 go_wp2_with (go_at_call 157; refine (HW.out _ Gb.g).mono ?_; rintro e w1 ⟨rfl, aj⟩)
 go_returns
 exact ⟨rfl, Gb.g⟩) : P := h
theorem I8 {P : Prop} (h : P := by
 go_region_held3 (fun w' => w'.cell? ⟨w1.heap.size, 1, none⟩ = some (J Y s))
  ((go_split_ands; (repeat' apply And.intro) <;> exact kh))
  (first
   | (go_at_call 128; refine (HM.out _).mono ?_; rintro e n8 ⟨b8, k8, c8, hb8, rfl, aCA⟩; obtain ⟨WE, DJ, XL, DI⟩ := aCA.y2 w.heap.size 0 1 (J Z 0) (J Y 0))
   | (go_at_call 127; refine (HWe.out _ _ _ _ (aB.gb hb8 Gb.g)).mono ?_; rintro e n9 ⟨rfl, aCz⟩; obtain ⟨fP, fU, fO, fQ⟩ := aCz.y2 w.heap.size 0 1 (J Z 0) (J Y 0)))
 all_goals (try go_split_ands)
 all_goals go_wp2
 all_goals
  refine bodyPost_ret (v := O #[J Z z, J Y 1]) (by simp [results, Tryz.results39, go_sem, fP, fO]) rfl ⟨rfl, ?_⟩
  exact Gb.g) : P := h
theorem Gi (s v r : Int) (hr : s = 1 ∧ IntKind.u64.wrap (0 - v) = r ∧ IntKind.u64.wrap (-v) = r ∨ s = 0 ∧ v = r) (b k c : Nat) {w : World} (HW : Hid (∀ w', Gb w w' → QB 157 #[V (some ⟨b, 0, none⟩) k c] w' (J Z v))) :
  QB 127 #[J Y s, V (some ⟨b, 0, none⟩) k c] w (J Z r) := by
 rcases hr with ⟨rfl, h1, h2⟩ | ⟨rfl, rfl⟩
 ·exact SG
 ·exact SG
theorem Jl (f mode kind a B c s x g z : Int) (S : Bool) (L0 : Nat) (B0 : (B == 0) = false) (HK : KW 126 #[J Y kind] (.tuple #[J Y B, E S])) (HY : KW 62 #[J Y mode] (E true)) (HF : KW 110 #[J Y f, J Z a] (E true)) (HU : KR 31 #[J Y f, J Z a] (O #[J Y c, J Y s, J Y x, J Z g])) (HQ : KR 118 #[O #[J Y c, J Y s, J Y x, J Z g]] (E true)) (HM0 : Hid (∀ w, CT 128 #[J Y kind, J Y 0] w fun e w' => ∃ b k c, aB 20 w' (V (some ⟨b, 0, none⟩) k c) L0 ∧ e = X (V (some ⟨b, 0, none⟩) k c) ∧ Gb w w')) (HW0 : Hid (∀ b k c w, aB 20 w (V (some ⟨b, 0, none⟩) k c) L0 → QB 127 #[J Y 0, V (some ⟨b, 0, none⟩) k c] w (J Z z))) (w : World) :
  QB 39 #[J Y f, J Y mode, J Y kind, J Z a] w (O #[J Z z, J Y 1]) := by
 go_enter func39, ntmps39
 go_wp2_with (first
  | (go_at_call 126; refine kw (HK.out _) ?_)
  | (go_at_call 62; refine kw (HY.out _) ?_)
  | (go_at_call 110; refine kw (HF.out _) ?_)
  | (go_at_call 31; refine (HU.out _).mono ?_; rintro e w1 ⟨rfl, aj⟩; obtain ⟨Bc, Ba, Wj, A_⟩ := aj.y2 w.heap.size 0 1 (J Z 0) (J Y 0); have hz0 := au Bc)
  | (go_at_call 118; refine (HQ.out _).mono ?_; rintro e va ⟨rfl, aC⟩; obtain ⟨AQ, zC, Iy, zB⟩ := aC.y2 w.heap.size 0 1 (J Z 0) (J Y 0); obtain ⟨qp0, qp1, qp2, qp3⟩ := aC.e4 w1.heap.size 0 1 2 3 (J Y c) (J Y s) (J Y x) (J Z g))
  | (go_at_call 128; refine (HM0.out _).mono ?_; rintro e n1 ⟨b1, k1, c1, hb1, rfl, lT⟩; obtain ⟨zK, qP, DL, qO⟩ := lT.y2 w.heap.size 0 1 (J Z 0) (J Y 0))
  | (go_at_call 127; refine (HW0.out _ _ _ _ hb1).mono ?_; rintro e n2 ⟨rfl, Aa⟩; obtain ⟨fP, fU, fO, fQ⟩ := Aa.y2 w.heap.size 0 1 (J Z 0) (J Y 0)))
 refine bodyPost_ret (v := O #[J Z z, J Y 1]) (by simp [results, Tryz.results39, go_sem, fP, fO]) rfl ⟨rfl, ?_⟩
 exact Gb.g
theorem Jm (f mode kind a B c s x g z : Int) (S : Bool) (L : Nat) (B0 : (B == 0) = false) (HK : KW 126 #[J Y kind] (.tuple #[J Y B, E S])) (HY : KW 62 #[J Y mode] (E true)) (HF : KW 110 #[J Y f, J Z a] (E true)) (HU : KR 31 #[J Y f, J Z a] (O #[J Y c, J Y s, J Y x, J Z g])) (HQ : KR 118 #[O #[J Y c, J Y s, J Y x, J Z g]] (E false)) (e2 : c = 2) (HM : Hid (∀ w, CT 128 #[J Y kind, J Y s] w fun e w' => ∃ b k c, aB 20 w' (V (some ⟨b, 0, none⟩) k c) L ∧ e = X (V (some ⟨b, 0, none⟩) k c) ∧ Gb w w')) (HWe : Hid (∀ b k c w, aB 20 w (V (some ⟨b, 0, none⟩) k c) L → QB 127 #[J Y s, V (some ⟨b, 0, none⟩) k c] w (J Z z))) (w : World) :
  QB 39 #[J Y f, J Y mode, J Y kind, J Z a] w (O #[J Z z, J Y 1]) := by
 subst e2
 go_enter func39, ntmps39
 go_wp2_with (first
  | (go_at_call 126; refine kw (HK.out _) ?_)
  | (go_at_call 62; refine kw (HY.out _) ?_)
  | (go_at_call 110; refine kw (HF.out _) ?_)
  | (go_at_call 31; refine (HU.out _).mono ?_; rintro e w1 ⟨rfl, aj⟩; obtain ⟨Bc, Ba, Wj, A_⟩ := aj.y2 w.heap.size 0 1 (J Z 0) (J Y 0); have hz0 := au Bc)
  | (go_at_call 118; refine (HQ.out _).mono ?_; rintro e va ⟨rfl, aC⟩; obtain ⟨AQ, zC, Iy, zB⟩ := aC.y2 w.heap.size 0 1 (J Z 0) (J Y 0); obtain ⟨qp0, qp1, qp2, qp3⟩ := aC.e4 w1.heap.size 0 1 2 3 (J Y 2) (J Y s) (J Y x) (J Z g)))
 exact I8
theorem Jo (f mode kind a B c s x g z : Int) (S : Bool) (L : Nat) (B0 : (B == 0) = false) (HK : KW 126 #[J Y kind] (.tuple #[J Y B, E S])) (HY : KW 62 #[J Y mode] (E true)) (HF : KW 110 #[J Y f, J Z a] (E true)) (HU : KR 31 #[J Y f, J Z a] (O #[J Y c, J Y s, J Y x, J Z g])) (HQ : KR 118 #[O #[J Y c, J Y s, J Y x, J Z g]] (E false)) (e2 : ¬ c = 2) (e3 : decide (200 < x) = true) (HM : Hid (∀ w, CT 128 #[J Y kind, J Y s] w fun e w' => ∃ b k c, aB 20 w' (V (some ⟨b, 0, none⟩) k c) L ∧ e = X (V (some ⟨b, 0, none⟩) k c) ∧ Gb w w')) (HWe : Hid (∀ b k c w, aB 20 w (V (some ⟨b, 0, none⟩) k c) L → QB 127 #[J Y s, V (some ⟨b, 0, none⟩) k c] w (J Z z))) (w : World) :
  QB 39 #[J Y f, J Y mode, J Y kind, J Z a] w (O #[J Z z, J Y 1]) := by
 go_enter func39, ntmps39
 go_wp2_with (first
  | (go_at_call 126; refine kw (HK.out _) ?_)
  | (go_at_call 62; refine kw (HY.out _) ?_)
  | (go_at_call 110; refine kw (HF.out _) ?_)
  | (go_at_call 31; refine (HU.out _).mono ?_; rintro e w1 ⟨rfl, aj⟩; obtain ⟨Bc, Ba, Wj, A_⟩ := aj.y2 w.heap.size 0 1 (J Z 0) (J Y 0); have hz0 := au Bc)
  | (go_at_call 118; refine (HQ.out _).mono ?_; rintro e va ⟨rfl, aC⟩; obtain ⟨AQ, zC, Iy, zB⟩ := aC.y2 w.heap.size 0 1 (J Z 0) (J Y 0); obtain ⟨qp0, qp1, qp2, qp3⟩ := aC.e4 w1.heap.size 0 1 2 3 (J Y c) (J Y s) (J Y x) (J Z g)))
 exact I8
theorem Jk (f mode kind a B c s x g z d : Int) (S wh : Bool) (M C L : Nat) (hwh : wh = true) (B0 : (B == 0) = false) (HK : KW 126 #[J Y kind] (.tuple #[J Y B, E S])) (HY : KW 62 #[J Y mode] (E true)) (HF : KW 110 #[J Y f, J Z a] (E true)) (HU : KR 31 #[J Y f, J Z a] (O #[J Y c, J Y s, J Y x, J Z g])) (HQ : KR 118 #[O #[J Y c, J Y s, J Y x, J Z g]] (E false)) (e2 : ¬ c = 2) (e3 : decide (200 < x) = false) (HN : Hid (∀ w, CT 121 #[O #[J Y c, J Y s, J Y x, J Z g]] w fun e w' => ∃ b k cc, aB 2 w' (V (some ⟨b, 0, none⟩) k cc) M ∧ e = X (O #[J Y s, V (some ⟨b, 0, none⟩) k cc, J Y x, E false]) ∧ Gb w w')) (YI : Hid (∀ b k c w, aB 2 w (V (some ⟨b, 0, none⟩) k c) M → CT 120 #[J Y mode, O #[J Y s, V (some ⟨b, 0, none⟩) k c, J Y x, E false]] w fun e w' => ∃ b k c, aB 70005 w' (V (some ⟨b, 0, none⟩) k c) C ∧ e = X (.tuple #[V (some ⟨b, 0, none⟩) k c, E wh]) ∧ Gb w w')) (HM : Hid (∀ w, CT 128 #[J Y kind, J Y s] w fun e w' => ∃ b k c, aB 20 w' (V (some ⟨b, 0, none⟩) k c) L ∧ e = X (V (some ⟨b, 0, none⟩) k c) ∧ Gb w w')) (HC : Hid (∀ v v' w, aB 70005 w v C → aB 20 w v' L → QB 129 #[v, v'] w (J Y d))) (hd : decide (d ≤ 0) = true) (HWw : Hid (∀ b k c w, aB 70005 w (V (some ⟨b, 0, none⟩) k c) C → QB 127 #[J Y s, V (some ⟨b, 0, none⟩) k c] w (J Z z))) (w : World) :
  QB 39 #[J Y f, J Y mode, J Y kind, J Z a] w (O #[J Z z, J Y 0]) := by
 subst hwh
 have e2' : (c == 2) = false := by simp [e2]
 go_enter func39, ntmps39
 go_wp2_with (first
  | (go_at_call 126; refine kw (HK.out _) ?_)
  | (go_at_call 62; refine kw (HY.out _) ?_)
  | (go_at_call 110; refine kw (HF.out _) ?_)
  | (go_at_call 31; refine (HU.out _).mono ?_; rintro e w1 ⟨rfl, aj⟩; obtain ⟨Bc, Ba, Wj, A_⟩ := aj.y2 w.heap.size 0 1 (J Z 0) (J Y 0); have hz0 := au Bc)
  | (go_at_call 118; refine (HQ.out _).mono ?_; rintro e va ⟨rfl, aC⟩; obtain ⟨AQ, zC, Iy, zB⟩ := aC.y2 w.heap.size 0 1 (J Z 0) (J Y 0); obtain ⟨qp0, qp1, qp2, qp3⟩ := aC.e4 w1.heap.size 0 1 2 3 (J Y c) (J Y s) (J Y x) (J Z g))
  | (go_at_call 121; refine (HN.out _).mono ?_; rintro e w3 ⟨b3, k3, c3, hb3, rfl, aA⟩; obtain ⟨WE, DJ, XL, DI⟩ := aA.y2 w.heap.size 0 1 (J Z 0) (J Y 0); obtain ⟨np0, np1, np2, np3⟩ := aA.e4 w1.heap.size 0 1 2 3 (J Y c) (J Y s) (J Y x) (J Z g))
  | (go_at_call 120; with_reducible refine (YI.out _ _ _ _ hb3).mono ?_; rintro e w4 ⟨b4, k4, c4, hb4, rfl, aF⟩; obtain ⟨zK, qP, DL, qO⟩ := aF.y2 w.heap.size 0 1 (J Z 0) (J Y 0); obtain ⟨mp0, mp1, mp2, mp3⟩ := aF.e4 w1.heap.size 0 1 2 3 (J Y c) (J Y s) (J Y x) (J Z g))
  | (go_at_call 128; refine (HM.out _).mono ?_; rintro e w5 ⟨b5, k5, c5, hb5, rfl, aJ⟩; obtain ⟨AV, Un, AU, Um⟩ := aJ.y2 w.heap.size 0 1 (J Z 0) (J Y 0); obtain ⟨op0, op1, op2, op3⟩ := aJ.e4 w1.heap.size 0 1 2 3 (J Y c) (J Y s) (J Y x) (J Z g))
  | (go_at_call 129; with_reducible refine (HC.out _ _ _ (aB.gb hb4 aJ) hb5).mono ?_; rintro e w6 ⟨rfl, fK⟩; obtain ⟨lu, iC, lM, iy⟩ := fK.y2 w.heap.size 0 1 (J Z 0) (J Y 0); obtain ⟨pp0, pp1, pp2, pp3⟩ := fK.e4 w1.heap.size 0 1 2 3 (J Y c) (J Y s) (J Y x) (J Z g))
  | (go_at_call 127; refine (HWw.out _ _ _ _ (aB.gb hb4 (aJ.trans fK))).mono ?_; rintro e w7 ⟨rfl, gU⟩; obtain ⟨fP, fU, fO, fQ⟩ := gU.y2 w.heap.size 0 1 (J Z 0) (J Y 0)))
 refine bodyPost_ret (v := O #[J Z z, J Y 0]) (by simp [results, Tryz.results39, go_sem, fP, fO]) rfl ⟨rfl, ?_⟩
 exact Gb.g
theorem Jj (f mode kind a B c s x g z d : Int) (S wh : Bool) (M C L : Nat) (hwh : wh = false) (B0 : (B == 0) = false) (HK : KW 126 #[J Y kind] (.tuple #[J Y B, E S])) (HY : KW 62 #[J Y mode] (E true)) (HF : KW 110 #[J Y f, J Z a] (E true)) (HU : KR 31 #[J Y f, J Z a] (O #[J Y c, J Y s, J Y x, J Z g])) (HQ : KR 118 #[O #[J Y c, J Y s, J Y x, J Z g]] (E false)) (e2 : ¬ c = 2) (e3 : decide (200 < x) = false) (HN : Hid (∀ w, CT 121 #[O #[J Y c, J Y s, J Y x, J Z g]] w fun e w' => ∃ b k cc, aB 2 w' (V (some ⟨b, 0, none⟩) k cc) M ∧ e = X (O #[J Y s, V (some ⟨b, 0, none⟩) k cc, J Y x, E false]) ∧ Gb w w')) (YI : Hid (∀ b k c w, aB 2 w (V (some ⟨b, 0, none⟩) k c) M → CT 120 #[J Y mode, O #[J Y s, V (some ⟨b, 0, none⟩) k c, J Y x, E false]] w fun e w' => ∃ b k c, aB 70005 w' (V (some ⟨b, 0, none⟩) k c) C ∧ e = X (.tuple #[V (some ⟨b, 0, none⟩) k c, E wh]) ∧ Gb w w')) (HM : Hid (∀ w, CT 128 #[J Y kind, J Y s] w fun e w' => ∃ b k c, aB 20 w' (V (some ⟨b, 0, none⟩) k c) L ∧ e = X (V (some ⟨b, 0, none⟩) k c) ∧ Gb w w')) (HC : Hid (∀ v v' w, aB 70005 w v C → aB 20 w v' L → QB 129 #[v, v'] w (J Y d))) (hd : decide (d ≤ 0) = true) (HWw : Hid (∀ b k c w, aB 70005 w (V (some ⟨b, 0, none⟩) k c) C → QB 127 #[J Y s, V (some ⟨b, 0, none⟩) k c] w (J Z z))) (w : World) :
  QB 39 #[J Y f, J Y mode, J Y kind, J Z a] w (O #[J Z z, J Y 16]) := by
 subst hwh
 have e2' : (c == 2) = false := by simp [e2]
 go_enter func39, ntmps39
 go_wp2_with (first
  | (go_at_call 126; refine kw (HK.out _) ?_)
  | (go_at_call 62; refine kw (HY.out _) ?_)
  | (go_at_call 110; refine kw (HF.out _) ?_)
  | (go_at_call 31; refine (HU.out _).mono ?_; rintro e w1 ⟨rfl, aj⟩; obtain ⟨Bc, Ba, Wj, A_⟩ := aj.y2 w.heap.size 0 1 (J Z 0) (J Y 0); have hz0 := au Bc)
  | (go_at_call 118; refine (HQ.out _).mono ?_; rintro e va ⟨rfl, aC⟩; obtain ⟨AQ, zC, Iy, zB⟩ := aC.y2 w.heap.size 0 1 (J Z 0) (J Y 0); obtain ⟨qp0, qp1, qp2, qp3⟩ := aC.e4 w1.heap.size 0 1 2 3 (J Y c) (J Y s) (J Y x) (J Z g))
  | (go_at_call 121; refine (HN.out _).mono ?_; rintro e w3 ⟨b3, k3, c3, hb3, rfl, aA⟩; obtain ⟨WE, DJ, XL, DI⟩ := aA.y2 w.heap.size 0 1 (J Z 0) (J Y 0); obtain ⟨np0, np1, np2, np3⟩ := aA.e4 w1.heap.size 0 1 2 3 (J Y c) (J Y s) (J Y x) (J Z g))
  | (go_at_call 120; with_reducible refine (YI.out _ _ _ _ hb3).mono ?_; rintro e w4 ⟨b4, k4, c4, hb4, rfl, aF⟩; obtain ⟨zK, qP, DL, qO⟩ := aF.y2 w.heap.size 0 1 (J Z 0) (J Y 0); obtain ⟨mp0, mp1, mp2, mp3⟩ := aF.e4 w1.heap.size 0 1 2 3 (J Y c) (J Y s) (J Y x) (J Z g))
  | (go_at_call 128; refine (HM.out _).mono ?_; rintro e w5 ⟨b5, k5, c5, hb5, rfl, aJ⟩; obtain ⟨AV, Un, AU, Um⟩ := aJ.y2 w.heap.size 0 1 (J Z 0) (J Y 0); obtain ⟨op0, op1, op2, op3⟩ := aJ.e4 w1.heap.size 0 1 2 3 (J Y c) (J Y s) (J Y x) (J Z g))
  | (go_at_call 129; with_reducible refine (HC.out _ _ _ (aB.gb hb4 aJ) hb5).mono ?_; rintro e w6 ⟨rfl, fK⟩; obtain ⟨lu, iC, lM, iy⟩ := fK.y2 w.heap.size 0 1 (J Z 0) (J Y 0); obtain ⟨pp0, pp1, pp2, pp3⟩ := fK.e4 w1.heap.size 0 1 2 3 (J Y c) (J Y s) (J Y x) (J Z g))
  | (go_at_call 127; refine (HWw.out _ _ _ _ (aB.gb hb4 (aJ.trans fK))).mono ?_; rintro e w7 ⟨rfl, gU⟩; obtain ⟨fP, fU, fO, fQ⟩ := gU.y2 w.heap.size 0 1 (J Z 0) (J Y 0)))
 refine bodyPost_ret (v := O #[J Z z, J Y 16]) (by simp [results, Tryz.results39, go_sem, fP, fO]) rfl ⟨rfl, ?_⟩
 exact Gb.g
theorem Ji (f mode kind a B c s x g z d : Int) (S wh : Bool) (M C L : Nat) (B0 : (B == 0) = false) (HK : KW 126 #[J Y kind] (.tuple #[J Y B, E S])) (HY : KW 62 #[J Y mode] (E true)) (HF : KW 110 #[J Y f, J Z a] (E true)) (HU : KR 31 #[J Y f, J Z a] (O #[J Y c, J Y s, J Y x, J Z g])) (HQ : KR 118 #[O #[J Y c, J Y s, J Y x, J Z g]] (E false)) (e2 : ¬ c = 2) (e3 : decide (200 < x) = false) (HN : Hid (∀ w, CT 121 #[O #[J Y c, J Y s, J Y x, J Z g]] w fun e w' => ∃ b k cc, aB 2 w' (V (some ⟨b, 0, none⟩) k cc) M ∧ e = X (O #[J Y s, V (some ⟨b, 0, none⟩) k cc, J Y x, E false]) ∧ Gb w w')) (YI : Hid (∀ b k c w, aB 2 w (V (some ⟨b, 0, none⟩) k c) M → CT 120 #[J Y mode, O #[J Y s, V (some ⟨b, 0, none⟩) k c, J Y x, E false]] w fun e w' => ∃ b k c, aB 70005 w' (V (some ⟨b, 0, none⟩) k c) C ∧ e = X (.tuple #[V (some ⟨b, 0, none⟩) k c, E wh]) ∧ Gb w w')) (HM : Hid (∀ w, CT 128 #[J Y kind, J Y s] w fun e w' => ∃ b k c, aB 20 w' (V (some ⟨b, 0, none⟩) k c) L ∧ e = X (V (some ⟨b, 0, none⟩) k c) ∧ Gb w w')) (HC : Hid (∀ v v' w, aB 70005 w v C → aB 20 w v' L → QB 129 #[v, v'] w (J Y d))) (hd : decide (d ≤ 0) = false) (HWe : Hid (∀ b k c w, aB 20 w (V (some ⟨b, 0, none⟩) k c) L → QB 127 #[J Y s, V (some ⟨b, 0, none⟩) k c] w (J Z z))) (w : World) :
  QB 39 #[J Y f, J Y mode, J Y kind, J Z a] w (O #[J Z z, J Y 1]) := by
 have e2' : (c == 2) = false := by simp [e2]
 go_enter func39, ntmps39
 go_wp2_with (first
  | (go_at_call 126; refine kw (HK.out _) ?_)
  | (go_at_call 62; refine kw (HY.out _) ?_)
  | (go_at_call 110; refine kw (HF.out _) ?_)
  | (go_at_call 31; refine (HU.out _).mono ?_; rintro e w1 ⟨rfl, aj⟩; obtain ⟨Bc, Ba, Wj, A_⟩ := aj.y2 w.heap.size 0 1 (J Z 0) (J Y 0); have hz0 := au Bc)
  | (go_at_call 118; refine (HQ.out _).mono ?_; rintro e va ⟨rfl, aC⟩; obtain ⟨AQ, zC, Iy, zB⟩ := aC.y2 w.heap.size 0 1 (J Z 0) (J Y 0); obtain ⟨qp0, qp1, qp2, qp3⟩ := aC.e4 w1.heap.size 0 1 2 3 (J Y c) (J Y s) (J Y x) (J Z g))
  | (go_at_call 121; refine (HN.out _).mono ?_; rintro e w3 ⟨b3, k3, c3, hb3, rfl, aA⟩; obtain ⟨WE, DJ, XL, DI⟩ := aA.y2 w.heap.size 0 1 (J Z 0) (J Y 0); obtain ⟨np0, np1, np2, np3⟩ := aA.e4 w1.heap.size 0 1 2 3 (J Y c) (J Y s) (J Y x) (J Z g))
  | (go_at_call 120; with_reducible refine (YI.out _ _ _ _ hb3).mono ?_; rintro e w4 ⟨b4, k4, c4, hb4, rfl, aF⟩; obtain ⟨zK, qP, DL, qO⟩ := aF.y2 w.heap.size 0 1 (J Z 0) (J Y 0); obtain ⟨mp0, mp1, mp2, mp3⟩ := aF.e4 w1.heap.size 0 1 2 3 (J Y c) (J Y s) (J Y x) (J Z g))
  | (go_at_call 128; refine (HM.out _).mono ?_; rintro e w5 ⟨b5, k5, c5, hb5, rfl, aJ⟩; obtain ⟨AV, Un, AU, Um⟩ := aJ.y2 w.heap.size 0 1 (J Z 0) (J Y 0); obtain ⟨op0, op1, op2, op3⟩ := aJ.e4 w1.heap.size 0 1 2 3 (J Y c) (J Y s) (J Y x) (J Z g))
  | (go_at_call 129; with_reducible refine (HC.out _ _ _ (aB.gb hb4 aJ) hb5).mono ?_; rintro e w6 ⟨rfl, fK⟩; obtain ⟨lu, iC, lM, iy⟩ := fK.y2 w.heap.size 0 1 (J Z 0) (J Y 0); obtain ⟨pp0, pp1, pp2, pp3⟩ := fK.e4 w1.heap.size 0 1 2 3 (J Y c) (J Y s) (J Y x) (J Z g)))
 exact I8
