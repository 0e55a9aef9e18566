import Derived.Test.YtnbbfeknbfohhaaGreatDoorSa
set_option linter.unusedVariables false
set_option linter.unusedSimpArgs false
set_option maxRecDepth 1000000
set_option maxHeartbeats 40000000
open Go.Value renaming int → J
open Go.IntKind renaming u64 → Y
open Go.Ending renaming returned → O
open Go.Proofs.Tryz
namespace Go.Proofs.YtnbbfeknbfohhaaGreatDoor
open Go.RowKit
theorem Ow.nlt {w : World} {base : Nat} {t : TypeId} {size : Nat} {k : IntKind} {v : Value} {n : Nat} {g : Nat → Int} (h : Ow w base t size k v n g) {p : Nat} (hp : p < base) : v.ownBlock ≠ some p := fun e => by
 have := (World.ownsRow.lt h p e).1
 omega
def Aw (o : Ops) (k : Nat) : Prop := ∀ (K : Int) (w : World) (v : Value) (cs : Nat → Int), K = (k : Int) → Rd w Y v (2 ^ k) (2 ^ k) cs → (∀ j, Wd (cs j)) →
 CT 20 #[J .i64 K, v] w fun e w' => ∃ v', e = O v' ∧ Ow w' w.heap.size 46 2 Y v' (2 ^ (k - 1)) (flat (o.tr k cs)) ∧ Gb w w'
theorem I_ (o : Ops) : Aw o 1 := by
 intro K w v cs hK hr hcs
 obtain rfl : K = 1 := hK
 have HS : KW 49 #[J .i64 1] (J .i64 2) := fun w => qG 1 1 rfl om 2 rfl w
 obtain ⟨b, cap, rfl, h1, h2, hc⟩ := hr.at de
 have c0 : w.cell? ⟨b, 0, none⟩ = some (J Y (cs 0)) := hc 0 de
 have c1 : w.cell? ⟨b, 1, none⟩ = some (J Y (cs 1)) := hc 1 de
 have e0 : flat (o.tr 1 cs) 0 = cs 0 := rfl
 have e1 : flat (o.tr 1 cs) 1 = cs 1 := rfl
 generalize flat (o.tr 1 cs) = f at *
 generalize cs 0 = x at *
 generalize cs 1 = y at *
 clear hr hc hcs
 go_enter func20, ntmps20
 go_wp2_with (go_at_call 49; refine kw (HS.out _) ?_)
 go_region
 all_goals go_wp2
 all_goals go_returns
 all_goals
  refine ⟨_, rfl, ?_, kg⟩
  have := World.ownsRow_lit (base := w.heap.size) (e := 46) (size := 2) w.drew #[J Y x, J Y y] 1 (Nat.le_refl _) de rfl
  refine Ow.congr (g := fun j => if j = 0 then x else y) this (fun j hj => ?_)
  match j, hj with
  | 0, _ => exact e0.symm
  | 1, _ => exact e1.symm
theorem EX {o : Ops} (H : o.S) (HI : o.In) (k : Nat) (hk6 : k + 2 ≤ 6) (IH : Aw o (k + 1)) : Aw o (k + 2) := by
 intro K w v cs hK hr hcs
 unfold Aw at IH
 obtain ⟨K1, hK1⟩ : ∃ K1 : Int, K1 = ((k + 1 : Nat) : Int) := ⟨_, rfl⟩
 have uK : IntKind.i64.wrap (K - 1) = K1 := wi
 have k1 : ¬ K < 1 := om
 have k2 : ¬ (6 : Int) < K := om
 have k3 : (K == 1) = false := by simp; omega
 obtain ⟨m, hm⟩ : ∃ m, m = 2 ^ k := ⟨_, rfl⟩
 have hm1 : 0 < m := by rw [hm]; exact Nat.pow_pos de
 have hm2 : m ≤ 32 := by
  rw [hm]
  have := Nat.pow_le_pow_right (show 0 < 2 by decide) (show k ≤ 5 by omega)
  omega
 have ep1 : 2 ^ (k + 1) = 2 * m := by rw [Nat.pow_succ, ← hm]; omega
 obtain ⟨L, hL⟩ : ∃ L, L = 2 ^ (k + 2) := ⟨_, rfl⟩
 have hLm : L = 4 * m := by rw [hL, Nat.pow_succ, ep1]; omega
 rw [← hL] at hr
 have HS : KW 49 #[J .i64 K] (J .i64 (L : Int)) := fun w => qG K (k + 2) hK om L (by rw [hL]) w
 have hSp : ∀ (w' : World) (v' : Value) (e : Ending) (f : Nat → Int × Int) (b0 : Nat), (∃ u, e = O u ∧ Ow w' b0 46 2 Y u m (flat f)) → ∃ b cap, e = O (.slice (some ⟨b, 0, none⟩) m cap) ∧ b < w'.heap.size ∧ ∀ q, q < m * 2 → w'.cell? ⟨b, q, none⟩ = some (J Y (flat f q)) := fun w' v' e f b0 ⟨u, e1, e2⟩ => by
  obtain ⟨b, cap, rfl, _, c2, _, _, c3⟩ := e2.at hm1
  exact ⟨b, cap, e1, c2, fun j hj => (c3 j hj).1⟩
 have HE : ∀ (C : Int) (c : Nat), C = (c : Int) → c ≤ 1 → Hid (∀ w', Gb w w' → CT 66 #[v, J .i64 C] w' fun e w'' => ∃ u, e = O u ∧ Rd w'' Y u (2 ^ (k + 1)) (2 ^ (k + 1)) (fun q => cs (2 * q + c)) ∧ Gb w' w'') := fun C c hC hc w' hg => (Yj C c hC hc w' v L (2 * m) cs (hr.gb hg) om om om).mono fun e w'' ⟨u, e1, e2, e3⟩ => by
  rw [ep1]
  have := e2.rd
  rw [Nat.mul_one] at this
  exact ⟨u, e1, this, e3⟩
 have HT : ∀ c, Hid (∀ w' u, Rd w' Y u (2 ^ (k + 1)) (2 ^ (k + 1)) (fun q => cs (2 * q + c)) → CT 20 #[J .i64 K1, u] w' fun e w'' => ∃ b cap, e = O (.slice (some ⟨b, 0, none⟩) m cap) ∧ b < w''.heap.size ∧ (∀ q, q < m * 2 → w''.cell? ⟨b, q, none⟩ = some (J Y (flat (o.tr (k + 1) (fun q => cs (2 * q + c))) q))) ∧ Gb w' w'') := fun c w' u hu => (IH K1 w' u _ hK1 hu (fun _ => hcs _)).mono fun e w'' ⟨v', e1, e2, e3⟩ => by
  rw [show k + 1 - 1 = k by omega, ← hm] at e2
  obtain ⟨b, cap, p1, p2, p3⟩ := hSp w'' v' e _ _ ⟨v', e1, e2⟩
  exact ⟨b, cap, p1, p2, p3, e3⟩
 have HE0 : Hid (∀ w', Gb w w' → CT 66 #[v, J .i64 0] w' fun e w'' => ∃ u, e = O u ∧ Rd w'' Y u (2 ^ (k + 1)) (2 ^ (k + 1)) (fun q => cs (2 * q + 0)) ∧ Gb w' w'') := HE 0 0 rfl om
 have HE1 : Hid (∀ w', Gb w w' → CT 66 #[v, J .i64 1] w' fun e w'' => ∃ u, e = O u ∧ Rd w'' Y u (2 ^ (k + 1)) (2 ^ (k + 1)) (fun q => cs (2 * q + 1)) ∧ Gb w' w'') := HE 1 1 rfl om
 have HT0 := HT 0
 have HT1 := HT 1
 obtain ⟨R, hR⟩ : ∃ R, R = 2 * m := ⟨_, rfl⟩
 have WJ : Hid (∀ w', CT 67 #[J .i64 K] w' fun e w'' => ∃ b cap, e = O (.slice (some ⟨b, 0, none⟩) R cap) ∧ b < w''.heap.size ∧ (∀ q, q < R * 2 → w''.cell? ⟨b, q, none⟩ = some (J Y (flat (o.rt (k + 2)) q))) ∧ Gb w' w'') := fun w' => by
  rw [hK]
  refine (Dt H HI (k + 2) om hk6 w').mono fun e w'' ⟨u, e1, e2, e3⟩ => ?_
  rw [show k + 2 - 1 = k + 1 by omega, ep1, ← hR] at e2
  obtain ⟨b, cap, rfl, _, c2, _, _, c3⟩ := e2.at om
  exact ⟨b, cap, e1, c2, fun j hj => (c3 j hj).1, e3⟩
 obtain ⟨bx, cx, rfl, hx1, hx2, hxc⟩ := hr.at om
 have YK : Hid (∀ a1 a2 b1 b2, Wd a1 → Wd a2 → Wd b1 → Wd b2 → ∀ w', QB 52 #[.agg #[J Y a1, J Y a2], .agg #[J Y b1, J Y b2]] w' (.agg #[J Y ((o.cMul (a1, a2) (b1, b2)).1), J Y ((o.cMul (a1, a2) (b1, b2)).2)])) := fun a1 a2 b1 b2 h1 h2 h3 h4 w' => Ef H HI h1 h2 h3 h4 w'
 have HSu : Hid (∀ a1 a2 b1 b2, Wd a1 → Wd a2 → Wd b1 → Wd b2 → ∀ w', QB 68 #[.agg #[J Y a1, J Y a2], .agg #[J Y b1, J Y b2]] w' (.agg #[J Y (o.add a1 b1), J Y (o.add a2 b2)])) := fun a1 a2 b1 b2 h1 h2 h3 h4 w' => VG H h1 h2 h3 h4 w'
 have V_ : Hid (∀ a1 a2 b1 b2, Wd a1 → Wd a2 → Wd b1 → Wd b2 → ∀ w', QB 69 #[.agg #[J Y a1, J Y a2], .agg #[J Y b1, J Y b2]] w' (.agg #[J Y (o.sub a1 b1), J Y (o.sub a2 b2)])) := fun a1 a2 b1 b2 h1 h2 h3 h4 w' => Oa H h1 h2 h3 h4 w'
 have HM : Hid _ := hm
 have HLm : Hid _ := hLm
 have HEp : Hid _ := ep1
 have hL2 : L ≤ 128 := om
 have Wh : Hid _ := hcs
 have HR2 : Hid _ := hR
 have aFp : R ≤ 64 := om
 clear hr hxc HE HT hSp IH hK hK1 hm hL hLm ep1 hcs hR
 go_enter func20, ntmps20
 go_upto_region 5 with (go_at_call 49; refine kw (HS.out _) ?_)
 go_upto_region 6 with (first
  | (go_at_call 66; refine (HE0.out _ kg).mono ?_; rintro e w1 ⟨u1, rfl, hr1, aj⟩)
  | (go_at_call 20; refine (HT0.out _ _ hr1).mono ?_; rintro e w2 ⟨ba, ca, rfl, hba, hca, ak⟩))
 go_upto_region 7 with (first
  | (go_at_call 66; refine (HE1.out _ kg).mono ?_; rintro e w3 ⟨u3, rfl, hr3, aA⟩)
  | (go_at_call 20; refine (HT1.out _ _ hr3).mono ?_; rintro e w4 ⟨bb, cb, rfl, hbb, hcb, aF⟩))
 go_upto_region 8 with (go_at_call 67; refine (WJ.out _).mono ?_; rintro e W ⟨br, cr, rfl, hbr, hcr, tq⟩)
 have gA : Gb w2 W := (aA.trans aF).trans tq
 have Rw : Hid (∀ q, q < m * 2 → W.cell? ⟨ba, q, none⟩ = some (J Y (flat (o.tr (k + 1) (fun q => cs (2 * q + 0))) q))) := fun q hq => gA.old (hca q hq)
 have Ru : Hid (∀ q, q < m * 2 → W.cell? ⟨bb, q, none⟩ = some (J Y (flat (o.tr (k + 1) (fun q => cs (2 * q + 1))) q))) := fun q hq => tq.old (hcb q hq)
 have HCR : Hid _ := hcr
 have hgW : Gb w W := kg
 have aA4 : ba < W.heap.size := by have := gA.size; omega
 have aFm : bb < W.heap.size := by have := tq.size; omega
 have QL := hgW.size
 clear hca hcb hcr aj ak aA aF tq gA HE0 HE1 HT0 HT1 WJ hr1 hr3 hba hbb
 go_wp2
 go_loopw [8, 9] (fun f i wr => ∃ j : Nat, j ≤ m ∧ i = J .i64 j ∧ Ow wr W.heap.size 46 2 Y f (2 * j) (flat (o.tr (k + 2) cs)) ∧ Gb W wr) (fun _ i _ => m - (intOf i).toNat)
 case atStart => exact ⟨0, Nat.zero_le _, rfl, Ow.lit W _ _ _ _, kg⟩
 case round =>
  obtain ⟨j, hj, rfl, hof, hgb⟩ := hrel
  have hsz := hgb.size
  by_cases hlt : j < m
  ·have hlt' : (j : Int) < (m : Int) := om
   obtain ⟨J0, hJ0⟩ : ∃ J0 : Nat, J0 = 2 * j := ⟨_, rfl⟩
   have u0 : IntKind.i64.wrap (2 * (j : Int)) = (J0 : Int) := wi
   have i0 : (J0 : Int) < (R : Int) := by have := HR2.out; omega
   obtain ⟨a1, ha1⟩ : ∃ a1, (o.tr (k + 1) (fun q => cs (2 * q + 0)) j).1 = a1 := ⟨_, rfl⟩
   obtain ⟨a2, ha2⟩ : ∃ a2, (o.tr (k + 1) (fun q => cs (2 * q + 0)) j).2 = a2 := ⟨_, rfl⟩
   obtain ⟨d1, hd1⟩ : ∃ d1, (o.tr (k + 1) (fun q => cs (2 * q + 1)) j).1 = d1 := ⟨_, rfl⟩
   obtain ⟨d2, hd2⟩ : ∃ d2, (o.tr (k + 1) (fun q => cs (2 * q + 1)) j).2 = d2 := ⟨_, rfl⟩
   obtain ⟨x, y, hxy⟩ : ∃ x y, o.rt (k + 2) (2 * j) = (x, y) := ⟨_, _, rfl⟩
   have p0 : wr.cell? ⟨ba, j * 2, none⟩ = some (J Y a1) := by rw [← ha1, ← aZ, Nat.mul_comm]; exact hgb.old (Rw.out (2 * j) om)
   have p1 : wr.cell? ⟨ba, j * 2 + 1, none⟩ = some (J Y a2) := by rw [← ha2, ← bC, Nat.mul_comm]; exact hgb.old (Rw.out (2 * j + 1) om)
   have p2 : wr.cell? ⟨bb, j * 2, none⟩ = some (J Y d1) := by rw [← hd1, ← aZ, Nat.mul_comm]; exact hgb.old (Ru.out (2 * j) om)
   have p3 : wr.cell? ⟨bb, j * 2 + 1, none⟩ = some (J Y d2) := by rw [← hd2, ← bC, Nat.mul_comm]; exact hgb.old (Ru.out (2 * j + 1) om)
   have p4 : wr.cell? ⟨br, J0 * 2, none⟩ = some (J Y x) := by have := hgb.old (HCR.out (J0 * 2) (by have := HR2.out; omega)); rw [Nat.mul_comm, aZ, hJ0, hxy] at this; rw [Nat.mul_comm, hJ0]; exact this
   have p5 : wr.cell? ⟨br, J0 * 2 + 1, none⟩ = some (J Y y) := by have := hgb.old (HCR.out (J0 * 2 + 1) (by have := HR2.out; omega)); rw [Nat.mul_comm, bC, hJ0, hxy] at this; rw [Nat.mul_comm, hJ0]; exact this
   have wE := HI.tr (k + 1) (fun q => cs (2 * q + 0)) j (fun _ => Wh.out _)
   have wO := HI.tr (k + 1) (fun q => cs (2 * q + 1)) j (fun _ => Wh.out _)
   unfold mF at wE wO
   rw [ha1, ha2] at wE
   rw [hd1, hd2] at wO
   have wX := HI.rt (k + 2) (2 * j)
   rw [hxy] at wX
   obtain ⟨t1, ht1⟩ : ∃ t1, (o.cMul (x, y) (d1, d2)).1 = t1 := ⟨_, rfl⟩
   obtain ⟨t2, ht2⟩ : ∃ t2, (o.cMul (x, y) (d1, d2)).2 = t2 := ⟨_, rfl⟩
   have wT := HI.cMul wX (show mF (d1, d2) from wO)
   unfold mF at wT
   rw [ht1, ht2] at wT
   have G1 := YK.out x y d1 d2 wX.1 wX.2 wO.1 wO.2
   rw [ht1, ht2] at G1
   have G2 := HSu.out a1 a2 t1 t2 wE.1 wE.2 wT.1 wT.2
   have G3 := V_.out a1 a2 t1 t2 wE.1 wE.2 wT.1 wT.2
   have eO : o.tr (k + 1) (fun q => cs (2 * q + 1)) j = (d1, d2) := by rw [← hd1, ← hd2]
   have eT : o.cMul (x, y) (d1, d2) = (t1, t2) := by rw [← ht1, ← ht2]
   have s0 : o.tr (k + 2) cs (2 * j) = (o.add a1 t1, o.add a2 t2) := by
    simp only [Ops.tr]
    rw [if_pos om, show 2 * j / 2 = j by omega, hxy, eO, eT]
    unfold Ops.cAdd
    rw [← ha1, ← ha2]; rfl
   have s1 : o.tr (k + 2) cs (2 * j + 1) = (o.sub a1 t1, o.sub a2 t2) := by
    simp only [Ops.tr]
    rw [if_neg om, show (2 * j + 1) / 2 = j by omega, hxy, eO, eT]
    unfold Ops.cSub
    rw [← ha1, ← ha2]; rfl
   generalize o.add a1 t1 = v0 at *
   generalize o.add a2 t2 = v1 at *
   generalize o.sub a1 t1 = v2 at *
   generalize o.sub a2 t2 = v3 at *
   have F1 : Hid _ := G1
   have F2 : Hid _ := G2
   have F3 : Hid _ := G3
   have e0 : Hid (flat (o.tr (k + 2) cs) (2 * j * 2 + 0) = v0) := by show _ = _; rw [show 2 * j * 2 + 0 = 2 * (2 * j) by omega, aZ, s0]
   have e1 : Hid (flat (o.tr (k + 2) cs) (2 * j * 2 + 1) = v1) := by show _ = _; rw [show 2 * j * 2 + 1 = 2 * (2 * j) + 1 by omega, bC, s0]
   have e2 : Hid (flat (o.tr (k + 2) cs) (2 * j * 2 + 2) = v2) := by show _ = _; rw [show 2 * j * 2 + 2 = 2 * (2 * j + 1) by omega, aZ, s1]
   have e3 : Hid (flat (o.tr (k + 2) cs) (2 * j * 2 + 3) = v3) := by show _ = _; rw [show 2 * j * 2 + 3 = 2 * (2 * j + 1) + 1 by omega, bC, s1]
   have HO : Hid _ := hof
   have ZQ := fun w' (hg : Gb wr w') => Ow.gb hof hg
   have hnb := hof.nlt aA4
   have hnw := fun p (hp : wr.heap.size ≤ p) => hof.ne hp
   have EG : Hid _ := ZQ
   have YM : Hid _ := hnb
   have HNw : Hid _ := hnw
   clear hof ZQ hnb hnw G1 G2 G3 eO eT s0 s1 ha1 ha2 hd1 hd2 hxy wE wO wX wT ht1 ht2 hJ0 YK HSu V_
   go_wp2
   go_cut [10] from 48 to 78 (fun s wx => ∃ bt : Nat, s = .pointer (some ⟨bt, 0, none⟩) ∧ wx.cell? ⟨bt, 0, none⟩ = some (J Y t1) ∧ wx.cell? ⟨bt, 1, none⟩ = some (J Y t2) ∧ wr.heap.size ≤ bt ∧ Gb wr wx)
   case first =>
    go_region_held3 (fun w' => w'.cell? ⟨br, J0 * 2, none⟩ = some (J Y x) ∧ w'.cell? ⟨br, J0 * 2 + 1, none⟩ = some (J Y y) ∧ w'.cell? ⟨bb, j * 2, none⟩ = some (J Y d1) ∧ w'.cell? ⟨bb, j * 2 + 1, none⟩ = some (J Y d2))
     ((go_split_ands; (repeat' apply And.intro) <;> exact kh))
     (first
      | (go_at_call 52; with_reducible refine (F1.out _).mono ?_; rintro e w2 ⟨rfl, ak⟩; have hz2 := ak.size; (try simp only [World.size_alloc, World.size_drew, World.size_setCell] at hz2); (try (have bx0 : w2.cell? ⟨wr.heap.size, 0, none⟩ = some (J Y 0) := ak.old (by simp [go_sem]); have bx1 : w2.cell? ⟨wr.heap.size, 1, none⟩ = some (J Y 0) := ak.old (by simp [go_sem]); have Z_ : w2.frozen? ⟨wr.heap.size, 0, none⟩ = false := ak.pz (v := J Y 0) (by simp [go_sem]) (iE (fH (D_ (Nat.le_refl _)))); have Z9 : w2.frozen? ⟨wr.heap.size, 1, none⟩ = false := ak.pz (v := J Y 0) (by simp [go_sem]) (iE (fH (D_ (Nat.le_refl _))))))))
    all_goals (go_wp2; go_meet)
    all_goals exact ⟨_, rfl, kb, kb, om, kg⟩
   case rest =>
    obtain ⟨bt, rfl, c0, c1, hbt, hgt⟩ := hcut
    have q0 : wc.cell? ⟨ba, j * 2, none⟩ = some (J Y a1) := hgt.old p0
    have q1 : wc.cell? ⟨ba, j * 2 + 1, none⟩ = some (J Y a2) := hgt.old p1
    have aD4 := au c0
    have aDJ := hgt.size
    clear p0 p1 p2 p3 p4 p5
    go_wp2
    go_region_held3 (fun w' => w'.cell? ⟨ba, j * 2, none⟩ = some (J Y a1) ∧ w'.cell? ⟨ba, j * 2 + 1, none⟩ = some (J Y a2) ∧ w'.cell? ⟨bt, 0, none⟩ = some (J Y t1) ∧ w'.cell? ⟨bt, 1, none⟩ = some (J Y t2))
     ((go_split_ands; (repeat' apply And.intro) <;> exact kh))
     (first
      | (go_at_call 68; with_reducible refine (F2.out _).mono ?_; rintro e w3 ⟨rfl, aA⟩; have hz3 := aA.size; (try simp only [World.size_alloc, World.size_drew, World.size_setCell] at hz3))
      | (go_at_call 69; with_reducible refine (F3.out _).mono ?_; rintro e w3 ⟨rfl, aA⟩; have hz3 := aA.size; (try simp only [World.size_alloc, World.size_drew, World.size_setCell] at hz3))
      | (refine step_more rfl _ _ 43 rfl 46 (.agg #[J Y 0, J Y 0]) 2 16 Y Tryz.underlying43 zT rfl de de W.heap.size (2 * j) 2 (flat (o.tr (k + 2) cs)) _ w3.heap.size rfl (EG.out _ kg) rfl (N_ (by simp [go_sem]) (by simp [go_sem]) (by simp [go_sem]) (by simp [go_sem]) e0.out e1.out e2.out e3.out) om om (by simp [go_sem]; omega) ?_; intro v' w4 hown4 hb4 hk4 _; have r0 : w4.cell? ⟨ba, j * 2, none⟩ = some (J Y a1) := hk4 _ _ _ kb YM.out; have r1 : w4.cell? ⟨ba, j * 2 + 1, none⟩ = some (J Y a2) := hk4 _ _ _ kb YM.out; have r2 : w4.cell? ⟨bt, 0, none⟩ = some (J Y t1) := hk4 _ _ _ kb (HNw.out _ hbt); have r3 : w4.cell? ⟨bt, 1, none⟩ = some (J Y t2) := hk4 _ _ _ kb (HNw.out _ hbt)))
    all_goals
     go_wp2
     go_roundw
     case rel => exact ⟨j + 1, om, by go_num, hown4, Gb.below kg hb4 (Nat.le_refl _)⟩
     case measure => simp [intOf] <;> omega
  ·obtain rfl : j = m := om
   have vw : ¬ (j : Int) < (j : Int) := om
   have HO : Hid _ := hof
   have hgw : Gb w wr := hgW.trans hgb
   have eM : 2 ^ (k + 1) = 2 * j := HEp.out
   have HM1 := Ow.mono hof QL
   clear hof
   go_wp2
   go_returns
   exact ⟨_, rfl, HM1, hgw⟩
theorem EW {o : Ops} (H : o.S) (HI : o.In) : ∀ k : Nat, 1 ≤ k → k ≤ 6 → Aw o k
 | 0, h, _ => absurd h om
 | 1, _, _ => I_ o
 | k + 2, _, h => EX H HI k h (EW H HI (k + 1) om om)
theorem EH {w : World} {o : Oper} {a : Act} {K : Act → World → Prop} {Q : Exit → Act → World → Prop} (s x : Operand) (ty : TypeId)
  (ho : o.op = .call { callee := .builtin .append, args := #[s, x], argTypes := #[ty, ty] }) (t : TypeId) (z : Value) (size bytes : Nat) (k : IntKind) (hty : Tryz.prog.underlying ty = some (.slice t)) (oM : (Tryz.prog.info? t).map (fun i => (i.zero, i.size, i.bytes)) = some (some z, size, bytes)) (hzs : z.cells.size = size) (hs0 : 0 < size) (hby : bytes ≤ 1000)
  (base n r : Nat) (g : Nat → Int) (v : Value) (b : Nat) (hs : a.eval s = v) (hown : Ow w base t size k v n g) (hx : a.eval x = .slice (some ⟨b, 0, none⟩) r r)
  (hc : ∀ j, j < r * size → w.cell? ⟨b, j, none⟩ = some (J k (g (n * size + j)))) (hr0 : 0 < r) (hn : n + r ≤ 100000000) (hbase : base ≤ w.heap.size)
  (h : ∀ v' w', Ow w' base t size k v' (n + r) g → Below base w w' → (∀ p, p < w.heap.size → v.ownBlock ≠ some p → w'.heap[p]? = w.heap[p]?) → (v'.ownBlock = v.ownBlock ∨ v'.ownBlock = some w.heap.size) → K (a.put o.dst v') w') : o.wp Tryz.prog a w K Q := by
 obtain ⟨i0, hi, hz0, hz1, hz2⟩ := info_parts oM
 refine wp_append_lies _ s x ty ho base t i0 z size bytes hty hi hz0 hz1 hz2 hzs hs0 v n (uv k (n * size) g) hs hown ⟨b, 0, none⟩ r r (uv k (r * size) (fun j => g (n * size + j))) hx (kS _ _ _) ?_ ?_ hr0 (by unfold maxLen; omega) (by have := Nat.mul_le_mul hn hby; omega) hbase w.heap.size rfl ?_
 ·intro j u hj
  have hlt : j < r * size := by
   rcases Nat.lt_or_ge j (r * size) with c | c
   ·exact c
   ·rw [List.getElem?_eq_none (by rw [kS]; exact c)] at hj; cases hj
  rw [yO _ _ _ _ hlt] at hj
  obtain rfl := Option.some.inj hj
  have e : (⟨b, 0, none⟩ : Addr).add j = ⟨b, j, none⟩ := by unfold Addr.add; split <;> simp_all
  rw [e]; exact hc j hlt
 ·intro u hu
  obtain ⟨j, _, rfl⟩ := List.mem_map.1 hu
  rfl
 ·intro gb cap' w' hown' hgrow hat _
  refine h _ w' ?_ ?_ ?_ ?_
  ·show World.ownsRow _ _ _ _ _ _ _
   rw [Nat.add_mul, Sz]
   exact hown'
  ·refine (Below.refl base w).grown hgrow hbase ?_
   intro q hq
   exact (World.ownsRow.lt hown q hq).1
  ·exact fun p hp hne => hgrow.block p hp (fun e => hne e.symm)
  ·rcases hat with e | e
   ·exact .inl (by rw [e]; rfl)
   ·exact .inr (by rw [e]; rfl)
theorem yS {w : World} {ops : Array Oper} {o : Oper} {a : Act} {K : Act → World → Prop} {Q : Exit → Act → World → Prop} {E : Prop} (hgd : o.guard = none) (s x : Operand) (ty : TypeId)
  (ho : o.op = .call { callee := .builtin .append, args := #[s, x], argTypes := #[ty, ty] }) (t : TypeId) (z : Value) (size bytes : Nat) (k : IntKind) (hty : Tryz.prog.underlying ty = some (.slice t)) (oM : (Tryz.prog.info? t).map (fun i => (i.zero, i.size, i.bytes)) = some (some z, size, bytes)) (hzs : z.cells.size = size) (hs0 : 0 < size) (hby : bytes ≤ 1000)
  (base n r : Nat) (g : Nat → Int) (v : Value) (b : Nat) (hs : a.eval s = v) (hown : Ow w base t size k v n g) (hx : a.eval x = .slice (some ⟨b, 0, none⟩) r r)
  (hc : ∀ j, j < r * size → w.cell? ⟨b, j, none⟩ = some (J k (g (n * size + j)))) (hr0 : 0 < r) (hn : n + r ≤ 100000000) (hbase : base ≤ w.heap.size)
  (h : ∀ v' w', Ow w' base t size k v' (n + r) g → Below base w w' → (∀ p, p < w.heap.size → v.ownBlock ≠ some p → w'.heap[p]? = w.heap[p]?) → (v'.ownBlock = v.ownBlock ∨ v'.ownBlock = some w.heap.size) → K (a.put o.dst v') w') : if Region.wanted o (yielded ops a.tmps) = true then Oper.wp Tryz.prog o a w K Q else E := by
 have hw : Region.wanted o (yielded ops a.tmps) = true := by simp [Region.wanted, hgd]
 rw [if_pos hw]
 exact EH s x ty ho t z size bytes k hty oM hzs hs0 hby base n r g v b hs hown hx hc hr0 hn hbase h
theorem dP {w w' : World} {v : Value} (hk : ∀ p, p < w.heap.size → v.ownBlock ≠ some p → w'.heap[p]? = w.heap[p]?) {p off : Nat} {u : Value} (hu : w.cell? ⟨p, off, none⟩ = some u) (hne : v.ownBlock ≠ some p) : w'.cell? ⟨p, off, none⟩ = some u := (World.cell?_of_block (w := w) (a := ⟨p, off, none⟩) (hk p (au hu) hne)).trans hu
theorem Ow.UE {w w' : World} {v u : Value} (hk : ∀ p, p < w.heap.size → v.ownBlock ≠ some p → w'.heap[p]? = w.heap[p]?) {base : Nat} {t : TypeId} {size : Nat} {k : IntKind} {n : Nat} {g : Nat → Int} (ho : Ow w base t size k u n g) (hne : ∀ p, u.ownBlock = some p → v.ownBlock ≠ some p) : Ow w' base t size k u n g := by
 refine ⟨ho.1, ?_⟩
 rcases ho.2 with hn | ⟨b, cap, cur, rfl, hb, hh, rest⟩
 ·exact .inl hn
 ·refine .inr ⟨b, cap, cur, rfl, hb, ?_, rest⟩
  rw [hk b (Array.getElem?_eq_some_iff.1 hh).1 (hne b rfl)]
  exact hh
theorem Ow.XQ {w : World} {base : Nat} {t : TypeId} {size : Nat} {k : IntKind} {v : Value} {n : Nat} {g : Nat → Int} (h : Ow w base t size k v n g) {p : Nat} (hp : p < base) : v.ownBlock ≠ some p := fun e => by
 have := (World.ownsRow.lt h p e).1
 omega
theorem Ow.aDG (w : World) (ob : Obj) (t : TypeId) (size : Nat) (k : IntKind) (g : Nat → Int) : Ow ((w.alloc ob).alloc (.cells #[] t)) w.heap.size t size k (.slice (some ⟨w.heap.size + 1, 0, none⟩) 0 0) 0 g := by
 have := Ow.lit (w.alloc ob) t size k g
 rw [World.size_alloc] at this
 exact this.mono om
theorem yD {w : World} {b m : Nat} {k : IntKind} {g : Nat → Int} {x0 x1 : Int} (r s : Nat) (hrs : r * s = 2) (h0 : w.cell? ⟨b, 0, none⟩ = some (J k x0)) (h1 : w.cell? ⟨b, 1, none⟩ = some (J k x1)) (e0 : g (m + 0) = x0) (e1 : g (m + 1) = x1) : ∀ j, j < r * s → w.cell? ⟨b, j, none⟩ = some (J k (g (m + j))) := by
 intro j hj
 rw [hrs] at hj
 match j, hj with
 | 0, _ => rw [e0]; exact h0
 | 1, _ => rw [e1]; exact h1
def Iw (o : Ops) (k : Nat) : Prop := ∀ (K : Int) (w : World) (v : Value) (zs : Nat → Int × Int), K = (k : Int) → Rd w Y v (2 ^ (k - 1)) (2 ^ (k - 1) * 2) (flat zs) → (∀ j, mF (zs j)) →
 CT 53 #[J .i64 K, v] w fun e w' => ∃ v', e = O v' ∧ Ow w' w.heap.size 22 1 Y v' (2 ^ k) (o.bk k zs) ∧ Gb w w'
theorem Q5 (o : Ops) : Iw o 1 := by
 intro K w v zs hK hr hcs
 obtain rfl : K = 1 := hK
 have HS : KW 49 #[J .i64 1] (J .i64 2) := fun w => qG 1 1 rfl om 2 rfl w
 obtain ⟨b, cap, rfl, h1, h2, hc⟩ := hr.at de
 have c0 : w.cell? ⟨b, 0, none⟩ = some (J Y (zs 0).1) := hc 0 de
 have c1 : w.cell? ⟨b, 1, none⟩ = some (J Y (zs 0).2) := hc 1 de
 have e0 : o.bk 1 zs 0 = (zs 0).1 := rfl
 have e1 : o.bk 1 zs 1 = (zs 0).2 := rfl
 generalize o.bk 1 zs = f at *
 generalize (zs 0).1 = x at *
 generalize (zs 0).2 = y at *
 clear hr hc hcs
 go_enter func53, ntmps53
 go_wp2_with (go_at_call 49; refine kw (HS.out _) ?_)
 go_region
 all_goals go_wp2
 all_goals go_returns
 all_goals
  refine ⟨_, rfl, ?_, kg⟩
  have := World.ownsRow_lit (base := w.heap.size) (e := 22) (size := 1) w.drew #[J Y x, J Y y] 2 (Nat.le_refl _) de rfl
  refine Ow.congr (g := fun j => if j = 0 then x else y) this (fun j hj => ?_)
  match j, hj with
  | 0, _ => exact e0.symm
  | 1, _ => exact e1.symm
theorem MI {o : Ops} (H : o.S) (HI : o.In) (k : Nat) (hk6 : k + 2 ≤ 6) (IH : Iw o (k + 1)) : Iw o (k + 2) := by
 intro K w v zs hK hr hcs
 unfold Iw at IH
 obtain ⟨K1, hK1⟩ : ∃ K1 : Int, K1 = ((k + 1 : Nat) : Int) := ⟨_, rfl⟩
 have uK : IntKind.i64.wrap (K - 1) = K1 := wi
 have k1 : ¬ K < 1 := om
 have k2 : ¬ (6 : Int) < K := om
 have k3 : (K == 1) = false := by simp; omega
 obtain ⟨m, hm⟩ : ∃ m, m = 2 ^ k := ⟨_, rfl⟩
 have hm1 : 0 < m := by rw [hm]; exact Nat.pow_pos de
 have hm2 : m ≤ 16 := by
  rw [hm]
  have := Nat.pow_le_pow_right (show 0 < 2 by decide) (show k ≤ 4 by omega)
  omega
 obtain ⟨L, hL⟩ : ∃ L, L = 2 ^ (k + 1) := ⟨_, rfl⟩
 obtain ⟨Z, hZ⟩ : ∃ Z, Z = 2 ^ (k + 2) := ⟨_, rfl⟩
 have hLm : L = 2 * m := by rw [hL, Nat.pow_succ, ← hm]; omega
 have hZL : Z = 2 * L := by rw [hZ, Nat.pow_succ, ← hL]; omega
 rw [show k + 2 - 1 = k + 1 by omega, ← hL] at hr
 have HS : KW 49 #[J .i64 K] (J .i64 (Z : Int)) := fun w => qG K (k + 2) hK om Z (by rw [hZ]) w
 have uZ : IntKind.i64.wrap ((L : Int) * 2) = (Z : Int) := wi
 have WJ : Hid (∀ w', CT 67 #[J .i64 K] w' fun e w'' => ∃ b cap, e = O (.slice (some ⟨b, 0, none⟩) L cap) ∧ w'.heap.size ≤ b ∧ b < w''.heap.size ∧ (∀ q, q < L * 2 → w''.cell? ⟨b, q, none⟩ = some (J Y (flat (o.rt (k + 2)) q))) ∧ Gb w' w'') := fun w' => by
  rw [hK]
  refine (Dt H HI (k + 2) om hk6 w').mono fun e w'' ⟨u, e1, e2, e3⟩ => ?_
  rw [show k + 2 - 1 = k + 1 by omega, ← hL] at e2
  obtain ⟨b, cap, rfl, c1, c2, _, _, c3⟩ := e2.at om
  exact ⟨b, cap, e1, c1, c2, fun j hj => (c3 j hj).1, e3⟩
 have HB : Hid (∀ w' u (ys : Nat → Int × Int), (∀ j, mF (ys j)) → Rd w' Y u m (m * 2) (flat ys) → CT 53 #[J .i64 K1, u] w' fun e w'' => ∃ b cap, e = O (.slice (some ⟨b, 0, none⟩) L cap) ∧ b < w''.heap.size ∧ (∀ q, q < L → w''.cell? ⟨b, q, none⟩ = some (J Y (o.bk (k + 1) ys q))) ∧ Gb w' w'') := fun w' u ys hys hu => (IH K1 w' u ys hK1 (by rw [show k + 1 - 1 = k by omega, ← hm]; exact hu) hys).mono fun e w'' ⟨v', e1, e2, e3⟩ => by
  rw [← hL] at e2
  obtain ⟨b, cap, rfl, _, c2, _, _, c3⟩ := e2.at om
  exact ⟨b, cap, e1, c2, fun j hj => (c3 j om).1, e3⟩
 have wA : Hid _ := HI.xC hcs
 have wB : Hid _ := HI.yG (k + 2) hcs
 have YK : Hid (∀ a1 a2 b1 b2, Wd a1 → Wd a2 → Wd b1 → Wd b2 → ∀ w', QB 52 #[.agg #[J Y a1, J Y a2], .agg #[J Y b1, J Y b2]] w' (.agg #[J Y ((o.cMul (a1, a2) (b1, b2)).1), J Y ((o.cMul (a1, a2) (b1, b2)).2)])) := fun a1 a2 b1 b2 h1 h2 h3 h4 w' => Ef H HI h1 h2 h3 h4 w'
 have HSu : Hid (∀ a1 a2 b1 b2, Wd a1 → Wd a2 → Wd b1 → Wd b2 → ∀ w', QB 68 #[.agg #[J Y a1, J Y a2], .agg #[J Y b1, J Y b2]] w' (.agg #[J Y ((o.cAdd (a1, a2) (b1, b2)).1), J Y ((o.cAdd (a1, a2) (b1, b2)).2)])) := fun a1 a2 b1 b2 h1 h2 h3 h4 w' => VG H h1 h2 h3 h4 w'
 have V_ : Hid (∀ a1 a2 b1 b2, Wd a1 → Wd a2 → Wd b1 → Wd b2 → ∀ w', QB 69 #[.agg #[J Y a1, J Y a2], .agg #[J Y b1, J Y b2]] w' (.agg #[J Y ((o.cSub (a1, a2) (b1, b2)).1), J Y ((o.cSub (a1, a2) (b1, b2)).2)])) := fun a1 a2 b1 b2 h1 h2 h3 h4 w' => Oa H h1 h2 h3 h4 w'
 have HHa : Hid (∀ a1 a2, Wd a1 → Wd a2 → ∀ w', QB 139 #[.agg #[J Y a1, J Y a2]] w' (.agg #[J Y ((o.lU (a1, a2)).1), J Y ((o.lU (a1, a2)).2)])) := fun a1 a2 h1 h2 w' => Yv H HI h1 h2 w'
 obtain ⟨bx, cx, rfl, hx1, hx2, hxc⟩ := hr.at om
 have hbx := au (hxc 0 om)
 have HX : Hid _ := hxc
 have HM : Hid _ := hm
 have HLm : Hid _ := hLm
 have HZL : Hid _ := hZL
 have Rk : Hid _ := hZ
 have hL2 : L ≤ 32 := om
 have hZ2 : Z ≤ 64 := om
 have Wh : Hid _ := hcs
 clear hr hxc IH hK hK1 hm hL hLm hZL hZ hcs
 go_enter func53, ntmps53
 go_upto_region 5 with (go_at_call 49; refine kw (HS.out _) ?_)
 go_upto_region 8 with (go_at_call 67; refine (WJ.out _).mono ?_; rintro e W ⟨br, cr, rfl, aD5, hbr, hcr, tq⟩)
 have QL := tq.size
 simp only [World.size_alloc] at QL aD5
 go_wp2
 go_loopw [5, 6, 8] (fun fa fb i wr => ∃ j : Nat, j ≤ m ∧ i = J .i64 j ∧ Ow wr w.heap.size 46 2 Y fa j (flat (o.xC zs)) ∧ Ow wr w.heap.size 46 2 Y fb j (flat (o.yG (k + 2) zs)) ∧ (∀ p, fa.ownBlock = some p → fb.ownBlock ≠ some p) ∧ fa.ownBlock ≠ some br ∧ fb.ownBlock ≠ some br ∧ br < wr.heap.size ∧ Hid (∀ q, q < L * 2 → wr.cell? ⟨br, q, none⟩ = some (J Y (flat (o.rt (k + 2)) q))) ∧ Gb w wr) (fun _ _ i _ => m - (intOf i).toNat)
 case atStart =>
  refine ⟨0, Nat.zero_le _, rfl, Ow.gb (Ow.alloc (Ow.lit w _ _ _ _) _) tq, Ow.gb (Ow.aDG w _ _ _ _ _) tq, ?_, ?_, ?_, hbr, hcr, kg⟩
  ·intro p h1 h2
   simp only [Value.ownBlock, Option.some.injEq, World.size_alloc] at h1 h2
   omega
  ·simp only [Value.ownBlock, ne_eq, Option.some.injEq]; omega
  ·simp only [Value.ownBlock, ne_eq, Option.some.injEq, World.size_alloc]; omega
 case round =>
  obtain ⟨j, hj, rfl, hoa, hob, hab, har, aA2, aFl, HCR, hgb⟩ := hrel
  have aCo := hgb.size
  obtain ⟨J0, hJ0⟩ : ∃ J0 : Nat, J0 = 2 * j := ⟨_, rfl⟩
  have uA : IntKind.i64.wrap ((j : Int) * 2) = (J0 : Int) := wi
  have uB : IntKind.i64.wrap (2 * (j : Int)) = (J0 : Int) := wi
  by_cases hlt : j < m
  ·obtain ⟨J1, hJ1⟩ : ∃ J1 : Nat, J1 = 2 * j + 1 := ⟨_, rfl⟩
   have uC : IntKind.i64.wrap ((J0 : Int) + 1) = (J1 : Int) := wi
   have hLm := HLm.out
   have i0 : (J0 : Int) < (L : Int) := om
   have i1 : (J1 : Int) < (L : Int) := om
   obtain ⟨x1, x2, hx⟩ : ∃ x1 x2, zs (2 * j) = (x1, x2) := ⟨_, _, rfl⟩
   obtain ⟨y1, y2, hy⟩ : ∃ y1 y2, zs (2 * j + 1) = (y1, y2) := ⟨_, _, rfl⟩
   obtain ⟨r, s, hrs⟩ : ∃ r s, o.rt (k + 2) (2 * j) = (r, s) := ⟨_, _, rfl⟩
   have p0 : wr.cell? ⟨bx, J0 * 2, none⟩ = some (J Y x1) := by have := hgb.old (HX.out (2 * (2 * j)) om); rw [aZ, hx] at this; rw [hJ0, Nat.mul_comm]; exact this
   have p1 : wr.cell? ⟨bx, J0 * 2 + 1, none⟩ = some (J Y x2) := by have := hgb.old (HX.out (2 * (2 * j) + 1) om); rw [bC, hx] at this; rw [hJ0, Nat.mul_comm]; exact this
   have p2 : wr.cell? ⟨bx, J1 * 2, none⟩ = some (J Y y1) := by have := hgb.old (HX.out (2 * (2 * j + 1)) om); rw [aZ, hy] at this; rw [hJ1, Nat.mul_comm]; exact this
   have p3 : wr.cell? ⟨bx, J1 * 2 + 1, none⟩ = some (J Y y2) := by have := hgb.old (HX.out (2 * (2 * j + 1) + 1) om); rw [bC, hy] at this; rw [hJ1, Nat.mul_comm]; exact this
   have p4 : wr.cell? ⟨br, J0 * 2, none⟩ = some (J Y r) := by have := HCR.out (2 * (2 * j)) (by omega); rw [aZ, hrs] at this; rw [hJ0, Nat.mul_comm]; exact this
   have p5 : wr.cell? ⟨br, J0 * 2 + 1, none⟩ = some (J Y s) := by have := HCR.out (2 * (2 * j) + 1) (by omega); rw [bC, hrs] at this; rw [hJ0, Nat.mul_comm]; exact this
   have wX := Wh.out (2 * j)
   have wY := Wh.out (2 * j + 1)
   have wR := HI.rt (k + 2) (2 * j)
   rw [hx] at wX
   rw [hy] at wY
   rw [hrs] at wR
   have G0 : KB 138 #[J Y s] (J Y (l9 s)) := fun w' => ET wR.2 w'
   obtain ⟨a, ha⟩ : ∃ a, o.cAdd (x1, x2) (y1, y2) = a := ⟨_, rfl⟩
   obtain ⟨d, hd⟩ : ∃ d, o.cSub (x1, x2) (y1, y2) = d := ⟨_, rfl⟩
   obtain ⟨e, he⟩ : ∃ e, o.cMul d (r, l9 s) = e := ⟨_, rfl⟩
   have wa := HI.cAdd (show mF (x1, x2) from wX) (show mF (y1, y2) from wY)
   have wd := HI.cSub (show mF (x1, x2) from wX) (show mF (y1, y2) from wY)
   rw [ha] at wa
   rw [hd] at wd
   have we := HI.cMul wd (show mF (r, l9 s) from ⟨wR.1, sS wR.2⟩)
   rw [he] at we
   have G1 := HSu.out x1 x2 y1 y2 wX.1 wX.2 wY.1 wY.2
   rw [ha] at G1
   have G2 := HHa.out a.1 a.2 wa.1 wa.2
   have G3 := V_.out x1 x2 y1 y2 wX.1 wX.2 wY.1 wY.2
   rw [hd] at G3
   have G4 := YK.out d.1 d.2 r (l9 s) wd.1 wd.2 wR.1 (sS wR.2)
   rw [show (d.1, d.2) = d from rfl, he] at G4
   have G5 := HHa.out e.1 e.2 we.1 we.2
   have sA : o.xC zs j = o.lU (a.1, a.2) := by unfold Ops.xC; rw [hx, hy, ha]
   have sB : o.yG (k + 2) zs j = o.lU (e.1, e.2) := by
    show o.lU (o.cMul (o.cSub (zs (2 * j)) (zs (2 * j + 1))) (Au (o.rt (k + 2) (2 * j)))) = _
    rw [hx, hy, hrs, hd]
    show o.lU (o.cMul d (r, l9 s)) = _
    rw [he]
   obtain ⟨f1, f2, hf⟩ : ∃ f1 f2, o.lU (a.1, a.2) = (f1, f2) := ⟨_, _, rfl⟩
   obtain ⟨g1, g2, hg⟩ : ∃ g1 g2, o.lU (e.1, e.2) = (g1, g2) := ⟨_, _, rfl⟩
   rw [hf] at G2 sA
   rw [hg] at G5 sB
   obtain ⟨a1, a2⟩ := a
   obtain ⟨d1, d2⟩ := d
   obtain ⟨e1, e2⟩ := e
   dsimp only at G1 G2 G3 G4 G5
   have q0 : Hid (flat (o.xC zs) (j * 2 + 0) = f1) := by show _ = _; rw [show j * 2 + 0 = 2 * j by omega, aZ, sA]
   have q1 : Hid (flat (o.xC zs) (j * 2 + 1) = f2) := by show _ = _; rw [show j * 2 + 1 = 2 * j + 1 by omega, bC, sA]
   have q2 : Hid (flat (o.yG (k + 2) zs) (j * 2 + 0) = g1) := by show _ = _; rw [show j * 2 + 0 = 2 * j by omega, aZ, sB]
   have q3 : Hid (flat (o.yG (k + 2) zs) (j * 2 + 1) = g2) := by show _ = _; rw [show j * 2 + 1 = 2 * j + 1 by omega, bC, sB]
   generalize l9 s = s' at *
   have F1 : Hid _ := G1
   have F2 : Hid _ := G2
   have F3 : Hid _ := G3
   have F4 : Hid _ := G4
   have F5 : Hid _ := G5
   have HOA : Hid (∀ w', Gb wr w' → Ow w' w.heap.size 46 2 Y _ j (flat (o.xC zs))) := fun w' hg => hoa.gb hg
   have HOB : Hid (∀ w', Gb wr w' → Ow w' w.heap.size 46 2 Y _ j (flat (o.yG (k + 2) zs))) := fun w' hg => hob.gb hg
   have HAx : Hid _ := hoa.XQ hbx
   have HBx : Hid _ := hob.XQ hbx
   have HAw : Hid _ := fun p (hp : wr.heap.size ≤ p) => hoa.ne hp
   have HBw : Hid _ := fun p (hp : wr.heap.size ≤ p) => hob.ne hp
   have HAB : Hid _ := hab
   have HAr : Hid _ := har
   have HJ0 : Hid _ := hJ0
   have HBr : Hid _ := aA2
   clear hoa hob hab har aA2 G1 G2 G3 G4 G5 sA sB hf hg ha hd he wa wd we wX wY wR hx hy hrs hJ0 hJ1 hLm YK HSu V_ HHa
   go_wp2
   go_cut [9] from 44 to 98 (fun s9 wx => ∃ bt : Nat, s9 = .pointer (some ⟨bt, 0, none⟩) ∧ wx.cell? ⟨bt, 0, none⟩ = some (J Y r) ∧ wx.cell? ⟨bt, 1, none⟩ = some (J Y s') ∧ wr.heap.size ≤ bt ∧ Gb wr wx)
   case first =>
    go_region_held3 (fun w' => w'.cell? ⟨br, J0 * 2, none⟩ = some (J Y r) ∧ w'.cell? ⟨br, J0 * 2 + 1, none⟩ = some (J Y s))
     ((go_split_ands; (repeat' apply And.intro) <;> exact kh))
     (first
      | (go_at_call 138; with_reducible refine (G0.out _).mono ?_; rintro e w2 ⟨rfl, ak⟩; have hz2 := ak.size; (try simp only [World.size_alloc, World.size_drew, World.size_setCell] at hz2); (try (have bx0 : w2.cell? ⟨wr.heap.size, 0, none⟩ = some (J Y 0) := ak.old (by simp [go_sem]); have bx1 : w2.cell? ⟨wr.heap.size, 1, none⟩ = some (J Y 0) := ak.old (by simp [go_sem]); have Z_ : w2.frozen? ⟨wr.heap.size, 0, none⟩ = false := ak.pz (v := J Y 0) (by simp [go_sem]) (iE (fH (D_ (Nat.le_refl _)))); have Z9 : w2.frozen? ⟨wr.heap.size, 1, none⟩ = false := ak.pz (v := J Y 0) (by simp [go_sem]) (iE (fH (D_ (Nat.le_refl _))))))))
    all_goals (go_wp2; go_meet)
    all_goals exact ⟨_, rfl, kb, kb, om, kg⟩
   case rest =>
    obtain ⟨bt, rfl, c0, c1, hbt, hgt⟩ := hcut
    have n0 : wc.cell? ⟨bx, J0 * 2, none⟩ = some (J Y x1) := hgt.old p0
    have n1 : wc.cell? ⟨bx, J0 * 2 + 1, none⟩ = some (J Y x2) := hgt.old p1
    have n2 : wc.cell? ⟨bx, J1 * 2, none⟩ = some (J Y y1) := hgt.old p2
    have n3 : wc.cell? ⟨bx, J1 * 2 + 1, none⟩ = some (J Y y2) := hgt.old p3
    have aD4 := au c0
    have aDJ := hgt.size
    clear p0 p1 p2 p3 p4 p5
    go_wp2
    go_region_held3 (fun w' => w'.cell? ⟨bx, J0 * 2, none⟩ = some (J Y x1) ∧ w'.cell? ⟨bx, J0 * 2 + 1, none⟩ = some (J Y x2) ∧ w'.cell? ⟨bx, J1 * 2, none⟩ = some (J Y y1) ∧ w'.cell? ⟨bx, J1 * 2 + 1, none⟩ = some (J Y y2) ∧ w'.cell? ⟨bt, 0, none⟩ = some (J Y r) ∧ w'.cell? ⟨bt, 1, none⟩ = some (J Y s'))
     ((go_split_ands; (repeat' apply And.intro) <;> exact kh))
     (first
      | (go_at_call 68; with_reducible refine (F1.out _).mono ?_; rintro e w2 ⟨rfl, ak⟩; have hz2 := ak.size; (try simp only [World.size_alloc, World.size_drew, World.size_setCell] at hz2))
      | (go_at_call 139; with_reducible refine (F2.out _).mono ?_; rintro e w3 ⟨rfl, aA⟩; have hz3 := aA.size; (try simp only [World.size_alloc, World.size_drew, World.size_setCell] at hz3))
      | (refine yS rfl _ _ 43 rfl 46 (.agg #[J Y 0, J Y 0]) 2 16 Y Tryz.underlying43 zT rfl de de w.heap.size j 1 (flat (o.xC zs)) _ w3.heap.size rfl (HOA.out _ kg) rfl (yD 1 2 rfl (by simp [go_sem]) (by simp [go_sem]) q0.out q1.out) om om (by simp [go_sem]; omega) ?_; intro v4 w4 hown4 hb4 hk4 Yb; have r0 : w4.cell? ⟨bx, J0 * 2, none⟩ = some (J Y x1) := dP hk4 kb HAx.out; have r1 : w4.cell? ⟨bx, J0 * 2 + 1, none⟩ = some (J Y x2) := dP hk4 kb HAx.out; have r2 : w4.cell? ⟨bx, J1 * 2, none⟩ = some (J Y y1) := dP hk4 kb HAx.out; have r3 : w4.cell? ⟨bx, J1 * 2 + 1, none⟩ = some (J Y y2) := dP hk4 kb HAx.out; have r4 : w4.cell? ⟨bt, 0, none⟩ = some (J Y r) := dP hk4 kb (HAw.out _ hbt); have r5 : w4.cell? ⟨bt, 1, none⟩ = some (J Y s') := dP hk4 kb (HAw.out _ hbt)))
    all_goals
     have gq : Gb wr (w3.alloc (.cells #[J Y f1, J Y f2] 46)) := kg
     have hsq := gq.size
     have hs4 := hb4.size
     simp only [World.size_alloc] at hsq hs4 Yb
     have ZL := Ow.UE hk4 (HOB.out _ gq) (fun p hb ha => HAB.out p ha hb)
     have aD1 : Gb w w4 := Gb.below (hgb.trans gq) hb4 (Nat.le_refl _)
     have HC4 : Hid (∀ q, q < L * 2 → w4.cell? ⟨br, q, none⟩ = some (J Y (flat (o.rt (k + 2)) q))) := fun q hq => dP hk4 (gq.old (HCR.out q hq)) HAr.out
     have aC7 : Hid (∀ p, v4.ownBlock = some p → u6.ownBlock ≠ some p) := fun p h4 => by
      rcases Yb with e | e
      ·rw [e] at h4; exact HAB.out p h4
      ·rw [e] at h4; injection h4 with h4; exact HBw.out p om
     have aEt : Hid (v4.ownBlock ≠ some br) := by
      rcases Yb with e | e
      ·show _ ≠ _; rw [e]; exact HAr.out
      ·show _ ≠ _; rw [e]; intro h; injection h with h; omega
     have HO4 : Hid (∀ w', Gb w4 w' → Ow w' w.heap.size 46 2 Y v4 (j + 1) (flat (o.xC zs))) := fun w' hg => hown4.gb hg
     have HL4 : Hid (∀ p, v4.ownBlock = some p → p < w4.heap.size) := fun p h => (World.ownsRow.lt hown4 p h).2
     have aEq : Hid (∀ w', Gb w4 w' → Ow w' w.heap.size 46 2 Y u6 j (flat (o.yG (k + 2) zs))) := fun w' hg => ZL.gb hg
     have aFc : wr.heap.size ≤ w4.heap.size := om
     clear hk4 Yb hown4 ZL hb4 gq ak aA hz2 hz3
     (try go_split_ands)
     go_wp2
     go_region_held3 (fun w' => w'.cell? ⟨bx, J0 * 2, none⟩ = some (J Y x1) ∧ w'.cell? ⟨bx, J0 * 2 + 1, none⟩ = some (J Y x2) ∧ w'.cell? ⟨bx, J1 * 2, none⟩ = some (J Y y1) ∧ w'.cell? ⟨bx, J1 * 2 + 1, none⟩ = some (J Y y2) ∧ w'.cell? ⟨bt, 0, none⟩ = some (J Y r) ∧ w'.cell? ⟨bt, 1, none⟩ = some (J Y s'))
      ((go_split_ands; (repeat' apply And.intro) <;> exact kh))
      (first
       | (go_at_call 69; with_reducible refine (F3.out _).mono ?_; rintro e w5 ⟨rfl, aJ⟩; have UM := aJ.size; (try simp only [World.size_alloc, World.size_drew, World.size_setCell] at UM))
       | (go_at_call 52; with_reducible refine (F4.out _).mono ?_; rintro e w6 ⟨rfl, fK⟩; have hz6 := fK.size; (try simp only [World.size_alloc, World.size_drew, World.size_setCell] at hz6))
       | (go_at_call 139; with_reducible refine (F5.out _).mono ?_; rintro e w7 ⟨rfl, gU⟩; have hz7 := gU.size; (try simp only [World.size_alloc, World.size_drew, World.size_setCell] at hz7))
       | (refine yS rfl _ _ 43 rfl 46 (.agg #[J Y 0, J Y 0]) 2 16 Y Tryz.underlying43 zT rfl de de w.heap.size j 1 (flat (o.yG (k + 2) zs)) _ w7.heap.size rfl (aEq.out _ kg) rfl (yD 1 2 rfl (by simp [go_sem]) (by simp [go_sem]) q2.out q3.out) om om (by simp [go_sem]; omega) ?_; intro v8 w8 aCr hb8 hk8 aA3; have r0 : w8.cell? ⟨bx, J0 * 2, none⟩ = some (J Y x1) := dP hk8 kb HBx.out; have r1 : w8.cell? ⟨bx, J0 * 2 + 1, none⟩ = some (J Y x2) := dP hk8 kb HBx.out; have r2 : w8.cell? ⟨bx, J1 * 2, none⟩ = some (J Y y1) := dP hk8 kb HBx.out; have r3 : w8.cell? ⟨bx, J1 * 2 + 1, none⟩ = some (J Y y2) := dP hk8 kb HBx.out; have r4 : w8.cell? ⟨bt, 0, none⟩ = some (J Y r) := dP hk8 kb (HBw.out _ hbt); have r5 : w8.cell? ⟨bt, 1, none⟩ = some (J Y s') := dP hk8 kb (HBw.out _ hbt)))
     all_goals
      have gq8 : Gb w4 (w7.alloc (.cells #[J Y g1, J Y g2] 46)) := kg
      have aDM := gq8.size
      have hs8 := hb8.size
      simp only [World.size_alloc] at aDM hs8 aA3
      have aDS := Ow.UE hk8 (HO4.out _ gq8) aC7.out
      have aD0 : Gb w w8 := Gb.below (aD1.trans gq8) hb8 (Nat.le_refl _)
      have HC8 : Hid (∀ q, q < L * 2 → w8.cell? ⟨br, q, none⟩ = some (J Y (flat (o.rt (k + 2)) q))) := fun q hq => dP hk8 (gq8.old (HC4.out q hq)) HBr.out
      have hd8 : ∀ p, v4.ownBlock = some p → v8.ownBlock ≠ some p := fun p h4 => by
       rcases aA3 with e | e
       ·rw [e]; exact aC7.out p h4
       ·rw [e]; intro h; injection h with h; have := HL4.out p h4; omega
      have aD8 : v8.ownBlock ≠ some br := by
       rcases aA3 with e | e
       ·rw [e]; exact HBr.out
       ·rw [e]; intro h; injection h with h; omega
      go_wp2
      go_roundw
      case rel => exact ⟨j + 1, om, by go_num, aDS, aCr, hd8, aEt.out, aD8, om, HC8.out, aD0⟩
      case measure => simp [intOf] <;> omega
  ·obtain rfl : j = m := om
   have iL : ¬ (J0 : Int) < (L : Int) := by have := HLm.out; omega
   have hra := hoa.rd
   have hrb := hob.rd
   clear hoa hob hab har aA2 hJ0 YK HSu V_ HHa HCR
   rename World => X
   go_upto_region 15 with (go_at_call 53; refine (HB.out _ _ (o.xC zs) wA.out hra).mono ?_; rintro e w2 ⟨ba, ca, rfl, hba, hca, ak⟩)
   go_upto_region 16 with (go_at_call 53; refine (HB.out _ _ (o.yG (k + 2) zs) wB.out (hrb.gb ak)).mono ?_; rintro e w3 ⟨bb, cb, rfl, hbb, hcb, aA⟩)
   have Rw : Hid (∀ q, q < L → w3.cell? ⟨ba, q, none⟩ = some (J Y (o.bk (k + 1) (o.xC zs) q))) := fun q hq => aA.old (hca q hq)
   have Ru : Hid _ := hcb
   have hgX : Gb w w3 := (hgb.trans ak).trans aA
   have aDK := hgX.size
   have hs3 := aA.size
   clear hca hcb hra hrb hgb ak aA HB
   go_wp2
   go_loopw [12, 13] (fun f i wr => ∃ i' : Nat, i' ≤ L ∧ i = J .i64 i' ∧ Ow wr w3.heap.size 22 1 Y f (2 * i') (o.bk (k + 2) zs) ∧ Gb w3 wr) (fun _ i _ => L - (intOf i).toNat)
   case atStart => exact ⟨0, Nat.zero_le _, rfl, Ow.lit w3 _ _ _ _, kg⟩
   case round =>
    obtain ⟨i, hi, rfl, hof, hgr⟩ := hrel
    have hsr := hgr.size
    by_cases hlt : i < L
    ·have hlt' : (i : Int) < (L : Int) := om
     obtain ⟨x, hx⟩ : ∃ x, o.bk (k + 1) (o.xC zs) i = x := ⟨_, rfl⟩
     obtain ⟨y, hy⟩ : ∃ y, o.bk (k + 1) (o.yG (k + 2) zs) i = y := ⟨_, rfl⟩
     have p0 : wr.cell? ⟨ba, i, none⟩ = some (J Y x) := by rw [← hx]; exact hgr.old (Rw.out i hlt)
     have p1 : wr.cell? ⟨bb, i, none⟩ = some (J Y y) := by rw [← hy]; exact hgr.old (Ru.out i hlt)
     have e0 : Hid (o.bk (k + 2) zs (2 * i * 1 + 0) = x) := by show _ = _; rw [show 2 * i * 1 + 0 = 2 * i by omega]; simp only [Ops.bk]; rw [if_pos om, show 2 * i / 2 = i by omega, hx]
     have e1 : Hid (o.bk (k + 2) zs (2 * i * 1 + 1) = y) := by show _ = _; rw [show 2 * i * 1 + 1 = 2 * i + 1 by omega]; simp only [Ops.bk]; rw [if_neg om, show (2 * i + 1) / 2 = i by omega, hy]
     have EG : Hid _ := fun w' (hg : Gb wr w') => Ow.gb hof hg
     have HNa : Hid _ := hof.XQ (show ba < w3.heap.size by omega)
     have YM : Hid _ := hof.XQ hbb
     clear hof hx hy
     go_wp2
     go_region_held3 (fun w' => w'.cell? ⟨ba, i, none⟩ = some (J Y x) ∧ w'.cell? ⟨bb, i, none⟩ = some (J Y y))
      ((go_split_ands; (repeat' apply And.intro) <;> exact kh))
      (first
       | (refine step_more rfl _ _ 39 rfl 22 (J Y 0) 1 8 Y Tryz.underlying39 Ku rfl de de w3.heap.size (2 * i) 2 (o.bk (k + 2) zs) _ wr.heap.size rfl (EG.out _ kg) rfl (yD (g := o.bk (k + 2) zs) (m := 2 * i * 1) 2 1 rfl (by simp [go_sem]) (by simp [go_sem]) e0.out e1.out) om om (by simp [go_sem]; omega) ?_; intro v4 w4 hown4 hb4 hk4 _; have r0 : w4.cell? ⟨ba, i, none⟩ = some (J Y x) := hk4 _ _ _ kb HNa.out; have r1 : w4.cell? ⟨bb, i, none⟩ = some (J Y y) := hk4 _ _ _ kb YM.out))
     all_goals
      go_wp2
      go_roundw
      case rel => exact ⟨i + 1, om, by go_num, hown4, Gb.below kg hb4 (Nat.le_refl _)⟩
      case measure => simp [intOf] <;> omega
    ·obtain rfl : i = L := om
     have vw : ¬ (i : Int) < (i : Int) := om
     have hgw : Gb w wr := hgX.trans hgr
     have eZ : 2 ^ (k + 2) = 2 * i := by have := Rk.out; have := HZL.out; omega
     have hfin := Ow.mono hof aDK
     clear hof
     go_wp2
     go_returns
     exact ⟨_, rfl, hfin, hgw⟩
theorem Oe {o : Ops} (H : o.S) (HI : o.In) : ∀ k : Nat, 1 ≤ k → k ≤ 6 → Iw o k
 | 0, h, _ => absurd h om
 | 1, _, _ => Q5 o
 | k + 2, _, h => MI H HI k h (Oe H HI (k + 1) om om)
