import Derived.Test.YtnbbfeknbfohhaaGreatDoorX0
import Derived.Deep.RegionHeld3
import Derived.Laws.Bits64
import Derived.Deep.DeepCutAuto
import Derived.Laws.EntriesVeiled
import Derived.Deep.Cut
set_option linter.unusedVariables false
set_option linter.unusedSimpArgs false
set_option maxRecDepth 1000000
set_option maxHeartbeats 40000000
open Go.Value renaming int → J, agg → Z, slice → O
open Go.IntKind renaming u64 → Y
open Go.Proofs.Tryz
namespace Go.Proofs.YtnbbfeknbfohhaaGreatDoor
open Go.RowKit
theorem aBL (r : Nat) (h : r < 2 ^ 63) : r ^^^ 2 ^ 63 = r + 2 ^ 63 := by
 apply Nat.eq_of_testBit_eq
 intro i
 rw [Nat.testBit_xor, Nat.testBit_two_pow, Nat.add_comm]
 rcases Nat.lt_trichotomy i 63 with c | c | c
 ·rw [Nat.testBit_two_pow_add_gt c, decide_eq_false (show ¬ 63 = i by omega), Bool.xor_false]
 ·subst c; rw [Nat.testBit_two_pow_add_eq]; simp [Nat.testBit_lt_two_pow h]
 ·have h1 : r < 2 ^ i := Nat.lt_of_lt_of_le h (Nat.pow_le_pow_right de om)
  have h2 : 2 ^ 63 + r < 2 ^ i := Nat.lt_of_lt_of_le (show 2 ^ 63 + r < 2 ^ 64 by omega) (Nat.pow_le_pow_right de om)
  rw [Nat.testBit_lt_two_pow h1, Nat.testBit_lt_two_pow h2, decide_eq_false (show ¬ 63 = i by omega)]; rfl
theorem aC8 (a : Nat) (h : 2 ^ 63 ≤ a) (h2 : a < 2 ^ 64) : a ^^^ 2 ^ 63 = a - 2 ^ 63 := by
 have := aBL (a - 2 ^ 63) om
 rw [show a - 2 ^ 63 + 2 ^ 63 = a by omega] at this
 have e : a ^^^ 2 ^ 63 = (a - 2 ^ 63 ^^^ 2 ^ 63) ^^^ 2 ^ 63 := by rw [this]
 rw [e, Nat.xor_assoc, Nat.xor_self, Nat.xor_zero]
theorem RZ {a : Int} (ha : Wd a) : bits .xor Y a 9223372036854775808 = l9 a := by
 obtain ⟨n, rfl⟩ := Int.eq_ofNat_of_zero_le ha.1
 have hn : n < 18446744073709551616 := by have := ha.2; omega
 have h := bits_xor_u64_nat n 9223372036854775808 hn om
 refine h.trans ?_
 unfold l9
 split
 ·rw [show n ^^^ 9223372036854775808 = n + 9223372036854775808 from aBL n (by omega)]; omega
 ·rw [show n ^^^ 9223372036854775808 = n - 9223372036854775808 from aC8 n om (by omega)]; omega
theorem Cb : ∀ (z fl : Int) (w : World), (Instr.field 41 (Z #[J Y z, J .i64 fl]) 0).run Tryz.prog w = .ok (J Y z) w := fun z fl w => by kernel_rfl
theorem Dv {o : Ops} (H : o.I) {a b : Int} (ha : Wd a) (hb : Wd b) {w : World} (hw : Fm w) :
  QR 146 #[J Y a, J Y b] w (J Y (o.add a b)) := by
 have hf := Cb
 have HA := (H.add ha hb)
 generalize o.add a b = z at *
 clear ha hb H
 go_enter func146, ntmps146
 go_wp2_with (go_at_call 80; refine (HA.out _ hw).mono ?_; rintro e w1 ⟨fl, rfl, aj⟩)
 go_returns
 exact ⟨rfl, kr⟩
theorem NS {o : Ops} (H : o.I) {a b : Int} (ha : Wd a) (hb : Wd b) {w : World} (hw : Fm w) :
  QR 42 #[J Y a, J Y b] w (J Y (o.sub a b)) := by
 have hf := Cb
 have HA := (H.sub ha hb)
 generalize o.sub a b = z at *
 clear ha hb H
 go_enter func42, ntmps42
 go_wp2_with (go_at_call 83; refine (HA.out _ hw).mono ?_; rintro e w1 ⟨fl, rfl, aj⟩)
 go_returns
 exact ⟨rfl, kr⟩
theorem Dk {o : Ops} (H : o.I) {a b : Int} (ha : Wd a) (hb : Wd b) {w : World} (hw : Fm w) :
  QR 43 #[J Y a, J Y b] w (J Y (o.mul a b)) := by
 have hf := Cb
 have HA := (H.mul ha hb)
 generalize o.mul a b = z at *
 clear ha hb H
 go_enter func43, ntmps43
 go_wp2_with (go_at_call 86; refine (HA.out _ hw).mono ?_; rintro e w1 ⟨fl, rfl, aj⟩)
 go_returns
 exact ⟨rfl, kr⟩
theorem OE {o : Ops} (H : o.I) {a b : Int} (ha : Wd a) (hb : Wd b) {w : World} (hw : Fm w) :
  QR 195 #[J Y a, J Y b] w (J Y (o.div a b)) := by
 have hf := Cb
 have HA := (H.div ha hb)
 generalize o.div a b = z at *
 clear ha hb H
 go_enter func195, ntmps195
 go_wp2_with (go_at_call 92; refine (HA.out _ hw).mono ?_; rintro e w1 ⟨fl, rfl, aj⟩)
 go_returns
 exact ⟨rfl, kr⟩
theorem TR {o : Ops} (H : o.I) {a : Int} (ha : Wd a) {w : World} (hw : Fm w) :
  QR 194 #[J Y a] w (J Y (o.sqrt a)) := by
 have hf := Cb
 have HA := (H.sqrt ha)
 generalize o.sqrt a = z at *
 clear ha H
 go_enter func194, ntmps194
 go_wp2_with (go_at_call 95; refine (HA.out _ hw).mono ?_; rintro e w1 ⟨fl, rfl, aj⟩)
 go_returns
 exact ⟨rfl, kr⟩
theorem uJ {a : Int} (ha : Wd a) {w : World} (hw : Fm w) :
  QR 196 #[J Y a] w (J Y (l9 a)) := by
 obtain ⟨p, mx, one, inf, sg, nan, hF⟩ : ∃ p mx one inf sg nan, aI 1 p mx one inf sg nan := ⟨_, _, _, _, _, _, .inr ⟨rfl, rfl, rfl, rfl, rfl, rfl, rfl⟩⟩
 obtain ⟨mn, fb, sp, hM, hmn, hfb⟩ := hF.m
 rcases hF with ⟨h, _⟩ | ⟨_, rfl, rfl, rfl, rfl, rfl, rfl⟩
 ·omega
 subst hmn
 have HZ : KR 106 #[Z #[J .i64 53, J .i64 (-1022), J .i64 1023], J .i64 1] (J Y 9223372036854775808) := fun w => jX hM 1 _ (.inr ⟨rfl, rfl⟩) w
 obtain ⟨c0, c1, c2, c3, c4, c5⟩ := hw
 clear hM
 go_enter func196, ntmps196
 go_wp2_with (go_at_call 106; refine (HZ.out _).mono ?_; rintro e w1 ⟨rfl, aj⟩)
 go_returns
 exact ⟨aU (by simp [go_sem]; exact RZ ha), kr⟩
theorem Aq {o : Ops} (H : o.I) (HI : o.In) {a1 a2 b1 b2 : Int} (ha1 : Wd a1) (ha2 : Wd a2) (hb1 : Wd b1) (hb2 : Wd b2) {w : World} (hw : Fm w) :
  QR 58 #[Z #[J Y a1, J Y a2], Z #[J Y b1, J Y b2]] w (Z #[J Y (o.sub (o.mul a1 b1) (o.mul a2 b2)), J Y (o.add (o.mul a1 b2) (o.mul a2 b1))]) := by
 have h11 := HI.mul ha1 hb1
 have h22 := HI.mul ha2 hb2
 have h12 := HI.mul ha1 hb2
 have h21 := HI.mul ha2 hb1
 have HT : Hid (∀ a b, Wd a → Wd b → ∀ w', Gr w w' → QR 43 #[J Y a, J Y b] w' (J Y (o.mul a b))) := fun a b ha hb w' hg => Dk H ha hb (hw.gr hg)
 have HM : Hid (∀ w', Gr w w' → QR 42 #[J Y (o.mul a1 b1), J Y (o.mul a2 b2)] w' (J Y (o.sub (o.mul a1 b1) (o.mul a2 b2)))) := fun w' hg => NS H h11 h22 (hw.gr hg)
 have HP : Hid (∀ w', Gr w w' → QR 146 #[J Y (o.mul a1 b2), J Y (o.mul a2 b1)] w' (J Y (o.add (o.mul a1 b2) (o.mul a2 b1)))) := fun w' hg => Dv H h12 h21 (hw.gr hg)
 clear h11 h22 h12 h21 H HI hw
 go_enter func58, ntmps58
 go_wp2
 go_region_held3 (fun w' => w'.cell? ⟨w.heap.size, 0, none⟩ = some (J Y a1) ∧ w'.cell? ⟨w.heap.size, 1, none⟩ = some (J Y a2) ∧ w'.cell? ⟨w.heap.size + 1, 0, none⟩ = some (J Y b1) ∧ w'.cell? ⟨w.heap.size + 1, 1, none⟩ = some (J Y b2))
  ((go_split_ands; (repeat' apply And.intro) <;> exact kh))
  (first
   | (go_at_call 43; with_reducible refine (HT.out _ _ (by assumption) (by assumption) _ kr).mono ?_; rintro e w1 ⟨rfl, aj⟩; obtain ⟨pa0, vN⟩ := aj.e2 w.heap.size 0 1 (J Y a1) (J Y a2); obtain ⟨ED, Bz⟩ := aj.e2 (w.heap.size + 1) 0 1 (J Y b1) (J Y b2); obtain ⟨lu, iC, lM, iy⟩ := aj.y2 (w.heap.size + 1 + 1) 0 1 (J Y 0) (J Y 0))
   | (go_at_call 42; with_reducible refine (HM.out _ kr).mono ?_; rintro e w1 ⟨rfl, aj⟩; obtain ⟨pa0, vN⟩ := aj.e2 w.heap.size 0 1 (J Y a1) (J Y a2); obtain ⟨ED, Bz⟩ := aj.e2 (w.heap.size + 1) 0 1 (J Y b1) (J Y b2); obtain ⟨lu, iC, lM, iy⟩ := aj.y2 (w.heap.size + 1 + 1) 0 1 (J Y 0) (J Y 0))
   | (go_at_call 146; with_reducible refine (HP.out _ kr).mono ?_; rintro e w1 ⟨rfl, aj⟩; obtain ⟨pa0, vN⟩ := aj.e2 w.heap.size 0 1 (J Y a1) (J Y a2); obtain ⟨ED, Bz⟩ := aj.e2 (w.heap.size + 1) 0 1 (J Y b1) (J Y b2); obtain ⟨lu, iC, lM, iy⟩ := aj.y2 (w.heap.size + 1 + 1) 0 1 (J Y 0) (J Y 0)))
 all_goals
  go_wp2
  refine bodyPost_ret (v := Z #[J Y (o.sub (o.mul a1 b1) (o.mul a2 b2)), J Y (o.add (o.mul a1 b2) (o.mul a2 b1))]) (by simp [results, Tryz.results58, go_sem, lu, lM]) rfl ⟨rfl, ?_⟩
  exact Gr.g
theorem N9 {o : Ops} (H : o.I) {a1 a2 b1 b2 : Int} (ha1 : Wd a1) (ha2 : Wd a2) (hb1 : Wd b1) (hb2 : Wd b2) {w : World} (hw : Fm w) :
  QR 229 #[Z #[J Y a1, J Y a2], Z #[J Y b1, J Y b2]] w (Z #[J Y (o.add a1 b1), J Y (o.add a2 b2)]) := by
 have HP : Hid (∀ a b, Wd a → Wd b → ∀ w', Gr w w' → QR 146 #[J Y a, J Y b] w' (J Y (o.add a b))) := fun a b ha hb w' hg => Dv H ha hb (hw.gr hg)
 clear H hw
 go_enter func229, ntmps229
 go_wp2
 go_region_held3 (fun w' => w'.cell? ⟨w.heap.size, 0, none⟩ = some (J Y a1) ∧ w'.cell? ⟨w.heap.size, 1, none⟩ = some (J Y a2) ∧ w'.cell? ⟨w.heap.size + 1, 0, none⟩ = some (J Y b1) ∧ w'.cell? ⟨w.heap.size + 1, 1, none⟩ = some (J Y b2))
  ((go_split_ands; (repeat' apply And.intro) <;> exact kh))
  (first
   | (go_at_call 146; with_reducible refine (HP.out _ _ (by assumption) (by assumption) _ kr).mono ?_; rintro e w1 ⟨rfl, aj⟩; obtain ⟨pa0, vN⟩ := aj.e2 w.heap.size 0 1 (J Y a1) (J Y a2); obtain ⟨ED, Bz⟩ := aj.e2 (w.heap.size + 1) 0 1 (J Y b1) (J Y b2); obtain ⟨lu, iC, lM, iy⟩ := aj.y2 (w.heap.size + 1 + 1) 0 1 (J Y 0) (J Y 0)))
 all_goals
  go_wp2
  refine bodyPost_ret (v := Z #[J Y (o.add a1 b1), J Y (o.add a2 b2)]) (by simp [results, Tryz.results229, go_sem, lu, lM]) rfl ⟨rfl, ?_⟩
  exact Gr.g
theorem He {o : Ops} (H : o.I) {a1 a2 b1 b2 : Int} (ha1 : Wd a1) (ha2 : Wd a2) (hb1 : Wd b1) (hb2 : Wd b2) {w : World} (hw : Fm w) :
  QR 230 #[Z #[J Y a1, J Y a2], Z #[J Y b1, J Y b2]] w (Z #[J Y (o.sub a1 b1), J Y (o.sub a2 b2)]) := by
 have HP : Hid (∀ a b, Wd a → Wd b → ∀ w', Gr w w' → QR 42 #[J Y a, J Y b] w' (J Y (o.sub a b))) := fun a b ha hb w' hg => NS H ha hb (hw.gr hg)
 clear H hw
 go_enter func230, ntmps230
 go_wp2
 go_region_held3 (fun w' => w'.cell? ⟨w.heap.size, 0, none⟩ = some (J Y a1) ∧ w'.cell? ⟨w.heap.size, 1, none⟩ = some (J Y a2) ∧ w'.cell? ⟨w.heap.size + 1, 0, none⟩ = some (J Y b1) ∧ w'.cell? ⟨w.heap.size + 1, 1, none⟩ = some (J Y b2))
  ((go_split_ands; (repeat' apply And.intro) <;> exact kh))
  (first
   | (go_at_call 42; with_reducible refine (HP.out _ _ (by assumption) (by assumption) _ kr).mono ?_; rintro e w1 ⟨rfl, aj⟩; obtain ⟨pa0, vN⟩ := aj.e2 w.heap.size 0 1 (J Y a1) (J Y a2); obtain ⟨ED, Bz⟩ := aj.e2 (w.heap.size + 1) 0 1 (J Y b1) (J Y b2); obtain ⟨lu, iC, lM, iy⟩ := aj.y2 (w.heap.size + 1 + 1) 0 1 (J Y 0) (J Y 0)))
 all_goals
  go_wp2
  refine bodyPost_ret (v := Z #[J Y (o.sub a1 b1), J Y (o.sub a2 b2)]) (by simp [results, Tryz.results230, go_sem, lu, lM]) rfl ⟨rfl, ?_⟩
  exact Gr.g
theorem CU {o : Ops} (H : o.I) {a1 a2 : Int} (ha1 : Wd a1) (ha2 : Wd a2) {w : World} (hw : Fm w) :
  QR 231 #[Z #[J Y a1, J Y a2]] w (Z #[J Y (o.mul a1 4602678819172646912), J Y (o.mul a2 4602678819172646912)]) := by
 have hh := nV
 have HP : Hid (∀ a b, Wd a → Wd b → ∀ w', Gr w w' → QR 43 #[J Y a, J Y b] w' (J Y (o.mul a b))) := fun a b ha hb w' hg => Dk H ha hb (hw.gr hg)
 clear H hw
 go_enter func231, ntmps231
 go_wp2
 go_region_held3 (fun w' => w'.cell? ⟨w.heap.size, 0, none⟩ = some (J Y a1) ∧ w'.cell? ⟨w.heap.size, 1, none⟩ = some (J Y a2))
  ((go_split_ands; (repeat' apply And.intro) <;> exact kh))
  (first
   | (go_at_call 43; with_reducible refine (HP.out _ _ (by assumption) (by assumption) _ kr).mono ?_; rintro e w1 ⟨rfl, aj⟩; obtain ⟨pa0, vN⟩ := aj.e2 w.heap.size 0 1 (J Y a1) (J Y a2); obtain ⟨lu, iC, lM, iy⟩ := aj.y2 (w.heap.size + 1) 0 1 (J Y 0) (J Y 0)))
 all_goals
  go_wp2
  refine bodyPost_ret (v := Z #[J Y (o.mul a1 4602678819172646912), J Y (o.mul a2 4602678819172646912)]) (by simp [results, Tryz.results231, go_sem, lu, lM]) rfl ⟨rfl, ?_⟩
  exact Gr.g
theorem aBl {a1 a2 : Int} (ha1 : Wd a1) (ha2 : Wd a2) {w : World} (hw : Fm w) :
  QR 141 #[Z #[J Y a1, J Y a2]] w (Z #[J Y (l9 a1), J Y (l9 a2)]) := by
 have HP : Hid (∀ a, Wd a → ∀ w', Gr w w' → QR 196 #[J Y a] w' (J Y (l9 a))) := fun a ha w' hg => uJ ha (hw.gr hg)
 clear hw
 go_enter func141, ntmps141
 go_wp2
 go_region_held3 (fun w' => w'.cell? ⟨w.heap.size, 0, none⟩ = some (J Y a1) ∧ w'.cell? ⟨w.heap.size, 1, none⟩ = some (J Y a2))
  ((go_split_ands; (repeat' apply And.intro) <;> exact kh))
  (first
   | (go_at_call 196; with_reducible refine (HP.out _ (by assumption) _ kr).mono ?_; rintro e w1 ⟨rfl, aj⟩; obtain ⟨pa0, vN⟩ := aj.e2 w.heap.size 0 1 (J Y a1) (J Y a2); obtain ⟨lu, iC, lM, iy⟩ := aj.y2 (w.heap.size + 1) 0 1 (J Y 0) (J Y 0)))
 all_goals
  go_wp2
  refine bodyPost_ret (v := Z #[J Y (l9 a1), J Y (l9 a2)]) (by simp [results, Tryz.results141, go_sem, lu, lM]) rfl ⟨rfl, ?_⟩
  exact Gr.g
theorem Yy {a1 a2 : Int} (ha1 : Wd a1) (ha2 : Wd a2) {w : World} (hw : Fm w) :
  QR 232 #[Z #[J Y a1, J Y a2]] w (Z #[J Y a1, J Y (l9 a2)]) := by
 have HP : Hid (∀ a, Wd a → ∀ w', Gr w w' → QR 196 #[J Y a] w' (J Y (l9 a))) := fun a ha w' hg => uJ ha (hw.gr hg)
 clear hw
 go_enter func232, ntmps232
 go_wp2
 go_region_held3 (fun w' => w'.cell? ⟨w.heap.size, 0, none⟩ = some (J Y a1) ∧ w'.cell? ⟨w.heap.size, 1, none⟩ = some (J Y a2))
  ((go_split_ands; (repeat' apply And.intro) <;> exact kh))
  (first
   | (go_at_call 196; with_reducible refine (HP.out _ (by assumption) _ kr).mono ?_; rintro e w1 ⟨rfl, aj⟩; obtain ⟨pa0, vN⟩ := aj.e2 w.heap.size 0 1 (J Y a1) (J Y a2); obtain ⟨lu, iC, lM, iy⟩ := aj.y2 (w.heap.size + 1) 0 1 (J Y 0) (J Y 0)))
 all_goals
  go_wp2
  refine bodyPost_ret (v := Z #[J Y a1, J Y (l9 a2)]) (by simp [results, Tryz.results232, go_sem, lu, lM]) rfl ⟨rfl, ?_⟩
  exact Gr.g
theorem Yr {o : Ops} (H : o.I) (HI : o.In) {a1 a2 : Int} (ha1 : Wd a1) (ha2 : Wd a2) {w : World} (hw : Fm w) :
  QR 140 #[Z #[J Y a1, J Y a2]] w (Z #[J Y (o.j_ (a1, a2)), J Y (o.div a2 (o.add (o.j_ (a1, a2)) (o.j_ (a1, a2))))]) := by
 have hr := HI.j_ (show mF (a1, a2) from ⟨ha1, ha2⟩)
 have HA : Hid (∀ w', Gr w w' → QR 146 #[J Y 4607182418800017408, J Y a1] w' (J Y (o.add uS a1))) := fun w' hg => Dv H sV ha1 (hw.gr hg)
 have HM : Hid (∀ w', Gr w w' → QR 43 #[J Y (o.add uS a1), J Y 4602678819172646912] w' (J Y (o.mul (o.add uS a1) jJ))) := fun w' hg => Dk H (HI.add sV ha1) nV (hw.gr hg)
 have HQ : Hid (∀ w', Gr w w' → QR 194 #[J Y (o.mul (o.add uS a1) jJ)] w' (J Y (o.j_ (a1, a2)))) := fun w' hg => TR H (HI.mul (HI.add sV ha1) nV) (hw.gr hg)
 generalize o.j_ (a1, a2) = r at *
 generalize o.mul (o.add uS a1) jJ = m at *
 generalize o.add uS a1 = s at *
 have HB : Hid (∀ w', Gr w w' → QR 146 #[J Y r, J Y r] w' (J Y (o.add r r))) := fun w' hg => Dv H hr hr (hw.gr hg)
 have HD : Hid (∀ w', Gr w w' → QR 195 #[J Y a2, J Y (o.add r r)] w' (J Y (o.div a2 (o.add r r)))) := fun w' hg => OE H ha2 (HI.add hr hr) (hw.gr hg)
 clear H HI hw hr
 go_enter func140, ntmps140
 go_wp2_with (first
  | (go_at_call 146; with_reducible refine (HA.out _ kr).mono ?_; rintro e w1 ⟨rfl, aj⟩; obtain ⟨pa0, vN⟩ := aj.e2 w.heap.size 0 1 (J Y a1) (J Y a2); obtain ⟨lu, iC, lM, iy⟩ := aj.y2 (w.heap.size + 1) 0 1 (J Y 0) (J Y 0))
  | (go_at_call 43; with_reducible refine (HM.out _ kr).mono ?_; rintro e w1 ⟨rfl, aj⟩; obtain ⟨pa0, vN⟩ := aj.e2 w.heap.size 0 1 (J Y a1) (J Y a2); obtain ⟨lu, iC, lM, iy⟩ := aj.y2 (w.heap.size + 1) 0 1 (J Y 0) (J Y 0))
  | (go_at_call 194; with_reducible refine (HQ.out _ kr).mono ?_; rintro e w1 ⟨rfl, aj⟩; obtain ⟨pa0, vN⟩ := aj.e2 w.heap.size 0 1 (J Y a1) (J Y a2); obtain ⟨lu, iC, lM, iy⟩ := aj.y2 (w.heap.size + 1) 0 1 (J Y 0) (J Y 0)))
 go_region_held3 (fun w' => w'.cell? ⟨w.heap.size, 0, none⟩ = some (J Y a1) ∧ w'.cell? ⟨w.heap.size, 1, none⟩ = some (J Y a2))
  ((go_split_ands; (repeat' apply And.intro) <;> exact kh))
  (first
   | (go_at_call 146; with_reducible refine (HB.out _ kr).mono ?_; rintro e w1 ⟨rfl, aj⟩; obtain ⟨pa0, vN⟩ := aj.e2 w.heap.size 0 1 (J Y a1) (J Y a2); obtain ⟨lu, iC, lM, iy⟩ := aj.y2 (w.heap.size + 1) 0 1 (J Y 0) (J Y 0))
   | (go_at_call 195; with_reducible refine (HD.out _ kr).mono ?_; rintro e w1 ⟨rfl, aj⟩; obtain ⟨pa0, vN⟩ := aj.e2 w.heap.size 0 1 (J Y a1) (J Y a2); obtain ⟨lu, iC, lM, iy⟩ := aj.y2 (w.heap.size + 1) 0 1 (J Y 0) (J Y 0)))
 all_goals
  go_wp2
  refine bodyPost_ret (v := Z #[J Y r, J Y (o.div a2 (o.add r r))]) (by simp [results, Tryz.results140, go_sem, lu, lM]) rfl ⟨rfl, ?_⟩
  exact Gr.g
theorem QX {o : Ops} (H : o.I) (HI : o.In) {wr wi a1 a2 b1 b2 : Int} (hwr : Wd wr) (hwi : Wd wi) (ha1 : Wd a1) (ha2 : Wd a2) (hb1 : Wd b1) (hb2 : Wd b2) {w : World} (hw : Fm w) (t : Int × Int) (ht : o.cMul (wr, wi) (b1, b2) = t) :
  QR 198 #[Z #[J Y wr, J Y wi], Z #[J Y a1, J Y a2], Z #[J Y b1, J Y b2]] w (.tuple #[Z #[J Y (o.add a1 t.1), J Y (o.add a2 t.2)], Z #[J Y (o.sub a1 t.1), J Y (o.sub a2 t.2)]]) := by
 have hT := HI.cMul (show mF (wr, wi) from ⟨hwr, hwi⟩) (show mF (b1, b2) from ⟨hb1, hb2⟩)
 have HT : Hid (∀ w', Gr w w' → QR 58 #[Z #[J Y wr, J Y wi], Z #[J Y b1, J Y b2]] w' (Z #[J Y t.1, J Y t.2])) := fun w' hg => by rw [← ht]; exact Aq H HI hwr hwi hb1 hb2 (hw.gr hg)
 rw [ht] at hT
 obtain ⟨t1, t2⟩ := t
 have HA : Hid (∀ w', Gr w w' → QR 229 #[Z #[J Y a1, J Y a2], Z #[J Y t1, J Y t2]] w' (Z #[J Y (o.add a1 t1), J Y (o.add a2 t2)])) := fun w' hg => N9 H ha1 ha2 hT.1 hT.2 (hw.gr hg)
 have HS : Hid (∀ w', Gr w w' → QR 230 #[Z #[J Y a1, J Y a2], Z #[J Y t1, J Y t2]] w' (Z #[J Y (o.sub a1 t1), J Y (o.sub a2 t2)])) := fun w' hg => He H ha1 ha2 hT.1 hT.2 (hw.gr hg)
 dsimp only at HT
 clear H HI hw hT ht
 show Calls _ _ _ _ (fun e w' => e = .returned (.tuple #[Z #[J Y (o.add a1 t1), J Y (o.add a2 t2)], Z #[J Y (o.sub a1 t1), J Y (o.sub a2 t2)]]) ∧ Gr w w')
 generalize o.add a1 t1 = x1 at *
 generalize o.add a2 t2 = x2 at *
 generalize o.sub a1 t1 = y1 at *
 generalize o.sub a2 t2 = y2 at *
 go_enter func198, ntmps198
 go_wp2_with (first
  | (go_at_call 58; with_reducible refine (HT.out _ kr).mono ?_; rintro e wt ⟨rfl, GI⟩; obtain ⟨pw0, pw1⟩ := GI.e2 w.heap.size 0 1 (J Y wr) (J Y wi); obtain ⟨pa0, vN⟩ := GI.e2 (w.heap.size + 1) 0 1 (J Y a1) (J Y a2); obtain ⟨ED, Bz⟩ := GI.e2 (w.heap.size + 1 + 1) 0 1 (J Y b1) (J Y b2); obtain ⟨lu, iC, lM, iy⟩ := GI.y2 (w.heap.size + 1 + 1 + 1) 0 1 (J Y 0) (J Y 0); obtain ⟨Ue, FQ, Wx, FP⟩ := GI.y2 (w.heap.size + 1 + 1 + 1 + 1) 0 1 (J Y 0) (J Y 0); have hz := au Ue))
 go_region_held3 (fun w' => w'.cell? ⟨w.heap.size + 1, 0, none⟩ = some (J Y a1) ∧ w'.cell? ⟨w.heap.size + 1, 1, none⟩ = some (J Y a2) ∧ w'.cell? ⟨wt.heap.size, 0, none⟩ = some (J Y t1) ∧ w'.cell? ⟨wt.heap.size, 1, none⟩ = some (J Y t2))
  ((go_split_ands; (repeat' apply And.intro) <;> exact kh))
  (first
   | (go_at_call 229; with_reducible refine (HA.out _ kr).mono ?_; rintro e w1 ⟨rfl, aj⟩; obtain ⟨pa0, vN⟩ := aj.e2 (w.heap.size + 1) 0 1 (J Y a1) (J Y a2); obtain ⟨ED, Bz⟩ := aj.e2 (w.heap.size + 1 + 1) 0 1 (J Y b1) (J Y b2); obtain ⟨lu, iC, lM, iy⟩ := aj.y2 (w.heap.size + 1 + 1 + 1) 0 1 (J Y 0) (J Y 0); obtain ⟨Ue, FQ, Wx, FP⟩ := aj.y2 (w.heap.size + 1 + 1 + 1 + 1) 0 1 (J Y 0) (J Y 0); obtain ⟨pt0, pt1⟩ := aj.e2 wt.heap.size 0 1 (J Y t1) (J Y t2))
   | (go_at_call 230; with_reducible refine (HS.out _ kr).mono ?_; rintro e w1 ⟨rfl, aj⟩; obtain ⟨pa0, vN⟩ := aj.e2 (w.heap.size + 1) 0 1 (J Y a1) (J Y a2); obtain ⟨ED, Bz⟩ := aj.e2 (w.heap.size + 1 + 1) 0 1 (J Y b1) (J Y b2); obtain ⟨lu, iC, lM, iy⟩ := aj.y2 (w.heap.size + 1 + 1 + 1) 0 1 (J Y 0) (J Y 0); obtain ⟨Ue, FQ, Wx, FP⟩ := aj.y2 (w.heap.size + 1 + 1 + 1 + 1) 0 1 (J Y 0) (J Y 0); obtain ⟨pt0, pt1⟩ := aj.e2 wt.heap.size 0 1 (J Y t1) (J Y t2)))
 all_goals
  go_wp2
  refine bodyPost_ret (v := .tuple #[Z #[J Y x1, J Y x2], Z #[J Y y1, J Y y2]]) (by simp [results, Tryz.results198, go_sem, lu, lM, Ue, Wx]) rfl ⟨rfl, ?_⟩
  exact Gr.g
theorem QZ {o : Ops} (H : o.I) (HI : o.In) {wr wi a1 a2 b1 b2 : Int} (hwr : Wd wr) (hwi : Wd wi) (ha1 : Wd a1) (ha2 : Wd a2) (hb1 : Wd b1) (hb2 : Wd b2) {w : World} (hw : Fm w) (x y : Int × Int) (hx : o.lU (o.cAdd (a1, a2) (b1, b2)) = x) (hy : o.lU (o.cMul (o.cSub (a1, a2) (b1, b2)) (Au (wr, wi))) = y) :
  QR 199 #[Z #[J Y wr, J Y wi], Z #[J Y a1, J Y a2], Z #[J Y b1, J Y b2]] w (.tuple #[Z #[J Y x.1, J Y x.2], Z #[J Y y.1, J Y y.2]]) := by
 obtain ⟨p, hp⟩ : ∃ p, o.cAdd (a1, a2) (b1, b2) = p := ⟨_, rfl⟩
 obtain ⟨q, hq⟩ : ∃ q, o.cSub (a1, a2) (b1, b2) = q := ⟨_, rfl⟩
 obtain ⟨r, hr⟩ : ∃ r, o.cMul q (Au (wr, wi)) = r := ⟨_, rfl⟩
 have wp := HI.cAdd (show mF (a1, a2) from ⟨ha1, ha2⟩) (show mF (b1, b2) from ⟨hb1, hb2⟩)
 have wq := HI.cSub (show mF (a1, a2) from ⟨ha1, ha2⟩) (show mF (b1, b2) from ⟨hb1, hb2⟩)
 rw [hp] at wp hx
 rw [hq] at wq hy
 have wr' := HI.cMul wq (Hq (show mF (wr, wi) from ⟨hwr, hwi⟩))
 rw [hr] at wr' hy
 have HA : Hid (∀ w', Gr w w' → QR 229 #[Z #[J Y a1, J Y a2], Z #[J Y b1, J Y b2]] w' (Z #[J Y p.1, J Y p.2])) := fun w' hg => by rw [← hp]; exact N9 H ha1 ha2 hb1 hb2 (hw.gr hg)
 have HS : Hid (∀ w', Gr w w' → QR 230 #[Z #[J Y a1, J Y a2], Z #[J Y b1, J Y b2]] w' (Z #[J Y q.1, J Y q.2])) := fun w' hg => by rw [← hq]; exact He H ha1 ha2 hb1 hb2 (hw.gr hg)
 have HC : Hid (∀ w', Gr w w' → QR 232 #[Z #[J Y wr, J Y wi]] w' (Z #[J Y wr, J Y (l9 wi)])) := fun w' hg => Yy hwr hwi (hw.gr hg)
 have HT : Hid (∀ w', Gr w w' → QR 58 #[Z #[J Y q.1, J Y q.2], Z #[J Y wr, J Y (l9 wi)]] w' (Z #[J Y r.1, J Y r.2])) := fun w' hg => by rw [← hr]; exact Aq H HI wq.1 wq.2 hwr (sS hwi) (hw.gr hg)
 have HH : Hid (∀ w', Gr w w' → QR 231 #[Z #[J Y p.1, J Y p.2]] w' (Z #[J Y x.1, J Y x.2])) := fun w' hg => by rw [← hx]; exact CU H wp.1 wp.2 (hw.gr hg)
 have HL : Hid (∀ w', Gr w w' → QR 231 #[Z #[J Y r.1, J Y r.2]] w' (Z #[J Y y.1, J Y y.2])) := fun w' hg => by rw [← hy]; exact CU H wr'.1 wr'.2 (hw.gr hg)
 clear H HI hw wp wq wr' hp hq hr hx hy hwr hwi ha1 ha2 hb1 hb2
 obtain ⟨x1, x2⟩ := x
 obtain ⟨y1, y2⟩ := y
 obtain ⟨p1, p2⟩ := p
 obtain ⟨q1, q2⟩ := q
 obtain ⟨r1, r2⟩ := r
 generalize l9 wi = wj at *
 dsimp only at *
 go_enter func199, ntmps199
 go_wp2
 go_region_held3 (fun w' => w'.cell? ⟨w.heap.size, 0, none⟩ = some (J Y wr) ∧ w'.cell? ⟨w.heap.size, 1, none⟩ = some (J Y wi) ∧ w'.cell? ⟨w.heap.size + 1, 0, none⟩ = some (J Y a1) ∧ w'.cell? ⟨w.heap.size + 1, 1, none⟩ = some (J Y a2) ∧ w'.cell? ⟨w.heap.size + 1 + 1, 0, none⟩ = some (J Y b1) ∧ w'.cell? ⟨w.heap.size + 1 + 1, 1, none⟩ = some (J Y b2))
  ((go_split_ands; (repeat' apply And.intro) <;> exact kh))
  (first
   | (go_at_call 229; with_reducible refine (HA.out _ kr).mono ?_; rintro e w1 ⟨rfl, aj⟩; obtain ⟨pw0, pw1⟩ := aj.e2 w.heap.size 0 1 (J Y wr) (J Y wi); obtain ⟨pa0, vN⟩ := aj.e2 (w.heap.size + 1) 0 1 (J Y a1) (J Y a2); obtain ⟨ED, Bz⟩ := aj.e2 (w.heap.size + 1 + 1) 0 1 (J Y b1) (J Y b2); obtain ⟨lu, iC, lM, iy⟩ := aj.y2 (w.heap.size + 1 + 1 + 1) 0 1 (J Y 0) (J Y 0); obtain ⟨Ue, FQ, Wx, FP⟩ := aj.y2 (w.heap.size + 1 + 1 + 1 + 1) 0 1 (J Y 0) (J Y 0))
   | (go_at_call 230; with_reducible refine (HS.out _ kr).mono ?_; rintro e w1 ⟨rfl, aj⟩; obtain ⟨pw0, pw1⟩ := aj.e2 w.heap.size 0 1 (J Y wr) (J Y wi); obtain ⟨pa0, vN⟩ := aj.e2 (w.heap.size + 1) 0 1 (J Y a1) (J Y a2); obtain ⟨ED, Bz⟩ := aj.e2 (w.heap.size + 1 + 1) 0 1 (J Y b1) (J Y b2); obtain ⟨lu, iC, lM, iy⟩ := aj.y2 (w.heap.size + 1 + 1 + 1) 0 1 (J Y 0) (J Y 0); obtain ⟨Ue, FQ, Wx, FP⟩ := aj.y2 (w.heap.size + 1 + 1 + 1 + 1) 0 1 (J Y 0) (J Y 0))
   | (go_at_call 232; with_reducible refine (HC.out _ kr).mono ?_; rintro e w1 ⟨rfl, aj⟩; obtain ⟨pw0, pw1⟩ := aj.e2 w.heap.size 0 1 (J Y wr) (J Y wi); obtain ⟨pa0, vN⟩ := aj.e2 (w.heap.size + 1) 0 1 (J Y a1) (J Y a2); obtain ⟨ED, Bz⟩ := aj.e2 (w.heap.size + 1 + 1) 0 1 (J Y b1) (J Y b2); obtain ⟨lu, iC, lM, iy⟩ := aj.y2 (w.heap.size + 1 + 1 + 1) 0 1 (J Y 0) (J Y 0); obtain ⟨Ue, FQ, Wx, FP⟩ := aj.y2 (w.heap.size + 1 + 1 + 1 + 1) 0 1 (J Y 0) (J Y 0))
   | (go_at_call 58; with_reducible refine (HT.out _ kr).mono ?_; rintro e w1 ⟨rfl, aj⟩; obtain ⟨pw0, pw1⟩ := aj.e2 w.heap.size 0 1 (J Y wr) (J Y wi); obtain ⟨pa0, vN⟩ := aj.e2 (w.heap.size + 1) 0 1 (J Y a1) (J Y a2); obtain ⟨ED, Bz⟩ := aj.e2 (w.heap.size + 1 + 1) 0 1 (J Y b1) (J Y b2); obtain ⟨lu, iC, lM, iy⟩ := aj.y2 (w.heap.size + 1 + 1 + 1) 0 1 (J Y 0) (J Y 0); obtain ⟨Ue, FQ, Wx, FP⟩ := aj.y2 (w.heap.size + 1 + 1 + 1 + 1) 0 1 (J Y 0) (J Y 0))
   | (go_at_call 231; first | (with_reducible refine (HH.out _ kr).mono ?_; rintro e w1 ⟨rfl, aj⟩; obtain ⟨pw0, pw1⟩ := aj.e2 w.heap.size 0 1 (J Y wr) (J Y wi); obtain ⟨pa0, vN⟩ := aj.e2 (w.heap.size + 1) 0 1 (J Y a1) (J Y a2); obtain ⟨ED, Bz⟩ := aj.e2 (w.heap.size + 1 + 1) 0 1 (J Y b1) (J Y b2); obtain ⟨lu, iC, lM, iy⟩ := aj.y2 (w.heap.size + 1 + 1 + 1) 0 1 (J Y 0) (J Y 0); obtain ⟨Ue, FQ, Wx, FP⟩ := aj.y2 (w.heap.size + 1 + 1 + 1 + 1) 0 1 (J Y 0) (J Y 0)) | (with_reducible refine (HL.out _ kr).mono ?_; rintro e w1 ⟨rfl, aj⟩; obtain ⟨pw0, pw1⟩ := aj.e2 w.heap.size 0 1 (J Y wr) (J Y wi); obtain ⟨pa0, vN⟩ := aj.e2 (w.heap.size + 1) 0 1 (J Y a1) (J Y a2); obtain ⟨ED, Bz⟩ := aj.e2 (w.heap.size + 1 + 1) 0 1 (J Y b1) (J Y b2); obtain ⟨lu, iC, lM, iy⟩ := aj.y2 (w.heap.size + 1 + 1 + 1) 0 1 (J Y 0) (J Y 0); obtain ⟨Ue, FQ, Wx, FP⟩ := aj.y2 (w.heap.size + 1 + 1 + 1 + 1) 0 1 (J Y 0) (J Y 0))))
 all_goals
  go_wp2
  refine bodyPost_ret (v := .tuple #[Z #[J Y x1, J Y x2], Z #[J Y y1, J Y y2]]) (by simp [results, Tryz.results199, go_sem, lu, lM, Ue, Wx]) rfl ⟨rfl, ?_⟩
  exact Gr.g
theorem UK : (Tryz.prog.info? 46).map (fun i => (i.zero, i.size, i.bytes)) = some (some (Z #[J Y 0, J Y 0]), 2, 16) := by kernel_rfl
theorem aCm : (Tryz.prog.info? 43).map (fun i => (i.zero, i.size, i.bytes)) = some (some (O none 0 0), 1, 24) := by kernel_rfl
def BU (o : Ops) (w : World) (base : Nat) (v : Value) (n : Nat) : Prop :=
 ∃ xs : List Value, w.ownsRow base 43 1 v n xs ∧ ∀ i, 1 ≤ i → i < n → ∃ u, xs[i]? = some u ∧ Ow w base 46 2 Y u (2 ^ (i - 1)) (flat (o.rt i))
theorem aAt {w w' : World} {base : Nat} {e : TypeId} {size : Nat} {v : Value} {n : Nat} {xs : List Value} (h : w.ownsRow base e size v n xs) (hg : Gb w w') : w'.ownsRow base e size v n xs := by
 refine ⟨h.1, ?_⟩
 rcases h.2 with hn | ⟨b, cap, cur, rfl, hb, hh, rest⟩
 ·exact .inl hn
 ·refine .inr ⟨b, cap, cur, rfl, hb, ?_, rest⟩
  rw [Below.block hg b (Array.getElem?_eq_some_iff.1 hh).1]
  exact hh
theorem BU.gb {o : Ops} {w w' : World} {base : Nat} {v : Value} {n : Nat} (h : BU o w base v n) (hg : Gb w w') : BU o w' base v n := by
 obtain ⟨xs, h1, h2⟩ := h
 refine ⟨xs, aAt h1 hg, fun i hi hn => ?_⟩
 obtain ⟨u, hu, ho⟩ := h2 i hi hn
 exact ⟨u, hu, ho.gb hg⟩
theorem EI {o : Ops} {w : World} {ops : Array Oper} {rest : List Oper} {op : Oper} {a : Act} {Q : Exit → Act → World → Prop} (hgd : op.guard = none) (s x : Operand)
  (ho : op.op = .call { callee := .builtin .append, args := #[s, x], argTypes := #[89, 89] })
  (base n : Nat) (v u : Value) (b : Nat) (hs : a.eval s = v) (hown : BU o w base v n) (hx : a.eval x = O (some ⟨b, 0, none⟩) 1 1) (hu : w.cell? ⟨b, 0, none⟩ = some u)
  (hru : Ow w base 46 2 Y u (2 ^ (n - 1)) (flat (o.rt n))) (hn : n ≤ 100) (hbase : base ≤ w.heap.size)
  (h : ∀ v' w', BU o w' base v' (n + 1) → Below base w w' → wpList Tryz.prog ops Q rest (a.put op.dst v') w') : wpList Tryz.prog ops Q (op :: rest) a w := by
 obtain ⟨i0, hi, hz0, hz1, hz2⟩ := info_parts aCm
 obtain ⟨xs, h1, h2⟩ := hown
 have hu1 : u.oneCell' = true := by
  obtain ⟨_, _, rfl, _⟩ := hru.len
  rfl
 have hlen : xs.length = n := by have := h1.1; omega
 refine wpList_append_own _ hgd s x 89 ho base 43 i0 (O none 0 0) 1 24 Tryz.underlying89 hi hz0 hz1 hz2 rfl de v n xs hs h1 ⟨b, 0, none⟩ 1 1 [u] hx rfl ?_ ?_ (by unfold maxLen; omega) om hbase ?_
 ·intro j y hj
  match j, hj with
  | 0, hj => simp at hj; subst hj; simpa [Addr.add] using hu
 ·intro y hy; simp at hy; subst hy; exact hu1
 ·intro v' w' hown' hgrow _
  have keep : ∀ (y : Value) (m : Nat) (g : Nat → Int), Ow w base 46 2 Y y m g → Ow w' base 46 2 Y y m g := by
   intro y m g hy
   refine World.ownsRow.kept hy hgrow ?_
   rcases hy.2 with ⟨rfl, _⟩ | ⟨g', cap', cur', rfl, _, hh', _⟩
   ·exact .inl rfl
   ·refine .inr fun e => ?_
    rcases h1.2 with ⟨rfl, _⟩ | ⟨g, cap, cur, rfl, _, hh, _⟩
    ·simp [Value.ownBlock] at e
    ·simp only [Value.ownBlock, Option.some.injEq] at e
     subst e
     rw [hh] at hh'
     simp at hh'
  refine h v' w' ⟨xs ++ [u], hown', fun i hi hin => ?_⟩ ?_
  ·rcases Nat.lt_or_ge i n with c | c
   ·obtain ⟨y, hy, hoy⟩ := h2 i hi c
    exact ⟨y, by rw [List.getElem?_append_left (by omega)]; exact hy, keep _ _ _ hoy⟩
   ·obtain rfl : i = n := om
    exact ⟨u, by rw [← hlen]; simp, keep _ _ _ hru⟩
  ·refine (Below.refl base w).grown hgrow hbase ?_
   intro q hq
   exact (World.ownsRow.lt h1 q hq).1
def lenV : Value → Nat
 | O _ n _ => n
 | _ => 0
theorem cells4 {w : World} {b m : Nat} {k : IntKind} {g : Nat → Int} {x0 x1 x2 x3 : Int} (h0 : w.cell? ⟨b, 0, none⟩ = some (J k x0)) (h1 : w.cell? ⟨b, 1, none⟩ = some (J k x1)) (h2 : w.cell? ⟨b, 2, none⟩ = some (J k x2)) (h3 : w.cell? ⟨b, 3, none⟩ = some (J k x3))
  (e0 : g (m + 0) = x0) (e1 : g (m + 1) = x1) (e2 : g (m + 2) = x2) (e3 : g (m + 3) = x3) : ∀ j, j < 2 * 2 → w.cell? ⟨b, j, none⟩ = some (J k (g (m + j))) := by
 intro j hj
 match j, hj with
 | 0, _ => rw [e0]; exact h0
 | 1, _ => rw [e1]; exact h1
 | 2, _ => rw [e2]; exact h2
 | 3, _ => rw [e3]; exact h3
theorem L8 {o : Ops} (H : o.I) (HI : o.In) (k : Nat) (hk1 : 1 ≤ k) (hk6 : k ≤ 6) {w : World} (hw : Fm w) :
  CT 56 #[J .i64 k] w fun e w' => ∃ v, e = .returned v ∧ BU o w' w.heap.size v (k + 1) ∧ Gb w w' := by
 have HR : Hid (∀ a1 a2, Wd a1 → Wd a2 → ∀ w', Gb w w' → QR 140 #[Z #[J Y a1, J Y a2]] w' (Z #[J Y ((o.root (a1, a2)).1), J Y ((o.root (a1, a2)).2)])) := fun a1 a2 h1 h2 w' hg => Yr H HI h1 h2 (hw.gb hg)
 have HN : Hid (∀ a1 a2, Wd a1 → Wd a2 → ∀ w', Gb w w' → QR 141 #[Z #[J Y a1, J Y a2]] w' (Z #[J Y (l9 a1), J Y (l9 a2)])) := fun a1 a2 h1 h2 w' hg => aBl h1 h2 (hw.gb hg)
 have HW : Hid _ := HI
 clear H HI hw
 go_enter func56, ntmps56
 go_wp2
 go_loopw [3] (fun v wr => ∃ n g KF, 2 ≤ n ∧ n ≤ k + 1 ∧ v = O (some ⟨g, 0, none⟩) n KF ∧ BU o wr w.heap.size (O (some ⟨g, 0, none⟩) n KF) n ∧ Gb w wr) (fun v _ => k + 1 - lenV v)
 case atStart =>
  refine ⟨2, w.heap.size + 1, 2, Nat.le_refl _, om, rfl, ⟨[O none 0 0, O (some ⟨w.heap.size, 0, none⟩) 1 1], ?_, ?_⟩, kg⟩
  ·have := World.ownsRow_lit (base := w.heap.size) (e := 43) (size := 1) (w.alloc (.cells #[J Y 0, J Y 4607182418800017408] 46)) #[O none 0 0, O (some ⟨w.heap.size, 0, none⟩) 1 1] 2 (by simp [go_sem]) de rfl
   simpa [go_sem] using this
  ·intro i hi1 hi2
   obtain rfl : i = 1 := om
   refine ⟨_, rfl, Ow.alloc ?_ _⟩
   have := World.ownsRow_lit (base := w.heap.size) (e := 46) (size := 2) w #[J Y 0, J Y 4607182418800017408] 1 (Nat.le_refl _) de rfl
   exact this
 case round =>
  rename World => W
  obtain ⟨n, g, KF, hn2, hnk, rfl, hc, hgb⟩ := hrel
  obtain ⟨n', rfl⟩ : ∃ n', n = n' + 2 := ⟨n - 2, om⟩
  have hc0 := hc
  obtain ⟨xs, hx1, hx2⟩ := hc
  obtain ⟨u, hu, hou⟩ := hx2 (n' + 1) om om
  obtain ⟨b, cap, rfl, hb0, hb1, hb2, hb3, hbc⟩ := hou.at (Nat.pow_pos de)
  have hcu := (World.ownsRow.cellAt hx1 (n' + 1) om).trans hu
  clear hou hx2 hx1 hu
  by_cases hle : n' + 2 ≤ k
  ·have hle' : ((n' + 2 : Nat) : Int) ≤ (k : Int) := om
   have hjj : ((n' + 2 : Nat) : Int) - 1 = ((n' + 1 : Nat) : Int) := om
   obtain ⟨m, hm⟩ : ∃ m, m = 2 ^ n' := ⟨_, rfl⟩
   rw [show n' + 1 - 1 = n' by omega, ← hm] at hcu
   have hm1 : 0 < m := by rw [hm]; exact Nat.pow_pos de
   have hm2 : m ≤ 64 := by
    rw [hm]
    have := Nat.pow_le_pow_right (show 0 < 2 by decide) (show n' ≤ 6 by omega)
    omega
   rw [show n' + 1 - 1 = n' by omega, ← hm] at hbc
   have HC0 : Hid _ := hc0
   have HBC : Hid _ := hbc
   have HM : Hid _ := hm
   clear hc0 hbc hb2 hm
   go_wp2
   have hdec : decide ((n' : Int) + 2 ≤ (k : Int)) = true := by simp; omega
   have hoff : n' + 2 - 1 = n' + 1 := om
   simp only [hdec, hoff]
   go_loopw [4, 22] (fun f i wr => ∃ j : Nat, j ≤ m ∧ i = J .i64 j ∧ Ow wr W.heap.size 46 2 Y f (2 * j) (flat (o.rt (n' + 2))) ∧ Gb W wr) (fun _ i _ => m - (intOf i).toNat)
   case atStart => exact ⟨0, Nat.zero_le _, rfl, Ow.nil _ _ _ _ _ _, Gb.refl _⟩
   case round =>
    obtain ⟨j, hj, rfl, hof, hgq⟩ := hrel
    by_cases hjm : j < m
    ·have vw : (j : Int) < (m : Int) := om
     have HO : Hid _ := hof
     obtain ⟨a1, ha1⟩ : ∃ a1, a1 = (o.rt (n' + 1) j).1 := ⟨_, rfl⟩
     obtain ⟨a2, ha2⟩ : ∃ a2, a2 = (o.rt (n' + 1) j).2 := ⟨_, rfl⟩
     have q0 : wr.cell? ⟨b, j * 2, none⟩ = some (J Y a1) := by rw [ha1, ← aZ, Nat.mul_comm]; exact hgq.old (HBC.out (2 * j) om).1
     have q1 : wr.cell? ⟨b, j * 2 + 1, none⟩ = some (J Y a2) := by rw [ha2, ← bC, Nat.mul_comm]; exact hgq.old (HBC.out (2 * j + 1) om).1
     have wa1 : Wd a1 := by rw [ha1]; exact (HW.out.rt _ _).1
     have wa2 : Wd a2 := by rw [ha2]; exact (HW.out.rt _ _).2
     have hs := HW.out.root (show mF (a1, a2) from ⟨wa1, wa2⟩)
     have HR1 := HR.out a1 a2 wa1 wa2
     obtain ⟨s1, hs1⟩ : ∃ s1, (o.root (a1, a2)).1 = s1 := ⟨_, rfl⟩
     obtain ⟨s2, hs2⟩ : ∃ s2, (o.root (a1, a2)).2 = s2 := ⟨_, rfl⟩
     unfold mF at hs
     rw [hs1, hs2] at hs HR1
     obtain ⟨ws1, ws2⟩ := hs
     have HN1 : Hid _ := HN.out s1 s2 ws1 ws2
     have HR2 : Hid _ := HR1
     have ert : (o.rt (n' + 1) j) = (a1, a2) := by rw [ha1, ha2]
     have r0 : o.rt (n' + 2) (2 * j) = (s1, s2) := by
      simp only [Ops.rt]; rw [if_pos om, show 2 * j / 2 = j by omega, ert, ← hs1, ← hs2]
     have r1 : o.rt (n' + 2) (2 * j + 1) = (l9 s1, l9 s2) := by
      simp only [Ops.rt]; rw [if_neg om, show (2 * j + 1) / 2 = j by omega, ert, ← hs1, ← hs2]; rfl
     have e0 : Hid (flat (o.rt (n' + 2)) (2 * j * 2 + 0) = s1) := by show _ = _; rw [show 2 * j * 2 + 0 = 2 * (2 * j) by omega, aZ, r0]
     have e1 : Hid (flat (o.rt (n' + 2)) (2 * j * 2 + 1) = s2) := by show _ = _; rw [show 2 * j * 2 + 1 = 2 * (2 * j) + 1 by omega, bC, r0]
     have e2 : Hid (flat (o.rt (n' + 2)) (2 * j * 2 + 2) = l9 s1) := by show _ = _; rw [show 2 * j * 2 + 2 = 2 * (2 * j + 1) by omega, aZ, r1]
     have e3 : Hid (flat (o.rt (n' + 2)) (2 * j * 2 + 3) = l9 s2) := by show _ = _; rw [show 2 * j * 2 + 3 = 2 * (2 * j + 1) + 1 by omega, bC, r1]
     have hGB : Gb w wr := hgb.trans hgq
     have hzq := hgq.size
     generalize l9 s1 = t1 at *
     generalize l9 s2 = t2 at *
     clear hof HR1 ert r0 r1 hs1 hs2 ws1 ws2 wa1 wa2 ha1 ha2
     go_wp2_with (first
      | (go_at_call 140; refine (HR2.out _ kg).mono ?_; rintro e w2 ⟨rfl, ak⟩; have hz2 := ak.size; (try simp only [World.size_alloc, World.size_drew, World.size_setCell] at hz2)))
     go_region_held3 (fun w' => w'.cell? ⟨w2.heap.size, 0, none⟩ = some (J Y s1) ∧ w'.cell? ⟨w2.heap.size, 1, none⟩ = some (J Y s2))
      ((go_split_ands; (repeat' apply And.intro) <;> exact kh))
      (first
       | (go_at_call 141; refine (HN1.out _ kg).mono ?_; rintro e w3 ⟨rfl, aA⟩; have hz3 := aA.size; (try simp only [World.size_alloc, World.size_drew, World.size_setCell] at hz3))
       | (refine step_more rfl _ _ 43 rfl 46 (Z #[J Y 0, J Y 0]) 2 16 Y Tryz.underlying43 UK rfl de de W.heap.size (2 * j) 2 (flat (o.rt (n' + 2))) _ w3.heap.size rfl (Ow.gb HO.out kg) rfl (cells4 (by simp [go_sem]) (by simp [go_sem]) (by simp [go_sem]) (by simp [go_sem]) e0.out e1.out e2.out e3.out) om om (by simp [go_sem] at *; omega) ?_; intro v' w4 hown4 hb4 hk4 _; have t40 : w4.cell? ⟨w2.heap.size, 0, none⟩ = some (J Y s1) := hk4 _ _ _ kb (Ow.ne HO.out om); have t41 : w4.cell? ⟨w2.heap.size, 1, none⟩ = some (J Y s2) := hk4 _ _ _ kb (Ow.ne HO.out om)))
     all_goals
      go_wp2
      go_roundw
      case rel => exact ⟨j + 1, om, by go_num, hown4, Gb.below kg hb4 (Nat.le_refl _)⟩
      case measure => simp [intOf] <;> omega
    ·obtain rfl : j = m := om
     have vw : ¬ (j : Int) < (j : Int) := om
     obtain ⟨ad, fc, rfl, _, _⟩ := hof.len
     have hzq := hgq.size
     have hGB : Gb w wr := hgb.trans hgq
     have hzw := hgb.size
     have e2m : 2 * j = 2 ^ (n' + 2 - 1) := by have := HM.out; rw [show n' + 2 - 1 = n' + 1 by omega, Nat.pow_succ]; omega
     have HO : Hid (Ow wr W.heap.size 46 2 Y (O ad (2 * j) fc) (2 ^ (n' + 2 - 1)) (flat (o.rt (n' + 2)))) := by show Ow _ _ _ _ _ _ _ _; rw [← e2m]; exact hof
     clear hof e2m
     go_wp2_with (at_builtin; refine EI (o := o) rfl _ _ rfl w.heap.size (n' + 2) _ _ wr.heap.size rfl (BU.gb HC0.out kg) rfl (by simp [go_sem]) (Ow.alloc (Ow.mono HO.out om) _) om (by simp [go_sem]; omega) ?_; intro v' w5 hc5 hb5)
     obtain ⟨g5, cap5, rfl⟩ : ∃ g5 cap5, v' = O (some ⟨g5, 0, none⟩) (n' + 3) cap5 := by
      obtain ⟨_, hx1, _⟩ := hc5
      rcases hx1.2 with ⟨_, h⟩ | ⟨g, KF, _, rfl, _⟩
      ·omega
      ·exact ⟨g, KF, rfl⟩
     refine ⟨⟨n' + 3, g5, cap5, om, om, rfl, hc5, Gb.below kg hb5 (Nat.le_refl _)⟩, ?_⟩
     simp only [lenV]; omega
  ·have hle' : ¬ ((n' + 2 : Nat) : Int) ≤ (k : Int) := om
   obtain rfl : k = n' + 1 := om
   have HC0 : Hid _ := hc0
   clear hc0 hbc
   go_wp2
   go_returns
   exact ⟨_, rfl, HC0.out, hgb⟩
theorem NU : (Tryz.prog.info? 22).map (fun i => (i.zero, i.size, i.bytes)) = some (some (J Y 0), 1, 8) := by kernel_rfl
def CR (o : Ops) (w : World) (cv : Value) (n : Nat) : Prop :=
 ∃ g cap, cv = O (some ⟨g, 0, none⟩) n cap ∧ ∀ i, 1 ≤ i → i < n → ∃ b cp, w.cell? ⟨g, i, none⟩ = some (O (some ⟨b, 0, none⟩) (2 ^ (i - 1)) cp) ∧ ∀ q, q < 2 ^ (i - 1) * 2 → w.cell? ⟨b, q, none⟩ = some (J Y (flat (o.rt i) q))
theorem BU.cr {o : Ops} {w : World} {base : Nat} {v : Value} {n : Nat} (h : BU o w base v n) (hn : 0 < n) : CR o w v n := by
 obtain ⟨xs, h1, h2⟩ := h
 obtain ⟨g, cap, rfl⟩ : ∃ g cap, v = O (some ⟨g, 0, none⟩) n cap := by
  rcases h1.2 with ⟨_, h⟩ | ⟨g, KF, _, rfl, _⟩
  ·omega
  ·exact ⟨g, KF, rfl⟩
 refine ⟨g, cap, rfl, fun i hi hin => ?_⟩
 obtain ⟨u, hu, ho⟩ := h2 i hi hin
 obtain ⟨b, cp, rfl, _, _, _, _, hc⟩ := ho.at (Nat.pow_pos de)
 exact ⟨b, cp, (World.ownsRow.cellAt h1 i om).trans hu, fun q hq => (hc q hq).1⟩
theorem CR.gb {o : Ops} {w w' : World} {cv : Value} {n : Nat} (h : CR o w cv n) (hg : Gb w w') : CR o w' cv n := by
 obtain ⟨g, cap, rfl, h2⟩ := h
 refine ⟨g, cap, rfl, fun i hi hin => ?_⟩
 obtain ⟨b, cp, h3, h4⟩ := h2 i hi hin
 exact ⟨b, cp, hg.old h3, fun q hq => hg.old (h4 q hq)⟩
theorem Oy {o : Ops} {v : Value} {cs : Nat → Int} {w : World} (hr : Rd w Y v 2 2 cs) :
  CT 144 #[v] w fun e w' => ∃ v', e = .returned v' ∧ Ow w' w.heap.size 46 2 Y v' 1 (flat (o.tr 1 cs)) ∧ Gb w w' := by
 obtain ⟨b, cap, rfl, h1, h2, hc⟩ := hr.at om
 have c0 : w.cell? ⟨b, 0, none⟩ = some (J Y (cs 0)) := hc 0 om
 have c1 : w.cell? ⟨b, 1, none⟩ = some (J Y (cs 1)) := hc 1 om
 have e0 : flat (o.tr 1 cs) 0 = cs 0 := rfl
 have e1 : flat (o.tr 1 cs) 1 = cs 1 := rfl
 generalize flat (o.tr 1 cs) = f at *
 generalize cs 0 = x at *
 generalize cs 1 = y at *
 clear hr hc
 go_enter func144, ntmps144
 go_wp2
 go_region
 all_goals go_wp2
 all_goals go_returns
 all_goals
  refine ⟨_, rfl, ?_, kg⟩
  have := World.ownsRow_lit (base := w.heap.size) (e := 46) (size := 2) w.drew #[J Y x, J Y y] 1 (Nat.le_refl _) de rfl
  refine Ow.congr (g := fun j => if j = 0 then x else y) this (fun j hj => ?_)
  match j, hj with
  | 0, _ => exact e0.symm
  | 1, _ => exact e1.symm
theorem UD (k j : Int) (w : World) : QW 143 #[J .i64 k, J .i64 j] w (.func (.func 197) #[] #[]) := by
 go_enter func143, ntmps143
 go_wp2
 go_returns
 exact ⟨rfl, rfl⟩
theorem NT (x y : Int) (w : World) : QW 197 #[J Y x, J Y y] w (.tuple #[J Y x, J Y y]) := by
 go_enter func197, ntmps197
 go_wp2
 go_returns
 exact ⟨rfl, rfl⟩
theorem Jc {o : Ops} {w : World} {cv : Value} {n : Nat} (hc : CR o w cv n) (k j : Nat) (hk1 : 1 ≤ k) (hk : k < n) (hn : n ≤ 7) (hj : 2 * j < 2 ^ (k - 1)) (x y : Int) (hx : o.rt k (2 * j) = (x, y)) :
  QW 145 #[cv, J .i64 k, J .i64 j] w (.func (.func 198) #[Z #[J Y x, J Y y]] #[]) := by
 obtain ⟨g, cap, rfl, h2⟩ := hc
 obtain ⟨b, cp, h3, h4⟩ := h2 k hk1 hk
 obtain ⟨m, hm⟩ : ∃ m, 2 ^ (k - 1) = m := ⟨_, rfl⟩
 rw [hm] at h3 h4 hj
 have hmm : m ≤ 64 := by
  rw [← hm]
  have := Nat.pow_le_pow_right (show 0 < 2 by decide) (show k - 1 ≤ 6 by omega)
  omega
 have c0 : w.cell? ⟨b, 2 * j * 2, none⟩ = some (J Y x) := by rw [h4 _ om, Nat.mul_comm, aZ, hx]
 have c1 : w.cell? ⟨b, 2 * j * 2 + 1, none⟩ = some (J Y y) := by rw [h4 _ om, show 2 * j * 2 + 1 = 2 * (2 * j) + 1 by omega, bC, hx]
 have hk' : (k : Int) < (n : Int) := om
 have hj' : 2 * (j : Int) < (m : Int) := om
 clear h2 h4 hm hx
 go_enter func145, ntmps145
 go_wp2
 go_returns
 exact ⟨rfl, rfl⟩
