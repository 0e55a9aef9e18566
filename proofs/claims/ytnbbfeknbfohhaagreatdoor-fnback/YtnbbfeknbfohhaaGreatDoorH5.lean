import Derived.Test.YtnbbfeknbfohhaaGreatDoorU1
import Derived.Test.YtnbbfeknbfohhaaGreatDoorH3
import Derived.Deep.DeepCutAuto
import Derived.Test.YtnbbfeknbfohhaaGreatDoorH4
import Derived.Test.YtnbbfeknbfohhaaGreatDoorHC
set_option linter.unusedVariables false
set_option linter.unusedSimpArgs false
set_option maxRecDepth 1000000
set_option maxHeartbeats 40000000
open Go.Value renaming int → J, agg → V, slice → U, bool → I
open Go.IntKind renaming i64 → Y, u64 → O
open Go.Ending renaming returned → E
namespace Go.Proofs.YtnbbfeknbfohhaaGreatDoor
open Go.RowKit
theorem bigN_nil {K : Nat} {w : World} {b k c N : Nat} (h : BigN K w (U (some ⟨b, 0, none⟩) k c) N) (h0 : N = 0) : k = 0 := by
 obtain ⟨n, hn, hnm, hr⟩ := h
 have e : n = k := by obtain ⟨_, b', c', hv, _⟩ := hr; cases hv; rfl
 rw [← e]; exact (hnm.iff).2 h0
theorem bigN_pos {K : Nat} {w : World} {b k c N : Nat} (h : BigN K w (U (some ⟨b, 0, none⟩) k c) N) (h0 : N ≠ 0) : 0 < k := by
 obtain ⟨n, hn, hnm, hr⟩ := h
 have e : n = k := by obtain ⟨_, b', c', hv, _⟩ := hr; cases hv; rfl
 rw [← e]
 rcases Nat.eq_zero_or_pos n with c | c
 ·exact absurd ((hnm.iff).1 c) h0
 ·exact c
theorem div_slices {K L : Nat} {v v' : Value} {N N' : Nat} {w : World} (hK : K ≤ 1000) (hL : L ≤ 1000) (h : BigN K w v N) (h' : BigN L w v' N') (h0 : 0 < N') :
  CT 219 #[v, v'] w fun e w' => ∃ b k c b' k' c', BigN K w' (U (some ⟨b, 0, none⟩) k c) (N / N') ∧ BigN (L + 1) w' (U (some ⟨b', 0, none⟩) k' c') (N % N') ∧ e = E (.tuple #[U (some ⟨b, 0, none⟩) k c, U (some ⟨b', 0, none⟩) k' c']) ∧ Gb w w' := by
 obtain ⟨n, hn, hb⟩ := h
 obtain ⟨n', hn', hb'⟩ := h'
 refine (l2Div_any hb (by omega) hb' (by omega) h0).mono ?_
 rintro e w' ⟨q, r, k, k', rfl, hq, hr, hk, hk', hg⟩
 obtain ⟨b, c, rfl, _⟩ := Big.shape hq
 obtain ⟨b', c', rfl, _⟩ := Big.shape hr
 exact ⟨b, k, c, b', k', c', ⟨k, by omega, hq⟩, ⟨k', by omega, hr⟩, rfl, hg⟩
theorem l4Quotient_any {f p mx one inf sg nan : Int} (h : IsFmt f p mx one inf sg nan) (c s x c' s' x' : Int) (A B : Nat) (hA : A < 18446744073709551616) (hB : B < 18446744073709551616) (hB0 : 0 < B) (a0 : 0 ≤ s) (a1 : s ≤ 1) (b0 : 0 ≤ s') (b1 : s' ≤ 1) (sp : Int) (hm1 : (s + s').tmod 2 = sp) (hm2 : (s + s') % 2 = sp) (x0 : -50000 ≤ x) (x1 : x ≤ 50000) (y0 : -50000 ≤ x') (y1 : x' ≤ 50000) (P : Nat) (hP : (P : Int) = p + 4) (w : World) :
  CT 178 #[J Y f, V #[J Y c, J Y s, J Y x, J O ((A : Nat))], V #[J Y (c'), J Y (s'), J Y (x'), J O ((B : Nat))]] w fun e w' => ∃ b k cc, BigN 8 w' (U (some ⟨b, 0, none⟩) k cc) (A * 2 ^ P / B) ∧ e = E (V #[J Y sp, U (some ⟨b, 0, none⟩) k cc, J Y (x - x' - P), I (decide (A * 2 ^ P % B ≠ 0))]) ∧ Gb w w' := by
 have hpb : p ≤ 53 ∧ 24 ≤ p := by rcases h with h | h <;> omega
 have hP60 : P ≤ 57 := by omega
 have HB : Hid (∀ (H : Nat) w, H < 18446744073709551616 → CT 150 #[J O (H : Nat)] w fun e w' => ∃ b k c, BigN 2 w' (U (some ⟨b, 0, none⟩) k c) H ∧ e = E (U (some ⟨b, 0, none⟩) k c) ∧ Gb w w') := fun H w hH => big_slice (l2Big_any H hH w)
 have HS : Hid (∀ v w, BigN 2 w v A → CT 180 #[v, J Y (P : Int)] w fun e w' => ∃ b k c, BigN 8 w' (U (some ⟨b, 0, none⟩) k c) (A * 2 ^ P) ∧ e = E (U (some ⟨b, 0, none⟩) k c) ∧ Gb w w') := fun v w ⟨n, a1, a2⟩ => big_slice ((l2Shl_any a2 (by omega) P (by omega)).mono (fun e w' ⟨v, k, c1, c2, c3, c4⟩ => ⟨v, k, c1, c2, by omega, c4⟩))
 have HD : Hid (∀ v v' w, BigN 8 w v (A * 2 ^ P) → BigN 2 w v' B → CT 219 #[v, v'] w fun e w' => ∃ b k c b' k' c', BigN 8 w' (U (some ⟨b, 0, none⟩) k c) (A * 2 ^ P / B) ∧ BigN 3 w' (U (some ⟨b', 0, none⟩) k' c') (A * 2 ^ P % B) ∧ e = E (.tuple #[U (some ⟨b, 0, none⟩) k c, U (some ⟨b', 0, none⟩) k' c']) ∧ Gb w w') := fun v v' w h1 h2 => div_slices (by omega) (by omega) h1 h2 hB0
 have HP : KW 115 #[J Y f] (J Y p) := fun w => l2P_any h w
 have g1 : p + 4 = (P : Int) := hP.symm
 obtain ⟨z, hz⟩ : ∃ z, x - x' - (P : Int) = z := ⟨_, rfl⟩
 rw [hz]
 clear hP h
 by_cases hr : A * 2 ^ P % B = 0
 ·rw [show decide (A * 2 ^ P % B ≠ 0) = false by simp [hr]]
  have HR : Hid _ := hr
  clear hr
  generalize A * 2 ^ P % B = R at *
  generalize A * 2 ^ P / B = Qn at *
  generalize A * 2 ^ P = X at *
  go_enter Tryz.func178, Tryz.ntmps178
  go_wp2_with (go_at_call 115; refine kw (HP.out _) ?_)
  go_region_held3 (fun w' => w'.cell? ⟨w.heap.size, 1, none⟩ = some (J Y s) ∧ w'.cell? ⟨w.heap.size, 2, none⟩ = some (J Y x) ∧ w'.cell? ⟨w.heap.size, 3, none⟩ = some (J O (A : Nat)) ∧ w'.cell? ⟨w.heap.size + 1, 1, none⟩ = some (J Y s') ∧ w'.cell? ⟨w.heap.size + 1, 2, none⟩ = some (J Y x') ∧ w'.cell? ⟨w.heap.size + 1, 3, none⟩ = some (J O (B : Nat)))
   ((go_split_ands; (repeat' apply And.intro) <;> exact kh))
   (first
    | (go_at_call 150; refine (HB.out _ _ (by assumption)).mono ?_; rintro e w1 ⟨b, k, cc, hbig, rfl, hg_w1⟩; obtain ⟨ar0, arz0, ar1, arz1, ar2, arz2, ar3, arz3⟩ := hg_w1.y4 (w.heap.size + 1 + 1) 0 1 2 3 (J Y 0) (U none 0 0) (J Y 0) (I false))
    | (go_at_call 180; refine (HS.out _ _ (BigN.gb (by assumption) Gb.g)).mono ?_; rintro e w2 ⟨b2, k2, cc2, hbig2, rfl, hg_w2⟩; obtain ⟨br0, brz0, br1, brz1, br2, brz2, br3, brz3⟩ := hg_w2.y4 (w.heap.size + 1 + 1) 0 1 2 3 (J Y 0) (U none 0 0) (J Y 0) (I false))
    | (go_at_call 219; refine (HD.out _ _ _ (BigN.gb (by assumption) Gb.g) (BigN.gb (by assumption) Gb.g)).mono ?_; rintro e w3 ⟨b3, k3, cc3, b4, k4, cc4, hbig3, hbig4, rfl, hg_w3⟩; obtain ⟨cr0, crz0, cr1, crz1, cr2, crz2, cr3, crz3⟩ := hg_w3.y4 (w.heap.size + 1 + 1) 0 1 2 3 (J Y 0) (U none 0 0) (J Y 0) (I false); obtain ⟨cx1, cx2⟩ := hg_w3.e2 w.heap.size 1 2 (J Y s) (J Y x); obtain ⟨cy1, cy2⟩ := hg_w3.e2 (w.heap.size + 1) 1 2 (J Y (s')) (J Y (x')); obtain rfl : k4 = 0 := (bigN_nil hbig4 HR.out)))
  all_goals (try go_split_ands)
  all_goals go_wp2
  all_goals
   refine bodyPost_ret (v := V #[J Y sp, U (some ⟨b3, 0, none⟩) k3 cc3, J Y z, I false]) (by simp [results, Tryz.results178, go_sem, cr0, cr1, cr2, cr3]) rfl ⟨b3, k3, cc3, ?_, rfl, ?_⟩
   ·exact hbig3.st4 cr0 cr1 cr2 cr3
   ·exact Gb.g
 ·rw [show decide (A * 2 ^ P % B ≠ 0) = true by simp [hr]]
  have HR : Hid (A * 2 ^ P % B ≠ 0) := hr
  clear hr
  generalize A * 2 ^ P % B = R at *
  generalize A * 2 ^ P / B = Qn at *
  generalize A * 2 ^ P = X at *
  go_enter Tryz.func178, Tryz.ntmps178
  go_wp2_with (go_at_call 115; refine kw (HP.out _) ?_)
  go_region_held3 (fun w' => w'.cell? ⟨w.heap.size, 1, none⟩ = some (J Y s) ∧ w'.cell? ⟨w.heap.size, 2, none⟩ = some (J Y x) ∧ w'.cell? ⟨w.heap.size, 3, none⟩ = some (J O (A : Nat)) ∧ w'.cell? ⟨w.heap.size + 1, 1, none⟩ = some (J Y s') ∧ w'.cell? ⟨w.heap.size + 1, 2, none⟩ = some (J Y x') ∧ w'.cell? ⟨w.heap.size + 1, 3, none⟩ = some (J O (B : Nat)))
   ((go_split_ands; (repeat' apply And.intro) <;> exact kh))
   (first
    | (go_at_call 150; refine (HB.out _ _ (by assumption)).mono ?_; rintro e w1 ⟨b, k, cc, hbig, rfl, hg_w1⟩; obtain ⟨ar0, arz0, ar1, arz1, ar2, arz2, ar3, arz3⟩ := hg_w1.y4 (w.heap.size + 1 + 1) 0 1 2 3 (J Y 0) (U none 0 0) (J Y 0) (I false))
    | (go_at_call 180; refine (HS.out _ _ (BigN.gb (by assumption) Gb.g)).mono ?_; rintro e w2 ⟨b2, k2, cc2, hbig2, rfl, hg_w2⟩; obtain ⟨br0, brz0, br1, brz1, br2, brz2, br3, brz3⟩ := hg_w2.y4 (w.heap.size + 1 + 1) 0 1 2 3 (J Y 0) (U none 0 0) (J Y 0) (I false))
    | (go_at_call 219; refine (HD.out _ _ _ (BigN.gb (by assumption) Gb.g) (BigN.gb (by assumption) Gb.g)).mono ?_; rintro e w3 ⟨b3, k3, cc3, b4, k4, cc4, hbig3, hbig4, rfl, hg_w3⟩; obtain ⟨cr0, crz0, cr1, crz1, cr2, crz2, cr3, crz3⟩ := hg_w3.y4 (w.heap.size + 1 + 1) 0 1 2 3 (J Y 0) (U none 0 0) (J Y 0) (I false); obtain ⟨cx1, cx2⟩ := hg_w3.e2 w.heap.size 1 2 (J Y s) (J Y x); obtain ⟨cy1, cy2⟩ := hg_w3.e2 (w.heap.size + 1) 1 2 (J Y (s')) (J Y (x')); have hkn : 0 < k4 := bigN_pos hbig4 HR.out; have hkp : (0 : Int) < (k4 : Int) := (by omega)))
  all_goals (try go_split_ands)
  all_goals go_wp2
  all_goals
   refine bodyPost_ret (v := V #[J Y sp, U (some ⟨b3, 0, none⟩) k3 cc3, J Y z, I true]) (by simp [results, Tryz.results178, go_sem, cr0, cr1, cr2, cr3, hkn]) rfl ⟨b3, k3, cc3, ?_, rfl, ?_⟩
   ·exact hbig3.st4 cr0 cr1 cr2 cr3
   ·exact Gb.g
set_option maxRecDepth 1000000
theorem sDiv_11 (f mode a b ca sa xa ga cb sb xb gb : Int) (HF : KW 117 #[J Y f, J Y mode, J O a, J O b] (I true)) (HUa : KR 31 #[J Y f, J O a] (V #[J Y ca, J Y sa, J Y xa, J O ga])) (HUb : KR 31 #[J Y f, J O b] (V #[J Y cb, J Y sb, J Y xb, J O gb])) (HQa : KR 118 #[V #[J Y ca, J Y sa, J Y xa, J O ga]] (I false)) (HQb : KR 118 #[V #[J Y cb, J Y sb, J Y xb, J O gb]] (I false)) (e1 : ca = 1) (e2 : cb = 1) (sp : Int) (a0 : 0 ≤ sa) (a1 : sa ≤ 1) (b0 : 0 ≤ sb) (b1 : sb ≤ 1) (hm1 : (sa + sb).tmod 2 = sp) (hm2 : (sa + sb) % 2 = sp) (xq : Int) (rest : Bool) (m : Nat) (HM : Hid (∀ w, CT 178 #[J Y f, V #[J Y 1, J Y sa, J Y xa, J O ga], V #[J Y 1, J Y sb, J Y xb, J O gb]] w fun e w' => ∃ bq kq qq, BigN 8 w' (U (some ⟨bq, 0, none⟩) kq qq) m ∧ e = E (V #[J Y sp, U (some ⟨bq, 0, none⟩) kq qq, J Y xq, I rest]) ∧ Gb w w')) (Q : Int → Int → Prop) (HR : Hid (∀ v w, BigN 8 w v m → CT 65 #[J Y f, J Y mode, V #[J Y sp, v, J Y xq, I rest]] w fun e w' => ∃ z fl, Q z fl ∧ e = E (V #[J O z, J Y fl]) ∧ Gb w w')) (w : World) :
  CT 91 #[J Y f, J Y mode, J O a, J O b] w fun e w' => ∃ z fl, Q z fl ∧ e = E (V #[J O z, J Y fl]) ∧ Gb w w' := by
 subst e1 e2
 go_enter Tryz.func91, Tryz.ntmps91
 go_wp2_with (first
  | (go_at_call 117; refine kw (HF.out _) ?_)
  | (go_at_call 31; first | (with_reducible refine (HUa.out _).mono ?_; rintro e w1 ⟨rfl, hg_w1⟩; obtain ⟨u0r0, u0rz0, u0r1, u0rz1⟩ := hg_w1.y2 w.heap.size 0 1 (J O 0) (J Y 0); have hz0 := cell_size u0r0) | (with_reducible refine (HUb.out _).mono ?_; rintro e w2 ⟨rfl, hg_w2⟩; obtain ⟨u1r0, u1rz0, u1r1, u1rz1⟩ := hg_w2.y2 w.heap.size 0 1 (J O 0) (J Y 0); have u1p00 := hg_w2.e1 w1.heap.size 0 (J Y 1); have u1p0A0 := kca u1p00; have u1p01 := hg_w2.e1 w1.heap.size 1 (J Y sa); have u1p0A1 := kca u1p01; have u1p02 := hg_w2.e1 w1.heap.size 2 (J Y xa); have u1p0A2 := kca u1p02; have u1p03 := hg_w2.e1 w1.heap.size 3 (J O ga); have u1p0A3 := kca u1p03; have hz1 := cell_size u1r0))
  | (go_at_call 118; first | (with_reducible refine (HQa.out _).mono ?_; rintro e va ⟨rfl, hg_va⟩; obtain ⟨qar0, qarz0, qar1, qarz1⟩ := hg_va.y2 w.heap.size 0 1 (J O 0) (J Y 0); obtain ⟨qap00, qap01, qap02, qap03⟩ := hg_va.e4 w1.heap.size 0 1 2 3 (J Y 1) (J Y sa) (J Y xa) (J O ga); obtain ⟨qap10, qap11, qap12, qap13⟩ := hg_va.e4 w2.heap.size 0 1 2 3 (J Y 1) (J Y sb) (J Y xb) (J O gb)) | (with_reducible refine (HQb.out _).mono ?_; rintro e vb ⟨rfl, hg_vb⟩; obtain ⟨qbr0, qbrz0, qbr1, qbrz1⟩ := hg_vb.y2 w.heap.size 0 1 (J O 0) (J Y 0); obtain ⟨qbp00, qbp01, qbp02, qbp03⟩ := hg_vb.e4 w1.heap.size 0 1 2 3 (J Y 1) (J Y sa) (J Y xa) (J O ga); obtain ⟨qbp10, qbp11, qbp12, qbp13⟩ := hg_vb.e4 w2.heap.size 0 1 2 3 (J Y 1) (J Y sb) (J Y xb) (J O gb)))
  | (go_at_call 178; refine (HM.out _).mono ?_; rintro e wm ⟨bq, kq, qq, hbq, rfl, hg_wm⟩; obtain ⟨mr0, mrz0, mr1, mrz1⟩ := hg_wm.y2 w.heap.size 0 1 (J O 0) (J Y 0))
  | (go_at_call 65; refine (HR.out _ _ hbq).mono ?_; rintro e w9 ⟨z, fl, hq, rfl, hg_w9⟩; obtain ⟨zr0, zrz0, zr1, zrz1⟩ := hg_w9.y2 w.heap.size 0 1 (J O 0) (J Y 0)))
 refine bodyPost_ret (v := V #[J O z, J Y fl]) (by simp [results, Tryz.results91, go_sem, zr0, zr1]) rfl ⟨z, fl, hq, rfl, ?_⟩
 exact Gb.g
set_option maxRecDepth 1000000
theorem twH51 {P : Prop} (h : P := by
 go_enter Tryz.func91, Tryz.ntmps91
 go_wp2_with (first
  | (go_at_call 117; refine kw (HF.out _) ?_)
  | (go_at_call 31; first | (with_reducible refine (HUa.out _).mono ?_; rintro e w1 ⟨rfl, hg_w1⟩; obtain ⟨u0r0, u0rz0, u0r1, u0rz1⟩ := hg_w1.y2 w.heap.size 0 1 (J O 0) (J Y 0); have hz0 := cell_size u0r0) | (with_reducible refine (HUb.out _).mono ?_; rintro e w2 ⟨rfl, hg_w2⟩; obtain ⟨u1r0, u1rz0, u1r1, u1rz1⟩ := hg_w2.y2 w.heap.size 0 1 (J O 0) (J Y 0); have u1p00 := hg_w2.e1 w1.heap.size 0 (J Y ca); have u1p0A0 := kca u1p00; have u1p01 := hg_w2.e1 w1.heap.size 1 (J Y sa); have u1p0A1 := kca u1p01; have u1p02 := hg_w2.e1 w1.heap.size 2 (J Y xa); have u1p0A2 := kca u1p02; have u1p03 := hg_w2.e1 w1.heap.size 3 (J O ga); have u1p0A3 := kca u1p03; have hz1 := cell_size u1r0))
  | (go_at_call 118; first | (with_reducible refine (HQa.out _).mono ?_; rintro e va ⟨rfl, hg_va⟩; obtain ⟨qar0, qarz0, qar1, qarz1⟩ := hg_va.y2 w.heap.size 0 1 (J O 0) (J Y 0); obtain ⟨qap00, qap01, qap02, qap03⟩ := hg_va.e4 w1.heap.size 0 1 2 3 (J Y ca) (J Y sa) (J Y xa) (J O ga); obtain ⟨qap10, qap11, qap12, qap13⟩ := hg_va.e4 w2.heap.size 0 1 2 3 (J Y cb) (J Y sb) (J Y xb) (J O gb)) | (with_reducible refine (HQb.out _).mono ?_; rintro e vb ⟨rfl, hg_vb⟩; obtain ⟨qbr0, qbrz0, qbr1, qbrz1⟩ := hg_vb.y2 w.heap.size 0 1 (J O 0) (J Y 0); obtain ⟨qbp00, qbp01, qbp02, qbp03⟩ := hg_vb.e4 w1.heap.size 0 1 2 3 (J Y ca) (J Y sa) (J Y xa) (J O ga); obtain ⟨qbp10, qbp11, qbp12, qbp13⟩ := hg_vb.e4 w2.heap.size 0 1 2 3 (J Y cb) (J Y sb) (J Y xb) (J O gb)))
  | (go_at_call 119; refine (HL.out _).mono ?_; rintro e w9 ⟨rfl, hg_w9⟩; obtain ⟨zr0, zrz0, zr1, zrz1⟩ := hg_w9.y2 w.heap.size 0 1 (J O 0) (J Y 0)))
 refine bodyPost_ret (v := V #[J O z, J Y fl]) (by simp [results, Tryz.results91, go_sem, zr0, zr1]) rfl ⟨rfl, ?_⟩
 exact Gb.g) : P := h
theorem twH50 {P : Prop} (h : P := by
 go_enter Tryz.func91, Tryz.ntmps91
 go_wp2_with (first
  | (go_at_call 117; refine kw (HF.out _) ?_)
  | (go_at_call 31; first | (with_reducible refine (HUa.out _).mono ?_; rintro e w1 ⟨rfl, hg_w1⟩; obtain ⟨u0r0, u0rz0, u0r1, u0rz1⟩ := hg_w1.y2 w.heap.size 0 1 (J O 0) (J Y 0); have hz0 := cell_size u0r0) | (with_reducible refine (HUb.out _).mono ?_; rintro e w2 ⟨rfl, hg_w2⟩; obtain ⟨u1r0, u1rz0, u1r1, u1rz1⟩ := hg_w2.y2 w.heap.size 0 1 (J O 0) (J Y 0); have u1p00 := hg_w2.e1 w1.heap.size 0 (J Y ca); have u1p0A0 := kca u1p00; have u1p01 := hg_w2.e1 w1.heap.size 1 (J Y sa); have u1p0A1 := kca u1p01; have u1p02 := hg_w2.e1 w1.heap.size 2 (J Y xa); have u1p0A2 := kca u1p02; have u1p03 := hg_w2.e1 w1.heap.size 3 (J O ga); have u1p0A3 := kca u1p03; have hz1 := cell_size u1r0))
  | (go_at_call 118; first | (with_reducible refine (HQa.out _).mono ?_; rintro e va ⟨rfl, hg_va⟩; obtain ⟨qar0, qarz0, qar1, qarz1⟩ := hg_va.y2 w.heap.size 0 1 (J O 0) (J Y 0); obtain ⟨qap00, qap01, qap02, qap03⟩ := hg_va.e4 w1.heap.size 0 1 2 3 (J Y ca) (J Y sa) (J Y xa) (J O ga); obtain ⟨qap10, qap11, qap12, qap13⟩ := hg_va.e4 w2.heap.size 0 1 2 3 (J Y cb) (J Y sb) (J Y xb) (J O gb)))
  | (go_at_call 119; refine (HL.out _).mono ?_; rintro e w9 ⟨rfl, hg_w9⟩; obtain ⟨zr0, zrz0, zr1, zrz1⟩ := hg_w9.y2 w.heap.size 0 1 (J O 0) (J Y 0)))
 refine bodyPost_ret (v := V #[J O z, J Y fl]) (by simp [results, Tryz.results91, go_sem, zr0, zr1]) rfl ⟨rfl, ?_⟩
 exact Gb.g) : P := h
theorem sDiv_bad (f mode a b : Int) (HF : KW 117 #[J Y f, J Y mode, J O a, J O b] (I false)) (z fl : Int) (HL : KR 63 #[J Y f] (V #[J O z, J Y fl])) (w : World) :
  QB 91 #[J Y f, J Y mode, J O a, J O b] w (V #[J O z, J Y fl]) := by
 go_enter Tryz.func91, Tryz.ntmps91
 go_wp2_with (first
  | (go_at_call 117; refine kw (HF.out _) ?_)
  | (go_at_call 63; refine (HL.out _).mono ?_; rintro e w9 ⟨rfl, hg_w9⟩; obtain ⟨zr0, zrz0, zr1, zrz1⟩ := hg_w9.y2 w.heap.size 0 1 (J O 0) (J Y 0)))
 refine bodyPost_ret (v := V #[J O z, J Y fl]) (by simp [results, Tryz.results91, go_sem, zr0, zr1]) rfl ⟨rfl, ?_⟩
 exact Gb.g
theorem sDiv_nan1 (f mode a b ca sa xa ga cb sb xb gb : Int) (HF : KW 117 #[J Y f, J Y mode, J O a, J O b] (I true)) (HUa : KR 31 #[J Y f, J O a] (V #[J Y ca, J Y sa, J Y xa, J O ga])) (HUb : KR 31 #[J Y f, J O b] (V #[J Y cb, J Y sb, J Y xb, J O gb])) (HQa : KR 118 #[V #[J Y ca, J Y sa, J Y xa, J O ga]] (I true)) (e4 : (ca == 4) = true) (z fl : Int) (HL : KR 119 #[J Y f, I true] (V #[J O z, J Y fl])) (w : World) :
  QB 91 #[J Y f, J Y mode, J O a, J O b] w (V #[J O z, J Y fl]) := by
 exact twH50
theorem sDiv_nan2 (f mode a b ca sa xa ga cb sb xb gb : Int) (HF : KW 117 #[J Y f, J Y mode, J O a, J O b] (I true)) (HUa : KR 31 #[J Y f, J O a] (V #[J Y ca, J Y sa, J Y xa, J O ga])) (HUb : KR 31 #[J Y f, J O b] (V #[J Y cb, J Y sb, J Y xb, J O gb])) (HQa : KR 118 #[V #[J Y ca, J Y sa, J Y xa, J O ga]] (I true)) (e4 : (ca == 4) = false) (t : Bool) (e5 : (cb == 4) = t) (z fl : Int) (HL : KR 119 #[J Y f, I t] (V #[J O z, J Y fl])) (w : World) :
  QB 91 #[J Y f, J Y mode, J O a, J O b] w (V #[J O z, J Y fl]) := by
 cases t
 ·exact twH50
 ·exact twH50
theorem sDiv_nan3 (f mode a b ca sa xa ga cb sb xb gb : Int) (HF : KW 117 #[J Y f, J Y mode, J O a, J O b] (I true)) (HUa : KR 31 #[J Y f, J O a] (V #[J Y ca, J Y sa, J Y xa, J O ga])) (HUb : KR 31 #[J Y f, J O b] (V #[J Y cb, J Y sb, J Y xb, J O gb])) (HQa : KR 118 #[V #[J Y ca, J Y sa, J Y xa, J O ga]] (I false)) (HQb : KR 118 #[V #[J Y cb, J Y sb, J Y xb, J O gb]] (I true)) (e4 : (ca == 4) = false) (t : Bool) (e5 : (cb == 4) = t) (z fl : Int) (HL : KR 119 #[J Y f, I t] (V #[J O z, J Y fl])) (w : World) :
  QB 91 #[J Y f, J Y mode, J O a, J O b] w (V #[J O z, J Y fl]) := by
 cases t
 ·exact twH51
 ·exact twH51
theorem sDiv_00 (f mode a b ca sa xa ga cb sb xb gb : Int) (HF : KW 117 #[J Y f, J Y mode, J O a, J O b] (I true)) (HUa : KR 31 #[J Y f, J O a] (V #[J Y ca, J Y sa, J Y xa, J O ga])) (HUb : KR 31 #[J Y f, J O b] (V #[J Y cb, J Y sb, J Y xb, J O gb])) (HQa : KR 118 #[V #[J Y ca, J Y sa, J Y xa, J O ga]] (I false)) (HQb : KR 118 #[V #[J Y cb, J Y sb, J Y xb, J O gb]] (I false)) (e1 : ca = 0) (e2 : cb = 0) (z fl : Int) (HL : KR 63 #[J Y f] (V #[J O z, J Y fl])) (w : World) :
  QB 91 #[J Y f, J Y mode, J O a, J O b] w (V #[J O z, J Y fl]) := by
 subst e1 e2
 go_enter Tryz.func91, Tryz.ntmps91
 go_wp2_with (first
  | (go_at_call 117; refine kw (HF.out _) ?_)
  | (go_at_call 31; first | (with_reducible refine (HUa.out _).mono ?_; rintro e w1 ⟨rfl, hg_w1⟩; obtain ⟨u0r0, u0rz0, u0r1, u0rz1⟩ := hg_w1.y2 w.heap.size 0 1 (J O 0) (J Y 0); have hz0 := cell_size u0r0) | (with_reducible refine (HUb.out _).mono ?_; rintro e w2 ⟨rfl, hg_w2⟩; obtain ⟨u1r0, u1rz0, u1r1, u1rz1⟩ := hg_w2.y2 w.heap.size 0 1 (J O 0) (J Y 0); have u1p00 := hg_w2.e1 w1.heap.size 0 (J Y 0); have u1p0A0 := kca u1p00; have u1p01 := hg_w2.e1 w1.heap.size 1 (J Y sa); have u1p0A1 := kca u1p01; have u1p02 := hg_w2.e1 w1.heap.size 2 (J Y xa); have u1p0A2 := kca u1p02; have u1p03 := hg_w2.e1 w1.heap.size 3 (J O ga); have u1p0A3 := kca u1p03; have hz1 := cell_size u1r0))
  | (go_at_call 118; first | (with_reducible refine (HQa.out _).mono ?_; rintro e va ⟨rfl, hg_va⟩; obtain ⟨qar0, qarz0, qar1, qarz1⟩ := hg_va.y2 w.heap.size 0 1 (J O 0) (J Y 0); obtain ⟨qap00, qap01, qap02, qap03⟩ := hg_va.e4 w1.heap.size 0 1 2 3 (J Y 0) (J Y sa) (J Y xa) (J O ga); obtain ⟨qap10, qap11, qap12, qap13⟩ := hg_va.e4 w2.heap.size 0 1 2 3 (J Y 0) (J Y sb) (J Y xb) (J O gb)) | (with_reducible refine (HQb.out _).mono ?_; rintro e vb ⟨rfl, hg_vb⟩; obtain ⟨qbr0, qbrz0, qbr1, qbrz1⟩ := hg_vb.y2 w.heap.size 0 1 (J O 0) (J Y 0); obtain ⟨qbp00, qbp01, qbp02, qbp03⟩ := hg_vb.e4 w1.heap.size 0 1 2 3 (J Y 0) (J Y sa) (J Y xa) (J O ga); obtain ⟨qbp10, qbp11, qbp12, qbp13⟩ := hg_vb.e4 w2.heap.size 0 1 2 3 (J Y 0) (J Y sb) (J Y xb) (J O gb)))
  | (go_at_call 63; refine (HL.out _).mono ?_; rintro e w9 ⟨rfl, hg_w9⟩; obtain ⟨zr0, zrz0, zr1, zrz1⟩ := hg_w9.y2 w.heap.size 0 1 (J O 0) (J Y 0)))
 refine bodyPost_ret (v := V #[J O z, J Y fl]) (by simp [results, Tryz.results91, go_sem, zr0, zr1]) rfl ⟨rfl, ?_⟩
 exact Gb.g
theorem sDiv_22 (f mode a b ca sa xa ga cb sb xb gb : Int) (HF : KW 117 #[J Y f, J Y mode, J O a, J O b] (I true)) (HUa : KR 31 #[J Y f, J O a] (V #[J Y ca, J Y sa, J Y xa, J O ga])) (HUb : KR 31 #[J Y f, J O b] (V #[J Y cb, J Y sb, J Y xb, J O gb])) (HQa : KR 118 #[V #[J Y ca, J Y sa, J Y xa, J O ga]] (I false)) (HQb : KR 118 #[V #[J Y cb, J Y sb, J Y xb, J O gb]] (I false)) (e1 : ca = 2) (e2 : cb = 2) (z fl : Int) (HL : KR 63 #[J Y f] (V #[J O z, J Y fl])) (w : World) :
  QB 91 #[J Y f, J Y mode, J O a, J O b] w (V #[J O z, J Y fl]) := by
 subst e1 e2
 go_enter Tryz.func91, Tryz.ntmps91
 go_wp2_with (first
  | (go_at_call 117; refine kw (HF.out _) ?_)
  | (go_at_call 31; first | (with_reducible refine (HUa.out _).mono ?_; rintro e w1 ⟨rfl, hg_w1⟩; obtain ⟨u0r0, u0rz0, u0r1, u0rz1⟩ := hg_w1.y2 w.heap.size 0 1 (J O 0) (J Y 0); have hz0 := cell_size u0r0) | (with_reducible refine (HUb.out _).mono ?_; rintro e w2 ⟨rfl, hg_w2⟩; obtain ⟨u1r0, u1rz0, u1r1, u1rz1⟩ := hg_w2.y2 w.heap.size 0 1 (J O 0) (J Y 0); have u1p00 := hg_w2.e1 w1.heap.size 0 (J Y 2); have u1p0A0 := kca u1p00; have u1p01 := hg_w2.e1 w1.heap.size 1 (J Y sa); have u1p0A1 := kca u1p01; have u1p02 := hg_w2.e1 w1.heap.size 2 (J Y xa); have u1p0A2 := kca u1p02; have u1p03 := hg_w2.e1 w1.heap.size 3 (J O ga); have u1p0A3 := kca u1p03; have hz1 := cell_size u1r0))
  | (go_at_call 118; first | (with_reducible refine (HQa.out _).mono ?_; rintro e va ⟨rfl, hg_va⟩; obtain ⟨qar0, qarz0, qar1, qarz1⟩ := hg_va.y2 w.heap.size 0 1 (J O 0) (J Y 0); obtain ⟨qap00, qap01, qap02, qap03⟩ := hg_va.e4 w1.heap.size 0 1 2 3 (J Y 2) (J Y sa) (J Y xa) (J O ga); obtain ⟨qap10, qap11, qap12, qap13⟩ := hg_va.e4 w2.heap.size 0 1 2 3 (J Y 2) (J Y sb) (J Y xb) (J O gb)) | (with_reducible refine (HQb.out _).mono ?_; rintro e vb ⟨rfl, hg_vb⟩; obtain ⟨qbr0, qbrz0, qbr1, qbrz1⟩ := hg_vb.y2 w.heap.size 0 1 (J O 0) (J Y 0); obtain ⟨qbp00, qbp01, qbp02, qbp03⟩ := hg_vb.e4 w1.heap.size 0 1 2 3 (J Y 2) (J Y sa) (J Y xa) (J O ga); obtain ⟨qbp10, qbp11, qbp12, qbp13⟩ := hg_vb.e4 w2.heap.size 0 1 2 3 (J Y 2) (J Y sb) (J Y xb) (J O gb)))
  | (go_at_call 63; refine (HL.out _).mono ?_; rintro e w9 ⟨rfl, hg_w9⟩; obtain ⟨zr0, zrz0, zr1, zrz1⟩ := hg_w9.y2 w.heap.size 0 1 (J O 0) (J Y 0)))
 refine bodyPost_ret (v := V #[J O z, J Y fl]) (by simp [results, Tryz.results91, go_sem, zr0, zr1]) rfl ⟨rfl, ?_⟩
 exact Gb.g
theorem sDiv_20 (f mode a b ca sa xa ga cb sb xb gb : Int) (HF : KW 117 #[J Y f, J Y mode, J O a, J O b] (I true)) (HUa : KR 31 #[J Y f, J O a] (V #[J Y ca, J Y sa, J Y xa, J O ga])) (HUb : KR 31 #[J Y f, J O b] (V #[J Y cb, J Y sb, J Y xb, J O gb])) (HQa : KR 118 #[V #[J Y ca, J Y sa, J Y xa, J O ga]] (I false)) (HQb : KR 118 #[V #[J Y cb, J Y sb, J Y xb, J O gb]] (I false)) (e1 : ca = 2) (e2 : cb = 0) (sp : Int) (a0 : 0 ≤ sa) (a1 : sa ≤ 1) (b0 : 0 ≤ sb) (b1 : sb ≤ 1) (hm1 : (sa + sb).tmod 2 = sp) (hm2 : (sa + sb) % 2 = sp) (z fl : Int) (HL : KR 167 #[J Y f, J Y sp] (V #[J O z, J Y fl])) (w : World) :
  QB 91 #[J Y f, J Y mode, J O a, J O b] w (V #[J O z, J Y fl]) := by
 subst e1 e2
 go_enter Tryz.func91, Tryz.ntmps91
 go_wp2_with (first
  | (go_at_call 117; refine kw (HF.out _) ?_)
  | (go_at_call 31; first | (with_reducible refine (HUa.out _).mono ?_; rintro e w1 ⟨rfl, hg_w1⟩; obtain ⟨u0r0, u0rz0, u0r1, u0rz1⟩ := hg_w1.y2 w.heap.size 0 1 (J O 0) (J Y 0); have hz0 := cell_size u0r0) | (with_reducible refine (HUb.out _).mono ?_; rintro e w2 ⟨rfl, hg_w2⟩; obtain ⟨u1r0, u1rz0, u1r1, u1rz1⟩ := hg_w2.y2 w.heap.size 0 1 (J O 0) (J Y 0); have u1p00 := hg_w2.e1 w1.heap.size 0 (J Y 2); have u1p0A0 := kca u1p00; have u1p01 := hg_w2.e1 w1.heap.size 1 (J Y sa); have u1p0A1 := kca u1p01; have u1p02 := hg_w2.e1 w1.heap.size 2 (J Y xa); have u1p0A2 := kca u1p02; have u1p03 := hg_w2.e1 w1.heap.size 3 (J O ga); have u1p0A3 := kca u1p03; have hz1 := cell_size u1r0))
  | (go_at_call 118; first | (with_reducible refine (HQa.out _).mono ?_; rintro e va ⟨rfl, hg_va⟩; obtain ⟨qar0, qarz0, qar1, qarz1⟩ := hg_va.y2 w.heap.size 0 1 (J O 0) (J Y 0); obtain ⟨qap00, qap01, qap02, qap03⟩ := hg_va.e4 w1.heap.size 0 1 2 3 (J Y 2) (J Y sa) (J Y xa) (J O ga); obtain ⟨qap10, qap11, qap12, qap13⟩ := hg_va.e4 w2.heap.size 0 1 2 3 (J Y 0) (J Y sb) (J Y xb) (J O gb)) | (with_reducible refine (HQb.out _).mono ?_; rintro e vb ⟨rfl, hg_vb⟩; obtain ⟨qbr0, qbrz0, qbr1, qbrz1⟩ := hg_vb.y2 w.heap.size 0 1 (J O 0) (J Y 0); obtain ⟨qbp00, qbp01, qbp02, qbp03⟩ := hg_vb.e4 w1.heap.size 0 1 2 3 (J Y 2) (J Y sa) (J Y xa) (J O ga); obtain ⟨qbp10, qbp11, qbp12, qbp13⟩ := hg_vb.e4 w2.heap.size 0 1 2 3 (J Y 0) (J Y sb) (J Y xb) (J O gb)))
  | (go_at_call 167; refine (HL.out _).mono ?_; rintro e w9 ⟨rfl, hg_w9⟩; obtain ⟨zr0, zrz0, zr1, zrz1⟩ := hg_w9.y2 w.heap.size 0 1 (J O 0) (J Y 0)))
 refine bodyPost_ret (v := V #[J O z, J Y fl]) (by simp [results, Tryz.results91, go_sem, zr0, zr1]) rfl ⟨rfl, ?_⟩
 exact Gb.g
theorem sDiv_21 (f mode a b ca sa xa ga cb sb xb gb : Int) (HF : KW 117 #[J Y f, J Y mode, J O a, J O b] (I true)) (HUa : KR 31 #[J Y f, J O a] (V #[J Y ca, J Y sa, J Y xa, J O ga])) (HUb : KR 31 #[J Y f, J O b] (V #[J Y cb, J Y sb, J Y xb, J O gb])) (HQa : KR 118 #[V #[J Y ca, J Y sa, J Y xa, J O ga]] (I false)) (HQb : KR 118 #[V #[J Y cb, J Y sb, J Y xb, J O gb]] (I false)) (e1 : ca = 2) (e2 : cb = 1) (sp : Int) (a0 : 0 ≤ sa) (a1 : sa ≤ 1) (b0 : 0 ≤ sb) (b1 : sb ≤ 1) (hm1 : (sa + sb).tmod 2 = sp) (hm2 : (sa + sb) % 2 = sp) (z fl : Int) (HL : KR 167 #[J Y f, J Y sp] (V #[J O z, J Y fl])) (w : World) :
  QB 91 #[J Y f, J Y mode, J O a, J O b] w (V #[J O z, J Y fl]) := by
 subst e1 e2
 go_enter Tryz.func91, Tryz.ntmps91
 go_wp2_with (first
  | (go_at_call 117; refine kw (HF.out _) ?_)
  | (go_at_call 31; first | (with_reducible refine (HUa.out _).mono ?_; rintro e w1 ⟨rfl, hg_w1⟩; obtain ⟨u0r0, u0rz0, u0r1, u0rz1⟩ := hg_w1.y2 w.heap.size 0 1 (J O 0) (J Y 0); have hz0 := cell_size u0r0) | (with_reducible refine (HUb.out _).mono ?_; rintro e w2 ⟨rfl, hg_w2⟩; obtain ⟨u1r0, u1rz0, u1r1, u1rz1⟩ := hg_w2.y2 w.heap.size 0 1 (J O 0) (J Y 0); have u1p00 := hg_w2.e1 w1.heap.size 0 (J Y 2); have u1p0A0 := kca u1p00; have u1p01 := hg_w2.e1 w1.heap.size 1 (J Y sa); have u1p0A1 := kca u1p01; have u1p02 := hg_w2.e1 w1.heap.size 2 (J Y xa); have u1p0A2 := kca u1p02; have u1p03 := hg_w2.e1 w1.heap.size 3 (J O ga); have u1p0A3 := kca u1p03; have hz1 := cell_size u1r0))
  | (go_at_call 118; first | (with_reducible refine (HQa.out _).mono ?_; rintro e va ⟨rfl, hg_va⟩; obtain ⟨qar0, qarz0, qar1, qarz1⟩ := hg_va.y2 w.heap.size 0 1 (J O 0) (J Y 0); obtain ⟨qap00, qap01, qap02, qap03⟩ := hg_va.e4 w1.heap.size 0 1 2 3 (J Y 2) (J Y sa) (J Y xa) (J O ga); obtain ⟨qap10, qap11, qap12, qap13⟩ := hg_va.e4 w2.heap.size 0 1 2 3 (J Y 1) (J Y sb) (J Y xb) (J O gb)) | (with_reducible refine (HQb.out _).mono ?_; rintro e vb ⟨rfl, hg_vb⟩; obtain ⟨qbr0, qbrz0, qbr1, qbrz1⟩ := hg_vb.y2 w.heap.size 0 1 (J O 0) (J Y 0); obtain ⟨qbp00, qbp01, qbp02, qbp03⟩ := hg_vb.e4 w1.heap.size 0 1 2 3 (J Y 2) (J Y sa) (J Y xa) (J O ga); obtain ⟨qbp10, qbp11, qbp12, qbp13⟩ := hg_vb.e4 w2.heap.size 0 1 2 3 (J Y 1) (J Y sb) (J Y xb) (J O gb)))
  | (go_at_call 167; refine (HL.out _).mono ?_; rintro e w9 ⟨rfl, hg_w9⟩; obtain ⟨zr0, zrz0, zr1, zrz1⟩ := hg_w9.y2 w.heap.size 0 1 (J O 0) (J Y 0)))
 refine bodyPost_ret (v := V #[J O z, J Y fl]) (by simp [results, Tryz.results91, go_sem, zr0, zr1]) rfl ⟨rfl, ?_⟩
 exact Gb.g
theorem sDiv_01 (f mode a b ca sa xa ga cb sb xb gb : Int) (HF : KW 117 #[J Y f, J Y mode, J O a, J O b] (I true)) (HUa : KR 31 #[J Y f, J O a] (V #[J Y ca, J Y sa, J Y xa, J O ga])) (HUb : KR 31 #[J Y f, J O b] (V #[J Y cb, J Y sb, J Y xb, J O gb])) (HQa : KR 118 #[V #[J Y ca, J Y sa, J Y xa, J O ga]] (I false)) (HQb : KR 118 #[V #[J Y cb, J Y sb, J Y xb, J O gb]] (I false)) (e1 : ca = 0) (e2 : cb = 1) (sp : Int) (a0 : 0 ≤ sa) (a1 : sa ≤ 1) (b0 : 0 ≤ sb) (b1 : sb ≤ 1) (hm1 : (sa + sb).tmod 2 = sp) (hm2 : (sa + sb) % 2 = sp) (z fl : Int) (HL : KR 64 #[J Y f, J Y sp] (V #[J O z, J Y fl])) (w : World) :
  QB 91 #[J Y f, J Y mode, J O a, J O b] w (V #[J O z, J Y fl]) := by
 subst e1 e2
 go_enter Tryz.func91, Tryz.ntmps91
 go_wp2_with (first
  | (go_at_call 117; refine kw (HF.out _) ?_)
  | (go_at_call 31; first | (with_reducible refine (HUa.out _).mono ?_; rintro e w1 ⟨rfl, hg_w1⟩; obtain ⟨u0r0, u0rz0, u0r1, u0rz1⟩ := hg_w1.y2 w.heap.size 0 1 (J O 0) (J Y 0); have hz0 := cell_size u0r0) | (with_reducible refine (HUb.out _).mono ?_; rintro e w2 ⟨rfl, hg_w2⟩; obtain ⟨u1r0, u1rz0, u1r1, u1rz1⟩ := hg_w2.y2 w.heap.size 0 1 (J O 0) (J Y 0); have u1p00 := hg_w2.e1 w1.heap.size 0 (J Y 0); have u1p0A0 := kca u1p00; have u1p01 := hg_w2.e1 w1.heap.size 1 (J Y sa); have u1p0A1 := kca u1p01; have u1p02 := hg_w2.e1 w1.heap.size 2 (J Y xa); have u1p0A2 := kca u1p02; have u1p03 := hg_w2.e1 w1.heap.size 3 (J O ga); have u1p0A3 := kca u1p03; have hz1 := cell_size u1r0))
  | (go_at_call 118; first | (with_reducible refine (HQa.out _).mono ?_; rintro e va ⟨rfl, hg_va⟩; obtain ⟨qar0, qarz0, qar1, qarz1⟩ := hg_va.y2 w.heap.size 0 1 (J O 0) (J Y 0); obtain ⟨qap00, qap01, qap02, qap03⟩ := hg_va.e4 w1.heap.size 0 1 2 3 (J Y 0) (J Y sa) (J Y xa) (J O ga); obtain ⟨qap10, qap11, qap12, qap13⟩ := hg_va.e4 w2.heap.size 0 1 2 3 (J Y 1) (J Y sb) (J Y xb) (J O gb)) | (with_reducible refine (HQb.out _).mono ?_; rintro e vb ⟨rfl, hg_vb⟩; obtain ⟨qbr0, qbrz0, qbr1, qbrz1⟩ := hg_vb.y2 w.heap.size 0 1 (J O 0) (J Y 0); obtain ⟨qbp00, qbp01, qbp02, qbp03⟩ := hg_vb.e4 w1.heap.size 0 1 2 3 (J Y 0) (J Y sa) (J Y xa) (J O ga); obtain ⟨qbp10, qbp11, qbp12, qbp13⟩ := hg_vb.e4 w2.heap.size 0 1 2 3 (J Y 1) (J Y sb) (J Y xb) (J O gb)))
  | (go_at_call 64; refine (HL.out _).mono ?_; rintro e w9 ⟨rfl, hg_w9⟩; obtain ⟨zr0, zrz0, zr1, zrz1⟩ := hg_w9.y2 w.heap.size 0 1 (J O 0) (J Y 0)))
 refine bodyPost_ret (v := V #[J O z, J Y fl]) (by simp [results, Tryz.results91, go_sem, zr0, zr1]) rfl ⟨rfl, ?_⟩
 exact Gb.g
theorem sDiv_02 (f mode a b ca sa xa ga cb sb xb gb : Int) (HF : KW 117 #[J Y f, J Y mode, J O a, J O b] (I true)) (HUa : KR 31 #[J Y f, J O a] (V #[J Y ca, J Y sa, J Y xa, J O ga])) (HUb : KR 31 #[J Y f, J O b] (V #[J Y cb, J Y sb, J Y xb, J O gb])) (HQa : KR 118 #[V #[J Y ca, J Y sa, J Y xa, J O ga]] (I false)) (HQb : KR 118 #[V #[J Y cb, J Y sb, J Y xb, J O gb]] (I false)) (e1 : ca = 0) (e2 : cb = 2) (sp : Int) (a0 : 0 ≤ sa) (a1 : sa ≤ 1) (b0 : 0 ≤ sb) (b1 : sb ≤ 1) (hm1 : (sa + sb).tmod 2 = sp) (hm2 : (sa + sb) % 2 = sp) (z fl : Int) (HL : KR 64 #[J Y f, J Y sp] (V #[J O z, J Y fl])) (w : World) :
  QB 91 #[J Y f, J Y mode, J O a, J O b] w (V #[J O z, J Y fl]) := by
 subst e1 e2
 go_enter Tryz.func91, Tryz.ntmps91
 go_wp2_with (first
  | (go_at_call 117; refine kw (HF.out _) ?_)
  | (go_at_call 31; first | (with_reducible refine (HUa.out _).mono ?_; rintro e w1 ⟨rfl, hg_w1⟩; obtain ⟨u0r0, u0rz0, u0r1, u0rz1⟩ := hg_w1.y2 w.heap.size 0 1 (J O 0) (J Y 0); have hz0 := cell_size u0r0) | (with_reducible refine (HUb.out _).mono ?_; rintro e w2 ⟨rfl, hg_w2⟩; obtain ⟨u1r0, u1rz0, u1r1, u1rz1⟩ := hg_w2.y2 w.heap.size 0 1 (J O 0) (J Y 0); have u1p00 := hg_w2.e1 w1.heap.size 0 (J Y 0); have u1p0A0 := kca u1p00; have u1p01 := hg_w2.e1 w1.heap.size 1 (J Y sa); have u1p0A1 := kca u1p01; have u1p02 := hg_w2.e1 w1.heap.size 2 (J Y xa); have u1p0A2 := kca u1p02; have u1p03 := hg_w2.e1 w1.heap.size 3 (J O ga); have u1p0A3 := kca u1p03; have hz1 := cell_size u1r0))
  | (go_at_call 118; first | (with_reducible refine (HQa.out _).mono ?_; rintro e va ⟨rfl, hg_va⟩; obtain ⟨qar0, qarz0, qar1, qarz1⟩ := hg_va.y2 w.heap.size 0 1 (J O 0) (J Y 0); obtain ⟨qap00, qap01, qap02, qap03⟩ := hg_va.e4 w1.heap.size 0 1 2 3 (J Y 0) (J Y sa) (J Y xa) (J O ga); obtain ⟨qap10, qap11, qap12, qap13⟩ := hg_va.e4 w2.heap.size 0 1 2 3 (J Y 2) (J Y sb) (J Y xb) (J O gb)) | (with_reducible refine (HQb.out _).mono ?_; rintro e vb ⟨rfl, hg_vb⟩; obtain ⟨qbr0, qbrz0, qbr1, qbrz1⟩ := hg_vb.y2 w.heap.size 0 1 (J O 0) (J Y 0); obtain ⟨qbp00, qbp01, qbp02, qbp03⟩ := hg_vb.e4 w1.heap.size 0 1 2 3 (J Y 0) (J Y sa) (J Y xa) (J O ga); obtain ⟨qbp10, qbp11, qbp12, qbp13⟩ := hg_vb.e4 w2.heap.size 0 1 2 3 (J Y 2) (J Y sb) (J Y xb) (J O gb)))
  | (go_at_call 64; refine (HL.out _).mono ?_; rintro e w9 ⟨rfl, hg_w9⟩; obtain ⟨zr0, zrz0, zr1, zrz1⟩ := hg_w9.y2 w.heap.size 0 1 (J O 0) (J Y 0)))
 refine bodyPost_ret (v := V #[J O z, J Y fl]) (by simp [results, Tryz.results91, go_sem, zr0, zr1]) rfl ⟨rfl, ?_⟩
 exact Gb.g
theorem sDiv_12 (f mode a b ca sa xa ga cb sb xb gb : Int) (HF : KW 117 #[J Y f, J Y mode, J O a, J O b] (I true)) (HUa : KR 31 #[J Y f, J O a] (V #[J Y ca, J Y sa, J Y xa, J O ga])) (HUb : KR 31 #[J Y f, J O b] (V #[J Y cb, J Y sb, J Y xb, J O gb])) (HQa : KR 118 #[V #[J Y ca, J Y sa, J Y xa, J O ga]] (I false)) (HQb : KR 118 #[V #[J Y cb, J Y sb, J Y xb, J O gb]] (I false)) (e1 : ca = 1) (e2 : cb = 2) (sp : Int) (a0 : 0 ≤ sa) (a1 : sa ≤ 1) (b0 : 0 ≤ sb) (b1 : sb ≤ 1) (hm1 : (sa + sb).tmod 2 = sp) (hm2 : (sa + sb) % 2 = sp) (z fl : Int) (HL : KR 64 #[J Y f, J Y sp] (V #[J O z, J Y fl])) (w : World) :
  QB 91 #[J Y f, J Y mode, J O a, J O b] w (V #[J O z, J Y fl]) := by
 subst e1 e2
 go_enter Tryz.func91, Tryz.ntmps91
 go_wp2_with (first
  | (go_at_call 117; refine kw (HF.out _) ?_)
  | (go_at_call 31; first | (with_reducible refine (HUa.out _).mono ?_; rintro e w1 ⟨rfl, hg_w1⟩; obtain ⟨u0r0, u0rz0, u0r1, u0rz1⟩ := hg_w1.y2 w.heap.size 0 1 (J O 0) (J Y 0); have hz0 := cell_size u0r0) | (with_reducible refine (HUb.out _).mono ?_; rintro e w2 ⟨rfl, hg_w2⟩; obtain ⟨u1r0, u1rz0, u1r1, u1rz1⟩ := hg_w2.y2 w.heap.size 0 1 (J O 0) (J Y 0); have u1p00 := hg_w2.e1 w1.heap.size 0 (J Y 1); have u1p0A0 := kca u1p00; have u1p01 := hg_w2.e1 w1.heap.size 1 (J Y sa); have u1p0A1 := kca u1p01; have u1p02 := hg_w2.e1 w1.heap.size 2 (J Y xa); have u1p0A2 := kca u1p02; have u1p03 := hg_w2.e1 w1.heap.size 3 (J O ga); have u1p0A3 := kca u1p03; have hz1 := cell_size u1r0))
  | (go_at_call 118; first | (with_reducible refine (HQa.out _).mono ?_; rintro e va ⟨rfl, hg_va⟩; obtain ⟨qar0, qarz0, qar1, qarz1⟩ := hg_va.y2 w.heap.size 0 1 (J O 0) (J Y 0); obtain ⟨qap00, qap01, qap02, qap03⟩ := hg_va.e4 w1.heap.size 0 1 2 3 (J Y 1) (J Y sa) (J Y xa) (J O ga); obtain ⟨qap10, qap11, qap12, qap13⟩ := hg_va.e4 w2.heap.size 0 1 2 3 (J Y 2) (J Y sb) (J Y xb) (J O gb)) | (with_reducible refine (HQb.out _).mono ?_; rintro e vb ⟨rfl, hg_vb⟩; obtain ⟨qbr0, qbrz0, qbr1, qbrz1⟩ := hg_vb.y2 w.heap.size 0 1 (J O 0) (J Y 0); obtain ⟨qbp00, qbp01, qbp02, qbp03⟩ := hg_vb.e4 w1.heap.size 0 1 2 3 (J Y 1) (J Y sa) (J Y xa) (J O ga); obtain ⟨qbp10, qbp11, qbp12, qbp13⟩ := hg_vb.e4 w2.heap.size 0 1 2 3 (J Y 2) (J Y sb) (J Y xb) (J O gb)))
  | (go_at_call 64; refine (HL.out _).mono ?_; rintro e w9 ⟨rfl, hg_w9⟩; obtain ⟨zr0, zrz0, zr1, zrz1⟩ := hg_w9.y2 w.heap.size 0 1 (J O 0) (J Y 0)))
 refine bodyPost_ret (v := V #[J O z, J Y fl]) (by simp [results, Tryz.results91, go_sem, zr0, zr1]) rfl ⟨rfl, ?_⟩
 exact Gb.g
theorem sDiv_10 (f mode a b ca sa xa ga cb sb xb gb : Int) (HF : KW 117 #[J Y f, J Y mode, J O a, J O b] (I true)) (HUa : KR 31 #[J Y f, J O a] (V #[J Y ca, J Y sa, J Y xa, J O ga])) (HUb : KR 31 #[J Y f, J O b] (V #[J Y cb, J Y sb, J Y xb, J O gb])) (HQa : KR 118 #[V #[J Y ca, J Y sa, J Y xa, J O ga]] (I false)) (HQb : KR 118 #[V #[J Y cb, J Y sb, J Y xb, J O gb]] (I false)) (e1 : ca = 1) (e2 : cb = 0) (sp : Int) (a0 : 0 ≤ sa) (a1 : sa ≤ 1) (b0 : 0 ≤ sb) (b1 : sb ≤ 1) (hm1 : (sa + sb).tmod 2 = sp) (hm2 : (sa + sb) % 2 = sp) (inf z : Int) (HI : KW 112 #[J Y f] (J O inf)) (HP : KW 151 #[J Y f, J Y sp, J O inf] (J O z)) (w : World) :
  QB 91 #[J Y f, J Y mode, J O a, J O b] w (V #[J O z, J Y 2]) := by
 subst e1 e2
 go_enter Tryz.func91, Tryz.ntmps91
 go_wp2_with (first
  | (go_at_call 117; refine kw (HF.out _) ?_)
  | (go_at_call 31; first | (with_reducible refine (HUa.out _).mono ?_; rintro e w1 ⟨rfl, hg_w1⟩; obtain ⟨u0r0, u0rz0, u0r1, u0rz1⟩ := hg_w1.y2 w.heap.size 0 1 (J O 0) (J Y 0); have hz0 := cell_size u0r0) | (with_reducible refine (HUb.out _).mono ?_; rintro e w2 ⟨rfl, hg_w2⟩; obtain ⟨u1r0, u1rz0, u1r1, u1rz1⟩ := hg_w2.y2 w.heap.size 0 1 (J O 0) (J Y 0); have u1p00 := hg_w2.e1 w1.heap.size 0 (J Y 1); have u1p0A0 := kca u1p00; have u1p01 := hg_w2.e1 w1.heap.size 1 (J Y sa); have u1p0A1 := kca u1p01; have u1p02 := hg_w2.e1 w1.heap.size 2 (J Y xa); have u1p0A2 := kca u1p02; have u1p03 := hg_w2.e1 w1.heap.size 3 (J O ga); have u1p0A3 := kca u1p03; have hz1 := cell_size u1r0))
  | (go_at_call 118; first | (with_reducible refine (HQa.out _).mono ?_; rintro e va ⟨rfl, hg_va⟩; obtain ⟨qar0, qarz0, qar1, qarz1⟩ := hg_va.y2 w.heap.size 0 1 (J O 0) (J Y 0); obtain ⟨qap00, qap01, qap02, qap03⟩ := hg_va.e4 w1.heap.size 0 1 2 3 (J Y 1) (J Y sa) (J Y xa) (J O ga); obtain ⟨qap10, qap11, qap12, qap13⟩ := hg_va.e4 w2.heap.size 0 1 2 3 (J Y 0) (J Y sb) (J Y xb) (J O gb)) | (with_reducible refine (HQb.out _).mono ?_; rintro e vb ⟨rfl, hg_vb⟩; obtain ⟨qbr0, qbrz0, qbr1, qbrz1⟩ := hg_vb.y2 w.heap.size 0 1 (J O 0) (J Y 0); obtain ⟨qbp00, qbp01, qbp02, qbp03⟩ := hg_vb.e4 w1.heap.size 0 1 2 3 (J Y 1) (J Y sa) (J Y xa) (J O ga); obtain ⟨qbp10, qbp11, qbp12, qbp13⟩ := hg_vb.e4 w2.heap.size 0 1 2 3 (J Y 0) (J Y sb) (J Y xb) (J O gb)))
  | (go_at_call 112; refine kw (HI.out _) ?_)
  | (go_at_call 151; refine kw (HP.out _) ?_))
 refine bodyPost_ret (v := V #[J O z, J Y 2]) (by simp [results, Tryz.results91, go_sem, qbr0, qbr1]) rfl ⟨rfl, ?_⟩
 exact Gb.g
def quoM (p : Nat) (A B : Nat) : Nat := 2 * (A * 2 ^ (p + 4) / B) + oneIf (decide (A * 2 ^ (p + 4) % B ≠ 0))
def divO (p mode : Int) (x y : Opd) : Opd :=
 if 3 ≤ max x.c y.c then ⟨max x.c y.c, 0, 0, 0⟩
 else if x.c = y.c ∧ x.c ≠ 1 then ⟨4, 0, 0, 0⟩
 else if x.c = 2 then ⟨2, mulS x.s y.s, 0, 0⟩
 else if x.c = 1 ∧ y.c = 0 then ⟨5, mulS x.s y.s, 0, 0⟩
 else if x.c = 1 ∧ y.c = 1 then ⟨1, mulS x.s y.s, x.e - y.e - (p + 4) - 1, quoM p.toNat x.M y.M⟩
 else ⟨0, mulS x.s y.s, 0, 0⟩
theorem divO_nan (p mode : Int) (x y : Opd) (h : 3 ≤ max x.c y.c) : divO p mode x y = ⟨max x.c y.c, 0, 0, 0⟩ := by unfold divO; rw [if_pos h]
theorem divO_c (p mode : Int) (x y : Opd) (hx : VO x) (hy : VO y) : 0 ≤ (divO p mode x y).c ∧ (divO p mode x y).c ≤ 5 := by
 have := hx.c0
 have := hx.c4
 have := hy.c0
 have := hy.c4
 unfold divO
 split
 ·dsimp only; omega
 ·split
  ·exact ⟨by dsimp only; omega, by dsimp only; omega⟩
  ·split
   ·exact ⟨by dsimp only; omega, by dsimp only; omega⟩
   ·split
    ·exact ⟨by dsimp only; omega, by dsimp only; omega⟩
    ·split
     ·exact ⟨by dsimp only; omega, by dsimp only; omega⟩
     ·exact ⟨by dsimp only; omega, by dsimp only; omega⟩
theorem mulS_01 (s t : Int) : mulS s t = 0 ∨ mulS s t = 1 := by unfold mulS; split <;> simp
theorem mulS_mod (s t : Int) (hs : s = 0 ∨ s = 1) (ht : t = 0 ∨ t = 1) : (s + t).tmod 2 = mulS s t ∧ (s + t) % 2 = mulS s t := by
 rcases hs with rfl | rfl <;> rcases ht with rfl | rfl <;> decide
theorem quo_round {p : Int} {Pn A B : Nat} (hP : (Pn : Int) = p) (hP1 : 1 ≤ Pn) (hA : 2 ^ (Pn - 1) ≤ A) (hB : B < 2 ^ Pn) (hB0 : 0 < B) (e : Int) :
  0 < A * 2 ^ (Pn + 2) / B ∧ p + 2 ≤ (nb (A * 2 ^ (Pn + 2) / B) : Int) ∧ 0 < A * 2 ^ (Pn + 4) / B ∧ p + 2 ≤ (nb (A * 2 ^ (Pn + 4) / B) : Int) ∧
  (∀ s mn mx one inf mode z fl, RoundIs p mn mx one inf mode s (A * 2 ^ (Pn + 2) / B) (e - (p + 2)) (decide (A * 2 ^ (Pn + 2) % B ≠ 0)) z fl ↔ RoundIs p mn mx one inf mode s (quoM Pn A B) (e - (p + 4) - 1) false z fl) ∧
  (∀ s mn mx one inf mode z fl, RoundIs p mn mx one inf mode s (A * 2 ^ (Pn + 4) / B) (e - (p + 4)) (decide (A * 2 ^ (Pn + 4) % B ≠ 0)) z fl ↔ RoundIs p mn mx one inf mode s (quoM Pn A B) (e - (p + 4) - 1) false z fl) := by
 have h1 : 2 ^ (Pn + 1) * B ≤ A * 2 ^ (Pn + 2) := by
  have a1 : 2 ^ (Pn + 1) * B ≤ 2 ^ (Pn + 1) * 2 ^ Pn := Nat.mul_le_mul_left _ (Nat.le_of_lt hB)
  have a2 : 2 ^ (Pn - 1) * 2 ^ (Pn + 2) ≤ A * 2 ^ (Pn + 2) := Nat.mul_le_mul_right _ hA
  rw [← Nat.pow_add] at a1 a2
  rw [show Pn - 1 + (Pn + 2) = Pn + 1 + Pn by omega] at a2
  omega
 have h2 : 2 ^ (Pn + 1) * B ≤ A * 2 ^ (Pn + 4) := Nat.le_trans h1 (Nat.mul_le_mul_left _ (Nat.pow_le_pow_right (by decide) (by omega)))
 have n1 := quo_big A B (Pn + 2) (Pn + 1) hB0 h1
 have n2 := quo_big A B (Pn + 4) (Pn + 1) hB0 h2
 have p1 : 0 < A * 2 ^ (Pn + 2) / B := by
  rcases Nat.eq_zero_or_pos (A * 2 ^ (Pn + 2) / B) with c | c
  ·rw [c, nb_zero] at n1; omega
  ·exact c
 have p2 : 0 < A * 2 ^ (Pn + 4) / B := by
  rcases Nat.eq_zero_or_pos (A * 2 ^ (Pn + 4) / B) with c | c
  ·rw [c, nb_zero] at n2; omega
  ·exact c
 obtain ⟨c1, c2⟩ := quo_cut A B (Pn + 2) 2 hB0
 refine ⟨p1, by omega, p2, by omega, fun s mn mx one inf mode z fl => ?_, fun s mn mx one inf mode z fl => ?_⟩
 ·have h := RoundIs.cut (p := p) (mn := mn) (mx := mx) (one := one) (inf := inf) (mode := mode) (sign := s) (m := A * 2 ^ (Pn + 2 + 2) / B) (e := e - (p + 4)) (z := z) (fl := fl) 2 (decide (A * 2 ^ (Pn + 2 + 2) % B ≠ 0)) (by rw [c1]; exact p1) (by omega) (by rw [c1]; omega) (decide (A * 2 ^ (Pn + 2) % B ≠ 0)) c2.symm
  rw [c1, show e - (p + 4) + ((2 : Nat) : Int) = e - (p + 2) by omega] at h
  exact h
 ·exact RoundIs.rest _ p2 (by omega) (by omega)
theorem specDiv_ok {f p mx one inf sg nan : Int} (h : IsFmt f p mx one inf sg nan) (mode a b : Int) (hm : 0 ≤ mode ∧ mode ≤ 4) (a0 : 0 ≤ a) (a1 : a < 18446744073709551616) (b0 : 0 ≤ b) (b1 : b < 18446744073709551616) {x y : Opd} (hx : OpdIs p mx one inf sg nan a x) (hy : OpdIs p mx one inf sg nan b y) (w : World) :
  CT 91 #[J Y f, J Y mode, J O a, J O b] w fun e w' => ∃ Z fl, PackD p (1 - mx) mx one inf sg nan mode (divO p mode x y) Z fl ∧ e = E (V #[J O Z, J Y fl]) ∧ Gb w w' := by
 obtain ⟨v1, v2, v3, v4, v5, v6⟩ := opd_vo h hx
 obtain ⟨u1, u2, u3, u4, u5, u6⟩ := opd_vo h hy
 have xc0 := v1.c0
 have xc4 := v1.c4
 have yc0 := u1.c0
 have yc4 := u1.c4
 have hb := h.bounds
 have hms := mulS_01 x.s y.s
 obtain ⟨hm1, hm2⟩ := mulS_mod x.s y.s v1.s01 u1.s01
 have sa0 : 0 ≤ x.s := by have := v1.s01; omega
 have sa1 : x.s ≤ 1 := by have := v1.s01; omega
 have sb0 : 0 ≤ y.s := by have := u1.s01; omega
 have sb1 : y.s ≤ 1 := by have := u1.s01; omega
 have fx : x.c = 1 → _ := opd_fin h hx
 have fy : y.c = 1 → _ := opd_fin h hy
 by_cases hfit : a < 2 * sg ∧ b < 2 * sg
 ·obtain ⟨fa, fb'⟩ := hfit
  have HF : KW 117 #[J Y f, J Y mode, J O a, J O b] (I true) := fun w => l3Fits_yes h mode a b hm.1 hm.2 a0 fa b0 fb' w
  have HUa := unp_det h a a0 fa hx
  have HUb := unp_det h b b0 fb' hy
  have HQ : ∀ (z : Opd) (t : Bool), t = decide (3 ≤ z.c) → KR 118 #[V #[J Y z.c, J Y z.s, J Y z.e, J O (((z.M : Nat) : Int))]] (I t) := fun z t ht w => l3Quiet_any _ _ _ _ t ht w
  have HNan : ∀ t : Bool, KR 119 #[J Y f, I t] (V #[J O nan, J Y (if t then 1 else 0)]) := fun t w => l3Nan_any h t _ rfl w
  by_cases c1 : 3 ≤ x.c
  ·rw [divO_nan p mode x y (by omega)]
   by_cases c2 : x.c = 4
   ·refine (sDiv_nan1 f mode a b _ _ _ _ _ _ _ _ HF HUa HUb (HQ x true (by simp [c1])) (by simp [c2]) nan _ (HNan true) w).mono ?_
    rintro e w' ⟨rfl, hg⟩
    exact ⟨_, _, .inl (nan_pack _ true (by simp; omega) (by omega) (by omega)), rfl, hg⟩
   ·refine (sDiv_nan2 f mode a b _ _ _ _ _ _ _ _ HF HUa HUb (HQ x true (by simp [c1])) (by simp [c2]) (decide (y.c = 4)) (bq _ _) nan _ (HNan _) w).mono ?_
    rintro e w' ⟨rfl, hg⟩
    exact ⟨_, _, .inl (nan_pack _ _ (by rw [decide_eq_decide]; omega) (by omega) (by omega)), rfl, hg⟩
  ·by_cases c2 : 3 ≤ y.c
   ·rw [divO_nan p mode x y (by omega)]
    refine (sDiv_nan3 f mode a b _ _ _ _ _ _ _ _ HF HUa HUb (HQ x false (by simp; omega)) (HQ y true (by simp [c2])) (by simp; omega) (decide (y.c = 4)) (bq _ _) nan _ (HNan _) w).mono ?_
    rintro e w' ⟨rfl, hg⟩
    exact ⟨_, _, .inl (nan_pack _ _ (by rw [decide_eq_decide]; omega) (by omega) (by omega)), rfl, hg⟩
   ·have hQa := HQ x false (by simp; omega)
    have hQb := HQ y false (by simp; omega)
    unfold divO
    rw [if_neg (show ¬ 3 ≤ max x.c y.c by omega)]
    rcases (show x.c = 0 ∨ x.c = 1 ∨ x.c = 2 by omega) with cx | cx | cx <;> rcases (show y.c = 0 ∨ y.c = 1 ∨ y.c = 2 by omega) with cy | cy | cy
    ·rw [if_pos (show x.c = y.c ∧ x.c ≠ 1 by omega)]
     refine (sDiv_00 f mode a b _ _ _ _ _ _ _ _ HF HUa HUb hQa hQb cx cy nan 1 (fun w => l2Bad_fmt h w) w).mono ?_
     rintro e w' ⟨rfl, hg⟩
     exact ⟨_, _, .inl (bad_nan rfl), rfl, hg⟩
    ·rw [if_neg (show ¬ (x.c = y.c ∧ x.c ≠ 1) by omega), if_neg (show ¬ x.c = 2 by omega), if_neg (show ¬ (x.c = 1 ∧ y.c = 0) by omega), if_neg (show ¬ (x.c = 1 ∧ y.c = 1) by omega)]
     refine (sDiv_01 f mode a b _ _ _ _ _ _ _ _ HF HUa HUb hQa hQb cx cy _ sa0 sa1 sb0 sb1 hm1 hm2 (sw (mulS x.s y.s) sg 0) 0 (fun w => l3Zero_any h _ hms w) w).mono ?_
     rintro e w' ⟨rfl, hg⟩
     exact ⟨_, _, .inl (.inl ⟨rfl, rfl, rfl⟩), rfl, hg⟩
    ·rw [if_neg (show ¬ (x.c = y.c ∧ x.c ≠ 1) by omega), if_neg (show ¬ x.c = 2 by omega), if_neg (show ¬ (x.c = 1 ∧ y.c = 0) by omega), if_neg (show ¬ (x.c = 1 ∧ y.c = 1) by omega)]
     refine (sDiv_02 f mode a b _ _ _ _ _ _ _ _ HF HUa HUb hQa hQb cx cy _ sa0 sa1 sb0 sb1 hm1 hm2 (sw (mulS x.s y.s) sg 0) 0 (fun w => l3Zero_any h _ hms w) w).mono ?_
     rintro e w' ⟨rfl, hg⟩
     exact ⟨_, _, .inl (.inl ⟨rfl, rfl, rfl⟩), rfl, hg⟩
    ·rw [if_neg (show ¬ (x.c = y.c ∧ x.c ≠ 1) by omega), if_neg (show ¬ x.c = 2 by omega), if_pos ⟨cx, cy⟩]
     refine (sDiv_10 f mode a b _ _ _ _ _ _ _ _ HF HUa HUb hQa hQb cx cy _ sa0 sa1 sb0 sb1 hm1 hm2 inf (sw (mulS x.s y.s) sg inf) (fun w => l2Inf_any h w) (fun w => l2Put_any h _ _ _ ?_ (by omega) (by omega) w) w).mono ?_
     ·rcases hms with c | c
      ·exact .inl ⟨c, by rw [c]; simp [sw]⟩
      ·exact .inr ⟨c, by rw [c]; simp [sw]⟩
     ·rintro e w' ⟨rfl, hg⟩
      exact ⟨_, _, .inr ⟨rfl, rfl, rfl⟩, rfl, hg⟩
    ·rw [if_neg (show ¬ (x.c = y.c ∧ x.c ≠ 1) by omega), if_neg (show ¬ x.c = 2 by omega), if_neg (show ¬ (x.c = 1 ∧ y.c = 0) by omega), if_pos ⟨cx, cy⟩]
     obtain ⟨Pn, hP, hP1, hP53, hA, hA2⟩ := fx cx
     obtain ⟨Pn', hP', _, _, hB, hB2⟩ := fy cy
     obtain rfl : Pn = Pn' := by omega
     have hB0 : 0 < y.M := Nat.lt_of_lt_of_le (Nat.pow_pos (by decide)) hB
     obtain ⟨r1, r2, r3, r4, r5, r6⟩ := quo_round hP hP1 hA hB2 hB0 (x.e - y.e)
     rw [show p.toNat = Pn by omega]
     have e4 : x.e - y.e - (((Pn + 4 : Nat)) : Int) = x.e - y.e - (p + 4) := by omega
     refine sDiv_11 f mode a b _ _ _ _ _ _ _ _ HF HUa HUb hQa hQb cx cy _ sa0 sa1 sb0 sb1 hm1 hm2 (x.e - y.e - (p + 4)) (decide (x.M * 2 ^ (Pn + 4) % y.M ≠ 0)) (x.M * 2 ^ (Pn + 4) / y.M) (fun w => ?_) _ (fun v w hB => round_atD h mode hm.1 hm.2 ⟨1, mulS x.s y.s, x.e - y.e - (p + 4) - 1, quoM Pn x.M y.M⟩ rfl hms _ r3 (x.e - y.e - (p + 4)) (by omega) (by omega) _ r4 (fun mn mx one inf mode z fl => r6 _ _ _ _ _ _ _ _) 8 (by omega) v w hB) w
     have hq := l4Quotient_any h 1 x.s x.e 1 y.s y.e x.M y.M (by omega) (by omega) hB0 sa0 sa1 sb0 sb1 _ hm1 hm2 (by omega) (by omega) (by omega) (by omega) (Pn + 4) (by omega) w
     rw [e4] at hq
     exact hq
    ·rw [if_neg (show ¬ (x.c = y.c ∧ x.c ≠ 1) by omega), if_neg (show ¬ x.c = 2 by omega), if_neg (show ¬ (x.c = 1 ∧ y.c = 0) by omega), if_neg (show ¬ (x.c = 1 ∧ y.c = 1) by omega)]
     refine (sDiv_12 f mode a b _ _ _ _ _ _ _ _ HF HUa HUb hQa hQb cx cy _ sa0 sa1 sb0 sb1 hm1 hm2 (sw (mulS x.s y.s) sg 0) 0 (fun w => l3Zero_any h _ hms w) w).mono ?_
     rintro e w' ⟨rfl, hg⟩
     exact ⟨_, _, .inl (.inl ⟨rfl, rfl, rfl⟩), rfl, hg⟩
    ·rw [if_neg (show ¬ (x.c = y.c ∧ x.c ≠ 1) by omega), if_pos cx]
     refine (sDiv_20 f mode a b _ _ _ _ _ _ _ _ HF HUa HUb hQa hQb cx cy _ sa0 sa1 sb0 sb1 hm1 hm2 (sw (mulS x.s y.s) sg inf) 0 (fun w => l3Infinity_any h _ hms w) w).mono ?_
     rintro e w' ⟨rfl, hg⟩
     exact ⟨_, _, .inl (.inr (.inr (.inl ⟨rfl, rfl, rfl⟩))), rfl, hg⟩
    ·rw [if_neg (show ¬ (x.c = y.c ∧ x.c ≠ 1) by omega), if_pos cx]
     refine (sDiv_21 f mode a b _ _ _ _ _ _ _ _ HF HUa HUb hQa hQb cx cy _ sa0 sa1 sb0 sb1 hm1 hm2 (sw (mulS x.s y.s) sg inf) 0 (fun w => l3Infinity_any h _ hms w) w).mono ?_
     rintro e w' ⟨rfl, hg⟩
     exact ⟨_, _, .inl (.inr (.inr (.inl ⟨rfl, rfl, rfl⟩))), rfl, hg⟩
    ·rw [if_pos (show x.c = y.c ∧ x.c ≠ 1 by omega)]
     refine (sDiv_22 f mode a b _ _ _ _ _ _ _ _ HF HUa HUb hQa hQb cx cy nan 1 (fun w => l2Bad_fmt h w) w).mono ?_
     rintro e w' ⟨rfl, hg⟩
     exact ⟨_, _, .inl (bad_nan rfl), rfl, hg⟩
 ·refine (sDiv_bad f mode a b (fun w => l3Fits_no f mode a b a0 a1 b0 b1 (nofit_of h a1 b1 (by omega)) w) nan 1 (fun w => l2Bad_fmt h w) w).mono ?_
  rintro e w' ⟨rfl, hg⟩
  refine ⟨_, _, ?_, rfl, hg⟩
  have : max x.c y.c = 4 := by
   rcases (show 2 * sg ≤ a ∨ 2 * sg ≤ b by omega) with c | c
   ·have := opd_wide h hx c; subst this; dsimp only at *; omega
   ·have := opd_wide h hy c; subst this; dsimp only at *; omega
  rw [divO_nan p mode x y (by omega)]
  exact .inl (bad_nan this)
theorem specDiv_any (f mode a b : Int) (a0 : 0 ≤ a) (a1 : a < 18446744073709551616) (b0 : 0 ≤ b) (b1 : b < 18446744073709551616) (w : World) :
  CT 91 #[J Y f, J Y mode, J O a, J O b] w fun e w' => ∃ Z fl, OpRD divO f mode a b Z fl ∧ e = E (V #[J O Z, J Y fl]) ∧ Gb w w' := by
 by_cases hf : f = 0 ∨ f = 1
 ·obtain ⟨p, mx, one, inf, sg, nan, hF⟩ := fmt_of f hf
  by_cases hm : 0 ≤ mode ∧ mode ≤ 4
  ·obtain ⟨x, hx⟩ := opd_ex hF a a0 a1
   obtain ⟨y, hy⟩ := opd_ex hF b b0 b1
   refine (specDiv_ok hF mode a b hm a0 a1 b0 b1 hx hy w).mono ?_
   rintro e w' ⟨Z, fl, hp, rfl, hg⟩
   exact ⟨_, _, .inl ⟨p, mx, one, inf, sg, nan, x, y, hF, hm, hx, hy, hp⟩, rfl, hg⟩
  ·refine (sDiv_bad f mode a b (fun w => l3Fits_no f mode a b a0 a1 b0 b1 (.inl (by omega)) w) nan 1 (fun w => l2Bad_fmt hF w) w).mono ?_
   rintro e w' ⟨rfl, hg⟩
   exact ⟨_, _, .inr (.inl ⟨p, mx, one, inf, sg, nan, hF, by omega, rfl, rfl⟩), rfl, hg⟩
 ·refine (sDiv_bad f mode a b (fun w => l3Fits_no f mode a b a0 a1 b0 b1 (.inr (.inl hf)) w) _ 1 (fun w => l2Bad_no f hf w) w).mono ?_
  rintro e w' ⟨rfl, hg⟩
  exact ⟨_, _, .inr (.inr ⟨hf, rfl, rfl⟩), rfl, hg⟩
theorem quotient_any {f p mx one inf sg nan : Int} (hF : IsFmt f p mx one inf sg nan) (mn md : Int) (k : Nat) {a b : Int} {x y : Opd} (hx : OpdIs p mx one inf sg nan a x) (hy : OpdIs p mx one inf sg nan b y) (h3 : max x.c y.c < 3) (w : World) :
  CT 179 #[V #[J Y p, J Y mn, J Y mx, J Y md, .func (.func k) #[] #[]], V #[J Y x.s, J Y x.e, J Y x.c, J O (((x.M / 18446744073709551616 : Nat) : Int)), J O (((x.M % 18446744073709551616 : Nat) : Int)), I false, J Y 0], V #[J Y y.s, J Y y.e, J Y y.c, J O (((y.M / 18446744073709551616 : Nat) : Int)), J O (((y.M % 18446744073709551616 : Nat) : Int)), I false, J Y 0]] w fun e w' => ∃ os oe oc oh ol ot of, SameP p (divO p md x y) os oe oc oh ol ot of ∧ e = E (V #[J Y os, J Y oe, J Y oc, J O oh, J O ol, I ot, J Y of]) ∧ Gr w w' := by
 obtain ⟨v1, v2, v3, v4, v5, v6⟩ := opd_vo hF hx
 obtain ⟨u1, u2, u3, u4, u5, u6⟩ := opd_vo hF hy
 have hpb : 24 ≤ p ∧ p ≤ 53 := by have := hF.bounds; omega
 have HT : Hid (∀ w, QR 220 #[V #[J Y x.s, J Y x.e], V #[J Y y.s, J Y y.e]] w (V #[J Y (mulS x.s y.s), J Y (x.e - y.e)])) := fun w => through_any x.s x.e y.s y.e v1.s01 u1.s01 (by omega) (by omega) (by omega) (by omega) w
 have hms := mulS_01 x.s y.s
 have fx : x.c = 1 → _ := opd_fin hF hx
 have fy : y.c = 1 → _ := opd_fin hF hy
 have c0 := v1.c0
 have d0 := u1.c0
 obtain ⟨cx, sx, ex, Mx⟩ := x
 obtain ⟨cy, sy, ey, My⟩ := y
 dsimp only at *
 rcases (show cx = 0 ∨ cx = 1 ∨ cx = 2 by omega) with rfl | rfl | rfl <;> rcases (show cy = 0 ∨ cy = 1 ∨ cy = 2 by omega) with rfl | rfl | rfl
 ·rw [show divO p md ⟨0, sx, ex, Mx⟩ ⟨0, sy, ey, My⟩ = ⟨4, 0, 0, 0⟩ from by unfold divO; dsimp only; rw [if_neg (by decide), if_pos (by decide)]]
  refine (quotient_00 p mn mx md k _ _ _ _ _ _ _ _ _ _ _ _ HT w).mono ?_
  rintro r w' ⟨rfl, hg⟩
  exact ⟨_, _, _, _, _, _, _, SameP.nan p 4 (by omega) (by omega), rfl, hg⟩
 ·rw [show divO p md ⟨0, sx, ex, Mx⟩ ⟨1, sy, ey, My⟩ = ⟨0, mulS sx sy, 0, 0⟩ from by unfold divO; dsimp only; rw [if_neg (by decide), if_neg (by decide), if_neg (by decide), if_neg (by decide), if_neg (by decide)]]
  refine (quotient_01 p mn mx md k _ _ _ _ _ _ _ _ _ _ _ _ HT w).mono ?_
  rintro r w' ⟨rfl, hg⟩
  exact ⟨_, _, _, _, _, _, _, SameP.flat p _ _ _ 0 _ rfl (by omega) (by omega) (by omega) (fun _ => ⟨rfl, hms⟩), rfl, hg⟩
 ·rw [show divO p md ⟨0, sx, ex, Mx⟩ ⟨2, sy, ey, My⟩ = ⟨0, mulS sx sy, 0, 0⟩ from by unfold divO; dsimp only; rw [if_neg (by decide), if_neg (by decide), if_neg (by decide), if_neg (by decide), if_neg (by decide)]]
  refine (quotient_02 p mn mx md k _ _ _ _ _ _ _ _ _ _ _ _ HT w).mono ?_
  rintro r w' ⟨rfl, hg⟩
  exact ⟨_, _, _, _, _, _, _, SameP.flat p _ _ _ 0 _ rfl (by omega) (by omega) (by omega) (fun _ => ⟨rfl, hms⟩), rfl, hg⟩
 ·rw [show divO p md ⟨1, sx, ex, Mx⟩ ⟨0, sy, ey, My⟩ = ⟨5, mulS sx sy, 0, 0⟩ from by unfold divO; dsimp only; rw [if_neg (by decide), if_neg (by decide), if_neg (by decide), if_pos (by decide)]]
  refine (quotient_10 p mn mx md k _ _ _ _ _ _ _ _ _ _ _ _ HT w).mono ?_
  rintro r w' ⟨rfl, hg⟩
  exact ⟨_, _, _, _, _, _, _, .inr (.inl ⟨rfl, rfl, rfl, hms, rfl⟩), rfl, hg⟩
 ·rw [show divO p md ⟨1, sx, ex, Mx⟩ ⟨1, sy, ey, My⟩ = ⟨1, mulS sx sy, ex - ey - (p + 4) - 1, quoM p.toNat Mx My⟩ from by unfold divO; dsimp only; rw [if_neg (by decide), if_neg (by decide), if_neg (by decide), if_neg (by decide), if_pos (by decide)]]
  obtain ⟨Pn, hP, hP1, hP53, hA, hA2⟩ := fx rfl
  obtain ⟨Pn', hP', _, _, hB, hB2⟩ := fy rfl
  obtain rfl : Pn = Pn' := by omega
  have hB0 : 0 < My := Nat.lt_of_lt_of_le (Nat.pow_pos (by decide)) hB
  obtain ⟨r1, r2, r3, r4, r5, r6⟩ := quo_round hP hP1 hA hB2 hB0 (ex - ey)
  have hAB : Mx < 2 * My := by
   have : 2 ^ Pn = 2 * 2 ^ (Pn - 1) := by rw [← Nat.pow_succ', show (Pn - 1).succ = Pn by omega]
   omega
  obtain ⟨d1, d2⟩ := quo_digits Mx My (Pn + 2) hAB (by omega)
  have hC : Mx * 2 ^ (Pn + 2) / My < 18446744073709551616 := by
   have h1 : Mx * 2 ^ (Pn + 2) < My * 2 ^ (Pn + 3) := by
    have : 2 ^ (Pn + 3) = 2 * 2 ^ (Pn + 2) := by rw [← Nat.pow_succ']
    rw [this, ← Nat.mul_assoc, Nat.mul_comm My 2]
    exact Nat.mul_lt_mul_of_pos_right hAB (Nat.pow_pos (by decide))
   have h2 : Mx * 2 ^ (Pn + 2) / My < 2 ^ (Pn + 3) := by rw [Nat.div_lt_iff_lt_mul hB0, Nat.mul_comm (2 ^ (Pn + 3))]; exact h1
   have h3 : 2 ^ (Pn + 3) ≤ 2 ^ 56 := Nat.pow_le_pow_right (by decide) (by omega)
   have h4 : 2 ^ 56 < 18446744073709551616 := by decide
   omega
  rw [Nat.mod_eq_of_lt hC] at d2
  rw [show p.toNat = Pn by omega]
  refine (quotient_11 p mn mx md k sx ex _ _ sy ey _ _ _ _ _ _ HT Mx My (by rw [Nat.mod_eq_of_lt (by omega)]) (by rw [Nat.mod_eq_of_lt (by omega)]) (by omega) (by omega) (mulS sx sy) (ex - ey - (p + 2)) 1 0 _ _ (fun w v hd => cut_any p mn mx md k (mulS sx sy) (ex - ey) (by omega) (by omega) (by omega) (by omega) (by omega) hd (Pn + 3) (by omega)) w).mono ?_
  rintro r w' ⟨rfl, hg⟩
  refine ⟨_, _, _, _, _, _, _, .inl ⟨Mx * 2 ^ (Pn + 2) / My, ?_, ?_, rfl, rfl, (show (0 : Int) ≤ 1 by omega), (show (1 : Int) ≤ 4 by omega), fun _ => ⟨rfl, hms⟩, fun _ => ⟨r1, by omega, fun _ => r2, by omega, by omega, fun mn mx one inf mode z fl => ?_⟩⟩, rfl, hg⟩
  ·rw [Nat.div_eq_of_lt hC]; rfl
  ·rw [Nat.mod_eq_of_lt hC, show Pn + 3 = Pn + 2 + 1 from rfl, d2]
  ·rw [show Pn + 3 - 1 = Pn + 2 from rfl, d1]
   exact r5 _ _ _ _ _ _ _ _
 ·rw [show divO p md ⟨1, sx, ex, Mx⟩ ⟨2, sy, ey, My⟩ = ⟨0, mulS sx sy, 0, 0⟩ from by unfold divO; dsimp only; rw [if_neg (by decide), if_neg (by decide), if_neg (by decide), if_neg (by decide), if_neg (by decide)]]
  refine (quotient_12 p mn mx md k _ _ _ _ _ _ _ _ _ _ _ _ HT w).mono ?_
  rintro r w' ⟨rfl, hg⟩
  exact ⟨_, _, _, _, _, _, _, SameP.flat p _ _ _ 0 _ rfl (by omega) (by omega) (by omega) (fun _ => ⟨rfl, hms⟩), rfl, hg⟩
 ·rw [show divO p md ⟨2, sx, ex, Mx⟩ ⟨0, sy, ey, My⟩ = ⟨2, mulS sx sy, 0, 0⟩ from by unfold divO; dsimp only; rw [if_neg (by decide), if_neg (by decide), if_pos (by decide)]]
  refine (quotient_20 p mn mx md k _ _ _ _ _ _ _ _ _ _ _ _ HT w).mono ?_
  rintro r w' ⟨rfl, hg⟩
  exact ⟨_, _, _, _, _, _, _, SameP.flat p _ _ _ 2 _ rfl (by omega) (by omega) (by omega) (fun _ => ⟨rfl, hms⟩), rfl, hg⟩
 ·rw [show divO p md ⟨2, sx, ex, Mx⟩ ⟨1, sy, ey, My⟩ = ⟨2, mulS sx sy, 0, 0⟩ from by unfold divO; dsimp only; rw [if_neg (by decide), if_neg (by decide), if_pos (by decide)]]
  refine (quotient_21 p mn mx md k _ _ _ _ _ _ _ _ _ _ _ _ HT w).mono ?_
  rintro r w' ⟨rfl, hg⟩
  exact ⟨_, _, _, _, _, _, _, SameP.flat p _ _ _ 2 _ rfl (by omega) (by omega) (by omega) (fun _ => ⟨rfl, hms⟩), rfl, hg⟩
 ·rw [show divO p md ⟨2, sx, ex, Mx⟩ ⟨2, sy, ey, My⟩ = ⟨4, 0, 0, 0⟩ from by unfold divO; dsimp only; rw [if_neg (by decide), if_pos (by decide)]]
  refine (quotient_22 p mn mx md k _ _ _ _ _ _ _ _ _ _ _ _ HT w).mono ?_
  rintro r w' ⟨rfl, hg⟩
  exact ⟨_, _, _, _, _, _, _, SameP.nan p 4 (by omega) (by omega), rfl, hg⟩
theorem implDiv_any (f mode a b : Int) (a0 : 0 ≤ a) (a1 : a < 18446744073709551616) (b0 : 0 ≤ b) (b1 : b < 18446744073709551616) (w : World) (hw : Fm w) :
  CT 92 #[J Y f, J Y mode, J O a, J O b] w fun e w' => ∃ Z fl, OpRD divO f mode a b Z fl ∧ e = E (V #[J O Z, J Y fl]) ∧ Gr w w' := by
 refine implDiv_of f mode a b (OpRD divO f mode a b) (fun w' hg => ?_)
 have hw' := hw.gr hg
 by_cases hf : f = 0 ∨ f = 1
 ·obtain ⟨p, mx, one, inf, sg, nan, hF⟩ := fmt_of f hf
  obtain ⟨mn, fb, sp, hM, hmn, hfb⟩ := hF.m
  by_cases hm : 0 ≤ mode ∧ mode ≤ 4
  ·obtain ⟨k, hk⟩ := rule_of mode hm.1 hm.2
   obtain ⟨x, hx, HA⟩ := opd_is hF hM a a0 a1
   obtain ⟨y, hy, HB⟩ := opd_is hF hM b b0 b1
   obtain ⟨v1, v2, v3, v4, v5, v6⟩ := opd_vo hF hx
   obtain ⟨u1, u2, u3, u4, u5, u6⟩ := opd_vo hF hy
   refine (calc_okf p mn mx mode f k 179 a b _ _ _ _ _ _ _ _ _ _ _ _ (fun w'' hg' => settingOf_yes hF hM mode k (fun w => ruleOf_yes mode k hk w) (hw'.gr hg')) HA HB (SameP p (divO p mode x y)) (fun w => ?_) (PackD p mn mx one inf sg nan mode (divO p mode x y)) (fun os oe oc oh ol ot of w hq => pack_anyD hM mode k hk _ os oe oc oh ol ot of hq w)).mono ?_
   ·by_cases h3 : 3 ≤ max x.c y.c
    ·refine (combine_nan p mn mx mode k _ _ _ _ _ _ _ _ _ _ _ _ 179 _ rfl h3 w).mono ?_
     rintro e w' ⟨rfl, hg⟩
     rw [divO_nan p mode x y h3]
     exact ⟨_, _, _, _, _, _, _, SameP.nan p _ h3 (by have := v1.c4; have := u1.c4; omega), rfl, hg⟩
    ·exact combine_quotient p mn mx mode k _ _ _ _ _ _ _ _ _ _ _ _ _ rfl (by omega) _ (fun w => quotient_any hF mn mode k hx hy (by omega) w) w
   ·rintro e w'' ⟨Z, fl, hp, rfl, hg'⟩
    rw [hmn] at hp
    exact ⟨_, _, .inl ⟨p, mx, one, inf, sg, nan, x, y, hF, hm, hx, hy, hp⟩, rfl, hg'⟩
  ·refine (calc_no p mn mx mode nan f mode a b (fun w'' hg' => settingOf_bad hF hM mode (fun w => ruleOf_no mode (by omega) w) (hw'.gr hg')) (fun w => invalid_any hM w) 179).mono ?_
   rintro e w'' ⟨rfl, hg'⟩
   exact ⟨_, _, .inr (.inl ⟨p, mx, one, inf, sg, nan, hF, by omega, rfl, rfl⟩), rfl, hg'⟩
 ·refine (calc_no _ _ _ _ _ f mode a b (fun w'' hg' => settingOf_none f mode hf (hw'.gr hg')) (fun w => invalid_any m64 w) 179).mono ?_
  rintro e w'' ⟨rfl, hg'⟩
  exact ⟨_, _, .inr (.inr ⟨hf, rfl, rfl⟩), rfl, hg'⟩
theorem div_same (f mode a b : Int) (a0 : 0 ≤ a) (a1 : a < 18446744073709551616) (b0 : 0 ≤ b) (b1 : b < 18446744073709551616) :
  ∃ Z fl : Int, OpRD divO f mode a b Z fl ∧ (∀ w, QB 91 #[J Y f, J Y mode, J O a, J O b] w (V #[J O Z, J Y fl])) ∧
   (∀ w, Fm w → QR 92 #[J Y f, J Y mode, J O a, J O b] w (V #[J O Z, J Y fl])) :=
 both_ofD divO 91 92 _ divO_c f mode a b a0 a1 b0 b1 (specDiv_any f mode a b a0 a1 b0 b1) (implDiv_any f mode a b a0 a1 b0 b1)
end Go.Proofs.YtnbbfeknbfohhaaGreatDoor
