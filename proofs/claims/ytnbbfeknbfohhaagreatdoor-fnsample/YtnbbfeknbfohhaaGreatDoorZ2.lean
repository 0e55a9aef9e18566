import Derived.Test.YtnbbfeknbfohhaaGreatDoorB8
import Derived.Test.YtnbbfeknbfohhaaGreatDoorC0
import Derived.Deep.DeepCutAuto
import Derived.Test.YtnbbfeknbfohhaaGreatDoorH5
import Derived.Test.YtnbbfeknbfohhaaGreatDoorG3
set_option linter.unusedVariables false
set_option linter.unusedSimpArgs false
namespace Go.Proofs.YtnbbfeknbfohhaaGreatDoor
open Go.RowKit
def SomeR (R : Int → Int → Prop) (F : Nat) (args : Array Value) : Prop := ∀ w, Calls Tryz.prog F args w fun e w' => ∃ z fl : Int, R z fl ∧ e = .returned (.agg #[.int .u64 z, .int .i64 fl]) ∧ Gr w w'
end Go.Proofs.YtnbbfeknbfohhaaGreatDoor
set_option maxHeartbeats 40000000
namespace Go.Proofs.YtnbbfeknbfohhaaGreatDoor
open Go.RowKit
set_option maxRecDepth 1000000 in
theorem sDiv_some (f mode a b ca sa xa ga cb sb xb gb sp xq inf : Int) (rest : Bool) (m : Nat) (qa qb : Bool) (R : Int → Int → Prop) (HF : KW 117 #[.int .i64 f, .int .i64 mode, .int .u64 a, .int .u64 b] (.bool true)) (HUa : KR 31 #[.int .i64 f, .int .u64 a] (.agg #[.int .i64 ca, .int .i64 sa, .int .i64 xa, .int .u64 ga])) (HUb : KR 31 #[.int .i64 f, .int .u64 b] (.agg #[.int .i64 cb, .int .i64 sb, .int .i64 xb, .int .u64 gb]))
  (HQa : KR 118 #[.agg #[.int .i64 ca, .int .i64 sa, .int .i64 xa, .int .u64 ga]] (.bool qa)) (HQb : KR 118 #[.agg #[.int .i64 cb, .int .i64 sb, .int .i64 xb, .int .u64 gb]] (.bool qb)) (HNa : Hid (∀ t, SomeR R 119 #[.int .i64 f, .bool t])) (HBa : Hid (SomeR R 63 #[.int .i64 f])) (HIn : Hid (SomeR R 167 #[.int .i64 f, .int .i64 sp])) (HZe : Hid (SomeR R 64 #[.int .i64 f, .int .i64 sp]))
  (HI : KW 112 #[.int .i64 f] (.int .u64 inf)) (HPu : Hid (∀ w, Calls Tryz.prog 151 #[.int .i64 f, .int .i64 sp, .int .u64 inf] w fun e w' => ∃ z : Int, R z 2 ∧ e = .returned (.int .u64 z) ∧ w = w'))
  (a0 : 0 ≤ sa) (a1 : sa ≤ 1) (b0 : 0 ≤ sb) (b1 : sb ≤ 1) (hm1 : (sa + sb).tmod 2 = sp) (hm2 : (sa + sb) % 2 = sp)
  (HM : Hid (ca = 1 ∧ cb = 1 → ∀ w, Calls Tryz.prog 178 #[.int .i64 f, .agg #[.int .i64 1, .int .i64 sa, .int .i64 xa, .int .u64 ga], .agg #[.int .i64 1, .int .i64 sb, .int .i64 xb, .int .u64 gb]] w fun e w' => ∃ bq kq qq, BigN 8 w' (.slice (some ⟨bq, 0, none⟩) kq qq) m ∧ e = .returned (.agg #[.int .i64 sp, .slice (some ⟨bq, 0, none⟩) kq qq, .int .i64 xq, .bool rest]) ∧ Gb w w'))
  (HR : Hid (ca = 1 ∧ cb = 1 → ∀ v w, BigN 8 w v m → Calls Tryz.prog 65 #[.int .i64 f, .int .i64 mode, .agg #[.int .i64 sp, v, .int .i64 xq, .bool rest]] w fun e w' => ∃ z fl, R z fl ∧ e = .returned (.agg #[.int .u64 z, .int .i64 fl]) ∧ Gb w w'))
  (hcase : qa = true ∧ (ca == 4) = true ∨ qa = true ∧ (ca == 4) = false ∧ (cb == 4) = true ∨ qa = true ∧ (ca == 4) = false ∧ (cb == 4) = false ∨ qa = false ∧ qb = true ∧ (ca == 4) = false ∧ (cb == 4) = true ∨ qa = false ∧ qb = true ∧ (ca == 4) = false ∧ (cb == 4) = false ∨
   qa = false ∧ qb = false ∧ Hid ((ca = 0 ∨ ca = 1 ∨ ca = 2) ∧ (cb = 0 ∨ cb = 1 ∨ cb = 2))) (w : World) :
  Calls Tryz.prog 91 #[.int .i64 f, .int .i64 mode, .int .u64 a, .int .u64 b] w fun e w' => ∃ z fl : Int, R z fl ∧ e = .returned (.agg #[.int .u64 z, .int .i64 fl]) ∧ Gb w w' := by
 rcases hcase with ⟨rfl, e1⟩ | ⟨rfl, e1, e2⟩ | ⟨rfl, e1, e2⟩ | ⟨rfl, rfl, e1, e2⟩ | ⟨rfl, rfl, e1, e2⟩ | ⟨rfl, rfl, HC⟩
 rotate_right
 ·go_enter Tryz.func91, Tryz.ntmps91
  go_upto_region 7 with (first
   | (go_at_call 117; refine kw (HF.out _) ?_)
   | (go_at_call 31; first | (with_reducible refine (HUa.out _).mono ?_; rintro e w1 ⟨rfl, hg_w1⟩; obtain ⟨u0r0, u0rz0, u0r1, u0rz1⟩ := hg_w1.y2 w.heap.size 0 1 (.int .u64 0) (.int .i64 0); have hz0 := cell_size u0r0) | (with_reducible refine (HUb.out _).mono ?_; rintro e w2 ⟨rfl, hg_w2⟩; obtain ⟨u1r0, u1rz0, u1r1, u1rz1⟩ := hg_w2.y2 w.heap.size 0 1 (.int .u64 0) (.int .i64 0); have u1p00 := hg_w2.e1 w1.heap.size 0 (.int .i64 ca); have u1p0A0 := kca u1p00; have u1p01 := hg_w2.e1 w1.heap.size 1 (.int .i64 sa); have u1p0A1 := kca u1p01; have u1p02 := hg_w2.e1 w1.heap.size 2 (.int .i64 xa); have u1p0A2 := kca u1p02; have u1p03 := hg_w2.e1 w1.heap.size 3 (.int .u64 ga); have u1p0A3 := kca u1p03; have hz1 := cell_size u1r0))
   | (go_at_call 118; first | (with_reducible refine (HQa.out _).mono ?_; rintro e va ⟨rfl, hg_va⟩; obtain ⟨qar0, qarz0, qar1, qarz1⟩ := hg_va.y2 w.heap.size 0 1 (.int .u64 0) (.int .i64 0); obtain ⟨qap00, qap01, qap02, qap03⟩ := hg_va.e4 w1.heap.size 0 1 2 3 (.int .i64 ca) (.int .i64 sa) (.int .i64 xa) (.int .u64 ga); obtain ⟨qap10, qap11, qap12, qap13⟩ := hg_va.e4 w2.heap.size 0 1 2 3 (.int .i64 cb) (.int .i64 sb) (.int .i64 xb) (.int .u64 gb)) | (with_reducible refine (HQb.out _).mono ?_; rintro e vb ⟨rfl, hg_vb⟩; obtain ⟨qbr0, qbrz0, qbr1, qbrz1⟩ := hg_vb.y2 w.heap.size 0 1 (.int .u64 0) (.int .i64 0); obtain ⟨qbp00, qbp01, qbp02, qbp03⟩ := hg_vb.e4 w1.heap.size 0 1 2 3 (.int .i64 ca) (.int .i64 sa) (.int .i64 xa) (.int .u64 ga); obtain ⟨qbp10, qbp11, qbp12, qbp13⟩ := hg_vb.e4 w2.heap.size 0 1 2 3 (.int .i64 cb) (.int .i64 sb) (.int .i64 xb) (.int .u64 gb))))
  obtain ⟨h1, h2⟩ := HC.out
  clear HC HUa HUb HQa HQb HF HNa
  rcases h1 with rfl | rfl | rfl <;> rcases h2 with rfl | rfl | rfl
  all_goals
   go_wp2_with (first
    | (go_at_call 63; refine (HBa.out _).mono ?_; rintro e w9 ⟨z, fl, hq, rfl, hg_w9⟩; obtain ⟨zr0, zrz0, zr1, zrz1⟩ := hg_w9.y2 w.heap.size 0 1 (.int .u64 0) (.int .i64 0))
    | (go_at_call 167; refine (HIn.out _).mono ?_; rintro e w9 ⟨z, fl, hq, rfl, hg_w9⟩; obtain ⟨zr0, zrz0, zr1, zrz1⟩ := hg_w9.y2 w.heap.size 0 1 (.int .u64 0) (.int .i64 0))
    | (go_at_call 64; refine (HZe.out _).mono ?_; rintro e w9 ⟨z, fl, hq, rfl, hg_w9⟩; obtain ⟨zr0, zrz0, zr1, zrz1⟩ := hg_w9.y2 w.heap.size 0 1 (.int .u64 0) (.int .i64 0))
    | (go_at_call 112; refine kw (HI.out _) ?_)
    | (go_at_call 151; refine (HPu.out _).mono ?_; rintro e wk ⟨z, hq, rfl, hw⟩; subst hw)
    | (go_at_call 178; refine (HM.out (by first | exact ⟨rfl, rfl⟩ | exact ⟨trivial, trivial⟩) _).mono ?_; rintro e wm ⟨bq, kq, qq, hbq, rfl, hg_wm⟩; obtain ⟨mr0, mrz0, mr1, mrz1⟩ := hg_wm.y2 w.heap.size 0 1 (.int .u64 0) (.int .i64 0))
    | (go_at_call 65; refine (HR.out (by first | exact ⟨rfl, rfl⟩ | exact ⟨trivial, trivial⟩) _ _ hbq).mono ?_; rintro e w9 ⟨z, fl, hq, rfl, hg_w9⟩; obtain ⟨zr0, zrz0, zr1, zrz1⟩ := hg_w9.y2 w.heap.size 0 1 (.int .u64 0) (.int .i64 0)))
   first
    | (refine bodyPost_ret (v := .agg #[.int .u64 z, .int .i64 fl]) (by simp [results, Tryz.results91, go_sem, zr0, zr1]) rfl ⟨z, fl, hq, rfl, ?_⟩; exact Gb.g)
    | (refine bodyPost_ret (v := .agg #[.int .u64 z, .int .i64 2]) (by simp [results, Tryz.results91, go_sem, qbr0, qbr1]) rfl ⟨z, 2, hq, rfl, ?_⟩; exact Gb.g)
 all_goals
  go_enter Tryz.func91, Tryz.ntmps91
  go_wp2_with (first
   | (go_at_call 117; refine kw (HF.out _) ?_)
   | (go_at_call 31; first | (with_reducible refine (HUa.out _).mono ?_; rintro e w1 ⟨rfl, hg_w1⟩; obtain ⟨u0r0, u0rz0, u0r1, u0rz1⟩ := hg_w1.y2 w.heap.size 0 1 (.int .u64 0) (.int .i64 0); have hz0 := cell_size u0r0) | (with_reducible refine (HUb.out _).mono ?_; rintro e w2 ⟨rfl, hg_w2⟩; obtain ⟨u1r0, u1rz0, u1r1, u1rz1⟩ := hg_w2.y2 w.heap.size 0 1 (.int .u64 0) (.int .i64 0); have u1p00 := hg_w2.e1 w1.heap.size 0 (.int .i64 ca); have u1p0A0 := kca u1p00; have u1p01 := hg_w2.e1 w1.heap.size 1 (.int .i64 sa); have u1p0A1 := kca u1p01; have u1p02 := hg_w2.e1 w1.heap.size 2 (.int .i64 xa); have u1p0A2 := kca u1p02; have u1p03 := hg_w2.e1 w1.heap.size 3 (.int .u64 ga); have u1p0A3 := kca u1p03; have hz1 := cell_size u1r0))
   | (go_at_call 118; first | (with_reducible refine (HQa.out _).mono ?_; rintro e va ⟨rfl, hg_va⟩; obtain ⟨qar0, qarz0, qar1, qarz1⟩ := hg_va.y2 w.heap.size 0 1 (.int .u64 0) (.int .i64 0); obtain ⟨qap00, qap01, qap02, qap03⟩ := hg_va.e4 w1.heap.size 0 1 2 3 (.int .i64 ca) (.int .i64 sa) (.int .i64 xa) (.int .u64 ga); obtain ⟨qap10, qap11, qap12, qap13⟩ := hg_va.e4 w2.heap.size 0 1 2 3 (.int .i64 cb) (.int .i64 sb) (.int .i64 xb) (.int .u64 gb)) | (with_reducible refine (HQb.out _).mono ?_; rintro e vb ⟨rfl, hg_vb⟩; obtain ⟨qbr0, qbrz0, qbr1, qbrz1⟩ := hg_vb.y2 w.heap.size 0 1 (.int .u64 0) (.int .i64 0); obtain ⟨qbp00, qbp01, qbp02, qbp03⟩ := hg_vb.e4 w1.heap.size 0 1 2 3 (.int .i64 ca) (.int .i64 sa) (.int .i64 xa) (.int .u64 ga); obtain ⟨qbp10, qbp11, qbp12, qbp13⟩ := hg_vb.e4 w2.heap.size 0 1 2 3 (.int .i64 cb) (.int .i64 sb) (.int .i64 xb) (.int .u64 gb)))
   | (go_at_call 119; refine (HNa.out _ _).mono ?_; rintro e w9 ⟨z, fl, hq, rfl, hg_w9⟩; obtain ⟨zr0, zrz0, zr1, zrz1⟩ := hg_w9.y2 w.heap.size 0 1 (.int .u64 0) (.int .i64 0)))
  refine bodyPost_ret (v := .agg #[.int .u64 z, .int .i64 fl]) (by simp [results, Tryz.results91, go_sem, zr0, zr1]) rfl ⟨z, fl, hq, rfl, ?_⟩
  exact Gb.g
theorem div_all {f p mx one inf sg nan : Int} (h : IsFmt f p mx one inf sg nan) (a b : Int) (a0 : 0 ≤ a) (fa : a < 2 * sg) (b0 : 0 ≤ b) (fb : b < 2 * sg) (w : World) :
  Calls Tryz.prog 91 #[.int .i64 f, .int .i64 0, .int .u64 a, .int .u64 b] w fun e w' => ∃ z fl : Int, (0 ≤ z ∧ z < 2 * sg) ∧ e = .returned (.agg #[.int .u64 z, .int .i64 fl]) ∧ Gb w w' := by
 have hb := h.bounds
 obtain ⟨x, hx⟩ := opd_ex h a a0 (by omega)
 obtain ⟨y, hy⟩ := opd_ex h b b0 (by omega)
 obtain ⟨v1, v2, v3, v4, v5, v6⟩ := opd_vo h hx
 obtain ⟨u1, u2, u3, u4, u5, u6⟩ := opd_vo h hy
 have xc0 := v1.c0; have xc4 := v1.c4; have yc0 := u1.c0; have yc4 := u1.c4
 have hxs := v1.s01
 have hys := u1.s01
 obtain ⟨sp, hsp⟩ : ∃ sp, (x.s + y.s) % 2 = sp := ⟨_, rfl⟩
 have hsp' : (x.s + y.s).tmod 2 = sp := by rw [Int.tmod_eq_emod_of_nonneg (by omega)]; exact hsp
 have hms : sp = 0 ∨ sp = 1 := by omega
 have hsw : ∀ v, 0 ≤ v → v < sg → 0 ≤ sw sp sg v ∧ sw sp sg v < 2 * sg := by
  intro v k1 k2; unfold sw; split <;> omega
 have by_ : ∀ c d : Int, (c == d) = true ∧ c = d ∨ (c == d) = false ∧ c ≠ d := by
  intro c d
  by_cases k : c = d
  ·exact .inl ⟨by simp [k], k⟩
  ·exact .inr ⟨by simp [k], k⟩
 obtain ⟨P, hP⟩ : ∃ P : Nat, (P : Int) = p + 4 := ⟨(p + 4).toNat, by omega⟩
 have hnum : x.c = 1 ∧ y.c = 1 → p + 2 ≤ (nb (x.M * 2 ^ P / y.M) : Int) ∧ 0 < y.M ∧ 0 < x.M * 2 ^ P / y.M := by
  rintro ⟨cx, cy⟩
  have bx : one ≤ (x.M : Int) ∧ (x.M : Int) < 2 * one := by
   rcases hx with ⟨_, hu⟩ | ⟨_, rfl⟩
   ·obtain ⟨_, _, _, _, k5, _, _, k8, _⟩ := unpack_bounds h hu; exact ⟨k8 cx, k5⟩
   ·cases cx
  have bY : one ≤ (y.M : Int) ∧ (y.M : Int) < 2 * one := by
   rcases hy with ⟨_, hu⟩ | ⟨_, rfl⟩
   ·obtain ⟨_, _, _, _, k5, _, _, k8, _⟩ := unpack_bounds h hu; exact ⟨k8 cy, k5⟩
   ·cases cy
  have hm : 2 ^ (P - 1) ≤ x.M * 2 ^ P / y.M := by
   rw [Nat.le_div_iff_mul_le (by omega)]
   have e1 : 2 ^ P = 2 * 2 ^ (P - 1) := by
    obtain ⟨k, rfl⟩ : ∃ k, P = k + 1 := ⟨P - 1, by omega⟩
    rw [Nat.pow_succ, Nat.add_sub_cancel]; omega
   rw [e1, ← Nat.mul_assoc, Nat.mul_comm]
   exact Nat.mul_le_mul_right _ (by omega)
  have := nb_gt hm
  exact ⟨by omega, by omega, Nat.lt_of_lt_of_le (Nat.pow_pos (by decide)) hm⟩
 refine sDiv_some f 0 a b x.c x.s x.e ((x.M : Nat) : Int) y.c y.s y.e ((y.M : Nat) : Int) sp (x.e - y.e - P) inf (decide (x.M * 2 ^ P % y.M ≠ 0)) (x.M * 2 ^ P / y.M) (decide (3 ≤ x.c)) (decide (3 ≤ y.c)) _ (fun w => l3Fits_yes h 0 a b (by omega) (by omega) a0 fa b0 fb w) (unp_det h a a0 fa hx) (unp_det h b b0 fb hy) (fun w => l3Quiet_any _ _ _ _ _ rfl w) (fun w => l3Quiet_any _ _ _ _ _ rfl w)
  (fun t w => (l3Nan_any h t _ rfl w).mono (fun e w' ⟨h1, h2⟩ => ⟨_, _, by omega, h1, h2⟩)) (fun w => (l2Bad_fmt h w).mono (fun e w' ⟨h1, h2⟩ => ⟨_, _, by omega, h1, h2⟩))
  (fun w => (l3Infinity_any h _ hms w).mono (fun e w' ⟨h1, h2⟩ => ⟨_, _, hsw inf (by omega) (by omega), h1, h2⟩)) (fun w => (l3Zero_any h _ hms w).mono (fun e w' ⟨h1, h2⟩ => ⟨_, _, hsw 0 (by omega) (by omega), h1, h2⟩))
  (fun w => l2Inf_any h w) (fun w => (l2Put_any h sp inf (sw sp sg inf) (by unfold sw; rcases hms with k | k <;> rw [k] <;> simp) (by omega) (by omega) w).mono (fun e w' ⟨h1, h2⟩ => ⟨_, hsw inf (by omega) (by omega), h1, h2⟩))
  (by omega) (by omega) (by omega) (by omega) hsp' hsp
  (fun hc w => l4Quotient_any h 1 x.s x.e 1 y.s y.e x.M y.M (by omega) (by omega) (hnum hc).2.1 (by omega) (by omega) (by omega) (by omega) sp hsp' hsp (by omega) (by omega) (by omega) (by omega) P hP w)
  (fun hc v w hB => ?_) ?_ w
 ·have hK := big_nb hB (by omega)
  obtain ⟨n, hn, hBig⟩ := hB
  refine (l2Round_any h hBig (by omega) (hnum hc).2.2 hK 0 sp _ _ (by omega) (by omega) hms (by omega) (by omega) (fun _ => (hnum hc).1)).mono ?_
  rintro e w' ⟨z, fl, _, z0, z1, rfl, hg⟩
  exact ⟨_, _, hsw z z0 z1, rfl, hg⟩
 ·by_cases c1 : 3 ≤ x.c
  ·rw [decide_eq_true c1]
   rcases by_ x.c 4 with ⟨k, _⟩ | ⟨k, _⟩
   ·exact .inl ⟨rfl, k⟩
   ·rcases by_ y.c 4 with ⟨k', _⟩ | ⟨k', _⟩
    ·exact .inr (.inl ⟨rfl, k, k'⟩)
    ·exact .inr (.inr (.inl ⟨rfl, k, k'⟩))
  ·rw [decide_eq_false c1]
   have kx : (x.c == 4) = false := by simp; omega
   by_cases c2 : 3 ≤ y.c
   ·rw [decide_eq_true c2]
    rcases by_ y.c 4 with ⟨k', _⟩ | ⟨k', _⟩
    ·exact .inr (.inr (.inr (.inl ⟨rfl, rfl, kx, k'⟩)))
    ·exact .inr (.inr (.inr (.inr (.inl ⟨rfl, rfl, kx, k'⟩))))
   ·rw [decide_eq_false c2]
    exact .inr (.inr (.inr (.inr (.inr ⟨rfl, rfl, ⟨by omega, by omega⟩⟩))))
end Go.Proofs.YtnbbfeknbfohhaaGreatDoor
