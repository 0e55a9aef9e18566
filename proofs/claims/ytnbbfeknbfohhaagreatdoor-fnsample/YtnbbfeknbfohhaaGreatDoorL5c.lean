import Derived.Test.YtnbbfeknbfohhaaGreatDoorL5a
import Derived.Test.YtnbbfeknbfohhaaGreatDoorC0
import Derived.Test.YtnbbfeknbfohhaaGreatDoorG3
import Derived.Deep.RegionHeld3
set_option linter.unusedVariables false
set_option linter.unusedSimpArgs false
namespace Go.Proofs.YtnbbfeknbfohhaaGreatDoor
open Go.RowKit
def wholeM (mode : Int) (x : Opd) : Nat := chosen mode x.s (cutLo x.M x.e 0) (cutHalf x.M x.e 0 false)
def wholeX (x : Opd) : Bool := decide (0 < cutHalf x.M x.e 0 false)
def wholeO (mode : Int) (x : Opd) : Opd := if x.c = 1 ∧ x.e < 0 then (if wholeM mode x = 0 then ⟨0, x.s, 0, 0⟩ else ⟨1, x.s, 0, wholeM mode x⟩) else x
theorem cutHalf_pos' (M : Nat) (e q : Int) (h : q ≤ e) : cutHalf M e q false = 0 := by unfold cutHalf; rw [if_pos h]; rfl
theorem wholeX_no {x : Opd} (h : 0 ≤ x.e) : wholeX x = false := by unfold wholeX; rw [cutHalf_pos' _ _ _ h]; rfl
theorem wholeM_no {mode : Int} {x : Opd} (h : 0 ≤ x.e) : wholeM mode x = x.M * 2 ^ x.e.toNat := by
 unfold wholeM; rw [cutHalf_pos' _ _ _ h, chosen_zero]; unfold cutLo; rw [if_pos h, Int.sub_zero]
theorem wholeM_lt {mode : Int} {x : Opd} {P : Nat} (h : x.e < 0) (hM : x.M < 2 ^ (P + 1)) : wholeM mode x ≤ 2 ^ P := by
 have h1 := (chosen_le mode x.s (cutLo x.M x.e 0) (cutHalf x.M x.e 0 false)).2
 have h2 : cutLo x.M x.e 0 < 2 ^ P := by
  unfold cutLo
  rw [if_neg (by omega), Nat.div_lt_iff_lt_mul (Nat.pow_pos (by decide)), ← Nat.pow_add]
  have := pow2_mono (show P + 1 ≤ P + (0 - x.e).toNat by omega)
  omega
 unfold wholeM
 omega
theorem whole_exact {f p mx one inf sg nan : Int} (h : IsFmt f p mx one inf sg nan) (s : Int) (M : Nat) (h0 : 0 < M) (h1 : (M : Int) ≤ 2 * one) :
  ∃ z, 0 < z ∧ z < inf ∧ ∀ mode, RoundIs p (1 - mx) mx one inf mode s M 0 false z 0 := by
 obtain ⟨P, hP, hP63, hone⟩ := h.pow
 have hone' : one = ((2 ^ P : Nat) : Int) := by rw [cast_pow2]; exact hone
 have hsucc : 2 ^ (P + 1) = 2 * 2 ^ P := by rw [Nat.pow_succ]; omega
 have hb := h.bounds
 have n0 := nb_pos M h0
 have hM1 : M ≤ 2 ^ (P + 1) := by omega
 have hn : nb M ≤ P + 2 := nb_le (by
  rw [show P + 2 = (P + 1) + 1 from rfl, Nat.pow_succ]
  have := Nat.pow_pos (n := P + 1) (show 0 < 2 by decide)
  omega)
 obtain ⟨q, hq⟩ : ∃ q : Int, (nb M : Int) + 0 - 1 - p + 1 = q := ⟨_, rfl⟩
 have hhalf : cutHalf M 0 q false = 0 := by
  by_cases c : q ≤ 0
  ·exact cutHalf_pos' _ _ _ c
  ·have hq1 : (q - 0).toNat = 1 := by omega
   have hM2 : M = 2 ^ (P + 1) := by
    rcases Nat.lt_or_ge M (2 ^ (P + 1)) with d | d
    ·have := nb_le d; omega
    ·omega
   unfold cutHalf
   rw [if_neg c, hq1]
   exact hr_zero M 1 (by decide) (by rw [hM2, hsucc]; omega)
 have hlo : cutLo M 0 q < 2 ^ (P + 1) := cutLo_lt M 0 q (P + 1) (by omega)
 have hlo0 : 2 ^ P ≤ cutLo M 0 q := cutLo_ge M 0 q P h0 (by omega)
 refine ⟨(cutLo M 0 q : Nat) + one * ((nb M : Int) + 0 - 1 - (1 - mx)), ?_, ?_, fun mode => ?_⟩
 ·have := Int.mul_nonneg (show 0 ≤ one by omega) (show 0 ≤ (nb M : Int) + 0 - 1 - (1 - mx) by omega)
  omega
 ·rcases h with ⟨rfl, rfl, rfl, rfl, rfl, rfl, rfl⟩ | ⟨rfl, rfl, rfl, rfl, rfl, rfl, rfl⟩ <;> omega
 ·refine ⟨(nb M : Int) + 0 - 1, (nb M : Int) + 0 - 1, cutLo M 0 q, _, 0, rfl, .inr ⟨by omega, rfl⟩, by rw [hq, hhalf], by rw [hq, chosen_zero], rfl, .inr (.inr ⟨by omega, ?_, rfl, .inl ⟨rfl, rfl⟩⟩)⟩
  rcases h with ⟨rfl, rfl, rfl, rfl, rfl, rfl, rfl⟩ | ⟨rfl, rfl, rfl, rfl, rfl, rfl, rfl⟩ <;> omega
def wordK (s : Int) (M : Nat) : Int := if s = 1 ∧ M ≠ 0 then 18446744073709551616 - (M : Int) else (M : Int)
theorem mostK_lt (kind s : Int) : mostK kind s < 18446744073709551616 := by
 unfold mostK
 repeat' split
 all_goals decide
end Go.Proofs.YtnbbfeknbfohhaaGreatDoor
set_option maxHeartbeats 40000000
namespace Go.Proofs.YtnbbfeknbfohhaaGreatDoor
open Go.RowKit
theorem twL5c1 {P : Prop} (h : P := by
 go_enter Tryz.func32, Tryz.ntmps32
 go_upto_region 10 with (first
  | (go_at_call 117; refine kw (HF.out _) ?_)
  | (go_at_call 31; refine (HU.out _).mono ?_; rintro e w1 ⟨rfl, hg_w1⟩; obtain ⟨ur0, urz0, ur1, urz1⟩ := hg_w1.y2 w.heap.size 0 1 (.int .u64 0) (.int .i64 0); have hz0 := cell_size ur0)
  | (go_at_call 118; refine (HQ.out _).mono ?_; rintro e va ⟨rfl, hg_va⟩; obtain ⟨qr0, qrz0, qr1, qrz1⟩ := hg_va.y2 w.heap.size 0 1 (.int .u64 0) (.int .i64 0); obtain ⟨qp0, qp1, qp2, qp3⟩ := hg_va.e4 w1.heap.size 0 1 2 3 (.int .i64 1) (.int .i64 s) (.int .i64 x) (.int .u64 g))
  | (go_at_call 121; refine (HN.out _).mono ?_; rintro e w3 ⟨b3, k3, c3, hb3, rfl, hg_w3⟩; obtain ⟨nr0, nrz0, nr1, nrz1⟩ := hg_w3.y2 w.heap.size 0 1 (.int .u64 0) (.int .i64 0); obtain ⟨np0, np1, np2, np3⟩ := hg_w3.e4 w1.heap.size 0 1 2 3 (.int .i64 1) (.int .i64 s) (.int .i64 x) (.int .u64 g))
  | (go_at_call 120; with_reducible refine (HW.out _ _ _ _ hb3).mono ?_; rintro e w4 ⟨b4, k4, c4, hb4, rfl, hg_w4⟩; obtain ⟨mr0, mrz0, mr1, mrz1⟩ := hg_w4.y2 w.heap.size 0 1 (.int .u64 0) (.int .i64 0); obtain ⟨mp0, mp1, mp2, mp3⟩ := hg_w4.e4 w1.heap.size 0 1 2 3 (.int .i64 1) (.int .i64 s) (.int .i64 x) (.int .u64 g); have hz4 := cell_size mr0; have hk4 := big_len0 hb4)
  | (go_at_call 64; refine (HZ.out _).mono ?_; rintro e w5 ⟨rfl, hg_w5⟩; obtain ⟨zr0, zrz0, zr1, zrz1⟩ := hg_w5.y2 w.heap.size 0 1 (.int .u64 0) (.int .i64 0); obtain ⟨zp0, zp1, zp2, zp3⟩ := hg_w5.e4 w1.heap.size 0 1 2 3 (.int .i64 1) (.int .i64 s) (.int .i64 x) (.int .u64 g); have hz5 := cell_size zr0))
 obtain ⟨w6, hw6⟩ : ∃ w6, w5.alloc (.cells #[.int .u64 z, .int .i64 0] 41) = w6 := ⟨_, rfl⟩
 have hg_w6 : Gr w5 w6 := by rw [← hw6]; exact (Gr.refl _).alloc _ _
 have x0 : w6.cell? ⟨w5.heap.size, 0, none⟩ = some (.int .u64 z) := by rw [← hw6]; simp [go_sem]
 have x1 : w6.cell? ⟨w5.heap.size, 1, none⟩ = some (.int .i64 0) := by rw [← hw6]; simp [go_sem]
 have xz0 : w6.frozen? ⟨w5.heap.size, 0, none⟩ = false := by rw [← hw6]; simp [go_sem]
 have xz1 : w6.frozen? ⟨w5.heap.size, 1, none⟩ = false := by rw [← hw6]; simp [go_sem]
 have hz6 : w5.heap.size < w6.heap.size := by rw [← hw6]; simp
 rw [hw6]
 clear hw6
 obtain ⟨yr0, yrz0, yr1, yrz1⟩ := hg_w6.y2 w.heap.size 0 1 (.int .u64 0) (.int .i64 0); obtain ⟨yp0, yp1, yp2, yp3⟩ := hg_w6.e4 w1.heap.size 0 1 2 3 (.int .i64 1) (.int .i64 s) (.int .i64 x) (.int .u64 g)
 have hb6 : BigN 70005 w6 (.slice (some ⟨b4, 0, none⟩) k4 c4) 0 := BigN.gb hb4 (hg_w5.gb.trans hg_w6.gb)
 have hgw : Gb w w6 := Gb.g
 go_wp2
 refine bodyPost_ret (v := .agg #[.int .u64 z, .int .i64 0]) (by simp [results, Tryz.results32, go_sem, yr0, yr1]) rfl ⟨rfl, ?_⟩
 exact Gb.g) : P := h
theorem twL5c0 {P : Prop} (h : P := by
 go_enter Tryz.func32, Tryz.ntmps32
 go_upto_region 10 with (first
  | (go_at_call 117; refine kw (HF.out _) ?_)
  | (go_at_call 31; refine (HU.out _).mono ?_; rintro e w1 ⟨rfl, hg_w1⟩; obtain ⟨ur0, urz0, ur1, urz1⟩ := hg_w1.y2 w.heap.size 0 1 (.int .u64 0) (.int .i64 0); have hz0 := cell_size ur0)
  | (go_at_call 118; refine (HQ.out _).mono ?_; rintro e va ⟨rfl, hg_va⟩; obtain ⟨qr0, qrz0, qr1, qrz1⟩ := hg_va.y2 w.heap.size 0 1 (.int .u64 0) (.int .i64 0); obtain ⟨qp0, qp1, qp2, qp3⟩ := hg_va.e4 w1.heap.size 0 1 2 3 (.int .i64 1) (.int .i64 s) (.int .i64 x) (.int .u64 g))
  | (go_at_call 121; refine (HN.out _).mono ?_; rintro e w3 ⟨b3, k3, c3, hb3, rfl, hg_w3⟩; obtain ⟨nr0, nrz0, nr1, nrz1⟩ := hg_w3.y2 w.heap.size 0 1 (.int .u64 0) (.int .i64 0); obtain ⟨np0, np1, np2, np3⟩ := hg_w3.e4 w1.heap.size 0 1 2 3 (.int .i64 1) (.int .i64 s) (.int .i64 x) (.int .u64 g))
  | (go_at_call 120; with_reducible refine (HW.out _ _ _ _ hb3).mono ?_; rintro e w4 ⟨b4, k4, c4, hb4, rfl, hg_w4⟩; obtain ⟨mr0, mrz0, mr1, mrz1⟩ := hg_w4.y2 w.heap.size 0 1 (.int .u64 0) (.int .i64 0); obtain ⟨mp0, mp1, mp2, mp3⟩ := hg_w4.e4 w1.heap.size 0 1 2 3 (.int .i64 1) (.int .i64 s) (.int .i64 x) (.int .u64 g); have hz4 := cell_size mr0; have hk4 := big_lenP hb4 hC)
  | (go_at_call 64; refine (HZ.out _).mono ?_; rintro e w5 ⟨rfl, hg_w5⟩; obtain ⟨zr0, zrz0, zr1, zrz1⟩ := hg_w5.y2 w.heap.size 0 1 (.int .u64 0) (.int .i64 0); obtain ⟨zp0, zp1, zp2, zp3⟩ := hg_w5.e4 w1.heap.size 0 1 2 3 (.int .i64 1) (.int .i64 s) (.int .i64 x) (.int .u64 g); have hz5 := cell_size zr0))
 obtain ⟨w6, hw6⟩ : ∃ w6, w5.alloc (.cells #[.int .u64 z, .int .i64 0] 41) = w6 := ⟨_, rfl⟩
 have hg_w6 : Gr w5 w6 := by rw [← hw6]; exact (Gr.refl _).alloc _ _
 have x0 : w6.cell? ⟨w5.heap.size, 0, none⟩ = some (.int .u64 z) := by rw [← hw6]; simp [go_sem]
 have x1 : w6.cell? ⟨w5.heap.size, 1, none⟩ = some (.int .i64 0) := by rw [← hw6]; simp [go_sem]
 have xz0 : w6.frozen? ⟨w5.heap.size, 0, none⟩ = false := by rw [← hw6]; simp [go_sem]
 have xz1 : w6.frozen? ⟨w5.heap.size, 1, none⟩ = false := by rw [← hw6]; simp [go_sem]
 have hz6 : w5.heap.size < w6.heap.size := by rw [← hw6]; simp
 rw [hw6]
 clear hw6
 obtain ⟨yr0, yrz0, yr1, yrz1⟩ := hg_w6.y2 w.heap.size 0 1 (.int .u64 0) (.int .i64 0); obtain ⟨yp0, yp1, yp2, yp3⟩ := hg_w6.e4 w1.heap.size 0 1 2 3 (.int .i64 1) (.int .i64 s) (.int .i64 x) (.int .u64 g)
 have hb6 : BigN 70005 w6 (.slice (some ⟨b4, 0, none⟩) k4 c4) C := BigN.gb hb4 (hg_w5.gb.trans hg_w6.gb)
 have hgw : Gb w w6 := Gb.g
 go_wp2_with (go_at_call 65; with_reducible refine (HR.out _ _ hb6).mono ?_; rintro e w7 ⟨rfl, hg_w7⟩; obtain ⟨rr0, rrz0, rr1, rrz1⟩ := hg_w7.y2 w.heap.size 0 1 (.int .u64 0) (.int .i64 0); obtain ⟨rx0, rxz0, rx1, rxz1⟩ := hg_w7.y2 w5.heap.size 0 1 (.int .u64 z) (.int .i64 0); have hz7 := cell_size rr0)
 refine bodyPost_ret (v := .agg #[.int .u64 y, .int .i64 0]) (by simp [results, Tryz.results32, go_sem, rr0, rr1]) rfl ⟨rfl, ?_⟩
 exact Gb.g) : P := h
set_option maxRecDepth 1000000 in
theorem l5Whole_walk (mode s e : Int) (M L C : Nat) (hf : Int) (t : Bool) (ht : (hf == 0) = t) (v : Value) (w : World)
  (HCut : Hid (∀ w', Gb w w' → Calls Tryz.prog 155 #[.agg #[.int .i64 s, v, .int .i64 e, .bool false], .int .i64 0] w' fun x w'' => ∃ b k c, BigN 70002 w'' (.slice (some ⟨b, 0, none⟩) k c) L ∧ x = .returned (.tuple #[.slice (some ⟨b, 0, none⟩) k c, .int .i64 hf]) ∧ Gb w' w''))
  (HCh : Hid (∀ v' w', BigN 70002 w' v' L → Calls Tryz.prog 156 #[.int .i64 mode, .int .i64 s, v', .int .i64 hf] w' fun x w'' => ∃ b k c, BigN 70005 w'' (.slice (some ⟨b, 0, none⟩) k c) C ∧ x = .returned (.slice (some ⟨b, 0, none⟩) k c) ∧ Gb w' w'')) (b0 k0 c0 : Nat) (hv : v = .slice (some ⟨b0, 0, none⟩) k0 c0) :
  Calls Tryz.prog 120 #[.int .i64 mode, .agg #[.int .i64 s, v, .int .i64 e, .bool false]] w fun x w' => ∃ b k c, BigN 70005 w' (.slice (some ⟨b, 0, none⟩) k c) C ∧ x = .returned (.tuple #[.slice (some ⟨b, 0, none⟩) k c, .bool t]) ∧ Gb w w' := by
 subst hv
 go_enter Tryz.func120, Tryz.ntmps120
 go_wp2_with (first
  | (go_at_call 155; refine (HCut.out _ Gb.g).mono ?_; rintro x n1 ⟨b1, k1, q1, hb1, rfl, hg_n1⟩; have ks0 := hg_n1.e1 w.heap.size 0 (.int .i64 s))
  | (go_at_call 156; with_reducible refine (HCh.out _ _ hb1).mono ?_; rintro x n2 ⟨b2, k2, q2, hb2, rfl, hg_n2⟩))
 go_returns
 exact ⟨_, _, _, hb2, rfl, Gb.g⟩
set_option maxRecDepth 1000000 in
theorem sRint_bad (f mode a z fl : Int) (ex : Bool) (HF : KW 117 #[.int .i64 f, .int .i64 mode, .int .u64 a, .int .u64 a] (.bool false)) (HL : KR 63 #[.int .i64 f] (.agg #[.int .u64 z, .int .i64 fl])) (w : World) :
  Calls Tryz.prog 32 #[.int .i64 f, .int .i64 mode, .int .u64 a, .bool ex] w fun e w' => e = .returned (.agg #[.int .u64 z, .int .i64 fl]) ∧ Gb w w' := by
 go_enter Tryz.func32, Tryz.ntmps32
 go_wp2_with (first
  | (go_at_call 117; refine kw (HF.out _) ?_)
  | (go_at_call 63; refine (HL.out _).mono ?_; rintro e w9 ⟨rfl, hg_w9⟩; obtain ⟨zr0, zrz0, zr1, zrz1⟩ := hg_w9.y2 w.heap.size 0 1 (.int .u64 0) (.int .i64 0)))
 refine bodyPost_ret (v := .agg #[.int .u64 z, .int .i64 fl]) (by simp [results, Tryz.results32, go_sem, zr0, zr1]) rfl ⟨rfl, ?_⟩
 exact Gb.g
set_option maxRecDepth 1000000 in
theorem sRint_nan (f mode a c s x g z fl : Int) (b ex : Bool) (HF : KW 117 #[.int .i64 f, .int .i64 mode, .int .u64 a, .int .u64 a] (.bool true)) (HU : KR 31 #[.int .i64 f, .int .u64 a] (.agg #[.int .i64 c, .int .i64 s, .int .i64 x, .int .u64 g])) (HQ : KR 118 #[.agg #[.int .i64 c, .int .i64 s, .int .i64 x, .int .u64 g]] (.bool true)) (e4 : (c == 4) = b) (HL : KR 119 #[.int .i64 f, .bool b] (.agg #[.int .u64 z, .int .i64 fl])) (w : World) :
  Calls Tryz.prog 32 #[.int .i64 f, .int .i64 mode, .int .u64 a, .bool ex] w fun e w' => e = .returned (.agg #[.int .u64 z, .int .i64 fl]) ∧ Gb w w' := by
 go_enter Tryz.func32, Tryz.ntmps32
 go_wp2_with (first
  | (go_at_call 117; refine kw (HF.out _) ?_)
  | (go_at_call 31; refine (HU.out _).mono ?_; rintro e w1 ⟨rfl, hg_w1⟩; obtain ⟨ur0, urz0, ur1, urz1⟩ := hg_w1.y2 w.heap.size 0 1 (.int .u64 0) (.int .i64 0); have hz0 := cell_size ur0)
  | (go_at_call 118; refine (HQ.out _).mono ?_; rintro e va ⟨rfl, hg_va⟩; obtain ⟨qr0, qrz0, qr1, qrz1⟩ := hg_va.y2 w.heap.size 0 1 (.int .u64 0) (.int .i64 0); obtain ⟨qp0, qp1, qp2, qp3⟩ := hg_va.e4 w1.heap.size 0 1 2 3 (.int .i64 c) (.int .i64 s) (.int .i64 x) (.int .u64 g))
  | (go_at_call 119; refine (HL.out _).mono ?_; rintro e w9 ⟨rfl, hg_w9⟩; obtain ⟨zr0, zrz0, zr1, zrz1⟩ := hg_w9.y2 w.heap.size 0 1 (.int .u64 0) (.int .i64 0)))
 refine bodyPost_ret (v := .agg #[.int .u64 z, .int .i64 fl]) (by simp [results, Tryz.results32, go_sem, zr0, zr1]) rfl ⟨rfl, ?_⟩
 exact Gb.g
set_option maxRecDepth 1000000 in
theorem sRint_c (f mode a c s x g : Int) (ex : Bool) (HF : KW 117 #[.int .i64 f, .int .i64 mode, .int .u64 a, .int .u64 a] (.bool true)) (HU : KR 31 #[.int .i64 f, .int .u64 a] (.agg #[.int .i64 c, .int .i64 s, .int .i64 x, .int .u64 g])) (HQ : KR 118 #[.agg #[.int .i64 c, .int .i64 s, .int .i64 x, .int .u64 g]] (.bool false)) (e1 : ¬ c = 1) (w : World) :
  Calls Tryz.prog 32 #[.int .i64 f, .int .i64 mode, .int .u64 a, .bool ex] w fun e w' => e = .returned (.agg #[.int .u64 a, .int .i64 0]) ∧ Gb w w' := by
 go_enter Tryz.func32, Tryz.ntmps32
 go_wp2_with (first
  | (go_at_call 117; refine kw (HF.out _) ?_)
  | (go_at_call 31; refine (HU.out _).mono ?_; rintro e w1 ⟨rfl, hg_w1⟩; obtain ⟨ur0, urz0, ur1, urz1⟩ := hg_w1.y2 w.heap.size 0 1 (.int .u64 0) (.int .i64 0); have hz0 := cell_size ur0)
  | (go_at_call 118; refine (HQ.out _).mono ?_; rintro e va ⟨rfl, hg_va⟩; obtain ⟨qr0, qrz0, qr1, qrz1⟩ := hg_va.y2 w.heap.size 0 1 (.int .u64 0) (.int .i64 0); obtain ⟨qp0, qp1, qp2, qp3⟩ := hg_va.e4 w1.heap.size 0 1 2 3 (.int .i64 c) (.int .i64 s) (.int .i64 x) (.int .u64 g)))
 refine bodyPost_ret (v := .agg #[.int .u64 a, .int .i64 0]) (by simp [results, Tryz.results32, go_sem, qr0, qr1]) rfl ⟨rfl, ?_⟩
 exact Gb.g
set_option maxRecDepth 1000000 in
theorem sRint_e (f mode a c s x g : Int) (ex : Bool) (HF : KW 117 #[.int .i64 f, .int .i64 mode, .int .u64 a, .int .u64 a] (.bool true)) (HU : KR 31 #[.int .i64 f, .int .u64 a] (.agg #[.int .i64 c, .int .i64 s, .int .i64 x, .int .u64 g])) (HQ : KR 118 #[.agg #[.int .i64 c, .int .i64 s, .int .i64 x, .int .u64 g]] (.bool false)) (e1 : c = 1) (e2 : decide (0 ≤ x) = true) (w : World) :
  Calls Tryz.prog 32 #[.int .i64 f, .int .i64 mode, .int .u64 a, .bool ex] w fun e w' => e = .returned (.agg #[.int .u64 a, .int .i64 0]) ∧ Gb w w' := by
 subst e1
 go_enter Tryz.func32, Tryz.ntmps32
 go_wp2_with (first
  | (go_at_call 117; refine kw (HF.out _) ?_)
  | (go_at_call 31; refine (HU.out _).mono ?_; rintro e w1 ⟨rfl, hg_w1⟩; obtain ⟨ur0, urz0, ur1, urz1⟩ := hg_w1.y2 w.heap.size 0 1 (.int .u64 0) (.int .i64 0); have hz0 := cell_size ur0)
  | (go_at_call 118; refine (HQ.out _).mono ?_; rintro e va ⟨rfl, hg_va⟩; obtain ⟨qr0, qrz0, qr1, qrz1⟩ := hg_va.y2 w.heap.size 0 1 (.int .u64 0) (.int .i64 0); obtain ⟨qp0, qp1, qp2, qp3⟩ := hg_va.e4 w1.heap.size 0 1 2 3 (.int .i64 1) (.int .i64 s) (.int .i64 x) (.int .u64 g)))
 refine bodyPost_ret (v := .agg #[.int .u64 a, .int .i64 0]) (by simp [results, Tryz.results32, go_sem, qr0, qr1]) rfl ⟨rfl, ?_⟩
 exact Gb.g
theorem big_len0 {K : Nat} {w : World} {b k c : Nat} (h : BigN K w (.slice (some ⟨b, 0, none⟩) k c) 0) : ((k : Nat) : Int) = 0 := by
 obtain ⟨n, hn, hb⟩ := h
 obtain ⟨b', cap, e, _⟩ := hb.shape
 have := hb.none rfl
 injection e with _ e2 _
 omega
theorem big_lenP {K : Nat} {w : World} {b k c N : Nat} (h : BigN K w (.slice (some ⟨b, 0, none⟩) k c) N) (hN : 0 < N) : 0 < k := by
 obtain ⟨n, hn, hb⟩ := h
 obtain ⟨b', cap, e, _⟩ := hb.shape
 have h2 := hb.1.iff
 injection e with _ e2 _
 have : n ≠ 0 := fun h => by have := h2.1 h; omega
 omega
set_option maxRecDepth 1000000 in
theorem sRint_0n (f mode a c s x g z : Int) (M C : Nat) (ex wh : Bool) (hx : ex = false) (hC : C = 0) (HF : KW 117 #[.int .i64 f, .int .i64 mode, .int .u64 a, .int .u64 a] (.bool true)) (HU : KR 31 #[.int .i64 f, .int .u64 a] (.agg #[.int .i64 c, .int .i64 s, .int .i64 x, .int .u64 g])) (HQ : KR 118 #[.agg #[.int .i64 c, .int .i64 s, .int .i64 x, .int .u64 g]] (.bool false)) (e1 : c = 1) (e2 : decide (0 ≤ x) = false) (HN : Hid (∀ w, Calls Tryz.prog 121 #[.agg #[.int .i64 c, .int .i64 s, .int .i64 x, .int .u64 g]] w fun e w' => ∃ b k cc, BigN 2 w' (.slice (some ⟨b, 0, none⟩) k cc) M ∧ e = .returned (.agg #[.int .i64 s, .slice (some ⟨b, 0, none⟩) k cc, .int .i64 x, .bool false]) ∧ Gb w w')) (HW : Hid (∀ b k c w, BigN 2 w (.slice (some ⟨b, 0, none⟩) k c) M → Calls Tryz.prog 120 #[.int .i64 mode, .agg #[.int .i64 s, .slice (some ⟨b, 0, none⟩) k c, .int .i64 x, .bool false]] w fun e w' => ∃ b k c, BigN 70005 w' (.slice (some ⟨b, 0, none⟩) k c) C ∧ e = .returned (.tuple #[.slice (some ⟨b, 0, none⟩) k c, .bool wh]) ∧ Gb w w')) (HZ : KR 64 #[.int .i64 f, .int .i64 s] (.agg #[.int .u64 z, .int .i64 0])) (w : World) :
  Calls Tryz.prog 32 #[.int .i64 f, .int .i64 mode, .int .u64 a, .bool ex] w fun e w' => e = .returned (.agg #[.int .u64 z, .int .i64 0]) ∧ Gb w w' := by
 subst e1 hC
 obtain rfl := hx
 exact twL5c1
set_option maxRecDepth 1000000 in
theorem sRint_1n (f mode a c s x g z y : Int) (M C : Nat) (ex wh : Bool) (hx : ex = false) (hC : 0 < C) (HF : KW 117 #[.int .i64 f, .int .i64 mode, .int .u64 a, .int .u64 a] (.bool true)) (HU : KR 31 #[.int .i64 f, .int .u64 a] (.agg #[.int .i64 c, .int .i64 s, .int .i64 x, .int .u64 g])) (HQ : KR 118 #[.agg #[.int .i64 c, .int .i64 s, .int .i64 x, .int .u64 g]] (.bool false)) (e1 : c = 1) (e2 : decide (0 ≤ x) = false) (HN : Hid (∀ w, Calls Tryz.prog 121 #[.agg #[.int .i64 c, .int .i64 s, .int .i64 x, .int .u64 g]] w fun e w' => ∃ b k cc, BigN 2 w' (.slice (some ⟨b, 0, none⟩) k cc) M ∧ e = .returned (.agg #[.int .i64 s, .slice (some ⟨b, 0, none⟩) k cc, .int .i64 x, .bool false]) ∧ Gb w w')) (HW : Hid (∀ b k c w, BigN 2 w (.slice (some ⟨b, 0, none⟩) k c) M → Calls Tryz.prog 120 #[.int .i64 mode, .agg #[.int .i64 s, .slice (some ⟨b, 0, none⟩) k c, .int .i64 x, .bool false]] w fun e w' => ∃ b k c, BigN 70005 w' (.slice (some ⟨b, 0, none⟩) k c) C ∧ e = .returned (.tuple #[.slice (some ⟨b, 0, none⟩) k c, .bool wh]) ∧ Gb w w')) (HZ : KR 64 #[.int .i64 f, .int .i64 s] (.agg #[.int .u64 z, .int .i64 0])) (HR : Hid (∀ v w, BigN 70005 w v C → Calls Tryz.prog 65 #[.int .i64 f, .int .i64 0, .agg #[.int .i64 s, v, .int .i64 0, .bool false]] w fun e w' => e = .returned (.agg #[.int .u64 y, .int .i64 0]) ∧ Gb w w')) (w : World) :
  Calls Tryz.prog 32 #[.int .i64 f, .int .i64 mode, .int .u64 a, .bool ex] w fun e w' => e = .returned (.agg #[.int .u64 y, .int .i64 0]) ∧ Gb w w' := by
 subst e1
 obtain rfl := hx
 exact twL5c0
set_option maxRecDepth 1000000 in
theorem sRint_0w (f mode a c s x g z : Int) (M C : Nat) (ex wh : Bool) (hx : ex = true ∧ wh = true) (hC : C = 0) (HF : KW 117 #[.int .i64 f, .int .i64 mode, .int .u64 a, .int .u64 a] (.bool true)) (HU : KR 31 #[.int .i64 f, .int .u64 a] (.agg #[.int .i64 c, .int .i64 s, .int .i64 x, .int .u64 g])) (HQ : KR 118 #[.agg #[.int .i64 c, .int .i64 s, .int .i64 x, .int .u64 g]] (.bool false)) (e1 : c = 1) (e2 : decide (0 ≤ x) = false) (HN : Hid (∀ w, Calls Tryz.prog 121 #[.agg #[.int .i64 c, .int .i64 s, .int .i64 x, .int .u64 g]] w fun e w' => ∃ b k cc, BigN 2 w' (.slice (some ⟨b, 0, none⟩) k cc) M ∧ e = .returned (.agg #[.int .i64 s, .slice (some ⟨b, 0, none⟩) k cc, .int .i64 x, .bool false]) ∧ Gb w w')) (HW : Hid (∀ b k c w, BigN 2 w (.slice (some ⟨b, 0, none⟩) k c) M → Calls Tryz.prog 120 #[.int .i64 mode, .agg #[.int .i64 s, .slice (some ⟨b, 0, none⟩) k c, .int .i64 x, .bool false]] w fun e w' => ∃ b k c, BigN 70005 w' (.slice (some ⟨b, 0, none⟩) k c) C ∧ e = .returned (.tuple #[.slice (some ⟨b, 0, none⟩) k c, .bool wh]) ∧ Gb w w')) (HZ : KR 64 #[.int .i64 f, .int .i64 s] (.agg #[.int .u64 z, .int .i64 0])) (w : World) :
  Calls Tryz.prog 32 #[.int .i64 f, .int .i64 mode, .int .u64 a, .bool ex] w fun e w' => e = .returned (.agg #[.int .u64 z, .int .i64 0]) ∧ Gb w w' := by
 subst e1 hC
 obtain ⟨rfl, rfl⟩ := hx
 exact twL5c1
set_option maxRecDepth 1000000 in
theorem sRint_1w (f mode a c s x g z y : Int) (M C : Nat) (ex wh : Bool) (hx : ex = true ∧ wh = true) (hC : 0 < C) (HF : KW 117 #[.int .i64 f, .int .i64 mode, .int .u64 a, .int .u64 a] (.bool true)) (HU : KR 31 #[.int .i64 f, .int .u64 a] (.agg #[.int .i64 c, .int .i64 s, .int .i64 x, .int .u64 g])) (HQ : KR 118 #[.agg #[.int .i64 c, .int .i64 s, .int .i64 x, .int .u64 g]] (.bool false)) (e1 : c = 1) (e2 : decide (0 ≤ x) = false) (HN : Hid (∀ w, Calls Tryz.prog 121 #[.agg #[.int .i64 c, .int .i64 s, .int .i64 x, .int .u64 g]] w fun e w' => ∃ b k cc, BigN 2 w' (.slice (some ⟨b, 0, none⟩) k cc) M ∧ e = .returned (.agg #[.int .i64 s, .slice (some ⟨b, 0, none⟩) k cc, .int .i64 x, .bool false]) ∧ Gb w w')) (HW : Hid (∀ b k c w, BigN 2 w (.slice (some ⟨b, 0, none⟩) k c) M → Calls Tryz.prog 120 #[.int .i64 mode, .agg #[.int .i64 s, .slice (some ⟨b, 0, none⟩) k c, .int .i64 x, .bool false]] w fun e w' => ∃ b k c, BigN 70005 w' (.slice (some ⟨b, 0, none⟩) k c) C ∧ e = .returned (.tuple #[.slice (some ⟨b, 0, none⟩) k c, .bool wh]) ∧ Gb w w')) (HZ : KR 64 #[.int .i64 f, .int .i64 s] (.agg #[.int .u64 z, .int .i64 0])) (HR : Hid (∀ v w, BigN 70005 w v C → Calls Tryz.prog 65 #[.int .i64 f, .int .i64 0, .agg #[.int .i64 s, v, .int .i64 0, .bool false]] w fun e w' => e = .returned (.agg #[.int .u64 y, .int .i64 0]) ∧ Gb w w')) (w : World) :
  Calls Tryz.prog 32 #[.int .i64 f, .int .i64 mode, .int .u64 a, .bool ex] w fun e w' => e = .returned (.agg #[.int .u64 y, .int .i64 0]) ∧ Gb w w' := by
 subst e1
 obtain ⟨rfl, rfl⟩ := hx
 exact twL5c0
set_option maxRecDepth 1000000 in
theorem sRint_0x (f mode a c s x g z : Int) (M C : Nat) (ex wh : Bool) (hx : ex = true ∧ wh = false) (hC : C = 0) (HF : KW 117 #[.int .i64 f, .int .i64 mode, .int .u64 a, .int .u64 a] (.bool true)) (HU : KR 31 #[.int .i64 f, .int .u64 a] (.agg #[.int .i64 c, .int .i64 s, .int .i64 x, .int .u64 g])) (HQ : KR 118 #[.agg #[.int .i64 c, .int .i64 s, .int .i64 x, .int .u64 g]] (.bool false)) (e1 : c = 1) (e2 : decide (0 ≤ x) = false) (HN : Hid (∀ w, Calls Tryz.prog 121 #[.agg #[.int .i64 c, .int .i64 s, .int .i64 x, .int .u64 g]] w fun e w' => ∃ b k cc, BigN 2 w' (.slice (some ⟨b, 0, none⟩) k cc) M ∧ e = .returned (.agg #[.int .i64 s, .slice (some ⟨b, 0, none⟩) k cc, .int .i64 x, .bool false]) ∧ Gb w w')) (HW : Hid (∀ b k c w, BigN 2 w (.slice (some ⟨b, 0, none⟩) k c) M → Calls Tryz.prog 120 #[.int .i64 mode, .agg #[.int .i64 s, .slice (some ⟨b, 0, none⟩) k c, .int .i64 x, .bool false]] w fun e w' => ∃ b k c, BigN 70005 w' (.slice (some ⟨b, 0, none⟩) k c) C ∧ e = .returned (.tuple #[.slice (some ⟨b, 0, none⟩) k c, .bool wh]) ∧ Gb w w')) (HZ : KR 64 #[.int .i64 f, .int .i64 s] (.agg #[.int .u64 z, .int .i64 0])) (w : World) :
  Calls Tryz.prog 32 #[.int .i64 f, .int .i64 mode, .int .u64 a, .bool ex] w fun e w' => e = .returned (.agg #[.int .u64 z, .int .i64 16]) ∧ Gb w w' := by
 subst e1 hC
 obtain ⟨rfl, rfl⟩ := hx
 go_enter Tryz.func32, Tryz.ntmps32
 go_upto_region 10 with (first
  | (go_at_call 117; refine kw (HF.out _) ?_)
  | (go_at_call 31; refine (HU.out _).mono ?_; rintro e w1 ⟨rfl, hg_w1⟩; obtain ⟨ur0, urz0, ur1, urz1⟩ := hg_w1.y2 w.heap.size 0 1 (.int .u64 0) (.int .i64 0); have hz0 := cell_size ur0)
  | (go_at_call 118; refine (HQ.out _).mono ?_; rintro e va ⟨rfl, hg_va⟩; obtain ⟨qr0, qrz0, qr1, qrz1⟩ := hg_va.y2 w.heap.size 0 1 (.int .u64 0) (.int .i64 0); obtain ⟨qp0, qp1, qp2, qp3⟩ := hg_va.e4 w1.heap.size 0 1 2 3 (.int .i64 1) (.int .i64 s) (.int .i64 x) (.int .u64 g))
  | (go_at_call 121; refine (HN.out _).mono ?_; rintro e w3 ⟨b3, k3, c3, hb3, rfl, hg_w3⟩; obtain ⟨nr0, nrz0, nr1, nrz1⟩ := hg_w3.y2 w.heap.size 0 1 (.int .u64 0) (.int .i64 0); obtain ⟨np0, np1, np2, np3⟩ := hg_w3.e4 w1.heap.size 0 1 2 3 (.int .i64 1) (.int .i64 s) (.int .i64 x) (.int .u64 g))
  | (go_at_call 120; with_reducible refine (HW.out _ _ _ _ hb3).mono ?_; rintro e w4 ⟨b4, k4, c4, hb4, rfl, hg_w4⟩; obtain ⟨mr0, mrz0, mr1, mrz1⟩ := hg_w4.y2 w.heap.size 0 1 (.int .u64 0) (.int .i64 0); obtain ⟨mp0, mp1, mp2, mp3⟩ := hg_w4.e4 w1.heap.size 0 1 2 3 (.int .i64 1) (.int .i64 s) (.int .i64 x) (.int .u64 g); have hz4 := cell_size mr0; have hk4 := big_len0 hb4)
  | (go_at_call 64; refine (HZ.out _).mono ?_; rintro e w5 ⟨rfl, hg_w5⟩; obtain ⟨zr0, zrz0, zr1, zrz1⟩ := hg_w5.y2 w.heap.size 0 1 (.int .u64 0) (.int .i64 0); obtain ⟨zp0, zp1, zp2, zp3⟩ := hg_w5.e4 w1.heap.size 0 1 2 3 (.int .i64 1) (.int .i64 s) (.int .i64 x) (.int .u64 g); have hz5 := cell_size zr0))
 obtain ⟨w6, hw6⟩ : ∃ w6, w5.alloc (.cells #[.int .u64 z, .int .i64 0] 41) = w6 := ⟨_, rfl⟩
 have hg_w6 : Gr w5 w6 := by rw [← hw6]; exact (Gr.refl _).alloc _ _
 have x0 : w6.cell? ⟨w5.heap.size, 0, none⟩ = some (.int .u64 z) := by rw [← hw6]; simp [go_sem]
 have x1 : w6.cell? ⟨w5.heap.size, 1, none⟩ = some (.int .i64 0) := by rw [← hw6]; simp [go_sem]
 have xz0 : w6.frozen? ⟨w5.heap.size, 0, none⟩ = false := by rw [← hw6]; simp [go_sem]
 have xz1 : w6.frozen? ⟨w5.heap.size, 1, none⟩ = false := by rw [← hw6]; simp [go_sem]
 have hz6 : w5.heap.size < w6.heap.size := by rw [← hw6]; simp
 rw [hw6]
 clear hw6
 obtain ⟨yr0, yrz0, yr1, yrz1⟩ := hg_w6.y2 w.heap.size 0 1 (.int .u64 0) (.int .i64 0); obtain ⟨yp0, yp1, yp2, yp3⟩ := hg_w6.e4 w1.heap.size 0 1 2 3 (.int .i64 1) (.int .i64 s) (.int .i64 x) (.int .u64 g)
 have hb6 : BigN 70005 w6 (.slice (some ⟨b4, 0, none⟩) k4 c4) 0 := BigN.gb hb4 (hg_w5.gb.trans hg_w6.gb)
 have hgw : Gb w w6 := Gb.g
 go_wp2
 refine bodyPost_ret (v := .agg #[.int .u64 z, .int .i64 16]) (by simp [results, Tryz.results32, go_sem, yr0, yr1]) rfl ⟨rfl, ?_⟩
 exact Gb.g
set_option maxRecDepth 1000000 in
theorem sRint_1x (f mode a c s x g z y : Int) (M C : Nat) (ex wh : Bool) (hx : ex = true ∧ wh = false) (hC : 0 < C) (HF : KW 117 #[.int .i64 f, .int .i64 mode, .int .u64 a, .int .u64 a] (.bool true)) (HU : KR 31 #[.int .i64 f, .int .u64 a] (.agg #[.int .i64 c, .int .i64 s, .int .i64 x, .int .u64 g])) (HQ : KR 118 #[.agg #[.int .i64 c, .int .i64 s, .int .i64 x, .int .u64 g]] (.bool false)) (e1 : c = 1) (e2 : decide (0 ≤ x) = false) (HN : Hid (∀ w, Calls Tryz.prog 121 #[.agg #[.int .i64 c, .int .i64 s, .int .i64 x, .int .u64 g]] w fun e w' => ∃ b k cc, BigN 2 w' (.slice (some ⟨b, 0, none⟩) k cc) M ∧ e = .returned (.agg #[.int .i64 s, .slice (some ⟨b, 0, none⟩) k cc, .int .i64 x, .bool false]) ∧ Gb w w')) (HW : Hid (∀ b k c w, BigN 2 w (.slice (some ⟨b, 0, none⟩) k c) M → Calls Tryz.prog 120 #[.int .i64 mode, .agg #[.int .i64 s, .slice (some ⟨b, 0, none⟩) k c, .int .i64 x, .bool false]] w fun e w' => ∃ b k c, BigN 70005 w' (.slice (some ⟨b, 0, none⟩) k c) C ∧ e = .returned (.tuple #[.slice (some ⟨b, 0, none⟩) k c, .bool wh]) ∧ Gb w w')) (HZ : KR 64 #[.int .i64 f, .int .i64 s] (.agg #[.int .u64 z, .int .i64 0])) (HR : Hid (∀ v w, BigN 70005 w v C → Calls Tryz.prog 65 #[.int .i64 f, .int .i64 0, .agg #[.int .i64 s, v, .int .i64 0, .bool false]] w fun e w' => e = .returned (.agg #[.int .u64 y, .int .i64 0]) ∧ Gb w w')) (w : World) :
  Calls Tryz.prog 32 #[.int .i64 f, .int .i64 mode, .int .u64 a, .bool ex] w fun e w' => e = .returned (.agg #[.int .u64 y, .int .i64 16]) ∧ Gb w w' := by
 subst e1
 obtain ⟨rfl, rfl⟩ := hx
 go_enter Tryz.func32, Tryz.ntmps32
 go_upto_region 10 with (first
  | (go_at_call 117; refine kw (HF.out _) ?_)
  | (go_at_call 31; refine (HU.out _).mono ?_; rintro e w1 ⟨rfl, hg_w1⟩; obtain ⟨ur0, urz0, ur1, urz1⟩ := hg_w1.y2 w.heap.size 0 1 (.int .u64 0) (.int .i64 0); have hz0 := cell_size ur0)
  | (go_at_call 118; refine (HQ.out _).mono ?_; rintro e va ⟨rfl, hg_va⟩; obtain ⟨qr0, qrz0, qr1, qrz1⟩ := hg_va.y2 w.heap.size 0 1 (.int .u64 0) (.int .i64 0); obtain ⟨qp0, qp1, qp2, qp3⟩ := hg_va.e4 w1.heap.size 0 1 2 3 (.int .i64 1) (.int .i64 s) (.int .i64 x) (.int .u64 g))
  | (go_at_call 121; refine (HN.out _).mono ?_; rintro e w3 ⟨b3, k3, c3, hb3, rfl, hg_w3⟩; obtain ⟨nr0, nrz0, nr1, nrz1⟩ := hg_w3.y2 w.heap.size 0 1 (.int .u64 0) (.int .i64 0); obtain ⟨np0, np1, np2, np3⟩ := hg_w3.e4 w1.heap.size 0 1 2 3 (.int .i64 1) (.int .i64 s) (.int .i64 x) (.int .u64 g))
  | (go_at_call 120; with_reducible refine (HW.out _ _ _ _ hb3).mono ?_; rintro e w4 ⟨b4, k4, c4, hb4, rfl, hg_w4⟩; obtain ⟨mr0, mrz0, mr1, mrz1⟩ := hg_w4.y2 w.heap.size 0 1 (.int .u64 0) (.int .i64 0); obtain ⟨mp0, mp1, mp2, mp3⟩ := hg_w4.e4 w1.heap.size 0 1 2 3 (.int .i64 1) (.int .i64 s) (.int .i64 x) (.int .u64 g); have hz4 := cell_size mr0; have hk4 := big_lenP hb4 hC)
  | (go_at_call 64; refine (HZ.out _).mono ?_; rintro e w5 ⟨rfl, hg_w5⟩; obtain ⟨zr0, zrz0, zr1, zrz1⟩ := hg_w5.y2 w.heap.size 0 1 (.int .u64 0) (.int .i64 0); obtain ⟨zp0, zp1, zp2, zp3⟩ := hg_w5.e4 w1.heap.size 0 1 2 3 (.int .i64 1) (.int .i64 s) (.int .i64 x) (.int .u64 g); have hz5 := cell_size zr0))
 obtain ⟨w6, hw6⟩ : ∃ w6, w5.alloc (.cells #[.int .u64 z, .int .i64 0] 41) = w6 := ⟨_, rfl⟩
 have hg_w6 : Gr w5 w6 := by rw [← hw6]; exact (Gr.refl _).alloc _ _
 have x0 : w6.cell? ⟨w5.heap.size, 0, none⟩ = some (.int .u64 z) := by rw [← hw6]; simp [go_sem]
 have x1 : w6.cell? ⟨w5.heap.size, 1, none⟩ = some (.int .i64 0) := by rw [← hw6]; simp [go_sem]
 have xz0 : w6.frozen? ⟨w5.heap.size, 0, none⟩ = false := by rw [← hw6]; simp [go_sem]
 have xz1 : w6.frozen? ⟨w5.heap.size, 1, none⟩ = false := by rw [← hw6]; simp [go_sem]
 have hz6 : w5.heap.size < w6.heap.size := by rw [← hw6]; simp
 rw [hw6]
 clear hw6
 obtain ⟨yr0, yrz0, yr1, yrz1⟩ := hg_w6.y2 w.heap.size 0 1 (.int .u64 0) (.int .i64 0); obtain ⟨yp0, yp1, yp2, yp3⟩ := hg_w6.e4 w1.heap.size 0 1 2 3 (.int .i64 1) (.int .i64 s) (.int .i64 x) (.int .u64 g)
 have hb6 : BigN 70005 w6 (.slice (some ⟨b4, 0, none⟩) k4 c4) C := BigN.gb hb4 (hg_w5.gb.trans hg_w6.gb)
 have hgw : Gb w w6 := Gb.g
 go_upto_region 12 with (go_at_call 65; with_reducible refine (HR.out _ _ hb6).mono ?_; rintro e w7 ⟨rfl, hg_w7⟩; obtain ⟨rr0, rrz0, rr1, rrz1⟩ := hg_w7.y2 w.heap.size 0 1 (.int .u64 0) (.int .i64 0); obtain ⟨rx0, rxz0, rx1, rxz1⟩ := hg_w7.y2 w5.heap.size 0 1 (.int .u64 z) (.int .i64 0); have hz7 := cell_size rr0)
 obtain ⟨w8, hw8⟩ : ∃ w8, (w7.setCell ⟨w5.heap.size, 0, none⟩ (.int .u64 y)).setCell ⟨w5.heap.size, 1, none⟩ (.int .i64 0) = w8 := ⟨_, rfl⟩
 have hgw7 : Gb w w7 := Gb.g
 have hlt : w.heap.size ≤ w5.heap.size := by omega
 have hgw8 : Gb w w8 := by
  rw [← hw8]
  exact (hgw7.setCell (a := ⟨w5.heap.size, 0, none⟩) hlt _).setCell (a := ⟨w5.heap.size, 1, none⟩) hlt _
 have s0 : w8.cell? ⟨w5.heap.size, 0, none⟩ = some (.int .u64 y) := by rw [← hw8]; exact kh
 have s1 : w8.cell? ⟨w5.heap.size, 1, none⟩ = some (.int .i64 0) := by rw [← hw8]; exact kh
 have sz1 : w8.frozen? ⟨w5.heap.size, 1, none⟩ = false := by rw [← hw8]; exact kh
 have sr0 : w8.cell? ⟨w.heap.size, 0, none⟩ = some (.int .u64 0) := by rw [← hw8]; exact kh
 have sr1 : w8.cell? ⟨w.heap.size, 1, none⟩ = some (.int .i64 0) := by rw [← hw8]; exact kh
 have srz0 : w8.frozen? ⟨w.heap.size, 0, none⟩ = false := by rw [← hw8]; exact kh
 have srz1 : w8.frozen? ⟨w.heap.size, 1, none⟩ = false := by rw [← hw8]; exact kh
 rw [hw8]
 clear hw8
 go_wp2
 refine bodyPost_ret (v := .agg #[.int .u64 y, .int .i64 16]) (by simp [results, Tryz.results32, go_sem, sr0, sr1]) rfl ⟨rfl, ?_⟩
 exact Gb.g
end Go.Proofs.YtnbbfeknbfohhaaGreatDoor
namespace Go.Proofs.YtnbbfeknbfohhaaGreatDoor
open Go.RowKit
theorem twL5c3 {P : Prop} (h : P := by
 go_enter Tryz.func127, Tryz.ntmps127
 go_wp2_with (go_at_call 157; refine (HW.out _ Gb.g).mono ?_; rintro e w1 ⟨rfl, hg_w1⟩)
 go_returns
 exact ⟨rfl, Gb.g⟩) : P := h
theorem twL5c2 {P : Prop} (h : P := by
 go_region_held3 (fun w' => w'.cell? ⟨w1.heap.size, 1, none⟩ = some (.int .i64 s))
  ((go_split_ands; (repeat' apply And.intro) <;> exact kh))
  (first
   | (go_at_call 128; refine (HM.out _).mono ?_; rintro e n8 ⟨b8, k8, c8, hb8, rfl, hg_n8⟩; obtain ⟨nr0, nrz0, nr1, nrz1⟩ := hg_n8.y2 w.heap.size 0 1 (.int .u64 0) (.int .i64 0))
   | (go_at_call 127; refine (HWe.out _ _ _ _ (BigN.gb hb8 Gb.g)).mono ?_; rintro e n9 ⟨rfl, hg_n9⟩; obtain ⟨zr0, zrz0, zr1, zrz1⟩ := hg_n9.y2 w.heap.size 0 1 (.int .u64 0) (.int .i64 0)))
 all_goals (try go_split_ands)
 all_goals go_wp2
 all_goals
  refine bodyPost_ret (v := .agg #[.int .u64 z, .int .i64 1]) (by simp [results, Tryz.results39, go_sem, zr0, zr1]) rfl ⟨rfl, ?_⟩
  exact Gb.g) : P := h
set_option maxRecDepth 1000000 in
theorem l5Word_walk (s v r : Int) (hr : s = 1 ∧ IntKind.u64.wrap (0 - v) = r ∧ IntKind.u64.wrap (-v) = r ∨ s = 0 ∧ v = r) (b k c : Nat) {w : World} (HW : Hid (∀ w', Gb w w' → Calls Tryz.prog 157 #[.slice (some ⟨b, 0, none⟩) k c] w' fun e w'' => e = .returned (.int .u64 v) ∧ Gb w' w'')) :
  Calls Tryz.prog 127 #[.int .i64 s, .slice (some ⟨b, 0, none⟩) k c] w fun e w' => e = .returned (.int .u64 r) ∧ Gb w w' := by
 rcases hr with ⟨rfl, h1, h2⟩ | ⟨rfl, rfl⟩
 ·exact twL5c3
 ·exact twL5c3
set_option maxRecDepth 1000000 in
theorem sToInt_bad1 (f mode kind a : Int) (S : Bool) (HK : KW 126 #[.int .i64 kind] (.tuple #[.int .i64 0, .bool S])) (w : World) :
  Calls Tryz.prog 39 #[.int .i64 f, .int .i64 mode, .int .i64 kind, .int .u64 a] w fun e w' => e = .returned (.agg #[.int .u64 0, .int .i64 1]) ∧ Gb w w' := by
 go_enter Tryz.func39, Tryz.ntmps39
 go_wp2_with (first
  | (go_at_call 126; refine kw (HK.out _) ?_))
 go_returns
 exact ⟨rfl, Gb.g⟩
set_option maxRecDepth 1000000 in
theorem sToInt_bad2 (f mode kind a B : Int) (S : Bool) (B0 : (B == 0) = false) (HK : KW 126 #[.int .i64 kind] (.tuple #[.int .i64 B, .bool S])) (HY : KW 62 #[.int .i64 mode] (.bool false)) (w : World) :
  Calls Tryz.prog 39 #[.int .i64 f, .int .i64 mode, .int .i64 kind, .int .u64 a] w fun e w' => e = .returned (.agg #[.int .u64 0, .int .i64 1]) ∧ Gb w w' := by
 go_enter Tryz.func39, Tryz.ntmps39
 go_wp2_with (first
  | (go_at_call 126; refine kw (HK.out _) ?_)
  | (go_at_call 62; refine kw (HY.out _) ?_))
 go_returns
 exact ⟨rfl, Gb.g⟩
set_option maxRecDepth 1000000 in
theorem sToInt_bad3 (f mode kind a B : Int) (S : Bool) (B0 : (B == 0) = false) (HK : KW 126 #[.int .i64 kind] (.tuple #[.int .i64 B, .bool S])) (HY : KW 62 #[.int .i64 mode] (.bool true)) (HF : KW 110 #[.int .i64 f, .int .u64 a] (.bool false)) (w : World) :
  Calls Tryz.prog 39 #[.int .i64 f, .int .i64 mode, .int .i64 kind, .int .u64 a] w fun e w' => e = .returned (.agg #[.int .u64 0, .int .i64 1]) ∧ Gb w w' := by
 go_enter Tryz.func39, Tryz.ntmps39
 go_wp2_with (first
  | (go_at_call 126; refine kw (HK.out _) ?_)
  | (go_at_call 62; refine kw (HY.out _) ?_)
  | (go_at_call 110; refine kw (HF.out _) ?_))
 go_returns
 exact ⟨rfl, Gb.g⟩
set_option maxRecDepth 1000000 in
theorem sToInt_nan (f mode kind a B c s x g z : Int) (S : Bool) (L0 : Nat) (B0 : (B == 0) = false) (HK : KW 126 #[.int .i64 kind] (.tuple #[.int .i64 B, .bool S])) (HY : KW 62 #[.int .i64 mode] (.bool true)) (HF : KW 110 #[.int .i64 f, .int .u64 a] (.bool true)) (HU : KR 31 #[.int .i64 f, .int .u64 a] (.agg #[.int .i64 c, .int .i64 s, .int .i64 x, .int .u64 g])) (HQ : KR 118 #[.agg #[.int .i64 c, .int .i64 s, .int .i64 x, .int .u64 g]] (.bool true)) (HM0 : Hid (∀ w, Calls Tryz.prog 128 #[.int .i64 kind, .int .i64 0] w fun e w' => ∃ b k c, BigN 20 w' (.slice (some ⟨b, 0, none⟩) k c) L0 ∧ e = .returned (.slice (some ⟨b, 0, none⟩) k c) ∧ Gb w w')) (HW0 : Hid (∀ b k c w, BigN 20 w (.slice (some ⟨b, 0, none⟩) k c) L0 → Calls Tryz.prog 127 #[.int .i64 0, .slice (some ⟨b, 0, none⟩) k c] w fun e w' => e = .returned (.int .u64 z) ∧ Gb w w')) (w : World) :
  Calls Tryz.prog 39 #[.int .i64 f, .int .i64 mode, .int .i64 kind, .int .u64 a] w fun e w' => e = .returned (.agg #[.int .u64 z, .int .i64 1]) ∧ Gb w w' := by
 go_enter Tryz.func39, Tryz.ntmps39
 go_wp2_with (first
  | (go_at_call 126; refine kw (HK.out _) ?_)
  | (go_at_call 62; refine kw (HY.out _) ?_)
  | (go_at_call 110; refine kw (HF.out _) ?_)
  | (go_at_call 31; refine (HU.out _).mono ?_; rintro e w1 ⟨rfl, hg_w1⟩; obtain ⟨ur0, urz0, ur1, urz1⟩ := hg_w1.y2 w.heap.size 0 1 (.int .u64 0) (.int .i64 0); have hz0 := cell_size ur0)
  | (go_at_call 118; refine (HQ.out _).mono ?_; rintro e va ⟨rfl, hg_va⟩; obtain ⟨qr0, qrz0, qr1, qrz1⟩ := hg_va.y2 w.heap.size 0 1 (.int .u64 0) (.int .i64 0); obtain ⟨qp0, qp1, qp2, qp3⟩ := hg_va.e4 w1.heap.size 0 1 2 3 (.int .i64 c) (.int .i64 s) (.int .i64 x) (.int .u64 g))
  | (go_at_call 128; refine (HM0.out _).mono ?_; rintro e n1 ⟨b1, k1, c1, hb1, rfl, hg_n1⟩; obtain ⟨mr0, mrz0, mr1, mrz1⟩ := hg_n1.y2 w.heap.size 0 1 (.int .u64 0) (.int .i64 0))
  | (go_at_call 127; refine (HW0.out _ _ _ _ hb1).mono ?_; rintro e n2 ⟨rfl, hg_n2⟩; obtain ⟨zr0, zrz0, zr1, zrz1⟩ := hg_n2.y2 w.heap.size 0 1 (.int .u64 0) (.int .i64 0)))
 refine bodyPost_ret (v := .agg #[.int .u64 z, .int .i64 1]) (by simp [results, Tryz.results39, go_sem, zr0, zr1]) rfl ⟨rfl, ?_⟩
 exact Gb.g
set_option maxRecDepth 1000000 in
theorem sToInt_inf (f mode kind a B c s x g z : Int) (S : Bool) (L : Nat) (B0 : (B == 0) = false) (HK : KW 126 #[.int .i64 kind] (.tuple #[.int .i64 B, .bool S])) (HY : KW 62 #[.int .i64 mode] (.bool true)) (HF : KW 110 #[.int .i64 f, .int .u64 a] (.bool true)) (HU : KR 31 #[.int .i64 f, .int .u64 a] (.agg #[.int .i64 c, .int .i64 s, .int .i64 x, .int .u64 g])) (HQ : KR 118 #[.agg #[.int .i64 c, .int .i64 s, .int .i64 x, .int .u64 g]] (.bool false)) (e2 : c = 2) (HM : Hid (∀ w, Calls Tryz.prog 128 #[.int .i64 kind, .int .i64 s] w fun e w' => ∃ b k c, BigN 20 w' (.slice (some ⟨b, 0, none⟩) k c) L ∧ e = .returned (.slice (some ⟨b, 0, none⟩) k c) ∧ Gb w w')) (HWe : Hid (∀ b k c w, BigN 20 w (.slice (some ⟨b, 0, none⟩) k c) L → Calls Tryz.prog 127 #[.int .i64 s, .slice (some ⟨b, 0, none⟩) k c] w fun e w' => e = .returned (.int .u64 z) ∧ Gb w w')) (w : World) :
  Calls Tryz.prog 39 #[.int .i64 f, .int .i64 mode, .int .i64 kind, .int .u64 a] w fun e w' => e = .returned (.agg #[.int .u64 z, .int .i64 1]) ∧ Gb w w' := by
 subst e2
 go_enter Tryz.func39, Tryz.ntmps39
 go_wp2_with (first
  | (go_at_call 126; refine kw (HK.out _) ?_)
  | (go_at_call 62; refine kw (HY.out _) ?_)
  | (go_at_call 110; refine kw (HF.out _) ?_)
  | (go_at_call 31; refine (HU.out _).mono ?_; rintro e w1 ⟨rfl, hg_w1⟩; obtain ⟨ur0, urz0, ur1, urz1⟩ := hg_w1.y2 w.heap.size 0 1 (.int .u64 0) (.int .i64 0); have hz0 := cell_size ur0)
  | (go_at_call 118; refine (HQ.out _).mono ?_; rintro e va ⟨rfl, hg_va⟩; obtain ⟨qr0, qrz0, qr1, qrz1⟩ := hg_va.y2 w.heap.size 0 1 (.int .u64 0) (.int .i64 0); obtain ⟨qp0, qp1, qp2, qp3⟩ := hg_va.e4 w1.heap.size 0 1 2 3 (.int .i64 2) (.int .i64 s) (.int .i64 x) (.int .u64 g)))
 exact twL5c2
set_option maxRecDepth 1000000 in
theorem sToInt_far (f mode kind a B c s x g z : Int) (S : Bool) (L : Nat) (B0 : (B == 0) = false) (HK : KW 126 #[.int .i64 kind] (.tuple #[.int .i64 B, .bool S])) (HY : KW 62 #[.int .i64 mode] (.bool true)) (HF : KW 110 #[.int .i64 f, .int .u64 a] (.bool true)) (HU : KR 31 #[.int .i64 f, .int .u64 a] (.agg #[.int .i64 c, .int .i64 s, .int .i64 x, .int .u64 g])) (HQ : KR 118 #[.agg #[.int .i64 c, .int .i64 s, .int .i64 x, .int .u64 g]] (.bool false)) (e2 : ¬ c = 2) (e3 : decide (200 < x) = true) (HM : Hid (∀ w, Calls Tryz.prog 128 #[.int .i64 kind, .int .i64 s] w fun e w' => ∃ b k c, BigN 20 w' (.slice (some ⟨b, 0, none⟩) k c) L ∧ e = .returned (.slice (some ⟨b, 0, none⟩) k c) ∧ Gb w w')) (HWe : Hid (∀ b k c w, BigN 20 w (.slice (some ⟨b, 0, none⟩) k c) L → Calls Tryz.prog 127 #[.int .i64 s, .slice (some ⟨b, 0, none⟩) k c] w fun e w' => e = .returned (.int .u64 z) ∧ Gb w w')) (w : World) :
  Calls Tryz.prog 39 #[.int .i64 f, .int .i64 mode, .int .i64 kind, .int .u64 a] w fun e w' => e = .returned (.agg #[.int .u64 z, .int .i64 1]) ∧ Gb w w' := by
 go_enter Tryz.func39, Tryz.ntmps39
 go_wp2_with (first
  | (go_at_call 126; refine kw (HK.out _) ?_)
  | (go_at_call 62; refine kw (HY.out _) ?_)
  | (go_at_call 110; refine kw (HF.out _) ?_)
  | (go_at_call 31; refine (HU.out _).mono ?_; rintro e w1 ⟨rfl, hg_w1⟩; obtain ⟨ur0, urz0, ur1, urz1⟩ := hg_w1.y2 w.heap.size 0 1 (.int .u64 0) (.int .i64 0); have hz0 := cell_size ur0)
  | (go_at_call 118; refine (HQ.out _).mono ?_; rintro e va ⟨rfl, hg_va⟩; obtain ⟨qr0, qrz0, qr1, qrz1⟩ := hg_va.y2 w.heap.size 0 1 (.int .u64 0) (.int .i64 0); obtain ⟨qp0, qp1, qp2, qp3⟩ := hg_va.e4 w1.heap.size 0 1 2 3 (.int .i64 c) (.int .i64 s) (.int .i64 x) (.int .u64 g)))
 exact twL5c2
set_option maxRecDepth 1000000 in
theorem sToInt_okw (f mode kind a B c s x g z d : Int) (S wh : Bool) (M C L : Nat) (hwh : wh = true) (B0 : (B == 0) = false) (HK : KW 126 #[.int .i64 kind] (.tuple #[.int .i64 B, .bool S])) (HY : KW 62 #[.int .i64 mode] (.bool true)) (HF : KW 110 #[.int .i64 f, .int .u64 a] (.bool true)) (HU : KR 31 #[.int .i64 f, .int .u64 a] (.agg #[.int .i64 c, .int .i64 s, .int .i64 x, .int .u64 g])) (HQ : KR 118 #[.agg #[.int .i64 c, .int .i64 s, .int .i64 x, .int .u64 g]] (.bool false)) (e2 : ¬ c = 2) (e3 : decide (200 < x) = false) (HN : Hid (∀ w, Calls Tryz.prog 121 #[.agg #[.int .i64 c, .int .i64 s, .int .i64 x, .int .u64 g]] w fun e w' => ∃ b k cc, BigN 2 w' (.slice (some ⟨b, 0, none⟩) k cc) M ∧ e = .returned (.agg #[.int .i64 s, .slice (some ⟨b, 0, none⟩) k cc, .int .i64 x, .bool false]) ∧ Gb w w')) (HWh : Hid (∀ b k c w, BigN 2 w (.slice (some ⟨b, 0, none⟩) k c) M → Calls Tryz.prog 120 #[.int .i64 mode, .agg #[.int .i64 s, .slice (some ⟨b, 0, none⟩) k c, .int .i64 x, .bool false]] w fun e w' => ∃ b k c, BigN 70005 w' (.slice (some ⟨b, 0, none⟩) k c) C ∧ e = .returned (.tuple #[.slice (some ⟨b, 0, none⟩) k c, .bool wh]) ∧ Gb w w')) (HM : Hid (∀ w, Calls Tryz.prog 128 #[.int .i64 kind, .int .i64 s] w fun e w' => ∃ b k c, BigN 20 w' (.slice (some ⟨b, 0, none⟩) k c) L ∧ e = .returned (.slice (some ⟨b, 0, none⟩) k c) ∧ Gb w w')) (HC : Hid (∀ v v' w, BigN 70005 w v C → BigN 20 w v' L → Calls Tryz.prog 129 #[v, v'] w fun e w' => e = .returned (.int .i64 d) ∧ Gb w w')) (hd : decide (d ≤ 0) = true) (HWw : Hid (∀ b k c w, BigN 70005 w (.slice (some ⟨b, 0, none⟩) k c) C → Calls Tryz.prog 127 #[.int .i64 s, .slice (some ⟨b, 0, none⟩) k c] w fun e w' => e = .returned (.int .u64 z) ∧ Gb w w')) (w : World) :
  Calls Tryz.prog 39 #[.int .i64 f, .int .i64 mode, .int .i64 kind, .int .u64 a] w fun e w' => e = .returned (.agg #[.int .u64 z, .int .i64 0]) ∧ Gb w w' := by
 subst hwh
 have e2' : (c == 2) = false := by simp [e2]
 go_enter Tryz.func39, Tryz.ntmps39
 go_wp2_with (first
  | (go_at_call 126; refine kw (HK.out _) ?_)
  | (go_at_call 62; refine kw (HY.out _) ?_)
  | (go_at_call 110; refine kw (HF.out _) ?_)
  | (go_at_call 31; refine (HU.out _).mono ?_; rintro e w1 ⟨rfl, hg_w1⟩; obtain ⟨ur0, urz0, ur1, urz1⟩ := hg_w1.y2 w.heap.size 0 1 (.int .u64 0) (.int .i64 0); have hz0 := cell_size ur0)
  | (go_at_call 118; refine (HQ.out _).mono ?_; rintro e va ⟨rfl, hg_va⟩; obtain ⟨qr0, qrz0, qr1, qrz1⟩ := hg_va.y2 w.heap.size 0 1 (.int .u64 0) (.int .i64 0); obtain ⟨qp0, qp1, qp2, qp3⟩ := hg_va.e4 w1.heap.size 0 1 2 3 (.int .i64 c) (.int .i64 s) (.int .i64 x) (.int .u64 g))
  | (go_at_call 121; refine (HN.out _).mono ?_; rintro e w3 ⟨b3, k3, c3, hb3, rfl, hg_w3⟩; obtain ⟨nr0, nrz0, nr1, nrz1⟩ := hg_w3.y2 w.heap.size 0 1 (.int .u64 0) (.int .i64 0); obtain ⟨np0, np1, np2, np3⟩ := hg_w3.e4 w1.heap.size 0 1 2 3 (.int .i64 c) (.int .i64 s) (.int .i64 x) (.int .u64 g))
  | (go_at_call 120; with_reducible refine (HWh.out _ _ _ _ hb3).mono ?_; rintro e w4 ⟨b4, k4, c4, hb4, rfl, hg_w4⟩; obtain ⟨mr0, mrz0, mr1, mrz1⟩ := hg_w4.y2 w.heap.size 0 1 (.int .u64 0) (.int .i64 0); obtain ⟨mp0, mp1, mp2, mp3⟩ := hg_w4.e4 w1.heap.size 0 1 2 3 (.int .i64 c) (.int .i64 s) (.int .i64 x) (.int .u64 g))
  | (go_at_call 128; refine (HM.out _).mono ?_; rintro e w5 ⟨b5, k5, c5, hb5, rfl, hg_w5⟩; obtain ⟨or0, orz0, or1, orz1⟩ := hg_w5.y2 w.heap.size 0 1 (.int .u64 0) (.int .i64 0); obtain ⟨op0, op1, op2, op3⟩ := hg_w5.e4 w1.heap.size 0 1 2 3 (.int .i64 c) (.int .i64 s) (.int .i64 x) (.int .u64 g))
  | (go_at_call 129; with_reducible refine (HC.out _ _ _ (BigN.gb hb4 hg_w5) hb5).mono ?_; rintro e w6 ⟨rfl, hg_w6⟩; obtain ⟨pr0, prz0, pr1, prz1⟩ := hg_w6.y2 w.heap.size 0 1 (.int .u64 0) (.int .i64 0); obtain ⟨pp0, pp1, pp2, pp3⟩ := hg_w6.e4 w1.heap.size 0 1 2 3 (.int .i64 c) (.int .i64 s) (.int .i64 x) (.int .u64 g))
  | (go_at_call 127; refine (HWw.out _ _ _ _ (BigN.gb hb4 (hg_w5.trans hg_w6))).mono ?_; rintro e w7 ⟨rfl, hg_w7⟩; obtain ⟨zr0, zrz0, zr1, zrz1⟩ := hg_w7.y2 w.heap.size 0 1 (.int .u64 0) (.int .i64 0)))
 refine bodyPost_ret (v := .agg #[.int .u64 z, .int .i64 0]) (by simp [results, Tryz.results39, go_sem, zr0, zr1]) rfl ⟨rfl, ?_⟩
 exact Gb.g
set_option maxRecDepth 1000000 in
theorem sToInt_okx (f mode kind a B c s x g z d : Int) (S wh : Bool) (M C L : Nat) (hwh : wh = false) (B0 : (B == 0) = false) (HK : KW 126 #[.int .i64 kind] (.tuple #[.int .i64 B, .bool S])) (HY : KW 62 #[.int .i64 mode] (.bool true)) (HF : KW 110 #[.int .i64 f, .int .u64 a] (.bool true)) (HU : KR 31 #[.int .i64 f, .int .u64 a] (.agg #[.int .i64 c, .int .i64 s, .int .i64 x, .int .u64 g])) (HQ : KR 118 #[.agg #[.int .i64 c, .int .i64 s, .int .i64 x, .int .u64 g]] (.bool false)) (e2 : ¬ c = 2) (e3 : decide (200 < x) = false) (HN : Hid (∀ w, Calls Tryz.prog 121 #[.agg #[.int .i64 c, .int .i64 s, .int .i64 x, .int .u64 g]] w fun e w' => ∃ b k cc, BigN 2 w' (.slice (some ⟨b, 0, none⟩) k cc) M ∧ e = .returned (.agg #[.int .i64 s, .slice (some ⟨b, 0, none⟩) k cc, .int .i64 x, .bool false]) ∧ Gb w w')) (HWh : Hid (∀ b k c w, BigN 2 w (.slice (some ⟨b, 0, none⟩) k c) M → Calls Tryz.prog 120 #[.int .i64 mode, .agg #[.int .i64 s, .slice (some ⟨b, 0, none⟩) k c, .int .i64 x, .bool false]] w fun e w' => ∃ b k c, BigN 70005 w' (.slice (some ⟨b, 0, none⟩) k c) C ∧ e = .returned (.tuple #[.slice (some ⟨b, 0, none⟩) k c, .bool wh]) ∧ Gb w w')) (HM : Hid (∀ w, Calls Tryz.prog 128 #[.int .i64 kind, .int .i64 s] w fun e w' => ∃ b k c, BigN 20 w' (.slice (some ⟨b, 0, none⟩) k c) L ∧ e = .returned (.slice (some ⟨b, 0, none⟩) k c) ∧ Gb w w')) (HC : Hid (∀ v v' w, BigN 70005 w v C → BigN 20 w v' L → Calls Tryz.prog 129 #[v, v'] w fun e w' => e = .returned (.int .i64 d) ∧ Gb w w')) (hd : decide (d ≤ 0) = true) (HWw : Hid (∀ b k c w, BigN 70005 w (.slice (some ⟨b, 0, none⟩) k c) C → Calls Tryz.prog 127 #[.int .i64 s, .slice (some ⟨b, 0, none⟩) k c] w fun e w' => e = .returned (.int .u64 z) ∧ Gb w w')) (w : World) :
  Calls Tryz.prog 39 #[.int .i64 f, .int .i64 mode, .int .i64 kind, .int .u64 a] w fun e w' => e = .returned (.agg #[.int .u64 z, .int .i64 16]) ∧ Gb w w' := by
 subst hwh
 have e2' : (c == 2) = false := by simp [e2]
 go_enter Tryz.func39, Tryz.ntmps39
 go_wp2_with (first
  | (go_at_call 126; refine kw (HK.out _) ?_)
  | (go_at_call 62; refine kw (HY.out _) ?_)
  | (go_at_call 110; refine kw (HF.out _) ?_)
  | (go_at_call 31; refine (HU.out _).mono ?_; rintro e w1 ⟨rfl, hg_w1⟩; obtain ⟨ur0, urz0, ur1, urz1⟩ := hg_w1.y2 w.heap.size 0 1 (.int .u64 0) (.int .i64 0); have hz0 := cell_size ur0)
  | (go_at_call 118; refine (HQ.out _).mono ?_; rintro e va ⟨rfl, hg_va⟩; obtain ⟨qr0, qrz0, qr1, qrz1⟩ := hg_va.y2 w.heap.size 0 1 (.int .u64 0) (.int .i64 0); obtain ⟨qp0, qp1, qp2, qp3⟩ := hg_va.e4 w1.heap.size 0 1 2 3 (.int .i64 c) (.int .i64 s) (.int .i64 x) (.int .u64 g))
  | (go_at_call 121; refine (HN.out _).mono ?_; rintro e w3 ⟨b3, k3, c3, hb3, rfl, hg_w3⟩; obtain ⟨nr0, nrz0, nr1, nrz1⟩ := hg_w3.y2 w.heap.size 0 1 (.int .u64 0) (.int .i64 0); obtain ⟨np0, np1, np2, np3⟩ := hg_w3.e4 w1.heap.size 0 1 2 3 (.int .i64 c) (.int .i64 s) (.int .i64 x) (.int .u64 g))
  | (go_at_call 120; with_reducible refine (HWh.out _ _ _ _ hb3).mono ?_; rintro e w4 ⟨b4, k4, c4, hb4, rfl, hg_w4⟩; obtain ⟨mr0, mrz0, mr1, mrz1⟩ := hg_w4.y2 w.heap.size 0 1 (.int .u64 0) (.int .i64 0); obtain ⟨mp0, mp1, mp2, mp3⟩ := hg_w4.e4 w1.heap.size 0 1 2 3 (.int .i64 c) (.int .i64 s) (.int .i64 x) (.int .u64 g))
  | (go_at_call 128; refine (HM.out _).mono ?_; rintro e w5 ⟨b5, k5, c5, hb5, rfl, hg_w5⟩; obtain ⟨or0, orz0, or1, orz1⟩ := hg_w5.y2 w.heap.size 0 1 (.int .u64 0) (.int .i64 0); obtain ⟨op0, op1, op2, op3⟩ := hg_w5.e4 w1.heap.size 0 1 2 3 (.int .i64 c) (.int .i64 s) (.int .i64 x) (.int .u64 g))
  | (go_at_call 129; with_reducible refine (HC.out _ _ _ (BigN.gb hb4 hg_w5) hb5).mono ?_; rintro e w6 ⟨rfl, hg_w6⟩; obtain ⟨pr0, prz0, pr1, prz1⟩ := hg_w6.y2 w.heap.size 0 1 (.int .u64 0) (.int .i64 0); obtain ⟨pp0, pp1, pp2, pp3⟩ := hg_w6.e4 w1.heap.size 0 1 2 3 (.int .i64 c) (.int .i64 s) (.int .i64 x) (.int .u64 g))
  | (go_at_call 127; refine (HWw.out _ _ _ _ (BigN.gb hb4 (hg_w5.trans hg_w6))).mono ?_; rintro e w7 ⟨rfl, hg_w7⟩; obtain ⟨zr0, zrz0, zr1, zrz1⟩ := hg_w7.y2 w.heap.size 0 1 (.int .u64 0) (.int .i64 0)))
 refine bodyPost_ret (v := .agg #[.int .u64 z, .int .i64 16]) (by simp [results, Tryz.results39, go_sem, zr0, zr1]) rfl ⟨rfl, ?_⟩
 exact Gb.g
set_option maxRecDepth 1000000 in
theorem sToInt_out (f mode kind a B c s x g z d : Int) (S wh : Bool) (M C L : Nat) (B0 : (B == 0) = false) (HK : KW 126 #[.int .i64 kind] (.tuple #[.int .i64 B, .bool S])) (HY : KW 62 #[.int .i64 mode] (.bool true)) (HF : KW 110 #[.int .i64 f, .int .u64 a] (.bool true)) (HU : KR 31 #[.int .i64 f, .int .u64 a] (.agg #[.int .i64 c, .int .i64 s, .int .i64 x, .int .u64 g])) (HQ : KR 118 #[.agg #[.int .i64 c, .int .i64 s, .int .i64 x, .int .u64 g]] (.bool false)) (e2 : ¬ c = 2) (e3 : decide (200 < x) = false) (HN : Hid (∀ w, Calls Tryz.prog 121 #[.agg #[.int .i64 c, .int .i64 s, .int .i64 x, .int .u64 g]] w fun e w' => ∃ b k cc, BigN 2 w' (.slice (some ⟨b, 0, none⟩) k cc) M ∧ e = .returned (.agg #[.int .i64 s, .slice (some ⟨b, 0, none⟩) k cc, .int .i64 x, .bool false]) ∧ Gb w w')) (HWh : Hid (∀ b k c w, BigN 2 w (.slice (some ⟨b, 0, none⟩) k c) M → Calls Tryz.prog 120 #[.int .i64 mode, .agg #[.int .i64 s, .slice (some ⟨b, 0, none⟩) k c, .int .i64 x, .bool false]] w fun e w' => ∃ b k c, BigN 70005 w' (.slice (some ⟨b, 0, none⟩) k c) C ∧ e = .returned (.tuple #[.slice (some ⟨b, 0, none⟩) k c, .bool wh]) ∧ Gb w w')) (HM : Hid (∀ w, Calls Tryz.prog 128 #[.int .i64 kind, .int .i64 s] w fun e w' => ∃ b k c, BigN 20 w' (.slice (some ⟨b, 0, none⟩) k c) L ∧ e = .returned (.slice (some ⟨b, 0, none⟩) k c) ∧ Gb w w')) (HC : Hid (∀ v v' w, BigN 70005 w v C → BigN 20 w v' L → Calls Tryz.prog 129 #[v, v'] w fun e w' => e = .returned (.int .i64 d) ∧ Gb w w')) (hd : decide (d ≤ 0) = false) (HWe : Hid (∀ b k c w, BigN 20 w (.slice (some ⟨b, 0, none⟩) k c) L → Calls Tryz.prog 127 #[.int .i64 s, .slice (some ⟨b, 0, none⟩) k c] w fun e w' => e = .returned (.int .u64 z) ∧ Gb w w')) (w : World) :
  Calls Tryz.prog 39 #[.int .i64 f, .int .i64 mode, .int .i64 kind, .int .u64 a] w fun e w' => e = .returned (.agg #[.int .u64 z, .int .i64 1]) ∧ Gb w w' := by
 have e2' : (c == 2) = false := by simp [e2]
 go_enter Tryz.func39, Tryz.ntmps39
 go_wp2_with (first
  | (go_at_call 126; refine kw (HK.out _) ?_)
  | (go_at_call 62; refine kw (HY.out _) ?_)
  | (go_at_call 110; refine kw (HF.out _) ?_)
  | (go_at_call 31; refine (HU.out _).mono ?_; rintro e w1 ⟨rfl, hg_w1⟩; obtain ⟨ur0, urz0, ur1, urz1⟩ := hg_w1.y2 w.heap.size 0 1 (.int .u64 0) (.int .i64 0); have hz0 := cell_size ur0)
  | (go_at_call 118; refine (HQ.out _).mono ?_; rintro e va ⟨rfl, hg_va⟩; obtain ⟨qr0, qrz0, qr1, qrz1⟩ := hg_va.y2 w.heap.size 0 1 (.int .u64 0) (.int .i64 0); obtain ⟨qp0, qp1, qp2, qp3⟩ := hg_va.e4 w1.heap.size 0 1 2 3 (.int .i64 c) (.int .i64 s) (.int .i64 x) (.int .u64 g))
  | (go_at_call 121; refine (HN.out _).mono ?_; rintro e w3 ⟨b3, k3, c3, hb3, rfl, hg_w3⟩; obtain ⟨nr0, nrz0, nr1, nrz1⟩ := hg_w3.y2 w.heap.size 0 1 (.int .u64 0) (.int .i64 0); obtain ⟨np0, np1, np2, np3⟩ := hg_w3.e4 w1.heap.size 0 1 2 3 (.int .i64 c) (.int .i64 s) (.int .i64 x) (.int .u64 g))
  | (go_at_call 120; with_reducible refine (HWh.out _ _ _ _ hb3).mono ?_; rintro e w4 ⟨b4, k4, c4, hb4, rfl, hg_w4⟩; obtain ⟨mr0, mrz0, mr1, mrz1⟩ := hg_w4.y2 w.heap.size 0 1 (.int .u64 0) (.int .i64 0); obtain ⟨mp0, mp1, mp2, mp3⟩ := hg_w4.e4 w1.heap.size 0 1 2 3 (.int .i64 c) (.int .i64 s) (.int .i64 x) (.int .u64 g))
  | (go_at_call 128; refine (HM.out _).mono ?_; rintro e w5 ⟨b5, k5, c5, hb5, rfl, hg_w5⟩; obtain ⟨or0, orz0, or1, orz1⟩ := hg_w5.y2 w.heap.size 0 1 (.int .u64 0) (.int .i64 0); obtain ⟨op0, op1, op2, op3⟩ := hg_w5.e4 w1.heap.size 0 1 2 3 (.int .i64 c) (.int .i64 s) (.int .i64 x) (.int .u64 g))
  | (go_at_call 129; with_reducible refine (HC.out _ _ _ (BigN.gb hb4 hg_w5) hb5).mono ?_; rintro e w6 ⟨rfl, hg_w6⟩; obtain ⟨pr0, prz0, pr1, prz1⟩ := hg_w6.y2 w.heap.size 0 1 (.int .u64 0) (.int .i64 0); obtain ⟨pp0, pp1, pp2, pp3⟩ := hg_w6.e4 w1.heap.size 0 1 2 3 (.int .i64 c) (.int .i64 s) (.int .i64 x) (.int .u64 g)))
 exact twL5c2
end Go.Proofs.YtnbbfeknbfohhaaGreatDoor
