import Derived.Test.YtnbbfeknbfohhaaGreatDoorR2
import Derived.Test.YtnbbfeknbfohhaaGreatDoorB0
import Derived.Test.YtnbbfeknbfohhaaGreatDoorA6
import Derived.Test.YtnbbfeknbfohhaaGreatDoorA7
import Derived.Deep.DeepCutAuto
set_option linter.unusedVariables false
set_option linter.unusedSimpArgs false
set_option maxRecDepth 1000000
set_option maxHeartbeats 40000000
open Go.Value renaming int → J, agg → X, slice → E, bool → U
open Go.IntKind renaming i64 → Y, u64 → O
open Go.Ending renaming returned → V
namespace Go.Proofs.YtnbbfeknbfohhaaGreatDoor
open Go.RowKit
theorem l3Quiet_any (c s x g : Int) (b : Bool) (hb : b = decide (3 ≤ c)) (w : World) :
  QR 118 #[X #[J Y c, J Y s, J Y x, J O g]] w (U b) := by
 have hB : Hid (b = decide (3 ≤ c)) := hb
 clear hb
 go_enter Tryz.func118, Tryz.ntmps118
 go_wp2
 go_returns
 exact ⟨ret_congr (congrArg Value.bool (by rw [hB.out])), kr⟩
theorem l3Nan_yes {f p mx one inf sg nan : Int} (h : IsFmt f p mx one inf sg nan) (w : World) :
  QR 119 #[J Y f, U true] w (X #[J O nan, J Y 1]) := by
 have HB : KR 63 #[J Y f] (X #[J O nan, J Y 1]) := fun w => l2Bad_fmt h w
 clear h
 go_enter Tryz.func119, Tryz.ntmps119
 go_wp2_with (go_at_call 63; refine (HB.out _).mono ?_; rintro x w1 ⟨rfl, hg1⟩; obtain ⟨ar0, az0, ar1, az1⟩ : KF2 w1 w.heap.size 0 1 (J O 0) (J Y 0) := ⟨kq, kq, kq, kq⟩)
 refine bodyPost_ret (v := X #[J O nan, J Y 1]) (by simp [results, Tryz.results119, go_sem, ar0, ar1]) rfl ⟨rfl, ?_⟩
 exact kr
theorem l3Nan_no {f p mx one inf sg nan : Int} (h : IsFmt f p mx one inf sg nan) (w : World) :
  QR 119 #[J Y f, U false] w (X #[J O nan, J Y 0]) := by
 have HB : KW 113 #[J Y f] (J O nan) := fun w => l2Nan_any h w
 clear h
 go_enter Tryz.func119, Tryz.ntmps119
 go_wp2_with (go_at_call 113; refine kw (HB.out _) ?_)
 go_returns
 exact ⟨rfl, kr⟩
theorem l3Nan_any {f p mx one inf sg nan : Int} (h : IsFmt f p mx one inf sg nan) (b : Bool) (fl : Int) (hb : fl = if b then 1 else 0) (w : World) :
  QR 119 #[J Y f, U b] w (X #[J O nan, J Y fl]) := by
 cases b
 ·subst hb; exact l3Nan_no h w
 ·subst hb; exact l3Nan_yes h w
theorem l3Zero_any {f p mx one inf sg nan : Int} (h : IsFmt f p mx one inf sg nan) (sign : Int) (hs : sign = 0 ∨ sign = 1) (w : World) :
  QR 64 #[J Y f, J Y sign] w (X #[J O (sw sign sg 0), J Y 0]) := by
 have hb := h.bounds
 have HPut : KW 151 #[J Y f, J Y sign, J O 0] (J O (sw sign sg 0)) := fun w' => l2Put_any h sign 0 _ (by
  unfold sw
  rcases hs with rfl | rfl
  ·exact .inl ⟨rfl, by simp⟩
  ·exact .inr ⟨rfl, by simp⟩) (by omega) (by omega) w'
 clear h hb
 generalize sw sign sg 0 = Z at *
 go_enter Tryz.func64, Tryz.ntmps64
 go_wp2_with (go_at_call 151; refine kw (HPut.out _) ?_)
 go_returns
 exact ⟨rfl, kr⟩
theorem l3Infinity_any {f p mx one inf sg nan : Int} (h : IsFmt f p mx one inf sg nan) (sign : Int) (hs : sign = 0 ∨ sign = 1) (w : World) :
  QR 167 #[J Y f, J Y sign] w (X #[J O (sw sign sg inf), J Y 0]) := by
 have hb := h.bounds
 have HPut : KW 151 #[J Y f, J Y sign, J O inf] (J O (sw sign sg inf)) := fun w' => l2Put_any h sign inf _ (by
  unfold sw
  rcases hs with rfl | rfl
  ·exact .inl ⟨rfl, by simp⟩
  ·exact .inr ⟨rfl, by simp⟩) (by omega) (by omega) w'
 have HI : KW 112 #[J Y f] (J O inf) := fun w => l2Inf_any h w
 clear h hb
 generalize sw sign sg inf = Z at *
 go_enter Tryz.func167, Tryz.ntmps167
 go_wp2_with (first
  | (go_at_call 112; refine kw (HI.out _) ?_)
  | (go_at_call 151; refine kw (HPut.out _) ?_))
 go_returns
 exact ⟨rfl, kr⟩
theorem l3Fits_yes {f p mx one inf sg nan : Int} (h : IsFmt f p mx one inf sg nan) (mode a b : Int) (m0 : 0 ≤ mode) (m1 : mode ≤ 4) (a0 : 0 ≤ a) (a1 : a < 2 * sg) (b0 : 0 ≤ b) (b1 : b < 2 * sg) (w : World) :
  QW 117 #[J Y f, J Y mode, J O a, J O b] w (U true) := by
 have HW : KW 62 #[J Y mode] (U true) := fun w => l2Way_any mode true (decide_eq_true ⟨m0, m1⟩).symm w
 have HF : Hid (∀ v w, 0 ≤ v → v < 2 * sg → QW 110 #[J Y f, J O v] w (U true)) := fun v w v0 v1 => l2Fits_yes h v v0 v1 w
 clear h
 go_enter Tryz.func117, Tryz.ntmps117
 go_wp2_with (first
  | (go_at_call 62; refine kw (HW.out _) ?_)
  | (go_at_call 110; refine kw (HF.out _ _ (by omega) (by omega)) ?_))
 go_returns
 exact ⟨rfl, rfl⟩
def NoFit (f mode a b : Int) : Prop := (mode < 0 ∨ 4 < mode) ∨ ¬ (f = 0 ∨ f = 1) ∨ f = 0 ∧ 4294967296 ≤ a ∨ f = 0 ∧ 4294967296 ≤ b
theorem l3Fits_no (f mode a b : Int) (a0 : 0 ≤ a) (a1 : a < 18446744073709551616) (b0 : 0 ≤ b) (b1 : b < 18446744073709551616) (h : NoFit f mode a b) (w : World) :
  QW 117 #[J Y f, J Y mode, J O a, J O b] w (U false) := by
 have HFt : ∀ v, 0 ≤ v → v < 18446744073709551616 → KW 110 #[J Y f, J O v] (U true) ∨ KW 110 #[J Y f, J O v] (U false) ∧ (¬ (f = 0 ∨ f = 1) ∨ (f = 0 ∧ 4294967296 ≤ v)) := by
  intro v v0 v1
  rcases fit_or f v v0 v1 with ⟨p, mx, one, inf, sg, nan, hF, hv⟩ | hn
  ·exact .inl (fun w => l2Fits_yes hF v v0 hv w)
  ·exact .inr ⟨fun w => l2Fits_no f v v0 hn w, hn⟩
 have hFf : ∀ v, 0 ≤ v → (¬ (f = 0 ∨ f = 1) ∨ (f = 0 ∧ 4294967296 ≤ v)) → KW 110 #[J Y f, J O v] (U false) := fun v v0 hn w => l2Fits_no f v v0 hn w
 by_cases hm : 0 ≤ mode ∧ mode ≤ 4
 ·have HW : KW 62 #[J Y mode] (U true) := fun w => l2Way_any mode true (decide_eq_true hm).symm w
  rcases HFt a a0 a1 with HA | ⟨HA, _⟩
  ·have hnb : ¬ (f = 0 ∨ f = 1) ∨ (f = 0 ∧ 4294967296 ≤ b) ∨ (f = 0 ∧ 4294967296 ≤ a) := by
    rcases h with h | h | h | h
    ·omega
    ·exact .inl h
    ·exact .inr (.inr h)
    ·exact .inr (.inl h)
   by_cases hb : ¬ (f = 0 ∨ f = 1) ∨ (f = 0 ∧ 4294967296 ≤ b)
   ·have HB := hFf b b0 hb
    clear HFt hFf h hnb hb
    go_enter Tryz.func117, Tryz.ntmps117
    go_wp2_with (first
     | (go_at_call 62; refine kw (HW.out _) ?_)
     | (go_at_call 110; first | (with_reducible refine kw (HA.out _) ?_) | (with_reducible refine kw (HB.out _) ?_)))
    go_returns
    exact ⟨rfl, rfl⟩
   ·have HA' := hFf a a0 (by omega)
    clear HFt hFf h hnb hb HA
    go_enter Tryz.func117, Tryz.ntmps117
    go_wp2_with (first
     | (go_at_call 62; refine kw (HW.out _) ?_)
     | (go_at_call 110; refine kw (HA'.out _) ?_))
    go_returns
    exact ⟨rfl, rfl⟩
  ·clear HFt hFf h
   go_enter Tryz.func117, Tryz.ntmps117
   go_wp2_with (first
    | (go_at_call 62; refine kw (HW.out _) ?_)
    | (go_at_call 110; refine kw (HA.out _) ?_))
   go_returns
   exact ⟨rfl, rfl⟩
 ·have HW : KW 62 #[J Y mode] (U false) := fun w => l2Way_any mode false (decide_eq_false hm).symm w
  clear HFt hFf h
  go_enter Tryz.func117, Tryz.ntmps117
  go_wp2_with (go_at_call 62; refine kw (HW.out _) ?_)
  go_returns
  exact ⟨rfl, rfl⟩
set_option maxRecDepth 1000000
theorem big_slice {K : Nat} {F : Nat} {args : Array Value} {w : World} {N : Nat} (h : Calls Tryz.prog F args w fun e w' => ∃ v' k, e = V v' ∧ Big w' v' k N ∧ k ≤ K ∧ Gb w w') :
  Calls Tryz.prog F args w fun e w' => ∃ b k c, BigN K w' (E (some ⟨b, 0, none⟩) k c) N ∧ e = V (E (some ⟨b, 0, none⟩) k c) ∧ Gb w w' := h.mono (fun x w' ⟨v', k, a1, a2, a3, a4⟩ => by
 obtain ⟨b, c, rfl, _⟩ := Big.shape a2
 exact ⟨b, k, c, ⟨k, a3, a2⟩, a1, a4⟩)
theorem BigN.le {K L : Nat} {w : World} {v : Value} {N : Nat} (h : BigN K w v N) (k : K ≤ L) : BigN L w v N := by
 obtain ⟨n, a, b⟩ := h
 exact ⟨n, by omega, b⟩
theorem BigN.st {K : Nat} {w : World} {v : Value} {N : Nat} (h : BigN K w v N) {r o : Nat} {u0 : Value} (u : Value) (h0 : w.cell? ⟨r, o, none⟩ = some u0) (hu : ∀ d, u0 ≠ J .u32 d) : BigN K (w.setCell ⟨r, o, none⟩ u) v N := by
 obtain ⟨n, hn, hnm, hN, b, cap, rfl, hcap, hmx, hcell⟩ := h
 refine ⟨n, hn, hnm, hN, b, cap, rfl, hcap, hmx, fun j hj => ?_⟩
 have := hcell j hj
 by_cases e : r = b ∧ o = j
 ·obtain ⟨rfl, rfl⟩ := e
  rw [h0] at this
  exact absurd (Option.some.inj this) (hu _)
 ·rw [World.cell?_setCell_other]
  ·exact this
  ·intro e'; injection e' with e1 e2 e3; exact e ⟨by omega, by omega⟩
theorem BigN.st4 {K : Nat} {w : World} {v : Value} {N : Nat} (h : BigN K w v N) {r : Nat} {x0 x2 : Int} {x3 : Bool} {u0 u1 u2 u3 : Value} (h0 : w.cell? ⟨r, 0, none⟩ = some (J Y x0)) (h1 : w.cell? ⟨r, 1, none⟩ = some (E none 0 0)) (h2 : w.cell? ⟨r, 2, none⟩ = some (J Y x2)) (h3 : w.cell? ⟨r, 3, none⟩ = some (U x3)) :
  BigN K ((((w.setCell ⟨r, 0, none⟩ u0).setCell ⟨r, 1, none⟩ u1).setCell ⟨r, 2, none⟩ u2).setCell ⟨r, 3, none⟩ u3) v N :=
 (((h.st u0 h0 (fun d e => by cases e)).st u1 (cell_setOff (by omega) h1) (fun d e => by cases e)).st u2 (cell_setOff (by omega) (cell_setOff (by omega) h2)) (fun d e => by cases e)).st u3 (cell_setOff (by omega) (cell_setOff (by omega) (cell_setOff (by omega) h3))) (fun d e => by cases e)
theorem l3Number_any (c s x : Int) (G : Nat) (hG : G < 18446744073709551616) (w : World) :
  CT 121 #[X #[J Y c, J Y s, J Y x, J O ((G : Nat))]] w fun e w' => ∃ b k cc, BigN 2 w' (E (some ⟨b, 0, none⟩) k cc) G ∧ e = V (X #[J Y s, E (some ⟨b, 0, none⟩) k cc, J Y x, U false]) ∧ Gb w w' := by
 have HB : Hid (∀ w, CT 150 #[J O (G : Nat)] w fun e w' => ∃ b k c, BigN 2 w' (E (some ⟨b, 0, none⟩) k c) G ∧ e = V (E (some ⟨b, 0, none⟩) k c) ∧ Gb w w') := fun w => big_slice (l2Big_any G hG w)
 generalize ((G : Nat) : Int) = g at *
 go_enter Tryz.func121, Tryz.ntmps121
 go_wp2
 go_region_held3 (fun w' => w'.cell? ⟨w.heap.size, 0, none⟩ = some (J Y c) ∧ w'.cell? ⟨w.heap.size, 1, none⟩ = some (J Y s) ∧ w'.cell? ⟨w.heap.size, 2, none⟩ = some (J Y x) ∧ w'.cell? ⟨w.heap.size, 3, none⟩ = some (J O g))
  ((go_split_ands; (repeat' apply And.intro) <;> exact kh))
  (first | (go_at_call 150; refine (HB.out _).mono ?_; rintro e w1 ⟨b, k, cc, hbig, rfl, hg_w1⟩; obtain ⟨ar0, arz0, ar1, arz1, ar2, arz2, ar3, arz3⟩ := hg_w1.y4 (w.heap.size + 1) 0 1 2 3 (J Y 0) (E none 0 0) (J Y 0) (U false)))
 all_goals (try go_split_ands)
 all_goals go_wp2
 all_goals
  refine bodyPost_ret (v := X #[J Y s, E (some ⟨b, 0, none⟩) k cc, J Y x, U false]) (by simp [results, Tryz.results121, go_sem, ar0, ar1, ar2, ar3]) rfl ⟨b, k, cc, ?_, rfl, ?_⟩
  ·exact hbig.st4 ar0 ar1 ar2 ar3
  ·exact Gb.g
set_option maxRecDepth 1000000
theorem twU16 {P : Prop} (h : P := by
 refine bodyPost_ret (v := X #[J Y sx, E (some ⟨b4, 0, none⟩) k4 c4, J Y ey, U false]) (by simp [results, Tryz.results215, go_sem, dr0, dr1, dr2, dr3]) rfl ⟨b4, k4, c4, ?_, rfl, ?_⟩
 ·exact hb4.st4 dr0 dr1 dr2 dr3
 ·exact Gb.g) : P := h
theorem twU15 {P : Prop} (h : P := by
 refine bodyPost_ret (v := X #[J Y sx, E (some ⟨b4, 0, none⟩) k4 c4, J Y ex, U false]) (by simp [results, Tryz.results215, go_sem, dr0, dr1, dr2, dr3]) rfl ⟨b4, k4, c4, ?_, rfl, ?_⟩
 ·exact hb4.st4 dr0 dr1 dr2 dr3
 ·exact Gb.g) : P := h
def TotIs (sx sy : Int) (a b : Nat) (sT : Int) (MT : Nat) : Prop := sx = sy ∧ sT = sx ∧ MT = a + b ∨ sx ≠ sy ∧ b ≤ a ∧ sT = sx ∧ MT = a - b ∨ sx ≠ sy ∧ a < b ∧ sT = sy ∧ MT = b - a
structure TC : Prop where
 shl : ∀ v (N : Nat) (z : Int) (s : Nat) w, BigN 4 w v N → z = (s : Int) → s ≤ 10000 → CT 180 #[v, J Y z] w fun e w' => ∃ b k c, BigN 400 w' (E (some ⟨b, 0, none⟩) k c) (N * 2 ^ s) ∧ e = V (E (some ⟨b, 0, none⟩) k c) ∧ Gb w w'
 add : ∀ v v' (N N' : Nat) w, BigN 400 w v N → BigN 400 w v' N' → CT 203 #[v, v'] w fun e w' => ∃ b k c, BigN 1000 w' (E (some ⟨b, 0, none⟩) k c) (N + N') ∧ e = V (E (some ⟨b, 0, none⟩) k c) ∧ Gb w w'
 sub : ∀ v v' (N N' : Nat) w, BigN 400 w v N → BigN 400 w v' N' → N' ≤ N → CT 191 #[v, v'] w fun e w' => ∃ b k c, BigN 1000 w' (E (some ⟨b, 0, none⟩) k c) (N - N') ∧ e = V (E (some ⟨b, 0, none⟩) k c) ∧ Gb w w'
 cmp : ∀ v v' (N N' : Nat) w, BigN 400 w v N → BigN 400 w v' N' → QB 129 #[v, v'] w (J Y (cmpZ N N'))
theorem tc : TC where
 shl := fun v N z s w ⟨n, a1, a2⟩ hz hs => by subst hz; exact big_slice ((l2Shl_any a2 (by omega) s (by omega)).mono (fun e w' ⟨v, k, c1, c2, c3, c4⟩ => ⟨v, k, c1, c2, by omega, c4⟩))
 add := fun v v' N N' w ⟨n, a1, a2⟩ ⟨n', b1, b2⟩ => big_slice ((l2Add_any a2 (by omega) b2 (by omega)).mono (fun e w' ⟨v, k, c1, c2, c3, c4⟩ => ⟨v, k, c1, c2, by omega, c4⟩))
 sub := fun v v' N N' w ⟨n, a1, a2⟩ ⟨n', b1, b2⟩ h => big_slice ((l2Sub_any a2 (by omega) b2 (by omega) h).mono (fun e w' ⟨v, k, c1, c2, c3, c4⟩ => ⟨v, k, c1, c2, by omega, c4⟩))
 cmp := fun v v' N N' w ⟨n, a1, a2⟩ ⟨n', b1, b2⟩ => l2Cmp_any a2 (by omega) b2 (by omega)
theorem l3Total_X_add (sx sy ex ey : Int) (bx kx cx gy ky cy : Nat) (Mx My A B : Nat) {w : World} (HX : Hid (BigN 4 w (E (some ⟨bx, 0, none⟩) kx cx) Mx)) (HY : Hid (BigN 4 w (E (some ⟨gy, 0, none⟩) ky cy) My)) (x0 : -4000 ≤ ex) (x1 : ex ≤ 4000) (y0 : -4000 ≤ ey) (y1 : ey ≤ 4000) (hle : ex ≤ ey) (d : Nat) (hd : ey - ex = (d : Int)) (hA : A = Mx) (hB : B = My * 2 ^ d) (hs : sx = sy) :
  CT 215 #[X #[J Y sx, E (some ⟨bx, 0, none⟩) kx cx, J Y ex, U false], X #[J Y sy, E (some ⟨gy, 0, none⟩) ky cy, J Y ey, U false]] w fun e w' => ∃ b k c, BigN 1000 w' (E (some ⟨b, 0, none⟩) k c) (A + B) ∧ e = V (X #[J Y sx, E (some ⟨b, 0, none⟩) k c, J Y ex, U false]) ∧ Gb w w' := by
 have HT : Hid TC := tc
 obtain ⟨dz, hdz⟩ : ∃ dz : Int, ey - ex = dz := ⟨_, rfl⟩
 have u1 : IntKind.i64.wrap (ey - ex) = dz := by rw [hdz, IntKind.wrap_i64]; omega
 have hdn : Hid (dz = (d : Int)) := by show _ = _; omega
 have hd9 : Hid (d ≤ 10000) := by show _ ≤ _; omega
 have hA' : Hid (A = Mx) := hA
 have hB' : Hid (B = My * 2 ^ d) := hB
 clear hd hdz hA hB
 subst hs
 go_enter Tryz.func215, Tryz.ntmps215
 go_wp2_with (first
  | (go_at_call 180; with_reducible refine (TC.shl HT.out _ _ _ 0 _ (BigN.gb HX.out Gb.g) (by omega) (by omega)).mono ?_; rintro e w1 ⟨bx1, kx1, cx1, hb0, rfl, hg_w1⟩; have hbx : BigN 400 w1 (E (some ⟨bx1, 0, none⟩) kx1 cx1) A := (by rw [hA'.out]; simpa using hb0); clear hb0; obtain ⟨ax0, ax1, ax2, ax3⟩ := hg_w1.e4 w.heap.size 0 1 2 3 (J Y sx) (E (some ⟨bx, 0, none⟩) kx cx) (J Y ex) (U false); obtain ⟨ay0, ay1, ay2, ay3⟩ := hg_w1.e4 (w.heap.size + 1) 0 1 2 3 (J Y sx) (E (some ⟨gy, 0, none⟩) ky cy) (J Y ey) (U false); obtain ⟨ar0, arz0, ar1, arz1, ar2, arz2, ar3, arz3⟩ := hg_w1.y4 (w.heap.size + 1 + 1) 0 1 2 3 (J Y 0) (E none 0 0) (J Y 0) (U false))
  | (go_at_call 180; with_reducible refine (TC.shl HT.out _ _ _ d _ (BigN.gb HY.out Gb.g) (by exact hdn.out) hd9.out).mono ?_; rintro e w2 ⟨by1, ky1, cy1, hb0, rfl, hg_w2⟩; have hby : BigN 400 w2 (E (some ⟨by1, 0, none⟩) ky1 cy1) B := (by rw [hB'.out]; exact hb0); clear hb0; obtain ⟨bx0, bx1, bx2, bx3⟩ := hg_w2.e4 w.heap.size 0 1 2 3 (J Y sx) (E (some ⟨bx, 0, none⟩) kx cx) (J Y ex) (U false); obtain ⟨by0, by1, by2, by3⟩ := hg_w2.e4 (w.heap.size + 1) 0 1 2 3 (J Y sx) (E (some ⟨gy, 0, none⟩) ky cy) (J Y ey) (U false); obtain ⟨br0, brz0, br1, brz1, br2, brz2, br3, brz3⟩ := hg_w2.y4 (w.heap.size + 1 + 1) 0 1 2 3 (J Y 0) (E none 0 0) (J Y 0) (U false)))
 go_region_held3 (fun w' => w'.cell? ⟨w.heap.size, 0, none⟩ = some (J Y sx) ∧ w'.cell? ⟨w.heap.size + 1, 0, none⟩ = some (J Y sx))
  ((go_split_ands; (repeat' apply And.intro) <;> exact kh))
  (first | (go_at_call 203; refine (TC.add HT.out _ _ A B _ (BigN.gb hbx Gb.g) (BigN.gb hby Gb.g)).mono ?_; rintro e w4 ⟨b4, k4, c4, hb4, rfl, hg_w4⟩; obtain ⟨dr0, drz0, dr1, drz1, dr2, drz2, dr3, drz3⟩ := hg_w4.y4 (w.heap.size + 1 + 1) 0 1 2 3 (J Y 0) (E none 0 0) (J Y 0) (U false)))
 all_goals (try go_split_ands)
 all_goals go_wp2
 all_goals
  exact twU15
theorem l3Total_X_ge (sx sy ex ey : Int) (bx kx cx gy ky cy : Nat) (Mx My A B : Nat) {w : World} (HX : Hid (BigN 4 w (E (some ⟨bx, 0, none⟩) kx cx) Mx)) (HY : Hid (BigN 4 w (E (some ⟨gy, 0, none⟩) ky cy) My)) (x0 : -4000 ≤ ex) (x1 : ex ≤ 4000) (y0 : -4000 ≤ ey) (y1 : ey ≤ 4000) (hle : ex ≤ ey) (d : Nat) (hd : ey - ex = (d : Int)) (hA : A = Mx) (hB : B = My * 2 ^ d) (hs : sx ≠ sy) (hab : B ≤ A) :
  CT 215 #[X #[J Y sx, E (some ⟨bx, 0, none⟩) kx cx, J Y ex, U false], X #[J Y sy, E (some ⟨gy, 0, none⟩) ky cy, J Y ey, U false]] w fun e w' => ∃ b k c, BigN 1000 w' (E (some ⟨b, 0, none⟩) k c) (A - B) ∧ e = V (X #[J Y sx, E (some ⟨b, 0, none⟩) k c, J Y ex, U false]) ∧ Gb w w' := by
 have HT : Hid TC := tc
 obtain ⟨dz, hdz⟩ : ∃ dz : Int, ey - ex = dz := ⟨_, rfl⟩
 have u1 : IntKind.i64.wrap (ey - ex) = dz := by rw [hdz, IntKind.wrap_i64]; omega
 have hdn : Hid (dz = (d : Int)) := by show _ = _; omega
 have hd9 : Hid (d ≤ 10000) := by show _ ≤ _; omega
 have hA' : Hid (A = Mx) := hA
 have hB' : Hid (B = My * 2 ^ d) := hB
 clear hd hdz hA hB
 have c1 : (sx == sy) = false := by simp [hs]
 have c2 : Hid (B ≤ A) := hab
 clear hab hs
 go_enter Tryz.func215, Tryz.ntmps215
 have c3 : 0 ≤ cmpZ A B := by have := c2.out; unfold cmpZ; split <;> (try split) <;> omega
 generalize hq : cmpZ A B = q at *
 have hq' : Hid (cmpZ A B = q) := hq
 clear hq
 go_wp2_with (first
  | (go_at_call 180; with_reducible refine (TC.shl HT.out _ _ _ 0 _ (BigN.gb HX.out Gb.g) (by omega) (by omega)).mono ?_; rintro e w1 ⟨bx1, kx1, cx1, hb0, rfl, hg_w1⟩; have hbx : BigN 400 w1 (E (some ⟨bx1, 0, none⟩) kx1 cx1) A := (by rw [hA'.out]; simpa using hb0); clear hb0; obtain ⟨ax0, ax1, ax2, ax3⟩ := hg_w1.e4 w.heap.size 0 1 2 3 (J Y sx) (E (some ⟨bx, 0, none⟩) kx cx) (J Y ex) (U false); obtain ⟨ay0, ay1, ay2, ay3⟩ := hg_w1.e4 (w.heap.size + 1) 0 1 2 3 (J Y sy) (E (some ⟨gy, 0, none⟩) ky cy) (J Y ey) (U false); obtain ⟨ar0, arz0, ar1, arz1, ar2, arz2, ar3, arz3⟩ := hg_w1.y4 (w.heap.size + 1 + 1) 0 1 2 3 (J Y 0) (E none 0 0) (J Y 0) (U false))
  | (go_at_call 180; with_reducible refine (TC.shl HT.out _ _ _ d _ (BigN.gb HY.out Gb.g) (by exact hdn.out) hd9.out).mono ?_; rintro e w2 ⟨by1, ky1, cy1, hb0, rfl, hg_w2⟩; have hby : BigN 400 w2 (E (some ⟨by1, 0, none⟩) ky1 cy1) B := (by rw [hB'.out]; exact hb0); clear hb0; obtain ⟨bx0, bx1, bx2, bx3⟩ := hg_w2.e4 w.heap.size 0 1 2 3 (J Y sx) (E (some ⟨bx, 0, none⟩) kx cx) (J Y ex) (U false); obtain ⟨by0, by1, by2, by3⟩ := hg_w2.e4 (w.heap.size + 1) 0 1 2 3 (J Y sy) (E (some ⟨gy, 0, none⟩) ky cy) (J Y ey) (U false); obtain ⟨br0, brz0, br1, brz1, br2, brz2, br3, brz3⟩ := hg_w2.y4 (w.heap.size + 1 + 1) 0 1 2 3 (J Y 0) (E none 0 0) (J Y 0) (U false))
  | (go_at_call 129; refine (TC.cmp HT.out _ _ A B _ (BigN.gb hbx Gb.g) (BigN.gb hby Gb.g)).mono ?_; rintro e w3 ⟨he, hg_w3⟩; rw [hq'.out] at he; subst he; obtain ⟨cx0, cx1, cx2, cx3⟩ := hg_w3.e4 w.heap.size 0 1 2 3 (J Y sx) (E (some ⟨bx, 0, none⟩) kx cx) (J Y ex) (U false); obtain ⟨cy0, cy1, cy2, cy3⟩ := hg_w3.e4 (w.heap.size + 1) 0 1 2 3 (J Y sy) (E (some ⟨gy, 0, none⟩) ky cy) (J Y ey) (U false); obtain ⟨cr0, crz0, cr1, crz1, cr2, crz2, cr3, crz3⟩ := hg_w3.y4 (w.heap.size + 1 + 1) 0 1 2 3 (J Y 0) (E none 0 0) (J Y 0) (U false)))
 go_region_held3 (fun w' => w'.cell? ⟨w.heap.size, 0, none⟩ = some (J Y sx) ∧ w'.cell? ⟨w.heap.size + 1, 0, none⟩ = some (J Y sy))
  ((go_split_ands; (repeat' apply And.intro) <;> exact kh))
  (first | (go_at_call 191; refine (TC.sub HT.out _ _ A B _ (BigN.gb hbx Gb.g) (BigN.gb hby Gb.g) c2.out).mono ?_; rintro e w4 ⟨b4, k4, c4, hb4, rfl, hg_w4⟩; obtain ⟨dr0, drz0, dr1, drz1, dr2, drz2, dr3, drz3⟩ := hg_w4.y4 (w.heap.size + 1 + 1) 0 1 2 3 (J Y 0) (E none 0 0) (J Y 0) (U false)))
 all_goals (try go_split_ands)
 all_goals go_wp2
 all_goals
  exact twU15
theorem l3Total_X_lt (sx sy ex ey : Int) (bx kx cx gy ky cy : Nat) (Mx My A B : Nat) {w : World} (HX : Hid (BigN 4 w (E (some ⟨bx, 0, none⟩) kx cx) Mx)) (HY : Hid (BigN 4 w (E (some ⟨gy, 0, none⟩) ky cy) My)) (x0 : -4000 ≤ ex) (x1 : ex ≤ 4000) (y0 : -4000 ≤ ey) (y1 : ey ≤ 4000) (hle : ex ≤ ey) (d : Nat) (hd : ey - ex = (d : Int)) (hA : A = Mx) (hB : B = My * 2 ^ d) (hs : sx ≠ sy) (hab : A < B) :
  CT 215 #[X #[J Y sx, E (some ⟨bx, 0, none⟩) kx cx, J Y ex, U false], X #[J Y sy, E (some ⟨gy, 0, none⟩) ky cy, J Y ey, U false]] w fun e w' => ∃ b k c, BigN 1000 w' (E (some ⟨b, 0, none⟩) k c) (B - A) ∧ e = V (X #[J Y sy, E (some ⟨b, 0, none⟩) k c, J Y ex, U false]) ∧ Gb w w' := by
 have HT : Hid TC := tc
 obtain ⟨dz, hdz⟩ : ∃ dz : Int, ey - ex = dz := ⟨_, rfl⟩
 have u1 : IntKind.i64.wrap (ey - ex) = dz := by rw [hdz, IntKind.wrap_i64]; omega
 have hdn : Hid (dz = (d : Int)) := by show _ = _; omega
 have hd9 : Hid (d ≤ 10000) := by show _ ≤ _; omega
 have hA' : Hid (A = Mx) := hA
 have hB' : Hid (B = My * 2 ^ d) := hB
 clear hd hdz hA hB
 have c1 : (sx == sy) = false := by simp [hs]
 have c2 : Hid (A < B) := hab
 clear hab hs
 go_enter Tryz.func215, Tryz.ntmps215
 have c3 : cmpZ A B < 0 := by have := c2.out; unfold cmpZ; rw [if_pos (by omega)]; omega
 generalize hq : cmpZ A B = q at *
 have hq' : Hid (cmpZ A B = q) := hq
 clear hq
 go_wp2_with (first
  | (go_at_call 180; with_reducible refine (TC.shl HT.out _ _ _ 0 _ (BigN.gb HX.out Gb.g) (by omega) (by omega)).mono ?_; rintro e w1 ⟨bx1, kx1, cx1, hb0, rfl, hg_w1⟩; have hbx : BigN 400 w1 (E (some ⟨bx1, 0, none⟩) kx1 cx1) A := (by rw [hA'.out]; simpa using hb0); clear hb0; obtain ⟨ax0, ax1, ax2, ax3⟩ := hg_w1.e4 w.heap.size 0 1 2 3 (J Y sx) (E (some ⟨bx, 0, none⟩) kx cx) (J Y ex) (U false); obtain ⟨ay0, ay1, ay2, ay3⟩ := hg_w1.e4 (w.heap.size + 1) 0 1 2 3 (J Y sy) (E (some ⟨gy, 0, none⟩) ky cy) (J Y ey) (U false); obtain ⟨ar0, arz0, ar1, arz1, ar2, arz2, ar3, arz3⟩ := hg_w1.y4 (w.heap.size + 1 + 1) 0 1 2 3 (J Y 0) (E none 0 0) (J Y 0) (U false))
  | (go_at_call 180; with_reducible refine (TC.shl HT.out _ _ _ d _ (BigN.gb HY.out Gb.g) (by exact hdn.out) hd9.out).mono ?_; rintro e w2 ⟨by1, ky1, cy1, hb0, rfl, hg_w2⟩; have hby : BigN 400 w2 (E (some ⟨by1, 0, none⟩) ky1 cy1) B := (by rw [hB'.out]; exact hb0); clear hb0; obtain ⟨bx0, bx1, bx2, bx3⟩ := hg_w2.e4 w.heap.size 0 1 2 3 (J Y sx) (E (some ⟨bx, 0, none⟩) kx cx) (J Y ex) (U false); obtain ⟨by0, by1, by2, by3⟩ := hg_w2.e4 (w.heap.size + 1) 0 1 2 3 (J Y sy) (E (some ⟨gy, 0, none⟩) ky cy) (J Y ey) (U false); obtain ⟨br0, brz0, br1, brz1, br2, brz2, br3, brz3⟩ := hg_w2.y4 (w.heap.size + 1 + 1) 0 1 2 3 (J Y 0) (E none 0 0) (J Y 0) (U false))
  | (go_at_call 129; refine (TC.cmp HT.out _ _ A B _ (BigN.gb hbx Gb.g) (BigN.gb hby Gb.g)).mono ?_; rintro e w3 ⟨he, hg_w3⟩; rw [hq'.out] at he; subst he; obtain ⟨cx0, cx1, cx2, cx3⟩ := hg_w3.e4 w.heap.size 0 1 2 3 (J Y sx) (E (some ⟨bx, 0, none⟩) kx cx) (J Y ex) (U false); obtain ⟨cy0, cy1, cy2, cy3⟩ := hg_w3.e4 (w.heap.size + 1) 0 1 2 3 (J Y sy) (E (some ⟨gy, 0, none⟩) ky cy) (J Y ey) (U false); obtain ⟨cr0, crz0, cr1, crz1, cr2, crz2, cr3, crz3⟩ := hg_w3.y4 (w.heap.size + 1 + 1) 0 1 2 3 (J Y 0) (E none 0 0) (J Y 0) (U false)))
 go_region_held3 (fun w' => w'.cell? ⟨w.heap.size, 0, none⟩ = some (J Y sx) ∧ w'.cell? ⟨w.heap.size + 1, 0, none⟩ = some (J Y sy))
  ((go_split_ands; (repeat' apply And.intro) <;> exact kh))
  (first | (go_at_call 191; refine (TC.sub HT.out _ _ B A _ (BigN.gb hby Gb.g) (BigN.gb hbx Gb.g) (Nat.le_of_lt c2.out)).mono ?_; rintro e w4 ⟨b4, k4, c4, hb4, rfl, hg_w4⟩; obtain ⟨dr0, drz0, dr1, drz1, dr2, drz2, dr3, drz3⟩ := hg_w4.y4 (w.heap.size + 1 + 1) 0 1 2 3 (J Y 0) (E none 0 0) (J Y 0) (U false)))
 all_goals (try go_split_ands)
 all_goals go_wp2
 all_goals
  refine bodyPost_ret (v := X #[J Y sy, E (some ⟨b4, 0, none⟩) k4 c4, J Y ex, U false]) (by simp [results, Tryz.results215, go_sem, dr0, dr1, dr2, dr3]) rfl ⟨b4, k4, c4, ?_, rfl, ?_⟩
  ·exact hb4.st4 dr0 dr1 dr2 dr3
  ·exact Gb.g
theorem l3Total_Y_add (sx sy ex ey : Int) (bx kx cx gy ky cy : Nat) (Mx My A B : Nat) {w : World} (HX : Hid (BigN 4 w (E (some ⟨bx, 0, none⟩) kx cx) Mx)) (HY : Hid (BigN 4 w (E (some ⟨gy, 0, none⟩) ky cy) My)) (x0 : -4000 ≤ ex) (x1 : ex ≤ 4000) (y0 : -4000 ≤ ey) (y1 : ey ≤ 4000) (hlt : ey < ex) (d : Nat) (hd : ex - ey = (d : Int)) (hA : A = Mx * 2 ^ d) (hB : B = My) (hs : sx = sy) :
  CT 215 #[X #[J Y sx, E (some ⟨bx, 0, none⟩) kx cx, J Y ex, U false], X #[J Y sy, E (some ⟨gy, 0, none⟩) ky cy, J Y ey, U false]] w fun e w' => ∃ b k c, BigN 1000 w' (E (some ⟨b, 0, none⟩) k c) (A + B) ∧ e = V (X #[J Y sx, E (some ⟨b, 0, none⟩) k c, J Y ey, U false]) ∧ Gb w w' := by
 have HT : Hid TC := tc
 obtain ⟨dz, hdz⟩ : ∃ dz : Int, ex - ey = dz := ⟨_, rfl⟩
 have u1 : IntKind.i64.wrap (ex - ey) = dz := by rw [hdz, IntKind.wrap_i64]; omega
 have hdn : Hid (dz = (d : Int)) := by show _ = _; omega
 have hd9 : Hid (d ≤ 10000) := by show _ ≤ _; omega
 have hA' : Hid (A = Mx * 2 ^ d) := hA
 have hB' : Hid (B = My) := hB
 clear hd hdz hA hB
 subst hs
 go_enter Tryz.func215, Tryz.ntmps215
 go_wp2_with (first
  | (go_at_call 180; with_reducible refine (TC.shl HT.out _ _ _ d _ (BigN.gb HX.out Gb.g) (by exact hdn.out) hd9.out).mono ?_; rintro e w1 ⟨bx1, kx1, cx1, hb0, rfl, hg_w1⟩; have hbx : BigN 400 w1 (E (some ⟨bx1, 0, none⟩) kx1 cx1) A := (by rw [hA'.out]; exact hb0); clear hb0; obtain ⟨ax0, ax1, ax2, ax3⟩ := hg_w1.e4 w.heap.size 0 1 2 3 (J Y sx) (E (some ⟨bx, 0, none⟩) kx cx) (J Y ex) (U false); obtain ⟨ay0, ay1, ay2, ay3⟩ := hg_w1.e4 (w.heap.size + 1) 0 1 2 3 (J Y sx) (E (some ⟨gy, 0, none⟩) ky cy) (J Y ey) (U false); obtain ⟨ar0, arz0, ar1, arz1, ar2, arz2, ar3, arz3⟩ := hg_w1.y4 (w.heap.size + 1 + 1) 0 1 2 3 (J Y 0) (E none 0 0) (J Y 0) (U false))
  | (go_at_call 180; with_reducible refine (TC.shl HT.out _ _ _ 0 _ (BigN.gb HY.out Gb.g) (by omega) (by omega)).mono ?_; rintro e w2 ⟨by1, ky1, cy1, hb0, rfl, hg_w2⟩; have hby : BigN 400 w2 (E (some ⟨by1, 0, none⟩) ky1 cy1) B := (by rw [hB'.out]; simpa using hb0); clear hb0; obtain ⟨bx0, bx1, bx2, bx3⟩ := hg_w2.e4 w.heap.size 0 1 2 3 (J Y sx) (E (some ⟨bx, 0, none⟩) kx cx) (J Y ex) (U false); obtain ⟨by0, by1, by2, by3⟩ := hg_w2.e4 (w.heap.size + 1) 0 1 2 3 (J Y sx) (E (some ⟨gy, 0, none⟩) ky cy) (J Y ey) (U false); obtain ⟨br0, brz0, br1, brz1, br2, brz2, br3, brz3⟩ := hg_w2.y4 (w.heap.size + 1 + 1) 0 1 2 3 (J Y 0) (E none 0 0) (J Y 0) (U false)))
 go_region_held3 (fun w' => w'.cell? ⟨w.heap.size, 0, none⟩ = some (J Y sx) ∧ w'.cell? ⟨w.heap.size + 1, 0, none⟩ = some (J Y sx))
  ((go_split_ands; (repeat' apply And.intro) <;> exact kh))
  (first | (go_at_call 203; refine (TC.add HT.out _ _ A B _ (BigN.gb hbx Gb.g) (BigN.gb hby Gb.g)).mono ?_; rintro e w4 ⟨b4, k4, c4, hb4, rfl, hg_w4⟩; obtain ⟨dr0, drz0, dr1, drz1, dr2, drz2, dr3, drz3⟩ := hg_w4.y4 (w.heap.size + 1 + 1) 0 1 2 3 (J Y 0) (E none 0 0) (J Y 0) (U false)))
 all_goals (try go_split_ands)
 all_goals go_wp2
 all_goals
  exact twU16
theorem l3Total_Y_ge (sx sy ex ey : Int) (bx kx cx gy ky cy : Nat) (Mx My A B : Nat) {w : World} (HX : Hid (BigN 4 w (E (some ⟨bx, 0, none⟩) kx cx) Mx)) (HY : Hid (BigN 4 w (E (some ⟨gy, 0, none⟩) ky cy) My)) (x0 : -4000 ≤ ex) (x1 : ex ≤ 4000) (y0 : -4000 ≤ ey) (y1 : ey ≤ 4000) (hlt : ey < ex) (d : Nat) (hd : ex - ey = (d : Int)) (hA : A = Mx * 2 ^ d) (hB : B = My) (hs : sx ≠ sy) (hab : B ≤ A) :
  CT 215 #[X #[J Y sx, E (some ⟨bx, 0, none⟩) kx cx, J Y ex, U false], X #[J Y sy, E (some ⟨gy, 0, none⟩) ky cy, J Y ey, U false]] w fun e w' => ∃ b k c, BigN 1000 w' (E (some ⟨b, 0, none⟩) k c) (A - B) ∧ e = V (X #[J Y sx, E (some ⟨b, 0, none⟩) k c, J Y ey, U false]) ∧ Gb w w' := by
 have HT : Hid TC := tc
 obtain ⟨dz, hdz⟩ : ∃ dz : Int, ex - ey = dz := ⟨_, rfl⟩
 have u1 : IntKind.i64.wrap (ex - ey) = dz := by rw [hdz, IntKind.wrap_i64]; omega
 have hdn : Hid (dz = (d : Int)) := by show _ = _; omega
 have hd9 : Hid (d ≤ 10000) := by show _ ≤ _; omega
 have hA' : Hid (A = Mx * 2 ^ d) := hA
 have hB' : Hid (B = My) := hB
 clear hd hdz hA hB
 have c1 : (sx == sy) = false := by simp [hs]
 have c2 : Hid (B ≤ A) := hab
 clear hab hs
 go_enter Tryz.func215, Tryz.ntmps215
 have c3 : 0 ≤ cmpZ A B := by have := c2.out; unfold cmpZ; split <;> (try split) <;> omega
 generalize hq : cmpZ A B = q at *
 have hq' : Hid (cmpZ A B = q) := hq
 clear hq
 go_wp2_with (first
  | (go_at_call 180; with_reducible refine (TC.shl HT.out _ _ _ d _ (BigN.gb HX.out Gb.g) (by exact hdn.out) hd9.out).mono ?_; rintro e w1 ⟨bx1, kx1, cx1, hb0, rfl, hg_w1⟩; have hbx : BigN 400 w1 (E (some ⟨bx1, 0, none⟩) kx1 cx1) A := (by rw [hA'.out]; exact hb0); clear hb0; obtain ⟨ax0, ax1, ax2, ax3⟩ := hg_w1.e4 w.heap.size 0 1 2 3 (J Y sx) (E (some ⟨bx, 0, none⟩) kx cx) (J Y ex) (U false); obtain ⟨ay0, ay1, ay2, ay3⟩ := hg_w1.e4 (w.heap.size + 1) 0 1 2 3 (J Y sy) (E (some ⟨gy, 0, none⟩) ky cy) (J Y ey) (U false); obtain ⟨ar0, arz0, ar1, arz1, ar2, arz2, ar3, arz3⟩ := hg_w1.y4 (w.heap.size + 1 + 1) 0 1 2 3 (J Y 0) (E none 0 0) (J Y 0) (U false))
  | (go_at_call 180; with_reducible refine (TC.shl HT.out _ _ _ 0 _ (BigN.gb HY.out Gb.g) (by omega) (by omega)).mono ?_; rintro e w2 ⟨by1, ky1, cy1, hb0, rfl, hg_w2⟩; have hby : BigN 400 w2 (E (some ⟨by1, 0, none⟩) ky1 cy1) B := (by rw [hB'.out]; simpa using hb0); clear hb0; obtain ⟨bx0, bx1, bx2, bx3⟩ := hg_w2.e4 w.heap.size 0 1 2 3 (J Y sx) (E (some ⟨bx, 0, none⟩) kx cx) (J Y ex) (U false); obtain ⟨by0, by1, by2, by3⟩ := hg_w2.e4 (w.heap.size + 1) 0 1 2 3 (J Y sy) (E (some ⟨gy, 0, none⟩) ky cy) (J Y ey) (U false); obtain ⟨br0, brz0, br1, brz1, br2, brz2, br3, brz3⟩ := hg_w2.y4 (w.heap.size + 1 + 1) 0 1 2 3 (J Y 0) (E none 0 0) (J Y 0) (U false))
  | (go_at_call 129; refine (TC.cmp HT.out _ _ A B _ (BigN.gb hbx Gb.g) (BigN.gb hby Gb.g)).mono ?_; rintro e w3 ⟨he, hg_w3⟩; rw [hq'.out] at he; subst he; obtain ⟨cx0, cx1, cx2, cx3⟩ := hg_w3.e4 w.heap.size 0 1 2 3 (J Y sx) (E (some ⟨bx, 0, none⟩) kx cx) (J Y ex) (U false); obtain ⟨cy0, cy1, cy2, cy3⟩ := hg_w3.e4 (w.heap.size + 1) 0 1 2 3 (J Y sy) (E (some ⟨gy, 0, none⟩) ky cy) (J Y ey) (U false); obtain ⟨cr0, crz0, cr1, crz1, cr2, crz2, cr3, crz3⟩ := hg_w3.y4 (w.heap.size + 1 + 1) 0 1 2 3 (J Y 0) (E none 0 0) (J Y 0) (U false)))
 go_region_held3 (fun w' => w'.cell? ⟨w.heap.size, 0, none⟩ = some (J Y sx) ∧ w'.cell? ⟨w.heap.size + 1, 0, none⟩ = some (J Y sy))
  ((go_split_ands; (repeat' apply And.intro) <;> exact kh))
  (first | (go_at_call 191; refine (TC.sub HT.out _ _ A B _ (BigN.gb hbx Gb.g) (BigN.gb hby Gb.g) c2.out).mono ?_; rintro e w4 ⟨b4, k4, c4, hb4, rfl, hg_w4⟩; obtain ⟨dr0, drz0, dr1, drz1, dr2, drz2, dr3, drz3⟩ := hg_w4.y4 (w.heap.size + 1 + 1) 0 1 2 3 (J Y 0) (E none 0 0) (J Y 0) (U false)))
 all_goals (try go_split_ands)
 all_goals go_wp2
 all_goals
  exact twU16
theorem l3Total_Y_lt (sx sy ex ey : Int) (bx kx cx gy ky cy : Nat) (Mx My A B : Nat) {w : World} (HX : Hid (BigN 4 w (E (some ⟨bx, 0, none⟩) kx cx) Mx)) (HY : Hid (BigN 4 w (E (some ⟨gy, 0, none⟩) ky cy) My)) (x0 : -4000 ≤ ex) (x1 : ex ≤ 4000) (y0 : -4000 ≤ ey) (y1 : ey ≤ 4000) (hlt : ey < ex) (d : Nat) (hd : ex - ey = (d : Int)) (hA : A = Mx * 2 ^ d) (hB : B = My) (hs : sx ≠ sy) (hab : A < B) :
  CT 215 #[X #[J Y sx, E (some ⟨bx, 0, none⟩) kx cx, J Y ex, U false], X #[J Y sy, E (some ⟨gy, 0, none⟩) ky cy, J Y ey, U false]] w fun e w' => ∃ b k c, BigN 1000 w' (E (some ⟨b, 0, none⟩) k c) (B - A) ∧ e = V (X #[J Y sy, E (some ⟨b, 0, none⟩) k c, J Y ey, U false]) ∧ Gb w w' := by
 have HT : Hid TC := tc
 obtain ⟨dz, hdz⟩ : ∃ dz : Int, ex - ey = dz := ⟨_, rfl⟩
 have u1 : IntKind.i64.wrap (ex - ey) = dz := by rw [hdz, IntKind.wrap_i64]; omega
 have hdn : Hid (dz = (d : Int)) := by show _ = _; omega
 have hd9 : Hid (d ≤ 10000) := by show _ ≤ _; omega
 have hA' : Hid (A = Mx * 2 ^ d) := hA
 have hB' : Hid (B = My) := hB
 clear hd hdz hA hB
 have c1 : (sx == sy) = false := by simp [hs]
 have c2 : Hid (A < B) := hab
 clear hab hs
 go_enter Tryz.func215, Tryz.ntmps215
 have c3 : cmpZ A B < 0 := by have := c2.out; unfold cmpZ; rw [if_pos (by omega)]; omega
 generalize hq : cmpZ A B = q at *
 have hq' : Hid (cmpZ A B = q) := hq
 clear hq
 go_wp2_with (first
  | (go_at_call 180; with_reducible refine (TC.shl HT.out _ _ _ d _ (BigN.gb HX.out Gb.g) (by exact hdn.out) hd9.out).mono ?_; rintro e w1 ⟨bx1, kx1, cx1, hb0, rfl, hg_w1⟩; have hbx : BigN 400 w1 (E (some ⟨bx1, 0, none⟩) kx1 cx1) A := (by rw [hA'.out]; exact hb0); clear hb0; obtain ⟨ax0, ax1, ax2, ax3⟩ := hg_w1.e4 w.heap.size 0 1 2 3 (J Y sx) (E (some ⟨bx, 0, none⟩) kx cx) (J Y ex) (U false); obtain ⟨ay0, ay1, ay2, ay3⟩ := hg_w1.e4 (w.heap.size + 1) 0 1 2 3 (J Y sy) (E (some ⟨gy, 0, none⟩) ky cy) (J Y ey) (U false); obtain ⟨ar0, arz0, ar1, arz1, ar2, arz2, ar3, arz3⟩ := hg_w1.y4 (w.heap.size + 1 + 1) 0 1 2 3 (J Y 0) (E none 0 0) (J Y 0) (U false))
  | (go_at_call 180; with_reducible refine (TC.shl HT.out _ _ _ 0 _ (BigN.gb HY.out Gb.g) (by omega) (by omega)).mono ?_; rintro e w2 ⟨by1, ky1, cy1, hb0, rfl, hg_w2⟩; have hby : BigN 400 w2 (E (some ⟨by1, 0, none⟩) ky1 cy1) B := (by rw [hB'.out]; simpa using hb0); clear hb0; obtain ⟨bx0, bx1, bx2, bx3⟩ := hg_w2.e4 w.heap.size 0 1 2 3 (J Y sx) (E (some ⟨bx, 0, none⟩) kx cx) (J Y ex) (U false); obtain ⟨by0, by1, by2, by3⟩ := hg_w2.e4 (w.heap.size + 1) 0 1 2 3 (J Y sy) (E (some ⟨gy, 0, none⟩) ky cy) (J Y ey) (U false); obtain ⟨br0, brz0, br1, brz1, br2, brz2, br3, brz3⟩ := hg_w2.y4 (w.heap.size + 1 + 1) 0 1 2 3 (J Y 0) (E none 0 0) (J Y 0) (U false))
  | (go_at_call 129; refine (TC.cmp HT.out _ _ A B _ (BigN.gb hbx Gb.g) (BigN.gb hby Gb.g)).mono ?_; rintro e w3 ⟨he, hg_w3⟩; rw [hq'.out] at he; subst he; obtain ⟨cx0, cx1, cx2, cx3⟩ := hg_w3.e4 w.heap.size 0 1 2 3 (J Y sx) (E (some ⟨bx, 0, none⟩) kx cx) (J Y ex) (U false); obtain ⟨cy0, cy1, cy2, cy3⟩ := hg_w3.e4 (w.heap.size + 1) 0 1 2 3 (J Y sy) (E (some ⟨gy, 0, none⟩) ky cy) (J Y ey) (U false); obtain ⟨cr0, crz0, cr1, crz1, cr2, crz2, cr3, crz3⟩ := hg_w3.y4 (w.heap.size + 1 + 1) 0 1 2 3 (J Y 0) (E none 0 0) (J Y 0) (U false)))
 go_region_held3 (fun w' => w'.cell? ⟨w.heap.size, 0, none⟩ = some (J Y sx) ∧ w'.cell? ⟨w.heap.size + 1, 0, none⟩ = some (J Y sy))
  ((go_split_ands; (repeat' apply And.intro) <;> exact kh))
  (first | (go_at_call 191; refine (TC.sub HT.out _ _ B A _ (BigN.gb hby Gb.g) (BigN.gb hbx Gb.g) (Nat.le_of_lt c2.out)).mono ?_; rintro e w4 ⟨b4, k4, c4, hb4, rfl, hg_w4⟩; obtain ⟨dr0, drz0, dr1, drz1, dr2, drz2, dr3, drz3⟩ := hg_w4.y4 (w.heap.size + 1 + 1) 0 1 2 3 (J Y 0) (E none 0 0) (J Y 0) (U false)))
 all_goals (try go_split_ands)
 all_goals go_wp2
 all_goals
  refine bodyPost_ret (v := X #[J Y sy, E (some ⟨b4, 0, none⟩) k4 c4, J Y ey, U false]) (by simp [results, Tryz.results215, go_sem, dr0, dr1, dr2, dr3]) rfl ⟨b4, k4, c4, ?_, rfl, ?_⟩
  ·exact hb4.st4 dr0 dr1 dr2 dr3
  ·exact Gb.g
theorem l3Total_any (sx sy ex ey : Int) (bx kx cx gy ky cy : Nat) (Mx My : Nat) {w : World} (HX : BigN 4 w (E (some ⟨bx, 0, none⟩) kx cx) Mx) (HY : BigN 4 w (E (some ⟨gy, 0, none⟩) ky cy) My) (x0 : -4000 ≤ ex) (x1 : ex ≤ 4000) (y0 : -4000 ≤ ey) (y1 : ey ≤ 4000) (sT : Int) (MT : Nat) (hT : TotIs sx sy (Mx * 2 ^ (ex - min ex ey).toNat) (My * 2 ^ (ey - min ex ey).toNat) sT MT) :
  CT 215 #[X #[J Y sx, E (some ⟨bx, 0, none⟩) kx cx, J Y ex, U false], X #[J Y sy, E (some ⟨gy, 0, none⟩) ky cy, J Y ey, U false]] w fun e w' => ∃ b k c, BigN 1000 w' (E (some ⟨b, 0, none⟩) k c) MT ∧ e = V (X #[J Y sT, E (some ⟨b, 0, none⟩) k c, J Y (min ex ey), U false]) ∧ Gb w w' := by
 by_cases h : ex ≤ ey
 ·rw [show min ex ey = ex by omega] at hT ⊢
  rw [show (ex - ex).toNat = 0 by omega, Nat.pow_zero, Nat.mul_one] at hT
  rcases hT with ⟨hs, rfl, rfl⟩ | ⟨hs, hab, rfl, rfl⟩ | ⟨hs, hab, rfl, rfl⟩
  ·exact l3Total_X_add _ sy ex ey bx kx cx gy ky cy Mx My _ _ HX HY x0 x1 y0 y1 h (ey - ex).toNat (by omega) rfl rfl hs
  ·exact l3Total_X_ge _ sy ex ey bx kx cx gy ky cy Mx My _ _ HX HY x0 x1 y0 y1 h (ey - ex).toNat (by omega) rfl rfl hs hab
  ·exact l3Total_X_lt sx _ ex ey bx kx cx gy ky cy Mx My _ _ HX HY x0 x1 y0 y1 h (ey - ex).toNat (by omega) rfl rfl hs hab
 ·rw [show min ex ey = ey by omega] at hT ⊢
  rw [show (ey - ey).toNat = 0 by omega, Nat.pow_zero, Nat.mul_one] at hT
  rcases hT with ⟨hs, rfl, rfl⟩ | ⟨hs, hab, rfl, rfl⟩ | ⟨hs, hab, rfl, rfl⟩
  ·exact l3Total_Y_add _ sy ex ey bx kx cx gy ky cy Mx My _ _ HX HY x0 x1 y0 y1 (by omega) (ex - ey).toNat (by omega) rfl rfl hs
  ·exact l3Total_Y_ge _ sy ex ey bx kx cx gy ky cy Mx My _ _ HX HY x0 x1 y0 y1 (by omega) (ex - ey).toNat (by omega) rfl rfl hs hab
  ·exact l3Total_Y_lt sx _ ex ey bx kx cx gy ky cy Mx My _ _ HX HY x0 x1 y0 y1 (by omega) (ex - ey).toNat (by omega) rfl rfl hs hab
set_option maxRecDepth 1000000
theorem twU14 {P : Prop} (h : P := by
 refine bodyPost_ret (v := X #[J O z, J Y fl]) (by simp [results, Tryz.results168, go_sem, br0, br1]) rfl ⟨z, fl, hq, rfl, ?_⟩
 exact Gb.g) : P := h
theorem twU13 {P : Prop} (h : P := by
 have HM : Hid (MT = 0) := hM
 clear hM
 go_enter Tryz.func168, Tryz.ntmps168
 go_wp2_with (first
  | (go_at_call 215; refine (HT.out _ Gb.g).mono ?_; rintro e w1 ⟨b1, k1, c1, hb1, rfl, hg_w1⟩; obtain ⟨n1, hn1, hbb⟩ := hb1; obtain rfl : k1 = 0 := (big_nok hbb HM.out); obtain ⟨ax0, ax1, ax2, ax3⟩ := hg_w1.e4 w.heap.size 0 1 2 3 (J Y sx) (E (some ⟨bx, 0, none⟩) kx cx) (J Y ex) (U false); obtain ⟨ay0, ay1, ay2, ay3⟩ := hg_w1.e4 (w.heap.size + 1) 0 1 2 3 (J Y sy) (E (some ⟨gy, 0, none⟩) ky cy) (J Y ey) (U false); obtain ⟨ar0, arz0⟩ := hg_w1.y1 (w.heap.size + 1 + 1) 0 (J O 0); have arA0 := kca ar0; have arB0 := kfa arz0; obtain ⟨ar1, arz1⟩ := hg_w1.y1 (w.heap.size + 1 + 1) 1 (J Y 0); have arA1 := kca ar1; have arB1 := kfa arz1; have aX := kca ax0; have aY := kca ay0)
  | (go_at_call 64; refine (HZ.out _).mono ?_; rintro e w2 ⟨rfl, hg_w2⟩; obtain ⟨br0, brz0, br1, brz1⟩ := hg_w2.y2 (w.heap.size + 1 + 1) 0 1 (J O 0) (J Y 0)))
 refine bodyPost_ret (v := X #[J O z, J Y 0]) (by simp [results, Tryz.results168, go_sem, br0, br1]) rfl ⟨rfl, ?_⟩
 exact Gb.g) : P := h
theorem twU11 {P : Prop} (h : P := by
 have HM : Hid (MT = 0) := hM
 clear hM
 go_enter Tryz.func168, Tryz.ntmps168
 go_wp2_with (first
  | (go_at_call 215; refine (HT.out _ Gb.g).mono ?_; rintro e w1 ⟨b1, k1, c1, hb1, rfl, hg_w1⟩; obtain ⟨n1, hn1, hbb⟩ := hb1; obtain rfl : k1 = 0 := (big_nok hbb HM.out); obtain ⟨ax0, ax1, ax2, ax3⟩ := hg_w1.e4 w.heap.size 0 1 2 3 (J Y sx) (E (some ⟨bx, 0, none⟩) kx cx) (J Y ey) (U false); obtain ⟨ay0, ay1, ay2, ay3⟩ := hg_w1.e4 (w.heap.size + 1) 0 1 2 3 (J Y sy) (E (some ⟨gy, 0, none⟩) ky cy) (J Y ey) (U false); obtain ⟨ar0, arz0⟩ := hg_w1.y1 (w.heap.size + 1 + 1) 0 (J O 0); have arA0 := kca ar0; have arB0 := kfa arz0; obtain ⟨ar1, arz1⟩ := hg_w1.y1 (w.heap.size + 1 + 1) 1 (J Y 0); have arA1 := kca ar1; have arB1 := kfa arz1; have aX := kca ax0; have aY := kca ay0)
  | (go_at_call 64; refine (HZ.out _).mono ?_; rintro e w2 ⟨rfl, hg_w2⟩; obtain ⟨br0, brz0, br1, brz1⟩ := hg_w2.y2 (w.heap.size + 1 + 1) 0 1 (J O 0) (J Y 0)))
 refine bodyPost_ret (v := X #[J O z, J Y 0]) (by simp [results, Tryz.results168, go_sem, br0, br1]) rfl ⟨rfl, ?_⟩
 exact Gb.g) : P := h
theorem big_posk {w : World} {b k c n N : Nat} (h : Big w (E (some ⟨b, 0, none⟩) k c) n N) (hN : 0 < N) : 0 < ((k : Nat) : Int) := by
 obtain ⟨hnm, _, b', cap, e, _⟩ := h
 injection e with e1 e2 e3
 have := hnm.iff
 omega
theorem big_nok {w : World} {b k c n N : Nat} (h : Big w (E (some ⟨b, 0, none⟩) k c) n N) (hN : N = 0) : k = 0 := by
 obtain ⟨hnm, _, b', cap, e, _⟩ := h
 injection e with e1 e2 e3
 have := hnm.iff
 omega
theorem bigN_zk {K : Nat} {w : World} {b k c N : Nat} (h : BigN K w (E (some ⟨b, 0, none⟩) k c) N) : (((k : Nat) : Int) == 0) = decide (N = 0) := by
 obtain ⟨n, _, h⟩ := h
 rcases Nat.eq_zero_or_pos N with c | c
 ·rw [big_nok h c]; simp [c]
 ·have := big_posk h c
  rw [decide_eq_false (by omega)]; simp; omega
theorem l3Sum_nnR (f mode sx sy ex ey sT eT : Int) (bx kx cx gy ky cy MT : Nat) {w : World} (hkx : (((kx : Nat) : Int) == 0) = false) (hky : (((ky : Nat) : Int) == 0) = false) (HT : Hid (∀ w', Gb w w' → CT 215 #[X #[J Y sx, E (some ⟨bx, 0, none⟩) kx cx, J Y ex, U false], X #[J Y sy, E (some ⟨gy, 0, none⟩) ky cy, J Y ey, U false]] w' fun e w'' => ∃ b k c, BigN 1000 w'' (E (some ⟨b, 0, none⟩) k c) MT ∧ e = V (X #[J Y sT, E (some ⟨b, 0, none⟩) k c, J Y eT, U false]) ∧ Gb w' w'')) (hM : 0 < MT) (Q : Int → Int → Prop) (HR : Hid (∀ v w, BigN 1000 w v MT → CT 65 #[J Y f, J Y mode, X #[J Y sT, v, J Y eT, U false]] w fun x w' => ∃ z fl, Q z fl ∧ x = V (X #[J O z, J Y fl]) ∧ Gb w w')) :
  CT 168 #[J Y f, J Y mode, X #[J Y sx, E (some ⟨bx, 0, none⟩) kx cx, J Y ex, U false], X #[J Y sy, E (some ⟨gy, 0, none⟩) ky cy, J Y ey, U false]] w fun e w' => ∃ z fl, Q z fl ∧ e = V (X #[J O z, J Y fl]) ∧ Gb w w' := by
 have HM : Hid (0 < MT) := hM
 clear hM
 go_enter Tryz.func168, Tryz.ntmps168
 go_wp2_with (first
  | (go_at_call 215; refine (HT.out _ Gb.g).mono ?_; rintro e w1 ⟨b1, k1, c1, hb1, rfl, hg_w1⟩; obtain ⟨n1, hn1, hbb⟩ := hb1; have hk1 : (0 < ((k1 : Nat) : Int)) := (big_posk hbb HM.out); have hb1' : BigN 1000 w1 (E (some ⟨b1, 0, none⟩) k1 c1) MT := ⟨n1, hn1, hbb⟩; obtain ⟨ax0, ax1, ax2, ax3⟩ := hg_w1.e4 w.heap.size 0 1 2 3 (J Y sx) (E (some ⟨bx, 0, none⟩) kx cx) (J Y ex) (U false); obtain ⟨ay0, ay1, ay2, ay3⟩ := hg_w1.e4 (w.heap.size + 1) 0 1 2 3 (J Y sy) (E (some ⟨gy, 0, none⟩) ky cy) (J Y ey) (U false); obtain ⟨ar0, arz0⟩ := hg_w1.y1 (w.heap.size + 1 + 1) 0 (J O 0); have arA0 := kca ar0; have arB0 := kfa arz0; obtain ⟨ar1, arz1⟩ := hg_w1.y1 (w.heap.size + 1 + 1) 1 (J Y 0); have arA1 := kca ar1; have arB1 := kfa arz1; have aX := kca ax0; have aY := kca ay0; have hA := (fun ob => BigN.gb hb1' ((Gb.refl w1).alloc ob)))
  | (go_at_call 65; refine (HR.out _ _ (BigN.gb hb1' Gb.g)).mono ?_; rintro e w2 ⟨z, fl, hq, rfl, hg_w2⟩; obtain ⟨br0, brz0, br1, brz1⟩ := hg_w2.y2 (w.heap.size + 1 + 1) 0 1 (J O 0) (J Y 0)))
 exact twU14
theorem l3Sum_nnD (f mode sx sy ex ey sT eT : Int) (bx kx cx gy ky cy MT : Nat) {w : World} (hkx : (((kx : Nat) : Int) == 0) = false) (hky : (((ky : Nat) : Int) == 0) = false) (HT : Hid (∀ w', Gb w w' → CT 215 #[X #[J Y sx, E (some ⟨bx, 0, none⟩) kx cx, J Y ex, U false], X #[J Y sy, E (some ⟨gy, 0, none⟩) ky cy, J Y ey, U false]] w' fun e w'' => ∃ b k c, BigN 1000 w'' (E (some ⟨b, 0, none⟩) k c) MT ∧ e = V (X #[J Y sT, E (some ⟨b, 0, none⟩) k c, J Y eT, U false]) ∧ Gb w' w'')) (hM : MT = 0) (hs : (sx == sy) = false) (hmd : (mode == 4) = true) (z : Int) (HZ : KR 64 #[J Y f, J Y 1] (X #[J O z, J Y 0])) :
  QB 168 #[J Y f, J Y mode, X #[J Y sx, E (some ⟨bx, 0, none⟩) kx cx, J Y ex, U false], X #[J Y sy, E (some ⟨gy, 0, none⟩) ky cy, J Y ey, U false]] w (X #[J O z, J Y 0]) := by
 exact twU13
theorem l3Sum_nnO (f mode sx sy ex ey sT eT : Int) (bx kx cx gy ky cy MT : Nat) {w : World} (hkx : (((kx : Nat) : Int) == 0) = false) (hky : (((ky : Nat) : Int) == 0) = false) (HT : Hid (∀ w', Gb w w' → CT 215 #[X #[J Y sx, E (some ⟨bx, 0, none⟩) kx cx, J Y ex, U false], X #[J Y sy, E (some ⟨gy, 0, none⟩) ky cy, J Y ey, U false]] w' fun e w'' => ∃ b k c, BigN 1000 w'' (E (some ⟨b, 0, none⟩) k c) MT ∧ e = V (X #[J Y sT, E (some ⟨b, 0, none⟩) k c, J Y eT, U false]) ∧ Gb w' w'')) (hM : MT = 0) (hs : (sx == sy) = false) (hmd : (mode == 4) = false) (z : Int) (HZ : KR 64 #[J Y f, J Y 0] (X #[J O z, J Y 0])) :
  QB 168 #[J Y f, J Y mode, X #[J Y sx, E (some ⟨bx, 0, none⟩) kx cx, J Y ex, U false], X #[J Y sy, E (some ⟨gy, 0, none⟩) ky cy, J Y ey, U false]] w (X #[J O z, J Y 0]) := by
 exact twU13
theorem l3Sum_znR (f mode sx sy ex ey sT eT : Int) (bx kx cx gy ky cy MT : Nat) {w : World} (hkx : (((kx : Nat) : Int) == 0) = true) (hky : (((ky : Nat) : Int) == 0) = false) (HT : Hid (∀ w', Gb w w' → CT 215 #[X #[J Y sx, E (some ⟨bx, 0, none⟩) kx cx, J Y ey, U false], X #[J Y sy, E (some ⟨gy, 0, none⟩) ky cy, J Y ey, U false]] w' fun e w'' => ∃ b k c, BigN 1000 w'' (E (some ⟨b, 0, none⟩) k c) MT ∧ e = V (X #[J Y sT, E (some ⟨b, 0, none⟩) k c, J Y eT, U false]) ∧ Gb w' w'')) (hM : 0 < MT) (Q : Int → Int → Prop) (HR : Hid (∀ v w, BigN 1000 w v MT → CT 65 #[J Y f, J Y mode, X #[J Y sT, v, J Y eT, U false]] w fun x w' => ∃ z fl, Q z fl ∧ x = V (X #[J O z, J Y fl]) ∧ Gb w w')) :
  CT 168 #[J Y f, J Y mode, X #[J Y sx, E (some ⟨bx, 0, none⟩) kx cx, J Y ex, U false], X #[J Y sy, E (some ⟨gy, 0, none⟩) ky cy, J Y ey, U false]] w fun e w' => ∃ z fl, Q z fl ∧ e = V (X #[J O z, J Y fl]) ∧ Gb w w' := by
 have HM : Hid (0 < MT) := hM
 clear hM
 go_enter Tryz.func168, Tryz.ntmps168
 go_wp2_with (first
  | (go_at_call 215; refine (HT.out _ Gb.g).mono ?_; rintro e w1 ⟨b1, k1, c1, hb1, rfl, hg_w1⟩; obtain ⟨n1, hn1, hbb⟩ := hb1; have hk1 : (0 < ((k1 : Nat) : Int)) := (big_posk hbb HM.out); have hb1' : BigN 1000 w1 (E (some ⟨b1, 0, none⟩) k1 c1) MT := ⟨n1, hn1, hbb⟩; obtain ⟨ax0, ax1, ax2, ax3⟩ := hg_w1.e4 w.heap.size 0 1 2 3 (J Y sx) (E (some ⟨bx, 0, none⟩) kx cx) (J Y ey) (U false); obtain ⟨ay0, ay1, ay2, ay3⟩ := hg_w1.e4 (w.heap.size + 1) 0 1 2 3 (J Y sy) (E (some ⟨gy, 0, none⟩) ky cy) (J Y ey) (U false); obtain ⟨ar0, arz0⟩ := hg_w1.y1 (w.heap.size + 1 + 1) 0 (J O 0); have arA0 := kca ar0; have arB0 := kfa arz0; obtain ⟨ar1, arz1⟩ := hg_w1.y1 (w.heap.size + 1 + 1) 1 (J Y 0); have arA1 := kca ar1; have arB1 := kfa arz1; have aX := kca ax0; have aY := kca ay0; have hA := (fun ob => BigN.gb hb1' ((Gb.refl w1).alloc ob)))
  | (go_at_call 65; refine (HR.out _ _ (BigN.gb hb1' Gb.g)).mono ?_; rintro e w2 ⟨z, fl, hq, rfl, hg_w2⟩; obtain ⟨br0, brz0, br1, brz1⟩ := hg_w2.y2 (w.heap.size + 1 + 1) 0 1 (J O 0) (J Y 0)))
 exact twU14
theorem l3Sum_nzR (f mode sx sy ex ey sT eT : Int) (bx kx cx gy ky cy MT : Nat) {w : World} (hkx : (((kx : Nat) : Int) == 0) = false) (hky : (((ky : Nat) : Int) == 0) = true) (HT : Hid (∀ w', Gb w w' → CT 215 #[X #[J Y sx, E (some ⟨bx, 0, none⟩) kx cx, J Y ex, U false], X #[J Y sy, E (some ⟨gy, 0, none⟩) ky cy, J Y ex, U false]] w' fun e w'' => ∃ b k c, BigN 1000 w'' (E (some ⟨b, 0, none⟩) k c) MT ∧ e = V (X #[J Y sT, E (some ⟨b, 0, none⟩) k c, J Y eT, U false]) ∧ Gb w' w'')) (hM : 0 < MT) (Q : Int → Int → Prop) (HR : Hid (∀ v w, BigN 1000 w v MT → CT 65 #[J Y f, J Y mode, X #[J Y sT, v, J Y eT, U false]] w fun x w' => ∃ z fl, Q z fl ∧ x = V (X #[J O z, J Y fl]) ∧ Gb w w')) :
  CT 168 #[J Y f, J Y mode, X #[J Y sx, E (some ⟨bx, 0, none⟩) kx cx, J Y ex, U false], X #[J Y sy, E (some ⟨gy, 0, none⟩) ky cy, J Y ey, U false]] w fun e w' => ∃ z fl, Q z fl ∧ e = V (X #[J O z, J Y fl]) ∧ Gb w w' := by
 have HM : Hid (0 < MT) := hM
 clear hM
 go_enter Tryz.func168, Tryz.ntmps168
 go_wp2_with (first
  | (go_at_call 215; refine (HT.out _ Gb.g).mono ?_; rintro e w1 ⟨b1, k1, c1, hb1, rfl, hg_w1⟩; obtain ⟨n1, hn1, hbb⟩ := hb1; have hk1 : (0 < ((k1 : Nat) : Int)) := (big_posk hbb HM.out); have hb1' : BigN 1000 w1 (E (some ⟨b1, 0, none⟩) k1 c1) MT := ⟨n1, hn1, hbb⟩; obtain ⟨ax0, ax1, ax2, ax3⟩ := hg_w1.e4 w.heap.size 0 1 2 3 (J Y sx) (E (some ⟨bx, 0, none⟩) kx cx) (J Y ex) (U false); obtain ⟨ay0, ay1, ay2, ay3⟩ := hg_w1.e4 (w.heap.size + 1) 0 1 2 3 (J Y sy) (E (some ⟨gy, 0, none⟩) ky cy) (J Y ex) (U false); obtain ⟨ar0, arz0⟩ := hg_w1.y1 (w.heap.size + 1 + 1) 0 (J O 0); have arA0 := kca ar0; have arB0 := kfa arz0; obtain ⟨ar1, arz1⟩ := hg_w1.y1 (w.heap.size + 1 + 1) 1 (J Y 0); have arA1 := kca ar1; have arB1 := kfa arz1; have aX := kca ax0; have aY := kca ay0; have hA := (fun ob => BigN.gb hb1' ((Gb.refl w1).alloc ob)))
  | (go_at_call 65; refine (HR.out _ _ (BigN.gb hb1' Gb.g)).mono ?_; rintro e w2 ⟨z, fl, hq, rfl, hg_w2⟩; obtain ⟨br0, brz0, br1, brz1⟩ := hg_w2.y2 (w.heap.size + 1 + 1) 0 1 (J O 0) (J Y 0)))
 exact twU14
theorem l3Sum_zzS (f mode sx sy ex ey sT eT : Int) (bx kx cx gy ky cy MT : Nat) {w : World} (hkx : (((kx : Nat) : Int) == 0) = true) (hky : (((ky : Nat) : Int) == 0) = true) (HT : Hid (∀ w', Gb w w' → CT 215 #[X #[J Y sx, E (some ⟨bx, 0, none⟩) kx cx, J Y ey, U false], X #[J Y sy, E (some ⟨gy, 0, none⟩) ky cy, J Y ey, U false]] w' fun e w'' => ∃ b k c, BigN 1000 w'' (E (some ⟨b, 0, none⟩) k c) MT ∧ e = V (X #[J Y sT, E (some ⟨b, 0, none⟩) k c, J Y eT, U false]) ∧ Gb w' w'')) (hM : MT = 0) (hs : (sx == sy) = true) (z : Int) (HZ : KR 64 #[J Y f, J Y sx] (X #[J O z, J Y 0])) :
  QB 168 #[J Y f, J Y mode, X #[J Y sx, E (some ⟨bx, 0, none⟩) kx cx, J Y ex, U false], X #[J Y sy, E (some ⟨gy, 0, none⟩) ky cy, J Y ey, U false]] w (X #[J O z, J Y 0]) := by
 exact twU11
theorem l3Sum_zzD (f mode sx sy ex ey sT eT : Int) (bx kx cx gy ky cy MT : Nat) {w : World} (hkx : (((kx : Nat) : Int) == 0) = true) (hky : (((ky : Nat) : Int) == 0) = true) (HT : Hid (∀ w', Gb w w' → CT 215 #[X #[J Y sx, E (some ⟨bx, 0, none⟩) kx cx, J Y ey, U false], X #[J Y sy, E (some ⟨gy, 0, none⟩) ky cy, J Y ey, U false]] w' fun e w'' => ∃ b k c, BigN 1000 w'' (E (some ⟨b, 0, none⟩) k c) MT ∧ e = V (X #[J Y sT, E (some ⟨b, 0, none⟩) k c, J Y eT, U false]) ∧ Gb w' w'')) (hM : MT = 0) (hs : (sx == sy) = false) (hmd : (mode == 4) = true) (z : Int) (HZ : KR 64 #[J Y f, J Y 1] (X #[J O z, J Y 0])) :
  QB 168 #[J Y f, J Y mode, X #[J Y sx, E (some ⟨bx, 0, none⟩) kx cx, J Y ex, U false], X #[J Y sy, E (some ⟨gy, 0, none⟩) ky cy, J Y ey, U false]] w (X #[J O z, J Y 0]) := by
 exact twU11
theorem l3Sum_zzO (f mode sx sy ex ey sT eT : Int) (bx kx cx gy ky cy MT : Nat) {w : World} (hkx : (((kx : Nat) : Int) == 0) = true) (hky : (((ky : Nat) : Int) == 0) = true) (HT : Hid (∀ w', Gb w w' → CT 215 #[X #[J Y sx, E (some ⟨bx, 0, none⟩) kx cx, J Y ey, U false], X #[J Y sy, E (some ⟨gy, 0, none⟩) ky cy, J Y ey, U false]] w' fun e w'' => ∃ b k c, BigN 1000 w'' (E (some ⟨b, 0, none⟩) k c) MT ∧ e = V (X #[J Y sT, E (some ⟨b, 0, none⟩) k c, J Y eT, U false]) ∧ Gb w' w'')) (hM : MT = 0) (hs : (sx == sy) = false) (hmd : (mode == 4) = false) (z : Int) (HZ : KR 64 #[J Y f, J Y 0] (X #[J O z, J Y 0])) :
  QB 168 #[J Y f, J Y mode, X #[J Y sx, E (some ⟨bx, 0, none⟩) kx cx, J Y ex, U false], X #[J Y sy, E (some ⟨gy, 0, none⟩) ky cy, J Y ey, U false]] w (X #[J O z, J Y 0]) := by
 exact twU11
set_option maxRecDepth 1000000
theorem twU12 {P : Prop} (h : P := by
 go_enter Tryz.func79, Tryz.ntmps79
 go_wp2_with (first
  | (go_at_call 117; refine kw (HF.out _) ?_)
  | (go_at_call 31; first | (with_reducible refine (HUa.out _).mono ?_; rintro e w1 ⟨rfl, hg_w1⟩; obtain ⟨u0r0, u0rz0, u0r1, u0rz1⟩ := hg_w1.y2 w.heap.size 0 1 (J O 0) (J Y 0); have hz0 := cell_size u0r0) | (with_reducible refine (HUb.out _).mono ?_; rintro e w2 ⟨rfl, hg_w2⟩; obtain ⟨u1r0, u1rz0, u1r1, u1rz1⟩ := hg_w2.y2 w.heap.size 0 1 (J O 0) (J Y 0); have u1p00 := hg_w2.e1 w1.heap.size 0 (J Y ca); have u1p0A0 := kca u1p00; have u1p01 := hg_w2.e1 w1.heap.size 1 (J Y sa); have u1p0A1 := kca u1p01; have u1p02 := hg_w2.e1 w1.heap.size 2 (J Y xa); have u1p0A2 := kca u1p02; have u1p03 := hg_w2.e1 w1.heap.size 3 (J O ga); have u1p0A3 := kca u1p03; have hz1 := cell_size u1r0))
  | (go_at_call 118; first | (with_reducible refine (HQa.out _).mono ?_; rintro e va ⟨rfl, hg_va⟩; obtain ⟨qar0, qarz0, qar1, qarz1⟩ := hg_va.y2 w.heap.size 0 1 (J O 0) (J Y 0); obtain ⟨qap00, qap01, qap02, qap03⟩ := hg_va.e4 w1.heap.size 0 1 2 3 (J Y ca) (J Y sa) (J Y xa) (J O ga); obtain ⟨qap10, qap11, qap12, qap13⟩ := hg_va.e4 w2.heap.size 0 1 2 3 (J Y cb) (J Y sb) (J Y xb) (J O gb)) | (with_reducible refine (HQb.out _).mono ?_; rintro e vb ⟨rfl, hg_vb⟩; obtain ⟨qbr0, qbrz0, qbr1, qbrz1⟩ := hg_vb.y2 w.heap.size 0 1 (J O 0) (J Y 0); obtain ⟨qbp00, qbp01, qbp02, qbp03⟩ := hg_vb.e4 w1.heap.size 0 1 2 3 (J Y ca) (J Y sa) (J Y xa) (J O ga); obtain ⟨qbp10, qbp11, qbp12, qbp13⟩ := hg_vb.e4 w2.heap.size 0 1 2 3 (J Y cb) (J Y sb) (J Y xb) (J O gb)))
  | (go_at_call 119; refine (HL.out _).mono ?_; rintro e w9 ⟨rfl, hg_w9⟩; obtain ⟨zr0, zrz0, zr1, zrz1⟩ := hg_w9.y2 w.heap.size 0 1 (J O 0) (J Y 0)))
 refine bodyPost_ret (v := X #[J O z, J Y fl]) (by simp [results, Tryz.results79, go_sem, zr0, zr1]) rfl ⟨rfl, ?_⟩
 exact Gb.g) : P := h
theorem twU10 {P : Prop} (h : P := by
 go_enter Tryz.func79, Tryz.ntmps79
 go_wp2_with (first
  | (go_at_call 117; refine kw (HF.out _) ?_)
  | (go_at_call 31; first | (with_reducible refine (HUa.out _).mono ?_; rintro e w1 ⟨rfl, hg_w1⟩; obtain ⟨u0r0, u0rz0, u0r1, u0rz1⟩ := hg_w1.y2 w.heap.size 0 1 (J O 0) (J Y 0); have hz0 := cell_size u0r0) | (with_reducible refine (HUb.out _).mono ?_; rintro e w2 ⟨rfl, hg_w2⟩; obtain ⟨u1r0, u1rz0, u1r1, u1rz1⟩ := hg_w2.y2 w.heap.size 0 1 (J O 0) (J Y 0); have u1p00 := hg_w2.e1 w1.heap.size 0 (J Y ca); have u1p0A0 := kca u1p00; have u1p01 := hg_w2.e1 w1.heap.size 1 (J Y sa); have u1p0A1 := kca u1p01; have u1p02 := hg_w2.e1 w1.heap.size 2 (J Y xa); have u1p0A2 := kca u1p02; have u1p03 := hg_w2.e1 w1.heap.size 3 (J O ga); have u1p0A3 := kca u1p03; have hz1 := cell_size u1r0))
  | (go_at_call 118; first | (with_reducible refine (HQa.out _).mono ?_; rintro e va ⟨rfl, hg_va⟩; obtain ⟨qar0, qarz0, qar1, qarz1⟩ := hg_va.y2 w.heap.size 0 1 (J O 0) (J Y 0); obtain ⟨qap00, qap01, qap02, qap03⟩ := hg_va.e4 w1.heap.size 0 1 2 3 (J Y ca) (J Y sa) (J Y xa) (J O ga); obtain ⟨qap10, qap11, qap12, qap13⟩ := hg_va.e4 w2.heap.size 0 1 2 3 (J Y cb) (J Y sb) (J Y xb) (J O gb)))
  | (go_at_call 119; refine (HL.out _).mono ?_; rintro e w9 ⟨rfl, hg_w9⟩; obtain ⟨zr0, zrz0, zr1, zrz1⟩ := hg_w9.y2 w.heap.size 0 1 (J O 0) (J Y 0)))
 refine bodyPost_ret (v := X #[J O z, J Y fl]) (by simp [results, Tryz.results79, go_sem, zr0, zr1]) rfl ⟨rfl, ?_⟩
 exact Gb.g) : P := h
theorem sAdd_bad (f mode a b : Int) (HF : KW 117 #[J Y f, J Y mode, J O a, J O b] (U false)) (z fl : Int) (HL : KR 63 #[J Y f] (X #[J O z, J Y fl])) (w : World) :
  QB 79 #[J Y f, J Y mode, J O a, J O b] w (X #[J O z, J Y fl]) := by
 go_enter Tryz.func79, Tryz.ntmps79
 go_wp2_with (first
  | (go_at_call 117; refine kw (HF.out _) ?_)
  | (go_at_call 63; refine (HL.out _).mono ?_; rintro e w9 ⟨rfl, hg_w9⟩; obtain ⟨zr0, zrz0, zr1, zrz1⟩ := hg_w9.y2 w.heap.size 0 1 (J O 0) (J Y 0)))
 refine bodyPost_ret (v := X #[J O z, J Y fl]) (by simp [results, Tryz.results79, go_sem, zr0, zr1]) rfl ⟨rfl, ?_⟩
 exact Gb.g
theorem sAdd_nan1 (f mode a b ca sa xa ga cb sb xb gb : Int) (HF : KW 117 #[J Y f, J Y mode, J O a, J O b] (U true)) (HUa : KR 31 #[J Y f, J O a] (X #[J Y ca, J Y sa, J Y xa, J O ga])) (HUb : KR 31 #[J Y f, J O b] (X #[J Y cb, J Y sb, J Y xb, J O gb])) (HQa : KR 118 #[X #[J Y ca, J Y sa, J Y xa, J O ga]] (U true)) (e4 : (ca == 4) = true) (z fl : Int) (HL : KR 119 #[J Y f, U true] (X #[J O z, J Y fl])) (w : World) :
  QB 79 #[J Y f, J Y mode, J O a, J O b] w (X #[J O z, J Y fl]) := by
 exact twU10
theorem sAdd_nan2 (f mode a b ca sa xa ga cb sb xb gb : Int) (HF : KW 117 #[J Y f, J Y mode, J O a, J O b] (U true)) (HUa : KR 31 #[J Y f, J O a] (X #[J Y ca, J Y sa, J Y xa, J O ga])) (HUb : KR 31 #[J Y f, J O b] (X #[J Y cb, J Y sb, J Y xb, J O gb])) (HQa : KR 118 #[X #[J Y ca, J Y sa, J Y xa, J O ga]] (U true)) (e4 : (ca == 4) = false) (t : Bool) (e5 : (cb == 4) = t) (z fl : Int) (HL : KR 119 #[J Y f, U t] (X #[J O z, J Y fl])) (w : World) :
  QB 79 #[J Y f, J Y mode, J O a, J O b] w (X #[J O z, J Y fl]) := by
 cases t
 ·exact twU10
 ·exact twU10
theorem sAdd_nan3 (f mode a b ca sa xa ga cb sb xb gb : Int) (HF : KW 117 #[J Y f, J Y mode, J O a, J O b] (U true)) (HUa : KR 31 #[J Y f, J O a] (X #[J Y ca, J Y sa, J Y xa, J O ga])) (HUb : KR 31 #[J Y f, J O b] (X #[J Y cb, J Y sb, J Y xb, J O gb])) (HQa : KR 118 #[X #[J Y ca, J Y sa, J Y xa, J O ga]] (U false)) (HQb : KR 118 #[X #[J Y cb, J Y sb, J Y xb, J O gb]] (U true)) (e4 : (ca == 4) = false) (t : Bool) (e5 : (cb == 4) = t) (z fl : Int) (HL : KR 119 #[J Y f, U t] (X #[J O z, J Y fl])) (w : World) :
  QB 79 #[J Y f, J Y mode, J O a, J O b] w (X #[J O z, J Y fl]) := by
 cases t
 ·exact twU12
 ·exact twU12
theorem sAdd_inf0 (f mode a b ca sa xa ga cb sb xb gb : Int) (HF : KW 117 #[J Y f, J Y mode, J O a, J O b] (U true)) (HUa : KR 31 #[J Y f, J O a] (X #[J Y ca, J Y sa, J Y xa, J O ga])) (HUb : KR 31 #[J Y f, J O b] (X #[J Y cb, J Y sb, J Y xb, J O gb])) (HQa : KR 118 #[X #[J Y ca, J Y sa, J Y xa, J O ga]] (U false)) (HQb : KR 118 #[X #[J Y cb, J Y sb, J Y xb, J O gb]] (U false)) (e1 : ca = 2) (e2 : cb = 2) (e3 : (sa == sb) = false) (z fl : Int) (HL : KR 63 #[J Y f] (X #[J O z, J Y fl])) (w : World) :
  QB 79 #[J Y f, J Y mode, J O a, J O b] w (X #[J O z, J Y fl]) := by
 subst e1 e2
 go_enter Tryz.func79, Tryz.ntmps79
 go_wp2_with (first
  | (go_at_call 117; refine kw (HF.out _) ?_)
  | (go_at_call 31; first | (with_reducible refine (HUa.out _).mono ?_; rintro e w1 ⟨rfl, hg_w1⟩; obtain ⟨u0r0, u0rz0, u0r1, u0rz1⟩ := hg_w1.y2 w.heap.size 0 1 (J O 0) (J Y 0); have hz0 := cell_size u0r0) | (with_reducible refine (HUb.out _).mono ?_; rintro e w2 ⟨rfl, hg_w2⟩; obtain ⟨u1r0, u1rz0, u1r1, u1rz1⟩ := hg_w2.y2 w.heap.size 0 1 (J O 0) (J Y 0); have u1p00 := hg_w2.e1 w1.heap.size 0 (J Y 2); have u1p0A0 := kca u1p00; have u1p01 := hg_w2.e1 w1.heap.size 1 (J Y sa); have u1p0A1 := kca u1p01; have u1p02 := hg_w2.e1 w1.heap.size 2 (J Y xa); have u1p0A2 := kca u1p02; have u1p03 := hg_w2.e1 w1.heap.size 3 (J O ga); have u1p0A3 := kca u1p03; have hz1 := cell_size u1r0))
  | (go_at_call 118; first | (with_reducible refine (HQa.out _).mono ?_; rintro e va ⟨rfl, hg_va⟩; obtain ⟨qar0, qarz0, qar1, qarz1⟩ := hg_va.y2 w.heap.size 0 1 (J O 0) (J Y 0); obtain ⟨qap00, qap01, qap02, qap03⟩ := hg_va.e4 w1.heap.size 0 1 2 3 (J Y 2) (J Y sa) (J Y xa) (J O ga); obtain ⟨qap10, qap11, qap12, qap13⟩ := hg_va.e4 w2.heap.size 0 1 2 3 (J Y 2) (J Y sb) (J Y xb) (J O gb)) | (with_reducible refine (HQb.out _).mono ?_; rintro e vb ⟨rfl, hg_vb⟩; obtain ⟨qbr0, qbrz0, qbr1, qbrz1⟩ := hg_vb.y2 w.heap.size 0 1 (J O 0) (J Y 0); obtain ⟨qbp00, qbp01, qbp02, qbp03⟩ := hg_vb.e4 w1.heap.size 0 1 2 3 (J Y 2) (J Y sa) (J Y xa) (J O ga); obtain ⟨qbp10, qbp11, qbp12, qbp13⟩ := hg_vb.e4 w2.heap.size 0 1 2 3 (J Y 2) (J Y sb) (J Y xb) (J O gb)))
  | (go_at_call 63; refine (HL.out _).mono ?_; rintro e w9 ⟨rfl, hg_w9⟩; obtain ⟨zr0, zrz0, zr1, zrz1⟩ := hg_w9.y2 w.heap.size 0 1 (J O 0) (J Y 0)))
 refine bodyPost_ret (v := X #[J O z, J Y fl]) (by simp [results, Tryz.results79, go_sem, zr0, zr1]) rfl ⟨rfl, ?_⟩
 exact Gb.g
theorem sAdd_inf1 (f mode a b ca sa xa ga cb sb xb gb : Int) (HF : KW 117 #[J Y f, J Y mode, J O a, J O b] (U true)) (HUa : KR 31 #[J Y f, J O a] (X #[J Y ca, J Y sa, J Y xa, J O ga])) (HUb : KR 31 #[J Y f, J O b] (X #[J Y cb, J Y sb, J Y xb, J O gb])) (HQa : KR 118 #[X #[J Y ca, J Y sa, J Y xa, J O ga]] (U false)) (HQb : KR 118 #[X #[J Y cb, J Y sb, J Y xb, J O gb]] (U false)) (e1 : ca = 2) (e2 : (cb == 2) = false) (z fl : Int) (HL : KR 167 #[J Y f, J Y sa] (X #[J O z, J Y fl])) (w : World) :
  QB 79 #[J Y f, J Y mode, J O a, J O b] w (X #[J O z, J Y fl]) := by
 subst e1
 go_enter Tryz.func79, Tryz.ntmps79
 go_wp2_with (first
  | (go_at_call 117; refine kw (HF.out _) ?_)
  | (go_at_call 31; first | (with_reducible refine (HUa.out _).mono ?_; rintro e w1 ⟨rfl, hg_w1⟩; obtain ⟨u0r0, u0rz0, u0r1, u0rz1⟩ := hg_w1.y2 w.heap.size 0 1 (J O 0) (J Y 0); have hz0 := cell_size u0r0) | (with_reducible refine (HUb.out _).mono ?_; rintro e w2 ⟨rfl, hg_w2⟩; obtain ⟨u1r0, u1rz0, u1r1, u1rz1⟩ := hg_w2.y2 w.heap.size 0 1 (J O 0) (J Y 0); have u1p00 := hg_w2.e1 w1.heap.size 0 (J Y 2); have u1p0A0 := kca u1p00; have u1p01 := hg_w2.e1 w1.heap.size 1 (J Y sa); have u1p0A1 := kca u1p01; have u1p02 := hg_w2.e1 w1.heap.size 2 (J Y xa); have u1p0A2 := kca u1p02; have u1p03 := hg_w2.e1 w1.heap.size 3 (J O ga); have u1p0A3 := kca u1p03; have hz1 := cell_size u1r0))
  | (go_at_call 118; first | (with_reducible refine (HQa.out _).mono ?_; rintro e va ⟨rfl, hg_va⟩; obtain ⟨qar0, qarz0, qar1, qarz1⟩ := hg_va.y2 w.heap.size 0 1 (J O 0) (J Y 0); obtain ⟨qap00, qap01, qap02, qap03⟩ := hg_va.e4 w1.heap.size 0 1 2 3 (J Y 2) (J Y sa) (J Y xa) (J O ga); obtain ⟨qap10, qap11, qap12, qap13⟩ := hg_va.e4 w2.heap.size 0 1 2 3 (J Y cb) (J Y sb) (J Y xb) (J O gb)) | (with_reducible refine (HQb.out _).mono ?_; rintro e vb ⟨rfl, hg_vb⟩; obtain ⟨qbr0, qbrz0, qbr1, qbrz1⟩ := hg_vb.y2 w.heap.size 0 1 (J O 0) (J Y 0); obtain ⟨qbp00, qbp01, qbp02, qbp03⟩ := hg_vb.e4 w1.heap.size 0 1 2 3 (J Y 2) (J Y sa) (J Y xa) (J O ga); obtain ⟨qbp10, qbp11, qbp12, qbp13⟩ := hg_vb.e4 w2.heap.size 0 1 2 3 (J Y cb) (J Y sb) (J Y xb) (J O gb)))
  | (go_at_call 167; refine (HL.out _).mono ?_; rintro e w9 ⟨rfl, hg_w9⟩; obtain ⟨zr0, zrz0, zr1, zrz1⟩ := hg_w9.y2 w.heap.size 0 1 (J O 0) (J Y 0)))
 refine bodyPost_ret (v := X #[J O z, J Y fl]) (by simp [results, Tryz.results79, go_sem, zr0, zr1]) rfl ⟨rfl, ?_⟩
 exact Gb.g
theorem sAdd_inf2 (f mode a b ca sa xa ga cb sb xb gb : Int) (HF : KW 117 #[J Y f, J Y mode, J O a, J O b] (U true)) (HUa : KR 31 #[J Y f, J O a] (X #[J Y ca, J Y sa, J Y xa, J O ga])) (HUb : KR 31 #[J Y f, J O b] (X #[J Y cb, J Y sb, J Y xb, J O gb])) (HQa : KR 118 #[X #[J Y ca, J Y sa, J Y xa, J O ga]] (U false)) (HQb : KR 118 #[X #[J Y cb, J Y sb, J Y xb, J O gb]] (U false)) (e1 : ca = 2) (e2 : cb = 2) (e3 : sa = sb) (z fl : Int) (HL : KR 167 #[J Y f, J Y sa] (X #[J O z, J Y fl])) (w : World) :
  QB 79 #[J Y f, J Y mode, J O a, J O b] w (X #[J O z, J Y fl]) := by
 subst e1 e2 e3
 go_enter Tryz.func79, Tryz.ntmps79
 go_wp2_with (first
  | (go_at_call 117; refine kw (HF.out _) ?_)
  | (go_at_call 31; first | (with_reducible refine (HUa.out _).mono ?_; rintro e w1 ⟨rfl, hg_w1⟩; obtain ⟨u0r0, u0rz0, u0r1, u0rz1⟩ := hg_w1.y2 w.heap.size 0 1 (J O 0) (J Y 0); have hz0 := cell_size u0r0) | (with_reducible refine (HUb.out _).mono ?_; rintro e w2 ⟨rfl, hg_w2⟩; obtain ⟨u1r0, u1rz0, u1r1, u1rz1⟩ := hg_w2.y2 w.heap.size 0 1 (J O 0) (J Y 0); have u1p00 := hg_w2.e1 w1.heap.size 0 (J Y 2); have u1p0A0 := kca u1p00; have u1p01 := hg_w2.e1 w1.heap.size 1 (J Y sa); have u1p0A1 := kca u1p01; have u1p02 := hg_w2.e1 w1.heap.size 2 (J Y xa); have u1p0A2 := kca u1p02; have u1p03 := hg_w2.e1 w1.heap.size 3 (J O ga); have u1p0A3 := kca u1p03; have hz1 := cell_size u1r0))
  | (go_at_call 118; first | (with_reducible refine (HQa.out _).mono ?_; rintro e va ⟨rfl, hg_va⟩; obtain ⟨qar0, qarz0, qar1, qarz1⟩ := hg_va.y2 w.heap.size 0 1 (J O 0) (J Y 0); obtain ⟨qap00, qap01, qap02, qap03⟩ := hg_va.e4 w1.heap.size 0 1 2 3 (J Y 2) (J Y sa) (J Y xa) (J O ga); obtain ⟨qap10, qap11, qap12, qap13⟩ := hg_va.e4 w2.heap.size 0 1 2 3 (J Y 2) (J Y sa) (J Y xb) (J O gb)) | (with_reducible refine (HQb.out _).mono ?_; rintro e vb ⟨rfl, hg_vb⟩; obtain ⟨qbr0, qbrz0, qbr1, qbrz1⟩ := hg_vb.y2 w.heap.size 0 1 (J O 0) (J Y 0); obtain ⟨qbp00, qbp01, qbp02, qbp03⟩ := hg_vb.e4 w1.heap.size 0 1 2 3 (J Y 2) (J Y sa) (J Y xa) (J O ga); obtain ⟨qbp10, qbp11, qbp12, qbp13⟩ := hg_vb.e4 w2.heap.size 0 1 2 3 (J Y 2) (J Y sa) (J Y xb) (J O gb)))
  | (go_at_call 167; refine (HL.out _).mono ?_; rintro e w9 ⟨rfl, hg_w9⟩; obtain ⟨zr0, zrz0, zr1, zrz1⟩ := hg_w9.y2 w.heap.size 0 1 (J O 0) (J Y 0)))
 refine bodyPost_ret (v := X #[J O z, J Y fl]) (by simp [results, Tryz.results79, go_sem, zr0, zr1]) rfl ⟨rfl, ?_⟩
 exact Gb.g
theorem sAdd_inf3 (f mode a b ca sa xa ga cb sb xb gb : Int) (HF : KW 117 #[J Y f, J Y mode, J O a, J O b] (U true)) (HUa : KR 31 #[J Y f, J O a] (X #[J Y ca, J Y sa, J Y xa, J O ga])) (HUb : KR 31 #[J Y f, J O b] (X #[J Y cb, J Y sb, J Y xb, J O gb])) (HQa : KR 118 #[X #[J Y ca, J Y sa, J Y xa, J O ga]] (U false)) (HQb : KR 118 #[X #[J Y cb, J Y sb, J Y xb, J O gb]] (U false)) (e1 : (ca == 2) = false) (e2 : cb = 2) (z fl : Int) (HL : KR 167 #[J Y f, J Y sb] (X #[J O z, J Y fl])) (w : World) :
  QB 79 #[J Y f, J Y mode, J O a, J O b] w (X #[J O z, J Y fl]) := by
 subst e2
 go_enter Tryz.func79, Tryz.ntmps79
 go_wp2_with (first
  | (go_at_call 117; refine kw (HF.out _) ?_)
  | (go_at_call 31; first | (with_reducible refine (HUa.out _).mono ?_; rintro e w1 ⟨rfl, hg_w1⟩; obtain ⟨u0r0, u0rz0, u0r1, u0rz1⟩ := hg_w1.y2 w.heap.size 0 1 (J O 0) (J Y 0); have hz0 := cell_size u0r0) | (with_reducible refine (HUb.out _).mono ?_; rintro e w2 ⟨rfl, hg_w2⟩; obtain ⟨u1r0, u1rz0, u1r1, u1rz1⟩ := hg_w2.y2 w.heap.size 0 1 (J O 0) (J Y 0); have u1p00 := hg_w2.e1 w1.heap.size 0 (J Y ca); have u1p0A0 := kca u1p00; have u1p01 := hg_w2.e1 w1.heap.size 1 (J Y sa); have u1p0A1 := kca u1p01; have u1p02 := hg_w2.e1 w1.heap.size 2 (J Y xa); have u1p0A2 := kca u1p02; have u1p03 := hg_w2.e1 w1.heap.size 3 (J O ga); have u1p0A3 := kca u1p03; have hz1 := cell_size u1r0))
  | (go_at_call 118; first | (with_reducible refine (HQa.out _).mono ?_; rintro e va ⟨rfl, hg_va⟩; obtain ⟨qar0, qarz0, qar1, qarz1⟩ := hg_va.y2 w.heap.size 0 1 (J O 0) (J Y 0); obtain ⟨qap00, qap01, qap02, qap03⟩ := hg_va.e4 w1.heap.size 0 1 2 3 (J Y ca) (J Y sa) (J Y xa) (J O ga); obtain ⟨qap10, qap11, qap12, qap13⟩ := hg_va.e4 w2.heap.size 0 1 2 3 (J Y 2) (J Y sb) (J Y xb) (J O gb)) | (with_reducible refine (HQb.out _).mono ?_; rintro e vb ⟨rfl, hg_vb⟩; obtain ⟨qbr0, qbrz0, qbr1, qbrz1⟩ := hg_vb.y2 w.heap.size 0 1 (J O 0) (J Y 0); obtain ⟨qbp00, qbp01, qbp02, qbp03⟩ := hg_vb.e4 w1.heap.size 0 1 2 3 (J Y ca) (J Y sa) (J Y xa) (J O ga); obtain ⟨qbp10, qbp11, qbp12, qbp13⟩ := hg_vb.e4 w2.heap.size 0 1 2 3 (J Y 2) (J Y sb) (J Y xb) (J O gb)))
  | (go_at_call 167; refine (HL.out _).mono ?_; rintro e w9 ⟨rfl, hg_w9⟩; obtain ⟨zr0, zrz0, zr1, zrz1⟩ := hg_w9.y2 w.heap.size 0 1 (J O 0) (J Y 0)))
 refine bodyPost_ret (v := X #[J O z, J Y fl]) (by simp [results, Tryz.results79, go_sem, zr0, zr1]) rfl ⟨rfl, ?_⟩
 exact Gb.g
theorem sAdd_sum (f mode a b ca sa xa ga cb sb xb gb : Int) (Ga Gb' : Nat) (HF : KW 117 #[J Y f, J Y mode, J O a, J O b] (U true)) (HUa : KR 31 #[J Y f, J O a] (X #[J Y ca, J Y sa, J Y xa, J O ga])) (HUb : KR 31 #[J Y f, J O b] (X #[J Y cb, J Y sb, J Y xb, J O gb])) (HQa : KR 118 #[X #[J Y ca, J Y sa, J Y xa, J O ga]] (U false)) (HQb : KR 118 #[X #[J Y cb, J Y sb, J Y xb, J O gb]] (U false)) (e1 : (ca == 2) = false) (e2 : (cb == 2) = false) (HNa : Hid (∀ w, CT 121 #[X #[J Y ca, J Y sa, J Y xa, J O ga]] w fun e w' => ∃ ba ka qa, BigN 2 w' (E (some ⟨ba, 0, none⟩) ka qa) Ga ∧ e = V (X #[J Y sa, E (some ⟨ba, 0, none⟩) ka qa, J Y xa, U false]) ∧ Gb w w')) (HNb : Hid (∀ w, CT 121 #[X #[J Y cb, J Y sb, J Y xb, J O gb]] w fun e w' => ∃ bb kB qb, BigN 2 w' (E (some ⟨bb, 0, none⟩) kB qb) Gb' ∧ e = V (X #[J Y sb, E (some ⟨bb, 0, none⟩) kB qb, J Y xb, U false]) ∧ Gb w w')) (Q : Int → Int → Prop) (HS : Hid (∀ ba ka qa bb kB qb w, BigN 4 w (E (some ⟨ba, 0, none⟩) ka qa) Ga → BigN 4 w (E (some ⟨bb, 0, none⟩) kB qb) Gb' → CT 168 #[J Y f, J Y mode, X #[J Y sa, E (some ⟨ba, 0, none⟩) ka qa, J Y xa, U false], X #[J Y sb, E (some ⟨bb, 0, none⟩) kB qb, J Y xb, U false]] w fun e w' => ∃ z fl, Q z fl ∧ e = V (X #[J O z, J Y fl]) ∧ Gb w w')) (w : World) :
  CT 79 #[J Y f, J Y mode, J O a, J O b] w fun e w' => ∃ z fl, Q z fl ∧ e = V (X #[J O z, J Y fl]) ∧ Gb w w' := by
 go_enter Tryz.func79, Tryz.ntmps79
 go_wp2_with (first
  | (go_at_call 117; refine kw (HF.out _) ?_)
  | (go_at_call 31; first | (with_reducible refine (HUa.out _).mono ?_; rintro e w1 ⟨rfl, hg_w1⟩; obtain ⟨u0r0, u0rz0, u0r1, u0rz1⟩ := hg_w1.y2 w.heap.size 0 1 (J O 0) (J Y 0); have hz0 := cell_size u0r0) | (with_reducible refine (HUb.out _).mono ?_; rintro e w2 ⟨rfl, hg_w2⟩; obtain ⟨u1r0, u1rz0, u1r1, u1rz1⟩ := hg_w2.y2 w.heap.size 0 1 (J O 0) (J Y 0); have u1p00 := hg_w2.e1 w1.heap.size 0 (J Y ca); have u1p0A0 := kca u1p00; have u1p01 := hg_w2.e1 w1.heap.size 1 (J Y sa); have u1p0A1 := kca u1p01; have u1p02 := hg_w2.e1 w1.heap.size 2 (J Y xa); have u1p0A2 := kca u1p02; have u1p03 := hg_w2.e1 w1.heap.size 3 (J O ga); have u1p0A3 := kca u1p03; have hz1 := cell_size u1r0))
  | (go_at_call 118; first | (with_reducible refine (HQa.out _).mono ?_; rintro e va ⟨rfl, hg_va⟩; obtain ⟨qar0, qarz0, qar1, qarz1⟩ := hg_va.y2 w.heap.size 0 1 (J O 0) (J Y 0); obtain ⟨qap00, qap01, qap02, qap03⟩ := hg_va.e4 w1.heap.size 0 1 2 3 (J Y ca) (J Y sa) (J Y xa) (J O ga); obtain ⟨qap10, qap11, qap12, qap13⟩ := hg_va.e4 w2.heap.size 0 1 2 3 (J Y cb) (J Y sb) (J Y xb) (J O gb)) | (with_reducible refine (HQb.out _).mono ?_; rintro e vb ⟨rfl, hg_vb⟩; obtain ⟨qbr0, qbrz0, qbr1, qbrz1⟩ := hg_vb.y2 w.heap.size 0 1 (J O 0) (J Y 0); obtain ⟨qbp00, qbp01, qbp02, qbp03⟩ := hg_vb.e4 w1.heap.size 0 1 2 3 (J Y ca) (J Y sa) (J Y xa) (J O ga); obtain ⟨qbp10, qbp11, qbp12, qbp13⟩ := hg_vb.e4 w2.heap.size 0 1 2 3 (J Y cb) (J Y sb) (J Y xb) (J O gb))))
 go_region_held3 (fun w' => w'.cell? ⟨w1.heap.size, 0, none⟩ = some (J Y ca) ∧ w'.cell? ⟨w1.heap.size, 1, none⟩ = some (J Y sa) ∧ w'.cell? ⟨w1.heap.size, 2, none⟩ = some (J Y xa) ∧ w'.cell? ⟨w1.heap.size, 3, none⟩ = some (J O ga) ∧ w'.cell? ⟨w2.heap.size, 0, none⟩ = some (J Y cb) ∧ w'.cell? ⟨w2.heap.size, 1, none⟩ = some (J Y sb) ∧ w'.cell? ⟨w2.heap.size, 2, none⟩ = some (J Y xb) ∧ w'.cell? ⟨w2.heap.size, 3, none⟩ = some (J O gb))
  ((go_split_ands; (repeat' apply And.intro) <;> exact kh))
  (first
   | (go_at_call 121; first | (with_reducible refine (HNa.out _).mono ?_; rintro e na ⟨ba, ka, qa, hba, rfl, hg_na⟩; obtain ⟨nar0, narz0, nar1, narz1⟩ := hg_na.y2 w.heap.size 0 1 (J O 0) (J Y 0)) | (with_reducible refine (HNb.out _).mono ?_; rintro e nb ⟨bb, kB, qb, hbb, rfl, hg_nb⟩; obtain ⟨nbr0, nbrz0, nbr1, nbrz1⟩ := hg_nb.y2 w.heap.size 0 1 (J O 0) (J Y 0)))
   | (go_at_call 168; refine (HS.out _ _ _ _ _ _ _ (BigN.le (BigN.gb hba Gb.g) (by omega)) (BigN.le (BigN.gb hbb Gb.g) (by omega))).mono ?_; rintro e w9 ⟨z, fl, hq, rfl, hg_w9⟩; obtain ⟨zr0, zrz0, zr1, zrz1⟩ := hg_w9.y2 w.heap.size 0 1 (J O 0) (J Y 0)))
 all_goals (try go_split_ands)
 all_goals go_wp2
 all_goals
  refine bodyPost_ret (v := X #[J O z, J Y fl]) (by simp [results, Tryz.results79, go_sem, zr0, zr1]) rfl ⟨z, fl, hq, rfl, ?_⟩
  exact Gb.g
end Go.Proofs.YtnbbfeknbfohhaaGreatDoor
