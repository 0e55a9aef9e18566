/- spec.l3Total. -/
import Derived.Test.YtkackkggpehpkaaGreatDoorB4
set_option linter.unusedVariables false
set_option linter.unusedSimpArgs false
set_option maxHeartbeats 40000000
namespace Go.Proofs.YtkackkggpehpkaaGreatDoor
open Go.RowKit

/-- What l3Total gives: sign and magnitude in the finer units. -/
def TotIs (sx sy : Int) (a b : Nat) (sT : Int) (MT : Nat) : Prop := sx = sy ∧ sT = sx ∧ MT = a + b ∨ sx ≠ sy ∧ b ≤ a ∧ sT = sx ∧ MT = a - b ∨ sx ≠ sy ∧ a < b ∧ sT = sy ∧ MT = b - a

/-- What the walk of l3Total calls. -/
structure TC : Prop where
 shl : ∀ v (N : Nat) (z : Int) (s : Nat) w, BigN 4 w v N → z = (s : Int) → s ≤ 10000 → Calls Tryz.prog 78 #[v, .int .i64 z] w fun e w' => ∃ b k c, BigN 400 w' (.slice (some ⟨b, 0, none⟩) k c) (N * 2 ^ s) ∧ e = .returned (.slice (some ⟨b, 0, none⟩) k c) ∧ Gb w w'
 add : ∀ v v' (N N' : Nat) w, BigN 400 w v N → BigN 400 w v' N' → Calls Tryz.prog 126 #[v, v'] w fun e w' => ∃ b k c, BigN 1000 w' (.slice (some ⟨b, 0, none⟩) k c) (N + N') ∧ e = .returned (.slice (some ⟨b, 0, none⟩) k c) ∧ Gb w w'
 sub : ∀ v v' (N N' : Nat) w, BigN 400 w v N → BigN 400 w v' N' → N' ≤ N → Calls Tryz.prog 138 #[v, v'] w fun e w' => ∃ b k c, BigN 1000 w' (.slice (some ⟨b, 0, none⟩) k c) (N - N') ∧ e = .returned (.slice (some ⟨b, 0, none⟩) k c) ∧ Gb w w'
 cmp : ∀ v v' (N N' : Nat) w, BigN 400 w v N → BigN 400 w v' N' → Calls Tryz.prog 81 #[v, v'] w fun e w' => e = .returned (.int .i64 (cmpZ N N')) ∧ Gb w w'
theorem tc : TC where
 shl := fun v N z s w ⟨n, a1, a2⟩ hz hs => by subst hz; exact big_slice ((l2Shl_any a2 (by omega) s (by omega)).mono (fun e w' ⟨v, k, c1, c2, c3, c4⟩ => ⟨v, k, c1, c2, by omega, c4⟩))
 add := fun v v' N N' w ⟨n, a1, a2⟩ ⟨n', b1, b2⟩ => big_slice ((l2Add_any a2 (by omega) b2 (by omega)).mono (fun e w' ⟨v, k, c1, c2, c3, c4⟩ => ⟨v, k, c1, c2, by omega, c4⟩))
 sub := fun v v' N N' w ⟨n, a1, a2⟩ ⟨n', b1, b2⟩ h => big_slice ((l2Sub_any a2 (by omega) b2 (by omega) h).mono (fun e w' ⟨v, k, c1, c2, c3, c4⟩ => ⟨v, k, c1, c2, by omega, c4⟩))
 cmp := fun v v' N N' w ⟨n, a1, a2⟩ ⟨n', b1, b2⟩ => l2Cmp_any a2 (by omega) b2 (by omega)


set_option maxRecDepth 1000000 in
theorem l3Total_X_add (sx sy ex ey : Int) (bx kx cx gy ky cy : Nat) (Mx My A B : Nat) {w : World} (HX : Hid (BigN 4 w (.slice (some ⟨bx, 0, none⟩) kx cx) Mx)) (HY : Hid (BigN 4 w (.slice (some ⟨gy, 0, none⟩) ky cy) My)) (x0 : -4000 ≤ ex) (x1 : ex ≤ 4000) (y0 : -4000 ≤ ey) (y1 : ey ≤ 4000) (hle : ex ≤ ey) (d : Nat) (hd : ey - ex = (d : Int)) (hA : A = Mx) (hB : B = My * 2 ^ d) (hs : sx = sy) :
  Calls Tryz.prog 162 #[.agg #[.int .i64 sx, .slice (some ⟨bx, 0, none⟩) kx cx, .int .i64 ex, .bool false], .agg #[.int .i64 sy, .slice (some ⟨gy, 0, none⟩) ky cy, .int .i64 ey, .bool false]] w fun e w' => ∃ b k c, BigN 1000 w' (.slice (some ⟨b, 0, none⟩) k c) (A + B) ∧ e = .returned (.agg #[.int .i64 sx, .slice (some ⟨b, 0, none⟩) k c, .int .i64 ex, .bool false]) ∧ Gb w w' := by
 have HT : Hid TC := tc
 obtain ⟨dz, hdz⟩ : ∃ dz : Int, ey - ex = dz := ⟨_, rfl⟩
 have u1 : IntKind.i64.wrap (ey - ex) = dz := by rw [hdz, IntKind.wrap_i64]; omega
 have hdn : Hid (dz = (d : Int)) := by show _ = _; omega
 have hd9 : Hid (d ≤ 10000) := by show _ ≤ _; omega
 have hA' : Hid (A = Mx) := hA
 have hB' : Hid (B = My * 2 ^ d) := hB
 clear hd hdz hA hB
 subst hs
 go_enter Tryz.func162, Tryz.ntmps162
 go_wp2_with (first
  | (go_at_call 78; with_reducible refine (TC.shl HT.out _ _ _ 0 _ (BigN.gb HX.out Gb.g) (by omega) (by omega)).mono ?_; rintro e w1 ⟨bx1, kx1, cx1, hb0, rfl, hg_w1⟩; have hbx : BigN 400 w1 (.slice (some ⟨bx1, 0, none⟩) kx1 cx1) A := (by rw [hA'.out]; simpa using hb0); clear hb0; obtain ⟨ax0, ax1, ax2, ax3⟩ := hg_w1.e4 w.heap.size 0 1 2 3 (.int .i64 sx) (.slice (some ⟨bx, 0, none⟩) kx cx) (.int .i64 ex) (.bool false); obtain ⟨ay0, ay1, ay2, ay3⟩ := hg_w1.e4 (w.heap.size + 1) 0 1 2 3 (.int .i64 sx) (.slice (some ⟨gy, 0, none⟩) ky cy) (.int .i64 ey) (.bool false); obtain ⟨ar0, arz0, ar1, arz1, ar2, arz2, ar3, arz3⟩ := hg_w1.y4 (w.heap.size + 1 + 1) 0 1 2 3 (.int .i64 0) (.slice none 0 0) (.int .i64 0) (.bool false))
  | (go_at_call 78; with_reducible refine (TC.shl HT.out _ _ _ d _ (BigN.gb HY.out Gb.g) (by exact hdn.out) hd9.out).mono ?_; rintro e w2 ⟨by1, ky1, cy1, hb0, rfl, hg_w2⟩; have hby : BigN 400 w2 (.slice (some ⟨by1, 0, none⟩) ky1 cy1) B := (by rw [hB'.out]; exact hb0); clear hb0; obtain ⟨bx0, bx1, bx2, bx3⟩ := hg_w2.e4 w.heap.size 0 1 2 3 (.int .i64 sx) (.slice (some ⟨bx, 0, none⟩) kx cx) (.int .i64 ex) (.bool false); obtain ⟨by0, by1, by2, by3⟩ := hg_w2.e4 (w.heap.size + 1) 0 1 2 3 (.int .i64 sx) (.slice (some ⟨gy, 0, none⟩) ky cy) (.int .i64 ey) (.bool false); obtain ⟨br0, brz0, br1, brz1, br2, brz2, br3, brz3⟩ := hg_w2.y4 (w.heap.size + 1 + 1) 0 1 2 3 (.int .i64 0) (.slice none 0 0) (.int .i64 0) (.bool false)))
 go_region_held3 (fun w' => w'.cell? ⟨w.heap.size, 0, none⟩ = some (.int .i64 sx) ∧ w'.cell? ⟨w.heap.size + 1, 0, none⟩ = some (.int .i64 sx))
  ((go_split_ands; (repeat' apply And.intro) <;> exact kh))
  (first | (go_at_call 126; refine (TC.add HT.out _ _ A B _ (BigN.gb hbx Gb.g) (BigN.gb hby Gb.g)).mono ?_; rintro e w4 ⟨b4, k4, c4, hb4, rfl, hg_w4⟩; obtain ⟨dr0, drz0, dr1, drz1, dr2, drz2, dr3, drz3⟩ := hg_w4.y4 (w.heap.size + 1 + 1) 0 1 2 3 (.int .i64 0) (.slice none 0 0) (.int .i64 0) (.bool false)))
 all_goals (try go_split_ands)
 all_goals go_wp2
 all_goals
  refine bodyPost_ret (v := .agg #[.int .i64 sx, .slice (some ⟨b4, 0, none⟩) k4 c4, .int .i64 ex, .bool false]) (by simp [results, Tryz.results162, go_sem, dr0, dr1, dr2, dr3]) rfl ⟨b4, k4, c4, ?_, rfl, ?_⟩
  ·exact hb4.st4 dr0 dr1 dr2 dr3
  ·exact Gb.g

set_option maxRecDepth 1000000 in
theorem l3Total_X_ge (sx sy ex ey : Int) (bx kx cx gy ky cy : Nat) (Mx My A B : Nat) {w : World} (HX : Hid (BigN 4 w (.slice (some ⟨bx, 0, none⟩) kx cx) Mx)) (HY : Hid (BigN 4 w (.slice (some ⟨gy, 0, none⟩) ky cy) My)) (x0 : -4000 ≤ ex) (x1 : ex ≤ 4000) (y0 : -4000 ≤ ey) (y1 : ey ≤ 4000) (hle : ex ≤ ey) (d : Nat) (hd : ey - ex = (d : Int)) (hA : A = Mx) (hB : B = My * 2 ^ d) (hs : sx ≠ sy) (hab : B ≤ A) :
  Calls Tryz.prog 162 #[.agg #[.int .i64 sx, .slice (some ⟨bx, 0, none⟩) kx cx, .int .i64 ex, .bool false], .agg #[.int .i64 sy, .slice (some ⟨gy, 0, none⟩) ky cy, .int .i64 ey, .bool false]] w fun e w' => ∃ b k c, BigN 1000 w' (.slice (some ⟨b, 0, none⟩) k c) (A - B) ∧ e = .returned (.agg #[.int .i64 sx, .slice (some ⟨b, 0, none⟩) k c, .int .i64 ex, .bool false]) ∧ Gb w w' := by
 have HT : Hid TC := tc
 obtain ⟨dz, hdz⟩ : ∃ dz : Int, ey - ex = dz := ⟨_, rfl⟩
 have u1 : IntKind.i64.wrap (ey - ex) = dz := by rw [hdz, IntKind.wrap_i64]; omega
 have hdn : Hid (dz = (d : Int)) := by show _ = _; omega
 have hd9 : Hid (d ≤ 10000) := by show _ ≤ _; omega
 have hA' : Hid (A = Mx) := hA
 have hB' : Hid (B = My * 2 ^ d) := hB
 clear hd hdz hA hB
 have c1 : (sx == sy) = false := by simp [hs]
 have c2 : Hid (B ≤ A) := hab
 clear hab hs
 go_enter Tryz.func162, Tryz.ntmps162
 have c3 : 0 ≤ cmpZ A B := by have := c2.out; unfold cmpZ; split <;> (try split) <;> omega
 generalize hq : cmpZ A B = q at *
 have hq' : Hid (cmpZ A B = q) := hq
 clear hq
 go_wp2_with (first
  | (go_at_call 78; with_reducible refine (TC.shl HT.out _ _ _ 0 _ (BigN.gb HX.out Gb.g) (by omega) (by omega)).mono ?_; rintro e w1 ⟨bx1, kx1, cx1, hb0, rfl, hg_w1⟩; have hbx : BigN 400 w1 (.slice (some ⟨bx1, 0, none⟩) kx1 cx1) A := (by rw [hA'.out]; simpa using hb0); clear hb0; obtain ⟨ax0, ax1, ax2, ax3⟩ := hg_w1.e4 w.heap.size 0 1 2 3 (.int .i64 sx) (.slice (some ⟨bx, 0, none⟩) kx cx) (.int .i64 ex) (.bool false); obtain ⟨ay0, ay1, ay2, ay3⟩ := hg_w1.e4 (w.heap.size + 1) 0 1 2 3 (.int .i64 sy) (.slice (some ⟨gy, 0, none⟩) ky cy) (.int .i64 ey) (.bool false); obtain ⟨ar0, arz0, ar1, arz1, ar2, arz2, ar3, arz3⟩ := hg_w1.y4 (w.heap.size + 1 + 1) 0 1 2 3 (.int .i64 0) (.slice none 0 0) (.int .i64 0) (.bool false))
  | (go_at_call 78; with_reducible refine (TC.shl HT.out _ _ _ d _ (BigN.gb HY.out Gb.g) (by exact hdn.out) hd9.out).mono ?_; rintro e w2 ⟨by1, ky1, cy1, hb0, rfl, hg_w2⟩; have hby : BigN 400 w2 (.slice (some ⟨by1, 0, none⟩) ky1 cy1) B := (by rw [hB'.out]; exact hb0); clear hb0; obtain ⟨bx0, bx1, bx2, bx3⟩ := hg_w2.e4 w.heap.size 0 1 2 3 (.int .i64 sx) (.slice (some ⟨bx, 0, none⟩) kx cx) (.int .i64 ex) (.bool false); obtain ⟨by0, by1, by2, by3⟩ := hg_w2.e4 (w.heap.size + 1) 0 1 2 3 (.int .i64 sy) (.slice (some ⟨gy, 0, none⟩) ky cy) (.int .i64 ey) (.bool false); obtain ⟨br0, brz0, br1, brz1, br2, brz2, br3, brz3⟩ := hg_w2.y4 (w.heap.size + 1 + 1) 0 1 2 3 (.int .i64 0) (.slice none 0 0) (.int .i64 0) (.bool false))
  | (go_at_call 81; refine (TC.cmp HT.out _ _ A B _ (BigN.gb hbx Gb.g) (BigN.gb hby Gb.g)).mono ?_; rintro e w3 ⟨he, hg_w3⟩; rw [hq'.out] at he; subst he; obtain ⟨cx0, cx1, cx2, cx3⟩ := hg_w3.e4 w.heap.size 0 1 2 3 (.int .i64 sx) (.slice (some ⟨bx, 0, none⟩) kx cx) (.int .i64 ex) (.bool false); obtain ⟨cy0, cy1, cy2, cy3⟩ := hg_w3.e4 (w.heap.size + 1) 0 1 2 3 (.int .i64 sy) (.slice (some ⟨gy, 0, none⟩) ky cy) (.int .i64 ey) (.bool false); obtain ⟨cr0, crz0, cr1, crz1, cr2, crz2, cr3, crz3⟩ := hg_w3.y4 (w.heap.size + 1 + 1) 0 1 2 3 (.int .i64 0) (.slice none 0 0) (.int .i64 0) (.bool false)))
 go_region_held3 (fun w' => w'.cell? ⟨w.heap.size, 0, none⟩ = some (.int .i64 sx) ∧ w'.cell? ⟨w.heap.size + 1, 0, none⟩ = some (.int .i64 sy))
  ((go_split_ands; (repeat' apply And.intro) <;> exact kh))
  (first | (go_at_call 138; refine (TC.sub HT.out _ _ A B _ (BigN.gb hbx Gb.g) (BigN.gb hby Gb.g) c2.out).mono ?_; rintro e w4 ⟨b4, k4, c4, hb4, rfl, hg_w4⟩; obtain ⟨dr0, drz0, dr1, drz1, dr2, drz2, dr3, drz3⟩ := hg_w4.y4 (w.heap.size + 1 + 1) 0 1 2 3 (.int .i64 0) (.slice none 0 0) (.int .i64 0) (.bool false)))
 all_goals (try go_split_ands)
 all_goals go_wp2
 all_goals
  refine bodyPost_ret (v := .agg #[.int .i64 sx, .slice (some ⟨b4, 0, none⟩) k4 c4, .int .i64 ex, .bool false]) (by simp [results, Tryz.results162, go_sem, dr0, dr1, dr2, dr3]) rfl ⟨b4, k4, c4, ?_, rfl, ?_⟩
  ·exact hb4.st4 dr0 dr1 dr2 dr3
  ·exact Gb.g

set_option maxRecDepth 1000000 in
theorem l3Total_X_lt (sx sy ex ey : Int) (bx kx cx gy ky cy : Nat) (Mx My A B : Nat) {w : World} (HX : Hid (BigN 4 w (.slice (some ⟨bx, 0, none⟩) kx cx) Mx)) (HY : Hid (BigN 4 w (.slice (some ⟨gy, 0, none⟩) ky cy) My)) (x0 : -4000 ≤ ex) (x1 : ex ≤ 4000) (y0 : -4000 ≤ ey) (y1 : ey ≤ 4000) (hle : ex ≤ ey) (d : Nat) (hd : ey - ex = (d : Int)) (hA : A = Mx) (hB : B = My * 2 ^ d) (hs : sx ≠ sy) (hab : A < B) :
  Calls Tryz.prog 162 #[.agg #[.int .i64 sx, .slice (some ⟨bx, 0, none⟩) kx cx, .int .i64 ex, .bool false], .agg #[.int .i64 sy, .slice (some ⟨gy, 0, none⟩) ky cy, .int .i64 ey, .bool false]] w fun e w' => ∃ b k c, BigN 1000 w' (.slice (some ⟨b, 0, none⟩) k c) (B - A) ∧ e = .returned (.agg #[.int .i64 sy, .slice (some ⟨b, 0, none⟩) k c, .int .i64 ex, .bool false]) ∧ Gb w w' := by
 have HT : Hid TC := tc
 obtain ⟨dz, hdz⟩ : ∃ dz : Int, ey - ex = dz := ⟨_, rfl⟩
 have u1 : IntKind.i64.wrap (ey - ex) = dz := by rw [hdz, IntKind.wrap_i64]; omega
 have hdn : Hid (dz = (d : Int)) := by show _ = _; omega
 have hd9 : Hid (d ≤ 10000) := by show _ ≤ _; omega
 have hA' : Hid (A = Mx) := hA
 have hB' : Hid (B = My * 2 ^ d) := hB
 clear hd hdz hA hB
 have c1 : (sx == sy) = false := by simp [hs]
 have c2 : Hid (A < B) := hab
 clear hab hs
 go_enter Tryz.func162, Tryz.ntmps162
 have c3 : cmpZ A B < 0 := by have := c2.out; unfold cmpZ; rw [if_pos (by omega)]; omega
 generalize hq : cmpZ A B = q at *
 have hq' : Hid (cmpZ A B = q) := hq
 clear hq
 go_wp2_with (first
  | (go_at_call 78; with_reducible refine (TC.shl HT.out _ _ _ 0 _ (BigN.gb HX.out Gb.g) (by omega) (by omega)).mono ?_; rintro e w1 ⟨bx1, kx1, cx1, hb0, rfl, hg_w1⟩; have hbx : BigN 400 w1 (.slice (some ⟨bx1, 0, none⟩) kx1 cx1) A := (by rw [hA'.out]; simpa using hb0); clear hb0; obtain ⟨ax0, ax1, ax2, ax3⟩ := hg_w1.e4 w.heap.size 0 1 2 3 (.int .i64 sx) (.slice (some ⟨bx, 0, none⟩) kx cx) (.int .i64 ex) (.bool false); obtain ⟨ay0, ay1, ay2, ay3⟩ := hg_w1.e4 (w.heap.size + 1) 0 1 2 3 (.int .i64 sy) (.slice (some ⟨gy, 0, none⟩) ky cy) (.int .i64 ey) (.bool false); obtain ⟨ar0, arz0, ar1, arz1, ar2, arz2, ar3, arz3⟩ := hg_w1.y4 (w.heap.size + 1 + 1) 0 1 2 3 (.int .i64 0) (.slice none 0 0) (.int .i64 0) (.bool false))
  | (go_at_call 78; with_reducible refine (TC.shl HT.out _ _ _ d _ (BigN.gb HY.out Gb.g) (by exact hdn.out) hd9.out).mono ?_; rintro e w2 ⟨by1, ky1, cy1, hb0, rfl, hg_w2⟩; have hby : BigN 400 w2 (.slice (some ⟨by1, 0, none⟩) ky1 cy1) B := (by rw [hB'.out]; exact hb0); clear hb0; obtain ⟨bx0, bx1, bx2, bx3⟩ := hg_w2.e4 w.heap.size 0 1 2 3 (.int .i64 sx) (.slice (some ⟨bx, 0, none⟩) kx cx) (.int .i64 ex) (.bool false); obtain ⟨by0, by1, by2, by3⟩ := hg_w2.e4 (w.heap.size + 1) 0 1 2 3 (.int .i64 sy) (.slice (some ⟨gy, 0, none⟩) ky cy) (.int .i64 ey) (.bool false); obtain ⟨br0, brz0, br1, brz1, br2, brz2, br3, brz3⟩ := hg_w2.y4 (w.heap.size + 1 + 1) 0 1 2 3 (.int .i64 0) (.slice none 0 0) (.int .i64 0) (.bool false))
  | (go_at_call 81; refine (TC.cmp HT.out _ _ A B _ (BigN.gb hbx Gb.g) (BigN.gb hby Gb.g)).mono ?_; rintro e w3 ⟨he, hg_w3⟩; rw [hq'.out] at he; subst he; obtain ⟨cx0, cx1, cx2, cx3⟩ := hg_w3.e4 w.heap.size 0 1 2 3 (.int .i64 sx) (.slice (some ⟨bx, 0, none⟩) kx cx) (.int .i64 ex) (.bool false); obtain ⟨cy0, cy1, cy2, cy3⟩ := hg_w3.e4 (w.heap.size + 1) 0 1 2 3 (.int .i64 sy) (.slice (some ⟨gy, 0, none⟩) ky cy) (.int .i64 ey) (.bool false); obtain ⟨cr0, crz0, cr1, crz1, cr2, crz2, cr3, crz3⟩ := hg_w3.y4 (w.heap.size + 1 + 1) 0 1 2 3 (.int .i64 0) (.slice none 0 0) (.int .i64 0) (.bool false)))
 go_region_held3 (fun w' => w'.cell? ⟨w.heap.size, 0, none⟩ = some (.int .i64 sx) ∧ w'.cell? ⟨w.heap.size + 1, 0, none⟩ = some (.int .i64 sy))
  ((go_split_ands; (repeat' apply And.intro) <;> exact kh))
  (first | (go_at_call 138; refine (TC.sub HT.out _ _ B A _ (BigN.gb hby Gb.g) (BigN.gb hbx Gb.g) (Nat.le_of_lt c2.out)).mono ?_; rintro e w4 ⟨b4, k4, c4, hb4, rfl, hg_w4⟩; obtain ⟨dr0, drz0, dr1, drz1, dr2, drz2, dr3, drz3⟩ := hg_w4.y4 (w.heap.size + 1 + 1) 0 1 2 3 (.int .i64 0) (.slice none 0 0) (.int .i64 0) (.bool false)))
 all_goals (try go_split_ands)
 all_goals go_wp2
 all_goals
  refine bodyPost_ret (v := .agg #[.int .i64 sy, .slice (some ⟨b4, 0, none⟩) k4 c4, .int .i64 ex, .bool false]) (by simp [results, Tryz.results162, go_sem, dr0, dr1, dr2, dr3]) rfl ⟨b4, k4, c4, ?_, rfl, ?_⟩
  ·exact hb4.st4 dr0 dr1 dr2 dr3
  ·exact Gb.g

set_option maxRecDepth 1000000 in
theorem l3Total_Y_add (sx sy ex ey : Int) (bx kx cx gy ky cy : Nat) (Mx My A B : Nat) {w : World} (HX : Hid (BigN 4 w (.slice (some ⟨bx, 0, none⟩) kx cx) Mx)) (HY : Hid (BigN 4 w (.slice (some ⟨gy, 0, none⟩) ky cy) My)) (x0 : -4000 ≤ ex) (x1 : ex ≤ 4000) (y0 : -4000 ≤ ey) (y1 : ey ≤ 4000) (hlt : ey < ex) (d : Nat) (hd : ex - ey = (d : Int)) (hA : A = Mx * 2 ^ d) (hB : B = My) (hs : sx = sy) :
  Calls Tryz.prog 162 #[.agg #[.int .i64 sx, .slice (some ⟨bx, 0, none⟩) kx cx, .int .i64 ex, .bool false], .agg #[.int .i64 sy, .slice (some ⟨gy, 0, none⟩) ky cy, .int .i64 ey, .bool false]] w fun e w' => ∃ b k c, BigN 1000 w' (.slice (some ⟨b, 0, none⟩) k c) (A + B) ∧ e = .returned (.agg #[.int .i64 sx, .slice (some ⟨b, 0, none⟩) k c, .int .i64 ey, .bool false]) ∧ Gb w w' := by
 have HT : Hid TC := tc
 obtain ⟨dz, hdz⟩ : ∃ dz : Int, ex - ey = dz := ⟨_, rfl⟩
 have u1 : IntKind.i64.wrap (ex - ey) = dz := by rw [hdz, IntKind.wrap_i64]; omega
 have hdn : Hid (dz = (d : Int)) := by show _ = _; omega
 have hd9 : Hid (d ≤ 10000) := by show _ ≤ _; omega
 have hA' : Hid (A = Mx * 2 ^ d) := hA
 have hB' : Hid (B = My) := hB
 clear hd hdz hA hB
 subst hs
 go_enter Tryz.func162, Tryz.ntmps162
 go_wp2_with (first
  | (go_at_call 78; with_reducible refine (TC.shl HT.out _ _ _ d _ (BigN.gb HX.out Gb.g) (by exact hdn.out) hd9.out).mono ?_; rintro e w1 ⟨bx1, kx1, cx1, hb0, rfl, hg_w1⟩; have hbx : BigN 400 w1 (.slice (some ⟨bx1, 0, none⟩) kx1 cx1) A := (by rw [hA'.out]; exact hb0); clear hb0; obtain ⟨ax0, ax1, ax2, ax3⟩ := hg_w1.e4 w.heap.size 0 1 2 3 (.int .i64 sx) (.slice (some ⟨bx, 0, none⟩) kx cx) (.int .i64 ex) (.bool false); obtain ⟨ay0, ay1, ay2, ay3⟩ := hg_w1.e4 (w.heap.size + 1) 0 1 2 3 (.int .i64 sx) (.slice (some ⟨gy, 0, none⟩) ky cy) (.int .i64 ey) (.bool false); obtain ⟨ar0, arz0, ar1, arz1, ar2, arz2, ar3, arz3⟩ := hg_w1.y4 (w.heap.size + 1 + 1) 0 1 2 3 (.int .i64 0) (.slice none 0 0) (.int .i64 0) (.bool false))
  | (go_at_call 78; with_reducible refine (TC.shl HT.out _ _ _ 0 _ (BigN.gb HY.out Gb.g) (by omega) (by omega)).mono ?_; rintro e w2 ⟨by1, ky1, cy1, hb0, rfl, hg_w2⟩; have hby : BigN 400 w2 (.slice (some ⟨by1, 0, none⟩) ky1 cy1) B := (by rw [hB'.out]; simpa using hb0); clear hb0; obtain ⟨bx0, bx1, bx2, bx3⟩ := hg_w2.e4 w.heap.size 0 1 2 3 (.int .i64 sx) (.slice (some ⟨bx, 0, none⟩) kx cx) (.int .i64 ex) (.bool false); obtain ⟨by0, by1, by2, by3⟩ := hg_w2.e4 (w.heap.size + 1) 0 1 2 3 (.int .i64 sx) (.slice (some ⟨gy, 0, none⟩) ky cy) (.int .i64 ey) (.bool false); obtain ⟨br0, brz0, br1, brz1, br2, brz2, br3, brz3⟩ := hg_w2.y4 (w.heap.size + 1 + 1) 0 1 2 3 (.int .i64 0) (.slice none 0 0) (.int .i64 0) (.bool false)))
 go_region_held3 (fun w' => w'.cell? ⟨w.heap.size, 0, none⟩ = some (.int .i64 sx) ∧ w'.cell? ⟨w.heap.size + 1, 0, none⟩ = some (.int .i64 sx))
  ((go_split_ands; (repeat' apply And.intro) <;> exact kh))
  (first | (go_at_call 126; refine (TC.add HT.out _ _ A B _ (BigN.gb hbx Gb.g) (BigN.gb hby Gb.g)).mono ?_; rintro e w4 ⟨b4, k4, c4, hb4, rfl, hg_w4⟩; obtain ⟨dr0, drz0, dr1, drz1, dr2, drz2, dr3, drz3⟩ := hg_w4.y4 (w.heap.size + 1 + 1) 0 1 2 3 (.int .i64 0) (.slice none 0 0) (.int .i64 0) (.bool false)))
 all_goals (try go_split_ands)
 all_goals go_wp2
 all_goals
  refine bodyPost_ret (v := .agg #[.int .i64 sx, .slice (some ⟨b4, 0, none⟩) k4 c4, .int .i64 ey, .bool false]) (by simp [results, Tryz.results162, go_sem, dr0, dr1, dr2, dr3]) rfl ⟨b4, k4, c4, ?_, rfl, ?_⟩
  ·exact hb4.st4 dr0 dr1 dr2 dr3
  ·exact Gb.g

set_option maxRecDepth 1000000 in
theorem l3Total_Y_ge (sx sy ex ey : Int) (bx kx cx gy ky cy : Nat) (Mx My A B : Nat) {w : World} (HX : Hid (BigN 4 w (.slice (some ⟨bx, 0, none⟩) kx cx) Mx)) (HY : Hid (BigN 4 w (.slice (some ⟨gy, 0, none⟩) ky cy) My)) (x0 : -4000 ≤ ex) (x1 : ex ≤ 4000) (y0 : -4000 ≤ ey) (y1 : ey ≤ 4000) (hlt : ey < ex) (d : Nat) (hd : ex - ey = (d : Int)) (hA : A = Mx * 2 ^ d) (hB : B = My) (hs : sx ≠ sy) (hab : B ≤ A) :
  Calls Tryz.prog 162 #[.agg #[.int .i64 sx, .slice (some ⟨bx, 0, none⟩) kx cx, .int .i64 ex, .bool false], .agg #[.int .i64 sy, .slice (some ⟨gy, 0, none⟩) ky cy, .int .i64 ey, .bool false]] w fun e w' => ∃ b k c, BigN 1000 w' (.slice (some ⟨b, 0, none⟩) k c) (A - B) ∧ e = .returned (.agg #[.int .i64 sx, .slice (some ⟨b, 0, none⟩) k c, .int .i64 ey, .bool false]) ∧ Gb w w' := by
 have HT : Hid TC := tc
 obtain ⟨dz, hdz⟩ : ∃ dz : Int, ex - ey = dz := ⟨_, rfl⟩
 have u1 : IntKind.i64.wrap (ex - ey) = dz := by rw [hdz, IntKind.wrap_i64]; omega
 have hdn : Hid (dz = (d : Int)) := by show _ = _; omega
 have hd9 : Hid (d ≤ 10000) := by show _ ≤ _; omega
 have hA' : Hid (A = Mx * 2 ^ d) := hA
 have hB' : Hid (B = My) := hB
 clear hd hdz hA hB
 have c1 : (sx == sy) = false := by simp [hs]
 have c2 : Hid (B ≤ A) := hab
 clear hab hs
 go_enter Tryz.func162, Tryz.ntmps162
 have c3 : 0 ≤ cmpZ A B := by have := c2.out; unfold cmpZ; split <;> (try split) <;> omega
 generalize hq : cmpZ A B = q at *
 have hq' : Hid (cmpZ A B = q) := hq
 clear hq
 go_wp2_with (first
  | (go_at_call 78; with_reducible refine (TC.shl HT.out _ _ _ d _ (BigN.gb HX.out Gb.g) (by exact hdn.out) hd9.out).mono ?_; rintro e w1 ⟨bx1, kx1, cx1, hb0, rfl, hg_w1⟩; have hbx : BigN 400 w1 (.slice (some ⟨bx1, 0, none⟩) kx1 cx1) A := (by rw [hA'.out]; exact hb0); clear hb0; obtain ⟨ax0, ax1, ax2, ax3⟩ := hg_w1.e4 w.heap.size 0 1 2 3 (.int .i64 sx) (.slice (some ⟨bx, 0, none⟩) kx cx) (.int .i64 ex) (.bool false); obtain ⟨ay0, ay1, ay2, ay3⟩ := hg_w1.e4 (w.heap.size + 1) 0 1 2 3 (.int .i64 sy) (.slice (some ⟨gy, 0, none⟩) ky cy) (.int .i64 ey) (.bool false); obtain ⟨ar0, arz0, ar1, arz1, ar2, arz2, ar3, arz3⟩ := hg_w1.y4 (w.heap.size + 1 + 1) 0 1 2 3 (.int .i64 0) (.slice none 0 0) (.int .i64 0) (.bool false))
  | (go_at_call 78; with_reducible refine (TC.shl HT.out _ _ _ 0 _ (BigN.gb HY.out Gb.g) (by omega) (by omega)).mono ?_; rintro e w2 ⟨by1, ky1, cy1, hb0, rfl, hg_w2⟩; have hby : BigN 400 w2 (.slice (some ⟨by1, 0, none⟩) ky1 cy1) B := (by rw [hB'.out]; simpa using hb0); clear hb0; obtain ⟨bx0, bx1, bx2, bx3⟩ := hg_w2.e4 w.heap.size 0 1 2 3 (.int .i64 sx) (.slice (some ⟨bx, 0, none⟩) kx cx) (.int .i64 ex) (.bool false); obtain ⟨by0, by1, by2, by3⟩ := hg_w2.e4 (w.heap.size + 1) 0 1 2 3 (.int .i64 sy) (.slice (some ⟨gy, 0, none⟩) ky cy) (.int .i64 ey) (.bool false); obtain ⟨br0, brz0, br1, brz1, br2, brz2, br3, brz3⟩ := hg_w2.y4 (w.heap.size + 1 + 1) 0 1 2 3 (.int .i64 0) (.slice none 0 0) (.int .i64 0) (.bool false))
  | (go_at_call 81; refine (TC.cmp HT.out _ _ A B _ (BigN.gb hbx Gb.g) (BigN.gb hby Gb.g)).mono ?_; rintro e w3 ⟨he, hg_w3⟩; rw [hq'.out] at he; subst he; obtain ⟨cx0, cx1, cx2, cx3⟩ := hg_w3.e4 w.heap.size 0 1 2 3 (.int .i64 sx) (.slice (some ⟨bx, 0, none⟩) kx cx) (.int .i64 ex) (.bool false); obtain ⟨cy0, cy1, cy2, cy3⟩ := hg_w3.e4 (w.heap.size + 1) 0 1 2 3 (.int .i64 sy) (.slice (some ⟨gy, 0, none⟩) ky cy) (.int .i64 ey) (.bool false); obtain ⟨cr0, crz0, cr1, crz1, cr2, crz2, cr3, crz3⟩ := hg_w3.y4 (w.heap.size + 1 + 1) 0 1 2 3 (.int .i64 0) (.slice none 0 0) (.int .i64 0) (.bool false)))
 go_region_held3 (fun w' => w'.cell? ⟨w.heap.size, 0, none⟩ = some (.int .i64 sx) ∧ w'.cell? ⟨w.heap.size + 1, 0, none⟩ = some (.int .i64 sy))
  ((go_split_ands; (repeat' apply And.intro) <;> exact kh))
  (first | (go_at_call 138; refine (TC.sub HT.out _ _ A B _ (BigN.gb hbx Gb.g) (BigN.gb hby Gb.g) c2.out).mono ?_; rintro e w4 ⟨b4, k4, c4, hb4, rfl, hg_w4⟩; obtain ⟨dr0, drz0, dr1, drz1, dr2, drz2, dr3, drz3⟩ := hg_w4.y4 (w.heap.size + 1 + 1) 0 1 2 3 (.int .i64 0) (.slice none 0 0) (.int .i64 0) (.bool false)))
 all_goals (try go_split_ands)
 all_goals go_wp2
 all_goals
  refine bodyPost_ret (v := .agg #[.int .i64 sx, .slice (some ⟨b4, 0, none⟩) k4 c4, .int .i64 ey, .bool false]) (by simp [results, Tryz.results162, go_sem, dr0, dr1, dr2, dr3]) rfl ⟨b4, k4, c4, ?_, rfl, ?_⟩
  ·exact hb4.st4 dr0 dr1 dr2 dr3
  ·exact Gb.g

set_option maxRecDepth 1000000 in
theorem l3Total_Y_lt (sx sy ex ey : Int) (bx kx cx gy ky cy : Nat) (Mx My A B : Nat) {w : World} (HX : Hid (BigN 4 w (.slice (some ⟨bx, 0, none⟩) kx cx) Mx)) (HY : Hid (BigN 4 w (.slice (some ⟨gy, 0, none⟩) ky cy) My)) (x0 : -4000 ≤ ex) (x1 : ex ≤ 4000) (y0 : -4000 ≤ ey) (y1 : ey ≤ 4000) (hlt : ey < ex) (d : Nat) (hd : ex - ey = (d : Int)) (hA : A = Mx * 2 ^ d) (hB : B = My) (hs : sx ≠ sy) (hab : A < B) :
  Calls Tryz.prog 162 #[.agg #[.int .i64 sx, .slice (some ⟨bx, 0, none⟩) kx cx, .int .i64 ex, .bool false], .agg #[.int .i64 sy, .slice (some ⟨gy, 0, none⟩) ky cy, .int .i64 ey, .bool false]] w fun e w' => ∃ b k c, BigN 1000 w' (.slice (some ⟨b, 0, none⟩) k c) (B - A) ∧ e = .returned (.agg #[.int .i64 sy, .slice (some ⟨b, 0, none⟩) k c, .int .i64 ey, .bool false]) ∧ Gb w w' := by
 have HT : Hid TC := tc
 obtain ⟨dz, hdz⟩ : ∃ dz : Int, ex - ey = dz := ⟨_, rfl⟩
 have u1 : IntKind.i64.wrap (ex - ey) = dz := by rw [hdz, IntKind.wrap_i64]; omega
 have hdn : Hid (dz = (d : Int)) := by show _ = _; omega
 have hd9 : Hid (d ≤ 10000) := by show _ ≤ _; omega
 have hA' : Hid (A = Mx * 2 ^ d) := hA
 have hB' : Hid (B = My) := hB
 clear hd hdz hA hB
 have c1 : (sx == sy) = false := by simp [hs]
 have c2 : Hid (A < B) := hab
 clear hab hs
 go_enter Tryz.func162, Tryz.ntmps162
 have c3 : cmpZ A B < 0 := by have := c2.out; unfold cmpZ; rw [if_pos (by omega)]; omega
 generalize hq : cmpZ A B = q at *
 have hq' : Hid (cmpZ A B = q) := hq
 clear hq
 go_wp2_with (first
  | (go_at_call 78; with_reducible refine (TC.shl HT.out _ _ _ d _ (BigN.gb HX.out Gb.g) (by exact hdn.out) hd9.out).mono ?_; rintro e w1 ⟨bx1, kx1, cx1, hb0, rfl, hg_w1⟩; have hbx : BigN 400 w1 (.slice (some ⟨bx1, 0, none⟩) kx1 cx1) A := (by rw [hA'.out]; exact hb0); clear hb0; obtain ⟨ax0, ax1, ax2, ax3⟩ := hg_w1.e4 w.heap.size 0 1 2 3 (.int .i64 sx) (.slice (some ⟨bx, 0, none⟩) kx cx) (.int .i64 ex) (.bool false); obtain ⟨ay0, ay1, ay2, ay3⟩ := hg_w1.e4 (w.heap.size + 1) 0 1 2 3 (.int .i64 sy) (.slice (some ⟨gy, 0, none⟩) ky cy) (.int .i64 ey) (.bool false); obtain ⟨ar0, arz0, ar1, arz1, ar2, arz2, ar3, arz3⟩ := hg_w1.y4 (w.heap.size + 1 + 1) 0 1 2 3 (.int .i64 0) (.slice none 0 0) (.int .i64 0) (.bool false))
  | (go_at_call 78; with_reducible refine (TC.shl HT.out _ _ _ 0 _ (BigN.gb HY.out Gb.g) (by omega) (by omega)).mono ?_; rintro e w2 ⟨by1, ky1, cy1, hb0, rfl, hg_w2⟩; have hby : BigN 400 w2 (.slice (some ⟨by1, 0, none⟩) ky1 cy1) B := (by rw [hB'.out]; simpa using hb0); clear hb0; obtain ⟨bx0, bx1, bx2, bx3⟩ := hg_w2.e4 w.heap.size 0 1 2 3 (.int .i64 sx) (.slice (some ⟨bx, 0, none⟩) kx cx) (.int .i64 ex) (.bool false); obtain ⟨by0, by1, by2, by3⟩ := hg_w2.e4 (w.heap.size + 1) 0 1 2 3 (.int .i64 sy) (.slice (some ⟨gy, 0, none⟩) ky cy) (.int .i64 ey) (.bool false); obtain ⟨br0, brz0, br1, brz1, br2, brz2, br3, brz3⟩ := hg_w2.y4 (w.heap.size + 1 + 1) 0 1 2 3 (.int .i64 0) (.slice none 0 0) (.int .i64 0) (.bool false))
  | (go_at_call 81; refine (TC.cmp HT.out _ _ A B _ (BigN.gb hbx Gb.g) (BigN.gb hby Gb.g)).mono ?_; rintro e w3 ⟨he, hg_w3⟩; rw [hq'.out] at he; subst he; obtain ⟨cx0, cx1, cx2, cx3⟩ := hg_w3.e4 w.heap.size 0 1 2 3 (.int .i64 sx) (.slice (some ⟨bx, 0, none⟩) kx cx) (.int .i64 ex) (.bool false); obtain ⟨cy0, cy1, cy2, cy3⟩ := hg_w3.e4 (w.heap.size + 1) 0 1 2 3 (.int .i64 sy) (.slice (some ⟨gy, 0, none⟩) ky cy) (.int .i64 ey) (.bool false); obtain ⟨cr0, crz0, cr1, crz1, cr2, crz2, cr3, crz3⟩ := hg_w3.y4 (w.heap.size + 1 + 1) 0 1 2 3 (.int .i64 0) (.slice none 0 0) (.int .i64 0) (.bool false)))
 go_region_held3 (fun w' => w'.cell? ⟨w.heap.size, 0, none⟩ = some (.int .i64 sx) ∧ w'.cell? ⟨w.heap.size + 1, 0, none⟩ = some (.int .i64 sy))
  ((go_split_ands; (repeat' apply And.intro) <;> exact kh))
  (first | (go_at_call 138; refine (TC.sub HT.out _ _ B A _ (BigN.gb hby Gb.g) (BigN.gb hbx Gb.g) (Nat.le_of_lt c2.out)).mono ?_; rintro e w4 ⟨b4, k4, c4, hb4, rfl, hg_w4⟩; obtain ⟨dr0, drz0, dr1, drz1, dr2, drz2, dr3, drz3⟩ := hg_w4.y4 (w.heap.size + 1 + 1) 0 1 2 3 (.int .i64 0) (.slice none 0 0) (.int .i64 0) (.bool false)))
 all_goals (try go_split_ands)
 all_goals go_wp2
 all_goals
  refine bodyPost_ret (v := .agg #[.int .i64 sy, .slice (some ⟨b4, 0, none⟩) k4 c4, .int .i64 ey, .bool false]) (by simp [results, Tryz.results162, go_sem, dr0, dr1, dr2, dr3]) rfl ⟨b4, k4, c4, ?_, rfl, ?_⟩
  ·exact hb4.st4 dr0 dr1 dr2 dr3
  ·exact Gb.g

theorem l3Total_any (sx sy ex ey : Int) (bx kx cx gy ky cy : Nat) (Mx My : Nat) {w : World} (HX : BigN 4 w (.slice (some ⟨bx, 0, none⟩) kx cx) Mx) (HY : BigN 4 w (.slice (some ⟨gy, 0, none⟩) ky cy) My) (x0 : -4000 ≤ ex) (x1 : ex ≤ 4000) (y0 : -4000 ≤ ey) (y1 : ey ≤ 4000) (sT : Int) (MT : Nat) (hT : TotIs sx sy (Mx * 2 ^ (ex - min ex ey).toNat) (My * 2 ^ (ey - min ex ey).toNat) sT MT) :
  Calls Tryz.prog 162 #[.agg #[.int .i64 sx, .slice (some ⟨bx, 0, none⟩) kx cx, .int .i64 ex, .bool false], .agg #[.int .i64 sy, .slice (some ⟨gy, 0, none⟩) ky cy, .int .i64 ey, .bool false]] w fun e w' => ∃ b k c, BigN 1000 w' (.slice (some ⟨b, 0, none⟩) k c) MT ∧ e = .returned (.agg #[.int .i64 sT, .slice (some ⟨b, 0, none⟩) k c, .int .i64 (min ex ey), .bool false]) ∧ Gb w w' := by
 by_cases h : ex ≤ ey
 ·rw [show min ex ey = ex by omega] at hT ⊢
  rw [show (ex - ex).toNat = 0 by omega, Nat.pow_zero, Nat.mul_one] at hT
  rcases hT with ⟨hs, rfl, rfl⟩ | ⟨hs, hab, rfl, rfl⟩ | ⟨hs, hab, rfl, rfl⟩
  ·exact l3Total_X_add _ sy ex ey bx kx cx gy ky cy Mx My _ _ HX HY x0 x1 y0 y1 h (ey - ex).toNat (by omega) rfl rfl hs
  ·exact l3Total_X_ge _ sy ex ey bx kx cx gy ky cy Mx My _ _ HX HY x0 x1 y0 y1 h (ey - ex).toNat (by omega) rfl rfl hs hab
  ·exact l3Total_X_lt sx _ ex ey bx kx cx gy ky cy Mx My _ _ HX HY x0 x1 y0 y1 h (ey - ex).toNat (by omega) rfl rfl hs hab
 ·rw [show min ex ey = ey by omega] at hT ⊢
  rw [show (ey - ey).toNat = 0 by omega, Nat.pow_zero, Nat.mul_one] at hT
  rcases hT with ⟨hs, rfl, rfl⟩ | ⟨hs, hab, rfl, rfl⟩ | ⟨hs, hab, rfl, rfl⟩
  ·exact l3Total_Y_add _ sy ex ey bx kx cx gy ky cy Mx My _ _ HX HY x0 x1 y0 y1 (by omega) (ex - ey).toNat (by omega) rfl rfl hs
  ·exact l3Total_Y_ge _ sy ex ey bx kx cx gy ky cy Mx My _ _ HX HY x0 x1 y0 y1 (by omega) (ex - ey).toNat (by omega) rfl rfl hs hab
  ·exact l3Total_Y_lt sx _ ex ey bx kx cx gy ky cy Mx My _ _ HX HY x0 x1 y0 y1 (by omega) (ex - ey).toNat (by omega) rfl rfl hs hab
end Go.Proofs.YtkackkggpehpkaaGreatDoor

/- spec.l3Sum. -/
set_option linter.unusedVariables false
set_option linter.unusedSimpArgs false
set_option maxHeartbeats 40000000
namespace Go.Proofs.YtkackkggpehpkaaGreatDoor
open Go.RowKit

theorem big_posk {w : World} {b k c n N : Nat} (h : Big w (.slice (some ⟨b, 0, none⟩) k c) n N) (hN : 0 < N) : 0 < ((k : Nat) : Int) := by
 obtain ⟨hnm, _, b', cap, e, _⟩ := h
 injection e with e1 e2 e3
 have := hnm.iff
 omega
theorem big_nok {w : World} {b k c n N : Nat} (h : Big w (.slice (some ⟨b, 0, none⟩) k c) n N) (hN : N = 0) : k = 0 := by
 obtain ⟨hnm, _, b', cap, e, _⟩ := h
 injection e with e1 e2 e3
 have := hnm.iff
 omega
theorem bigN_zk {K : Nat} {w : World} {b k c N : Nat} (h : BigN K w (.slice (some ⟨b, 0, none⟩) k c) N) : (((k : Nat) : Int) == 0) = decide (N = 0) := by
 obtain ⟨n, _, h⟩ := h
 rcases Nat.eq_zero_or_pos N with c | c
 ·rw [big_nok h c]; simp [c]
 ·have := big_posk h c
  rw [decide_eq_false (by omega)]; simp; omega


set_option maxRecDepth 1000000 in
theorem l3Sum_nnR (f mode sx sy ex ey sT eT : Int) (bx kx cx gy ky cy MT : Nat) {w : World} (hkx : (((kx : Nat) : Int) == 0) = false) (hky : (((ky : Nat) : Int) == 0) = false) (HT : Hid (∀ w', Gb w w' → Calls Tryz.prog 162 #[.agg #[.int .i64 sx, .slice (some ⟨bx, 0, none⟩) kx cx, .int .i64 ex, .bool false], .agg #[.int .i64 sy, .slice (some ⟨gy, 0, none⟩) ky cy, .int .i64 ey, .bool false]] w' fun e w'' => ∃ b k c, BigN 1000 w'' (.slice (some ⟨b, 0, none⟩) k c) MT ∧ e = .returned (.agg #[.int .i64 sT, .slice (some ⟨b, 0, none⟩) k c, .int .i64 eT, .bool false]) ∧ Gb w' w'')) (hM : 0 < MT) (Q : Int → Int → Prop) (HR : Hid (∀ v w, BigN 1000 w v MT → Calls Tryz.prog 64 #[.int .i64 f, .int .i64 mode, .agg #[.int .i64 sT, v, .int .i64 eT, .bool false]] w fun x w' => ∃ z fl, Q z fl ∧ x = .returned (.agg #[.int .u64 z, .int .i64 fl]) ∧ Gb w w')) :
  Calls Tryz.prog 129 #[.int .i64 f, .int .i64 mode, .agg #[.int .i64 sx, .slice (some ⟨bx, 0, none⟩) kx cx, .int .i64 ex, .bool false], .agg #[.int .i64 sy, .slice (some ⟨gy, 0, none⟩) ky cy, .int .i64 ey, .bool false]] w fun e w' => ∃ z fl, Q z fl ∧ e = .returned (.agg #[.int .u64 z, .int .i64 fl]) ∧ Gb w w' := by
 have HM : Hid (0 < MT) := hM
 clear hM
 go_enter Tryz.func129, Tryz.ntmps129
 go_wp2_with (first
  | (go_at_call 162; refine (HT.out _ Gb.g).mono ?_; rintro e w1 ⟨b1, k1, c1, hb1, rfl, hg_w1⟩; obtain ⟨n1, hn1, hbb⟩ := hb1; have hk1 : (0 < ((k1 : Nat) : Int)) := (big_posk hbb HM.out); have hb1' : BigN 1000 w1 (.slice (some ⟨b1, 0, none⟩) k1 c1) MT := ⟨n1, hn1, hbb⟩; obtain ⟨ax0, ax1, ax2, ax3⟩ := hg_w1.e4 w.heap.size 0 1 2 3 (.int .i64 sx) (.slice (some ⟨bx, 0, none⟩) kx cx) (.int .i64 ex) (.bool false); obtain ⟨ay0, ay1, ay2, ay3⟩ := hg_w1.e4 (w.heap.size + 1) 0 1 2 3 (.int .i64 sy) (.slice (some ⟨gy, 0, none⟩) ky cy) (.int .i64 ey) (.bool false); obtain ⟨ar0, arz0⟩ := hg_w1.y1 (w.heap.size + 1 + 1) 0 (.int .u64 0); have arA0 := kca ar0; have arB0 := kfa arz0; obtain ⟨ar1, arz1⟩ := hg_w1.y1 (w.heap.size + 1 + 1) 1 (.int .i64 0); have arA1 := kca ar1; have arB1 := kfa arz1; have aX := kca ax0; have aY := kca ay0; have hA := (fun ob => BigN.gb hb1' ((Gb.refl w1).alloc ob)))
  | (go_at_call 64; refine (HR.out _ _ (BigN.gb hb1' Gb.g)).mono ?_; rintro e w2 ⟨z, fl, hq, rfl, hg_w2⟩; obtain ⟨br0, brz0, br1, brz1⟩ := hg_w2.y2 (w.heap.size + 1 + 1) 0 1 (.int .u64 0) (.int .i64 0)))
 refine bodyPost_ret (v := .agg #[.int .u64 z, .int .i64 fl]) (by simp [results, Tryz.results129, go_sem, br0, br1]) rfl ⟨z, fl, hq, rfl, ?_⟩
 exact Gb.g

set_option maxRecDepth 1000000 in
theorem l3Sum_nnD (f mode sx sy ex ey sT eT : Int) (bx kx cx gy ky cy MT : Nat) {w : World} (hkx : (((kx : Nat) : Int) == 0) = false) (hky : (((ky : Nat) : Int) == 0) = false) (HT : Hid (∀ w', Gb w w' → Calls Tryz.prog 162 #[.agg #[.int .i64 sx, .slice (some ⟨bx, 0, none⟩) kx cx, .int .i64 ex, .bool false], .agg #[.int .i64 sy, .slice (some ⟨gy, 0, none⟩) ky cy, .int .i64 ey, .bool false]] w' fun e w'' => ∃ b k c, BigN 1000 w'' (.slice (some ⟨b, 0, none⟩) k c) MT ∧ e = .returned (.agg #[.int .i64 sT, .slice (some ⟨b, 0, none⟩) k c, .int .i64 eT, .bool false]) ∧ Gb w' w'')) (hM : MT = 0) (hs : (sx == sy) = false) (hmd : (mode == 4) = true) (z : Int) (HZ : KR 63 #[.int .i64 f, .int .i64 1] (.agg #[.int .u64 z, .int .i64 0])) :
  Calls Tryz.prog 129 #[.int .i64 f, .int .i64 mode, .agg #[.int .i64 sx, .slice (some ⟨bx, 0, none⟩) kx cx, .int .i64 ex, .bool false], .agg #[.int .i64 sy, .slice (some ⟨gy, 0, none⟩) ky cy, .int .i64 ey, .bool false]] w fun e w' => e = .returned (.agg #[.int .u64 z, .int .i64 0]) ∧ Gb w w' := by
 have HM : Hid (MT = 0) := hM
 clear hM
 go_enter Tryz.func129, Tryz.ntmps129
 go_wp2_with (first
  | (go_at_call 162; refine (HT.out _ Gb.g).mono ?_; rintro e w1 ⟨b1, k1, c1, hb1, rfl, hg_w1⟩; obtain ⟨n1, hn1, hbb⟩ := hb1; obtain rfl : k1 = 0 := (big_nok hbb HM.out); obtain ⟨ax0, ax1, ax2, ax3⟩ := hg_w1.e4 w.heap.size 0 1 2 3 (.int .i64 sx) (.slice (some ⟨bx, 0, none⟩) kx cx) (.int .i64 ex) (.bool false); obtain ⟨ay0, ay1, ay2, ay3⟩ := hg_w1.e4 (w.heap.size + 1) 0 1 2 3 (.int .i64 sy) (.slice (some ⟨gy, 0, none⟩) ky cy) (.int .i64 ey) (.bool false); obtain ⟨ar0, arz0⟩ := hg_w1.y1 (w.heap.size + 1 + 1) 0 (.int .u64 0); have arA0 := kca ar0; have arB0 := kfa arz0; obtain ⟨ar1, arz1⟩ := hg_w1.y1 (w.heap.size + 1 + 1) 1 (.int .i64 0); have arA1 := kca ar1; have arB1 := kfa arz1; have aX := kca ax0; have aY := kca ay0)
  | (go_at_call 63; refine (HZ.out _).mono ?_; rintro e w2 ⟨rfl, hg_w2⟩; obtain ⟨br0, brz0, br1, brz1⟩ := hg_w2.y2 (w.heap.size + 1 + 1) 0 1 (.int .u64 0) (.int .i64 0)))
 refine bodyPost_ret (v := .agg #[.int .u64 z, .int .i64 0]) (by simp [results, Tryz.results129, go_sem, br0, br1]) rfl ⟨rfl, ?_⟩
 exact Gb.g

set_option maxRecDepth 1000000 in
theorem l3Sum_nnO (f mode sx sy ex ey sT eT : Int) (bx kx cx gy ky cy MT : Nat) {w : World} (hkx : (((kx : Nat) : Int) == 0) = false) (hky : (((ky : Nat) : Int) == 0) = false) (HT : Hid (∀ w', Gb w w' → Calls Tryz.prog 162 #[.agg #[.int .i64 sx, .slice (some ⟨bx, 0, none⟩) kx cx, .int .i64 ex, .bool false], .agg #[.int .i64 sy, .slice (some ⟨gy, 0, none⟩) ky cy, .int .i64 ey, .bool false]] w' fun e w'' => ∃ b k c, BigN 1000 w'' (.slice (some ⟨b, 0, none⟩) k c) MT ∧ e = .returned (.agg #[.int .i64 sT, .slice (some ⟨b, 0, none⟩) k c, .int .i64 eT, .bool false]) ∧ Gb w' w'')) (hM : MT = 0) (hs : (sx == sy) = false) (hmd : (mode == 4) = false) (z : Int) (HZ : KR 63 #[.int .i64 f, .int .i64 0] (.agg #[.int .u64 z, .int .i64 0])) :
  Calls Tryz.prog 129 #[.int .i64 f, .int .i64 mode, .agg #[.int .i64 sx, .slice (some ⟨bx, 0, none⟩) kx cx, .int .i64 ex, .bool false], .agg #[.int .i64 sy, .slice (some ⟨gy, 0, none⟩) ky cy, .int .i64 ey, .bool false]] w fun e w' => e = .returned (.agg #[.int .u64 z, .int .i64 0]) ∧ Gb w w' := by
 have HM : Hid (MT = 0) := hM
 clear hM
 go_enter Tryz.func129, Tryz.ntmps129
 go_wp2_with (first
  | (go_at_call 162; refine (HT.out _ Gb.g).mono ?_; rintro e w1 ⟨b1, k1, c1, hb1, rfl, hg_w1⟩; obtain ⟨n1, hn1, hbb⟩ := hb1; obtain rfl : k1 = 0 := (big_nok hbb HM.out); obtain ⟨ax0, ax1, ax2, ax3⟩ := hg_w1.e4 w.heap.size 0 1 2 3 (.int .i64 sx) (.slice (some ⟨bx, 0, none⟩) kx cx) (.int .i64 ex) (.bool false); obtain ⟨ay0, ay1, ay2, ay3⟩ := hg_w1.e4 (w.heap.size + 1) 0 1 2 3 (.int .i64 sy) (.slice (some ⟨gy, 0, none⟩) ky cy) (.int .i64 ey) (.bool false); obtain ⟨ar0, arz0⟩ := hg_w1.y1 (w.heap.size + 1 + 1) 0 (.int .u64 0); have arA0 := kca ar0; have arB0 := kfa arz0; obtain ⟨ar1, arz1⟩ := hg_w1.y1 (w.heap.size + 1 + 1) 1 (.int .i64 0); have arA1 := kca ar1; have arB1 := kfa arz1; have aX := kca ax0; have aY := kca ay0)
  | (go_at_call 63; refine (HZ.out _).mono ?_; rintro e w2 ⟨rfl, hg_w2⟩; obtain ⟨br0, brz0, br1, brz1⟩ := hg_w2.y2 (w.heap.size + 1 + 1) 0 1 (.int .u64 0) (.int .i64 0)))
 refine bodyPost_ret (v := .agg #[.int .u64 z, .int .i64 0]) (by simp [results, Tryz.results129, go_sem, br0, br1]) rfl ⟨rfl, ?_⟩
 exact Gb.g

set_option maxRecDepth 1000000 in
theorem l3Sum_znR (f mode sx sy ex ey sT eT : Int) (bx kx cx gy ky cy MT : Nat) {w : World} (hkx : (((kx : Nat) : Int) == 0) = true) (hky : (((ky : Nat) : Int) == 0) = false) (HT : Hid (∀ w', Gb w w' → Calls Tryz.prog 162 #[.agg #[.int .i64 sx, .slice (some ⟨bx, 0, none⟩) kx cx, .int .i64 ey, .bool false], .agg #[.int .i64 sy, .slice (some ⟨gy, 0, none⟩) ky cy, .int .i64 ey, .bool false]] w' fun e w'' => ∃ b k c, BigN 1000 w'' (.slice (some ⟨b, 0, none⟩) k c) MT ∧ e = .returned (.agg #[.int .i64 sT, .slice (some ⟨b, 0, none⟩) k c, .int .i64 eT, .bool false]) ∧ Gb w' w'')) (hM : 0 < MT) (Q : Int → Int → Prop) (HR : Hid (∀ v w, BigN 1000 w v MT → Calls Tryz.prog 64 #[.int .i64 f, .int .i64 mode, .agg #[.int .i64 sT, v, .int .i64 eT, .bool false]] w fun x w' => ∃ z fl, Q z fl ∧ x = .returned (.agg #[.int .u64 z, .int .i64 fl]) ∧ Gb w w')) :
  Calls Tryz.prog 129 #[.int .i64 f, .int .i64 mode, .agg #[.int .i64 sx, .slice (some ⟨bx, 0, none⟩) kx cx, .int .i64 ex, .bool false], .agg #[.int .i64 sy, .slice (some ⟨gy, 0, none⟩) ky cy, .int .i64 ey, .bool false]] w fun e w' => ∃ z fl, Q z fl ∧ e = .returned (.agg #[.int .u64 z, .int .i64 fl]) ∧ Gb w w' := by
 have HM : Hid (0 < MT) := hM
 clear hM
 go_enter Tryz.func129, Tryz.ntmps129
 go_wp2_with (first
  | (go_at_call 162; refine (HT.out _ Gb.g).mono ?_; rintro e w1 ⟨b1, k1, c1, hb1, rfl, hg_w1⟩; obtain ⟨n1, hn1, hbb⟩ := hb1; have hk1 : (0 < ((k1 : Nat) : Int)) := (big_posk hbb HM.out); have hb1' : BigN 1000 w1 (.slice (some ⟨b1, 0, none⟩) k1 c1) MT := ⟨n1, hn1, hbb⟩; obtain ⟨ax0, ax1, ax2, ax3⟩ := hg_w1.e4 w.heap.size 0 1 2 3 (.int .i64 sx) (.slice (some ⟨bx, 0, none⟩) kx cx) (.int .i64 ey) (.bool false); obtain ⟨ay0, ay1, ay2, ay3⟩ := hg_w1.e4 (w.heap.size + 1) 0 1 2 3 (.int .i64 sy) (.slice (some ⟨gy, 0, none⟩) ky cy) (.int .i64 ey) (.bool false); obtain ⟨ar0, arz0⟩ := hg_w1.y1 (w.heap.size + 1 + 1) 0 (.int .u64 0); have arA0 := kca ar0; have arB0 := kfa arz0; obtain ⟨ar1, arz1⟩ := hg_w1.y1 (w.heap.size + 1 + 1) 1 (.int .i64 0); have arA1 := kca ar1; have arB1 := kfa arz1; have aX := kca ax0; have aY := kca ay0; have hA := (fun ob => BigN.gb hb1' ((Gb.refl w1).alloc ob)))
  | (go_at_call 64; refine (HR.out _ _ (BigN.gb hb1' Gb.g)).mono ?_; rintro e w2 ⟨z, fl, hq, rfl, hg_w2⟩; obtain ⟨br0, brz0, br1, brz1⟩ := hg_w2.y2 (w.heap.size + 1 + 1) 0 1 (.int .u64 0) (.int .i64 0)))
 refine bodyPost_ret (v := .agg #[.int .u64 z, .int .i64 fl]) (by simp [results, Tryz.results129, go_sem, br0, br1]) rfl ⟨z, fl, hq, rfl, ?_⟩
 exact Gb.g

set_option maxRecDepth 1000000 in
theorem l3Sum_nzR (f mode sx sy ex ey sT eT : Int) (bx kx cx gy ky cy MT : Nat) {w : World} (hkx : (((kx : Nat) : Int) == 0) = false) (hky : (((ky : Nat) : Int) == 0) = true) (HT : Hid (∀ w', Gb w w' → Calls Tryz.prog 162 #[.agg #[.int .i64 sx, .slice (some ⟨bx, 0, none⟩) kx cx, .int .i64 ex, .bool false], .agg #[.int .i64 sy, .slice (some ⟨gy, 0, none⟩) ky cy, .int .i64 ex, .bool false]] w' fun e w'' => ∃ b k c, BigN 1000 w'' (.slice (some ⟨b, 0, none⟩) k c) MT ∧ e = .returned (.agg #[.int .i64 sT, .slice (some ⟨b, 0, none⟩) k c, .int .i64 eT, .bool false]) ∧ Gb w' w'')) (hM : 0 < MT) (Q : Int → Int → Prop) (HR : Hid (∀ v w, BigN 1000 w v MT → Calls Tryz.prog 64 #[.int .i64 f, .int .i64 mode, .agg #[.int .i64 sT, v, .int .i64 eT, .bool false]] w fun x w' => ∃ z fl, Q z fl ∧ x = .returned (.agg #[.int .u64 z, .int .i64 fl]) ∧ Gb w w')) :
  Calls Tryz.prog 129 #[.int .i64 f, .int .i64 mode, .agg #[.int .i64 sx, .slice (some ⟨bx, 0, none⟩) kx cx, .int .i64 ex, .bool false], .agg #[.int .i64 sy, .slice (some ⟨gy, 0, none⟩) ky cy, .int .i64 ey, .bool false]] w fun e w' => ∃ z fl, Q z fl ∧ e = .returned (.agg #[.int .u64 z, .int .i64 fl]) ∧ Gb w w' := by
 have HM : Hid (0 < MT) := hM
 clear hM
 go_enter Tryz.func129, Tryz.ntmps129
 go_wp2_with (first
  | (go_at_call 162; refine (HT.out _ Gb.g).mono ?_; rintro e w1 ⟨b1, k1, c1, hb1, rfl, hg_w1⟩; obtain ⟨n1, hn1, hbb⟩ := hb1; have hk1 : (0 < ((k1 : Nat) : Int)) := (big_posk hbb HM.out); have hb1' : BigN 1000 w1 (.slice (some ⟨b1, 0, none⟩) k1 c1) MT := ⟨n1, hn1, hbb⟩; obtain ⟨ax0, ax1, ax2, ax3⟩ := hg_w1.e4 w.heap.size 0 1 2 3 (.int .i64 sx) (.slice (some ⟨bx, 0, none⟩) kx cx) (.int .i64 ex) (.bool false); obtain ⟨ay0, ay1, ay2, ay3⟩ := hg_w1.e4 (w.heap.size + 1) 0 1 2 3 (.int .i64 sy) (.slice (some ⟨gy, 0, none⟩) ky cy) (.int .i64 ex) (.bool false); obtain ⟨ar0, arz0⟩ := hg_w1.y1 (w.heap.size + 1 + 1) 0 (.int .u64 0); have arA0 := kca ar0; have arB0 := kfa arz0; obtain ⟨ar1, arz1⟩ := hg_w1.y1 (w.heap.size + 1 + 1) 1 (.int .i64 0); have arA1 := kca ar1; have arB1 := kfa arz1; have aX := kca ax0; have aY := kca ay0; have hA := (fun ob => BigN.gb hb1' ((Gb.refl w1).alloc ob)))
  | (go_at_call 64; refine (HR.out _ _ (BigN.gb hb1' Gb.g)).mono ?_; rintro e w2 ⟨z, fl, hq, rfl, hg_w2⟩; obtain ⟨br0, brz0, br1, brz1⟩ := hg_w2.y2 (w.heap.size + 1 + 1) 0 1 (.int .u64 0) (.int .i64 0)))
 refine bodyPost_ret (v := .agg #[.int .u64 z, .int .i64 fl]) (by simp [results, Tryz.results129, go_sem, br0, br1]) rfl ⟨z, fl, hq, rfl, ?_⟩
 exact Gb.g

set_option maxRecDepth 1000000 in
theorem l3Sum_zzS (f mode sx sy ex ey sT eT : Int) (bx kx cx gy ky cy MT : Nat) {w : World} (hkx : (((kx : Nat) : Int) == 0) = true) (hky : (((ky : Nat) : Int) == 0) = true) (HT : Hid (∀ w', Gb w w' → Calls Tryz.prog 162 #[.agg #[.int .i64 sx, .slice (some ⟨bx, 0, none⟩) kx cx, .int .i64 ey, .bool false], .agg #[.int .i64 sy, .slice (some ⟨gy, 0, none⟩) ky cy, .int .i64 ey, .bool false]] w' fun e w'' => ∃ b k c, BigN 1000 w'' (.slice (some ⟨b, 0, none⟩) k c) MT ∧ e = .returned (.agg #[.int .i64 sT, .slice (some ⟨b, 0, none⟩) k c, .int .i64 eT, .bool false]) ∧ Gb w' w'')) (hM : MT = 0) (hs : (sx == sy) = true) (z : Int) (HZ : KR 63 #[.int .i64 f, .int .i64 sx] (.agg #[.int .u64 z, .int .i64 0])) :
  Calls Tryz.prog 129 #[.int .i64 f, .int .i64 mode, .agg #[.int .i64 sx, .slice (some ⟨bx, 0, none⟩) kx cx, .int .i64 ex, .bool false], .agg #[.int .i64 sy, .slice (some ⟨gy, 0, none⟩) ky cy, .int .i64 ey, .bool false]] w fun e w' => e = .returned (.agg #[.int .u64 z, .int .i64 0]) ∧ Gb w w' := by
 have HM : Hid (MT = 0) := hM
 clear hM
 go_enter Tryz.func129, Tryz.ntmps129
 go_wp2_with (first
  | (go_at_call 162; refine (HT.out _ Gb.g).mono ?_; rintro e w1 ⟨b1, k1, c1, hb1, rfl, hg_w1⟩; obtain ⟨n1, hn1, hbb⟩ := hb1; obtain rfl : k1 = 0 := (big_nok hbb HM.out); obtain ⟨ax0, ax1, ax2, ax3⟩ := hg_w1.e4 w.heap.size 0 1 2 3 (.int .i64 sx) (.slice (some ⟨bx, 0, none⟩) kx cx) (.int .i64 ey) (.bool false); obtain ⟨ay0, ay1, ay2, ay3⟩ := hg_w1.e4 (w.heap.size + 1) 0 1 2 3 (.int .i64 sy) (.slice (some ⟨gy, 0, none⟩) ky cy) (.int .i64 ey) (.bool false); obtain ⟨ar0, arz0⟩ := hg_w1.y1 (w.heap.size + 1 + 1) 0 (.int .u64 0); have arA0 := kca ar0; have arB0 := kfa arz0; obtain ⟨ar1, arz1⟩ := hg_w1.y1 (w.heap.size + 1 + 1) 1 (.int .i64 0); have arA1 := kca ar1; have arB1 := kfa arz1; have aX := kca ax0; have aY := kca ay0)
  | (go_at_call 63; refine (HZ.out _).mono ?_; rintro e w2 ⟨rfl, hg_w2⟩; obtain ⟨br0, brz0, br1, brz1⟩ := hg_w2.y2 (w.heap.size + 1 + 1) 0 1 (.int .u64 0) (.int .i64 0)))
 refine bodyPost_ret (v := .agg #[.int .u64 z, .int .i64 0]) (by simp [results, Tryz.results129, go_sem, br0, br1]) rfl ⟨rfl, ?_⟩
 exact Gb.g

set_option maxRecDepth 1000000 in
theorem l3Sum_zzD (f mode sx sy ex ey sT eT : Int) (bx kx cx gy ky cy MT : Nat) {w : World} (hkx : (((kx : Nat) : Int) == 0) = true) (hky : (((ky : Nat) : Int) == 0) = true) (HT : Hid (∀ w', Gb w w' → Calls Tryz.prog 162 #[.agg #[.int .i64 sx, .slice (some ⟨bx, 0, none⟩) kx cx, .int .i64 ey, .bool false], .agg #[.int .i64 sy, .slice (some ⟨gy, 0, none⟩) ky cy, .int .i64 ey, .bool false]] w' fun e w'' => ∃ b k c, BigN 1000 w'' (.slice (some ⟨b, 0, none⟩) k c) MT ∧ e = .returned (.agg #[.int .i64 sT, .slice (some ⟨b, 0, none⟩) k c, .int .i64 eT, .bool false]) ∧ Gb w' w'')) (hM : MT = 0) (hs : (sx == sy) = false) (hmd : (mode == 4) = true) (z : Int) (HZ : KR 63 #[.int .i64 f, .int .i64 1] (.agg #[.int .u64 z, .int .i64 0])) :
  Calls Tryz.prog 129 #[.int .i64 f, .int .i64 mode, .agg #[.int .i64 sx, .slice (some ⟨bx, 0, none⟩) kx cx, .int .i64 ex, .bool false], .agg #[.int .i64 sy, .slice (some ⟨gy, 0, none⟩) ky cy, .int .i64 ey, .bool false]] w fun e w' => e = .returned (.agg #[.int .u64 z, .int .i64 0]) ∧ Gb w w' := by
 have HM : Hid (MT = 0) := hM
 clear hM
 go_enter Tryz.func129, Tryz.ntmps129
 go_wp2_with (first
  | (go_at_call 162; refine (HT.out _ Gb.g).mono ?_; rintro e w1 ⟨b1, k1, c1, hb1, rfl, hg_w1⟩; obtain ⟨n1, hn1, hbb⟩ := hb1; obtain rfl : k1 = 0 := (big_nok hbb HM.out); obtain ⟨ax0, ax1, ax2, ax3⟩ := hg_w1.e4 w.heap.size 0 1 2 3 (.int .i64 sx) (.slice (some ⟨bx, 0, none⟩) kx cx) (.int .i64 ey) (.bool false); obtain ⟨ay0, ay1, ay2, ay3⟩ := hg_w1.e4 (w.heap.size + 1) 0 1 2 3 (.int .i64 sy) (.slice (some ⟨gy, 0, none⟩) ky cy) (.int .i64 ey) (.bool false); obtain ⟨ar0, arz0⟩ := hg_w1.y1 (w.heap.size + 1 + 1) 0 (.int .u64 0); have arA0 := kca ar0; have arB0 := kfa arz0; obtain ⟨ar1, arz1⟩ := hg_w1.y1 (w.heap.size + 1 + 1) 1 (.int .i64 0); have arA1 := kca ar1; have arB1 := kfa arz1; have aX := kca ax0; have aY := kca ay0)
  | (go_at_call 63; refine (HZ.out _).mono ?_; rintro e w2 ⟨rfl, hg_w2⟩; obtain ⟨br0, brz0, br1, brz1⟩ := hg_w2.y2 (w.heap.size + 1 + 1) 0 1 (.int .u64 0) (.int .i64 0)))
 refine bodyPost_ret (v := .agg #[.int .u64 z, .int .i64 0]) (by simp [results, Tryz.results129, go_sem, br0, br1]) rfl ⟨rfl, ?_⟩
 exact Gb.g

set_option maxRecDepth 1000000 in
theorem l3Sum_zzO (f mode sx sy ex ey sT eT : Int) (bx kx cx gy ky cy MT : Nat) {w : World} (hkx : (((kx : Nat) : Int) == 0) = true) (hky : (((ky : Nat) : Int) == 0) = true) (HT : Hid (∀ w', Gb w w' → Calls Tryz.prog 162 #[.agg #[.int .i64 sx, .slice (some ⟨bx, 0, none⟩) kx cx, .int .i64 ey, .bool false], .agg #[.int .i64 sy, .slice (some ⟨gy, 0, none⟩) ky cy, .int .i64 ey, .bool false]] w' fun e w'' => ∃ b k c, BigN 1000 w'' (.slice (some ⟨b, 0, none⟩) k c) MT ∧ e = .returned (.agg #[.int .i64 sT, .slice (some ⟨b, 0, none⟩) k c, .int .i64 eT, .bool false]) ∧ Gb w' w'')) (hM : MT = 0) (hs : (sx == sy) = false) (hmd : (mode == 4) = false) (z : Int) (HZ : KR 63 #[.int .i64 f, .int .i64 0] (.agg #[.int .u64 z, .int .i64 0])) :
  Calls Tryz.prog 129 #[.int .i64 f, .int .i64 mode, .agg #[.int .i64 sx, .slice (some ⟨bx, 0, none⟩) kx cx, .int .i64 ex, .bool false], .agg #[.int .i64 sy, .slice (some ⟨gy, 0, none⟩) ky cy, .int .i64 ey, .bool false]] w fun e w' => e = .returned (.agg #[.int .u64 z, .int .i64 0]) ∧ Gb w w' := by
 have HM : Hid (MT = 0) := hM
 clear hM
 go_enter Tryz.func129, Tryz.ntmps129
 go_wp2_with (first
  | (go_at_call 162; refine (HT.out _ Gb.g).mono ?_; rintro e w1 ⟨b1, k1, c1, hb1, rfl, hg_w1⟩; obtain ⟨n1, hn1, hbb⟩ := hb1; obtain rfl : k1 = 0 := (big_nok hbb HM.out); obtain ⟨ax0, ax1, ax2, ax3⟩ := hg_w1.e4 w.heap.size 0 1 2 3 (.int .i64 sx) (.slice (some ⟨bx, 0, none⟩) kx cx) (.int .i64 ey) (.bool false); obtain ⟨ay0, ay1, ay2, ay3⟩ := hg_w1.e4 (w.heap.size + 1) 0 1 2 3 (.int .i64 sy) (.slice (some ⟨gy, 0, none⟩) ky cy) (.int .i64 ey) (.bool false); obtain ⟨ar0, arz0⟩ := hg_w1.y1 (w.heap.size + 1 + 1) 0 (.int .u64 0); have arA0 := kca ar0; have arB0 := kfa arz0; obtain ⟨ar1, arz1⟩ := hg_w1.y1 (w.heap.size + 1 + 1) 1 (.int .i64 0); have arA1 := kca ar1; have arB1 := kfa arz1; have aX := kca ax0; have aY := kca ay0)
  | (go_at_call 63; refine (HZ.out _).mono ?_; rintro e w2 ⟨rfl, hg_w2⟩; obtain ⟨br0, brz0, br1, brz1⟩ := hg_w2.y2 (w.heap.size + 1 + 1) 0 1 (.int .u64 0) (.int .i64 0)))
 refine bodyPost_ret (v := .agg #[.int .u64 z, .int .i64 0]) (by simp [results, Tryz.results129, go_sem, br0, br1]) rfl ⟨rfl, ?_⟩
 exact Gb.g
end Go.Proofs.YtkackkggpehpkaaGreatDoor
