/- The order of operands. -/
import Derived.Test.YtkflpogmhailhaaGreatDoorR7
import Derived.Test.YtkflpogmhailhaaGreatDoorR5
import Derived.Test.YtkflpogmhailhaaGreatDoorF2b
import Derived.Deep.DeepCutAuto
import Derived.Deep.RegionHeld3
import Derived.Test.YtkflpogmhailhaaGreatDoorC0
set_option linter.unusedVariables false
set_option linter.unusedSimpArgs false
namespace Go.Proofs.YtkflpogmhailhaaGreatDoor
open Go.RowKit

theorem order_any (x y : Opd) (hx : VO x) (hy : VO y) (mx : x.M < 18446744073709551616) (my : y.M < 18446744073709551616) (w : World) :
    Calls Tryz.prog 54 #[.agg #[.int .i64 x.s, .int .i64 x.e, .int .i64 x.c, .int .u64 (((x.M / 18446744073709551616 : Nat) : Int)), .int .u64 (((x.M % 18446744073709551616 : Nat) : Int)), .bool false, .int .i64 0], .agg #[.int .i64 y.s, .int .i64 y.e, .int .i64 y.c, .int .u64 (((y.M / 18446744073709551616 : Nat) : Int)), .int .u64 (((y.M % 18446744073709551616 : Nat) : Int)), .bool false, .int .i64 0]] w fun e w' => e = .returned (.int .i64 (ordO x y)) ∧ Gr w w' := by
  obtain ⟨xc, xs, xe, xM⟩ := x
  obtain ⟨yc, ys, ye, yM⟩ := y
  have x01 := hx.s01
  have y01 := hy.s01
  dsimp only at x01 y01 mx my ⊢
  unfold ordO
  dsimp only
  by_cases c : xs = ys
  · subst c
    rw [if_neg (by simp)]
    have e3 : cmpI ((xM % 18446744073709551616 : Nat) : Int) ((yM % 18446744073709551616 : Nat) : Int) = cmpI (xM : Int) (yM : Int) := by rw [Nat.mod_eq_of_lt mx, Nat.mod_eq_of_lt my]
    have hb : or3 (cmpI xc yc) (cmpI xe ye) (cmpI (xM : Int) (yM : Int)) = -1 ∨ or3 (cmpI xc yc) (cmpI xe ye) (cmpI (xM : Int) (yM : Int)) = 0 ∨ or3 (cmpI xc yc) (cmpI xe ye) (cmpI (xM : Int) (yM : Int)) = 1 := by
      unfold or3
      have := cmpI_01 xc yc; have := cmpI_01 xe ye; have := cmpI_01 (xM : Int) (yM : Int)
      split <;> (try split) <;> omega
    refine order_sizes xs xe xc _ _ ye yc _ _ _ _ _ _ _ false false rfl rfl e3 rfl ?_ w
    unfold lexO
    dsimp only
    rcases x01 with rfl | rfl
    · exact .inr ⟨by decide, by rw [if_neg (by decide)]⟩
    · refine .inl ⟨rfl, ?_⟩
      rw [if_pos rfl]
      rcases hb with h | h | h <;> rw [h] <;> decide +kernel
  · rw [if_pos c]
    refine order_signs xs xe xc _ _ ys ye yc _ _ _ false false c ?_ w
    rcases x01 with rfl | rfl <;> rcases y01 with rfl | rfl <;> first | (exact absurd rfl c) | decide +kernel

end Go.Proofs.YtkflpogmhailhaaGreatDoor

/- impl.Compare, lesserOf, greaterOf. -/
set_option linter.unusedVariables false
set_option linter.unusedSimpArgs false
namespace Go.Proofs.YtkflpogmhailhaaGreatDoor
open Go.RowKit

/-- A fresh operand. -/
structure Zop (w : World) (b : Nat) : Prop where
  c0 : w.cell? ⟨b, 0, none⟩ = some (.int .i64 0)
  c1 : w.cell? ⟨b, 1, none⟩ = some (.int .i64 0)
  c2 : w.cell? ⟨b, 2, none⟩ = some (.int .i64 0)
  c3 : w.cell? ⟨b, 3, none⟩ = some (.int .u64 0)
  c4 : w.cell? ⟨b, 4, none⟩ = some (.int .u64 0)
  c5 : w.cell? ⟨b, 5, none⟩ = some (.bool false)
  c6 : w.cell? ⟨b, 6, none⟩ = some (.int .i64 0)
  z0 : w.frozen? ⟨b, 0, none⟩ = false
  z1 : w.frozen? ⟨b, 1, none⟩ = false
  z2 : w.frozen? ⟨b, 2, none⟩ = false
  z3 : w.frozen? ⟨b, 3, none⟩ = false
  z4 : w.frozen? ⟨b, 4, none⟩ = false
  z5 : w.frozen? ⟨b, 5, none⟩ = false
  z6 : w.frozen? ⟨b, 6, none⟩ = false
theorem Zop.new (w : World) : Zop (w.alloc (.cells #[.int .i64 0, .int .i64 0, .int .i64 0, .int .u64 0, .int .u64 0, .bool false, .int .i64 0] 80)) w.heap.size := by constructor <;> simp [go_sem]
theorem Zop.new' {w : World} {b : Nat} (hb : b = w.heap.size) : Zop (w.alloc (.cells #[.int .i64 0, .int .i64 0, .int .i64 0, .int .u64 0, .int .u64 0, .bool false, .int .i64 0] 80)) b := by subst hb; exact Zop.new w
theorem Zop.alloc {w : World} {b : Nat} (h : Zop w b) (c : Array Value) (t : TypeId) : Zop (w.alloc (.cells c t)) b := ⟨cell_alloc _ h.c0, cell_alloc _ h.c1, cell_alloc _ h.c2, cell_alloc _ h.c3, cell_alloc _ h.c4, cell_alloc _ h.c5, cell_alloc _ h.c6, fz_alloc h.z0, fz_alloc h.z1, fz_alloc h.z2, fz_alloc h.z3, fz_alloc h.z4, fz_alloc h.z5, fz_alloc h.z6⟩
theorem Zop.gr {w w' : World} (g : Gr w w') {b : Nat} (h : Zop w b) : Zop w' b := ⟨g.old h.c0, g.old h.c1, g.old h.c2, g.old h.c3, g.old h.c4, g.old h.c5, g.old h.c6, fz_old g h.z0, fz_old g h.z1, fz_old g h.z2, fz_old g h.z3, fz_old g h.z4, fz_old g h.z5, fz_old g h.z6⟩
theorem Zop.drew {w : World} {b : Nat} (h : Zop w b) : Zop w.drew b := ⟨h.c0, h.c1, h.c2, h.c3, h.c4, h.c5, h.c6, h.z0, h.z1, h.z2, h.z3, h.z4, h.z5, h.z6⟩

/-- What a fresh operand holds. -/
def zf (o : Nat) : Value := if o = 5 then .bool false else if o = 3 ∨ o = 4 then .int .u64 0 else .int .i64 0
theorem Zop.r {w : World} {b : Nat} (h : Zop w b) : ∀ o, o < 7 → w.cell? ⟨b, o, none⟩ = some (zf o) := fun o ho => by
  rcases (show o = 0 ∨ o = 1 ∨ o = 2 ∨ o = 3 ∨ o = 4 ∨ o = 5 ∨ o = 6 by omega) with rfl | rfl | rfl | rfl | rfl | rfl | rfl
  · exact h.c0
  · exact h.c1
  · exact h.c2
  · exact h.c3
  · exact h.c4
  · exact h.c5
  · exact h.c6
theorem Zop.f {w : World} {b : Nat} (h : Zop w b) : ∀ o, o < 7 → w.frozen? ⟨b, o, none⟩ = false := fun o ho => by
  rcases (show o = 0 ∨ o = 1 ∨ o = 2 ∨ o = 3 ∨ o = 4 ∨ o = 5 ∨ o = 6 by omega) with rfl | rfl | rfl | rfl | rfl | rfl | rfl
  · exact h.z0
  · exact h.z1
  · exact h.z2
  · exact h.z3
  · exact h.z4
  · exact h.z5
  · exact h.z6

/-- The variables of Compare behind the operands. -/
structure CmpAt (w wx : World) (bx bz : Nat) (sx ex cx xh xl sy ey cy yh yl : Int) (tx ty : Bool) : Prop where
  g : Gr w wx := by exact kr
  x0 : wx.cell? ⟨bx, 0, none⟩ = some (.int .i64 sx) := by exact kl
  x1 : wx.cell? ⟨bx, 1, none⟩ = some (.int .i64 ex) := by exact kl
  x2 : wx.cell? ⟨bx, 2, none⟩ = some (.int .i64 cx) := by exact kl
  x3 : wx.cell? ⟨bx, 3, none⟩ = some (.int .u64 xh) := by exact kl
  x4 : wx.cell? ⟨bx, 4, none⟩ = some (.int .u64 xl) := by exact kl
  x5 : wx.cell? ⟨bx, 5, none⟩ = some (.bool tx) := by exact kl
  x6 : wx.cell? ⟨bx, 6, none⟩ = some (.int .i64 0) := by exact kl
  y0 : wx.cell? ⟨bz, 0, none⟩ = some (.int .i64 sy) := by exact kl
  y1 : wx.cell? ⟨bz, 1, none⟩ = some (.int .i64 ey) := by exact kl
  y2 : wx.cell? ⟨bz, 2, none⟩ = some (.int .i64 cy) := by exact kl
  y3 : wx.cell? ⟨bz, 3, none⟩ = some (.int .u64 yh) := by exact kl
  y4 : wx.cell? ⟨bz, 4, none⟩ = some (.int .u64 yl) := by exact kl
  y5 : wx.cell? ⟨bz, 5, none⟩ = some (.bool ty) := by exact kl
  y6 : wx.cell? ⟨bz, 6, none⟩ = some (.int .i64 0) := by exact kl

set_option maxRecDepth 100000 in
set_option maxHeartbeats 8000000 in
theorem cmp_no (f a b : Int) (s : Bool) (HF : Hid (∀ w, Calls Tryz.prog 52 #[.int .i64 f] w fun e w' => e = .returned (.tuple #[.agg #[.int .i64 0, .int .i64 0, .int .i64 0], .bool false]) ∧ Gr w w')) (w : World) :
    Calls Tryz.prog 12 #[.int .i64 f, .int .u64 a, .int .u64 b, .bool s] w fun e w' => e = .returned (.tuple #[.int .i64 2, .int .i64 1]) ∧ Gr w w' := by
  go_enter Tryz.func12, Tryz.ntmps12
  go_wp2_with (go_at_call 52; refine (HF.out _).mono ?_; rintro x w1 ⟨rfl, hg_w1⟩)
  go_returns
  exact ⟨rfl, Gr.g⟩

set_option maxRecDepth 100000 in
set_option maxHeartbeats 8000000 in
theorem cmp_ok (p mn mx f a b sx ex cx xh xl sy ey cy yh yl m r fl d : Int) (tx ty s : Bool) {w : World} (HF : Hid (∀ w', Gr w w' → Calls Tryz.prog 52 #[.int .i64 f] w' fun e w'' => e = .returned (.tuple #[.agg #[.int .i64 p, .int .i64 mn, .int .i64 mx], .bool true]) ∧ Gr w' w''))
    (HA : Hid (∀ w, Calls Tryz.prog 53 #[.agg #[.int .i64 p, .int .i64 mn, .int .i64 mx], .int .u64 a] w fun e w' => e = .returned (.agg #[.int .i64 sx, .int .i64 ex, .int .i64 cx, .int .u64 xh, .int .u64 xl, .bool tx, .int .i64 0]) ∧ Gr w w')) (HB : Hid (∀ w, Calls Tryz.prog 53 #[.agg #[.int .i64 p, .int .i64 mn, .int .i64 mx], .int .u64 b] w fun e w' => e = .returned (.agg #[.int .i64 sy, .int .i64 ey, .int .i64 cy, .int .u64 yh, .int .u64 yl, .bool ty, .int .i64 0]) ∧ Gr w w'))
    (hm : max cx cy = m) (hc : m = 4 ∧ r = 2 ∧ fl = 1 ∨ m = 3 ∧ s = true ∧ r = 2 ∧ fl = 1 ∨ m = 3 ∧ s = false ∧ r = 2 ∧ fl = 0 ∨ m = 0 ∧ r = 0 ∧ fl = 0 ∨ (m = 1 ∨ m = 2) ∧ r = d ∧ fl = 0)
    (HO : Hid (∀ w, Calls Tryz.prog 54 #[.agg #[.int .i64 sx, .int .i64 ex, .int .i64 cx, .int .u64 xh, .int .u64 xl, .bool tx, .int .i64 0], .agg #[.int .i64 sy, .int .i64 ey, .int .i64 cy, .int .u64 yh, .int .u64 yl, .bool ty, .int .i64 0]] w fun e w' => e = .returned (.int .i64 d) ∧ Gr w w')) :
    Calls Tryz.prog 12 #[.int .i64 f, .int .u64 a, .int .u64 b, .bool s] w fun e w' => e = .returned (.tuple #[.int .i64 r, .int .i64 fl]) ∧ Gr w w' := by
  go_enter Tryz.func12, Tryz.ntmps12
  go_wp2_with (go_at_call 52; refine (HF.out _ Gr.g).mono ?_; rintro x w1 ⟨rfl, hg_w1⟩; have hz_w1 : w.heap.size ≤ w1.heap.size := hg_w1.size)
  go_cut [12, 13] (fun s12 s13 wx => ∃ bx bz : Nat, s12 = .pointer (some ⟨bx, 0, none⟩) ∧ s13 = .pointer (some ⟨bz, 0, none⟩) ∧ CmpAt w wx bx bz sx ex cx xh xl sy ey cy yh yl tx ty)
  case first =>
    clear HO HF hm hc
    go_region_held3 (fun w' => w'.cell? ⟨w1.heap.size, 0, none⟩ = some (.int .i64 p) ∧ w'.cell? ⟨w1.heap.size, 1, none⟩ = some (.int .i64 mn) ∧ w'.cell? ⟨w1.heap.size, 2, none⟩ = some (.int .i64 mx))
      ((go_split_ands; (repeat' apply And.intro) <;> exact kl))
      (first
        | (go_at_call 53; first | ((with_reducible refine (HA.out _).mono ?_); rintro e w2a ⟨rfl, hg_w2a⟩; have cs0 : w2a.cell? ⟨w1.heap.size, 0, none⟩ = some (.int .i64 p) := hg_w2a.c; have cs1 : w2a.cell? ⟨w1.heap.size, 1, none⟩ = some (.int .i64 mn) := hg_w2a.c; have cs2 : w2a.cell? ⟨w1.heap.size, 2, none⟩ = some (.int .i64 mx) := hg_w2a.c; have hz_w2a := hg_w2a.size; (try simp only [World.size_alloc, World.size_drew, World.size_setCell] at hz_w2a); (try (have ha1 : ¬ w1.heap.size + 1 = w2a.heap.size := (by omega))); (try (have ha2 : ¬ w2a.heap.size = w1.heap.size + 1 := (by omega))); (try (have ha3 : ¬ w1.heap.size + 1 + 1 = w2a.heap.size := (by omega))); (try (have ha4 : ¬ w2a.heap.size = w1.heap.size + 1 + 1 := (by omega)))) | ((with_reducible refine (HB.out _).mono ?_); rintro e w2b ⟨rfl, hg_w2b⟩; have cs0 : w2b.cell? ⟨w1.heap.size, 0, none⟩ = some (.int .i64 p) := hg_w2b.c; have cs1 : w2b.cell? ⟨w1.heap.size, 1, none⟩ = some (.int .i64 mn) := hg_w2b.c; have cs2 : w2b.cell? ⟨w1.heap.size, 2, none⟩ = some (.int .i64 mx) := hg_w2b.c; have hz_w2b := hg_w2b.size; (try simp only [World.size_alloc, World.size_drew, World.size_setCell] at hz_w2b); (try (have ha5 : ¬ w1.heap.size + 1 = w2b.heap.size := (by omega))); (try (have ha6 : ¬ w2b.heap.size = w1.heap.size + 1 := (by omega))); (try (have ha7 : ¬ w1.heap.size + 1 + 1 = w2b.heap.size := (by omega))); (try (have ha8 : ¬ w2b.heap.size = w1.heap.size + 1 + 1 := (by omega))); (try (have ha9 : ¬ w2a.heap.size = w2b.heap.size := (by omega))); (try (have ha10 : ¬ w2b.heap.size = w2a.heap.size := (by omega))); (try (have ha11 : ¬ w2a.heap.size + 1 = w2b.heap.size := (by omega))); (try (have ha12 : ¬ w2b.heap.size = w2a.heap.size + 1 := (by omega))); (first | (have hZ0 : Zop w2b (w1.heap.size + 1) := Zop.gr hg_w2b (Zop.gr hg_w2a (Zop.drew (Zop.alloc (Zop.new' (by first | (simp only [World.size_alloc, World.size_drew]; done) | (simp only [World.size_alloc, World.size_drew]; omega))) _ _))); have hZ1 : Zop w2b (w1.heap.size + 1 + 1) := Zop.gr hg_w2b (Zop.gr hg_w2a (Zop.drew (Zop.new' (by first | (simp only [World.size_alloc, World.size_drew]; done) | (simp only [World.size_alloc, World.size_drew]; omega))))); have q0h : Hid (Zop w2b (w1.heap.size + 1)) := hZ0; obtain ⟨q0c0, q0c1, q0c2, q0c3, q0c4, q0c5, q0c6, q0z0, q0z1, q0z2, q0z3, q0z4, q0z5, q0z6⟩ := hZ0; have q1h : Hid (Zop w2b (w1.heap.size + 1 + 1)) := hZ1; obtain ⟨q1c0, q1c1, q1c2, q1c3, q1c4, q1c5, q1c6, q1z0, q1z1, q1z2, q1z3, q1z4, q1z5, q1z6⟩ := hZ1) | (have hZ0 : Zop w2b (w1.heap.size + 1) := Zop.gr hg_w2b (Zop.alloc (Zop.gr hg_w2a (Zop.drew (Zop.new' (by first | (simp only [World.size_alloc, World.size_drew]; done) | (simp only [World.size_alloc, World.size_drew]; omega))))) _ _); have hZ1 : Zop w2b (w2a.heap.size) := Zop.gr hg_w2b (Zop.new' rfl); have q0h : Hid (Zop w2b (w1.heap.size + 1)) := hZ0; obtain ⟨q0c0, q0c1, q0c2, q0c3, q0c4, q0c5, q0c6, q0z0, q0z1, q0z2, q0z3, q0z4, q0z5, q0z6⟩ := hZ0; have q1h : Hid (Zop w2b (w2a.heap.size)) := hZ1; obtain ⟨q1c0, q1c1, q1c2, q1c3, q1c4, q1c5, q1c6, q1z0, q1z1, q1z2, q1z3, q1z4, q1z5, q1z6⟩ := hZ1) | (have hZ0 : Zop w2b (w2a.heap.size) := Zop.gr hg_w2b (Zop.alloc (Zop.new' rfl) _ _); have hZ1 : Zop w2b (w2a.heap.size + 1) := Zop.gr hg_w2b (Zop.new' (by first | (simp only [World.size_alloc, World.size_drew]; done) | (simp only [World.size_alloc, World.size_drew]; omega))); have q0h : Hid (Zop w2b (w2a.heap.size)) := hZ0; obtain ⟨q0c0, q0c1, q0c2, q0c3, q0c4, q0c5, q0c6, q0z0, q0z1, q0z2, q0z3, q0z4, q0z5, q0z6⟩ := hZ0; have q1h : Hid (Zop w2b (w2a.heap.size + 1)) := hZ1; obtain ⟨q1c0, q1c1, q1c2, q1c3, q1c4, q1c5, q1c6, q1z0, q1z1, q1z2, q1z3, q1z4, q1z5, q1z6⟩ := hZ1) | (have hZ0 : Zop w2b (w1.heap.size + 1) := Zop.gr hg_w2b (Zop.gr hg_w2a (Zop.drew (Zop.new' (by first | (simp only [World.size_alloc, World.size_drew]; done) | (simp only [World.size_alloc, World.size_drew]; omega))))); have q0h : Hid (Zop w2b (w1.heap.size + 1)) := hZ0; have q0A0 := (fun ob => cell_alloc ob hZ0.c0); have q0B0 : ∀ c t, (w2b.alloc (.cells c t)).frozen? ⟨w1.heap.size + 1, 0, none⟩ = false := (fun c t => fz_alloc hZ0.z0); have q0A1 := (fun ob => cell_alloc ob hZ0.c1); have q0B1 : ∀ c t, (w2b.alloc (.cells c t)).frozen? ⟨w1.heap.size + 1, 1, none⟩ = false := (fun c t => fz_alloc hZ0.z1); have q0A2 := (fun ob => cell_alloc ob hZ0.c2); have q0B2 : ∀ c t, (w2b.alloc (.cells c t)).frozen? ⟨w1.heap.size + 1, 2, none⟩ = false := (fun c t => fz_alloc hZ0.z2); have q0A3 := (fun ob => cell_alloc ob hZ0.c3); have q0B3 : ∀ c t, (w2b.alloc (.cells c t)).frozen? ⟨w1.heap.size + 1, 3, none⟩ = false := (fun c t => fz_alloc hZ0.z3); have q0A4 := (fun ob => cell_alloc ob hZ0.c4); have q0B4 : ∀ c t, (w2b.alloc (.cells c t)).frozen? ⟨w1.heap.size + 1, 4, none⟩ = false := (fun c t => fz_alloc hZ0.z4); have q0A5 := (fun ob => cell_alloc ob hZ0.c5); have q0B5 : ∀ c t, (w2b.alloc (.cells c t)).frozen? ⟨w1.heap.size + 1, 5, none⟩ = false := (fun c t => fz_alloc hZ0.z5); have q0A6 := (fun ob => cell_alloc ob hZ0.c6); have q0B6 : ∀ c t, (w2b.alloc (.cells c t)).frozen? ⟨w1.heap.size + 1, 6, none⟩ = false := (fun c t => fz_alloc hZ0.z6); clear hZ0) | (have hZ0 : Zop w2b (w2a.heap.size) := Zop.gr hg_w2b (Zop.new' rfl); have q0h : Hid (Zop w2b (w2a.heap.size)) := hZ0; have q0A0 := (fun ob => cell_alloc ob hZ0.c0); have q0B0 : ∀ c t, (w2b.alloc (.cells c t)).frozen? ⟨w2a.heap.size, 0, none⟩ = false := (fun c t => fz_alloc hZ0.z0); have q0A1 := (fun ob => cell_alloc ob hZ0.c1); have q0B1 : ∀ c t, (w2b.alloc (.cells c t)).frozen? ⟨w2a.heap.size, 1, none⟩ = false := (fun c t => fz_alloc hZ0.z1); have q0A2 := (fun ob => cell_alloc ob hZ0.c2); have q0B2 : ∀ c t, (w2b.alloc (.cells c t)).frozen? ⟨w2a.heap.size, 2, none⟩ = false := (fun c t => fz_alloc hZ0.z2); have q0A3 := (fun ob => cell_alloc ob hZ0.c3); have q0B3 : ∀ c t, (w2b.alloc (.cells c t)).frozen? ⟨w2a.heap.size, 3, none⟩ = false := (fun c t => fz_alloc hZ0.z3); have q0A4 := (fun ob => cell_alloc ob hZ0.c4); have q0B4 : ∀ c t, (w2b.alloc (.cells c t)).frozen? ⟨w2a.heap.size, 4, none⟩ = false := (fun c t => fz_alloc hZ0.z4); have q0A5 := (fun ob => cell_alloc ob hZ0.c5); have q0B5 : ∀ c t, (w2b.alloc (.cells c t)).frozen? ⟨w2a.heap.size, 5, none⟩ = false := (fun c t => fz_alloc hZ0.z5); have q0A6 := (fun ob => cell_alloc ob hZ0.c6); have q0B6 : ∀ c t, (w2b.alloc (.cells c t)).frozen? ⟨w2a.heap.size, 6, none⟩ = false := (fun c t => fz_alloc hZ0.z6); clear hZ0) | skip))))
    all_goals (try go_split_ands)
    all_goals (go_wp2; go_meet)
    all_goals (try (obtain ⟨p0c0, p0c1, p0c2, p0c3, p0c4, p0c5, p0c6, p0z0, p0z1, p0z2, p0z3, p0z4, p0z5, p0z6⟩ := q0h.out))
    all_goals (try (obtain ⟨p1c0, p1c1, p1c2, p1c3, p1c4, p1c5, p1c6, p1z0, p1z1, p1z2, p1z3, p1z4, p1z5, p1z6⟩ := q1h.out))
    all_goals exact ⟨_, _, rfl, rfl, {}⟩
  case rest =>
    clear HA HB
    obtain ⟨bx, bz, rfl, rfl, ⟨qg, qx0, qx1, qx2, qx3, qx4, qx5, qx6, qy0, qy1, qy2, qy3, qy4, qy5, qy6⟩⟩ := hcut
    rcases hc with ⟨rfl, rfl, rfl⟩ | ⟨rfl, rfl, rfl, rfl⟩ | ⟨rfl, rfl, rfl, rfl⟩ | ⟨rfl, rfl, rfl⟩ | ⟨c, rfl, rfl⟩
    case inr.inr.inr.inr =>
      rcases c with rfl | rfl
      all_goals
        go_wp2_with (go_at_call 54; refine (HO.out _).mono ?_; rintro e w3 ⟨rfl, hg_w3⟩)
        go_returns
        exact ⟨rfl, Gr.g⟩
    all_goals
      clear HO
      go_wp2
      go_returns
      exact ⟨rfl, Gr.g⟩

end Go.Proofs.YtkflpogmhailhaaGreatDoor

/- Compare: the program. -/
set_option linter.unusedVariables false
set_option linter.unusedSimpArgs false
namespace Go.Proofs.YtkflpogmhailhaaGreatDoor
open Go.RowKit

def CmpO (x y : Opd) (s : Bool) (r fl : Int) : Prop :=
  max x.c y.c = 4 ∧ r = 2 ∧ fl = 1 ∨ max x.c y.c = 3 ∧ s = true ∧ r = 2 ∧ fl = 1 ∨ max x.c y.c = 3 ∧ s = false ∧ r = 2 ∧ fl = 0 ∨ max x.c y.c = 0 ∧ r = 0 ∧ fl = 0 ∨ (max x.c y.c = 1 ∨ max x.c y.c = 2) ∧ r = ordO x y ∧ fl = 0
/-- What Compare answers. -/
def CmpIs (f a b : Int) (s : Bool) (r fl : Int) : Prop :=
  (∃ p mx one inf sg nan x y, IsFmt f p mx one inf sg nan ∧ OpdIs p mx one inf sg nan a x ∧ OpdIs p mx one inf sg nan b y ∧ CmpO x y s r fl) ∨ (¬ (f = 0 ∨ f = 1) ∧ r = 2 ∧ fl = 1)

theorem CmpO.ex (x y : Opd) (hx : VO x) (hy : VO y) (s : Bool) : ∃ r fl, CmpO x y s r fl := by
  have := hx.c0; have := hx.c4; have := hy.c0; have := hy.c4
  unfold CmpO
  rcases (show max x.c y.c = 4 ∨ max x.c y.c = 3 ∨ max x.c y.c = 0 ∨ (max x.c y.c = 1 ∨ max x.c y.c = 2) by omega) with h | h | h | h
  · exact ⟨_, _, .inl ⟨h, rfl, rfl⟩⟩
  · cases s
    · exact ⟨_, _, .inr (.inr (.inl ⟨h, rfl, rfl, rfl⟩))⟩
    · exact ⟨_, _, .inr (.inl ⟨h, rfl, rfl, rfl⟩)⟩
  · exact ⟨_, _, .inr (.inr (.inr (.inl ⟨h, rfl, rfl⟩)))⟩
  · exact ⟨_, _, .inr (.inr (.inr (.inr ⟨h, rfl, rfl⟩)))⟩
theorem CmpO.one {x y : Opd} {s : Bool} {r fl r' fl' : Int} (h : CmpO x y s r fl) (h' : CmpO x y s r' fl') : r = r' ∧ fl = fl' := by
  unfold CmpO at h h'
  generalize max x.c y.c = m at *
  generalize ordO x y = d at *
  cases s <;> simp at h h' <;> omega

theorem implCompare_any (f a b : Int) (s : Bool) (a0 : 0 ≤ a) (a1 : a < 18446744073709551616) (b0 : 0 ≤ b) (b1 : b < 18446744073709551616) (w : World) (hw : Fm w) :
    Calls Tryz.prog 12 #[.int .i64 f, .int .u64 a, .int .u64 b, .bool s] w fun e w' => ∃ r fl, CmpIs f a b s r fl ∧ e = .returned (.tuple #[.int .i64 r, .int .i64 fl]) ∧ Gr w w' := by
  by_cases hf : f = 0 ∨ f = 1
  · obtain ⟨p, mx, one, inf, sg, nan, hF⟩ := fmt_of f hf
    obtain ⟨mn, fb, sp, hM, hmn, hfb⟩ := hF.m
    obtain ⟨x, hx, HA⟩ := opd_is hF hM a a0 a1
    obtain ⟨y, hy, HB⟩ := opd_is hF hM b b0 b1
    obtain ⟨v1, v2, v3, v4, v5, v6⟩ := opd_vo hF hx
    obtain ⟨u1, u2, u3, u4, u5, u6⟩ := opd_vo hF hy
    obtain ⟨r, fl, hc⟩ := CmpO.ex x y v1 u1 s
    refine (cmp_ok p mn mx f a b _ _ _ _ _ _ _ _ _ _ _ r fl (ordO x y) false false s (fun w' hg => formatOf_yes hF hM (hw.gr hg)) HA HB rfl hc (fun w => order_any x y v1 u1 (by omega) (by omega) w)).mono ?_
    rintro e w' ⟨rfl, hg⟩
    exact ⟨r, fl, .inl ⟨p, mx, one, inf, sg, nan, x, y, hF, hx, hy, hc⟩, rfl, hg⟩
  · refine (cmp_no f a b s (fun w => formatOf_no f hf w) w).mono ?_
    rintro e w' ⟨rfl, hg⟩
    exact ⟨2, 1, .inr ⟨hf, rfl, rfl⟩, rfl, hg⟩

theorem CmpIs.one {f a b : Int} {s : Bool} {r fl r' fl' : Int} (h : CmpIs f a b s r fl) (h' : CmpIs f a b s r' fl') : r = r' ∧ fl = fl' := by
  rcases h with ⟨p, mx, one, inf, sg, nan, x, y, hF, hx, hy, hp⟩ | ⟨hF, rfl, rfl⟩ <;>
  rcases h' with ⟨p', mx', one', inf', sg', nan', x', y', hF', hx', hy', hp'⟩ | ⟨hF', rfl, rfl⟩
  · obtain ⟨rfl, rfl, rfl, rfl, rfl, rfl⟩ := hF.one hF'
    obtain rfl := hx.one hF hx'
    obtain rfl := hy.one hF hy'
    exact CmpO.one hp hp'
  · exact absurd hF.yes.symm (by simp [hF'])
  · exact absurd hF'.yes.symm (by simp [hF])
  · exact ⟨rfl, rfl⟩

end Go.Proofs.YtkflpogmhailhaaGreatDoor

/- Compare and the places of words. -/
set_option linter.unusedVariables false
set_option linter.unusedSimpArgs false
namespace Go.Proofs.YtkflpogmhailhaaGreatDoor
open Go.RowKit

/-- A word's place among the numbers. -/
def nW (sg a : Int) : Int := if a < sg then a else sg - a

theorem or3_neg (a b c : Int) : or3 (-a) (-b) (-c) = - or3 a b c := by
  unfold or3
  split <;> split <;> (try split) <;> (try split) <;> omega
theorem lexO_swap (x y : Opd) : lexO y x = - lexO x y := by
  unfold lexO
  rw [cmpI_swap x.c y.c, cmpI_swap x.e y.e, cmpI_swap (x.M : Int) (y.M : Int), or3_neg]
theorem ordO_swap (x y : Opd) : ordO y x = - ordO x y := by
  unfold ordO
  rw [lexO_swap x y]
  split <;> split <;> (try split) <;> (try split) <;> omega
theorem or3_01 {a b c : Int} (ha : a = -1 ∨ a = 0 ∨ a = 1) (hb : b = -1 ∨ b = 0 ∨ b = 1) (hc : c = -1 ∨ c = 0 ∨ c = 1) : or3 a b c = -1 ∨ or3 a b c = 0 ∨ or3 a b c = 1 := by
  unfold or3
  split <;> (try split) <;> omega
theorem ordO_01 {x y : Opd} (hx : x.s = 0 ∨ x.s = 1) (hy : y.s = 0 ∨ y.s = 1) : ordO x y = -1 ∨ ordO x y = 0 ∨ ordO x y = 1 := by
  have h : lexO x y = -1 ∨ lexO x y = 0 ∨ lexO x y = 1 := or3_01 (cmpI_01 _ _) (cmpI_01 _ _) (cmpI_01 _ _)
  unfold ordO
  split
  · omega
  · split <;> omega

theorem CmpIs.swap {f a b : Int} {s : Bool} {r fl r' fl' : Int} (h : CmpIs f a b s r fl) (h' : CmpIs f b a s r' fl') : fl' = fl ∧ (r = 2 ∧ r' = 2 ∨ (r = -1 ∨ r = 0 ∨ r = 1) ∧ r' = -r) := by
  rcases h with ⟨p, mx, one, inf, sg, nan, x, y, hF, hx, hy, hp⟩ | ⟨hF, rfl, rfl⟩ <;>
  rcases h' with ⟨p', mx', one', inf', sg', nan', y', x', hF', hy', hx', hp'⟩ | ⟨hF', rfl, rfl⟩
  · obtain ⟨rfl, rfl, rfl, rfl, rfl, rfl⟩ := hF.one hF'
    obtain rfl := hx.one hF hx'
    obtain rfl := hy.one hF hy'
    have hm : max y.c x.c = max x.c y.c := by omega
    have h01 := ordO_01 (opd_vo hF hx).1.s01 (opd_vo hF hy).1.s01
    have hsw := ordO_swap x y
    unfold CmpO at hp hp'
    rw [hm, hsw] at hp'
    generalize max x.c y.c = m at *
    generalize ordO x y = d at *
    cases s <;> simp at hp hp' <;> omega
  · exact absurd hF.yes.symm (by simp [hF'])
  · exact absurd hF'.yes.symm (by simp [hF])
  · exact ⟨rfl, .inl ⟨rfl, rfl⟩⟩

/-- Signs and magnitudes against places. -/
theorem nW_word {inf sg a v : Int} {x : Opd} (h : WordIs inf sg a x v) (hs : inf < sg) : x.s = 0 ∧ nW sg a = v ∧ a = v ∨ x.s = 1 ∧ nW sg a = -v ∧ a = v + sg := by
  obtain ⟨h1, h2, h3, _⟩ := h
  unfold nW
  rcases h1 with ⟨e, rfl⟩ | ⟨e, rfl⟩
  · exact .inl ⟨e, by rw [if_pos (by omega)], rfl⟩
  · exact .inr ⟨e, by rw [if_neg (by omega)]; omega, rfl⟩

theorem ord_n {f p mx one inf sg nan a b : Int} (h : IsFmt f p mx one inf sg nan) (a0 : 0 ≤ a) (b0 : 0 ≤ b) {x y : Opd} (hx : OpdIs p mx one inf sg nan a x) (hy : OpdIs p mx one inf sg nan b y) (xc : x.c ≤ 2) (yc : y.c ≤ 2) :
    (ordO x y ≤ 0 → nW sg a ≤ nW sg b) ∧ (0 ≤ ordO x y → nW sg b ≤ nW sg a) ∧ (ordO x y = 0 → a = b) ∧ (¬ max x.c y.c = 0 → ordO x y = cmpI (nW sg a) (nW sg b)) ∧ (max x.c y.c = 0 → nW sg a = nW sg b) := by
  have hb := h.bounds
  obtain ⟨v, u, hv, hu, hl⟩ := ord_word h a0 b0 hx hy xc yc
  have nv := nW_word hv (by omega)
  have nu := nW_word hu (by omega)
  obtain ⟨_, v0, v1, vz, _⟩ := hv
  obtain ⟨_, u0, u1, uz, _⟩ := hu
  have x0 := (opd_vo h hx).1.c0
  have y0 := (opd_vo h hy).1.c0
  have hm : max x.c y.c = 0 ↔ v = 0 ∧ u = 0 := by omega
  have hord : x.s = 0 ∧ y.s = 0 ∧ ordO x y = cmpI v u ∨ x.s = 1 ∧ y.s = 1 ∧ ordO x y = - cmpI v u ∨ x.s = 0 ∧ y.s = 1 ∧ ordO x y = 1 ∨ x.s = 1 ∧ y.s = 0 ∧ ordO x y = -1 := by
    unfold ordO
    rw [hl]
    rcases nv with ⟨e1, _⟩ | ⟨e1, _⟩ <;> rcases nu with ⟨e2, _⟩ | ⟨e2, _⟩ <;> rw [e1, e2] <;> simp
  have hc : (v < u ∧ cmpI v u = -1) ∨ (v = u ∧ cmpI v u = 0) ∨ (u < v ∧ cmpI v u = 1) := by
    rcases Int.lt_trichotomy v u with c | c | c
    · exact .inl ⟨c, cmpI_lt c⟩
    · exact .inr (.inl ⟨c, cmpI_eq c⟩)
    · exact .inr (.inr ⟨c, cmpI_gt c⟩)
  refine ⟨fun k => by omega, fun k => by omega, fun k => by omega, fun k => ?_, fun k => by omega⟩
  have hz : ¬ (v = 0 ∧ u = 0) := fun q => k (hm.2 q)
  rcases Int.lt_trichotomy (nW sg a) (nW sg b) with c | c | c
  · rw [cmpI_lt c]; omega
  · rw [cmpI_eq c]; omega
  · rw [cmpI_gt c]; omega

/-- Compare of two words that are no NaNs. -/
theorem cmp_n {f p mx one inf sg nan a b : Int} (h : IsFmt f p mx one inf sg nan) (a0 : 0 ≤ a) (b0 : 0 ≤ b) {x y : Opd} (hx : OpdIs p mx one inf sg nan a x) (hy : OpdIs p mx one inf sg nan b y) (xc : x.c ≤ 2) (yc : y.c ≤ 2) {s : Bool} {r fl : Int} (hc : CmpIs f a b s r fl) : r = cmpI (nW sg a) (nW sg b) ∧ fl = 0 := by
  rcases hc with ⟨p', mx', one', inf', sg', nan', x', y', hF', hx', hy', hp⟩ | ⟨hF', _⟩
  · obtain ⟨rfl, rfl, rfl, rfl, rfl, rfl⟩ := h.one hF'
    obtain rfl := hx.one h hx'
    obtain rfl := hy.one h hy'
    obtain ⟨_, _, _, h4, h5⟩ := ord_n h a0 b0 hx hy xc yc
    rcases hp with ⟨c, _⟩ | ⟨c, _⟩ | ⟨c, _⟩ | ⟨c, rfl, rfl⟩ | ⟨c, rfl, rfl⟩
    · omega
    · omega
    · omega
    · exact ⟨by rw [cmpI_eq (h5 c)], rfl⟩
    · exact ⟨h4 (by omega), rfl⟩
  · exact absurd h.yes.symm (by simp [hF'])

end Go.Proofs.YtkflpogmhailhaaGreatDoor
