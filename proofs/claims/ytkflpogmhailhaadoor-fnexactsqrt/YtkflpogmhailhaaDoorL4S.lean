/- impl's squareRoot: the ways through it. -/
import Derived.Test.YtkflpogmhailhaaDoorL3I
import Derived.Test.YtkflpogmhailhaaDoorL4C
import Derived.Deep.RegionHeld3
import Derived.Deep.DeepCutAuto
set_option linter.unusedVariables false
set_option linter.unusedSimpArgs false
namespace Go.Proofs.YtkflpogmhailhaaDoor
open Go.RowKit

set_option maxRecDepth 100000 in
set_option maxHeartbeats 400000 in
theorem squareRoot_zero (p mn mx md : Int) (k : Nat) (sx ex cx xh xl sy ey cy yh yl : Int) (tx ty : Bool)  (w : World) :
    Calls Tryd.prog 48 #[.agg #[.int .i64 p, .int .i64 mn, .int .i64 mx, .int .i64 md, .func (.func k) #[] #[]], .agg #[.int .i64 sx, .int .i64 ex, .int .i64 0, .int .u64 xh, .int .u64 xl, .bool tx, .int .i64 0], .agg #[.int .i64 sy, .int .i64 ey, .int .i64 cy, .int .u64 yh, .int .u64 yl, .bool ty, .int .i64 0]] w fun e w' => e = .returned (.agg #[.int .i64 sx, .int .i64 ex, .int .i64 0, .int .u64 xh, .int .u64 xl, .bool tx, .int .i64 0]) ∧ Gr w w' := by
  go_enter Tryd.func48, Tryd.ntmps48
  go_wp2
  go_returns
  exact ⟨rfl, Gr.g⟩

set_option maxRecDepth 100000 in
set_option maxHeartbeats 400000 in
theorem squareRoot_neg1 (p mn mx md : Int) (k : Nat) (sx ex cx xh xl sy ey cy yh yl : Int) (tx ty : Bool)  (w : World) :
    Calls Tryd.prog 48 #[.agg #[.int .i64 p, .int .i64 mn, .int .i64 mx, .int .i64 md, .func (.func k) #[] #[]], .agg #[.int .i64 1, .int .i64 ex, .int .i64 1, .int .u64 xh, .int .u64 xl, .bool tx, .int .i64 0], .agg #[.int .i64 sy, .int .i64 ey, .int .i64 cy, .int .u64 yh, .int .u64 yl, .bool ty, .int .i64 0]] w fun e w' => e = .returned (.agg #[.int .i64 0, .int .i64 0, .int .i64 4, .int .u64 0, .int .u64 0, .bool false, .int .i64 0]) ∧ Gr w w' := by
  go_enter Tryd.func48, Tryd.ntmps48
  go_wp2
  go_returns
  exact ⟨rfl, Gr.g⟩

set_option maxRecDepth 100000 in
set_option maxHeartbeats 400000 in
theorem squareRoot_neg2 (p mn mx md : Int) (k : Nat) (sx ex cx xh xl sy ey cy yh yl : Int) (tx ty : Bool)  (w : World) :
    Calls Tryd.prog 48 #[.agg #[.int .i64 p, .int .i64 mn, .int .i64 mx, .int .i64 md, .func (.func k) #[] #[]], .agg #[.int .i64 1, .int .i64 ex, .int .i64 2, .int .u64 xh, .int .u64 xl, .bool tx, .int .i64 0], .agg #[.int .i64 sy, .int .i64 ey, .int .i64 cy, .int .u64 yh, .int .u64 yl, .bool ty, .int .i64 0]] w fun e w' => e = .returned (.agg #[.int .i64 0, .int .i64 0, .int .i64 4, .int .u64 0, .int .u64 0, .bool false, .int .i64 0]) ∧ Gr w w' := by
  go_enter Tryd.func48, Tryd.ntmps48
  go_wp2
  go_returns
  exact ⟨rfl, Gr.g⟩

set_option maxRecDepth 100000 in
set_option maxHeartbeats 400000 in
theorem squareRoot_inf (p mn mx md : Int) (k : Nat) (sx ex cx xh xl sy ey cy yh yl : Int) (tx ty : Bool)  (w : World) :
    Calls Tryd.prog 48 #[.agg #[.int .i64 p, .int .i64 mn, .int .i64 mx, .int .i64 md, .func (.func k) #[] #[]], .agg #[.int .i64 0, .int .i64 ex, .int .i64 2, .int .u64 xh, .int .u64 xl, .bool tx, .int .i64 0], .agg #[.int .i64 sy, .int .i64 ey, .int .i64 cy, .int .u64 yh, .int .u64 yl, .bool ty, .int .i64 0]] w fun e w' => e = .returned (.agg #[.int .i64 0, .int .i64 ex, .int .i64 2, .int .u64 xh, .int .u64 xl, .bool tx, .int .i64 0]) ∧ Gr w w' := by
  go_enter Tryd.func48, Tryd.ntmps48
  go_wp2
  go_returns
  exact ⟨rfl, Gr.g⟩

/-- The variables of squareRoot behind a drawn region. -/
structure SqAt (w wx : World) (p mn mx md : Int) (k : Nat) (xl : Int) : Prop where
  g : Gr w wx := by exact kr
  s0 : wx.cell? ⟨w.heap.size, 0, none⟩ = some (.int .i64 p) := by exact kl
  s1 : wx.cell? ⟨w.heap.size, 1, none⟩ = some (.int .i64 mn) := by exact kl
  s2 : wx.cell? ⟨w.heap.size, 2, none⟩ = some (.int .i64 mx) := by exact kl
  s3 : wx.cell? ⟨w.heap.size, 3, none⟩ = some (.int .i64 md) := by exact kl
  s4 : wx.cell? ⟨w.heap.size, 4, none⟩ = some (.func (.func k) #[] #[]) := by exact kl
  x4 : wx.cell? ⟨w.heap.size + 1, 4, none⟩ = some (.int .u64 xl) := by exact kl
  r0 : wx.cell? ⟨w.heap.size + 1 + 1 + 1, 0, none⟩ = some (.int .i64 0) := by exact kl
  r0z : wx.frozen? ⟨w.heap.size + 1 + 1 + 1, 0, none⟩ = false := by exact kl
  r1 : wx.cell? ⟨w.heap.size + 1 + 1 + 1, 1, none⟩ = some (.int .i64 0) := by exact kl
  r1z : wx.frozen? ⟨w.heap.size + 1 + 1 + 1, 1, none⟩ = false := by exact kl
  r2 : wx.cell? ⟨w.heap.size + 1 + 1 + 1, 2, none⟩ = some (.int .i64 0) := by exact kl
  r2z : wx.frozen? ⟨w.heap.size + 1 + 1 + 1, 2, none⟩ = false := by exact kl
  r3 : wx.cell? ⟨w.heap.size + 1 + 1 + 1, 3, none⟩ = some (.int .u64 0) := by exact kl
  r3z : wx.frozen? ⟨w.heap.size + 1 + 1 + 1, 3, none⟩ = false := by exact kl
  r4 : wx.cell? ⟨w.heap.size + 1 + 1 + 1, 4, none⟩ = some (.int .u64 0) := by exact kl
  r4z : wx.frozen? ⟨w.heap.size + 1 + 1 + 1, 4, none⟩ = false := by exact kl
  r5 : wx.cell? ⟨w.heap.size + 1 + 1 + 1, 5, none⟩ = some (.bool false) := by exact kl
  r5z : wx.frozen? ⟨w.heap.size + 1 + 1 + 1, 5, none⟩ = false := by exact kl
  r6 : wx.cell? ⟨w.heap.size + 1 + 1 + 1, 6, none⟩ = some (.int .i64 0) := by exact kl
  r6z : wx.frozen? ⟨w.heap.size + 1 + 1 + 1, 6, none⟩ = false := by exact kl

set_option maxRecDepth 100000 in
set_option maxHeartbeats 4000000 in
theorem squareRoot_num (p mn mx md : Int) (k : Nat) (ex xh xl sy ey cy yh yl : Int) (tx ty : Bool) (fb hi od t sh hq : Int) (Nn : Nat) (hN : Nn < 18446744073709551616) (b0 : 0 ≤ fb) (b1 : fb ≤ 60) (e0 : -50000 ≤ ex) (e1 : ex ≤ 50000) (h1 : IntKind.i64.wrap (ex + fb) = hi) (h2 : bits .and .i64 hi 1 = od) (h3 : IntKind.i64.wrap (60 - fb) = t) (h4 : IntKind.i64.wrap (t + od) = sh) (s0 : 0 ≤ sh) (s1 : sh ≤ 62) (h5 : IntKind.u64.wrap (xl * 2 ^ sh.toNat) = (Nn : Int)) (h6 : hi / 2 = hq) (q0 : -100000 ≤ hq) (q1 : hq ≤ 100000) (o0 : 0 ≤ od) (o1 : od ≤ 1)
    (HF : Hid (∀ w, Calls Tryd.prog 82 #[.agg #[.int .i64 p, .int .i64 mn, .int .i64 mx]] w fun e w' => e = .returned (.int .i64 fb) ∧ Gr w w')) (os oe oc oh ol : Int) (ot : Bool)
    (HC : Hid (∀ w v, Digs rootC Nn w v → Calls Tryd.prog 81 #[.agg #[.int .i64 p, .int .i64 mn, .int .i64 mx, .int .i64 md, .func (.func k) #[] #[]], .agg #[.int .i64 0, .int .i64 hq], v] w fun x w' => x = .returned (.agg #[.int .i64 os, .int .i64 oe, .int .i64 oc, .int .u64 oh, .int .u64 ol, .bool ot, .int .i64 0]) ∧ Gr w w')) (w : World) :
    Calls Tryd.prog 48 #[.agg #[.int .i64 p, .int .i64 mn, .int .i64 mx, .int .i64 md, .func (.func k) #[] #[]], .agg #[.int .i64 0, .int .i64 ex, .int .i64 1, .int .u64 xh, .int .u64 xl, .bool tx, .int .i64 0], .agg #[.int .i64 sy, .int .i64 ey, .int .i64 cy, .int .u64 yh, .int .u64 yl, .bool ty, .int .i64 0]] w fun e w' => e = .returned (.agg #[.int .i64 os, .int .i64 oe, .int .i64 oc, .int .u64 oh, .int .u64 ol, .bool ot, .int .i64 0]) ∧ Gr w w' := by
  have HQ : Hid (∀ w, Calls Tryd.prog 83 #[.int .u64 (Nn : Int)] w fun e w' => ∃ b1 b2, e = .returned (.func (.func 120) #[] #[.pointer (some ⟨b1, 0, none⟩), .pointer (some ⟨b2, 0, none⟩)]) ∧ Digs rootC Nn w' (.func (.func 120) #[] #[.pointer (some ⟨b1, 0, none⟩), .pointer (some ⟨b2, 0, none⟩)]) ∧ Gr w w') := fun w => (rootDigits_any Nn hN w).mono (by
    rintro e w' ⟨v, rfl, hd, hg⟩
    obtain ⟨b1, b2, rfl, hh⟩ := hd
    exact ⟨b1, b2, rfl, ⟨b1, b2, rfl, hh⟩, hg⟩)
  go_enter Tryd.func48, Tryd.ntmps48
  go_wp2
  go_cut [7] (fun s7 wx => s7 = .int .i64 hi ∧ SqAt w wx p mn mx md k xl)
  case first =>
    go_region_held3 (fun w' => w'.cell? ⟨w.heap.size, 0, none⟩ = some (.int .i64 p) ∧ w'.cell? ⟨w.heap.size, 1, none⟩ = some (.int .i64 mn) ∧ w'.cell? ⟨w.heap.size, 2, none⟩ = some (.int .i64 mx) ∧ w'.cell? ⟨w.heap.size + 1, 1, none⟩ = some (.int .i64 ex))
      ((go_split_ands; (repeat' apply And.intro) <;> (repeat' (first | (with_reducible assumption) | (with_reducible refine has_of (by with_reducible assumption)) | (with_reducible refine Gr.old (by with_reducible assumption) ?_) | (with_reducible refine cell_swap _ ?_ (by with_reducible assumption); omega) | (with_reducible refine cell_setSame ?_) | (with_reducible refine has_old (by with_reducible assumption) ?_) | (with_reducible refine has_set ?_) | (with_reducible refine cell_setOff ?_ ?_; omega) | (with_reducible refine cell_setNew ?_ ?_; (dsimp only; omega)) | (simp [go_sem]; done) | (simp [go_sem]; rfl) | (with_reducible refine cell_alloc _ ?_) | (with_reducible refine cell_drew ?_) | (with_reducible refine has_alloc _ ?_) | (with_reducible refine fz_old (by with_reducible assumption) ?_) | (with_reducible refine fz_alloc ?_) | (with_reducible refine fz_set ?_) | (with_reducible refine fz_drew ?_)))))
      (first | (go_at_call 82; refine (HF.out _).mono ?_; rintro e w1 ⟨rfl, hg_w1⟩))
    all_goals (try go_split_ands)
    all_goals (go_wp2; go_meet)
    all_goals exact ⟨rfl, {}⟩
  case rest =>
    obtain ⟨rfl, ⟨qg, qs0, qs1, qs2, qs3, qs4, qx4, qr0, qr0z, qr1, qr1z, qr2, qr2z, qr3, qr3z, qr4, qr4z, qr5, qr5z, qr6, qr6z⟩⟩ := hcut
    go_wp2
    go_cut [8] (fun s8 wy => s8 = .int .u64 (Nn : Int) ∧ SqAt w wy p mn mx md k xl)
    case first =>
      go_region_held3 (fun w' => w'.cell? ⟨w.heap.size, 0, none⟩ = some (.int .i64 p) ∧ w'.cell? ⟨w.heap.size, 1, none⟩ = some (.int .i64 mn) ∧ w'.cell? ⟨w.heap.size, 2, none⟩ = some (.int .i64 mx) ∧ w'.cell? ⟨w.heap.size + 1, 4, none⟩ = some (.int .u64 xl))
        ((go_split_ands; (repeat' apply And.intro) <;> (repeat' (first | (with_reducible assumption) | (with_reducible refine has_of (by with_reducible assumption)) | (with_reducible refine Gr.old (by with_reducible assumption) ?_) | (with_reducible refine cell_swap _ ?_ (by with_reducible assumption); omega) | (with_reducible refine cell_setSame ?_) | (with_reducible refine has_old (by with_reducible assumption) ?_) | (with_reducible refine has_set ?_) | (with_reducible refine cell_setOff ?_ ?_; omega) | (with_reducible refine cell_setNew ?_ ?_; (dsimp only; omega)) | (simp [go_sem]; done) | (simp [go_sem]; rfl) | (with_reducible refine cell_alloc _ ?_) | (with_reducible refine cell_drew ?_) | (with_reducible refine has_alloc _ ?_) | (with_reducible refine fz_old (by with_reducible assumption) ?_) | (with_reducible refine fz_alloc ?_) | (with_reducible refine fz_set ?_) | (with_reducible refine fz_drew ?_)))))
        (first | (go_at_call 82; refine (HF.out _).mono ?_; rintro e w2 ⟨rfl, hg_w2⟩))
      all_goals (try go_split_ands)
      all_goals (go_wp2; go_meet)
      all_goals exact ⟨rfl, {}⟩
    case rest =>
      clear qs0 qs1 qs2 qs3 qs4 qx4 qr0 qr0z qr1 qr1z qr2 qr2z qr3 qr3z qr4 qr4z qr5 qr5z qr6 qr6z
      obtain ⟨rfl, ⟨vg, vs0, vs1, vs2, vs3, vs4, vx4, vr0, vr0z, vr1, vr1z, vr2, vr2z, vr3, vr3z, vr4, vr4z, vr5, vr5z, vr6, vr6z⟩⟩ := hcut
      go_wp2
      go_region_held3 (fun w' => w'.cell? ⟨w.heap.size, 0, none⟩ = some (.int .i64 p) ∧ w'.cell? ⟨w.heap.size, 1, none⟩ = some (.int .i64 mn) ∧ w'.cell? ⟨w.heap.size, 2, none⟩ = some (.int .i64 mx) ∧ w'.cell? ⟨w.heap.size, 3, none⟩ = some (.int .i64 md) ∧ w'.cell? ⟨w.heap.size, 4, none⟩ = some (.func (.func k) #[] #[]))
        ((go_split_ands; (repeat' apply And.intro) <;> (repeat' (first | (with_reducible assumption) | (with_reducible refine has_of (by with_reducible assumption)) | (with_reducible refine Gr.old (by with_reducible assumption) ?_) | (with_reducible refine cell_swap _ ?_ (by with_reducible assumption); omega) | (with_reducible refine cell_setSame ?_) | (with_reducible refine has_old (by with_reducible assumption) ?_) | (with_reducible refine has_set ?_) | (with_reducible refine cell_setOff ?_ ?_; omega) | (with_reducible refine cell_setNew ?_ ?_; (dsimp only; omega)) | (simp [go_sem]; done) | (simp [go_sem]; rfl) | (with_reducible refine cell_alloc _ ?_) | (with_reducible refine cell_drew ?_) | (with_reducible refine has_alloc _ ?_) | (with_reducible refine fz_old (by with_reducible assumption) ?_) | (with_reducible refine fz_alloc ?_) | (with_reducible refine fz_set ?_) | (with_reducible refine fz_drew ?_)))))
        (first
          | (go_at_call 83; refine (HQ.out _).mono ?_; rintro e w4 ⟨b1, b2, rfl, hdg, hg_w4⟩; have dr0 : w4.cell? ⟨w.heap.size + 1 + 1 + 1, 0, none⟩ = some (.int .i64 0) := hg_w4.c; have drz0 : w4.frozen? ⟨w.heap.size + 1 + 1 + 1, 0, none⟩ = false := hg_w4.z; have dr1 : w4.cell? ⟨w.heap.size + 1 + 1 + 1, 1, none⟩ = some (.int .i64 0) := hg_w4.c; have drz1 : w4.frozen? ⟨w.heap.size + 1 + 1 + 1, 1, none⟩ = false := hg_w4.z; have dr2 : w4.cell? ⟨w.heap.size + 1 + 1 + 1, 2, none⟩ = some (.int .i64 0) := hg_w4.c; have drz2 : w4.frozen? ⟨w.heap.size + 1 + 1 + 1, 2, none⟩ = false := hg_w4.z; have dr3 : w4.cell? ⟨w.heap.size + 1 + 1 + 1, 3, none⟩ = some (.int .u64 0) := hg_w4.c; have drz3 : w4.frozen? ⟨w.heap.size + 1 + 1 + 1, 3, none⟩ = false := hg_w4.z; have dr4 : w4.cell? ⟨w.heap.size + 1 + 1 + 1, 4, none⟩ = some (.int .u64 0) := hg_w4.c; have drz4 : w4.frozen? ⟨w.heap.size + 1 + 1 + 1, 4, none⟩ = false := hg_w4.z; have dr5 : w4.cell? ⟨w.heap.size + 1 + 1 + 1, 5, none⟩ = some (.bool false) := hg_w4.c; have drz5 : w4.frozen? ⟨w.heap.size + 1 + 1 + 1, 5, none⟩ = false := hg_w4.z; have dr6 : w4.cell? ⟨w.heap.size + 1 + 1 + 1, 6, none⟩ = some (.int .i64 0) := hg_w4.c; have drz6 : w4.frozen? ⟨w.heap.size + 1 + 1 + 1, 6, none⟩ = false := hg_w4.z)
          | (go_at_call 81; refine (HC.out _ _ (Digs.gr hdg Gr.g)).mono ?_; rintro e w3 ⟨rfl, hg_w3⟩; have cr0 : w3.cell? ⟨w.heap.size + 1 + 1 + 1, 0, none⟩ = some (.int .i64 0) := hg_w3.c; have crz0 : w3.frozen? ⟨w.heap.size + 1 + 1 + 1, 0, none⟩ = false := hg_w3.z; have cr1 : w3.cell? ⟨w.heap.size + 1 + 1 + 1, 1, none⟩ = some (.int .i64 0) := hg_w3.c; have crz1 : w3.frozen? ⟨w.heap.size + 1 + 1 + 1, 1, none⟩ = false := hg_w3.z; have cr2 : w3.cell? ⟨w.heap.size + 1 + 1 + 1, 2, none⟩ = some (.int .i64 0) := hg_w3.c; have crz2 : w3.frozen? ⟨w.heap.size + 1 + 1 + 1, 2, none⟩ = false := hg_w3.z; have cr3 : w3.cell? ⟨w.heap.size + 1 + 1 + 1, 3, none⟩ = some (.int .u64 0) := hg_w3.c; have crz3 : w3.frozen? ⟨w.heap.size + 1 + 1 + 1, 3, none⟩ = false := hg_w3.z; have cr4 : w3.cell? ⟨w.heap.size + 1 + 1 + 1, 4, none⟩ = some (.int .u64 0) := hg_w3.c; have crz4 : w3.frozen? ⟨w.heap.size + 1 + 1 + 1, 4, none⟩ = false := hg_w3.z; have cr5 : w3.cell? ⟨w.heap.size + 1 + 1 + 1, 5, none⟩ = some (.bool false) := hg_w3.c; have crz5 : w3.frozen? ⟨w.heap.size + 1 + 1 + 1, 5, none⟩ = false := hg_w3.z; have cr6 : w3.cell? ⟨w.heap.size + 1 + 1 + 1, 6, none⟩ = some (.int .i64 0) := hg_w3.c; have crz6 : w3.frozen? ⟨w.heap.size + 1 + 1 + 1, 6, none⟩ = false := hg_w3.z))
      all_goals (try go_split_ands)
      all_goals go_wp2
      all_goals
        refine bodyPost_ret (v := .agg #[.int .i64 os, .int .i64 oe, .int .i64 oc, .int .u64 oh, .int .u64 ol, .bool ot, .int .i64 0]) (by simp [results, Tryd.results48, go_sem, cr0, cr1, cr2, cr3, cr4, cr5, cr6]) rfl ⟨rfl, ?_⟩
        exact Gr.g
end Go.Proofs.YtkflpogmhailhaaDoor
