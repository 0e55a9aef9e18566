/- impl.Fma. -/
import Derived.Test.YtopdeojgchagnabDoorL3I
import Derived.Deep.DeepCutAuto
set_option linter.unusedVariables false
set_option linter.unusedSimpArgs false
namespace Go.Proofs.YtopdeojgchagnabDoor
open Go.RowKit


set_option maxRecDepth 1000000 in
set_option maxHeartbeats 4000000 in
theorem fma_no (p mn mx md nan f mode a b c : Int) {w : World} (HF : Hid (∀ w', Gr w w' → Calls Tryd.prog 18 #[.int .i64 f, .int .i64 mode] w' fun x w'' => x = .returned (.tuple #[.agg #[.int .i64 p, .int .i64 mn, .int .i64 mx, .int .i64 md, Value.nilFunc], .bool false]) ∧ Gr w' w''))
    (HN : Hid (∀ w, Calls Tryd.prog 19 #[.agg #[.int .i64 p, .int .i64 mn, .int .i64 mx]] w fun e w' => e = .returned (.agg #[.int .u64 nan, .int .i64 1]) ∧ Gr w w')) :
    Calls Tryd.prog 5 #[.int .i64 f, .int .i64 mode, .int .u64 a, .int .u64 b, .int .u64 c] w fun e w' => e = .returned (.agg #[.int .u64 nan, .int .i64 1]) ∧ Gr w w' := by
  go_enter Tryd.func5, Tryd.ntmps5
  go_wp2_with (first
    | (go_at_call 18; refine (HF.out _ Gr.g).mono ?_; rintro x w1 ⟨rfl, hg_w1⟩; have kr0 : w1.cell? ⟨w.heap.size, 0, none⟩ = some (.int .u64 0) := hg_w1.c; have krz0 : w1.frozen? ⟨w.heap.size, 0, none⟩ = false := hg_w1.z; have kr1 : w1.cell? ⟨w.heap.size, 1, none⟩ = some (.int .i64 0) := hg_w1.c; have krz1 : w1.frozen? ⟨w.heap.size, 1, none⟩ = false := hg_w1.z)
    | (go_at_call 19; refine (HN.out _).mono ?_; rintro x w2 ⟨rfl, hg_w2⟩; have br0 : w2.cell? ⟨w.heap.size, 0, none⟩ = some (.int .u64 0) := hg_w2.c; have brz0 : w2.frozen? ⟨w.heap.size, 0, none⟩ = false := hg_w2.z; have br1 : w2.cell? ⟨w.heap.size, 1, none⟩ = some (.int .i64 0) := hg_w2.c; have brz1 : w2.frozen? ⟨w.heap.size, 1, none⟩ = false := hg_w2.z))
  refine bodyPost_ret (v := .agg #[.int .u64 nan, .int .i64 1]) (by simp [results, Tryd.results5, go_sem, br0, br1]) rfl ⟨rfl, ?_⟩
  exact Gr.g


/-- The variables of Fma behind the product. -/
structure FmaAt (p mn mx md : Int) (k : Nat) (w wx : World) (o bw : Nat) (us ue uc uh ul : Int) (ut : Bool) : Prop where
  g : Gr w wx := by exact kr
  n : w.heap.size < bw := by omega
  s0 : wx.cell? ⟨o, 0, none⟩ = some (.int .i64 p) := by exact kl
  s1 : wx.cell? ⟨o, 1, none⟩ = some (.int .i64 mn) := by exact kl
  s2 : wx.cell? ⟨o, 2, none⟩ = some (.int .i64 mx) := by exact kl
  s3 : wx.cell? ⟨o, 3, none⟩ = some (.int .i64 md) := by exact kl
  s4 : wx.cell? ⟨o, 4, none⟩ = some (.func (.func k) #[] #[]) := by exact kl
  u0 : wx.cell? ⟨bw, 0, none⟩ = some (.int .i64 us) := by exact kl
  u1 : wx.cell? ⟨bw, 1, none⟩ = some (.int .i64 ue) := by exact kl
  u2 : wx.cell? ⟨bw, 2, none⟩ = some (.int .i64 uc) := by exact kl
  u3 : wx.cell? ⟨bw, 3, none⟩ = some (.int .u64 uh) := by exact kl
  u4 : wx.cell? ⟨bw, 4, none⟩ = some (.int .u64 ul) := by exact kl
  u5 : wx.cell? ⟨bw, 5, none⟩ = some (.bool ut) := by exact kl
  u6 : wx.cell? ⟨bw, 6, none⟩ = some (.int .i64 0) := by exact kl
  r0 : wx.cell? ⟨w.heap.size, 0, none⟩ = some (.int .u64 0) := by exact kl
  rz0 : wx.frozen? ⟨w.heap.size, 0, none⟩ = false := by exact kl
  r1 : wx.cell? ⟨w.heap.size, 1, none⟩ = some (.int .i64 0) := by exact kl
  rz1 : wx.frozen? ⟨w.heap.size, 1, none⟩ = false := by exact kl

set_option maxRecDepth 1000000 in
set_option maxHeartbeats 4000000 in
theorem fma_ok (p mn mx md f : Int) (k : Nat) (a b c sx ex cx xh xl sy ey cy yh yl sz ez cz zh zl : Int) (tx ty tz : Bool) {w : World} (HF : Hid (∀ w', Gr w w' → Calls Tryd.prog 18 #[.int .i64 f, .int .i64 md] w' fun x w'' => x = .returned (.tuple #[.agg #[.int .i64 p, .int .i64 mn, .int .i64 mx, .int .i64 md, .func (.func k) #[] #[]], .bool true]) ∧ Gr w' w''))
    (HA : Hid (∀ w, Calls Tryd.prog 22 #[.agg #[.int .i64 p, .int .i64 mn, .int .i64 mx], .int .u64 a] w fun e w' => e = .returned (.agg #[.int .i64 sx, .int .i64 ex, .int .i64 cx, .int .u64 xh, .int .u64 xl, .bool tx, .int .i64 0]) ∧ Gr w w')) (HB : Hid (∀ w, Calls Tryd.prog 22 #[.agg #[.int .i64 p, .int .i64 mn, .int .i64 mx], .int .u64 b] w fun e w' => e = .returned (.agg #[.int .i64 sy, .int .i64 ey, .int .i64 cy, .int .u64 yh, .int .u64 yl, .bool ty, .int .i64 0]) ∧ Gr w w')) (HZ : Hid (∀ w, Calls Tryd.prog 22 #[.agg #[.int .i64 p, .int .i64 mn, .int .i64 mx], .int .u64 c] w fun e w' => e = .returned (.agg #[.int .i64 sz, .int .i64 ez, .int .i64 cz, .int .u64 zh, .int .u64 zl, .bool tz, .int .i64 0]) ∧ Gr w w')) (us ue uc uh ul : Int) (ut : Bool) (HC : Hid (∀ w, Calls Tryd.prog 20 #[.agg #[.int .i64 p, .int .i64 mn, .int .i64 mx, .int .i64 md, .func (.func k) #[] #[]], .func (.func 21) #[] #[], .agg #[.int .i64 sx, .int .i64 ex, .int .i64 cx, .int .u64 xh, .int .u64 xl, .bool tx, .int .i64 0], .agg #[.int .i64 sy, .int .i64 ey, .int .i64 cy, .int .u64 yh, .int .u64 yl, .bool ty, .int .i64 0]] w fun e w' => e = .returned (.agg #[.int .i64 us, .int .i64 ue, .int .i64 uc, .int .u64 uh, .int .u64 ul, .bool ut, .int .i64 0]) ∧ Gr w w')) (Q : Int → Int → Int → Int → Int → Bool → Prop) (HS : Hid (∀ w, Calls Tryd.prog 20 #[.agg #[.int .i64 p, .int .i64 mn, .int .i64 mx, .int .i64 md, .func (.func k) #[] #[]], .func (.func 24) #[] #[], .agg #[.int .i64 us, .int .i64 ue, .int .i64 uc, .int .u64 uh, .int .u64 ul, .bool ut, .int .i64 0], .agg #[.int .i64 sz, .int .i64 ez, .int .i64 cz, .int .u64 zh, .int .u64 zl, .bool tz, .int .i64 0]] w fun e w' => ∃ os oe oc oh ol ot, Q os oe oc oh ol ot ∧ e = .returned (.agg #[.int .i64 os, .int .i64 oe, .int .i64 oc, .int .u64 oh, .int .u64 ol, .bool ot, .int .i64 0]) ∧ Gr w w'))
    (R : Int → Int → Prop) (HP : Hid (∀ os oe oc oh ol ot w, Q os oe oc oh ol ot → Calls Tryd.prog 23 #[.agg #[.int .i64 p, .int .i64 mn, .int .i64 mx, .int .i64 md, .func (.func k) #[] #[]], .agg #[.int .i64 os, .int .i64 oe, .int .i64 oc, .int .u64 oh, .int .u64 ol, .bool ot, .int .i64 0]] w fun e w' => ∃ z fl, R z fl ∧ e = .returned (.agg #[.int .u64 z, .int .i64 fl]) ∧ Gr w w')) :
    Calls Tryd.prog 5 #[.int .i64 f, .int .i64 md, .int .u64 a, .int .u64 b, .int .u64 c] w fun e w' => ∃ z fl, R z fl ∧ e = .returned (.agg #[.int .u64 z, .int .i64 fl]) ∧ Gr w w' := by
  go_enter Tryd.func5, Tryd.ntmps5
  go_wp2_with (go_at_call 18; refine (HF.out _ Gr.g).mono ?_; rintro x w1 ⟨rfl, hg_w1⟩; have kr0 : w1.cell? ⟨w.heap.size, 0, none⟩ = some (.int .u64 0) := hg_w1.c; have krz0 : w1.frozen? ⟨w.heap.size, 0, none⟩ = false := hg_w1.z; have kr1 : w1.cell? ⟨w.heap.size, 1, none⟩ = some (.int .i64 0) := hg_w1.c; have krz1 : w1.frozen? ⟨w.heap.size, 1, none⟩ = false := hg_w1.z; have hz1 := cell_size kr0)
  go_cut [13] (fun s13 wx => ∃ bw : Nat, s13 = .pointer (some ⟨bw, 0, none⟩) ∧ FmaAt p mn mx md k w wx w1.heap.size bw us ue uc uh ul ut)
  case first =>
    clear HS HP HZ
    go_region_held3 (fun w' => w'.cell? ⟨w1.heap.size, 0, none⟩ = some (.int .i64 p) ∧ w'.cell? ⟨w1.heap.size, 1, none⟩ = some (.int .i64 mn) ∧ w'.cell? ⟨w1.heap.size, 2, none⟩ = some (.int .i64 mx) ∧ w'.cell? ⟨w1.heap.size, 3, none⟩ = some (.int .i64 md) ∧ w'.cell? ⟨w1.heap.size, 4, none⟩ = some (.func (.func k) #[] #[]))
      ((go_split_ands; (repeat' apply And.intro) <;> (repeat' (first | (with_reducible assumption) | (with_reducible refine has_of (by with_reducible assumption)) | (with_reducible refine Gr.old (by with_reducible assumption) ?_) | (with_reducible refine cell_swap _ ?_ (by with_reducible assumption); omega) | (with_reducible refine cell_setSame ?_) | (with_reducible refine has_old (by with_reducible assumption) ?_) | (with_reducible refine has_set ?_) | (with_reducible refine cell_setOff ?_ ?_; omega) | (with_reducible refine cell_setNew ?_ ?_; (dsimp only; omega)) | (simp [go_sem]; done) | (simp [go_sem]; rfl) | (with_reducible refine cell_alloc _ ?_) | (with_reducible refine cell_drew ?_) | (with_reducible refine has_alloc _ ?_) | (with_reducible refine fz_old (by with_reducible assumption) ?_) | (with_reducible refine fz_alloc ?_) | (with_reducible refine fz_set ?_) | (with_reducible refine fz_drew ?_)))))
      (first
        | (go_at_call 22; first | (with_reducible refine (HA.out _).mono ?_; rintro e w2a ⟨rfl, hg_w2a⟩; have cr0 : w2a.cell? ⟨w.heap.size, 0, none⟩ = some (.int .u64 0) := hg_w2a.c; have crz0 : w2a.frozen? ⟨w.heap.size, 0, none⟩ = false := hg_w2a.z; have cr1 : w2a.cell? ⟨w.heap.size, 1, none⟩ = some (.int .i64 0) := hg_w2a.c; have crz1 : w2a.frozen? ⟨w.heap.size, 1, none⟩ = false := hg_w2a.z; have cs0 : w2a.cell? ⟨w1.heap.size, 0, none⟩ = some (.int .i64 p) := hg_w2a.c; have cs1 : w2a.cell? ⟨w1.heap.size, 1, none⟩ = some (.int .i64 mn) := hg_w2a.c; have cs2 : w2a.cell? ⟨w1.heap.size, 2, none⟩ = some (.int .i64 mx) := hg_w2a.c; have cs3 : w2a.cell? ⟨w1.heap.size, 3, none⟩ = some (.int .i64 md) := hg_w2a.c; have cs4 : w2a.cell? ⟨w1.heap.size, 4, none⟩ = some (.func (.func k) #[] #[]) := hg_w2a.c; have hc_w2a := hg_w2a.cells; have hf_w2a := hg_w2a.frozens; have hz_w2a := hg_w2a.size; (try simp only [World.size_alloc, World.size_drew, World.size_setCell] at hz_w2a); (try (have hs0w2a : w1.heap.size + 1 < w2a.heap.size := (by omega))); (try (have hs1w2a : w2b.heap.size < w2a.heap.size := (by omega)))) | (with_reducible refine (HB.out _).mono ?_; rintro e w2b ⟨rfl, hg_w2b⟩; have cr0 : w2b.cell? ⟨w.heap.size, 0, none⟩ = some (.int .u64 0) := hg_w2b.c; have crz0 : w2b.frozen? ⟨w.heap.size, 0, none⟩ = false := hg_w2b.z; have cr1 : w2b.cell? ⟨w.heap.size, 1, none⟩ = some (.int .i64 0) := hg_w2b.c; have crz1 : w2b.frozen? ⟨w.heap.size, 1, none⟩ = false := hg_w2b.z; have cs0 : w2b.cell? ⟨w1.heap.size, 0, none⟩ = some (.int .i64 p) := hg_w2b.c; have cs1 : w2b.cell? ⟨w1.heap.size, 1, none⟩ = some (.int .i64 mn) := hg_w2b.c; have cs2 : w2b.cell? ⟨w1.heap.size, 2, none⟩ = some (.int .i64 mx) := hg_w2b.c; have cs3 : w2b.cell? ⟨w1.heap.size, 3, none⟩ = some (.int .i64 md) := hg_w2b.c; have cs4 : w2b.cell? ⟨w1.heap.size, 4, none⟩ = some (.func (.func k) #[] #[]) := hg_w2b.c; have hc_w2b := hg_w2b.cells; have hf_w2b := hg_w2b.frozens; have hz_w2b := hg_w2b.size; (try simp only [World.size_alloc, World.size_drew, World.size_setCell] at hz_w2b); (try (have hs0w2b : w1.heap.size + 1 < w2b.heap.size := (by omega))); (try (have hs1w2b : w2a.heap.size < w2b.heap.size := (by omega)))))
        | (go_at_call 20; refine (HC.out _).mono ?_; rintro e w3 ⟨rfl, hg_w3⟩; have dr0 : w3.cell? ⟨w.heap.size, 0, none⟩ = some (.int .u64 0) := hg_w3.c; have drz0 : w3.frozen? ⟨w.heap.size, 0, none⟩ = false := hg_w3.z; have dr1 : w3.cell? ⟨w.heap.size, 1, none⟩ = some (.int .i64 0) := hg_w3.c; have drz1 : w3.frozen? ⟨w.heap.size, 1, none⟩ = false := hg_w3.z; have ds0 : w3.cell? ⟨w1.heap.size, 0, none⟩ = some (.int .i64 p) := hg_w3.c; have ds1 : w3.cell? ⟨w1.heap.size, 1, none⟩ = some (.int .i64 mn) := hg_w3.c; have ds2 : w3.cell? ⟨w1.heap.size, 2, none⟩ = some (.int .i64 mx) := hg_w3.c; have ds3 : w3.cell? ⟨w1.heap.size, 3, none⟩ = some (.int .i64 md) := hg_w3.c; have ds4 : w3.cell? ⟨w1.heap.size, 4, none⟩ = some (.func (.func k) #[] #[]) := hg_w3.c; have hc_w3 := hg_w3.cells; have hf_w3 := hg_w3.frozens; have hz_w3 := hg_w3.size; (try simp only [World.size_alloc, World.size_drew, World.size_setCell] at hz_w3); (try (have hs0w3 : w1.heap.size + 1 < w3.heap.size := (by omega))); (try (have hs1w3 : w2a.heap.size < w3.heap.size := (by omega))); (try (have hs2w3 : w2b.heap.size < w3.heap.size := (by omega)))))
    all_goals (try go_split_ands)
    all_goals (go_wp2; go_meet)
    all_goals exact ⟨_, rfl, {}⟩
  case rest =>
    clear HA HB HC
    obtain ⟨bw, rfl, ⟨qg, qn, qs0, qs1, qs2, qs3, qs4, qu0, qu1, qu2, qu3, qu4, qu5, qu6, qr0, qrz0, qr1, qrz1⟩⟩ := hcut
    go_wp2
    go_region_held3 (fun w' => w'.cell? ⟨w1.heap.size, 0, none⟩ = some (.int .i64 p) ∧ w'.cell? ⟨w1.heap.size, 1, none⟩ = some (.int .i64 mn) ∧ w'.cell? ⟨w1.heap.size, 2, none⟩ = some (.int .i64 mx) ∧ w'.cell? ⟨w1.heap.size, 3, none⟩ = some (.int .i64 md) ∧ w'.cell? ⟨w1.heap.size, 4, none⟩ = some (.func (.func k) #[] #[]) ∧ w'.cell? ⟨bw, 0, none⟩ = some (.int .i64 us) ∧ w'.cell? ⟨bw, 1, none⟩ = some (.int .i64 ue) ∧ w'.cell? ⟨bw, 2, none⟩ = some (.int .i64 uc) ∧ w'.cell? ⟨bw, 3, none⟩ = some (.int .u64 uh) ∧ w'.cell? ⟨bw, 4, none⟩ = some (.int .u64 ul) ∧ w'.cell? ⟨bw, 5, none⟩ = some (.bool ut) ∧ w'.cell? ⟨bw, 6, none⟩ = some (.int .i64 0))
      ((go_split_ands; (repeat' apply And.intro) <;> (repeat' (first | (with_reducible assumption) | (with_reducible refine has_of (by with_reducible assumption)) | (with_reducible refine Gr.old (by with_reducible assumption) ?_) | (with_reducible refine cell_swap _ ?_ (by with_reducible assumption); omega) | (with_reducible refine cell_setSame ?_) | (with_reducible refine has_old (by with_reducible assumption) ?_) | (with_reducible refine has_set ?_) | (with_reducible refine cell_setOff ?_ ?_; omega) | (with_reducible refine cell_setNew ?_ ?_; (dsimp only; omega)) | (simp [go_sem]; done) | (simp [go_sem]; rfl) | (with_reducible refine cell_alloc _ ?_) | (with_reducible refine cell_drew ?_) | (with_reducible refine has_alloc _ ?_) | (with_reducible refine fz_old (by with_reducible assumption) ?_) | (with_reducible refine fz_alloc ?_) | (with_reducible refine fz_set ?_) | (with_reducible refine fz_drew ?_)))))
      (first
        | (go_at_call 22; refine (HZ.out _).mono ?_; rintro e w5 ⟨rfl, hg_w5⟩; have fr0 : w5.cell? ⟨w.heap.size, 0, none⟩ = some (.int .u64 0) := hg_w5.c; have frz0 : w5.frozen? ⟨w.heap.size, 0, none⟩ = false := hg_w5.z; have fr1 : w5.cell? ⟨w.heap.size, 1, none⟩ = some (.int .i64 0) := hg_w5.c; have frz1 : w5.frozen? ⟨w.heap.size, 1, none⟩ = false := hg_w5.z)
        | (go_at_call 20; refine (HS.out _).mono ?_; rintro e w6 ⟨os, oe, oc, oh, ol, ot, hq, rfl, hg_w6⟩; have gr0 : w6.cell? ⟨w.heap.size, 0, none⟩ = some (.int .u64 0) := hg_w6.c; have grz0 : w6.frozen? ⟨w.heap.size, 0, none⟩ = false := hg_w6.z; have gr1 : w6.cell? ⟨w.heap.size, 1, none⟩ = some (.int .i64 0) := hg_w6.c; have grz1 : w6.frozen? ⟨w.heap.size, 1, none⟩ = false := hg_w6.z)
        | (go_at_call 23; refine (HP.out _ _ _ _ _ _ _ hq).mono ?_; rintro e w7 ⟨z, fl, hr, rfl, hg_w7⟩; have er0 : w7.cell? ⟨w.heap.size, 0, none⟩ = some (.int .u64 0) := hg_w7.c; have erz0 : w7.frozen? ⟨w.heap.size, 0, none⟩ = false := hg_w7.z; have er1 : w7.cell? ⟨w.heap.size, 1, none⟩ = some (.int .i64 0) := hg_w7.c; have erz1 : w7.frozen? ⟨w.heap.size, 1, none⟩ = false := hg_w7.z))
    all_goals (try go_split_ands)
    all_goals go_wp2
    all_goals
      refine bodyPost_ret (v := .agg #[.int .u64 z, .int .i64 fl]) (by simp [results, Tryd.results5, go_sem, er0, er1]) rfl ⟨z, fl, hr, rfl, ?_⟩
      exact Gr.g

end Go.Proofs.YtopdeojgchagnabDoor
