/- impl.Fma. -/
import Derived.Test.YtkflpogmhailhaaGreatDoorB5
import Derived.Deep.DeepCutAuto
import Derived.Test.YtkflpogmhailhaaGreatDoorC0
import Derived.Test.YtkflpogmhailhaaGreatDoorC1
set_option linter.unusedVariables false
set_option linter.unusedSimpArgs false
namespace Go.Proofs.YtkflpogmhailhaaGreatDoor
open Go.RowKit


set_option maxRecDepth 1000000 in
set_option maxHeartbeats 4000000 in
theorem fma_no (p mn mx md nan f mode a b c : Int) {w : World} (HF : Hid (∀ w', Gr w w' → Calls Tryz.prog 69 #[.int .i64 f, .int .i64 mode] w' fun x w'' => x = .returned (.tuple #[.agg #[.int .i64 p, .int .i64 mn, .int .i64 mx, .int .i64 md, Value.nilFunc], .bool false]) ∧ Gr w' w''))
    (HN : Hid (∀ w, Calls Tryz.prog 70 #[.agg #[.int .i64 p, .int .i64 mn, .int .i64 mx]] w fun e w' => e = .returned (.agg #[.int .u64 nan, .int .i64 1]) ∧ Gr w w')) :
    Calls Tryz.prog 19 #[.int .i64 f, .int .i64 mode, .int .u64 a, .int .u64 b, .int .u64 c] w fun e w' => e = .returned (.agg #[.int .u64 nan, .int .i64 1]) ∧ Gr w w' := by
  go_enter Tryz.func19, Tryz.ntmps19
  go_wp2_with (first
    | (go_at_call 69; refine (HF.out _ Gr.g).mono ?_; rintro x w1 ⟨rfl, hg_w1⟩; have kr0 : w1.cell? ⟨w.heap.size, 0, none⟩ = some (.int .u64 0) := hg_w1.c; have krz0 : w1.frozen? ⟨w.heap.size, 0, none⟩ = false := hg_w1.z; have kr1 : w1.cell? ⟨w.heap.size, 1, none⟩ = some (.int .i64 0) := hg_w1.c; have krz1 : w1.frozen? ⟨w.heap.size, 1, none⟩ = false := hg_w1.z)
    | (go_at_call 70; refine (HN.out _).mono ?_; rintro x w2 ⟨rfl, hg_w2⟩; have br0 : w2.cell? ⟨w.heap.size, 0, none⟩ = some (.int .u64 0) := hg_w2.c; have brz0 : w2.frozen? ⟨w.heap.size, 0, none⟩ = false := hg_w2.z; have br1 : w2.cell? ⟨w.heap.size, 1, none⟩ = some (.int .i64 0) := hg_w2.c; have brz1 : w2.frozen? ⟨w.heap.size, 1, none⟩ = false := hg_w2.z))
  refine bodyPost_ret (v := .agg #[.int .u64 nan, .int .i64 1]) (by simp [results, Tryz.results19, go_sem, br0, br1]) rfl ⟨rfl, ?_⟩
  exact Gr.g


/-- The variables of Fma behind the product. -/
structure FmaAt (p mn mx md : Int) (k : Nat) (w wx : World) (o bw : Nat) (us ue uc uh ul : Int) (ut : Bool) : Prop where
  g : Gr w wx := by exact kr
  n : w.heap.size < bw := by omega
  s0 : wx.cell? ⟨o, 0, none⟩ = some (.int .i64 p) := by exact kl
  s1 : wx.cell? ⟨o, 1, none⟩ = some (.int .i64 mn) := by exact kl
  s2 : wx.cell? ⟨o, 2, none⟩ = some (.int .i64 mx) := by exact kl
  s3 : wx.cell? ⟨o, 3, none⟩ = some (.int .i64 md) := by exact kl
  s4 : wx.cell? ⟨o, 4, none⟩ = some (.func (.func k) #[] #[]) := by exact kl
  u0 : wx.cell? ⟨bw, 0, none⟩ = some (.int .i64 us) := by exact kl
  u1 : wx.cell? ⟨bw, 1, none⟩ = some (.int .i64 ue) := by exact kl
  u2 : wx.cell? ⟨bw, 2, none⟩ = some (.int .i64 uc) := by exact kl
  u3 : wx.cell? ⟨bw, 3, none⟩ = some (.int .u64 uh) := by exact kl
  u4 : wx.cell? ⟨bw, 4, none⟩ = some (.int .u64 ul) := by exact kl
  u5 : wx.cell? ⟨bw, 5, none⟩ = some (.bool ut) := by exact kl
  u6 : wx.cell? ⟨bw, 6, none⟩ = some (.int .i64 0) := by exact kl
  r0 : wx.cell? ⟨w.heap.size, 0, none⟩ = some (.int .u64 0) := by exact kl
  rz0 : wx.frozen? ⟨w.heap.size, 0, none⟩ = false := by exact kl
  r1 : wx.cell? ⟨w.heap.size, 1, none⟩ = some (.int .i64 0) := by exact kl
  rz1 : wx.frozen? ⟨w.heap.size, 1, none⟩ = false := by exact kl

set_option maxRecDepth 1000000 in
set_option maxHeartbeats 4000000 in
theorem fma_ok (p mn mx md f : Int) (k : Nat) (a b c sx ex cx xh xl sy ey cy yh yl sz ez cz zh zl : Int) (tx ty tz : Bool) {w : World} (HF : Hid (∀ w', Gr w w' → Calls Tryz.prog 69 #[.int .i64 f, .int .i64 md] w' fun x w'' => x = .returned (.tuple #[.agg #[.int .i64 p, .int .i64 mn, .int .i64 mx, .int .i64 md, .func (.func k) #[] #[]], .bool true]) ∧ Gr w' w''))
    (HA : Hid (∀ w, Calls Tryz.prog 53 #[.agg #[.int .i64 p, .int .i64 mn, .int .i64 mx], .int .u64 a] w fun e w' => e = .returned (.agg #[.int .i64 sx, .int .i64 ex, .int .i64 cx, .int .u64 xh, .int .u64 xl, .bool tx, .int .i64 0]) ∧ Gr w w')) (HB : Hid (∀ w, Calls Tryz.prog 53 #[.agg #[.int .i64 p, .int .i64 mn, .int .i64 mx], .int .u64 b] w fun e w' => e = .returned (.agg #[.int .i64 sy, .int .i64 ey, .int .i64 cy, .int .u64 yh, .int .u64 yl, .bool ty, .int .i64 0]) ∧ Gr w w')) (HZ : Hid (∀ w, Calls Tryz.prog 53 #[.agg #[.int .i64 p, .int .i64 mn, .int .i64 mx], .int .u64 c] w fun e w' => e = .returned (.agg #[.int .i64 sz, .int .i64 ez, .int .i64 cz, .int .u64 zh, .int .u64 zl, .bool tz, .int .i64 0]) ∧ Gr w w')) (us ue uc uh ul : Int) (ut : Bool) (HC : Hid (∀ w, Calls Tryz.prog 71 #[.agg #[.int .i64 p, .int .i64 mn, .int .i64 mx, .int .i64 md, .func (.func k) #[] #[]], .func (.func 66) #[] #[], .agg #[.int .i64 sx, .int .i64 ex, .int .i64 cx, .int .u64 xh, .int .u64 xl, .bool tx, .int .i64 0], .agg #[.int .i64 sy, .int .i64 ey, .int .i64 cy, .int .u64 yh, .int .u64 yl, .bool ty, .int .i64 0]] w fun e w' => e = .returned (.agg #[.int .i64 us, .int .i64 ue, .int .i64 uc, .int .u64 uh, .int .u64 ul, .bool ut, .int .i64 0]) ∧ Gr w w')) (Q : Int → Int → Int → Int → Int → Bool → Prop) (HS : Hid (∀ w, Calls Tryz.prog 71 #[.agg #[.int .i64 p, .int .i64 mn, .int .i64 mx, .int .i64 md, .func (.func k) #[] #[]], .func (.func 55) #[] #[], .agg #[.int .i64 us, .int .i64 ue, .int .i64 uc, .int .u64 uh, .int .u64 ul, .bool ut, .int .i64 0], .agg #[.int .i64 sz, .int .i64 ez, .int .i64 cz, .int .u64 zh, .int .u64 zl, .bool tz, .int .i64 0]] w fun e w' => ∃ os oe oc oh ol ot, Q os oe oc oh ol ot ∧ e = .returned (.agg #[.int .i64 os, .int .i64 oe, .int .i64 oc, .int .u64 oh, .int .u64 ol, .bool ot, .int .i64 0]) ∧ Gr w w'))
    (R : Int → Int → Prop) (HP : Hid (∀ os oe oc oh ol ot w, Q os oe oc oh ol ot → Calls Tryz.prog 72 #[.agg #[.int .i64 p, .int .i64 mn, .int .i64 mx, .int .i64 md, .func (.func k) #[] #[]], .agg #[.int .i64 os, .int .i64 oe, .int .i64 oc, .int .u64 oh, .int .u64 ol, .bool ot, .int .i64 0]] w fun e w' => ∃ z fl, R z fl ∧ e = .returned (.agg #[.int .u64 z, .int .i64 fl]) ∧ Gr w w')) :
    Calls Tryz.prog 19 #[.int .i64 f, .int .i64 md, .int .u64 a, .int .u64 b, .int .u64 c] w fun e w' => ∃ z fl, R z fl ∧ e = .returned (.agg #[.int .u64 z, .int .i64 fl]) ∧ Gr w w' := by
  go_enter Tryz.func19, Tryz.ntmps19
  go_wp2_with (go_at_call 69; refine (HF.out _ Gr.g).mono ?_; rintro x w1 ⟨rfl, hg_w1⟩; have kr0 : w1.cell? ⟨w.heap.size, 0, none⟩ = some (.int .u64 0) := hg_w1.c; have krz0 : w1.frozen? ⟨w.heap.size, 0, none⟩ = false := hg_w1.z; have kr1 : w1.cell? ⟨w.heap.size, 1, none⟩ = some (.int .i64 0) := hg_w1.c; have krz1 : w1.frozen? ⟨w.heap.size, 1, none⟩ = false := hg_w1.z; have hz1 := cell_size kr0)
  go_cut [13] (fun s13 wx => ∃ bw : Nat, s13 = .pointer (some ⟨bw, 0, none⟩) ∧ FmaAt p mn mx md k w wx w1.heap.size bw us ue uc uh ul ut)
  case first =>
    clear HS HP HZ
    go_region_held3 (fun w' => w'.cell? ⟨w1.heap.size, 0, none⟩ = some (.int .i64 p) ∧ w'.cell? ⟨w1.heap.size, 1, none⟩ = some (.int .i64 mn) ∧ w'.cell? ⟨w1.heap.size, 2, none⟩ = some (.int .i64 mx) ∧ w'.cell? ⟨w1.heap.size, 3, none⟩ = some (.int .i64 md) ∧ w'.cell? ⟨w1.heap.size, 4, none⟩ = some (.func (.func k) #[] #[]))
      ((go_split_ands; (repeat' apply And.intro) <;> exact kl))
      (first
        | (go_at_call 53; first | (with_reducible refine (HA.out _).mono ?_; rintro e w2a ⟨rfl, hg_w2a⟩; have cr0 : w2a.cell? ⟨w.heap.size, 0, none⟩ = some (.int .u64 0) := hg_w2a.c; have crz0 : w2a.frozen? ⟨w.heap.size, 0, none⟩ = false := hg_w2a.z; have cr1 : w2a.cell? ⟨w.heap.size, 1, none⟩ = some (.int .i64 0) := hg_w2a.c; have crz1 : w2a.frozen? ⟨w.heap.size, 1, none⟩ = false := hg_w2a.z; have cs0 : w2a.cell? ⟨w1.heap.size, 0, none⟩ = some (.int .i64 p) := hg_w2a.c; have cs1 : w2a.cell? ⟨w1.heap.size, 1, none⟩ = some (.int .i64 mn) := hg_w2a.c; have cs2 : w2a.cell? ⟨w1.heap.size, 2, none⟩ = some (.int .i64 mx) := hg_w2a.c; have cs3 : w2a.cell? ⟨w1.heap.size, 3, none⟩ = some (.int .i64 md) := hg_w2a.c; have cs4 : w2a.cell? ⟨w1.heap.size, 4, none⟩ = some (.func (.func k) #[] #[]) := hg_w2a.c; have hc_w2a := hg_w2a.cells; have hf_w2a := hg_w2a.frozens; have hz_w2a := hg_w2a.size; (try simp only [World.size_alloc, World.size_drew, World.size_setCell] at hz_w2a); (try (have hs0w2a : w1.heap.size + 1 < w2a.heap.size := (by omega))); (try (have hs1w2a : w2b.heap.size < w2a.heap.size := (by omega)))) | (with_reducible refine (HB.out _).mono ?_; rintro e w2b ⟨rfl, hg_w2b⟩; have cr0 : w2b.cell? ⟨w.heap.size, 0, none⟩ = some (.int .u64 0) := hg_w2b.c; have crz0 : w2b.frozen? ⟨w.heap.size, 0, none⟩ = false := hg_w2b.z; have cr1 : w2b.cell? ⟨w.heap.size, 1, none⟩ = some (.int .i64 0) := hg_w2b.c; have crz1 : w2b.frozen? ⟨w.heap.size, 1, none⟩ = false := hg_w2b.z; have cs0 : w2b.cell? ⟨w1.heap.size, 0, none⟩ = some (.int .i64 p) := hg_w2b.c; have cs1 : w2b.cell? ⟨w1.heap.size, 1, none⟩ = some (.int .i64 mn) := hg_w2b.c; have cs2 : w2b.cell? ⟨w1.heap.size, 2, none⟩ = some (.int .i64 mx) := hg_w2b.c; have cs3 : w2b.cell? ⟨w1.heap.size, 3, none⟩ = some (.int .i64 md) := hg_w2b.c; have cs4 : w2b.cell? ⟨w1.heap.size, 4, none⟩ = some (.func (.func k) #[] #[]) := hg_w2b.c; have hc_w2b := hg_w2b.cells; have hf_w2b := hg_w2b.frozens; have hz_w2b := hg_w2b.size; (try simp only [World.size_alloc, World.size_drew, World.size_setCell] at hz_w2b); (try (have hs0w2b : w1.heap.size + 1 < w2b.heap.size := (by omega))); (try (have hs1w2b : w2a.heap.size < w2b.heap.size := (by omega)))))
        | (go_at_call 71; refine (HC.out _).mono ?_; rintro e w3 ⟨rfl, hg_w3⟩; have dr0 : w3.cell? ⟨w.heap.size, 0, none⟩ = some (.int .u64 0) := hg_w3.c; have drz0 : w3.frozen? ⟨w.heap.size, 0, none⟩ = false := hg_w3.z; have dr1 : w3.cell? ⟨w.heap.size, 1, none⟩ = some (.int .i64 0) := hg_w3.c; have drz1 : w3.frozen? ⟨w.heap.size, 1, none⟩ = false := hg_w3.z; have ds0 : w3.cell? ⟨w1.heap.size, 0, none⟩ = some (.int .i64 p) := hg_w3.c; have ds1 : w3.cell? ⟨w1.heap.size, 1, none⟩ = some (.int .i64 mn) := hg_w3.c; have ds2 : w3.cell? ⟨w1.heap.size, 2, none⟩ = some (.int .i64 mx) := hg_w3.c; have ds3 : w3.cell? ⟨w1.heap.size, 3, none⟩ = some (.int .i64 md) := hg_w3.c; have ds4 : w3.cell? ⟨w1.heap.size, 4, none⟩ = some (.func (.func k) #[] #[]) := hg_w3.c; have hc_w3 := hg_w3.cells; have hf_w3 := hg_w3.frozens; have hz_w3 := hg_w3.size; (try simp only [World.size_alloc, World.size_drew, World.size_setCell] at hz_w3); (try (have hs0w3 : w1.heap.size + 1 < w3.heap.size := (by omega))); (try (have hs1w3 : w2a.heap.size < w3.heap.size := (by omega))); (try (have hs2w3 : w2b.heap.size < w3.heap.size := (by omega)))))
    all_goals (try go_split_ands)
    all_goals (go_wp2; go_meet)
    all_goals exact ⟨_, rfl, {}⟩
  case rest =>
    clear HA HB HC
    obtain ⟨bw, rfl, ⟨qg, qn, qs0, qs1, qs2, qs3, qs4, qu0, qu1, qu2, qu3, qu4, qu5, qu6, qr0, qrz0, qr1, qrz1⟩⟩ := hcut
    go_wp2
    go_region_held3 (fun w' => w'.cell? ⟨w1.heap.size, 0, none⟩ = some (.int .i64 p) ∧ w'.cell? ⟨w1.heap.size, 1, none⟩ = some (.int .i64 mn) ∧ w'.cell? ⟨w1.heap.size, 2, none⟩ = some (.int .i64 mx) ∧ w'.cell? ⟨w1.heap.size, 3, none⟩ = some (.int .i64 md) ∧ w'.cell? ⟨w1.heap.size, 4, none⟩ = some (.func (.func k) #[] #[]) ∧ w'.cell? ⟨bw, 0, none⟩ = some (.int .i64 us) ∧ w'.cell? ⟨bw, 1, none⟩ = some (.int .i64 ue) ∧ w'.cell? ⟨bw, 2, none⟩ = some (.int .i64 uc) ∧ w'.cell? ⟨bw, 3, none⟩ = some (.int .u64 uh) ∧ w'.cell? ⟨bw, 4, none⟩ = some (.int .u64 ul) ∧ w'.cell? ⟨bw, 5, none⟩ = some (.bool ut) ∧ w'.cell? ⟨bw, 6, none⟩ = some (.int .i64 0))
      ((go_split_ands; (repeat' apply And.intro) <;> exact kl))
      (first
        | (go_at_call 53; refine (HZ.out _).mono ?_; rintro e w5 ⟨rfl, hg_w5⟩; have fr0 : w5.cell? ⟨w.heap.size, 0, none⟩ = some (.int .u64 0) := hg_w5.c; have frz0 : w5.frozen? ⟨w.heap.size, 0, none⟩ = false := hg_w5.z; have fr1 : w5.cell? ⟨w.heap.size, 1, none⟩ = some (.int .i64 0) := hg_w5.c; have frz1 : w5.frozen? ⟨w.heap.size, 1, none⟩ = false := hg_w5.z)
        | (go_at_call 71; refine (HS.out _).mono ?_; rintro e w6 ⟨os, oe, oc, oh, ol, ot, hq, rfl, hg_w6⟩; have gr0 : w6.cell? ⟨w.heap.size, 0, none⟩ = some (.int .u64 0) := hg_w6.c; have grz0 : w6.frozen? ⟨w.heap.size, 0, none⟩ = false := hg_w6.z; have gr1 : w6.cell? ⟨w.heap.size, 1, none⟩ = some (.int .i64 0) := hg_w6.c; have grz1 : w6.frozen? ⟨w.heap.size, 1, none⟩ = false := hg_w6.z)
        | (go_at_call 72; refine (HP.out _ _ _ _ _ _ _ hq).mono ?_; rintro e w7 ⟨z, fl, hr, rfl, hg_w7⟩; have er0 : w7.cell? ⟨w.heap.size, 0, none⟩ = some (.int .u64 0) := hg_w7.c; have erz0 : w7.frozen? ⟨w.heap.size, 0, none⟩ = false := hg_w7.z; have er1 : w7.cell? ⟨w.heap.size, 1, none⟩ = some (.int .i64 0) := hg_w7.c; have erz1 : w7.frozen? ⟨w.heap.size, 1, none⟩ = false := hg_w7.z))
    all_goals (try go_split_ands)
    all_goals go_wp2
    all_goals
      refine bodyPost_ret (v := .agg #[.int .u64 z, .int .i64 fl]) (by simp [results, Tryz.results19, go_sem, er0, er1]) rfl ⟨z, fl, hr, rfl, ?_⟩
      exact Gr.g

end Go.Proofs.YtkflpogmhailhaaGreatDoor

/- The answers of Fma, of the program. -/
set_option linter.unusedVariables false
set_option linter.unusedSimpArgs false
namespace Go.Proofs.YtkflpogmhailhaaGreatDoor
open Go.RowKit

def fmaO (mode : Int) (x y z : Opd) : Opd := sumO mode (prodO x y) z

/-- What Fma answers. -/
def FmaR (f mode a b c Z fl : Int) : Prop :=
  (∃ p mx one inf sg nan x y z, IsFmt f p mx one inf sg nan ∧ (0 ≤ mode ∧ mode ≤ 4) ∧ OpdIs p mx one inf sg nan a x ∧ OpdIs p mx one inf sg nan b y ∧ OpdIs p mx one inf sg nan c z ∧ PackIs p (1 - mx) mx one inf sg nan mode (fmaO mode x y z) Z fl) ∨
  (∃ p mx one inf sg nan, IsFmt f p mx one inf sg nan ∧ (mode < 0 ∨ 4 < mode) ∧ Z = nan ∧ fl = 1) ∨
  (¬ (f = 0 ∨ f = 1) ∧ Z = 9221120237041090560 ∧ fl = 1)

theorem FmaR.one {f mode a b c Z fl Z' fl' : Int} (h : FmaR f mode a b c Z fl) (h' : FmaR f mode a b c Z' fl') : Z = Z' ∧ fl = fl' := by
  rcases h with ⟨p, mx, one, inf, sg, nan, x, y, z, hF, hm, hx, hy, hz, hp⟩ | ⟨p, mx, one, inf, sg, nan, hF, hm, rfl, rfl⟩ | ⟨hF, rfl, rfl⟩ <;>
  rcases h' with ⟨p', mx', one', inf', sg', nan', x', y', z', hF', hm', hx', hy', hz', hp'⟩ | ⟨p', mx', one', inf', sg', nan', hF', hm', rfl, rfl⟩ | ⟨hF', rfl, rfl⟩
  · obtain ⟨rfl, rfl, rfl, rfl, rfl, rfl⟩ := hF.one hF'
    obtain rfl := hx.one hF hx'
    obtain rfl := hy.one hF hy'
    obtain rfl := hz.one hF hz'
    exact PackIs.one hp hp'
  · exfalso; omega
  · exact absurd hF.yes.symm (by simp [hF'])
  · exfalso; omega
  · obtain ⟨rfl, rfl, rfl, rfl, rfl, rfl⟩ := hF.one hF'
    exact ⟨rfl, rfl⟩
  · exact absurd hF.yes.symm (by simp [hF'])
  · exact absurd hF'.yes.symm (by simp [hF])
  · exact absurd hF'.yes.symm (by simp [hF])
  · exact ⟨rfl, rfl⟩

theorem implFma_any (f mode a b c : Int) (a0 : 0 ≤ a) (a1 : a < 18446744073709551616) (b0 : 0 ≤ b) (b1 : b < 18446744073709551616) (c0 : 0 ≤ c) (c1 : c < 18446744073709551616) (w : World) (hw : Fm w) :
    Calls Tryz.prog 19 #[.int .i64 f, .int .i64 mode, .int .u64 a, .int .u64 b, .int .u64 c] w fun e w' => ∃ Z fl, FmaR f mode a b c Z fl ∧ e = .returned (.agg #[.int .u64 Z, .int .i64 fl]) ∧ Gr w w' := by
  by_cases hf : f = 0 ∨ f = 1
  · obtain ⟨p, mx, one, inf, sg, nan, hF⟩ := fmt_of f hf
    obtain ⟨mn, fb, sp, hM, hmn, hfb⟩ := hF.m
    by_cases hm : 0 ≤ mode ∧ mode ≤ 4
    · obtain ⟨k, hk⟩ := rule_of mode hm.1 hm.2
      obtain ⟨x, hx, HA⟩ := opd_is hF hM a a0 a1
      obtain ⟨y, hy, HB⟩ := opd_is hF hM b b0 b1
      obtain ⟨z, hz, HZ⟩ := opd_is hF hM c c0 c1
      obtain ⟨v1, v2, v3, v4, v5, v6⟩ := opd_vo hF hx
      obtain ⟨u1, u2, u3, u4, u5, u6⟩ := opd_vo hF hy
      obtain ⟨t1, t2, t3, t4, t5, t6⟩ := opd_vo hF hz
      have hv := prodO_vo v1 u1 v6 u6 v4 v5 u4 u5
      refine (fma_ok p mn mx mode f k a b c _ _ _ _ _ _ _ _ _ _ _ _ _ _ _ _ _ _ (fun w'' hg' => settingOf_yes hF hM mode k (fun w => ruleOf_yes mode k hk w) (hw.gr hg')) HA HB HZ _ _ _ _ _ _ (fun w => combine_product_any p mn mx mode k x y v1 u1 (by omega) (by omega) w) (SameV (fmaO mode x y z)) (fun w => combine_sum_any p mn mx mode k (prodO x y) z hv t1 w) (PackIs p mn mx one inf sg nan mode (fmaO mode x y z)) (fun os oe oc oh ol ot w hq => pack_any hM mode k hk _ os oe oc oh ol ot hq w)).mono ?_
      rintro e w'' ⟨Z, fl, hp, rfl, hg'⟩
      rw [hmn] at hp
      exact ⟨_, _, .inl ⟨p, mx, one, inf, sg, nan, x, y, z, hF, hm, hx, hy, hz, hp⟩, rfl, hg'⟩
    · refine (fma_no p mn mx mode nan f mode a b c (fun w'' hg' => settingOf_bad hF hM mode (fun w => ruleOf_no mode (by omega) w) (hw.gr hg')) (fun w => invalid_any hM w)).mono ?_
      rintro e w'' ⟨rfl, hg'⟩
      exact ⟨_, _, .inr (.inl ⟨p, mx, one, inf, sg, nan, hF, by omega, rfl, rfl⟩), rfl, hg'⟩
  · refine (fma_no _ _ _ _ _ f mode a b c (fun w'' hg' => settingOf_none f mode hf (hw.gr hg')) (fun w => invalid_any m64 w)).mono ?_
    rintro e w'' ⟨rfl, hg'⟩
    exact ⟨_, _, .inr (.inr ⟨hf, rfl, rfl⟩), rfl, hg'⟩
end Go.Proofs.YtkflpogmhailhaaGreatDoor
