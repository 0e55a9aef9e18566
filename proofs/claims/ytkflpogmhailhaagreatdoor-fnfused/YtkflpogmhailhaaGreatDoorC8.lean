/- impl.Fma. -/
import Derived.Test.YtkflpogmhailhaaGreatDoorB5
import Derived.Deep.DeepCutAuto
import Derived.Test.YtkflpogmhailhaaGreatDoorC0
import Derived.Test.YtkflpogmhailhaaGreatDoorC1
import Derived.Test.YtkflpogmhailhaaGreatDoorB8
import Derived.Test.YtkflpogmhailhaaGreatDoorL3WF
import Derived.Test.YtkflpogmhailhaaGreatDoorL3WG
set_option linter.unusedVariables false
set_option linter.unusedSimpArgs false
namespace Go.Proofs.YtkflpogmhailhaaGreatDoor
open Go.RowKit


set_option maxRecDepth 1000000 in
set_option maxHeartbeats 4000000 in
theorem fma_no (p mn mx md nan f mode a b c : Int) {w : World} (HF : Hid (∀ w', Gr w w' → Calls Tryz.prog 69 #[.int .i64 f, .int .i64 mode] w' fun x w'' => x = .returned (.tuple #[.agg #[.int .i64 p, .int .i64 mn, .int .i64 mx, .int .i64 md, Value.nilFunc], .bool false]) ∧ Gr w' w''))
    (HN : Hid (∀ w, Calls Tryz.prog 70 #[.agg #[.int .i64 p, .int .i64 mn, .int .i64 mx]] w fun e w' => e = .returned (.agg #[.int .u64 nan, .int .i64 1]) ∧ Gr w w')) :
    Calls Tryz.prog 19 #[.int .i64 f, .int .i64 mode, .int .u64 a, .int .u64 b, .int .u64 c] w fun e w' => e = .returned (.agg #[.int .u64 nan, .int .i64 1]) ∧ Gr w w' := by
  go_enter Tryz.func19, Tryz.ntmps19
  go_wp2_with (first
    | (go_at_call 69; refine (HF.out _ Gr.g).mono ?_; rintro x w1 ⟨rfl, hg_w1⟩; have kr0 : w1.cell? ⟨w.heap.size, 0, none⟩ = some (.int .u64 0) := hg_w1.c; have krz0 : w1.frozen? ⟨w.heap.size, 0, none⟩ = false := hg_w1.z; have kr1 : w1.cell? ⟨w.heap.size, 1, none⟩ = some (.int .i64 0) := hg_w1.c; have krz1 : w1.frozen? ⟨w.heap.size, 1, none⟩ = false := hg_w1.z)
    | (go_at_call 70; refine (HN.out _).mono ?_; rintro x w2 ⟨rfl, hg_w2⟩; have br0 : w2.cell? ⟨w.heap.size, 0, none⟩ = some (.int .u64 0) := hg_w2.c; have brz0 : w2.frozen? ⟨w.heap.size, 0, none⟩ = false := hg_w2.z; have br1 : w2.cell? ⟨w.heap.size, 1, none⟩ = some (.int .i64 0) := hg_w2.c; have brz1 : w2.frozen? ⟨w.heap.size, 1, none⟩ = false := hg_w2.z))
  refine bodyPost_ret (v := .agg #[.int .u64 nan, .int .i64 1]) (by simp [results, Tryz.results19, go_sem, br0, br1]) rfl ⟨rfl, ?_⟩
  exact Gr.g


/-- The variables of Fma behind the product. -/
structure FmaAt (p mn mx md : Int) (k : Nat) (w wx : World) (o bw : Nat) (us ue uc uh ul : Int) (ut : Bool) : Prop where
  g : Gr w wx := by exact kr
  n : w.heap.size < bw := by omega
  s0 : wx.cell? ⟨o, 0, none⟩ = some (.int .i64 p) := by exact kl
  s1 : wx.cell? ⟨o, 1, none⟩ = some (.int .i64 mn) := by exact kl
  s2 : wx.cell? ⟨o, 2, none⟩ = some (.int .i64 mx) := by exact kl
  s3 : wx.cell? ⟨o, 3, none⟩ = some (.int .i64 md) := by exact kl
  s4 : wx.cell? ⟨o, 4, none⟩ = some (.func (.func k) #[] #[]) := by exact kl
  u0 : wx.cell? ⟨bw, 0, none⟩ = some (.int .i64 us) := by exact kl
  u1 : wx.cell? ⟨bw, 1, none⟩ = some (.int .i64 ue) := by exact kl
  u2 : wx.cell? ⟨bw, 2, none⟩ = some (.int .i64 uc) := by exact kl
  u3 : wx.cell? ⟨bw, 3, none⟩ = some (.int .u64 uh) := by exact kl
  u4 : wx.cell? ⟨bw, 4, none⟩ = some (.int .u64 ul) := by exact kl
  u5 : wx.cell? ⟨bw, 5, none⟩ = some (.bool ut) := by exact kl
  u6 : wx.cell? ⟨bw, 6, none⟩ = some (.int .i64 0) := by exact kl
  r0 : wx.cell? ⟨w.heap.size, 0, none⟩ = some (.int .u64 0) := by exact kl
  rz0 : wx.frozen? ⟨w.heap.size, 0, none⟩ = false := by exact kl
  r1 : wx.cell? ⟨w.heap.size, 1, none⟩ = some (.int .i64 0) := by exact kl
  rz1 : wx.frozen? ⟨w.heap.size, 1, none⟩ = false := by exact kl

set_option maxRecDepth 1000000 in
set_option maxHeartbeats 4000000 in
theorem fma_ok (p mn mx md f : Int) (k : Nat) (a b c sx ex cx xh xl sy ey cy yh yl sz ez cz zh zl : Int) (tx ty tz : Bool) {w : World} (HF : Hid (∀ w', Gr w w' → Calls Tryz.prog 69 #[.int .i64 f, .int .i64 md] w' fun x w'' => x = .returned (.tuple #[.agg #[.int .i64 p, .int .i64 mn, .int .i64 mx, .int .i64 md, .func (.func k) #[] #[]], .bool true]) ∧ Gr w' w''))
    (HA : Hid (∀ w, Calls Tryz.prog 53 #[.agg #[.int .i64 p, .int .i64 mn, .int .i64 mx], .int .u64 a] w fun e w' => e = .returned (.agg #[.int .i64 sx, .int .i64 ex, .int .i64 cx, .int .u64 xh, .int .u64 xl, .bool tx, .int .i64 0]) ∧ Gr w w')) (HB : Hid (∀ w, Calls Tryz.prog 53 #[.agg #[.int .i64 p, .int .i64 mn, .int .i64 mx], .int .u64 b] w fun e w' => e = .returned (.agg #[.int .i64 sy, .int .i64 ey, .int .i64 cy, .int .u64 yh, .int .u64 yl, .bool ty, .int .i64 0]) ∧ Gr w w')) (HZ : Hid (∀ w, Calls Tryz.prog 53 #[.agg #[.int .i64 p, .int .i64 mn, .int .i64 mx], .int .u64 c] w fun e w' => e = .returned (.agg #[.int .i64 sz, .int .i64 ez, .int .i64 cz, .int .u64 zh, .int .u64 zl, .bool tz, .int .i64 0]) ∧ Gr w w')) (us ue uc uh ul : Int) (ut : Bool) (HC : Hid (∀ w, Calls Tryz.prog 71 #[.agg #[.int .i64 p, .int .i64 mn, .int .i64 mx, .int .i64 md, .func (.func k) #[] #[]], .func (.func 66) #[] #[], .agg #[.int .i64 sx, .int .i64 ex, .int .i64 cx, .int .u64 xh, .int .u64 xl, .bool tx, .int .i64 0], .agg #[.int .i64 sy, .int .i64 ey, .int .i64 cy, .int .u64 yh, .int .u64 yl, .bool ty, .int .i64 0]] w fun e w' => e = .returned (.agg #[.int .i64 us, .int .i64 ue, .int .i64 uc, .int .u64 uh, .int .u64 ul, .bool ut, .int .i64 0]) ∧ Gr w w')) (Q : Int → Int → Int → Int → Int → Bool → Prop) (HS : Hid (∀ w, Calls Tryz.prog 71 #[.agg #[.int .i64 p, .int .i64 mn, .int .i64 mx, .int .i64 md, .func (.func k) #[] #[]], .func (.func 55) #[] #[], .agg #[.int .i64 us, .int .i64 ue, .int .i64 uc, .int .u64 uh, .int .u64 ul, .bool ut, .int .i64 0], .agg #[.int .i64 sz, .int .i64 ez, .int .i64 cz, .int .u64 zh, .int .u64 zl, .bool tz, .int .i64 0]] w fun e w' => ∃ os oe oc oh ol ot, Q os oe oc oh ol ot ∧ e = .returned (.agg #[.int .i64 os, .int .i64 oe, .int .i64 oc, .int .u64 oh, .int .u64 ol, .bool ot, .int .i64 0]) ∧ Gr w w'))
    (R : Int → Int → Prop) (HP : Hid (∀ os oe oc oh ol ot w, Q os oe oc oh ol ot → Calls Tryz.prog 72 #[.agg #[.int .i64 p, .int .i64 mn, .int .i64 mx, .int .i64 md, .func (.func k) #[] #[]], .agg #[.int .i64 os, .int .i64 oe, .int .i64 oc, .int .u64 oh, .int .u64 ol, .bool ot, .int .i64 0]] w fun e w' => ∃ z fl, R z fl ∧ e = .returned (.agg #[.int .u64 z, .int .i64 fl]) ∧ Gr w w')) :
    Calls Tryz.prog 19 #[.int .i64 f, .int .i64 md, .int .u64 a, .int .u64 b, .int .u64 c] w fun e w' => ∃ z fl, R z fl ∧ e = .returned (.agg #[.int .u64 z, .int .i64 fl]) ∧ Gr w w' := by
  go_enter Tryz.func19, Tryz.ntmps19
  go_wp2_with (go_at_call 69; refine (HF.out _ Gr.g).mono ?_; rintro x w1 ⟨rfl, hg_w1⟩; have kr0 : w1.cell? ⟨w.heap.size, 0, none⟩ = some (.int .u64 0) := hg_w1.c; have krz0 : w1.frozen? ⟨w.heap.size, 0, none⟩ = false := hg_w1.z; have kr1 : w1.cell? ⟨w.heap.size, 1, none⟩ = some (.int .i64 0) := hg_w1.c; have krz1 : w1.frozen? ⟨w.heap.size, 1, none⟩ = false := hg_w1.z; have hz1 := cell_size kr0)
  go_cut [13] (fun s13 wx => ∃ bw : Nat, s13 = .pointer (some ⟨bw, 0, none⟩) ∧ FmaAt p mn mx md k w wx w1.heap.size bw us ue uc uh ul ut)
  case first =>
    clear HS HP HZ
    go_region_held3 (fun w' => w'.cell? ⟨w1.heap.size, 0, none⟩ = some (.int .i64 p) ∧ w'.cell? ⟨w1.heap.size, 1, none⟩ = some (.int .i64 mn) ∧ w'.cell? ⟨w1.heap.size, 2, none⟩ = some (.int .i64 mx) ∧ w'.cell? ⟨w1.heap.size, 3, none⟩ = some (.int .i64 md) ∧ w'.cell? ⟨w1.heap.size, 4, none⟩ = some (.func (.func k) #[] #[]))
      ((go_split_ands; (repeat' apply And.intro) <;> exact kl))
      (first
        | (go_at_call 53; first | (with_reducible refine (HA.out _).mono ?_; rintro e w2a ⟨rfl, hg_w2a⟩; have cr0 : w2a.cell? ⟨w.heap.size, 0, none⟩ = some (.int .u64 0) := hg_w2a.c; have crz0 : w2a.frozen? ⟨w.heap.size, 0, none⟩ = false := hg_w2a.z; have cr1 : w2a.cell? ⟨w.heap.size, 1, none⟩ = some (.int .i64 0) := hg_w2a.c; have crz1 : w2a.frozen? ⟨w.heap.size, 1, none⟩ = false := hg_w2a.z; have cs0 : w2a.cell? ⟨w1.heap.size, 0, none⟩ = some (.int .i64 p) := hg_w2a.c; have cs1 : w2a.cell? ⟨w1.heap.size, 1, none⟩ = some (.int .i64 mn) := hg_w2a.c; have cs2 : w2a.cell? ⟨w1.heap.size, 2, none⟩ = some (.int .i64 mx) := hg_w2a.c; have cs3 : w2a.cell? ⟨w1.heap.size, 3, none⟩ = some (.int .i64 md) := hg_w2a.c; have cs4 : w2a.cell? ⟨w1.heap.size, 4, none⟩ = some (.func (.func k) #[] #[]) := hg_w2a.c; have hc_w2a := hg_w2a.cells; have hf_w2a := hg_w2a.frozens; have hz_w2a := hg_w2a.size; (try simp only [World.size_alloc, World.size_drew, World.size_setCell] at hz_w2a); (try (have hs0w2a : w1.heap.size + 1 < w2a.heap.size := (by omega))); (try (have hs1w2a : w2b.heap.size < w2a.heap.size := (by omega)))) | (with_reducible refine (HB.out _).mono ?_; rintro e w2b ⟨rfl, hg_w2b⟩; have cr0 : w2b.cell? ⟨w.heap.size, 0, none⟩ = some (.int .u64 0) := hg_w2b.c; have crz0 : w2b.frozen? ⟨w.heap.size, 0, none⟩ = false := hg_w2b.z; have cr1 : w2b.cell? ⟨w.heap.size, 1, none⟩ = some (.int .i64 0) := hg_w2b.c; have crz1 : w2b.frozen? ⟨w.heap.size, 1, none⟩ = false := hg_w2b.z; have cs0 : w2b.cell? ⟨w1.heap.size, 0, none⟩ = some (.int .i64 p) := hg_w2b.c; have cs1 : w2b.cell? ⟨w1.heap.size, 1, none⟩ = some (.int .i64 mn) := hg_w2b.c; have cs2 : w2b.cell? ⟨w1.heap.size, 2, none⟩ = some (.int .i64 mx) := hg_w2b.c; have cs3 : w2b.cell? ⟨w1.heap.size, 3, none⟩ = some (.int .i64 md) := hg_w2b.c; have cs4 : w2b.cell? ⟨w1.heap.size, 4, none⟩ = some (.func (.func k) #[] #[]) := hg_w2b.c; have hc_w2b := hg_w2b.cells; have hf_w2b := hg_w2b.frozens; have hz_w2b := hg_w2b.size; (try simp only [World.size_alloc, World.size_drew, World.size_setCell] at hz_w2b); (try (have hs0w2b : w1.heap.size + 1 < w2b.heap.size := (by omega))); (try (have hs1w2b : w2a.heap.size < w2b.heap.size := (by omega)))))
        | (go_at_call 71; refine (HC.out _).mono ?_; rintro e w3 ⟨rfl, hg_w3⟩; have dr0 : w3.cell? ⟨w.heap.size, 0, none⟩ = some (.int .u64 0) := hg_w3.c; have drz0 : w3.frozen? ⟨w.heap.size, 0, none⟩ = false := hg_w3.z; have dr1 : w3.cell? ⟨w.heap.size, 1, none⟩ = some (.int .i64 0) := hg_w3.c; have drz1 : w3.frozen? ⟨w.heap.size, 1, none⟩ = false := hg_w3.z; have ds0 : w3.cell? ⟨w1.heap.size, 0, none⟩ = some (.int .i64 p) := hg_w3.c; have ds1 : w3.cell? ⟨w1.heap.size, 1, none⟩ = some (.int .i64 mn) := hg_w3.c; have ds2 : w3.cell? ⟨w1.heap.size, 2, none⟩ = some (.int .i64 mx) := hg_w3.c; have ds3 : w3.cell? ⟨w1.heap.size, 3, none⟩ = some (.int .i64 md) := hg_w3.c; have ds4 : w3.cell? ⟨w1.heap.size, 4, none⟩ = some (.func (.func k) #[] #[]) := hg_w3.c; have hc_w3 := hg_w3.cells; have hf_w3 := hg_w3.frozens; have hz_w3 := hg_w3.size; (try simp only [World.size_alloc, World.size_drew, World.size_setCell] at hz_w3); (try (have hs0w3 : w1.heap.size + 1 < w3.heap.size := (by omega))); (try (have hs1w3 : w2a.heap.size < w3.heap.size := (by omega))); (try (have hs2w3 : w2b.heap.size < w3.heap.size := (by omega)))))
    all_goals (try go_split_ands)
    all_goals (go_wp2; go_meet)
    all_goals exact ⟨_, rfl, {}⟩
  case rest =>
    clear HA HB HC
    obtain ⟨bw, rfl, ⟨qg, qn, qs0, qs1, qs2, qs3, qs4, qu0, qu1, qu2, qu3, qu4, qu5, qu6, qr0, qrz0, qr1, qrz1⟩⟩ := hcut
    go_wp2
    go_region_held3 (fun w' => w'.cell? ⟨w1.heap.size, 0, none⟩ = some (.int .i64 p) ∧ w'.cell? ⟨w1.heap.size, 1, none⟩ = some (.int .i64 mn) ∧ w'.cell? ⟨w1.heap.size, 2, none⟩ = some (.int .i64 mx) ∧ w'.cell? ⟨w1.heap.size, 3, none⟩ = some (.int .i64 md) ∧ w'.cell? ⟨w1.heap.size, 4, none⟩ = some (.func (.func k) #[] #[]) ∧ w'.cell? ⟨bw, 0, none⟩ = some (.int .i64 us) ∧ w'.cell? ⟨bw, 1, none⟩ = some (.int .i64 ue) ∧ w'.cell? ⟨bw, 2, none⟩ = some (.int .i64 uc) ∧ w'.cell? ⟨bw, 3, none⟩ = some (.int .u64 uh) ∧ w'.cell? ⟨bw, 4, none⟩ = some (.int .u64 ul) ∧ w'.cell? ⟨bw, 5, none⟩ = some (.bool ut) ∧ w'.cell? ⟨bw, 6, none⟩ = some (.int .i64 0))
      ((go_split_ands; (repeat' apply And.intro) <;> exact kl))
      (first
        | (go_at_call 53; refine (HZ.out _).mono ?_; rintro e w5 ⟨rfl, hg_w5⟩; have fr0 : w5.cell? ⟨w.heap.size, 0, none⟩ = some (.int .u64 0) := hg_w5.c; have frz0 : w5.frozen? ⟨w.heap.size, 0, none⟩ = false := hg_w5.z; have fr1 : w5.cell? ⟨w.heap.size, 1, none⟩ = some (.int .i64 0) := hg_w5.c; have frz1 : w5.frozen? ⟨w.heap.size, 1, none⟩ = false := hg_w5.z)
        | (go_at_call 71; refine (HS.out _).mono ?_; rintro e w6 ⟨os, oe, oc, oh, ol, ot, hq, rfl, hg_w6⟩; have gr0 : w6.cell? ⟨w.heap.size, 0, none⟩ = some (.int .u64 0) := hg_w6.c; have grz0 : w6.frozen? ⟨w.heap.size, 0, none⟩ = false := hg_w6.z; have gr1 : w6.cell? ⟨w.heap.size, 1, none⟩ = some (.int .i64 0) := hg_w6.c; have grz1 : w6.frozen? ⟨w.heap.size, 1, none⟩ = false := hg_w6.z)
        | (go_at_call 72; refine (HP.out _ _ _ _ _ _ _ hq).mono ?_; rintro e w7 ⟨z, fl, hr, rfl, hg_w7⟩; have er0 : w7.cell? ⟨w.heap.size, 0, none⟩ = some (.int .u64 0) := hg_w7.c; have erz0 : w7.frozen? ⟨w.heap.size, 0, none⟩ = false := hg_w7.z; have er1 : w7.cell? ⟨w.heap.size, 1, none⟩ = some (.int .i64 0) := hg_w7.c; have erz1 : w7.frozen? ⟨w.heap.size, 1, none⟩ = false := hg_w7.z))
    all_goals (try go_split_ands)
    all_goals go_wp2
    all_goals
      refine bodyPost_ret (v := .agg #[.int .u64 z, .int .i64 fl]) (by simp [results, Tryz.results19, go_sem, er0, er1]) rfl ⟨z, fl, hr, rfl, ?_⟩
      exact Gr.g

end Go.Proofs.YtkflpogmhailhaaGreatDoor

/- The answers of Fma, of the program. -/
set_option linter.unusedVariables false
set_option linter.unusedSimpArgs false
namespace Go.Proofs.YtkflpogmhailhaaGreatDoor
open Go.RowKit

def fmaO (mode : Int) (x y z : Opd) : Opd := sumO mode (prodO x y) z

/-- What Fma answers. -/
def FmaR (f mode a b c Z fl : Int) : Prop :=
  (∃ p mx one inf sg nan x y z, IsFmt f p mx one inf sg nan ∧ (0 ≤ mode ∧ mode ≤ 4) ∧ OpdIs p mx one inf sg nan a x ∧ OpdIs p mx one inf sg nan b y ∧ OpdIs p mx one inf sg nan c z ∧ PackIs p (1 - mx) mx one inf sg nan mode (fmaO mode x y z) Z fl) ∨
  (∃ p mx one inf sg nan, IsFmt f p mx one inf sg nan ∧ (mode < 0 ∨ 4 < mode) ∧ Z = nan ∧ fl = 1) ∨
  (¬ (f = 0 ∨ f = 1) ∧ Z = 9221120237041090560 ∧ fl = 1)

theorem FmaR.one {f mode a b c Z fl Z' fl' : Int} (h : FmaR f mode a b c Z fl) (h' : FmaR f mode a b c Z' fl') : Z = Z' ∧ fl = fl' := by
  rcases h with ⟨p, mx, one, inf, sg, nan, x, y, z, hF, hm, hx, hy, hz, hp⟩ | ⟨p, mx, one, inf, sg, nan, hF, hm, rfl, rfl⟩ | ⟨hF, rfl, rfl⟩ <;>
  rcases h' with ⟨p', mx', one', inf', sg', nan', x', y', z', hF', hm', hx', hy', hz', hp'⟩ | ⟨p', mx', one', inf', sg', nan', hF', hm', rfl, rfl⟩ | ⟨hF', rfl, rfl⟩
  · obtain ⟨rfl, rfl, rfl, rfl, rfl, rfl⟩ := hF.one hF'
    obtain rfl := hx.one hF hx'
    obtain rfl := hy.one hF hy'
    obtain rfl := hz.one hF hz'
    exact PackIs.one hp hp'
  · exfalso; omega
  · exact absurd hF.yes.symm (by simp [hF'])
  · exfalso; omega
  · obtain ⟨rfl, rfl, rfl, rfl, rfl, rfl⟩ := hF.one hF'
    exact ⟨rfl, rfl⟩
  · exact absurd hF.yes.symm (by simp [hF'])
  · exact absurd hF'.yes.symm (by simp [hF])
  · exact absurd hF'.yes.symm (by simp [hF])
  · exact ⟨rfl, rfl⟩

theorem implFma_any (f mode a b c : Int) (a0 : 0 ≤ a) (a1 : a < 18446744073709551616) (b0 : 0 ≤ b) (b1 : b < 18446744073709551616) (c0 : 0 ≤ c) (c1 : c < 18446744073709551616) (w : World) (hw : Fm w) :
    Calls Tryz.prog 19 #[.int .i64 f, .int .i64 mode, .int .u64 a, .int .u64 b, .int .u64 c] w fun e w' => ∃ Z fl, FmaR f mode a b c Z fl ∧ e = .returned (.agg #[.int .u64 Z, .int .i64 fl]) ∧ Gr w w' := by
  by_cases hf : f = 0 ∨ f = 1
  · obtain ⟨p, mx, one, inf, sg, nan, hF⟩ := fmt_of f hf
    obtain ⟨mn, fb, sp, hM, hmn, hfb⟩ := hF.m
    by_cases hm : 0 ≤ mode ∧ mode ≤ 4
    · obtain ⟨k, hk⟩ := rule_of mode hm.1 hm.2
      obtain ⟨x, hx, HA⟩ := opd_is hF hM a a0 a1
      obtain ⟨y, hy, HB⟩ := opd_is hF hM b b0 b1
      obtain ⟨z, hz, HZ⟩ := opd_is hF hM c c0 c1
      obtain ⟨v1, v2, v3, v4, v5, v6⟩ := opd_vo hF hx
      obtain ⟨u1, u2, u3, u4, u5, u6⟩ := opd_vo hF hy
      obtain ⟨t1, t2, t3, t4, t5, t6⟩ := opd_vo hF hz
      have hv := prodO_vo v1 u1 v6 u6 v4 v5 u4 u5
      refine (fma_ok p mn mx mode f k a b c _ _ _ _ _ _ _ _ _ _ _ _ _ _ _ _ _ _ (fun w'' hg' => settingOf_yes hF hM mode k (fun w => ruleOf_yes mode k hk w) (hw.gr hg')) HA HB HZ _ _ _ _ _ _ (fun w => combine_product_any p mn mx mode k x y v1 u1 (by omega) (by omega) w) (SameV (fmaO mode x y z)) (fun w => combine_sum_any p mn mx mode k (prodO x y) z hv t1 w) (PackIs p mn mx one inf sg nan mode (fmaO mode x y z)) (fun os oe oc oh ol ot w hq => pack_any hM mode k hk _ os oe oc oh ol ot hq w)).mono ?_
      rintro e w'' ⟨Z, fl, hp, rfl, hg'⟩
      rw [hmn] at hp
      exact ⟨_, _, .inl ⟨p, mx, one, inf, sg, nan, x, y, z, hF, hm, hx, hy, hz, hp⟩, rfl, hg'⟩
    · refine (fma_no p mn mx mode nan f mode a b c (fun w'' hg' => settingOf_bad hF hM mode (fun w => ruleOf_no mode (by omega) w) (hw.gr hg')) (fun w => invalid_any hM w)).mono ?_
      rintro e w'' ⟨rfl, hg'⟩
      exact ⟨_, _, .inr (.inl ⟨p, mx, one, inf, sg, nan, hF, by omega, rfl, rfl⟩), rfl, hg'⟩
  · refine (fma_no _ _ _ _ _ f mode a b c (fun w'' hg' => settingOf_none f mode hf (hw.gr hg')) (fun w => invalid_any m64 w)).mono ?_
    rintro e w'' ⟨rfl, hg'⟩
    exact ⟨_, _, .inr (.inr ⟨hf, rfl, rfl⟩), rfl, hg'⟩
end Go.Proofs.YtkflpogmhailhaaGreatDoor

/- The answers of Fma, of both sides. -/
set_option linter.unusedVariables false
set_option linter.unusedSimpArgs false
namespace Go.Proofs.YtkflpogmhailhaaGreatDoor
open Go.RowKit

theorem prodO_s (x y : Opd) (h : max x.c y.c < 3) : (prodO x y).s = mulS x.s y.s ∧ (prodO x y).e = x.e + y.e := by
  unfold prodO
  rw [if_neg (by omega)]
  split
  · exact ⟨rfl, rfl⟩
  · split
    · exact ⟨rfl, rfl⟩
    · split
      · exact ⟨rfl, rfl⟩
      · exact ⟨rfl, rfl⟩

theorem specFma_ok {f p mx one inf sg nan : Int} (h : IsFmt f p mx one inf sg nan) (mode a b c : Int) (hm : 0 ≤ mode ∧ mode ≤ 4) (a0 : 0 ≤ a) (a1 : a < 18446744073709551616) (b0 : 0 ≤ b) (b1 : b < 18446744073709551616) (c0 : 0 ≤ c) (c1 : c < 18446744073709551616) {x y z : Opd} (hx : OpdIs p mx one inf sg nan a x) (hy : OpdIs p mx one inf sg nan b y) (hz : OpdIs p mx one inf sg nan c z) (w : World) :
    Calls Tryz.prog 24 #[.int .i64 f, .int .i64 mode, .int .u64 a, .int .u64 b, .int .u64 c] w fun e w' => ∃ Z fl, PackIs p (1 - mx) mx one inf sg nan mode (fmaO mode x y z) Z fl ∧ e = .returned (.agg #[.int .u64 Z, .int .i64 fl]) ∧ Gb w w' := by
  obtain ⟨v1, v2, v3, v4, v5, v6⟩ := opd_vo h hx
  obtain ⟨u1, u2, u3, u4, u5, u6⟩ := opd_vo h hy
  obtain ⟨t1, t2, t3, t4, t5, t6⟩ := opd_vo h hz
  have hv := prodO_vo v1 u1 v6 u6 v4 v5 u4 u5
  have xc0 := v1.c0
  have xc4 := v1.c4
  have yc0 := u1.c0
  have yc4 := u1.c4
  have zc0 := t1.c0
  have zc4 := t1.c4
  have pc0 := hv.c0
  have pc4 := hv.c4
  have hms : mulS x.s y.s = 0 ∨ mulS x.s y.s = 1 := by unfold mulS; split <;> simp
  unfold fmaO
  by_cases hfit : (a < 2 * sg ∧ b < 2 * sg) ∧ c < 2 * sg
  · obtain ⟨⟨fa, fb'⟩, fc⟩ := hfit
    have HF : Hid (∀ w, Calls Tryz.prog 37 #[.int .i64 f, .int .i64 mode, .int .u64 a, .int .u64 b] w fun e w' => e = .returned (.bool true) ∧ w = w') := fun w => l3Fits_yes h mode a b hm.1 hm.2 a0 fa b0 fb' w
    have HG : Hid (∀ w, Calls Tryz.prog 74 #[.int .i64 f, .int .u64 c] w fun e w' => e = .returned (.bool true) ∧ w = w') := fun w => l2Fits_yes h c c0 fc w
    have HUa := unp_det h a a0 fa hx
    have HUb := unp_det h b b0 fb' hy
    have HUc := unp_det h c c0 fc hz
    have HQ : ∀ (z : Opd) (t : Bool), t = decide (3 ≤ z.c) → Hid (∀ w, Calls Tryz.prog 42 #[.agg #[.int .i64 z.c, .int .i64 z.s, .int .i64 z.e, .int .u64 (((z.M : Nat) : Int))]] w fun e w' => e = .returned (.bool t) ∧ Gr w w') := fun z t ht w => l3Quiet_any _ _ _ _ t ht w
    have HNan : ∀ t : Bool, Hid (∀ w, Calls Tryz.prog 43 #[.int .i64 f, .bool t] w fun e w' => e = .returned (.agg #[.int .u64 nan, .int .i64 (if t then 1 else 0)]) ∧ Gr w w') := fun t w => l3Nan_any h t _ rfl w
    have HPr : ∀ t : Bool, t = decide (x.c = 2 ∧ y.c = 0 ∨ x.c = 0 ∧ y.c = 2) → Hid (∀ w, Calls Tryz.prog 67 #[.agg #[.int .i64 x.c, .int .i64 x.s, .int .i64 x.e, .int .u64 (((x.M : Nat) : Int))], .agg #[.int .i64 y.c, .int .i64 y.s, .int .i64 y.e, .int .u64 (((y.M : Nat) : Int))]] w fun e w' => e = .returned (.bool t) ∧ Gr w w') := fun t ht w => l3NoProduct_any _ _ _ _ _ _ _ _ t ht w
    by_cases n1 : x.c = 2 ∧ y.c = 0 ∨ x.c = 0 ∧ y.c = 2
    · have hp4 : (prodO x y).c = 4 := by unfold prodO; rw [if_neg (by omega), if_pos (by omega)]
      refine (sFma_no f mode a b c _ _ _ _ _ _ _ _ _ _ _ _ HF HG HUa HUb HUc (HPr true (by simp [n1])) nan 1 (fun w => l2Bad_fmt h w) w).mono ?_
      rintro e w' ⟨rfl, hg⟩
      refine ⟨_, _, ?_, rfl, hg⟩
      rw [sumO_nan mode _ z (by omega)]
      exact bad_nan (by dsimp only; omega)
    · have hP := HPr false (decide_eq_false n1).symm
      by_cases q : 3 ≤ x.c ∨ 3 ≤ y.c ∨ 3 ≤ z.c
      · have hpc : 3 ≤ max x.c y.c ∧ (prodO x y).c = max x.c y.c ∨ max x.c y.c < 3 ∧ (prodO x y).c ≤ 2 := by
          by_cases m3 : 3 ≤ max x.c y.c
          · exact .inl ⟨m3, by rw [prodO_nan x y m3]⟩
          · refine .inr ⟨by omega, ?_⟩
            unfold prodO
            rw [if_neg m3, if_neg (by omega)]
            split
            · dsimp only; omega
            · split
              · dsimp only; omega
              · dsimp only; omega
        have hmx : 3 ≤ max (prodO x y).c z.c := by omega
        rw [sumO_nan mode _ z hmx]
        have hsig : ∀ t : Bool, t = decide (x.c = 4 ∨ y.c = 4 ∨ z.c = 4) → PackIs p (1 - mx) mx one inf sg nan mode ⟨max (prodO x y).c z.c, 0, 0, 0⟩ nan (if t then 1 else 0) := fun t ht => nan_pack _ t (by rw [ht, decide_eq_decide]; omega) hmx (by omega)
        by_cases s1 : 3 ≤ x.c
        · have hQa := HQ x true (by simp [s1])
          by_cases s2 : x.c = 4
          · refine (sFma_nan1 f mode a b c _ _ _ _ _ _ _ _ _ _ _ _ HF HG HUa HUb HUc hP hQa (by simp [s2]) nan _ (HNan true) w).mono ?_
            rintro e w' ⟨rfl, hg⟩
            exact ⟨_, _, hsig true (by simp [s2]), rfl, hg⟩
          · by_cases s3 : y.c = 4
            · refine (sFma_nan2 f mode a b c _ _ _ _ _ _ _ _ _ _ _ _ HF HG HUa HUb HUc hP hQa (by simp [s2]) (by simp [s3]) nan _ (HNan true) w).mono ?_
              rintro e w' ⟨rfl, hg⟩
              exact ⟨_, _, hsig true (by simp [s3]), rfl, hg⟩
            · refine (sFma_nan3 f mode a b c _ _ _ _ _ _ _ _ _ _ _ _ HF HG HUa HUb HUc hP hQa (by simp [s2]) (by simp [s3]) (decide (z.c = 4)) (bq _ _) nan _ (HNan _) w).mono ?_
              rintro e w' ⟨rfl, hg⟩
              exact ⟨_, _, hsig _ (by simp [s2, s3]), rfl, hg⟩
        · have hQa := HQ x false (by simp; omega)
          have s2 : ¬ x.c = 4 := by omega
          by_cases s3 : 3 ≤ y.c
          · have hQb := HQ y true (by simp [s3])
            by_cases s4 : y.c = 4
            · refine (sFma_nan4 f mode a b c _ _ _ _ _ _ _ _ _ _ _ _ HF HG HUa HUb HUc hP hQa hQb (by simp [s2]) (by simp [s4]) nan _ (HNan true) w).mono ?_
              rintro e w' ⟨rfl, hg⟩
              exact ⟨_, _, hsig true (by simp [s4]), rfl, hg⟩
            · refine (sFma_nan5 f mode a b c _ _ _ _ _ _ _ _ _ _ _ _ HF HG HUa HUb HUc hP hQa hQb (by simp [s2]) (by simp [s4]) (decide (z.c = 4)) (bq _ _) nan _ (HNan _) w).mono ?_
              rintro e w' ⟨rfl, hg⟩
              exact ⟨_, _, hsig _ (by simp [s2, s4]), rfl, hg⟩
          · have hQb := HQ y false (by simp; omega)
            have s4 : ¬ y.c = 4 := by omega
            have hQc := HQ z true (by simp; omega)
            refine (sFma_nan6 f mode a b c _ _ _ _ _ _ _ _ _ _ _ _ HF HG HUa HUb HUc hP hQa hQb hQc (by simp [s2]) (by simp [s4]) (decide (z.c = 4)) (bq _ _) nan _ (HNan _) w).mono ?_
            rintro e w' ⟨rfl, hg⟩
            exact ⟨_, _, hsig _ (by simp [s2, s4]), rfl, hg⟩
      · have hQa := HQ x false (by simp; omega)
        have hQb := HQ y false (by simp; omega)
        have hQc := HQ z false (by simp; omega)
        obtain ⟨ps, pe⟩ := prodO_s x y (by omega)
        have HM : Hid (∀ w, Calls Tryz.prog 68 #[.agg #[.int .i64 x.c, .int .i64 x.s, .int .i64 x.e, .int .u64 (((x.M : Nat) : Int))], .agg #[.int .i64 y.c, .int .i64 y.s, .int .i64 y.e, .int .u64 (((y.M : Nat) : Int))]] w fun e w' => ∃ b k cc, BigN 4 w' (.slice (some ⟨b, 0, none⟩) k cc) (prodO x y).M ∧ e = .returned (.agg #[.int .i64 (prodO x y).s, .slice (some ⟨b, 0, none⟩) k cc, .int .i64 (prodO x y).e, .bool false]) ∧ Gb w w') ∨ (x.c = 2 ∨ y.c = 2) ∧ Hid (∀ w, Calls Tryz.prog 68 #[.agg #[.int .i64 x.c, .int .i64 x.s, .int .i64 x.e, .int .u64 (((x.M : Nat) : Int))], .agg #[.int .i64 y.c, .int .i64 y.s, .int .i64 y.e, .int .u64 (((y.M : Nat) : Int))]] w fun e w' => ∃ b k cc, BigN 4 w' (.slice (some ⟨b, 0, none⟩) k cc) (x.M * y.M) ∧ e = .returned (.agg #[.int .i64 (prodO x y).s, .slice (some ⟨b, 0, none⟩) k cc, .int .i64 (prodO x y).e, .bool false]) ∧ Gb w w') := by
          have base : Hid (∀ w, Calls Tryz.prog 68 #[.agg #[.int .i64 x.c, .int .i64 x.s, .int .i64 x.e, .int .u64 (((x.M : Nat) : Int))], .agg #[.int .i64 y.c, .int .i64 y.s, .int .i64 y.e, .int .u64 (((y.M : Nat) : Int))]] w fun e w' => ∃ b k cc, BigN 4 w' (.slice (some ⟨b, 0, none⟩) k cc) (x.M * y.M) ∧ e = .returned (.agg #[.int .i64 (prodO x y).s, .slice (some ⟨b, 0, none⟩) k cc, .int .i64 (prodO x y).e, .bool false]) ∧ Gb w w') := fun w => by rw [ps, pe]; exact l3Product_any _ _ _ _ _ _ x.M y.M (by omega) (by omega) v1.s01 u1.s01 (by omega) (by omega) (by omega) (by omega) w
          by_cases i2 : x.c = 2 ∨ y.c = 2
          · exact .inr ⟨i2, base⟩
          · left
            have : (prodO x y).M = x.M * y.M := by
              unfold prodO
              rw [if_neg (by omega), if_neg (by omega)]
              by_cases mz : min x.c y.c = 0
              · rw [if_pos mz]
                dsimp only
                rcases (show x.c = 0 ∨ y.c = 0 by omega) with e | e
                · rw [v3 (by omega), Nat.zero_mul]
                · rw [u3 (by omega), Nat.mul_zero]
              · rw [if_neg mz, if_neg (by omega)]
            rw [this]
            exact base
        by_cases i2 : x.c = 2 ∨ y.c = 2
        · have hp2 : (prodO x y).c = 2 := by unfold prodO; rw [if_neg (by omega), if_neg (by omega), if_neg (by omega), if_pos (by omega)]
          have HM' : ∃ Gp : Nat, Hid (∀ w, Calls Tryz.prog 68 #[.agg #[.int .i64 x.c, .int .i64 x.s, .int .i64 x.e, .int .u64 (((x.M : Nat) : Int))], .agg #[.int .i64 y.c, .int .i64 y.s, .int .i64 y.e, .int .u64 (((y.M : Nat) : Int))]] w fun e w' => ∃ b k cc, BigN 4 w' (.slice (some ⟨b, 0, none⟩) k cc) Gp ∧ e = .returned (.agg #[.int .i64 (prodO x y).s, .slice (some ⟨b, 0, none⟩) k cc, .int .i64 (prodO x y).e, .bool false]) ∧ Gb w w') := by
            rcases HM with h | ⟨_, h⟩
            · exact ⟨_, h⟩
            · exact ⟨_, h⟩
          obtain ⟨Gp, HM2⟩ := HM'
          by_cases z2 : z.c = 2
          · by_cases zs : (prodO x y).s = z.s
            · have hO : sumO mode (prodO x y) z = prodO x y := by
                unfold sumO
                rw [if_neg (by omega), if_neg (by omega), if_neg (by omega), if_neg (by omega), if_pos zs]
              rw [hO]
              have fin : ∀ e w', (e = Ending.returned (.agg #[.int .u64 (sw (prodO x y).s sg inf), .int .i64 0]) ∧ Gb w w') → ∃ Z fl, PackIs p (1 - mx) mx one inf sg nan mode (prodO x y) Z fl ∧ e = .returned (.agg #[.int .u64 Z, .int .i64 fl]) ∧ Gb w w' := fun e w' ⟨he, hg⟩ => ⟨_, _, .inr (.inr (.inl ⟨hp2, rfl, rfl⟩)), he, hg⟩
              by_cases x2 : x.c = 2
              · exact (sFma_inf1_eq f mode a b c _ _ _ _ _ _ _ _ _ _ _ _ _ _ _ HF HG HUa HUb HUc hP hQa hQb hQc HM2 x2 z2 zs _ 0 (fun w => l3Infinity_any h _ hv.s01 w) w).mono fin
              · exact (sFma_inf2_eq f mode a b c _ _ _ _ _ _ _ _ _ _ _ _ _ _ _ HF HG HUa HUb HUc hP hQa hQb hQc HM2 (by simp [x2]) (by omega) z2 zs _ 0 (fun w => l3Infinity_any h _ hv.s01 w) w).mono fin
            · have hO : sumO mode (prodO x y) z = ⟨4, 0, 0, 0⟩ := by
                unfold sumO
                rw [if_neg (by omega), if_neg (by omega), if_neg (by omega), if_neg (by omega), if_neg zs, if_pos hp2]
              rw [hO]
              have fin : ∀ e w', (e = Ending.returned (.agg #[.int .u64 nan, .int .i64 1]) ∧ Gb w w') → ∃ Z fl, PackIs p (1 - mx) mx one inf sg nan mode ⟨4, 0, 0, 0⟩ Z fl ∧ e = .returned (.agg #[.int .u64 Z, .int .i64 fl]) ∧ Gb w w' := fun e w' ⟨he, hg⟩ => ⟨_, _, bad_nan rfl, he, hg⟩
              by_cases x2 : x.c = 2
              · exact (sFma_inf1_no f mode a b c _ _ _ _ _ _ _ _ _ _ _ _ _ _ _ HF HG HUa HUb HUc hP hQa hQb hQc HM2 x2 z2 (by simp [zs]) _ 1 (fun w => l2Bad_fmt h w) w).mono fin
              · exact (sFma_inf2_no f mode a b c _ _ _ _ _ _ _ _ _ _ _ _ _ _ _ HF HG HUa HUb HUc hP hQa hQb hQc HM2 (by simp [x2]) (by omega) z2 (by simp [zs]) _ 1 (fun w => l2Bad_fmt h w) w).mono fin
          · have hO : sumO mode (prodO x y) z = prodO x y := by
              unfold sumO
              rw [if_neg (by omega), if_pos (by omega)]
            rw [hO]
            have fin : ∀ e w', (e = Ending.returned (.agg #[.int .u64 (sw (prodO x y).s sg inf), .int .i64 0]) ∧ Gb w w') → ∃ Z fl, PackIs p (1 - mx) mx one inf sg nan mode (prodO x y) Z fl ∧ e = .returned (.agg #[.int .u64 Z, .int .i64 fl]) ∧ Gb w w' := fun e w' ⟨he, hg⟩ => ⟨_, _, .inr (.inr (.inl ⟨hp2, rfl, rfl⟩)), he, hg⟩
            by_cases x2 : x.c = 2
            · exact (sFma_inf1_far f mode a b c _ _ _ _ _ _ _ _ _ _ _ _ _ _ _ HF HG HUa HUb HUc hP hQa hQb hQc HM2 x2 (by simp [z2]) _ 0 (fun w => l3Infinity_any h _ hv.s01 w) w).mono fin
            · exact (sFma_inf2_far f mode a b c _ _ _ _ _ _ _ _ _ _ _ _ _ _ _ HF HG HUa HUb HUc hP hQa hQb hQc HM2 (by simp [x2]) (by omega) (by simp [z2]) _ 0 (fun w => l3Infinity_any h _ hv.s01 w) w).mono fin
        · have HM2 : Hid _ := HM.resolve_right (fun k => i2 k.1)
          have hp1 : (prodO x y).c ≤ 1 := by
            unfold prodO
            rw [if_neg (by omega), if_neg (by omega)]
            split
            · dsimp only; omega
            · rw [if_neg (by omega)]; dsimp only; omega
          by_cases z2 : z.c = 2
          · have hO : sumO mode (prodO x y) z = z := by
              unfold sumO
              rw [if_neg (by omega), if_neg (by omega), if_pos (by omega)]
            rw [hO]
            refine (sFma_infc f mode a b c _ _ _ _ _ _ _ _ _ _ _ _ _ _ _ HF HG HUa HUb HUc hP hQa hQb hQc HM2 (by simp; omega) (by simp; omega) z2 _ 0 (fun w => l3Infinity_any h _ t1.s01 w) w).mono ?_
            rintro e w' ⟨rfl, hg⟩
            exact ⟨_, _, .inr (.inr (.inl ⟨z2, rfl, rfl⟩)), rfl, hg⟩
          · exact sFma_sum f mode a b c _ _ _ _ _ _ _ _ _ _ _ _ _ _ _ z.M HF HG HUa HUb HUc hP hQa hQb hQc HM2 (by simp; omega) (by simp; omega) (by simp [z2]) (fun w => l3Number_any _ _ _ z.M (by omega) w) (fun Z fl => PackIs p (1 - mx) mx one inf sg nan mode (sumO mode (prodO x y) z) Z fl) (fun ba ka qa bb kb qb w HX HY => l3Sum_any h mode hm.1 hm.2 (prodO x y) z hv t1 hp1 (by omega) (by rw [pe]; omega) (by rw [pe]; omega) (by omega) (by omega) ba ka qa bb kb qb HX HY) w
  · have hO : ∃ o : Opd, fmaO mode x y z = o ∧ o.c = 4 := by
      refine ⟨_, rfl, ?_⟩
      unfold fmaO
      have : max (prodO x y).c z.c = 4 := by
        rcases (show 2 * sg ≤ a ∨ 2 * sg ≤ b ∨ 2 * sg ≤ c by omega) with k | k | k
        · have := opd_wide h hx k
          have m4 : max x.c y.c = 4 := by rw [this]; dsimp only; omega
          have : (prodO x y).c = 4 := by rw [prodO_nan x y (by omega)]; exact m4
          omega
        · have := opd_wide h hy k
          have m4 : max x.c y.c = 4 := by rw [this]; dsimp only; omega
          have : (prodO x y).c = 4 := by rw [prodO_nan x y (by omega)]; exact m4
          omega
        · have := opd_wide h hz k
          rw [this]; dsimp only; omega
      rw [sumO_nan mode _ z (by omega)]
      exact this
    obtain ⟨o, ho, ho4⟩ := hO
    unfold fmaO at ho
    rw [ho]
    by_cases hab : a < 2 * sg ∧ b < 2 * sg
    · refine (sFma_bad2 f mode a b c (fun w => l3Fits_yes h mode a b hm.1 hm.2 a0 hab.1 b0 hab.2 w) (fun w => l2Fits_no f c c0 (by
        rcases h with ⟨rfl, rfl, rfl, rfl, rfl, rfl, rfl⟩ | ⟨rfl, rfl, rfl, rfl, rfl, rfl, rfl⟩
        · exact .inr ⟨rfl, by omega⟩
        · exfalso; omega) w) nan 1 (fun w => l2Bad_fmt h w) w).mono ?_
      rintro e w' ⟨rfl, hg⟩
      exact ⟨_, _, bad_nan ho4, rfl, hg⟩
    · refine (sFma_bad1 f mode a b c (fun w => l3Fits_no f mode a b a0 a1 b0 b1 (nofit_of h a1 b1 (by omega)) w) nan 1 (fun w => l2Bad_fmt h w) w).mono ?_
      rintro e w' ⟨rfl, hg⟩
      exact ⟨_, _, bad_nan ho4, rfl, hg⟩

theorem specFma_any (f mode a b c : Int) (a0 : 0 ≤ a) (a1 : a < 18446744073709551616) (b0 : 0 ≤ b) (b1 : b < 18446744073709551616) (c0 : 0 ≤ c) (c1 : c < 18446744073709551616) (w : World) :
    Calls Tryz.prog 24 #[.int .i64 f, .int .i64 mode, .int .u64 a, .int .u64 b, .int .u64 c] w fun e w' => ∃ Z fl, FmaR f mode a b c Z fl ∧ e = .returned (.agg #[.int .u64 Z, .int .i64 fl]) ∧ Gb w w' := by
  by_cases hf : f = 0 ∨ f = 1
  · obtain ⟨p, mx, one, inf, sg, nan, hF⟩ := fmt_of f hf
    by_cases hm : 0 ≤ mode ∧ mode ≤ 4
    · obtain ⟨x, hx⟩ := opd_ex hF a a0 a1
      obtain ⟨y, hy⟩ := opd_ex hF b b0 b1
      obtain ⟨z, hz⟩ := opd_ex hF c c0 c1
      refine (specFma_ok hF mode a b c hm a0 a1 b0 b1 c0 c1 hx hy hz w).mono ?_
      rintro e w' ⟨Z, fl, hp, rfl, hg⟩
      exact ⟨_, _, .inl ⟨p, mx, one, inf, sg, nan, x, y, z, hF, hm, hx, hy, hz, hp⟩, rfl, hg⟩
    · refine (sFma_bad1 f mode a b c (fun w => l3Fits_no f mode a b a0 a1 b0 b1 (.inl (by omega)) w) nan 1 (fun w => l2Bad_fmt hF w) w).mono ?_
      rintro e w' ⟨rfl, hg⟩
      exact ⟨_, _, .inr (.inl ⟨p, mx, one, inf, sg, nan, hF, by omega, rfl, rfl⟩), rfl, hg⟩
  · refine (sFma_bad1 f mode a b c (fun w => l3Fits_no f mode a b a0 a1 b0 b1 (.inr (.inl hf)) w) _ 1 (fun w => l2Bad_no f hf w) w).mono ?_
    rintro e w' ⟨rfl, hg⟩
    exact ⟨_, _, .inr (.inr ⟨hf, rfl, rfl⟩), rfl, hg⟩

theorem fma_same (f mode a b c : Int) (a0 : 0 ≤ a) (a1 : a < 18446744073709551616) (b0 : 0 ≤ b) (b1 : b < 18446744073709551616) (c0 : 0 ≤ c) (c1 : c < 18446744073709551616) :
    ∃ Z fl : Int, FmaR f mode a b c Z fl ∧ (∀ w, Calls Tryz.prog 24 #[.int .i64 f, .int .i64 mode, .int .u64 a, .int .u64 b, .int .u64 c] w fun e w' => e = .returned (.agg #[.int .u64 Z, .int .i64 fl]) ∧ Gb w w') ∧
      (∀ w, Fm w → Calls Tryz.prog 19 #[.int .i64 f, .int .i64 mode, .int .u64 a, .int .u64 b, .int .u64 c] w fun e w' => e = .returned (.agg #[.int .u64 Z, .int .i64 fl]) ∧ Gr w w') := by
  have hex : ∃ Z fl : Int, FmaR f mode a b c Z fl := by
    by_cases hf : f = 0 ∨ f = 1
    · obtain ⟨p, mx, one, inf, sg, nan, hF⟩ := fmt_of f hf
      by_cases hm : 0 ≤ mode ∧ mode ≤ 4
      · obtain ⟨x, hx⟩ := opd_ex hF a a0 a1
        obtain ⟨y, hy⟩ := opd_ex hF b b0 b1
        obtain ⟨z, hz⟩ := opd_ex hF c c0 c1
        obtain ⟨v1, v2, v3, v4, v5, v6⟩ := opd_vo hF hx
        obtain ⟨u1, u2, u3, u4, u5, u6⟩ := opd_vo hF hy
        obtain ⟨t1, t2, t3, t4, t5, t6⟩ := opd_vo hF hz
        obtain ⟨r1, r2⟩ := sumO_c mode (prodO x y) z (prodO_vo v1 u1 v6 u6 v4 v5 u4 u5) t1
        obtain ⟨Z, fl, hp⟩ := pack_is p (1 - mx) mx one inf sg nan mode (fmaO mode x y z) r1 r2
        exact ⟨Z, fl, .inl ⟨p, mx, one, inf, sg, nan, x, y, z, hF, hm, hx, hy, hz, hp⟩⟩
      · exact ⟨_, _, .inr (.inl ⟨p, mx, one, inf, sg, nan, hF, by omega, rfl, rfl⟩)⟩
    · exact ⟨_, _, .inr (.inr ⟨hf, rfl, rfl⟩)⟩
  obtain ⟨Z, fl, h⟩ := hex
  refine ⟨Z, fl, h, fun w => (specFma_any f mode a b c a0 a1 b0 b1 c0 c1 w).mono ?_, fun w hw => (implFma_any f mode a b c a0 a1 b0 b1 c0 c1 w hw).mono ?_⟩
  · rintro e w' ⟨Z', fl', h', rfl, hg⟩
    obtain ⟨rfl, rfl⟩ := FmaR.one h h'
    exact ⟨rfl, hg⟩
  · rintro e w' ⟨Z', fl', h', rfl, hg⟩
    obtain ⟨rfl, rfl⟩ := FmaR.one h h'
    exact ⟨rfl, hg⟩

end Go.Proofs.YtkflpogmhailhaaGreatDoor
