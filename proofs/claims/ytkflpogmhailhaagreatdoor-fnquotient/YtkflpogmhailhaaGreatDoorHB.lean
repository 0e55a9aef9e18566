/- spec.Mul gives some word. -/
import Derived.Test.YtkflpogmhailhaaGreatDoorB8
import Derived.Test.YtkflpogmhailhaaGreatDoorC0
import Derived.Deep.DeepCutAuto
import Derived.Test.YtkflpogmhailhaaGreatDoorHA
import Derived.Test.YtkflpogmhailhaaGreatDoorO1
import Derived.Test.YtkflpogmhailhaaGreatDoorC4
import Derived.Deep.RegionHeld3
set_option linter.unusedVariables false
set_option linter.unusedSimpArgs false
namespace Go.Proofs.YtkflpogmhailhaaGreatDoor
open Go.RowKit

theorem mu_nil {K : Nat} {w : World} {b k c N : Nat} (h : BigN K w (.slice (some ⟨b, 0, none⟩) k c) N) (h0 : N = 0) : ((k : Nat) : Int) = 0 := by
  obtain ⟨n, hn, hb⟩ := h
  obtain ⟨b', cap, e, _⟩ := hb.shape
  have := hb.none h0
  injection e with _ e2 _
  omega
theorem mu_pos {K : Nat} {w : World} {b k c N : Nat} (h : BigN K w (.slice (some ⟨b, 0, none⟩) k c) N) (hN : 0 < N) : 0 < k := by
  obtain ⟨n, hn, hb⟩ := h
  obtain ⟨b', cap, e, _⟩ := hb.shape
  have h2 := hb.1.iff
  injection e with _ e2 _
  have : n ≠ 0 := fun h => by have := h2.1 h; omega
  omega

def SomeR (R : Int → Int → Prop) (F : Nat) (args : Array Value) : Prop := ∀ w, Calls Tryz.prog F args w fun e w' => ∃ z fl : Int, R z fl ∧ e = .returned (.agg #[.int .u64 z, .int .i64 fl]) ∧ Gr w w'

set_option maxRecDepth 1000000 in
set_option maxHeartbeats 8000000 in
theorem sMul_some (f mode a b ca sa xa ga cb sb xb gb sp xp : Int) (Gp : Nat) (qa qb np : Bool) (R : Int → Int → Prop) (HF : Hid (∀ w, Calls Tryz.prog 37 #[.int .i64 f, .int .i64 mode, .int .u64 a, .int .u64 b] w fun e w' => e = .returned (.bool true) ∧ w = w')) (HUa : Hid (∀ w, Calls Tryz.prog 26 #[.int .i64 f, .int .u64 a] w fun e w' => e = .returned (.agg #[.int .i64 ca, .int .i64 sa, .int .i64 xa, .int .u64 ga]) ∧ Gr w w')) (HUb : Hid (∀ w, Calls Tryz.prog 26 #[.int .i64 f, .int .u64 b] w fun e w' => e = .returned (.agg #[.int .i64 cb, .int .i64 sb, .int .i64 xb, .int .u64 gb]) ∧ Gr w w'))
    (HQa : Hid (∀ w, Calls Tryz.prog 42 #[.agg #[.int .i64 ca, .int .i64 sa, .int .i64 xa, .int .u64 ga]] w fun e w' => e = .returned (.bool qa) ∧ Gr w w')) (HQb : Hid (∀ w, Calls Tryz.prog 42 #[.agg #[.int .i64 cb, .int .i64 sb, .int .i64 xb, .int .u64 gb]] w fun e w' => e = .returned (.bool qb) ∧ Gr w w')) (HNa : Hid (∀ t, SomeR R 43 #[.int .i64 f, .bool t])) (HBa : Hid (SomeR R 41 #[.int .i64 f])) (HIn : Hid (SomeR R 56 #[.int .i64 f, .int .i64 sp])) (HZe : Hid (SomeR R 50 #[.int .i64 f, .int .i64 sp]))
    (HP : Hid (∀ w, Calls Tryz.prog 67 #[.agg #[.int .i64 ca, .int .i64 sa, .int .i64 xa, .int .u64 ga], .agg #[.int .i64 cb, .int .i64 sb, .int .i64 xb, .int .u64 gb]] w fun e w' => e = .returned (.bool np) ∧ Gr w w')) (HM : Hid (∀ w, Calls Tryz.prog 68 #[.agg #[.int .i64 ca, .int .i64 sa, .int .i64 xa, .int .u64 ga], .agg #[.int .i64 cb, .int .i64 sb, .int .i64 xb, .int .u64 gb]] w fun e w' => ∃ b k cc, BigN 4 w' (.slice (some ⟨b, 0, none⟩) k cc) Gp ∧ e = .returned (.agg #[.int .i64 sp, .slice (some ⟨b, 0, none⟩) k cc, .int .i64 xp, .bool false]) ∧ Gb w w'))
    (HR : Hid (0 < Gp → ∀ v w, BigN 4 w v Gp → Calls Tryz.prog 51 #[.int .i64 f, .int .i64 mode, .agg #[.int .i64 sp, v, .int .i64 xp, .bool false]] w fun e w' => ∃ z fl, R z fl ∧ e = .returned (.agg #[.int .u64 z, .int .i64 fl]) ∧ Gb w w'))
    (hcase : qa = true ∧ (ca == 4) = true ∨ qa = true ∧ (ca == 4) = false ∧ (cb == 4) = true ∨ qa = true ∧ (ca == 4) = false ∧ (cb == 4) = false ∨ qa = false ∧ qb = true ∧ (ca == 4) = false ∧ (cb == 4) = true ∨ qa = false ∧ qb = true ∧ (ca == 4) = false ∧ (cb == 4) = false ∨ qa = false ∧ qb = false ∧ np = true ∨
      qa = false ∧ qb = false ∧ np = false ∧ ((ca == 2) = true ∧ Hid True ∨ (ca == 2) = false ∧ (cb == 2) = true ∧ Hid True ∨ (ca == 2) = false ∧ (cb == 2) = false ∧ Hid (Gp = 0) ∨ (ca == 2) = false ∧ (cb == 2) = false ∧ Hid (0 < Gp))) (w : World) :
    Calls Tryz.prog 18 #[.int .i64 f, .int .i64 mode, .int .u64 a, .int .u64 b] w fun e w' => ∃ z fl : Int, R z fl ∧ e = .returned (.agg #[.int .u64 z, .int .i64 fl]) ∧ Gb w w' := by
  rcases hcase with ⟨rfl, e1⟩ | ⟨rfl, e1, e2⟩ | ⟨rfl, e1, e2⟩ | ⟨rfl, rfl, e1, e2⟩ | ⟨rfl, rfl, e1, e2⟩ | ⟨rfl, rfl, rfl⟩ | ⟨rfl, rfl, rfl, ⟨e1, hG⟩ | ⟨e1, e2, hG⟩ | ⟨e1, e2, hG⟩ | ⟨e1, e2, hG⟩⟩
  all_goals
    go_enter Tryz.func18, Tryz.ntmps18
    go_wp2_with (first
      | (go_at_call 37; refine (HF.out _).mono ?_; rintro e wk ⟨rfl, hw⟩; subst hw)
      | (go_at_call 26; first | (with_reducible refine (HUa.out _).mono ?_; rintro e w1 ⟨rfl, hg_w1⟩; have u0r0 : w1.cell? ⟨w.heap.size, 0, none⟩ = some (.int .u64 0) := hg_w1.c; have u0rz0 : w1.frozen? ⟨w.heap.size, 0, none⟩ = false := hg_w1.z; have u0r1 : w1.cell? ⟨w.heap.size, 1, none⟩ = some (.int .i64 0) := hg_w1.c; have u0rz1 : w1.frozen? ⟨w.heap.size, 1, none⟩ = false := hg_w1.z; have hz0 := cell_size u0r0) | (with_reducible refine (HUb.out _).mono ?_; rintro e w2 ⟨rfl, hg_w2⟩; have u1r0 : w2.cell? ⟨w.heap.size, 0, none⟩ = some (.int .u64 0) := hg_w2.c; have u1rz0 : w2.frozen? ⟨w.heap.size, 0, none⟩ = false := hg_w2.z; have u1r1 : w2.cell? ⟨w.heap.size, 1, none⟩ = some (.int .i64 0) := hg_w2.c; have u1rz1 : w2.frozen? ⟨w.heap.size, 1, none⟩ = false := hg_w2.z; have u1p00 : w2.cell? ⟨w1.heap.size, 0, none⟩ = some (.int .i64 ca) := hg_w2.c; have u1p0A0 := (fun ob => cell_alloc ob u1p00); have u1p01 : w2.cell? ⟨w1.heap.size, 1, none⟩ = some (.int .i64 sa) := hg_w2.c; have u1p0A1 := (fun ob => cell_alloc ob u1p01); have u1p02 : w2.cell? ⟨w1.heap.size, 2, none⟩ = some (.int .i64 xa) := hg_w2.c; have u1p0A2 := (fun ob => cell_alloc ob u1p02); have u1p03 : w2.cell? ⟨w1.heap.size, 3, none⟩ = some (.int .u64 ga) := hg_w2.c; have u1p0A3 := (fun ob => cell_alloc ob u1p03); have hz1 := cell_size u1r0))
      | (go_at_call 42; first | (with_reducible refine (HQa.out _).mono ?_; rintro e va ⟨rfl, hg_va⟩; have qar0 : va.cell? ⟨w.heap.size, 0, none⟩ = some (.int .u64 0) := hg_va.c; have qarz0 : va.frozen? ⟨w.heap.size, 0, none⟩ = false := hg_va.z; have qar1 : va.cell? ⟨w.heap.size, 1, none⟩ = some (.int .i64 0) := hg_va.c; have qarz1 : va.frozen? ⟨w.heap.size, 1, none⟩ = false := hg_va.z; have qap00 : va.cell? ⟨w1.heap.size, 0, none⟩ = some (.int .i64 ca) := hg_va.c; have qap01 : va.cell? ⟨w1.heap.size, 1, none⟩ = some (.int .i64 sa) := hg_va.c; have qap02 : va.cell? ⟨w1.heap.size, 2, none⟩ = some (.int .i64 xa) := hg_va.c; have qap03 : va.cell? ⟨w1.heap.size, 3, none⟩ = some (.int .u64 ga) := hg_va.c; have qap10 : va.cell? ⟨w2.heap.size, 0, none⟩ = some (.int .i64 cb) := hg_va.c; have qap11 : va.cell? ⟨w2.heap.size, 1, none⟩ = some (.int .i64 sb) := hg_va.c; have qap12 : va.cell? ⟨w2.heap.size, 2, none⟩ = some (.int .i64 xb) := hg_va.c; have qap13 : va.cell? ⟨w2.heap.size, 3, none⟩ = some (.int .u64 gb) := hg_va.c) | (with_reducible refine (HQb.out _).mono ?_; rintro e vb ⟨rfl, hg_vb⟩; have qbr0 : vb.cell? ⟨w.heap.size, 0, none⟩ = some (.int .u64 0) := hg_vb.c; have qbrz0 : vb.frozen? ⟨w.heap.size, 0, none⟩ = false := hg_vb.z; have qbr1 : vb.cell? ⟨w.heap.size, 1, none⟩ = some (.int .i64 0) := hg_vb.c; have qbrz1 : vb.frozen? ⟨w.heap.size, 1, none⟩ = false := hg_vb.z; have qbp00 : vb.cell? ⟨w1.heap.size, 0, none⟩ = some (.int .i64 ca) := hg_vb.c; have qbp01 : vb.cell? ⟨w1.heap.size, 1, none⟩ = some (.int .i64 sa) := hg_vb.c; have qbp02 : vb.cell? ⟨w1.heap.size, 2, none⟩ = some (.int .i64 xa) := hg_vb.c; have qbp03 : vb.cell? ⟨w1.heap.size, 3, none⟩ = some (.int .u64 ga) := hg_vb.c; have qbp10 : vb.cell? ⟨w2.heap.size, 0, none⟩ = some (.int .i64 cb) := hg_vb.c; have qbp11 : vb.cell? ⟨w2.heap.size, 1, none⟩ = some (.int .i64 sb) := hg_vb.c; have qbp12 : vb.cell? ⟨w2.heap.size, 2, none⟩ = some (.int .i64 xb) := hg_vb.c; have qbp13 : vb.cell? ⟨w2.heap.size, 3, none⟩ = some (.int .u64 gb) := hg_vb.c))
      | (go_at_call 67; refine (HP.out _).mono ?_; rintro e vp ⟨rfl, hg_vp⟩; have npr0 : vp.cell? ⟨w.heap.size, 0, none⟩ = some (.int .u64 0) := hg_vp.c; have nprz0 : vp.frozen? ⟨w.heap.size, 0, none⟩ = false := hg_vp.z; have npr1 : vp.cell? ⟨w.heap.size, 1, none⟩ = some (.int .i64 0) := hg_vp.c; have nprz1 : vp.frozen? ⟨w.heap.size, 1, none⟩ = false := hg_vp.z; have npp00 : vp.cell? ⟨w1.heap.size, 0, none⟩ = some (.int .i64 ca) := hg_vp.c; have npp01 : vp.cell? ⟨w1.heap.size, 1, none⟩ = some (.int .i64 sa) := hg_vp.c; have npp02 : vp.cell? ⟨w1.heap.size, 2, none⟩ = some (.int .i64 xa) := hg_vp.c; have npp03 : vp.cell? ⟨w1.heap.size, 3, none⟩ = some (.int .u64 ga) := hg_vp.c; have npp10 : vp.cell? ⟨w2.heap.size, 0, none⟩ = some (.int .i64 cb) := hg_vp.c; have npp11 : vp.cell? ⟨w2.heap.size, 1, none⟩ = some (.int .i64 sb) := hg_vp.c; have npp12 : vp.cell? ⟨w2.heap.size, 2, none⟩ = some (.int .i64 xb) := hg_vp.c; have npp13 : vp.cell? ⟨w2.heap.size, 3, none⟩ = some (.int .u64 gb) := hg_vp.c)
      | (go_at_call 68; refine (HM.out _).mono ?_; rintro e wm ⟨bp, kp, qp, hbp, rfl, hg_wm⟩; have mr0 : wm.cell? ⟨w.heap.size, 0, none⟩ = some (.int .u64 0) := hg_wm.c; have mrz0 : wm.frozen? ⟨w.heap.size, 0, none⟩ = false := hg_wm.z mr0; have mrA0 := (fun ob => cell_alloc ob mr0); have mrB0 : ∀ c t, (wm.alloc (.cells c t)).frozen? ⟨w.heap.size, 0, none⟩ = false := (fun c t => fz_alloc mrz0); have mr1 : wm.cell? ⟨w.heap.size, 1, none⟩ = some (.int .i64 0) := hg_wm.c; have mrz1 : wm.frozen? ⟨w.heap.size, 1, none⟩ = false := hg_wm.z mr1; have mrA1 := (fun ob => cell_alloc ob mr1); have mrB1 : ∀ c t, (wm.alloc (.cells c t)).frozen? ⟨w.heap.size, 1, none⟩ = false := (fun c t => fz_alloc mrz1); have mp00 : wm.cell? ⟨w1.heap.size, 0, none⟩ = some (.int .i64 ca) := hg_wm.c; have mp01 : wm.cell? ⟨w1.heap.size, 1, none⟩ = some (.int .i64 sa) := hg_wm.c; have mp02 : wm.cell? ⟨w1.heap.size, 2, none⟩ = some (.int .i64 xa) := hg_wm.c; have mp03 : wm.cell? ⟨w1.heap.size, 3, none⟩ = some (.int .u64 ga) := hg_wm.c; have mp10 : wm.cell? ⟨w2.heap.size, 0, none⟩ = some (.int .i64 cb) := hg_wm.c; have mp11 : wm.cell? ⟨w2.heap.size, 1, none⟩ = some (.int .i64 sb) := hg_wm.c; have mp12 : wm.cell? ⟨w2.heap.size, 2, none⟩ = some (.int .i64 xb) := hg_wm.c; have mp13 : wm.cell? ⟨w2.heap.size, 3, none⟩ = some (.int .u64 gb) := hg_wm.c; have mA0 := (fun ob => cell_alloc ob mp00); have mB0 := (fun ob => cell_alloc ob mp10); have hzm := cell_size mr0; first | (have hkp := mu_nil hbp hG.out) | (have hkp := mu_pos hbp hG.out) | skip)
      | (go_at_call 56; refine (HIn.out _).mono ?_; rintro e w9 ⟨z, fl, hq, rfl, hg_w9⟩; have zr0 : w9.cell? ⟨w.heap.size, 0, none⟩ = some (.int .u64 0) := hg_w9.c; have zrz0 : w9.frozen? ⟨w.heap.size, 0, none⟩ = false := hg_w9.z; have zr1 : w9.cell? ⟨w.heap.size, 1, none⟩ = some (.int .i64 0) := hg_w9.c; have zrz1 : w9.frozen? ⟨w.heap.size, 1, none⟩ = false := hg_w9.z)
      | (go_at_call 50; refine (HZe.out _).mono ?_; rintro e w9 ⟨z, fl, hq, rfl, hg_w9⟩; have zr0 : w9.cell? ⟨w.heap.size, 0, none⟩ = some (.int .u64 0) := hg_w9.c; have zrz0 : w9.frozen? ⟨w.heap.size, 0, none⟩ = false := hg_w9.z; have zr1 : w9.cell? ⟨w.heap.size, 1, none⟩ = some (.int .i64 0) := hg_w9.c; have zrz1 : w9.frozen? ⟨w.heap.size, 1, none⟩ = false := hg_w9.z)
      | (go_at_call 43; refine (HNa.out _ _).mono ?_; rintro e w9 ⟨z, fl, hq, rfl, hg_w9⟩; have zr0 : w9.cell? ⟨w.heap.size, 0, none⟩ = some (.int .u64 0) := hg_w9.c; have zrz0 : w9.frozen? ⟨w.heap.size, 0, none⟩ = false := hg_w9.z; have zr1 : w9.cell? ⟨w.heap.size, 1, none⟩ = some (.int .i64 0) := hg_w9.c; have zrz1 : w9.frozen? ⟨w.heap.size, 1, none⟩ = false := hg_w9.z)
      | (go_at_call 41; refine (HBa.out _).mono ?_; rintro e w9 ⟨z, fl, hq, rfl, hg_w9⟩; have zr0 : w9.cell? ⟨w.heap.size, 0, none⟩ = some (.int .u64 0) := hg_w9.c; have zrz0 : w9.frozen? ⟨w.heap.size, 0, none⟩ = false := hg_w9.z; have zr1 : w9.cell? ⟨w.heap.size, 1, none⟩ = some (.int .i64 0) := hg_w9.c; have zrz1 : w9.frozen? ⟨w.heap.size, 1, none⟩ = false := hg_w9.z)
      | (go_at_call 51; refine (HR.out hG.out _ _ (BigN.gb hbp Gb.g)).mono ?_; rintro e w9 ⟨z, fl, hq, rfl, hg_w9⟩; have zr0 : w9.cell? ⟨w.heap.size, 0, none⟩ = some (.int .u64 0) := hg_w9.c; have zrz0 : w9.frozen? ⟨w.heap.size, 0, none⟩ = false := hg_w9.z zr0; have zr1 : w9.cell? ⟨w.heap.size, 1, none⟩ = some (.int .i64 0) := hg_w9.c; have zrz1 : w9.frozen? ⟨w.heap.size, 1, none⟩ = false := hg_w9.z zr1))
    refine bodyPost_ret (v := .agg #[.int .u64 z, .int .i64 fl]) (by simp [results, Tryz.results18, go_sem, zr0, zr1]) rfl ⟨z, fl, hq, rfl, ?_⟩
    exact Gb.g

theorem mul_some {f p mx one inf sg nan : Int} (h : IsFmt f p mx one inf sg nan) (a b : Int) (a0 : 0 ≤ a) (fa : a < 2 * sg) (b0 : 0 ≤ b) (fb : b < 2 * sg) (w : World) :
    Calls Tryz.prog 18 #[.int .i64 f, .int .i64 0, .int .u64 a, .int .u64 b] w fun e w' => ∃ z fl : Int, (0 ≤ z ∧ z < 2 * sg) ∧ e = .returned (.agg #[.int .u64 z, .int .i64 fl]) ∧ Gb w w' := by
  have hb := h.bounds
  obtain ⟨x, hx⟩ := opd_ex h a a0 (by omega)
  obtain ⟨y, hy⟩ := opd_ex h b b0 (by omega)
  obtain ⟨v1, v2, v3, v4, v5, v6⟩ := opd_vo h hx
  obtain ⟨u1, u2, u3, u4, u5, u6⟩ := opd_vo h hy
  have xc0 := v1.c0; have xc4 := v1.c4; have yc0 := u1.c0; have yc4 := u1.c4
  have hms : mulS x.s y.s = 0 ∨ mulS x.s y.s = 1 := by unfold mulS; split <;> simp
  have hsw : ∀ v, 0 ≤ v → v < sg → 0 ≤ sw (mulS x.s y.s) sg v ∧ sw (mulS x.s y.s) sg v < 2 * sg := by
    intro v k1 k2; unfold sw; split <;> omega
  have by_ : ∀ c d : Int, (c == d) = true ∧ c = d ∨ (c == d) = false ∧ c ≠ d := by
    intro c d
    by_cases k : c = d
    · exact .inl ⟨by simp [k], k⟩
    · exact .inr ⟨by simp [k], k⟩
  refine sMul_some f 0 a b x.c x.s x.e ((x.M : Nat) : Int) y.c y.s y.e ((y.M : Nat) : Int) (mulS x.s y.s) (x.e + y.e) (x.M * y.M) (decide (3 ≤ x.c)) (decide (3 ≤ y.c)) (decide (x.c = 2 ∧ y.c = 0 ∨ x.c = 0 ∧ y.c = 2)) _ (fun w => l3Fits_yes h 0 a b (by omega) (by omega) a0 fa b0 fb w) (unp_det h a a0 fa hx) (unp_det h b b0 fb hy) (fun w => l3Quiet_any _ _ _ _ _ rfl w) (fun w => l3Quiet_any _ _ _ _ _ rfl w)
    (fun t w => (l3Nan_any h t _ rfl w).mono (fun e w' ⟨h1, h2⟩ => ⟨_, _, by omega, h1, h2⟩)) (fun w => (l2Bad_fmt h w).mono (fun e w' ⟨h1, h2⟩ => ⟨_, _, by omega, h1, h2⟩))
    (fun w => (l3Infinity_any h _ hms w).mono (fun e w' ⟨h1, h2⟩ => ⟨_, _, hsw inf (by omega) (by omega), h1, h2⟩)) (fun w => (l3Zero_any h _ hms w).mono (fun e w' ⟨h1, h2⟩ => ⟨_, _, hsw 0 (by omega) (by omega), h1, h2⟩))
    (fun w => l3NoProduct_any _ _ _ _ _ _ _ _ _ rfl w) (fun w => l3Product_any _ _ _ _ _ _ x.M y.M (by omega) (by omega) v1.s01 u1.s01 (by omega) (by omega) (by omega) (by omega) w)
    (fun h0 v w hB => ?_) ?_ w
  · have hK := big_nb hB (by omega)
    obtain ⟨n, hn, hBig⟩ := hB
    refine (l2Round_any h hBig (by omega) h0 hK 0 _ _ _ (by omega) (by omega) hms (by omega) (by omega) (fun k => by cases k)).mono ?_
    rintro e w' ⟨z, fl, _, z0, z1, rfl, hg⟩
    exact ⟨_, _, hsw z z0 z1, rfl, hg⟩
  · by_cases c1 : 3 ≤ x.c
    · rw [decide_eq_true c1]
      rcases by_ x.c 4 with ⟨k, _⟩ | ⟨k, _⟩
      · exact .inl ⟨rfl, k⟩
      · rcases by_ y.c 4 with ⟨k', _⟩ | ⟨k', _⟩
        · exact .inr (.inl ⟨rfl, k, k'⟩)
        · exact .inr (.inr (.inl ⟨rfl, k, k'⟩))
    · rw [decide_eq_false c1]
      have kx : (x.c == 4) = false := by simp; omega
      by_cases c2 : 3 ≤ y.c
      · rw [decide_eq_true c2]
        rcases by_ y.c 4 with ⟨k', _⟩ | ⟨k', _⟩
        · exact .inr (.inr (.inr (.inl ⟨rfl, rfl, kx, k'⟩)))
        · exact .inr (.inr (.inr (.inr (.inl ⟨rfl, rfl, kx, k'⟩))))
      · rw [decide_eq_false c2]
        by_cases c3 : x.c = 2 ∧ y.c = 0 ∨ x.c = 0 ∧ y.c = 2
        · rw [decide_eq_true c3]
          exact .inr (.inr (.inr (.inr (.inr (.inl ⟨rfl, rfl, rfl⟩)))))
        · rw [decide_eq_false c3]
          refine .inr (.inr (.inr (.inr (.inr (.inr ⟨rfl, rfl, rfl, ?_⟩)))))
          rcases by_ x.c 2 with ⟨k, _⟩ | ⟨k, _⟩
          · exact .inl ⟨k, trivial⟩
          · rcases by_ y.c 2 with ⟨k', _⟩ | ⟨k', _⟩
            · exact .inr (.inl ⟨k, k', trivial⟩)
            · rcases Nat.eq_zero_or_pos (x.M * y.M) with g | g
              · exact .inr (.inr (.inl ⟨k, k', g⟩))
              · exact .inr (.inr (.inr ⟨k, k', g⟩))
end Go.Proofs.YtkflpogmhailhaaGreatDoor

/- laws.FnQuotient: the walk. -/
set_option linter.unusedVariables false
set_option linter.unusedSimpArgs false
namespace Go.Proofs.YtkflpogmhailhaaGreatDoor
open Go.RowKit

set_option maxRecDepth 1000000 in
set_option maxHeartbeats 8000000 in
theorem quo_head (a : Option Addr) (len cap : Nat) (w : World) (hC : CodeRow w a len)
    (HD : Hid (∀ w', Gb w w' → Calls Tryz.prog 28 #[.slice a len cap] w' (DivDraw w')))
    (HA : Hid (∀ f u v : Int, 0 ≤ u → u < 18446744073709551616 → 0 ≤ v → v < 18446744073709551616 → ∃ c1 c2 : Int, (∀ w', Calls Tryz.prog 10 #[.int .i64 f, .int .u64 u] w' fun e w'' => e = .returned (.int .i64 c1) ∧ Gr w' w'') ∧ (∀ w', Calls Tryz.prog 10 #[.int .i64 f, .int .u64 v] w' fun e w'' => e = .returned (.int .i64 c2) ∧ Gr w' w'') ∧
      (c1 = 1 → c2 = 1 → ∃ Z fl a' b' Zs fs r3, QuB f u v Z fl a' b' Zs fs r3 w ∧ (fl = 20 ∨ fl = 24 ∨ (fl = 0 ∨ fl = 16) ∧ ∃ q r1 t, QuC f Z q a' b' r1 t w)))) :
    Calls Tryz.prog 6 #[.slice a len cap] w fun e w' => e = .returned (.bool true) ∧ Gb w w' := by
  have hlen : len ≤ 1048576 := hC.1
  clear hC
  go_enter Tryz.func6, Tryz.ntmps6
  go_upto_region 4 with (go_at_call 28; refine (HD.out _ (Gb.refl _)).mono ?_; rintro x w1 ⟨f, m, u, v, f0, f1, m0, m1, u0, u1, v0, v1, rfl, hg_w1⟩)
  obtain ⟨c1, c2, CU, CV, SB⟩ := HA.out f u v u0 u1 v0 v1
  have HU : Hid (∀ w', Calls Tryz.prog 10 #[.int .i64 f, .int .u64 u] w' fun e w'' => e = .returned (.int .i64 c1) ∧ Gr w' w'') := CU
  have HV : Hid (∀ w', Calls Tryz.prog 10 #[.int .i64 f, .int .u64 v] w' fun e w'' => e = .returned (.int .i64 c2) ∧ Gr w' w'') := CV
  have hgb1 : Gb w w1 := hg_w1
  clear CU CV HA HD
  rcases (show (c1 == 1) = false ∨ c1 = 1 ∧ (c2 == 1) = false ∨ c1 = 1 ∧ c2 = 1 by simp; omega) with k | ⟨rfl, k⟩ | ⟨rfl, rfl⟩
  · go_wp2_with (go_at_call 10; first | (with_reducible refine (HU.out _).mono ?_; rintro x wu ⟨rfl, hg_wu⟩; have hgbu : Gb w wu := Gb.g) | (with_reducible refine (HV.out _).mono ?_; rintro x wv ⟨rfl, hg_wv⟩; have hgbv : Gb w wv := Gb.g))
    go_returns
    exact ⟨rfl, Gb.g⟩
  · go_wp2_with (go_at_call 10; first | (with_reducible refine (HU.out _).mono ?_; rintro x wu ⟨rfl, hg_wu⟩; have hgbu : Gb w wu := Gb.g) | (with_reducible refine (HV.out _).mono ?_; rintro x wv ⟨rfl, hg_wv⟩; have hgbv : Gb w wv := Gb.g))
    go_returns
    exact ⟨rfl, Gb.g⟩
  · obtain ⟨Z, fl, a', b', Zs, fs, r3, SBB, hfl⟩ := SB rfl rfl
    have HB : Hid (QuB f u v Z fl a' b' Zs fs r3 w) := SBB
    have hr3 := SBB.r3
    have hq1 := eqRS_same Z fl
    have hq2 := eqRS_same Zs fs
    clear SB SBB
    go_upto_region 10 with (first
      | (go_at_call 10; first | (with_reducible refine (HU.out _).mono ?_; rintro x wu ⟨rfl, hg_wu⟩; have hgbu : Gb w wu := Gb.g) | (with_reducible refine (HV.out _).mono ?_; rintro x wv ⟨rfl, hg_wv⟩; have hgbv : Gb w wv := Gb.g))
      | (go_at_call 29; with_reducible refine (QuB.sdv HB.out _).mono ?_; rintro x w2 ⟨rfl, hg_w2⟩; have hgb2 : Gb w w2 := Gb.g)
      | (go_at_call 30; with_reducible refine (QuB.idv HB.out _ Gb.g).mono ?_; rintro x w3 ⟨rfl, hg_w3⟩; have hgb3 : Gb w w3 := Gb.g; have dr0 : w3.cell? ⟨w2.heap.size, 0, none⟩ = some (.int .u64 Z) := hg_w3.c; have drA0 := (fun ob => cell_alloc ob dr0); have dr1 : w3.cell? ⟨w2.heap.size, 1, none⟩ = some (.int .i64 fl) := hg_w3.c; have drA1 := (fun ob => cell_alloc ob dr1)))
    rcases hfl with rfl | rfl | ⟨hfl, q, r1, t, SC⟩
    · skip
      · go_upto_region 19 with (first
          | (go_at_call 11; first | (with_reducible refine (QuB.sza HB.out _).mono ?_; rintro x wk ⟨rfl, hw⟩; subst hw) | (with_reducible refine (QuB.szb HB.out _).mono ?_; rintro x wk ⟨rfl, hw⟩; subst hw))
          | (go_at_call 33; with_reducible refine (QuB.isq HB.out _ Gb.g).mono ?_; rintro x w6 ⟨rfl, hg_w6⟩; have hgb6 : Gb w w6 := Gb.g)
          | (go_at_call 31; first | (with_reducible refine (QuB.nxs HB.out _ Gb.g).mono ?_; rintro x w7 ⟨rfl, hg_w7⟩; have hgb7 : Gb w w7 := Gb.g; have ns0 : w7.cell? ⟨w6.heap.size, 0, none⟩ = some (.int .u64 Zs) := hg_w7.c; have ns1 : w7.cell? ⟨w6.heap.size, 1, none⟩ = some (.int .i64 fs) := hg_w7.c)))
        go_region_held3 (fun w' => w'.cell? ⟨w6.heap.size, 0, none⟩ = some (.int .u64 Zs) ∧ w'.cell? ⟨w6.heap.size, 1, none⟩ = some (.int .i64 fs))
          ((go_split_ands; (repeat' apply And.intro) <;> exact kh))
          (first
            | (go_at_call 34; with_reducible refine (QuB.ssq HB.out _).mono ?_; rintro x w8 ⟨rfl, hg_w8⟩; have oe0 : w8.cell? ⟨w6.heap.size, 0, none⟩ = some (.int .u64 Zs) := hg_w8.c; have oe1 : w8.cell? ⟨w6.heap.size, 1, none⟩ = some (.int .i64 fs) := hg_w8.c; have hgb8 : Gb w w8 := Gb.g)
            | (go_at_call 32; first | (with_reducible refine (QuB.ab3 HB.out _ Gb.g).mono ?_; rintro x w9 ⟨rfl, hg_w9⟩; have of0 : w9.cell? ⟨w6.heap.size, 0, none⟩ = some (.int .u64 Zs) := hg_w9.c; have of1 : w9.cell? ⟨w6.heap.size, 1, none⟩ = some (.int .i64 fs) := hg_w9.c; have hgb9 : Gb w w9 := Gb.g) | (with_reducible refine (QuB.ab4 HB.out _ Gb.g).mono ?_; rintro x w10 ⟨rfl, hg_w10⟩; have og0 : w10.cell? ⟨w6.heap.size, 0, none⟩ = some (.int .u64 Zs) := hg_w10.c; have og1 : w10.cell? ⟨w6.heap.size, 1, none⟩ = some (.int .i64 fs) := hg_w10.c; have hgb10 : Gb w w10 := Gb.g)))
        all_goals (try go_split_ands)
        all_goals go_wp2
        all_goals go_returns
        all_goals exact ⟨rfl, Gb.g⟩
    · skip
      · go_upto_region 19 with (first
          | (go_at_call 11; first | (with_reducible refine (QuB.sza HB.out _).mono ?_; rintro x wk ⟨rfl, hw⟩; subst hw) | (with_reducible refine (QuB.szb HB.out _).mono ?_; rintro x wk ⟨rfl, hw⟩; subst hw))
          | (go_at_call 33; with_reducible refine (QuB.isq HB.out _ Gb.g).mono ?_; rintro x w6 ⟨rfl, hg_w6⟩; have hgb6 : Gb w w6 := Gb.g)
          | (go_at_call 31; first | (with_reducible refine (QuB.nxs HB.out _ Gb.g).mono ?_; rintro x w7 ⟨rfl, hg_w7⟩; have hgb7 : Gb w w7 := Gb.g; have ns0 : w7.cell? ⟨w6.heap.size, 0, none⟩ = some (.int .u64 Zs) := hg_w7.c; have ns1 : w7.cell? ⟨w6.heap.size, 1, none⟩ = some (.int .i64 fs) := hg_w7.c)))
        go_region_held3 (fun w' => w'.cell? ⟨w6.heap.size, 0, none⟩ = some (.int .u64 Zs) ∧ w'.cell? ⟨w6.heap.size, 1, none⟩ = some (.int .i64 fs))
          ((go_split_ands; (repeat' apply And.intro) <;> exact kh))
          (first
            | (go_at_call 34; with_reducible refine (QuB.ssq HB.out _).mono ?_; rintro x w8 ⟨rfl, hg_w8⟩; have oe0 : w8.cell? ⟨w6.heap.size, 0, none⟩ = some (.int .u64 Zs) := hg_w8.c; have oe1 : w8.cell? ⟨w6.heap.size, 1, none⟩ = some (.int .i64 fs) := hg_w8.c; have hgb8 : Gb w w8 := Gb.g)
            | (go_at_call 32; first | (with_reducible refine (QuB.ab3 HB.out _ Gb.g).mono ?_; rintro x w9 ⟨rfl, hg_w9⟩; have of0 : w9.cell? ⟨w6.heap.size, 0, none⟩ = some (.int .u64 Zs) := hg_w9.c; have of1 : w9.cell? ⟨w6.heap.size, 1, none⟩ = some (.int .i64 fs) := hg_w9.c; have hgb9 : Gb w w9 := Gb.g) | (with_reducible refine (QuB.ab4 HB.out _ Gb.g).mono ?_; rintro x w10 ⟨rfl, hg_w10⟩; have og0 : w10.cell? ⟨w6.heap.size, 0, none⟩ = some (.int .u64 Zs) := hg_w10.c; have og1 : w10.cell? ⟨w6.heap.size, 1, none⟩ = some (.int .i64 fs) := hg_w10.c; have hgb10 : Gb w w10 := Gb.g)))
        all_goals (try go_split_ands)
        all_goals go_wp2
        all_goals go_returns
        all_goals exact ⟨rfl, Gb.g⟩
    · have HQ : Hid (QuC f Z q a' b' r1 t w) := SC
      have hr1 := SC.r1
      clear SC
      rcases hfl with rfl | rfl
      · cases t
        · go_upto_region 19 with (first
            | (go_at_call 11; first | (with_reducible refine (QuB.sza HB.out _).mono ?_; rintro x wk ⟨rfl, hw⟩; subst hw) | (with_reducible refine (QuB.szb HB.out _).mono ?_; rintro x wk ⟨rfl, hw⟩; subst hw) | (with_reducible refine (QuC.szq HQ.out _).mono ?_; rintro x wk ⟨rfl, hw⟩; subst hw))
            | (go_at_call 31; first | (with_reducible refine (QuB.nxs HB.out _ Gb.g).mono ?_; rintro x w7 ⟨rfl, hg_w7⟩; have hgb7 : Gb w w7 := Gb.g; have ns0 : w7.cell? ⟨w6.heap.size, 0, none⟩ = some (.int .u64 Zs) := hg_w7.c; have ns1 : w7.cell? ⟨w6.heap.size, 1, none⟩ = some (.int .i64 fs) := hg_w7.c) | (with_reducible refine (QuC.nxq HQ.out _ Gb.g).mono ?_; rintro x wn ⟨rfl, hg_wn⟩; have hgbn : Gb w wn := Gb.g))
            | (go_at_call 32; first | (with_reducible refine (QuC.ab1 HQ.out _ Gb.g).mono ?_; rintro x w4 ⟨rfl, hg_w4⟩; have hgb4 : Gb w w4 := Gb.g))
            | (go_at_call 22; with_reducible refine (QuC.rel HQ.out _).mono ?_; rintro x w5 ⟨rfl, hg_w5⟩; have hgb5 : Gb w w5 := Gb.g)
            | (go_at_call 33; with_reducible refine (QuB.isq HB.out _ Gb.g).mono ?_; rintro x w6 ⟨rfl, hg_w6⟩; have hgb6 : Gb w w6 := Gb.g))
          go_region_held3 (fun w' => w'.cell? ⟨w6.heap.size, 0, none⟩ = some (.int .u64 Zs) ∧ w'.cell? ⟨w6.heap.size, 1, none⟩ = some (.int .i64 fs))
            ((go_split_ands; (repeat' apply And.intro) <;> exact kh))
            (first
              | (go_at_call 34; with_reducible refine (QuB.ssq HB.out _).mono ?_; rintro x w8 ⟨rfl, hg_w8⟩; have oe0 : w8.cell? ⟨w6.heap.size, 0, none⟩ = some (.int .u64 Zs) := hg_w8.c; have oe1 : w8.cell? ⟨w6.heap.size, 1, none⟩ = some (.int .i64 fs) := hg_w8.c; have hgb8 : Gb w w8 := Gb.g)
              | (go_at_call 32; first | (with_reducible refine (QuB.ab3 HB.out _ Gb.g).mono ?_; rintro x w9 ⟨rfl, hg_w9⟩; have of0 : w9.cell? ⟨w6.heap.size, 0, none⟩ = some (.int .u64 Zs) := hg_w9.c; have of1 : w9.cell? ⟨w6.heap.size, 1, none⟩ = some (.int .i64 fs) := hg_w9.c; have hgb9 : Gb w w9 := Gb.g) | (with_reducible refine (QuB.ab4 HB.out _ Gb.g).mono ?_; rintro x w10 ⟨rfl, hg_w10⟩; have og0 : w10.cell? ⟨w6.heap.size, 0, none⟩ = some (.int .u64 Zs) := hg_w10.c; have og1 : w10.cell? ⟨w6.heap.size, 1, none⟩ = some (.int .i64 fs) := hg_w10.c; have hgb10 : Gb w w10 := Gb.g)))
          all_goals (try go_split_ands)
          all_goals go_wp2
          all_goals go_returns
          all_goals exact ⟨rfl, Gb.g⟩
        · go_upto_region 19 with (first
            | (go_at_call 11; first | (with_reducible refine (QuB.sza HB.out _).mono ?_; rintro x wk ⟨rfl, hw⟩; subst hw) | (with_reducible refine (QuB.szb HB.out _).mono ?_; rintro x wk ⟨rfl, hw⟩; subst hw) | (with_reducible refine (QuC.szq HQ.out _).mono ?_; rintro x wk ⟨rfl, hw⟩; subst hw))
            | (go_at_call 31; first | (with_reducible refine (QuB.nxs HB.out _ Gb.g).mono ?_; rintro x w7 ⟨rfl, hg_w7⟩; have hgb7 : Gb w w7 := Gb.g; have ns0 : w7.cell? ⟨w6.heap.size, 0, none⟩ = some (.int .u64 Zs) := hg_w7.c; have ns1 : w7.cell? ⟨w6.heap.size, 1, none⟩ = some (.int .i64 fs) := hg_w7.c) | (with_reducible refine (QuC.nxq HQ.out _ Gb.g).mono ?_; rintro x wn ⟨rfl, hg_wn⟩; have hgbn : Gb w wn := Gb.g))
            | (go_at_call 32; first | (with_reducible refine (QuC.ab1 HQ.out _ Gb.g).mono ?_; rintro x w4 ⟨rfl, hg_w4⟩; have hgb4 : Gb w w4 := Gb.g) | (with_reducible refine (QuC.ab2 HQ.out rfl _ Gb.g).mono ?_; rintro x wm ⟨rfl, hg_wm⟩; have hgbm : Gb w wm := Gb.g))
            | (go_at_call 22; with_reducible refine (QuC.rel HQ.out _).mono ?_; rintro x w5 ⟨rfl, hg_w5⟩; have hgb5 : Gb w w5 := Gb.g)
            | (go_at_call 33; with_reducible refine (QuB.isq HB.out _ Gb.g).mono ?_; rintro x w6 ⟨rfl, hg_w6⟩; have hgb6 : Gb w w6 := Gb.g))
          go_region_held3 (fun w' => w'.cell? ⟨w6.heap.size, 0, none⟩ = some (.int .u64 Zs) ∧ w'.cell? ⟨w6.heap.size, 1, none⟩ = some (.int .i64 fs))
            ((go_split_ands; (repeat' apply And.intro) <;> exact kh))
            (first
              | (go_at_call 34; with_reducible refine (QuB.ssq HB.out _).mono ?_; rintro x w8 ⟨rfl, hg_w8⟩; have oe0 : w8.cell? ⟨w6.heap.size, 0, none⟩ = some (.int .u64 Zs) := hg_w8.c; have oe1 : w8.cell? ⟨w6.heap.size, 1, none⟩ = some (.int .i64 fs) := hg_w8.c; have hgb8 : Gb w w8 := Gb.g)
              | (go_at_call 32; first | (with_reducible refine (QuB.ab3 HB.out _ Gb.g).mono ?_; rintro x w9 ⟨rfl, hg_w9⟩; have of0 : w9.cell? ⟨w6.heap.size, 0, none⟩ = some (.int .u64 Zs) := hg_w9.c; have of1 : w9.cell? ⟨w6.heap.size, 1, none⟩ = some (.int .i64 fs) := hg_w9.c; have hgb9 : Gb w w9 := Gb.g) | (with_reducible refine (QuB.ab4 HB.out _ Gb.g).mono ?_; rintro x w10 ⟨rfl, hg_w10⟩; have og0 : w10.cell? ⟨w6.heap.size, 0, none⟩ = some (.int .u64 Zs) := hg_w10.c; have og1 : w10.cell? ⟨w6.heap.size, 1, none⟩ = some (.int .i64 fs) := hg_w10.c; have hgb10 : Gb w w10 := Gb.g)))
          all_goals (try go_split_ands)
          all_goals go_wp2
          all_goals go_returns
          all_goals exact ⟨rfl, Gb.g⟩
      · cases t
        · go_upto_region 19 with (first
            | (go_at_call 11; first | (with_reducible refine (QuB.sza HB.out _).mono ?_; rintro x wk ⟨rfl, hw⟩; subst hw) | (with_reducible refine (QuB.szb HB.out _).mono ?_; rintro x wk ⟨rfl, hw⟩; subst hw) | (with_reducible refine (QuC.szq HQ.out _).mono ?_; rintro x wk ⟨rfl, hw⟩; subst hw))
            | (go_at_call 31; first | (with_reducible refine (QuB.nxs HB.out _ Gb.g).mono ?_; rintro x w7 ⟨rfl, hg_w7⟩; have hgb7 : Gb w w7 := Gb.g; have ns0 : w7.cell? ⟨w6.heap.size, 0, none⟩ = some (.int .u64 Zs) := hg_w7.c; have ns1 : w7.cell? ⟨w6.heap.size, 1, none⟩ = some (.int .i64 fs) := hg_w7.c) | (with_reducible refine (QuC.nxq HQ.out _ Gb.g).mono ?_; rintro x wn ⟨rfl, hg_wn⟩; have hgbn : Gb w wn := Gb.g))
            | (go_at_call 32; first | (with_reducible refine (QuC.ab1 HQ.out _ Gb.g).mono ?_; rintro x w4 ⟨rfl, hg_w4⟩; have hgb4 : Gb w w4 := Gb.g))
            | (go_at_call 22; with_reducible refine (QuC.rel HQ.out _).mono ?_; rintro x w5 ⟨rfl, hg_w5⟩; have hgb5 : Gb w w5 := Gb.g)
            | (go_at_call 33; with_reducible refine (QuB.isq HB.out _ Gb.g).mono ?_; rintro x w6 ⟨rfl, hg_w6⟩; have hgb6 : Gb w w6 := Gb.g))
          go_region_held3 (fun w' => w'.cell? ⟨w6.heap.size, 0, none⟩ = some (.int .u64 Zs) ∧ w'.cell? ⟨w6.heap.size, 1, none⟩ = some (.int .i64 fs))
            ((go_split_ands; (repeat' apply And.intro) <;> exact kh))
            (first
              | (go_at_call 34; with_reducible refine (QuB.ssq HB.out _).mono ?_; rintro x w8 ⟨rfl, hg_w8⟩; have oe0 : w8.cell? ⟨w6.heap.size, 0, none⟩ = some (.int .u64 Zs) := hg_w8.c; have oe1 : w8.cell? ⟨w6.heap.size, 1, none⟩ = some (.int .i64 fs) := hg_w8.c; have hgb8 : Gb w w8 := Gb.g)
              | (go_at_call 32; first | (with_reducible refine (QuB.ab3 HB.out _ Gb.g).mono ?_; rintro x w9 ⟨rfl, hg_w9⟩; have of0 : w9.cell? ⟨w6.heap.size, 0, none⟩ = some (.int .u64 Zs) := hg_w9.c; have of1 : w9.cell? ⟨w6.heap.size, 1, none⟩ = some (.int .i64 fs) := hg_w9.c; have hgb9 : Gb w w9 := Gb.g) | (with_reducible refine (QuB.ab4 HB.out _ Gb.g).mono ?_; rintro x w10 ⟨rfl, hg_w10⟩; have og0 : w10.cell? ⟨w6.heap.size, 0, none⟩ = some (.int .u64 Zs) := hg_w10.c; have og1 : w10.cell? ⟨w6.heap.size, 1, none⟩ = some (.int .i64 fs) := hg_w10.c; have hgb10 : Gb w w10 := Gb.g)))
          all_goals (try go_split_ands)
          all_goals go_wp2
          all_goals go_returns
          all_goals exact ⟨rfl, Gb.g⟩
        · go_upto_region 19 with (first
            | (go_at_call 11; first | (with_reducible refine (QuB.sza HB.out _).mono ?_; rintro x wk ⟨rfl, hw⟩; subst hw) | (with_reducible refine (QuB.szb HB.out _).mono ?_; rintro x wk ⟨rfl, hw⟩; subst hw) | (with_reducible refine (QuC.szq HQ.out _).mono ?_; rintro x wk ⟨rfl, hw⟩; subst hw))
            | (go_at_call 31; first | (with_reducible refine (QuB.nxs HB.out _ Gb.g).mono ?_; rintro x w7 ⟨rfl, hg_w7⟩; have hgb7 : Gb w w7 := Gb.g; have ns0 : w7.cell? ⟨w6.heap.size, 0, none⟩ = some (.int .u64 Zs) := hg_w7.c; have ns1 : w7.cell? ⟨w6.heap.size, 1, none⟩ = some (.int .i64 fs) := hg_w7.c) | (with_reducible refine (QuC.nxq HQ.out _ Gb.g).mono ?_; rintro x wn ⟨rfl, hg_wn⟩; have hgbn : Gb w wn := Gb.g))
            | (go_at_call 32; first | (with_reducible refine (QuC.ab1 HQ.out _ Gb.g).mono ?_; rintro x w4 ⟨rfl, hg_w4⟩; have hgb4 : Gb w w4 := Gb.g) | (with_reducible refine (QuC.ab2 HQ.out rfl _ Gb.g).mono ?_; rintro x wm ⟨rfl, hg_wm⟩; have hgbm : Gb w wm := Gb.g))
            | (go_at_call 22; with_reducible refine (QuC.rel HQ.out _).mono ?_; rintro x w5 ⟨rfl, hg_w5⟩; have hgb5 : Gb w w5 := Gb.g)
            | (go_at_call 33; with_reducible refine (QuB.isq HB.out _ Gb.g).mono ?_; rintro x w6 ⟨rfl, hg_w6⟩; have hgb6 : Gb w w6 := Gb.g))
          go_region_held3 (fun w' => w'.cell? ⟨w6.heap.size, 0, none⟩ = some (.int .u64 Zs) ∧ w'.cell? ⟨w6.heap.size, 1, none⟩ = some (.int .i64 fs))
            ((go_split_ands; (repeat' apply And.intro) <;> exact kh))
            (first
              | (go_at_call 34; with_reducible refine (QuB.ssq HB.out _).mono ?_; rintro x w8 ⟨rfl, hg_w8⟩; have oe0 : w8.cell? ⟨w6.heap.size, 0, none⟩ = some (.int .u64 Zs) := hg_w8.c; have oe1 : w8.cell? ⟨w6.heap.size, 1, none⟩ = some (.int .i64 fs) := hg_w8.c; have hgb8 : Gb w w8 := Gb.g)
              | (go_at_call 32; first | (with_reducible refine (QuB.ab3 HB.out _ Gb.g).mono ?_; rintro x w9 ⟨rfl, hg_w9⟩; have of0 : w9.cell? ⟨w6.heap.size, 0, none⟩ = some (.int .u64 Zs) := hg_w9.c; have of1 : w9.cell? ⟨w6.heap.size, 1, none⟩ = some (.int .i64 fs) := hg_w9.c; have hgb9 : Gb w w9 := Gb.g) | (with_reducible refine (QuB.ab4 HB.out _ Gb.g).mono ?_; rintro x w10 ⟨rfl, hg_w10⟩; have og0 : w10.cell? ⟨w6.heap.size, 0, none⟩ = some (.int .u64 Zs) := hg_w10.c; have og1 : w10.cell? ⟨w6.heap.size, 1, none⟩ = some (.int .i64 fs) := hg_w10.c; have hgb10 : Gb w w10 := Gb.g)))
          all_goals (try go_split_ands)
          all_goals go_wp2
          all_goals go_returns
          all_goals exact ⟨rfl, Gb.g⟩
end Go.Proofs.YtkflpogmhailhaaGreatDoor

/- laws.FnQuotient: whole. -/
set_option linter.unusedVariables false
set_option linter.unusedSimpArgs false
namespace Go.Proofs.YtkflpogmhailhaaGreatDoor
open Go.RowKit

theorem CodeRow.below {w w' : World} {a : Option Addr} {len : Nat} (h : CodeRow w a len) (g : Gb w w') : CodeRow w' a len := by
  obtain ⟨h1, h2⟩ := h
  refine ⟨h1, ?_⟩
  rcases h2 with e | ⟨b, off, rfl, hc⟩
  · exact .inl e
  · refine .inr ⟨b, off, rfl, fun i hi => ?_⟩
    obtain ⟨z, z0, z1, hz⟩ := hc i hi
    exact ⟨z, z0, z1, g.old hz⟩

theorem lawQuotient (a : Option Addr) (len cap : Nat) (w : World) (hC : CodeRow w a len) (hw : Fm w) :
    Calls Tryz.prog 6 #[.slice a len cap] w fun e w' => e = .returned (.bool true) ∧ Gb w w' := by
  refine quo_head a len cap w hC (fun w' g => ?_) (fun f u v u0 u1 v0 v1 => ?_)
  · refine drawDiv_any a len cap w' (hC.below g) (fun f mode a b a0 a1 b0 b1 => ?_) (fun f p mx one inf sg nan a b hF a0 a1 b0 b1 => ?_)
    · by_cases hf : f = 0 ∨ f = 1
      · obtain ⟨p, mx, one, inf, sg, nan, hF⟩ := fmt_of f hf
        by_cases hm : 0 ≤ mode ∧ mode ≤ 4
        · by_cases hfit : a < 2 * sg ∧ b < 2 * sg
          · exact .inl ⟨p, mx, one, inf, sg, nan, hF, hfit.1, hfit.2, fun w => l3Fits_yes hF mode a b hm.1 hm.2 a0 hfit.1 b0 hfit.2 w⟩
          · exact .inr (fun w => l3Fits_no f mode a b a0 a1 b0 b1 (nofit_of hF a1 b1 (by omega)) w)
        · exact .inr (fun w => l3Fits_no f mode a b a0 a1 b0 b1 (.inl (by omega)) w)
      · exact .inr (fun w => l3Fits_no f mode a b a0 a1 b0 b1 (.inr (.inl hf)) w)
    · exact fun w => mul_some hF a b a0 a1 b0 b1 w
  · obtain ⟨c1, h1, d1⟩ := class_at f u u0 u1
    obtain ⟨c2, h2, d2⟩ := class_at f v v0 v1
    refine ⟨c1, c2, h1, h2, fun e1 e2 => ?_⟩
    rcases d1 with d1 | ⟨p, mx, one, inf, sg, nan, x, hF, _, hx, xc⟩
    · exfalso; omega
    · rcases d2 with d2 | ⟨p', mx', one', inf', sg', nan', y, hF', _, hy, yc⟩
      · exfalso; omega
      · obtain ⟨rfl, rfl, rfl, rfl, rfl, rfl⟩ := hF.one hF'
        exact quo_facts hF u v u0 v0 hx hy (by omega) (by omega) w hw
end Go.Proofs.YtkflpogmhailhaaGreatDoor
