/- spec.Mul gives some word. -/
import Derived.Test.YtkflpogmhailhaaGreatDoorRD
import Derived.Test.YtkflpogmhailhaaGreatDoorC0
import Derived.Deep.DeepCutAuto
import Derived.Test.YtkflpogmhailhaaGreatDoorB4
import Derived.Test.YtkflpogmhailhaaGreatDoorR3
import Derived.Test.YtkflpogmhailhaaGreatDoorRG
set_option linter.unusedVariables false
set_option linter.unusedSimpArgs false
namespace Go.Proofs.YtkflpogmhailhaaGreatDoor
open Go.RowKit

theorem mu_nil {K : Nat} {w : World} {b k c N : Nat} (h : BigN K w (.slice (some ⟨b, 0, none⟩) k c) N) (h0 : N = 0) : ((k : Nat) : Int) = 0 := by
  obtain ⟨n, hn, hb⟩ := h
  obtain ⟨b', cap, e, _⟩ := hb.shape
  have := hb.none h0
  injection e with _ e2 _
  omega
theorem mu_pos {K : Nat} {w : World} {b k c N : Nat} (h : BigN K w (.slice (some ⟨b, 0, none⟩) k c) N) (hN : 0 < N) : 0 < k := by
  obtain ⟨n, hn, hb⟩ := h
  obtain ⟨b', cap, e, _⟩ := hb.shape
  have h2 := hb.1.iff
  injection e with _ e2 _
  have : n ≠ 0 := fun h => by have := h2.1 h; omega
  omega

def SomeR (R : Int → Int → Prop) (F : Nat) (args : Array Value) : Prop := ∀ w, Calls Tryz.prog F args w fun e w' => ∃ z fl : Int, R z fl ∧ e = .returned (.agg #[.int .u64 z, .int .i64 fl]) ∧ Gr w w'

set_option maxRecDepth 1000000 in
set_option maxHeartbeats 8000000 in
theorem sMul_some (f mode a b ca sa xa ga cb sb xb gb sp xp : Int) (Gp : Nat) (qa qb np : Bool) (R : Int → Int → Prop) (HF : Hid (∀ w, Calls Tryz.prog 37 #[.int .i64 f, .int .i64 mode, .int .u64 a, .int .u64 b] w fun e w' => e = .returned (.bool true) ∧ w = w')) (HUa : Hid (∀ w, Calls Tryz.prog 26 #[.int .i64 f, .int .u64 a] w fun e w' => e = .returned (.agg #[.int .i64 ca, .int .i64 sa, .int .i64 xa, .int .u64 ga]) ∧ Gr w w')) (HUb : Hid (∀ w, Calls Tryz.prog 26 #[.int .i64 f, .int .u64 b] w fun e w' => e = .returned (.agg #[.int .i64 cb, .int .i64 sb, .int .i64 xb, .int .u64 gb]) ∧ Gr w w'))
    (HQa : Hid (∀ w, Calls Tryz.prog 42 #[.agg #[.int .i64 ca, .int .i64 sa, .int .i64 xa, .int .u64 ga]] w fun e w' => e = .returned (.bool qa) ∧ Gr w w')) (HQb : Hid (∀ w, Calls Tryz.prog 42 #[.agg #[.int .i64 cb, .int .i64 sb, .int .i64 xb, .int .u64 gb]] w fun e w' => e = .returned (.bool qb) ∧ Gr w w')) (HNa : Hid (∀ t, SomeR R 43 #[.int .i64 f, .bool t])) (HBa : Hid (SomeR R 41 #[.int .i64 f])) (HIn : Hid (SomeR R 56 #[.int .i64 f, .int .i64 sp])) (HZe : Hid (SomeR R 50 #[.int .i64 f, .int .i64 sp]))
    (HP : Hid (∀ w, Calls Tryz.prog 67 #[.agg #[.int .i64 ca, .int .i64 sa, .int .i64 xa, .int .u64 ga], .agg #[.int .i64 cb, .int .i64 sb, .int .i64 xb, .int .u64 gb]] w fun e w' => e = .returned (.bool np) ∧ Gr w w')) (HM : Hid (∀ w, Calls Tryz.prog 68 #[.agg #[.int .i64 ca, .int .i64 sa, .int .i64 xa, .int .u64 ga], .agg #[.int .i64 cb, .int .i64 sb, .int .i64 xb, .int .u64 gb]] w fun e w' => ∃ b k cc, BigN 4 w' (.slice (some ⟨b, 0, none⟩) k cc) Gp ∧ e = .returned (.agg #[.int .i64 sp, .slice (some ⟨b, 0, none⟩) k cc, .int .i64 xp, .bool false]) ∧ Gb w w'))
    (HR : Hid (0 < Gp → ∀ v w, BigN 4 w v Gp → Calls Tryz.prog 51 #[.int .i64 f, .int .i64 mode, .agg #[.int .i64 sp, v, .int .i64 xp, .bool false]] w fun e w' => ∃ z fl, R z fl ∧ e = .returned (.agg #[.int .u64 z, .int .i64 fl]) ∧ Gb w w'))
    (hcase : qa = true ∧ (ca == 4) = true ∨ qa = true ∧ (ca == 4) = false ∧ (cb == 4) = true ∨ qa = true ∧ (ca == 4) = false ∧ (cb == 4) = false ∨ qa = false ∧ qb = true ∧ (ca == 4) = false ∧ (cb == 4) = true ∨ qa = false ∧ qb = true ∧ (ca == 4) = false ∧ (cb == 4) = false ∨ qa = false ∧ qb = false ∧ np = true ∨
      qa = false ∧ qb = false ∧ np = false ∧ ((ca == 2) = true ∧ Hid True ∨ (ca == 2) = false ∧ (cb == 2) = true ∧ Hid True ∨ (ca == 2) = false ∧ (cb == 2) = false ∧ Hid (Gp = 0) ∨ (ca == 2) = false ∧ (cb == 2) = false ∧ Hid (0 < Gp))) (w : World) :
    Calls Tryz.prog 18 #[.int .i64 f, .int .i64 mode, .int .u64 a, .int .u64 b] w fun e w' => ∃ z fl : Int, R z fl ∧ e = .returned (.agg #[.int .u64 z, .int .i64 fl]) ∧ Gb w w' := by
  rcases hcase with ⟨rfl, e1⟩ | ⟨rfl, e1, e2⟩ | ⟨rfl, e1, e2⟩ | ⟨rfl, rfl, e1, e2⟩ | ⟨rfl, rfl, e1, e2⟩ | ⟨rfl, rfl, rfl⟩ | ⟨rfl, rfl, rfl, ⟨e1, hG⟩ | ⟨e1, e2, hG⟩ | ⟨e1, e2, hG⟩ | ⟨e1, e2, hG⟩⟩
  all_goals
    go_enter Tryz.func18, Tryz.ntmps18
    go_wp2_with (first
      | (go_at_call 37; refine (HF.out _).mono ?_; rintro e wk ⟨rfl, hw⟩; subst hw)
      | (go_at_call 26; first | (with_reducible refine (HUa.out _).mono ?_; rintro e w1 ⟨rfl, hg_w1⟩; have u0r0 : w1.cell? ⟨w.heap.size, 0, none⟩ = some (.int .u64 0) := hg_w1.c; have u0rz0 : w1.frozen? ⟨w.heap.size, 0, none⟩ = false := hg_w1.z; have u0r1 : w1.cell? ⟨w.heap.size, 1, none⟩ = some (.int .i64 0) := hg_w1.c; have u0rz1 : w1.frozen? ⟨w.heap.size, 1, none⟩ = false := hg_w1.z; have hz0 := cell_size u0r0) | (with_reducible refine (HUb.out _).mono ?_; rintro e w2 ⟨rfl, hg_w2⟩; have u1r0 : w2.cell? ⟨w.heap.size, 0, none⟩ = some (.int .u64 0) := hg_w2.c; have u1rz0 : w2.frozen? ⟨w.heap.size, 0, none⟩ = false := hg_w2.z; have u1r1 : w2.cell? ⟨w.heap.size, 1, none⟩ = some (.int .i64 0) := hg_w2.c; have u1rz1 : w2.frozen? ⟨w.heap.size, 1, none⟩ = false := hg_w2.z; have u1p00 : w2.cell? ⟨w1.heap.size, 0, none⟩ = some (.int .i64 ca) := hg_w2.c; have u1p0A0 := (fun ob => cell_alloc ob u1p00); have u1p01 : w2.cell? ⟨w1.heap.size, 1, none⟩ = some (.int .i64 sa) := hg_w2.c; have u1p0A1 := (fun ob => cell_alloc ob u1p01); have u1p02 : w2.cell? ⟨w1.heap.size, 2, none⟩ = some (.int .i64 xa) := hg_w2.c; have u1p0A2 := (fun ob => cell_alloc ob u1p02); have u1p03 : w2.cell? ⟨w1.heap.size, 3, none⟩ = some (.int .u64 ga) := hg_w2.c; have u1p0A3 := (fun ob => cell_alloc ob u1p03); have hz1 := cell_size u1r0))
      | (go_at_call 42; first | (with_reducible refine (HQa.out _).mono ?_; rintro e va ⟨rfl, hg_va⟩; have qar0 : va.cell? ⟨w.heap.size, 0, none⟩ = some (.int .u64 0) := hg_va.c; have qarz0 : va.frozen? ⟨w.heap.size, 0, none⟩ = false := hg_va.z; have qar1 : va.cell? ⟨w.heap.size, 1, none⟩ = some (.int .i64 0) := hg_va.c; have qarz1 : va.frozen? ⟨w.heap.size, 1, none⟩ = false := hg_va.z; have qap00 : va.cell? ⟨w1.heap.size, 0, none⟩ = some (.int .i64 ca) := hg_va.c; have qap01 : va.cell? ⟨w1.heap.size, 1, none⟩ = some (.int .i64 sa) := hg_va.c; have qap02 : va.cell? ⟨w1.heap.size, 2, none⟩ = some (.int .i64 xa) := hg_va.c; have qap03 : va.cell? ⟨w1.heap.size, 3, none⟩ = some (.int .u64 ga) := hg_va.c; have qap10 : va.cell? ⟨w2.heap.size, 0, none⟩ = some (.int .i64 cb) := hg_va.c; have qap11 : va.cell? ⟨w2.heap.size, 1, none⟩ = some (.int .i64 sb) := hg_va.c; have qap12 : va.cell? ⟨w2.heap.size, 2, none⟩ = some (.int .i64 xb) := hg_va.c; have qap13 : va.cell? ⟨w2.heap.size, 3, none⟩ = some (.int .u64 gb) := hg_va.c) | (with_reducible refine (HQb.out _).mono ?_; rintro e vb ⟨rfl, hg_vb⟩; have qbr0 : vb.cell? ⟨w.heap.size, 0, none⟩ = some (.int .u64 0) := hg_vb.c; have qbrz0 : vb.frozen? ⟨w.heap.size, 0, none⟩ = false := hg_vb.z; have qbr1 : vb.cell? ⟨w.heap.size, 1, none⟩ = some (.int .i64 0) := hg_vb.c; have qbrz1 : vb.frozen? ⟨w.heap.size, 1, none⟩ = false := hg_vb.z; have qbp00 : vb.cell? ⟨w1.heap.size, 0, none⟩ = some (.int .i64 ca) := hg_vb.c; have qbp01 : vb.cell? ⟨w1.heap.size, 1, none⟩ = some (.int .i64 sa) := hg_vb.c; have qbp02 : vb.cell? ⟨w1.heap.size, 2, none⟩ = some (.int .i64 xa) := hg_vb.c; have qbp03 : vb.cell? ⟨w1.heap.size, 3, none⟩ = some (.int .u64 ga) := hg_vb.c; have qbp10 : vb.cell? ⟨w2.heap.size, 0, none⟩ = some (.int .i64 cb) := hg_vb.c; have qbp11 : vb.cell? ⟨w2.heap.size, 1, none⟩ = some (.int .i64 sb) := hg_vb.c; have qbp12 : vb.cell? ⟨w2.heap.size, 2, none⟩ = some (.int .i64 xb) := hg_vb.c; have qbp13 : vb.cell? ⟨w2.heap.size, 3, none⟩ = some (.int .u64 gb) := hg_vb.c))
      | (go_at_call 67; refine (HP.out _).mono ?_; rintro e vp ⟨rfl, hg_vp⟩; have npr0 : vp.cell? ⟨w.heap.size, 0, none⟩ = some (.int .u64 0) := hg_vp.c; have nprz0 : vp.frozen? ⟨w.heap.size, 0, none⟩ = false := hg_vp.z; have npr1 : vp.cell? ⟨w.heap.size, 1, none⟩ = some (.int .i64 0) := hg_vp.c; have nprz1 : vp.frozen? ⟨w.heap.size, 1, none⟩ = false := hg_vp.z; have npp00 : vp.cell? ⟨w1.heap.size, 0, none⟩ = some (.int .i64 ca) := hg_vp.c; have npp01 : vp.cell? ⟨w1.heap.size, 1, none⟩ = some (.int .i64 sa) := hg_vp.c; have npp02 : vp.cell? ⟨w1.heap.size, 2, none⟩ = some (.int .i64 xa) := hg_vp.c; have npp03 : vp.cell? ⟨w1.heap.size, 3, none⟩ = some (.int .u64 ga) := hg_vp.c; have npp10 : vp.cell? ⟨w2.heap.size, 0, none⟩ = some (.int .i64 cb) := hg_vp.c; have npp11 : vp.cell? ⟨w2.heap.size, 1, none⟩ = some (.int .i64 sb) := hg_vp.c; have npp12 : vp.cell? ⟨w2.heap.size, 2, none⟩ = some (.int .i64 xb) := hg_vp.c; have npp13 : vp.cell? ⟨w2.heap.size, 3, none⟩ = some (.int .u64 gb) := hg_vp.c)
      | (go_at_call 68; refine (HM.out _).mono ?_; rintro e wm ⟨bp, kp, qp, hbp, rfl, hg_wm⟩; have mr0 : wm.cell? ⟨w.heap.size, 0, none⟩ = some (.int .u64 0) := hg_wm.c; have mrz0 : wm.frozen? ⟨w.heap.size, 0, none⟩ = false := hg_wm.z mr0; have mrA0 := (fun ob => cell_alloc ob mr0); have mrB0 : ∀ c t, (wm.alloc (.cells c t)).frozen? ⟨w.heap.size, 0, none⟩ = false := (fun c t => fz_alloc mrz0); have mr1 : wm.cell? ⟨w.heap.size, 1, none⟩ = some (.int .i64 0) := hg_wm.c; have mrz1 : wm.frozen? ⟨w.heap.size, 1, none⟩ = false := hg_wm.z mr1; have mrA1 := (fun ob => cell_alloc ob mr1); have mrB1 : ∀ c t, (wm.alloc (.cells c t)).frozen? ⟨w.heap.size, 1, none⟩ = false := (fun c t => fz_alloc mrz1); have mp00 : wm.cell? ⟨w1.heap.size, 0, none⟩ = some (.int .i64 ca) := hg_wm.c; have mp01 : wm.cell? ⟨w1.heap.size, 1, none⟩ = some (.int .i64 sa) := hg_wm.c; have mp02 : wm.cell? ⟨w1.heap.size, 2, none⟩ = some (.int .i64 xa) := hg_wm.c; have mp03 : wm.cell? ⟨w1.heap.size, 3, none⟩ = some (.int .u64 ga) := hg_wm.c; have mp10 : wm.cell? ⟨w2.heap.size, 0, none⟩ = some (.int .i64 cb) := hg_wm.c; have mp11 : wm.cell? ⟨w2.heap.size, 1, none⟩ = some (.int .i64 sb) := hg_wm.c; have mp12 : wm.cell? ⟨w2.heap.size, 2, none⟩ = some (.int .i64 xb) := hg_wm.c; have mp13 : wm.cell? ⟨w2.heap.size, 3, none⟩ = some (.int .u64 gb) := hg_wm.c; have mA0 := (fun ob => cell_alloc ob mp00); have mB0 := (fun ob => cell_alloc ob mp10); have hzm := cell_size mr0; first | (have hkp := mu_nil hbp hG.out) | (have hkp := mu_pos hbp hG.out) | skip)
      | (go_at_call 56; refine (HIn.out _).mono ?_; rintro e w9 ⟨z, fl, hq, rfl, hg_w9⟩; have zr0 : w9.cell? ⟨w.heap.size, 0, none⟩ = some (.int .u64 0) := hg_w9.c; have zrz0 : w9.frozen? ⟨w.heap.size, 0, none⟩ = false := hg_w9.z; have zr1 : w9.cell? ⟨w.heap.size, 1, none⟩ = some (.int .i64 0) := hg_w9.c; have zrz1 : w9.frozen? ⟨w.heap.size, 1, none⟩ = false := hg_w9.z)
      | (go_at_call 50; refine (HZe.out _).mono ?_; rintro e w9 ⟨z, fl, hq, rfl, hg_w9⟩; have zr0 : w9.cell? ⟨w.heap.size, 0, none⟩ = some (.int .u64 0) := hg_w9.c; have zrz0 : w9.frozen? ⟨w.heap.size, 0, none⟩ = false := hg_w9.z; have zr1 : w9.cell? ⟨w.heap.size, 1, none⟩ = some (.int .i64 0) := hg_w9.c; have zrz1 : w9.frozen? ⟨w.heap.size, 1, none⟩ = false := hg_w9.z)
      | (go_at_call 43; refine (HNa.out _ _).mono ?_; rintro e w9 ⟨z, fl, hq, rfl, hg_w9⟩; have zr0 : w9.cell? ⟨w.heap.size, 0, none⟩ = some (.int .u64 0) := hg_w9.c; have zrz0 : w9.frozen? ⟨w.heap.size, 0, none⟩ = false := hg_w9.z; have zr1 : w9.cell? ⟨w.heap.size, 1, none⟩ = some (.int .i64 0) := hg_w9.c; have zrz1 : w9.frozen? ⟨w.heap.size, 1, none⟩ = false := hg_w9.z)
      | (go_at_call 41; refine (HBa.out _).mono ?_; rintro e w9 ⟨z, fl, hq, rfl, hg_w9⟩; have zr0 : w9.cell? ⟨w.heap.size, 0, none⟩ = some (.int .u64 0) := hg_w9.c; have zrz0 : w9.frozen? ⟨w.heap.size, 0, none⟩ = false := hg_w9.z; have zr1 : w9.cell? ⟨w.heap.size, 1, none⟩ = some (.int .i64 0) := hg_w9.c; have zrz1 : w9.frozen? ⟨w.heap.size, 1, none⟩ = false := hg_w9.z)
      | (go_at_call 51; refine (HR.out hG.out _ _ (BigN.gb hbp Gb.g)).mono ?_; rintro e w9 ⟨z, fl, hq, rfl, hg_w9⟩; have zr0 : w9.cell? ⟨w.heap.size, 0, none⟩ = some (.int .u64 0) := hg_w9.c; have zrz0 : w9.frozen? ⟨w.heap.size, 0, none⟩ = false := hg_w9.z zr0; have zr1 : w9.cell? ⟨w.heap.size, 1, none⟩ = some (.int .i64 0) := hg_w9.c; have zrz1 : w9.frozen? ⟨w.heap.size, 1, none⟩ = false := hg_w9.z zr1))
    refine bodyPost_ret (v := .agg #[.int .u64 z, .int .i64 fl]) (by simp [results, Tryz.results18, go_sem, zr0, zr1]) rfl ⟨z, fl, hq, rfl, ?_⟩
    exact Gb.g

theorem mul_some {f p mx one inf sg nan : Int} (h : IsFmt f p mx one inf sg nan) (a b : Int) (a0 : 0 ≤ a) (fa : a < 2 * sg) (b0 : 0 ≤ b) (fb : b < 2 * sg) (w : World) :
    Calls Tryz.prog 18 #[.int .i64 f, .int .i64 0, .int .u64 a, .int .u64 b] w fun e w' => ∃ z fl : Int, (0 ≤ z ∧ z < 2 * sg) ∧ e = .returned (.agg #[.int .u64 z, .int .i64 fl]) ∧ Gb w w' := by
  have hb := h.bounds
  obtain ⟨x, hx⟩ := opd_ex h a a0 (by omega)
  obtain ⟨y, hy⟩ := opd_ex h b b0 (by omega)
  obtain ⟨v1, v2, v3, v4, v5, v6⟩ := opd_vo h hx
  obtain ⟨u1, u2, u3, u4, u5, u6⟩ := opd_vo h hy
  have xc0 := v1.c0; have xc4 := v1.c4; have yc0 := u1.c0; have yc4 := u1.c4
  have hms : mulS x.s y.s = 0 ∨ mulS x.s y.s = 1 := by unfold mulS; split <;> simp
  have hsw : ∀ v, 0 ≤ v → v < sg → 0 ≤ sw (mulS x.s y.s) sg v ∧ sw (mulS x.s y.s) sg v < 2 * sg := by
    intro v k1 k2; unfold sw; split <;> omega
  have by_ : ∀ c d : Int, (c == d) = true ∧ c = d ∨ (c == d) = false ∧ c ≠ d := by
    intro c d
    by_cases k : c = d
    · exact .inl ⟨by simp [k], k⟩
    · exact .inr ⟨by simp [k], k⟩
  refine sMul_some f 0 a b x.c x.s x.e ((x.M : Nat) : Int) y.c y.s y.e ((y.M : Nat) : Int) (mulS x.s y.s) (x.e + y.e) (x.M * y.M) (decide (3 ≤ x.c)) (decide (3 ≤ y.c)) (decide (x.c = 2 ∧ y.c = 0 ∨ x.c = 0 ∧ y.c = 2)) _ (fun w => l3Fits_yes h 0 a b (by omega) (by omega) a0 fa b0 fb w) (unp_det h a a0 fa hx) (unp_det h b b0 fb hy) (fun w => l3Quiet_any _ _ _ _ _ rfl w) (fun w => l3Quiet_any _ _ _ _ _ rfl w)
    (fun t w => (l3Nan_any h t _ rfl w).mono (fun e w' ⟨h1, h2⟩ => ⟨_, _, by omega, h1, h2⟩)) (fun w => (l2Bad_fmt h w).mono (fun e w' ⟨h1, h2⟩ => ⟨_, _, by omega, h1, h2⟩))
    (fun w => (l3Infinity_any h _ hms w).mono (fun e w' ⟨h1, h2⟩ => ⟨_, _, hsw inf (by omega) (by omega), h1, h2⟩)) (fun w => (l3Zero_any h _ hms w).mono (fun e w' ⟨h1, h2⟩ => ⟨_, _, hsw 0 (by omega) (by omega), h1, h2⟩))
    (fun w => l3NoProduct_any _ _ _ _ _ _ _ _ _ rfl w) (fun w => l3Product_any _ _ _ _ _ _ x.M y.M (by omega) (by omega) v1.s01 u1.s01 (by omega) (by omega) (by omega) (by omega) w)
    (fun h0 v w hB => ?_) ?_ w
  · have hK := big_nb hB (by omega)
    obtain ⟨n, hn, hBig⟩ := hB
    refine (l2Round_any h hBig (by omega) h0 hK 0 _ _ _ (by omega) (by omega) hms (by omega) (by omega) (fun k => by cases k)).mono ?_
    rintro e w' ⟨z, fl, _, z0, z1, rfl, hg⟩
    exact ⟨_, _, hsw z z0 z1, rfl, hg⟩
  · by_cases c1 : 3 ≤ x.c
    · rw [decide_eq_true c1]
      rcases by_ x.c 4 with ⟨k, _⟩ | ⟨k, _⟩
      · exact .inl ⟨rfl, k⟩
      · rcases by_ y.c 4 with ⟨k', _⟩ | ⟨k', _⟩
        · exact .inr (.inl ⟨rfl, k, k'⟩)
        · exact .inr (.inr (.inl ⟨rfl, k, k'⟩))
    · rw [decide_eq_false c1]
      have kx : (x.c == 4) = false := by simp; omega
      by_cases c2 : 3 ≤ y.c
      · rw [decide_eq_true c2]
        rcases by_ y.c 4 with ⟨k', _⟩ | ⟨k', _⟩
        · exact .inr (.inr (.inr (.inl ⟨rfl, rfl, kx, k'⟩)))
        · exact .inr (.inr (.inr (.inr (.inl ⟨rfl, rfl, kx, k'⟩))))
      · rw [decide_eq_false c2]
        by_cases c3 : x.c = 2 ∧ y.c = 0 ∨ x.c = 0 ∧ y.c = 2
        · rw [decide_eq_true c3]
          exact .inr (.inr (.inr (.inr (.inr (.inl ⟨rfl, rfl, rfl⟩)))))
        · rw [decide_eq_false c3]
          refine .inr (.inr (.inr (.inr (.inr (.inr ⟨rfl, rfl, rfl, ?_⟩)))))
          rcases by_ x.c 2 with ⟨k, _⟩ | ⟨k, _⟩
          · exact .inl ⟨k, trivial⟩
          · rcases by_ y.c 2 with ⟨k', _⟩ | ⟨k', _⟩
            · exact .inr (.inl ⟨k, k', trivial⟩)
            · rcases Nat.eq_zero_or_pos (x.M * y.M) with g | g
              · exact .inr (.inr (.inl ⟨k, k', g⟩))
              · exact .inr (.inr (.inr ⟨k, k', g⟩))
end Go.Proofs.YtkflpogmhailhaaGreatDoor

/- spec.l4Quotient. -/
set_option linter.unusedVariables false
set_option linter.unusedSimpArgs false
namespace Go.Proofs.YtkflpogmhailhaaGreatDoor
open Go.RowKit

theorem bigN_nil {K : Nat} {w : World} {b k c N : Nat} (h : BigN K w (.slice (some ⟨b, 0, none⟩) k c) N) (h0 : N = 0) : k = 0 := by
  obtain ⟨n, hn, hnm, hr⟩ := h
  have e : n = k := by obtain ⟨_, b', c', hv, _⟩ := hr; cases hv; rfl
  rw [← e]; exact (hnm.iff).2 h0
theorem bigN_pos {K : Nat} {w : World} {b k c N : Nat} (h : BigN K w (.slice (some ⟨b, 0, none⟩) k c) N) (h0 : N ≠ 0) : 0 < k := by
  obtain ⟨n, hn, hnm, hr⟩ := h
  have e : n = k := by obtain ⟨_, b', c', hv, _⟩ := hr; cases hv; rfl
  rw [← e]
  rcases Nat.eq_zero_or_pos n with c | c
  · exact absurd ((hnm.iff).1 c) h0
  · exact c

/-- Quotient and rest, as slices. -/
theorem div_slices {K L : Nat} {v v' : Value} {N N' : Nat} {w : World} (hK : K ≤ 1000) (hL : L ≤ 1000) (h : BigN K w v N) (h' : BigN L w v' N') (h0 : 0 < N') :
    Calls Tryz.prog 46 #[v, v'] w fun e w' => ∃ b k c b' k' c', BigN K w' (.slice (some ⟨b, 0, none⟩) k c) (N / N') ∧ BigN (L + 1) w' (.slice (some ⟨b', 0, none⟩) k' c') (N % N') ∧ e = .returned (.tuple #[.slice (some ⟨b, 0, none⟩) k c, .slice (some ⟨b', 0, none⟩) k' c']) ∧ Gb w w' := by
  obtain ⟨n, hn, hb⟩ := h
  obtain ⟨n', hn', hb'⟩ := h'
  refine (l2Div_any hb (by omega) hb' (by omega) h0).mono ?_
  rintro e w' ⟨q, r, k, k', rfl, hq, hr, hk, hk', hg⟩
  obtain ⟨b, c, rfl, _⟩ := Big.shape hq
  obtain ⟨b', c', rfl, _⟩ := Big.shape hr
  exact ⟨b, k, c, b', k', c', ⟨k, by omega, hq⟩, ⟨k', by omega, hr⟩, rfl, hg⟩

set_option maxRecDepth 1000000 in
set_option maxHeartbeats 8000000 in
theorem l4Quotient_any {f p mx one inf sg nan : Int} (h : IsFmt f p mx one inf sg nan) (c s x c' s' x' : Int) (A B : Nat) (hA : A < 18446744073709551616) (hB : B < 18446744073709551616) (hB0 : 0 < B) (a0 : 0 ≤ s) (a1 : s ≤ 1) (b0 : 0 ≤ s') (b1 : s' ≤ 1) (sp : Int) (hm1 : (s + s').tmod 2 = sp) (hm2 : (s + s') % 2 = sp) (x0 : -50000 ≤ x) (x1 : x ≤ 50000) (y0 : -50000 ≤ x') (y1 : x' ≤ 50000) (P : Nat) (hP : (P : Int) = p + 4) (w : World) :
    Calls Tryz.prog 79 #[.int .i64 f, .agg #[.int .i64 c, .int .i64 s, .int .i64 x, .int .u64 ((A : Nat))], .agg #[.int .i64 (c'), .int .i64 (s'), .int .i64 (x'), .int .u64 ((B : Nat))]] w fun e w' => ∃ b k cc, BigN 8 w' (.slice (some ⟨b, 0, none⟩) k cc) (A * 2 ^ P / B) ∧ e = .returned (.agg #[.int .i64 sp, .slice (some ⟨b, 0, none⟩) k cc, .int .i64 (x - x' - P), .bool (decide (A * 2 ^ P % B ≠ 0))]) ∧ Gb w w' := by
  have hpb : p ≤ 53 ∧ 24 ≤ p := by rcases h with h | h <;> omega
  have hP60 : P ≤ 57 := by omega
  have HB : Hid (∀ (H : Nat) w, H < 18446744073709551616 → Calls Tryz.prog 45 #[.int .u64 (H : Nat)] w fun e w' => ∃ b k c, BigN 2 w' (.slice (some ⟨b, 0, none⟩) k c) H ∧ e = .returned (.slice (some ⟨b, 0, none⟩) k c) ∧ Gb w w') := fun H w hH => big_slice (l2Big_any H hH w)
  have HS : Hid (∀ v w, BigN 2 w v A → Calls Tryz.prog 44 #[v, .int .i64 (P : Int)] w fun e w' => ∃ b k c, BigN 8 w' (.slice (some ⟨b, 0, none⟩) k c) (A * 2 ^ P) ∧ e = .returned (.slice (some ⟨b, 0, none⟩) k c) ∧ Gb w w') := fun v w ⟨n, a1, a2⟩ => big_slice ((l2Shl_any a2 (by omega) P (by omega)).mono (fun e w' ⟨v, k, c1, c2, c3, c4⟩ => ⟨v, k, c1, c2, by omega, c4⟩))
  have HD : Hid (∀ v v' w, BigN 8 w v (A * 2 ^ P) → BigN 2 w v' B → Calls Tryz.prog 46 #[v, v'] w fun e w' => ∃ b k c b' k' c', BigN 8 w' (.slice (some ⟨b, 0, none⟩) k c) (A * 2 ^ P / B) ∧ BigN 3 w' (.slice (some ⟨b', 0, none⟩) k' c') (A * 2 ^ P % B) ∧ e = .returned (.tuple #[.slice (some ⟨b, 0, none⟩) k c, .slice (some ⟨b', 0, none⟩) k' c']) ∧ Gb w w') := fun v v' w h1 h2 => div_slices (by omega) (by omega) h1 h2 hB0
  have HP : Hid (∀ w, Calls Tryz.prog 76 #[.int .i64 f] w fun e w' => e = .returned (.int .i64 p) ∧ w = w') := fun w => l2P_any h w
  have g1 : p + 4 = (P : Int) := hP.symm
  obtain ⟨z, hz⟩ : ∃ z, x - x' - (P : Int) = z := ⟨_, rfl⟩
  rw [hz]
  clear hP h
  by_cases hr : A * 2 ^ P % B = 0
  · rw [show decide (A * 2 ^ P % B ≠ 0) = false by simp [hr]]
    have HR : Hid _ := hr
    clear hr
    generalize A * 2 ^ P % B = R at *
    generalize A * 2 ^ P / B = Qn at *
    generalize A * 2 ^ P = X at *
    go_enter Tryz.func79, Tryz.ntmps79
    go_wp2_with (go_at_call 76; refine (HP.out _).mono ?_; rintro e wp ⟨rfl, hw⟩; subst hw)
    go_region_held3 (fun w' => w'.cell? ⟨w.heap.size, 1, none⟩ = some (.int .i64 s) ∧ w'.cell? ⟨w.heap.size, 2, none⟩ = some (.int .i64 x) ∧ w'.cell? ⟨w.heap.size, 3, none⟩ = some (.int .u64 (A : Nat)) ∧ w'.cell? ⟨w.heap.size + 1, 1, none⟩ = some (.int .i64 s') ∧ w'.cell? ⟨w.heap.size + 1, 2, none⟩ = some (.int .i64 x') ∧ w'.cell? ⟨w.heap.size + 1, 3, none⟩ = some (.int .u64 (B : Nat)))
      ((go_split_ands; (repeat' apply And.intro) <;> exact kh))
      (first
        | (go_at_call 45; refine (HB.out _ _ (by assumption)).mono ?_; rintro e w1 ⟨b, k, cc, hbig, rfl, hg_w1⟩; have ar0 : w1.cell? ⟨w.heap.size + 1 + 1, 0, none⟩ = some (.int .i64 0) := hg_w1.c; have arz0 : w1.frozen? ⟨w.heap.size + 1 + 1, 0, none⟩ = false := hg_w1.z ar0; have ar1 : w1.cell? ⟨w.heap.size + 1 + 1, 1, none⟩ = some (.slice none 0 0) := hg_w1.c; have arz1 : w1.frozen? ⟨w.heap.size + 1 + 1, 1, none⟩ = false := hg_w1.z ar1; have ar2 : w1.cell? ⟨w.heap.size + 1 + 1, 2, none⟩ = some (.int .i64 0) := hg_w1.c; have arz2 : w1.frozen? ⟨w.heap.size + 1 + 1, 2, none⟩ = false := hg_w1.z ar2; have ar3 : w1.cell? ⟨w.heap.size + 1 + 1, 3, none⟩ = some (.bool false) := hg_w1.c; have arz3 : w1.frozen? ⟨w.heap.size + 1 + 1, 3, none⟩ = false := hg_w1.z ar3)
        | (go_at_call 44; refine (HS.out _ _ (BigN.gb (by assumption) Gb.g)).mono ?_; rintro e w2 ⟨b2, k2, cc2, hbig2, rfl, hg_w2⟩; have br0 : w2.cell? ⟨w.heap.size + 1 + 1, 0, none⟩ = some (.int .i64 0) := hg_w2.c; have brz0 : w2.frozen? ⟨w.heap.size + 1 + 1, 0, none⟩ = false := hg_w2.z br0; have br1 : w2.cell? ⟨w.heap.size + 1 + 1, 1, none⟩ = some (.slice none 0 0) := hg_w2.c; have brz1 : w2.frozen? ⟨w.heap.size + 1 + 1, 1, none⟩ = false := hg_w2.z br1; have br2 : w2.cell? ⟨w.heap.size + 1 + 1, 2, none⟩ = some (.int .i64 0) := hg_w2.c; have brz2 : w2.frozen? ⟨w.heap.size + 1 + 1, 2, none⟩ = false := hg_w2.z br2; have br3 : w2.cell? ⟨w.heap.size + 1 + 1, 3, none⟩ = some (.bool false) := hg_w2.c; have brz3 : w2.frozen? ⟨w.heap.size + 1 + 1, 3, none⟩ = false := hg_w2.z br3)
        | (go_at_call 46; refine (HD.out _ _ _ (BigN.gb (by assumption) Gb.g) (BigN.gb (by assumption) Gb.g)).mono ?_; rintro e w3 ⟨b3, k3, cc3, b4, k4, cc4, hbig3, hbig4, rfl, hg_w3⟩; have cr0 : w3.cell? ⟨w.heap.size + 1 + 1, 0, none⟩ = some (.int .i64 0) := hg_w3.c; have crz0 : w3.frozen? ⟨w.heap.size + 1 + 1, 0, none⟩ = false := hg_w3.z cr0; have cr1 : w3.cell? ⟨w.heap.size + 1 + 1, 1, none⟩ = some (.slice none 0 0) := hg_w3.c; have crz1 : w3.frozen? ⟨w.heap.size + 1 + 1, 1, none⟩ = false := hg_w3.z cr1; have cr2 : w3.cell? ⟨w.heap.size + 1 + 1, 2, none⟩ = some (.int .i64 0) := hg_w3.c; have crz2 : w3.frozen? ⟨w.heap.size + 1 + 1, 2, none⟩ = false := hg_w3.z cr2; have cr3 : w3.cell? ⟨w.heap.size + 1 + 1, 3, none⟩ = some (.bool false) := hg_w3.c; have crz3 : w3.frozen? ⟨w.heap.size + 1 + 1, 3, none⟩ = false := hg_w3.z cr3; have cx1 : w3.cell? ⟨w.heap.size, 1, none⟩ = some (.int .i64 s) := hg_w3.c; have cx2 : w3.cell? ⟨w.heap.size, 2, none⟩ = some (.int .i64 x) := hg_w3.c; have cy1 : w3.cell? ⟨w.heap.size + 1, 1, none⟩ = some (.int .i64 (s')) := hg_w3.c; have cy2 : w3.cell? ⟨w.heap.size + 1, 2, none⟩ = some (.int .i64 (x')) := hg_w3.c; obtain rfl : k4 = 0 := (bigN_nil hbig4 HR.out)))
    all_goals (try go_split_ands)
    all_goals go_wp2
    all_goals
      refine bodyPost_ret (v := .agg #[.int .i64 sp, .slice (some ⟨b3, 0, none⟩) k3 cc3, .int .i64 z, .bool false]) (by simp [results, Tryz.results79, go_sem, cr0, cr1, cr2, cr3]) rfl ⟨b3, k3, cc3, ?_, rfl, ?_⟩
      · exact hbig3.st4 cr0 cr1 cr2 cr3
      · exact Gb.g
  · rw [show decide (A * 2 ^ P % B ≠ 0) = true by simp [hr]]
    have HR : Hid (A * 2 ^ P % B ≠ 0) := hr
    clear hr
    generalize A * 2 ^ P % B = R at *
    generalize A * 2 ^ P / B = Qn at *
    generalize A * 2 ^ P = X at *
    go_enter Tryz.func79, Tryz.ntmps79
    go_wp2_with (go_at_call 76; refine (HP.out _).mono ?_; rintro e wp ⟨rfl, hw⟩; subst hw)
    go_region_held3 (fun w' => w'.cell? ⟨w.heap.size, 1, none⟩ = some (.int .i64 s) ∧ w'.cell? ⟨w.heap.size, 2, none⟩ = some (.int .i64 x) ∧ w'.cell? ⟨w.heap.size, 3, none⟩ = some (.int .u64 (A : Nat)) ∧ w'.cell? ⟨w.heap.size + 1, 1, none⟩ = some (.int .i64 s') ∧ w'.cell? ⟨w.heap.size + 1, 2, none⟩ = some (.int .i64 x') ∧ w'.cell? ⟨w.heap.size + 1, 3, none⟩ = some (.int .u64 (B : Nat)))
      ((go_split_ands; (repeat' apply And.intro) <;> exact kh))
      (first
        | (go_at_call 45; refine (HB.out _ _ (by assumption)).mono ?_; rintro e w1 ⟨b, k, cc, hbig, rfl, hg_w1⟩; have ar0 : w1.cell? ⟨w.heap.size + 1 + 1, 0, none⟩ = some (.int .i64 0) := hg_w1.c; have arz0 : w1.frozen? ⟨w.heap.size + 1 + 1, 0, none⟩ = false := hg_w1.z ar0; have ar1 : w1.cell? ⟨w.heap.size + 1 + 1, 1, none⟩ = some (.slice none 0 0) := hg_w1.c; have arz1 : w1.frozen? ⟨w.heap.size + 1 + 1, 1, none⟩ = false := hg_w1.z ar1; have ar2 : w1.cell? ⟨w.heap.size + 1 + 1, 2, none⟩ = some (.int .i64 0) := hg_w1.c; have arz2 : w1.frozen? ⟨w.heap.size + 1 + 1, 2, none⟩ = false := hg_w1.z ar2; have ar3 : w1.cell? ⟨w.heap.size + 1 + 1, 3, none⟩ = some (.bool false) := hg_w1.c; have arz3 : w1.frozen? ⟨w.heap.size + 1 + 1, 3, none⟩ = false := hg_w1.z ar3)
        | (go_at_call 44; refine (HS.out _ _ (BigN.gb (by assumption) Gb.g)).mono ?_; rintro e w2 ⟨b2, k2, cc2, hbig2, rfl, hg_w2⟩; have br0 : w2.cell? ⟨w.heap.size + 1 + 1, 0, none⟩ = some (.int .i64 0) := hg_w2.c; have brz0 : w2.frozen? ⟨w.heap.size + 1 + 1, 0, none⟩ = false := hg_w2.z br0; have br1 : w2.cell? ⟨w.heap.size + 1 + 1, 1, none⟩ = some (.slice none 0 0) := hg_w2.c; have brz1 : w2.frozen? ⟨w.heap.size + 1 + 1, 1, none⟩ = false := hg_w2.z br1; have br2 : w2.cell? ⟨w.heap.size + 1 + 1, 2, none⟩ = some (.int .i64 0) := hg_w2.c; have brz2 : w2.frozen? ⟨w.heap.size + 1 + 1, 2, none⟩ = false := hg_w2.z br2; have br3 : w2.cell? ⟨w.heap.size + 1 + 1, 3, none⟩ = some (.bool false) := hg_w2.c; have brz3 : w2.frozen? ⟨w.heap.size + 1 + 1, 3, none⟩ = false := hg_w2.z br3)
        | (go_at_call 46; refine (HD.out _ _ _ (BigN.gb (by assumption) Gb.g) (BigN.gb (by assumption) Gb.g)).mono ?_; rintro e w3 ⟨b3, k3, cc3, b4, k4, cc4, hbig3, hbig4, rfl, hg_w3⟩; have cr0 : w3.cell? ⟨w.heap.size + 1 + 1, 0, none⟩ = some (.int .i64 0) := hg_w3.c; have crz0 : w3.frozen? ⟨w.heap.size + 1 + 1, 0, none⟩ = false := hg_w3.z cr0; have cr1 : w3.cell? ⟨w.heap.size + 1 + 1, 1, none⟩ = some (.slice none 0 0) := hg_w3.c; have crz1 : w3.frozen? ⟨w.heap.size + 1 + 1, 1, none⟩ = false := hg_w3.z cr1; have cr2 : w3.cell? ⟨w.heap.size + 1 + 1, 2, none⟩ = some (.int .i64 0) := hg_w3.c; have crz2 : w3.frozen? ⟨w.heap.size + 1 + 1, 2, none⟩ = false := hg_w3.z cr2; have cr3 : w3.cell? ⟨w.heap.size + 1 + 1, 3, none⟩ = some (.bool false) := hg_w3.c; have crz3 : w3.frozen? ⟨w.heap.size + 1 + 1, 3, none⟩ = false := hg_w3.z cr3; have cx1 : w3.cell? ⟨w.heap.size, 1, none⟩ = some (.int .i64 s) := hg_w3.c; have cx2 : w3.cell? ⟨w.heap.size, 2, none⟩ = some (.int .i64 x) := hg_w3.c; have cy1 : w3.cell? ⟨w.heap.size + 1, 1, none⟩ = some (.int .i64 (s')) := hg_w3.c; have cy2 : w3.cell? ⟨w.heap.size + 1, 2, none⟩ = some (.int .i64 (x')) := hg_w3.c; have hkn : 0 < k4 := bigN_pos hbig4 HR.out; have hkp : (0 : Int) < (k4 : Int) := (by omega)))
    all_goals (try go_split_ands)
    all_goals go_wp2
    all_goals
      refine bodyPost_ret (v := .agg #[.int .i64 sp, .slice (some ⟨b3, 0, none⟩) k3 cc3, .int .i64 z, .bool true]) (by simp [results, Tryz.results79, go_sem, cr0, cr1, cr2, cr3, hkn]) rfl ⟨b3, k3, cc3, ?_, rfl, ?_⟩
      · exact hbig3.st4 cr0 cr1 cr2 cr3
      · exact Gb.g
end Go.Proofs.YtkflpogmhailhaaGreatDoor

/- spec.Div and spec.FromInt give some word. -/
set_option linter.unusedVariables false
set_option linter.unusedSimpArgs false
namespace Go.Proofs.YtkflpogmhailhaaGreatDoor
open Go.RowKit

set_option maxRecDepth 1000000 in
set_option maxHeartbeats 8000000 in
theorem sDiv_some (f mode a b ca sa xa ga cb sb xb gb sp xq inf : Int) (rest : Bool) (m : Nat) (qa qb : Bool) (R : Int → Int → Prop) (HF : Hid (∀ w, Calls Tryz.prog 37 #[.int .i64 f, .int .i64 mode, .int .u64 a, .int .u64 b] w fun e w' => e = .returned (.bool true) ∧ w = w')) (HUa : Hid (∀ w, Calls Tryz.prog 26 #[.int .i64 f, .int .u64 a] w fun e w' => e = .returned (.agg #[.int .i64 ca, .int .i64 sa, .int .i64 xa, .int .u64 ga]) ∧ Gr w w')) (HUb : Hid (∀ w, Calls Tryz.prog 26 #[.int .i64 f, .int .u64 b] w fun e w' => e = .returned (.agg #[.int .i64 cb, .int .i64 sb, .int .i64 xb, .int .u64 gb]) ∧ Gr w w'))
    (HQa : Hid (∀ w, Calls Tryz.prog 42 #[.agg #[.int .i64 ca, .int .i64 sa, .int .i64 xa, .int .u64 ga]] w fun e w' => e = .returned (.bool qa) ∧ Gr w w')) (HQb : Hid (∀ w, Calls Tryz.prog 42 #[.agg #[.int .i64 cb, .int .i64 sb, .int .i64 xb, .int .u64 gb]] w fun e w' => e = .returned (.bool qb) ∧ Gr w w')) (HNa : Hid (∀ t, SomeR R 43 #[.int .i64 f, .bool t])) (HBa : Hid (SomeR R 41 #[.int .i64 f])) (HIn : Hid (SomeR R 56 #[.int .i64 f, .int .i64 sp])) (HZe : Hid (SomeR R 50 #[.int .i64 f, .int .i64 sp]))
    (HI : Hid (∀ w, Calls Tryz.prog 62 #[.int .i64 f] w fun e w' => e = .returned (.int .u64 inf) ∧ w = w')) (HPu : Hid (∀ w, Calls Tryz.prog 61 #[.int .i64 f, .int .i64 sp, .int .u64 inf] w fun e w' => ∃ z : Int, R z 2 ∧ e = .returned (.int .u64 z) ∧ w = w'))
    (a0 : 0 ≤ sa) (a1 : sa ≤ 1) (b0 : 0 ≤ sb) (b1 : sb ≤ 1) (hm1 : (sa + sb).tmod 2 = sp) (hm2 : (sa + sb) % 2 = sp)
    (HM : Hid (ca = 1 ∧ cb = 1 → ∀ w, Calls Tryz.prog 79 #[.int .i64 f, .agg #[.int .i64 1, .int .i64 sa, .int .i64 xa, .int .u64 ga], .agg #[.int .i64 1, .int .i64 sb, .int .i64 xb, .int .u64 gb]] w fun e w' => ∃ bq kq qq, BigN 8 w' (.slice (some ⟨bq, 0, none⟩) kq qq) m ∧ e = .returned (.agg #[.int .i64 sp, .slice (some ⟨bq, 0, none⟩) kq qq, .int .i64 xq, .bool rest]) ∧ Gb w w'))
    (HR : Hid (ca = 1 ∧ cb = 1 → ∀ v w, BigN 8 w v m → Calls Tryz.prog 51 #[.int .i64 f, .int .i64 mode, .agg #[.int .i64 sp, v, .int .i64 xq, .bool rest]] w fun e w' => ∃ z fl, R z fl ∧ e = .returned (.agg #[.int .u64 z, .int .i64 fl]) ∧ Gb w w'))
    (hcase : qa = true ∧ (ca == 4) = true ∨ qa = true ∧ (ca == 4) = false ∧ (cb == 4) = true ∨ qa = true ∧ (ca == 4) = false ∧ (cb == 4) = false ∨ qa = false ∧ qb = true ∧ (ca == 4) = false ∧ (cb == 4) = true ∨ qa = false ∧ qb = true ∧ (ca == 4) = false ∧ (cb == 4) = false ∨
      qa = false ∧ qb = false ∧ Hid ((ca = 0 ∨ ca = 1 ∨ ca = 2) ∧ (cb = 0 ∨ cb = 1 ∨ cb = 2))) (w : World) :
    Calls Tryz.prog 29 #[.int .i64 f, .int .i64 mode, .int .u64 a, .int .u64 b] w fun e w' => ∃ z fl : Int, R z fl ∧ e = .returned (.agg #[.int .u64 z, .int .i64 fl]) ∧ Gb w w' := by
  rcases hcase with ⟨rfl, e1⟩ | ⟨rfl, e1, e2⟩ | ⟨rfl, e1, e2⟩ | ⟨rfl, rfl, e1, e2⟩ | ⟨rfl, rfl, e1, e2⟩ | ⟨rfl, rfl, HC⟩
  rotate_right
  · go_enter Tryz.func29, Tryz.ntmps29
    go_upto_region 7 with (first
      | (go_at_call 37; refine (HF.out _).mono ?_; rintro e wk ⟨rfl, hw⟩; subst hw)
      | (go_at_call 26; first | (with_reducible refine (HUa.out _).mono ?_; rintro e w1 ⟨rfl, hg_w1⟩; have u0r0 : w1.cell? ⟨w.heap.size, 0, none⟩ = some (.int .u64 0) := hg_w1.c; have u0rz0 : w1.frozen? ⟨w.heap.size, 0, none⟩ = false := hg_w1.z; have u0r1 : w1.cell? ⟨w.heap.size, 1, none⟩ = some (.int .i64 0) := hg_w1.c; have u0rz1 : w1.frozen? ⟨w.heap.size, 1, none⟩ = false := hg_w1.z; have hz0 := cell_size u0r0) | (with_reducible refine (HUb.out _).mono ?_; rintro e w2 ⟨rfl, hg_w2⟩; have u1r0 : w2.cell? ⟨w.heap.size, 0, none⟩ = some (.int .u64 0) := hg_w2.c; have u1rz0 : w2.frozen? ⟨w.heap.size, 0, none⟩ = false := hg_w2.z; have u1r1 : w2.cell? ⟨w.heap.size, 1, none⟩ = some (.int .i64 0) := hg_w2.c; have u1rz1 : w2.frozen? ⟨w.heap.size, 1, none⟩ = false := hg_w2.z; have u1p00 : w2.cell? ⟨w1.heap.size, 0, none⟩ = some (.int .i64 ca) := hg_w2.c; have u1p0A0 := (fun ob => cell_alloc ob u1p00); have u1p01 : w2.cell? ⟨w1.heap.size, 1, none⟩ = some (.int .i64 sa) := hg_w2.c; have u1p0A1 := (fun ob => cell_alloc ob u1p01); have u1p02 : w2.cell? ⟨w1.heap.size, 2, none⟩ = some (.int .i64 xa) := hg_w2.c; have u1p0A2 := (fun ob => cell_alloc ob u1p02); have u1p03 : w2.cell? ⟨w1.heap.size, 3, none⟩ = some (.int .u64 ga) := hg_w2.c; have u1p0A3 := (fun ob => cell_alloc ob u1p03); have hz1 := cell_size u1r0))
      | (go_at_call 42; first | (with_reducible refine (HQa.out _).mono ?_; rintro e va ⟨rfl, hg_va⟩; have qar0 : va.cell? ⟨w.heap.size, 0, none⟩ = some (.int .u64 0) := hg_va.c; have qarz0 : va.frozen? ⟨w.heap.size, 0, none⟩ = false := hg_va.z; have qar1 : va.cell? ⟨w.heap.size, 1, none⟩ = some (.int .i64 0) := hg_va.c; have qarz1 : va.frozen? ⟨w.heap.size, 1, none⟩ = false := hg_va.z; have qap00 : va.cell? ⟨w1.heap.size, 0, none⟩ = some (.int .i64 ca) := hg_va.c; have qap01 : va.cell? ⟨w1.heap.size, 1, none⟩ = some (.int .i64 sa) := hg_va.c; have qap02 : va.cell? ⟨w1.heap.size, 2, none⟩ = some (.int .i64 xa) := hg_va.c; have qap03 : va.cell? ⟨w1.heap.size, 3, none⟩ = some (.int .u64 ga) := hg_va.c; have qap10 : va.cell? ⟨w2.heap.size, 0, none⟩ = some (.int .i64 cb) := hg_va.c; have qap11 : va.cell? ⟨w2.heap.size, 1, none⟩ = some (.int .i64 sb) := hg_va.c; have qap12 : va.cell? ⟨w2.heap.size, 2, none⟩ = some (.int .i64 xb) := hg_va.c; have qap13 : va.cell? ⟨w2.heap.size, 3, none⟩ = some (.int .u64 gb) := hg_va.c) | (with_reducible refine (HQb.out _).mono ?_; rintro e vb ⟨rfl, hg_vb⟩; have qbr0 : vb.cell? ⟨w.heap.size, 0, none⟩ = some (.int .u64 0) := hg_vb.c; have qbrz0 : vb.frozen? ⟨w.heap.size, 0, none⟩ = false := hg_vb.z; have qbr1 : vb.cell? ⟨w.heap.size, 1, none⟩ = some (.int .i64 0) := hg_vb.c; have qbrz1 : vb.frozen? ⟨w.heap.size, 1, none⟩ = false := hg_vb.z; have qbp00 : vb.cell? ⟨w1.heap.size, 0, none⟩ = some (.int .i64 ca) := hg_vb.c; have qbp01 : vb.cell? ⟨w1.heap.size, 1, none⟩ = some (.int .i64 sa) := hg_vb.c; have qbp02 : vb.cell? ⟨w1.heap.size, 2, none⟩ = some (.int .i64 xa) := hg_vb.c; have qbp03 : vb.cell? ⟨w1.heap.size, 3, none⟩ = some (.int .u64 ga) := hg_vb.c; have qbp10 : vb.cell? ⟨w2.heap.size, 0, none⟩ = some (.int .i64 cb) := hg_vb.c; have qbp11 : vb.cell? ⟨w2.heap.size, 1, none⟩ = some (.int .i64 sb) := hg_vb.c; have qbp12 : vb.cell? ⟨w2.heap.size, 2, none⟩ = some (.int .i64 xb) := hg_vb.c; have qbp13 : vb.cell? ⟨w2.heap.size, 3, none⟩ = some (.int .u64 gb) := hg_vb.c)))
    obtain ⟨h1, h2⟩ := HC.out
    clear HC HUa HUb HQa HQb HF HNa
    rcases h1 with rfl | rfl | rfl <;> rcases h2 with rfl | rfl | rfl
    all_goals
      go_wp2_with (first
        | (go_at_call 41; refine (HBa.out _).mono ?_; rintro e w9 ⟨z, fl, hq, rfl, hg_w9⟩; have zr0 : w9.cell? ⟨w.heap.size, 0, none⟩ = some (.int .u64 0) := hg_w9.c; have zrz0 : w9.frozen? ⟨w.heap.size, 0, none⟩ = false := hg_w9.z; have zr1 : w9.cell? ⟨w.heap.size, 1, none⟩ = some (.int .i64 0) := hg_w9.c; have zrz1 : w9.frozen? ⟨w.heap.size, 1, none⟩ = false := hg_w9.z)
        | (go_at_call 56; refine (HIn.out _).mono ?_; rintro e w9 ⟨z, fl, hq, rfl, hg_w9⟩; have zr0 : w9.cell? ⟨w.heap.size, 0, none⟩ = some (.int .u64 0) := hg_w9.c; have zrz0 : w9.frozen? ⟨w.heap.size, 0, none⟩ = false := hg_w9.z; have zr1 : w9.cell? ⟨w.heap.size, 1, none⟩ = some (.int .i64 0) := hg_w9.c; have zrz1 : w9.frozen? ⟨w.heap.size, 1, none⟩ = false := hg_w9.z)
        | (go_at_call 50; refine (HZe.out _).mono ?_; rintro e w9 ⟨z, fl, hq, rfl, hg_w9⟩; have zr0 : w9.cell? ⟨w.heap.size, 0, none⟩ = some (.int .u64 0) := hg_w9.c; have zrz0 : w9.frozen? ⟨w.heap.size, 0, none⟩ = false := hg_w9.z; have zr1 : w9.cell? ⟨w.heap.size, 1, none⟩ = some (.int .i64 0) := hg_w9.c; have zrz1 : w9.frozen? ⟨w.heap.size, 1, none⟩ = false := hg_w9.z)
        | (go_at_call 62; refine (HI.out _).mono ?_; rintro e wk ⟨rfl, hw⟩; subst hw)
        | (go_at_call 61; refine (HPu.out _).mono ?_; rintro e wk ⟨z, hq, rfl, hw⟩; subst hw)
        | (go_at_call 79; refine (HM.out (by first | exact ⟨rfl, rfl⟩ | exact ⟨trivial, trivial⟩) _).mono ?_; rintro e wm ⟨bq, kq, qq, hbq, rfl, hg_wm⟩; have mr0 : wm.cell? ⟨w.heap.size, 0, none⟩ = some (.int .u64 0) := hg_wm.c; have mrz0 : wm.frozen? ⟨w.heap.size, 0, none⟩ = false := hg_wm.z mr0; have mr1 : wm.cell? ⟨w.heap.size, 1, none⟩ = some (.int .i64 0) := hg_wm.c; have mrz1 : wm.frozen? ⟨w.heap.size, 1, none⟩ = false := hg_wm.z mr1)
        | (go_at_call 51; refine (HR.out (by first | exact ⟨rfl, rfl⟩ | exact ⟨trivial, trivial⟩) _ _ hbq).mono ?_; rintro e w9 ⟨z, fl, hq, rfl, hg_w9⟩; have zr0 : w9.cell? ⟨w.heap.size, 0, none⟩ = some (.int .u64 0) := hg_w9.c; have zrz0 : w9.frozen? ⟨w.heap.size, 0, none⟩ = false := hg_w9.z zr0; have zr1 : w9.cell? ⟨w.heap.size, 1, none⟩ = some (.int .i64 0) := hg_w9.c; have zrz1 : w9.frozen? ⟨w.heap.size, 1, none⟩ = false := hg_w9.z zr1))
      first
        | (refine bodyPost_ret (v := .agg #[.int .u64 z, .int .i64 fl]) (by simp [results, Tryz.results29, go_sem, zr0, zr1]) rfl ⟨z, fl, hq, rfl, ?_⟩; exact Gb.g)
        | (refine bodyPost_ret (v := .agg #[.int .u64 z, .int .i64 2]) (by simp [results, Tryz.results29, go_sem, qbr0, qbr1]) rfl ⟨z, 2, hq, rfl, ?_⟩; exact Gb.g)
  all_goals
    go_enter Tryz.func29, Tryz.ntmps29
    go_wp2_with (first
      | (go_at_call 37; refine (HF.out _).mono ?_; rintro e wk ⟨rfl, hw⟩; subst hw)
      | (go_at_call 26; first | (with_reducible refine (HUa.out _).mono ?_; rintro e w1 ⟨rfl, hg_w1⟩; have u0r0 : w1.cell? ⟨w.heap.size, 0, none⟩ = some (.int .u64 0) := hg_w1.c; have u0rz0 : w1.frozen? ⟨w.heap.size, 0, none⟩ = false := hg_w1.z; have u0r1 : w1.cell? ⟨w.heap.size, 1, none⟩ = some (.int .i64 0) := hg_w1.c; have u0rz1 : w1.frozen? ⟨w.heap.size, 1, none⟩ = false := hg_w1.z; have hz0 := cell_size u0r0) | (with_reducible refine (HUb.out _).mono ?_; rintro e w2 ⟨rfl, hg_w2⟩; have u1r0 : w2.cell? ⟨w.heap.size, 0, none⟩ = some (.int .u64 0) := hg_w2.c; have u1rz0 : w2.frozen? ⟨w.heap.size, 0, none⟩ = false := hg_w2.z; have u1r1 : w2.cell? ⟨w.heap.size, 1, none⟩ = some (.int .i64 0) := hg_w2.c; have u1rz1 : w2.frozen? ⟨w.heap.size, 1, none⟩ = false := hg_w2.z; have u1p00 : w2.cell? ⟨w1.heap.size, 0, none⟩ = some (.int .i64 ca) := hg_w2.c; have u1p0A0 := (fun ob => cell_alloc ob u1p00); have u1p01 : w2.cell? ⟨w1.heap.size, 1, none⟩ = some (.int .i64 sa) := hg_w2.c; have u1p0A1 := (fun ob => cell_alloc ob u1p01); have u1p02 : w2.cell? ⟨w1.heap.size, 2, none⟩ = some (.int .i64 xa) := hg_w2.c; have u1p0A2 := (fun ob => cell_alloc ob u1p02); have u1p03 : w2.cell? ⟨w1.heap.size, 3, none⟩ = some (.int .u64 ga) := hg_w2.c; have u1p0A3 := (fun ob => cell_alloc ob u1p03); have hz1 := cell_size u1r0))
      | (go_at_call 42; first | (with_reducible refine (HQa.out _).mono ?_; rintro e va ⟨rfl, hg_va⟩; have qar0 : va.cell? ⟨w.heap.size, 0, none⟩ = some (.int .u64 0) := hg_va.c; have qarz0 : va.frozen? ⟨w.heap.size, 0, none⟩ = false := hg_va.z; have qar1 : va.cell? ⟨w.heap.size, 1, none⟩ = some (.int .i64 0) := hg_va.c; have qarz1 : va.frozen? ⟨w.heap.size, 1, none⟩ = false := hg_va.z; have qap00 : va.cell? ⟨w1.heap.size, 0, none⟩ = some (.int .i64 ca) := hg_va.c; have qap01 : va.cell? ⟨w1.heap.size, 1, none⟩ = some (.int .i64 sa) := hg_va.c; have qap02 : va.cell? ⟨w1.heap.size, 2, none⟩ = some (.int .i64 xa) := hg_va.c; have qap03 : va.cell? ⟨w1.heap.size, 3, none⟩ = some (.int .u64 ga) := hg_va.c; have qap10 : va.cell? ⟨w2.heap.size, 0, none⟩ = some (.int .i64 cb) := hg_va.c; have qap11 : va.cell? ⟨w2.heap.size, 1, none⟩ = some (.int .i64 sb) := hg_va.c; have qap12 : va.cell? ⟨w2.heap.size, 2, none⟩ = some (.int .i64 xb) := hg_va.c; have qap13 : va.cell? ⟨w2.heap.size, 3, none⟩ = some (.int .u64 gb) := hg_va.c) | (with_reducible refine (HQb.out _).mono ?_; rintro e vb ⟨rfl, hg_vb⟩; have qbr0 : vb.cell? ⟨w.heap.size, 0, none⟩ = some (.int .u64 0) := hg_vb.c; have qbrz0 : vb.frozen? ⟨w.heap.size, 0, none⟩ = false := hg_vb.z; have qbr1 : vb.cell? ⟨w.heap.size, 1, none⟩ = some (.int .i64 0) := hg_vb.c; have qbrz1 : vb.frozen? ⟨w.heap.size, 1, none⟩ = false := hg_vb.z; have qbp00 : vb.cell? ⟨w1.heap.size, 0, none⟩ = some (.int .i64 ca) := hg_vb.c; have qbp01 : vb.cell? ⟨w1.heap.size, 1, none⟩ = some (.int .i64 sa) := hg_vb.c; have qbp02 : vb.cell? ⟨w1.heap.size, 2, none⟩ = some (.int .i64 xa) := hg_vb.c; have qbp03 : vb.cell? ⟨w1.heap.size, 3, none⟩ = some (.int .u64 ga) := hg_vb.c; have qbp10 : vb.cell? ⟨w2.heap.size, 0, none⟩ = some (.int .i64 cb) := hg_vb.c; have qbp11 : vb.cell? ⟨w2.heap.size, 1, none⟩ = some (.int .i64 sb) := hg_vb.c; have qbp12 : vb.cell? ⟨w2.heap.size, 2, none⟩ = some (.int .i64 xb) := hg_vb.c; have qbp13 : vb.cell? ⟨w2.heap.size, 3, none⟩ = some (.int .u64 gb) := hg_vb.c))
      | (go_at_call 43; refine (HNa.out _ _).mono ?_; rintro e w9 ⟨z, fl, hq, rfl, hg_w9⟩; have zr0 : w9.cell? ⟨w.heap.size, 0, none⟩ = some (.int .u64 0) := hg_w9.c; have zrz0 : w9.frozen? ⟨w.heap.size, 0, none⟩ = false := hg_w9.z; have zr1 : w9.cell? ⟨w.heap.size, 1, none⟩ = some (.int .i64 0) := hg_w9.c; have zrz1 : w9.frozen? ⟨w.heap.size, 1, none⟩ = false := hg_w9.z))
    refine bodyPost_ret (v := .agg #[.int .u64 z, .int .i64 fl]) (by simp [results, Tryz.results29, go_sem, zr0, zr1]) rfl ⟨z, fl, hq, rfl, ?_⟩
    exact Gb.g

theorem div_all {f p mx one inf sg nan : Int} (h : IsFmt f p mx one inf sg nan) (a b : Int) (a0 : 0 ≤ a) (fa : a < 2 * sg) (b0 : 0 ≤ b) (fb : b < 2 * sg) (w : World) :
    Calls Tryz.prog 29 #[.int .i64 f, .int .i64 0, .int .u64 a, .int .u64 b] w fun e w' => ∃ z fl : Int, (0 ≤ z ∧ z < 2 * sg) ∧ e = .returned (.agg #[.int .u64 z, .int .i64 fl]) ∧ Gb w w' := by
  have hb := h.bounds
  obtain ⟨x, hx⟩ := opd_ex h a a0 (by omega)
  obtain ⟨y, hy⟩ := opd_ex h b b0 (by omega)
  obtain ⟨v1, v2, v3, v4, v5, v6⟩ := opd_vo h hx
  obtain ⟨u1, u2, u3, u4, u5, u6⟩ := opd_vo h hy
  have xc0 := v1.c0; have xc4 := v1.c4; have yc0 := u1.c0; have yc4 := u1.c4
  have hxs := v1.s01
  have hys := u1.s01
  obtain ⟨sp, hsp⟩ : ∃ sp, (x.s + y.s) % 2 = sp := ⟨_, rfl⟩
  have hsp' : (x.s + y.s).tmod 2 = sp := by rw [Int.tmod_eq_emod_of_nonneg (by omega)]; exact hsp
  have hms : sp = 0 ∨ sp = 1 := by omega
  have hsw : ∀ v, 0 ≤ v → v < sg → 0 ≤ sw sp sg v ∧ sw sp sg v < 2 * sg := by
    intro v k1 k2; unfold sw; split <;> omega
  have by_ : ∀ c d : Int, (c == d) = true ∧ c = d ∨ (c == d) = false ∧ c ≠ d := by
    intro c d
    by_cases k : c = d
    · exact .inl ⟨by simp [k], k⟩
    · exact .inr ⟨by simp [k], k⟩
  obtain ⟨P, hP⟩ : ∃ P : Nat, (P : Int) = p + 4 := ⟨(p + 4).toNat, by omega⟩
  have hnum : x.c = 1 ∧ y.c = 1 → p + 2 ≤ (nb (x.M * 2 ^ P / y.M) : Int) ∧ 0 < y.M ∧ 0 < x.M * 2 ^ P / y.M := by
    rintro ⟨cx, cy⟩
    have bx : one ≤ (x.M : Int) ∧ (x.M : Int) < 2 * one := by
      rcases hx with ⟨_, hu⟩ | ⟨_, rfl⟩
      · obtain ⟨_, _, _, _, k5, _, _, k8, _⟩ := unpack_bounds h hu; exact ⟨k8 cx, k5⟩
      · cases cx
    have bY : one ≤ (y.M : Int) ∧ (y.M : Int) < 2 * one := by
      rcases hy with ⟨_, hu⟩ | ⟨_, rfl⟩
      · obtain ⟨_, _, _, _, k5, _, _, k8, _⟩ := unpack_bounds h hu; exact ⟨k8 cy, k5⟩
      · cases cy
    have hm : 2 ^ (P - 1) ≤ x.M * 2 ^ P / y.M := by
      rw [Nat.le_div_iff_mul_le (by omega)]
      have e1 : 2 ^ P = 2 * 2 ^ (P - 1) := by
        obtain ⟨k, rfl⟩ : ∃ k, P = k + 1 := ⟨P - 1, by omega⟩
        rw [Nat.pow_succ, Nat.add_sub_cancel]; omega
      rw [e1, ← Nat.mul_assoc, Nat.mul_comm]
      exact Nat.mul_le_mul_right _ (by omega)
    have := nb_gt hm
    exact ⟨by omega, by omega, Nat.lt_of_lt_of_le (Nat.pow_pos (by decide)) hm⟩
  refine sDiv_some f 0 a b x.c x.s x.e ((x.M : Nat) : Int) y.c y.s y.e ((y.M : Nat) : Int) sp (x.e - y.e - P) inf (decide (x.M * 2 ^ P % y.M ≠ 0)) (x.M * 2 ^ P / y.M) (decide (3 ≤ x.c)) (decide (3 ≤ y.c)) _ (fun w => l3Fits_yes h 0 a b (by omega) (by omega) a0 fa b0 fb w) (unp_det h a a0 fa hx) (unp_det h b b0 fb hy) (fun w => l3Quiet_any _ _ _ _ _ rfl w) (fun w => l3Quiet_any _ _ _ _ _ rfl w)
    (fun t w => (l3Nan_any h t _ rfl w).mono (fun e w' ⟨h1, h2⟩ => ⟨_, _, by omega, h1, h2⟩)) (fun w => (l2Bad_fmt h w).mono (fun e w' ⟨h1, h2⟩ => ⟨_, _, by omega, h1, h2⟩))
    (fun w => (l3Infinity_any h _ hms w).mono (fun e w' ⟨h1, h2⟩ => ⟨_, _, hsw inf (by omega) (by omega), h1, h2⟩)) (fun w => (l3Zero_any h _ hms w).mono (fun e w' ⟨h1, h2⟩ => ⟨_, _, hsw 0 (by omega) (by omega), h1, h2⟩))
    (fun w => l2Inf_any h w) (fun w => (l2Put_any h sp inf (sw sp sg inf) (by unfold sw; rcases hms with k | k <;> rw [k] <;> simp) (by omega) (by omega) w).mono (fun e w' ⟨h1, h2⟩ => ⟨_, hsw inf (by omega) (by omega), h1, h2⟩))
    (by omega) (by omega) (by omega) (by omega) hsp' hsp
    (fun hc w => l4Quotient_any h 1 x.s x.e 1 y.s y.e x.M y.M (by omega) (by omega) (hnum hc).2.1 (by omega) (by omega) (by omega) (by omega) sp hsp' hsp (by omega) (by omega) (by omega) (by omega) P hP w)
    (fun hc v w hB => ?_) ?_ w
  · have hK := big_nb hB (by omega)
    obtain ⟨n, hn, hBig⟩ := hB
    refine (l2Round_any h hBig (by omega) (hnum hc).2.2 hK 0 sp _ _ (by omega) (by omega) hms (by omega) (by omega) (fun _ => (hnum hc).1)).mono ?_
    rintro e w' ⟨z, fl, _, z0, z1, rfl, hg⟩
    exact ⟨_, _, hsw z z0 z1, rfl, hg⟩
  · by_cases c1 : 3 ≤ x.c
    · rw [decide_eq_true c1]
      rcases by_ x.c 4 with ⟨k, _⟩ | ⟨k, _⟩
      · exact .inl ⟨rfl, k⟩
      · rcases by_ y.c 4 with ⟨k', _⟩ | ⟨k', _⟩
        · exact .inr (.inl ⟨rfl, k, k'⟩)
        · exact .inr (.inr (.inl ⟨rfl, k, k'⟩))
    · rw [decide_eq_false c1]
      have kx : (x.c == 4) = false := by simp; omega
      by_cases c2 : 3 ≤ y.c
      · rw [decide_eq_true c2]
        rcases by_ y.c 4 with ⟨k', _⟩ | ⟨k', _⟩
        · exact .inr (.inr (.inr (.inl ⟨rfl, rfl, kx, k'⟩)))
        · exact .inr (.inr (.inr (.inr (.inl ⟨rfl, rfl, kx, k'⟩))))
      · rw [decide_eq_false c2]
        exact .inr (.inr (.inr (.inr (.inr ⟨rfl, rfl, ⟨by omega, by omega⟩⟩))))

theorem from_small {f p mx one inf sg nan : Int} (h : IsFmt f p mx one inf sg nan) (v : Int) (v0 : 0 < v) (v1 : v ≤ 100) (w : World) :
    Calls Tryz.prog 38 #[.int .i64 f, .int .i64 0, .int .i64 1, .int .u64 v] w fun e w' => ∃ z fl : Int, (0 ≤ z ∧ z < 2 * sg) ∧ e = .returned (.agg #[.int .u64 z, .int .i64 fl]) ∧ Gb w w' := by
  have hb := h.bounds
  have hM0 : 0 < v.toNat := by omega
  refine sFrom_num f 0 1 v 0 v.toNat hM0 (fun w => l5Int_p 1 v 64 (cmpZ v.toNat (mostK 1 0)) v.toNat (mostK 1 0) true (by omega) ?_ (decide_eq_false (by omega)) (fun w => l5Kind_any 1 w) (fun w => ?_) (fun w => l2Two_any 63 _ (by omega) (by decide) w) (fun w => l5Most_any 1 0 (.inl rfl) w) (fun v v' w ⟨n, h1, h2⟩ ⟨n', h1', h2'⟩ => l2Cmp_any h2 (by omega) h2' (by omega)) w) (fun w => l2Format_any f true (IsFmt.yes h) w) (fun w => l2Way_any 0 true (by decide) w) _ (fun v w hB => ?_) w
  · rw [show mostK 1 0 = 9223372036854775807 by decide]
    exact decide_eq_true (by unfold cmpZ; rw [if_pos (by omega)]; omega)
  · have e : v = ((v.toNat : Nat) : Int) := by omega
    have := big_slice ((l2Big_any v.toNat (by omega) w).mono (fun e w' ⟨v, k, c1, c2, c3, c4⟩ => ⟨v, k, c1, c2, (by omega : k ≤ 2), c4⟩))
    rw [← e] at this
    exact this
  · have hK := big_nb hB (by omega)
    obtain ⟨n, hn, hBig⟩ := hB
    refine (l2Round_any h hBig (by omega) hM0 hK 0 0 0 false (by omega) (by omega) (.inl rfl) (by omega) (by omega) (fun k => by cases k)).mono ?_
    rintro e w' ⟨z, fl, _, z0, z1, rfl, hg⟩
    refine ⟨_, _, ?_, rfl, hg⟩
    unfold sw
    split <;> omega
end Go.Proofs.YtkflpogmhailhaaGreatDoor
