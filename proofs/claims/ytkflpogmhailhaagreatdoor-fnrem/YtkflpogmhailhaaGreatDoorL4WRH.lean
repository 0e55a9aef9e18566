/- spec.Rem of two numbers. -/
import Derived.Test.YtkflpogmhailhaaGreatDoorL4WRS
import Derived.Deep.DeepCutAuto
import Derived.Deep.RegionHeld3
set_option linter.unusedVariables false
set_option linter.unusedSimpArgs false
namespace Go.Proofs.YtkflpogmhailhaaGreatDoor
open Go.RowKit


set_option maxRecDepth 1000000 in
set_option maxHeartbeats 20000000 in
theorem sRem_num_hiA (f a b ca sa xa ga cb sb xb gb : Int) (HF : Hid (∀ w, Calls Tryz.prog 37 #[.int .i64 f, .int .i64 0, .int .u64 a, .int .u64 b] w fun e w' => e = .returned (.bool true) ∧ w = w')) (HUa : Hid (∀ w, Calls Tryz.prog 26 #[.int .i64 f, .int .u64 a] w fun e w' => e = .returned (.agg #[.int .i64 ca, .int .i64 sa, .int .i64 xa, .int .u64 ga]) ∧ Gr w w')) (HUb : Hid (∀ w, Calls Tryz.prog 26 #[.int .i64 f, .int .u64 b] w fun e w' => e = .returned (.agg #[.int .i64 cb, .int .i64 sb, .int .i64 xb, .int .u64 gb]) ∧ Gr w w')) (HQa : Hid (∀ w, Calls Tryz.prog 42 #[.agg #[.int .i64 ca, .int .i64 sa, .int .i64 xa, .int .u64 ga]] w fun e w' => e = .returned (.bool false) ∧ Gr w w')) (HQb : Hid (∀ w, Calls Tryz.prog 42 #[.agg #[.int .i64 cb, .int .i64 sb, .int .i64 xb, .int .u64 gb]] w fun e w' => e = .returned (.bool false) ∧ Gr w w')) (e1 : ca = 1) (e2 : cb = 1) (A B : Nat) (e3 : ga = (A : Int)) (e4 : gb = (B : Int)) (hA : A < 18446744073709551616) (hB : B < 18446744073709551616) (x0 : -50000 ≤ xa) (x1 : xa ≤ 50000) (y0 : -50000 ≤ xb) (y1 : xb ≤ 50000) (s0 : 0 ≤ sa) (s1 : sa ≤ 1) (hx : xb < xa) (u1 : Nat) (h2 : IntKind.i64.wrap (xa - xb) = (u1 : Int)) (hu1 : u1 ≤ 5000) (X d : Nat) (hX : X = A * 2 ^ u1) (hd : d = B * 2 ^ 0) (hd0 : 0 < d) (Q : Int → Int → Prop) (HR : Hid (∀ v w, 0 < remM X d → BigN 1000 w v (remM X d) → Calls Tryz.prog 51 #[.int .i64 f, .int .i64 0, .agg #[.int .i64 (if remUp X d then 1 - sa else sa), v, .int .i64 xb, .bool false]] w fun e w' => ∃ z fl, Q z fl ∧ e = .returned (.agg #[.int .u64 z, .int .i64 fl]) ∧ Gb w w')) (HZ : Hid (∀ w, remM X d = 0 → Calls Tryz.prog 50 #[.int .i64 f, .int .i64 sa] w fun e w' => ∃ z fl, Q z fl ∧ e = .returned (.agg #[.int .u64 z, .int .i64 fl]) ∧ Gr w w')) (hc : Hid (2 * (X % d) < d)) (w : World) :
    Calls Tryz.prog 9 #[.int .i64 f, .int .u64 a, .int .u64 b] w fun e w' => ∃ z fl, Q z fl ∧ e = .returned (.agg #[.int .u64 z, .int .i64 fl]) ∧ Gb w w' := by
  subst e1 e2 e3 e4
  have hw0 : IntKind.i64.wrap 0 = 0 := by rw [IntKind.wrap_i64]; omega
  have HBg : Hid (∀ (H : Nat) w, H < 18446744073709551616 → Calls Tryz.prog 45 #[.int .u64 (H : Nat)] w fun e w' => ∃ b k c, BigN 2 w' (.slice (some ⟨b, 0, none⟩) k c) (H) ∧ e = .returned (.slice (some ⟨b, 0, none⟩) k c) ∧ Gb w w') := fun H w hH => big_slice (l2Big_any H hH w)
  have HSd : Hid (∀ v w, BigN 2 w v B → Calls Tryz.prog 44 #[v, .int .i64 0] w fun e w' => ∃ b k c, BigN 200 w' (.slice (some ⟨b, 0, none⟩) k c) (d) ∧ e = .returned (.slice (some ⟨b, 0, none⟩) k c) ∧ Gb w w') := fun v w ⟨n, a1, a2⟩ => by rw [hd]; exact big_slice ((l2Shl_any a2 (by omega) 0 (by omega)).mono (fun e w' ⟨v, k, c1, c2, c3, c4⟩ => ⟨v, k, c1, c2, by omega, c4⟩))
  have HSx : Hid (∀ v w, BigN 2 w v A → Calls Tryz.prog 44 #[v, .int .i64 (u1 : Int)] w fun e w' => ∃ b k c, BigN 200 w' (.slice (some ⟨b, 0, none⟩) k c) (X) ∧ e = .returned (.slice (some ⟨b, 0, none⟩) k c) ∧ Gb w w') := fun v w ⟨n, a1, a2⟩ => by rw [hX]; exact big_slice ((l2Shl_any a2 (by omega) u1 (by omega)).mono (fun e w' ⟨v, k, c1, c2, c3, c4⟩ => ⟨v, k, c1, c2, by omega, c4⟩))
  have HD : Hid (∀ v v' w, BigN 200 w v X → BigN 200 w v' d → Calls Tryz.prog 46 #[v, v'] w fun e w' => ∃ b k c b' k' c', BigN 200 w' (.slice (some ⟨b, 0, none⟩) k c) (X / d) ∧ BigN 201 w' (.slice (some ⟨b', 0, none⟩) k' c') (X % d) ∧ e = .returned (.tuple #[.slice (some ⟨b, 0, none⟩) k c, .slice (some ⟨b', 0, none⟩) k' c']) ∧ Gb w w') := fun v v' w g1 g2 => div_slices (by omega) (by omega) g1 g2 hd0
  have HS2 : Hid (∀ v w, BigN 201 w v (X % d) → Calls Tryz.prog 44 #[v, .int .i64 1] w fun e w' => ∃ b k c, BigN 300 w' (.slice (some ⟨b, 0, none⟩) k c) (X % d * 2 ^ 1) ∧ e = .returned (.slice (some ⟨b, 0, none⟩) k c) ∧ Gb w w') := fun v w ⟨n, a1, a2⟩ => big_slice ((l2Shl_any a2 (by omega) 1 (by omega)).mono (fun e w' ⟨v, k, c1, c2, c3, c4⟩ => ⟨v, k, c1, c2, by omega, c4⟩))
  have HSub : Hid (∀ v v' w, BigN 200 w v d → BigN 201 w v' (X % d) → Calls Tryz.prog 49 #[v, v'] w fun e w' => ∃ b k c, BigN 300 w' (.slice (some ⟨b, 0, none⟩) k c) (d - X % d) ∧ e = .returned (.slice (some ⟨b, 0, none⟩) k c) ∧ Gb w w') := fun v v' w ⟨n, a1, a2⟩ ⟨n', b1, b2⟩ => big_slice ((l2Sub_any a2 (by omega) b2 (by omega) (Nat.le_of_lt (Nat.mod_lt _ hd0))).mono (fun e w' ⟨v, k, c1, c2, c3, c4⟩ => ⟨v, k, c1, c2, by omega, c4⟩))
  have HBit : Hid (∀ v w, BigN 200 w v (X / d) → Calls Tryz.prog 48 #[v, .int .i64 0] w fun e w' => e = .returned (.int .u32 ((X / d % 2 : Nat) : Int)) ∧ w = w') := fun v w ⟨n, a1, a2⟩ => by
    have h := l2Bit_any a2 (by omega) 0 (by omega)
    rw [Nat.pow_zero, Nat.div_one] at h
    exact h
  have HC : Hid (∀ v v' w, BigN 300 w v (X % d * 2 ^ 1) → BigN 200 w v' d → Calls Tryz.prog 47 #[v, v'] w fun e w' => e = .returned (.int .i64 (cmpZ (X % d * 2 ^ 1) d)) ∧ Gb w w') := fun v v' w ⟨n, a1, a2⟩ ⟨n', b1, b2⟩ => l2Cmp_any a2 (by omega) b2 (by omega)
  have hrd : X % d < d := Nat.mod_lt _ hd0
  have hzc : cmpZ (X % d * 2 ^ 1) d = if X % d * 2 ^ 1 < d then -1 else if d < X % d * 2 ^ 1 then 1 else 0 := rfl
  have hU : remUp X d = decide (d < 2 * (X % d) ∨ d = 2 * (X % d) ∧ X / d % 2 = 1) := rfl
  have hMm : remM X d = if remUp X d then d - X % d else X % d := rfl
  have HX : Hid (X = A * 2 ^ u1 ∧ d = B * 2 ^ 0) := ⟨hX, hd⟩
  clear hX hd
  generalize remM X d = Mr at *
  generalize remUp X d = U at *
  generalize X / d = Qn at *
  generalize X % d = Rn at *
  obtain ⟨R2, hR2⟩ : ∃ R2, R2 = Rn * 2 ^ 1 := ⟨_, rfl⟩
  rw [← hR2] at hzc HS2 HC
  have HR2 : Hid (R2 = Rn * 2) := by show _ = _; rw [hR2]
  clear hR2
  generalize cmpZ R2 d = zc at *
  go_enter Tryz.func9, Tryz.ntmps9
  go_wp2_with (first
    | (go_at_call 37; refine (HF.out _).mono ?_; rintro e wk ⟨rfl, hw⟩; subst hw)
    | (go_at_call 26; first | (with_reducible refine (HUa.out _).mono ?_; rintro e w1 ⟨rfl, hg_w1⟩; have u0r0 : w1.cell? ⟨w.heap.size, 0, none⟩ = some (.int .u64 0) := hg_w1.c; have u0rz0 : w1.frozen? ⟨w.heap.size, 0, none⟩ = false := hg_w1.z; have u0r1 : w1.cell? ⟨w.heap.size, 1, none⟩ = some (.int .i64 0) := hg_w1.c; have u0rz1 : w1.frozen? ⟨w.heap.size, 1, none⟩ = false := hg_w1.z; have hz0 := cell_size u0r0) | (with_reducible refine (HUb.out _).mono ?_; rintro e w2 ⟨rfl, hg_w2⟩; have u1r0 : w2.cell? ⟨w.heap.size, 0, none⟩ = some (.int .u64 0) := hg_w2.c; have u1rz0 : w2.frozen? ⟨w.heap.size, 0, none⟩ = false := hg_w2.z; have u1r1 : w2.cell? ⟨w.heap.size, 1, none⟩ = some (.int .i64 0) := hg_w2.c; have u1rz1 : w2.frozen? ⟨w.heap.size, 1, none⟩ = false := hg_w2.z; have u1p00 : w2.cell? ⟨w1.heap.size, 0, none⟩ = some (.int .i64 1) := hg_w2.c; have u1p0A0 := (fun ob => cell_alloc ob u1p00); have u1p01 : w2.cell? ⟨w1.heap.size, 1, none⟩ = some (.int .i64 sa) := hg_w2.c; have u1p0A1 := (fun ob => cell_alloc ob u1p01); have u1p02 : w2.cell? ⟨w1.heap.size, 2, none⟩ = some (.int .i64 xa) := hg_w2.c; have u1p0A2 := (fun ob => cell_alloc ob u1p02); have u1p03 : w2.cell? ⟨w1.heap.size, 3, none⟩ = some (.int .u64 ((A : Int))) := hg_w2.c; have u1p0A3 := (fun ob => cell_alloc ob u1p03); have hz1 := cell_size u1r0))
    | (go_at_call 42; first | (with_reducible refine (HQa.out _).mono ?_; rintro e va ⟨rfl, hg_va⟩; have qar0 : va.cell? ⟨w.heap.size, 0, none⟩ = some (.int .u64 0) := hg_va.c; have qarz0 : va.frozen? ⟨w.heap.size, 0, none⟩ = false := hg_va.z; have qar1 : va.cell? ⟨w.heap.size, 1, none⟩ = some (.int .i64 0) := hg_va.c; have qarz1 : va.frozen? ⟨w.heap.size, 1, none⟩ = false := hg_va.z; have qap00 : va.cell? ⟨w1.heap.size, 0, none⟩ = some (.int .i64 1) := hg_va.c; have qap01 : va.cell? ⟨w1.heap.size, 1, none⟩ = some (.int .i64 sa) := hg_va.c; have qap02 : va.cell? ⟨w1.heap.size, 2, none⟩ = some (.int .i64 xa) := hg_va.c; have qap03 : va.cell? ⟨w1.heap.size, 3, none⟩ = some (.int .u64 ((A : Int))) := hg_va.c; have qap10 : va.cell? ⟨w2.heap.size, 0, none⟩ = some (.int .i64 1) := hg_va.c; have qap11 : va.cell? ⟨w2.heap.size, 1, none⟩ = some (.int .i64 sb) := hg_va.c; have qap12 : va.cell? ⟨w2.heap.size, 2, none⟩ = some (.int .i64 xb) := hg_va.c; have qap13 : va.cell? ⟨w2.heap.size, 3, none⟩ = some (.int .u64 ((B : Int))) := hg_va.c) | (with_reducible refine (HQb.out _).mono ?_; rintro e vb ⟨rfl, hg_vb⟩; have qbr0 : vb.cell? ⟨w.heap.size, 0, none⟩ = some (.int .u64 0) := hg_vb.c; have qbrz0 : vb.frozen? ⟨w.heap.size, 0, none⟩ = false := hg_vb.z; have qbr1 : vb.cell? ⟨w.heap.size, 1, none⟩ = some (.int .i64 0) := hg_vb.c; have qbrz1 : vb.frozen? ⟨w.heap.size, 1, none⟩ = false := hg_vb.z; have qbp00 : vb.cell? ⟨w1.heap.size, 0, none⟩ = some (.int .i64 1) := hg_vb.c; have qbp01 : vb.cell? ⟨w1.heap.size, 1, none⟩ = some (.int .i64 sa) := hg_vb.c; have qbp02 : vb.cell? ⟨w1.heap.size, 2, none⟩ = some (.int .i64 xa) := hg_vb.c; have qbp03 : vb.cell? ⟨w1.heap.size, 3, none⟩ = some (.int .u64 ((A : Int))) := hg_vb.c; have qbp10 : vb.cell? ⟨w2.heap.size, 0, none⟩ = some (.int .i64 1) := hg_vb.c; have qbp11 : vb.cell? ⟨w2.heap.size, 1, none⟩ = some (.int .i64 sb) := hg_vb.c; have qbp12 : vb.cell? ⟨w2.heap.size, 2, none⟩ = some (.int .i64 xb) := hg_vb.c; have qbp13 : vb.cell? ⟨w2.heap.size, 3, none⟩ = some (.int .u64 ((B : Int))) := hg_vb.c)))
  go_cut [10] (fun s10 wx => ∃ bd kd qd, s10 = .slice (some ⟨bd, 0, none⟩) kd qd ∧ BigN 200 wx (.slice (some ⟨bd, 0, none⟩) kd qd) d ∧ SrAt w w1 w2 wx sa xa (A : Int) sb xb (B : Int))
  case first =>
    go_region_held3 (fun w' => w'.cell? ⟨w2.heap.size, 2, none⟩ = some (.int .i64 xb) ∧ w'.cell? ⟨w2.heap.size, 3, none⟩ = some (.int .u64 (B : Int)))
      ((go_split_ands; (repeat' apply And.intro) <;> exact kh))
      (first
        | (go_at_call 45; with_reducible refine (HBg.out _ _ (by assumption)).mono ?_; rintro e n1 ⟨b1, k1, q1, hb1, rfl, hg_n1⟩; have kr0 : n1.cell? ⟨w.heap.size, 0, none⟩ = some (.int .u64 0) := hg_n1.c; have krz0 : n1.frozen? ⟨w.heap.size, 0, none⟩ = false := hg_n1.z kr0; have kr1 : n1.cell? ⟨w.heap.size, 1, none⟩ = some (.int .i64 0) := hg_n1.c; have krz1 : n1.frozen? ⟨w.heap.size, 1, none⟩ = false := hg_n1.z kr1)
        | (go_at_call 44; with_reducible refine (HSd.out _ _ (BigN.gb hb1 Gb.g)).mono ?_; rintro e n2 ⟨bd, kd, qd, hbd, rfl, hg_n2⟩; have lr0 : n2.cell? ⟨w.heap.size, 0, none⟩ = some (.int .u64 0) := hg_n2.c; have lrz0 : n2.frozen? ⟨w.heap.size, 0, none⟩ = false := hg_n2.z lr0; have lr1 : n2.cell? ⟨w.heap.size, 1, none⟩ = some (.int .i64 0) := hg_n2.c; have lrz1 : n2.frozen? ⟨w.heap.size, 1, none⟩ = false := hg_n2.z lr1))
    all_goals (try go_split_ands)
    all_goals (go_wp2; go_meet)
    all_goals exact ⟨_, _, _, rfl, by first | exact hbd | exact BigN.gb hbd Gb.g, {}⟩
  case rest =>
    obtain ⟨bd, kd, qd, rfl, hbd, ⟨qg, qr0, qr0z, qr1, qr1z, qa1, qa2, qa3, qb1, qb2, qb3⟩⟩ := hcut
    go_wp2
    go_cut [11, 12] (fun s11 s12 wy => ∃ bn kn qn br kr qr, s11 = .slice (some ⟨bn, 0, none⟩) kn qn ∧ s12 = .slice (some ⟨br, 0, none⟩) kr qr ∧ BigN 200 wy (.slice (some ⟨bn, 0, none⟩) kn qn) Qn ∧ BigN 201 wy (.slice (some ⟨br, 0, none⟩) kr qr) Rn ∧ BigN 200 wy (.slice (some ⟨bd, 0, none⟩) kd qd) d ∧ SrAt w w1 w2 wy sa xa (A : Int) sb xb (B : Int))
    case first =>
      go_region_held3 (fun w' => w'.cell? ⟨w1.heap.size, 2, none⟩ = some (.int .i64 xa) ∧ w'.cell? ⟨w1.heap.size, 3, none⟩ = some (.int .u64 (A : Int)))
        ((go_split_ands; (repeat' apply And.intro) <;> exact kh))
        (first
          | (go_at_call 45; with_reducible refine (HBg.out _ _ (by assumption)).mono ?_; rintro e n1 ⟨b1, k1, q1, hb1, rfl, hg_n1⟩; have kr0 : n1.cell? ⟨w.heap.size, 0, none⟩ = some (.int .u64 0) := hg_n1.c; have krz0 : n1.frozen? ⟨w.heap.size, 0, none⟩ = false := hg_n1.z kr0; have kr1 : n1.cell? ⟨w.heap.size, 1, none⟩ = some (.int .i64 0) := hg_n1.c; have krz1 : n1.frozen? ⟨w.heap.size, 1, none⟩ = false := hg_n1.z kr1)
          | (go_at_call 44; with_reducible refine (HSx.out _ _ (BigN.gb hb1 Gb.g)).mono ?_; rintro e n2 ⟨b2, k2, q2, hb2, rfl, hg_n2⟩; have lr0 : n2.cell? ⟨w.heap.size, 0, none⟩ = some (.int .u64 0) := hg_n2.c; have lrz0 : n2.frozen? ⟨w.heap.size, 0, none⟩ = false := hg_n2.z lr0; have lr1 : n2.cell? ⟨w.heap.size, 1, none⟩ = some (.int .i64 0) := hg_n2.c; have lrz1 : n2.frozen? ⟨w.heap.size, 1, none⟩ = false := hg_n2.z lr1)
          | (go_at_call 46; with_reducible refine (HD.out _ _ _ (BigN.gb hb2 Gb.g) (BigN.gb hbd Gb.g)).mono ?_; rintro e n3 ⟨bn, kn, qn, br, kr, qr, hbn, hbr, rfl, hg_n3⟩; have nr0 : n3.cell? ⟨w.heap.size, 0, none⟩ = some (.int .u64 0) := hg_n3.c; have nrz0 : n3.frozen? ⟨w.heap.size, 0, none⟩ = false := hg_n3.z nr0; have nr1 : n3.cell? ⟨w.heap.size, 1, none⟩ = some (.int .i64 0) := hg_n3.c; have nrz1 : n3.frozen? ⟨w.heap.size, 1, none⟩ = false := hg_n3.z nr1))
      all_goals (try go_split_ands)
      all_goals (go_wp2; go_meet)
      all_goals exact ⟨_, _, _, _, _, _, rfl, rfl, by first | exact hbn | exact BigN.gb hbn Gb.g, by first | exact hbr | exact BigN.gb hbr Gb.g, BigN.gb hbd Gb.g, {}⟩
    case rest =>
      clear qg qr0 qr0z qr1 qr1z qa1 qa2 qa3 qb1 qb2 qb3
      obtain ⟨bn, kn, qn, br, kr, qr, rfl, rfl, hbn, hbr, hbd2, ⟨vg, vr0, vr0z, vr1, vr1z, va1, va2, va3, vb1, vb2, vb3⟩⟩ := hcut
      clear hbd
      have hr2 := HR2.out
      have hb01 : Qn % 2 = 0 ∨ Qn % 2 = 1 := by omega
      have c : R2 < d := by have := hc.out; omega
      · obtain rfl : zc = -1 := by rw [hzc, if_pos c]
        obtain rfl : U = false := by rw [hU]; exact decide_eq_false (by omega)
        rw [if_neg (by decide)] at hMm HR
        clear hzc hU
        by_cases hz : Rn = 0
        · obtain rfl : kr = 0 := bigN_nil hbr hz
          rw [hz] at hMm
          go_wp2_with (first
            | (go_at_call 44; with_reducible refine (HS2.out _ _ hbr).mono ?_; rintro e n4 ⟨b4, k4, q4, hb4, rfl, hg_n4⟩; have mr0 : n4.cell? ⟨w.heap.size, 0, none⟩ = some (.int .u64 0) := hg_n4.c; have mrz0 : n4.frozen? ⟨w.heap.size, 0, none⟩ = false := hg_n4.z mr0; have mr1 : n4.cell? ⟨w.heap.size, 1, none⟩ = some (.int .i64 0) := hg_n4.c; have mrz1 : n4.frozen? ⟨w.heap.size, 1, none⟩ = false := hg_n4.z mr1; have mp1 : n4.cell? ⟨w1.heap.size, 1, none⟩ = some (.int .i64 sa) := hg_n4.c)
            | (go_at_call 47; with_reducible refine (HC.out _ _ _ hb4 (BigN.gb hbd2 hg_n4)).mono ?_; rintro e n5 ⟨rfl, hg_n5⟩; have or0 : n5.cell? ⟨w.heap.size, 0, none⟩ = some (.int .u64 0) := hg_n5.c; have orz0 : n5.frozen? ⟨w.heap.size, 0, none⟩ = false := hg_n5.z or0; have or1 : n5.cell? ⟨w.heap.size, 1, none⟩ = some (.int .i64 0) := hg_n5.c; have orz1 : n5.frozen? ⟨w.heap.size, 1, none⟩ = false := hg_n5.z or1; have op1 : n5.cell? ⟨w1.heap.size, 1, none⟩ = some (.int .i64 sa) := hg_n5.c)
            | (go_at_call 50; with_reducible refine (HZ.out _ hMm).mono ?_; rintro e w9 ⟨z, fl, hq, rfl, hg_w9⟩; have zr0 : w9.cell? ⟨w.heap.size, 0, none⟩ = some (.int .u64 0) := hg_w9.c; have zrz0 : w9.frozen? ⟨w.heap.size, 0, none⟩ = false := hg_w9.z; have zr1 : w9.cell? ⟨w.heap.size, 1, none⟩ = some (.int .i64 0) := hg_w9.c; have zrz1 : w9.frozen? ⟨w.heap.size, 1, none⟩ = false := hg_w9.z))
          refine bodyPost_ret (v := .agg #[.int .u64 z, .int .i64 fl]) (by simp [results, Tryz.results9, go_sem, zr0, zr1]) rfl ⟨z, fl, hq, rfl, ?_⟩
          exact Gb.g
        · have hk0 : (((kr : Nat) : Int) == 0) = false := by have := bigN_pos hbr hz; simp; omega
          have hMpos : 0 < Mr := by omega
          have hBM : Hid (∀ w v, BigN 201 w v Rn → BigN 1000 w v Mr) := fun w v g => by rw [hMm]; exact BigN.le g (by omega)
          clear hMm
          go_wp2_with (first
            | (go_at_call 44; with_reducible refine (HS2.out _ _ hbr).mono ?_; rintro e n4 ⟨b4, k4, q4, hb4, rfl, hg_n4⟩; have mr0 : n4.cell? ⟨w.heap.size, 0, none⟩ = some (.int .u64 0) := hg_n4.c; have mrz0 : n4.frozen? ⟨w.heap.size, 0, none⟩ = false := hg_n4.z mr0; have mr1 : n4.cell? ⟨w.heap.size, 1, none⟩ = some (.int .i64 0) := hg_n4.c; have mrz1 : n4.frozen? ⟨w.heap.size, 1, none⟩ = false := hg_n4.z mr1; have mp1 : n4.cell? ⟨w1.heap.size, 1, none⟩ = some (.int .i64 sa) := hg_n4.c)
            | (go_at_call 47; with_reducible refine (HC.out _ _ _ hb4 (BigN.gb hbd2 hg_n4)).mono ?_; rintro e n5 ⟨rfl, hg_n5⟩; have or0 : n5.cell? ⟨w.heap.size, 0, none⟩ = some (.int .u64 0) := hg_n5.c; have orz0 : n5.frozen? ⟨w.heap.size, 0, none⟩ = false := hg_n5.z or0; have or1 : n5.cell? ⟨w.heap.size, 1, none⟩ = some (.int .i64 0) := hg_n5.c; have orz1 : n5.frozen? ⟨w.heap.size, 1, none⟩ = false := hg_n5.z or1; have op1 : n5.cell? ⟨w1.heap.size, 1, none⟩ = some (.int .i64 sa) := hg_n5.c)
            | (go_at_call 51; with_reducible refine (HR.out _ _ hMpos (hBM.out _ _ (BigN.gb (BigN.gb hbr hg_n4) hg_n5))).mono ?_; rintro e w9 ⟨z, fl, hq, rfl, hg_w9⟩; have zr0 : w9.cell? ⟨w.heap.size, 0, none⟩ = some (.int .u64 0) := hg_w9.c; have zrz0 : w9.frozen? ⟨w.heap.size, 0, none⟩ = false := hg_w9.z zr0; have zr1 : w9.cell? ⟨w.heap.size, 1, none⟩ = some (.int .i64 0) := hg_w9.c; have zrz1 : w9.frozen? ⟨w.heap.size, 1, none⟩ = false := hg_w9.z zr1))
          refine bodyPost_ret (v := .agg #[.int .u64 z, .int .i64 fl]) (by simp [results, Tryz.results9, go_sem, zr0, zr1]) rfl ⟨z, fl, hq, rfl, ?_⟩
          exact Gb.g

set_option maxRecDepth 1000000 in
set_option maxHeartbeats 20000000 in
theorem sRem_num_hiB (f a b ca sa xa ga cb sb xb gb : Int) (HF : Hid (∀ w, Calls Tryz.prog 37 #[.int .i64 f, .int .i64 0, .int .u64 a, .int .u64 b] w fun e w' => e = .returned (.bool true) ∧ w = w')) (HUa : Hid (∀ w, Calls Tryz.prog 26 #[.int .i64 f, .int .u64 a] w fun e w' => e = .returned (.agg #[.int .i64 ca, .int .i64 sa, .int .i64 xa, .int .u64 ga]) ∧ Gr w w')) (HUb : Hid (∀ w, Calls Tryz.prog 26 #[.int .i64 f, .int .u64 b] w fun e w' => e = .returned (.agg #[.int .i64 cb, .int .i64 sb, .int .i64 xb, .int .u64 gb]) ∧ Gr w w')) (HQa : Hid (∀ w, Calls Tryz.prog 42 #[.agg #[.int .i64 ca, .int .i64 sa, .int .i64 xa, .int .u64 ga]] w fun e w' => e = .returned (.bool false) ∧ Gr w w')) (HQb : Hid (∀ w, Calls Tryz.prog 42 #[.agg #[.int .i64 cb, .int .i64 sb, .int .i64 xb, .int .u64 gb]] w fun e w' => e = .returned (.bool false) ∧ Gr w w')) (e1 : ca = 1) (e2 : cb = 1) (A B : Nat) (e3 : ga = (A : Int)) (e4 : gb = (B : Int)) (hA : A < 18446744073709551616) (hB : B < 18446744073709551616) (x0 : -50000 ≤ xa) (x1 : xa ≤ 50000) (y0 : -50000 ≤ xb) (y1 : xb ≤ 50000) (s0 : 0 ≤ sa) (s1 : sa ≤ 1) (hx : xb < xa) (u1 : Nat) (h2 : IntKind.i64.wrap (xa - xb) = (u1 : Int)) (hu1 : u1 ≤ 5000) (X d : Nat) (hX : X = A * 2 ^ u1) (hd : d = B * 2 ^ 0) (hd0 : 0 < d) (Q : Int → Int → Prop) (HR : Hid (∀ v w, 0 < remM X d → BigN 1000 w v (remM X d) → Calls Tryz.prog 51 #[.int .i64 f, .int .i64 0, .agg #[.int .i64 (if remUp X d then 1 - sa else sa), v, .int .i64 xb, .bool false]] w fun e w' => ∃ z fl, Q z fl ∧ e = .returned (.agg #[.int .u64 z, .int .i64 fl]) ∧ Gb w w')) (HZ : Hid (∀ w, remM X d = 0 → Calls Tryz.prog 50 #[.int .i64 f, .int .i64 sa] w fun e w' => ∃ z fl, Q z fl ∧ e = .returned (.agg #[.int .u64 z, .int .i64 fl]) ∧ Gr w w')) (hc : Hid (¬ 2 * (X % d) < d)) (w : World) :
    Calls Tryz.prog 9 #[.int .i64 f, .int .u64 a, .int .u64 b] w fun e w' => ∃ z fl, Q z fl ∧ e = .returned (.agg #[.int .u64 z, .int .i64 fl]) ∧ Gb w w' := by
  subst e1 e2 e3 e4
  have hw0 : IntKind.i64.wrap 0 = 0 := by rw [IntKind.wrap_i64]; omega
  have HBg : Hid (∀ (H : Nat) w, H < 18446744073709551616 → Calls Tryz.prog 45 #[.int .u64 (H : Nat)] w fun e w' => ∃ b k c, BigN 2 w' (.slice (some ⟨b, 0, none⟩) k c) (H) ∧ e = .returned (.slice (some ⟨b, 0, none⟩) k c) ∧ Gb w w') := fun H w hH => big_slice (l2Big_any H hH w)
  have HSd : Hid (∀ v w, BigN 2 w v B → Calls Tryz.prog 44 #[v, .int .i64 0] w fun e w' => ∃ b k c, BigN 200 w' (.slice (some ⟨b, 0, none⟩) k c) (d) ∧ e = .returned (.slice (some ⟨b, 0, none⟩) k c) ∧ Gb w w') := fun v w ⟨n, a1, a2⟩ => by rw [hd]; exact big_slice ((l2Shl_any a2 (by omega) 0 (by omega)).mono (fun e w' ⟨v, k, c1, c2, c3, c4⟩ => ⟨v, k, c1, c2, by omega, c4⟩))
  have HSx : Hid (∀ v w, BigN 2 w v A → Calls Tryz.prog 44 #[v, .int .i64 (u1 : Int)] w fun e w' => ∃ b k c, BigN 200 w' (.slice (some ⟨b, 0, none⟩) k c) (X) ∧ e = .returned (.slice (some ⟨b, 0, none⟩) k c) ∧ Gb w w') := fun v w ⟨n, a1, a2⟩ => by rw [hX]; exact big_slice ((l2Shl_any a2 (by omega) u1 (by omega)).mono (fun e w' ⟨v, k, c1, c2, c3, c4⟩ => ⟨v, k, c1, c2, by omega, c4⟩))
  have HD : Hid (∀ v v' w, BigN 200 w v X → BigN 200 w v' d → Calls Tryz.prog 46 #[v, v'] w fun e w' => ∃ b k c b' k' c', BigN 200 w' (.slice (some ⟨b, 0, none⟩) k c) (X / d) ∧ BigN 201 w' (.slice (some ⟨b', 0, none⟩) k' c') (X % d) ∧ e = .returned (.tuple #[.slice (some ⟨b, 0, none⟩) k c, .slice (some ⟨b', 0, none⟩) k' c']) ∧ Gb w w') := fun v v' w g1 g2 => div_slices (by omega) (by omega) g1 g2 hd0
  have HS2 : Hid (∀ v w, BigN 201 w v (X % d) → Calls Tryz.prog 44 #[v, .int .i64 1] w fun e w' => ∃ b k c, BigN 300 w' (.slice (some ⟨b, 0, none⟩) k c) (X % d * 2 ^ 1) ∧ e = .returned (.slice (some ⟨b, 0, none⟩) k c) ∧ Gb w w') := fun v w ⟨n, a1, a2⟩ => big_slice ((l2Shl_any a2 (by omega) 1 (by omega)).mono (fun e w' ⟨v, k, c1, c2, c3, c4⟩ => ⟨v, k, c1, c2, by omega, c4⟩))
  have HSub : Hid (∀ v v' w, BigN 200 w v d → BigN 201 w v' (X % d) → Calls Tryz.prog 49 #[v, v'] w fun e w' => ∃ b k c, BigN 300 w' (.slice (some ⟨b, 0, none⟩) k c) (d - X % d) ∧ e = .returned (.slice (some ⟨b, 0, none⟩) k c) ∧ Gb w w') := fun v v' w ⟨n, a1, a2⟩ ⟨n', b1, b2⟩ => big_slice ((l2Sub_any a2 (by omega) b2 (by omega) (Nat.le_of_lt (Nat.mod_lt _ hd0))).mono (fun e w' ⟨v, k, c1, c2, c3, c4⟩ => ⟨v, k, c1, c2, by omega, c4⟩))
  have HBit : Hid (∀ v w, BigN 200 w v (X / d) → Calls Tryz.prog 48 #[v, .int .i64 0] w fun e w' => e = .returned (.int .u32 ((X / d % 2 : Nat) : Int)) ∧ w = w') := fun v w ⟨n, a1, a2⟩ => by
    have h := l2Bit_any a2 (by omega) 0 (by omega)
    rw [Nat.pow_zero, Nat.div_one] at h
    exact h
  have HC : Hid (∀ v v' w, BigN 300 w v (X % d * 2 ^ 1) → BigN 200 w v' d → Calls Tryz.prog 47 #[v, v'] w fun e w' => e = .returned (.int .i64 (cmpZ (X % d * 2 ^ 1) d)) ∧ Gb w w') := fun v v' w ⟨n, a1, a2⟩ ⟨n', b1, b2⟩ => l2Cmp_any a2 (by omega) b2 (by omega)
  have hrd : X % d < d := Nat.mod_lt _ hd0
  have hzc : cmpZ (X % d * 2 ^ 1) d = if X % d * 2 ^ 1 < d then -1 else if d < X % d * 2 ^ 1 then 1 else 0 := rfl
  have hU : remUp X d = decide (d < 2 * (X % d) ∨ d = 2 * (X % d) ∧ X / d % 2 = 1) := rfl
  have hMm : remM X d = if remUp X d then d - X % d else X % d := rfl
  have HX : Hid (X = A * 2 ^ u1 ∧ d = B * 2 ^ 0) := ⟨hX, hd⟩
  clear hX hd
  generalize remM X d = Mr at *
  generalize remUp X d = U at *
  generalize X / d = Qn at *
  generalize X % d = Rn at *
  obtain ⟨R2, hR2⟩ : ∃ R2, R2 = Rn * 2 ^ 1 := ⟨_, rfl⟩
  rw [← hR2] at hzc HS2 HC
  have HR2 : Hid (R2 = Rn * 2) := by show _ = _; rw [hR2]
  clear hR2
  generalize cmpZ R2 d = zc at *
  go_enter Tryz.func9, Tryz.ntmps9
  go_wp2_with (first
    | (go_at_call 37; refine (HF.out _).mono ?_; rintro e wk ⟨rfl, hw⟩; subst hw)
    | (go_at_call 26; first | (with_reducible refine (HUa.out _).mono ?_; rintro e w1 ⟨rfl, hg_w1⟩; have u0r0 : w1.cell? ⟨w.heap.size, 0, none⟩ = some (.int .u64 0) := hg_w1.c; have u0rz0 : w1.frozen? ⟨w.heap.size, 0, none⟩ = false := hg_w1.z; have u0r1 : w1.cell? ⟨w.heap.size, 1, none⟩ = some (.int .i64 0) := hg_w1.c; have u0rz1 : w1.frozen? ⟨w.heap.size, 1, none⟩ = false := hg_w1.z; have hz0 := cell_size u0r0) | (with_reducible refine (HUb.out _).mono ?_; rintro e w2 ⟨rfl, hg_w2⟩; have u1r0 : w2.cell? ⟨w.heap.size, 0, none⟩ = some (.int .u64 0) := hg_w2.c; have u1rz0 : w2.frozen? ⟨w.heap.size, 0, none⟩ = false := hg_w2.z; have u1r1 : w2.cell? ⟨w.heap.size, 1, none⟩ = some (.int .i64 0) := hg_w2.c; have u1rz1 : w2.frozen? ⟨w.heap.size, 1, none⟩ = false := hg_w2.z; have u1p00 : w2.cell? ⟨w1.heap.size, 0, none⟩ = some (.int .i64 1) := hg_w2.c; have u1p0A0 := (fun ob => cell_alloc ob u1p00); have u1p01 : w2.cell? ⟨w1.heap.size, 1, none⟩ = some (.int .i64 sa) := hg_w2.c; have u1p0A1 := (fun ob => cell_alloc ob u1p01); have u1p02 : w2.cell? ⟨w1.heap.size, 2, none⟩ = some (.int .i64 xa) := hg_w2.c; have u1p0A2 := (fun ob => cell_alloc ob u1p02); have u1p03 : w2.cell? ⟨w1.heap.size, 3, none⟩ = some (.int .u64 ((A : Int))) := hg_w2.c; have u1p0A3 := (fun ob => cell_alloc ob u1p03); have hz1 := cell_size u1r0))
    | (go_at_call 42; first | (with_reducible refine (HQa.out _).mono ?_; rintro e va ⟨rfl, hg_va⟩; have qar0 : va.cell? ⟨w.heap.size, 0, none⟩ = some (.int .u64 0) := hg_va.c; have qarz0 : va.frozen? ⟨w.heap.size, 0, none⟩ = false := hg_va.z; have qar1 : va.cell? ⟨w.heap.size, 1, none⟩ = some (.int .i64 0) := hg_va.c; have qarz1 : va.frozen? ⟨w.heap.size, 1, none⟩ = false := hg_va.z; have qap00 : va.cell? ⟨w1.heap.size, 0, none⟩ = some (.int .i64 1) := hg_va.c; have qap01 : va.cell? ⟨w1.heap.size, 1, none⟩ = some (.int .i64 sa) := hg_va.c; have qap02 : va.cell? ⟨w1.heap.size, 2, none⟩ = some (.int .i64 xa) := hg_va.c; have qap03 : va.cell? ⟨w1.heap.size, 3, none⟩ = some (.int .u64 ((A : Int))) := hg_va.c; have qap10 : va.cell? ⟨w2.heap.size, 0, none⟩ = some (.int .i64 1) := hg_va.c; have qap11 : va.cell? ⟨w2.heap.size, 1, none⟩ = some (.int .i64 sb) := hg_va.c; have qap12 : va.cell? ⟨w2.heap.size, 2, none⟩ = some (.int .i64 xb) := hg_va.c; have qap13 : va.cell? ⟨w2.heap.size, 3, none⟩ = some (.int .u64 ((B : Int))) := hg_va.c) | (with_reducible refine (HQb.out _).mono ?_; rintro e vb ⟨rfl, hg_vb⟩; have qbr0 : vb.cell? ⟨w.heap.size, 0, none⟩ = some (.int .u64 0) := hg_vb.c; have qbrz0 : vb.frozen? ⟨w.heap.size, 0, none⟩ = false := hg_vb.z; have qbr1 : vb.cell? ⟨w.heap.size, 1, none⟩ = some (.int .i64 0) := hg_vb.c; have qbrz1 : vb.frozen? ⟨w.heap.size, 1, none⟩ = false := hg_vb.z; have qbp00 : vb.cell? ⟨w1.heap.size, 0, none⟩ = some (.int .i64 1) := hg_vb.c; have qbp01 : vb.cell? ⟨w1.heap.size, 1, none⟩ = some (.int .i64 sa) := hg_vb.c; have qbp02 : vb.cell? ⟨w1.heap.size, 2, none⟩ = some (.int .i64 xa) := hg_vb.c; have qbp03 : vb.cell? ⟨w1.heap.size, 3, none⟩ = some (.int .u64 ((A : Int))) := hg_vb.c; have qbp10 : vb.cell? ⟨w2.heap.size, 0, none⟩ = some (.int .i64 1) := hg_vb.c; have qbp11 : vb.cell? ⟨w2.heap.size, 1, none⟩ = some (.int .i64 sb) := hg_vb.c; have qbp12 : vb.cell? ⟨w2.heap.size, 2, none⟩ = some (.int .i64 xb) := hg_vb.c; have qbp13 : vb.cell? ⟨w2.heap.size, 3, none⟩ = some (.int .u64 ((B : Int))) := hg_vb.c)))
  go_cut [10] (fun s10 wx => ∃ bd kd qd, s10 = .slice (some ⟨bd, 0, none⟩) kd qd ∧ BigN 200 wx (.slice (some ⟨bd, 0, none⟩) kd qd) d ∧ SrAt w w1 w2 wx sa xa (A : Int) sb xb (B : Int))
  case first =>
    go_region_held3 (fun w' => w'.cell? ⟨w2.heap.size, 2, none⟩ = some (.int .i64 xb) ∧ w'.cell? ⟨w2.heap.size, 3, none⟩ = some (.int .u64 (B : Int)))
      ((go_split_ands; (repeat' apply And.intro) <;> exact kh))
      (first
        | (go_at_call 45; with_reducible refine (HBg.out _ _ (by assumption)).mono ?_; rintro e n1 ⟨b1, k1, q1, hb1, rfl, hg_n1⟩; have kr0 : n1.cell? ⟨w.heap.size, 0, none⟩ = some (.int .u64 0) := hg_n1.c; have krz0 : n1.frozen? ⟨w.heap.size, 0, none⟩ = false := hg_n1.z kr0; have kr1 : n1.cell? ⟨w.heap.size, 1, none⟩ = some (.int .i64 0) := hg_n1.c; have krz1 : n1.frozen? ⟨w.heap.size, 1, none⟩ = false := hg_n1.z kr1)
        | (go_at_call 44; with_reducible refine (HSd.out _ _ (BigN.gb hb1 Gb.g)).mono ?_; rintro e n2 ⟨bd, kd, qd, hbd, rfl, hg_n2⟩; have lr0 : n2.cell? ⟨w.heap.size, 0, none⟩ = some (.int .u64 0) := hg_n2.c; have lrz0 : n2.frozen? ⟨w.heap.size, 0, none⟩ = false := hg_n2.z lr0; have lr1 : n2.cell? ⟨w.heap.size, 1, none⟩ = some (.int .i64 0) := hg_n2.c; have lrz1 : n2.frozen? ⟨w.heap.size, 1, none⟩ = false := hg_n2.z lr1))
    all_goals (try go_split_ands)
    all_goals (go_wp2; go_meet)
    all_goals exact ⟨_, _, _, rfl, by first | exact hbd | exact BigN.gb hbd Gb.g, {}⟩
  case rest =>
    obtain ⟨bd, kd, qd, rfl, hbd, ⟨qg, qr0, qr0z, qr1, qr1z, qa1, qa2, qa3, qb1, qb2, qb3⟩⟩ := hcut
    go_wp2
    go_cut [11, 12] (fun s11 s12 wy => ∃ bn kn qn br kr qr, s11 = .slice (some ⟨bn, 0, none⟩) kn qn ∧ s12 = .slice (some ⟨br, 0, none⟩) kr qr ∧ BigN 200 wy (.slice (some ⟨bn, 0, none⟩) kn qn) Qn ∧ BigN 201 wy (.slice (some ⟨br, 0, none⟩) kr qr) Rn ∧ BigN 200 wy (.slice (some ⟨bd, 0, none⟩) kd qd) d ∧ SrAt w w1 w2 wy sa xa (A : Int) sb xb (B : Int))
    case first =>
      go_region_held3 (fun w' => w'.cell? ⟨w1.heap.size, 2, none⟩ = some (.int .i64 xa) ∧ w'.cell? ⟨w1.heap.size, 3, none⟩ = some (.int .u64 (A : Int)))
        ((go_split_ands; (repeat' apply And.intro) <;> exact kh))
        (first
          | (go_at_call 45; with_reducible refine (HBg.out _ _ (by assumption)).mono ?_; rintro e n1 ⟨b1, k1, q1, hb1, rfl, hg_n1⟩; have kr0 : n1.cell? ⟨w.heap.size, 0, none⟩ = some (.int .u64 0) := hg_n1.c; have krz0 : n1.frozen? ⟨w.heap.size, 0, none⟩ = false := hg_n1.z kr0; have kr1 : n1.cell? ⟨w.heap.size, 1, none⟩ = some (.int .i64 0) := hg_n1.c; have krz1 : n1.frozen? ⟨w.heap.size, 1, none⟩ = false := hg_n1.z kr1)
          | (go_at_call 44; with_reducible refine (HSx.out _ _ (BigN.gb hb1 Gb.g)).mono ?_; rintro e n2 ⟨b2, k2, q2, hb2, rfl, hg_n2⟩; have lr0 : n2.cell? ⟨w.heap.size, 0, none⟩ = some (.int .u64 0) := hg_n2.c; have lrz0 : n2.frozen? ⟨w.heap.size, 0, none⟩ = false := hg_n2.z lr0; have lr1 : n2.cell? ⟨w.heap.size, 1, none⟩ = some (.int .i64 0) := hg_n2.c; have lrz1 : n2.frozen? ⟨w.heap.size, 1, none⟩ = false := hg_n2.z lr1)
          | (go_at_call 46; with_reducible refine (HD.out _ _ _ (BigN.gb hb2 Gb.g) (BigN.gb hbd Gb.g)).mono ?_; rintro e n3 ⟨bn, kn, qn, br, kr, qr, hbn, hbr, rfl, hg_n3⟩; have nr0 : n3.cell? ⟨w.heap.size, 0, none⟩ = some (.int .u64 0) := hg_n3.c; have nrz0 : n3.frozen? ⟨w.heap.size, 0, none⟩ = false := hg_n3.z nr0; have nr1 : n3.cell? ⟨w.heap.size, 1, none⟩ = some (.int .i64 0) := hg_n3.c; have nrz1 : n3.frozen? ⟨w.heap.size, 1, none⟩ = false := hg_n3.z nr1))
      all_goals (try go_split_ands)
      all_goals (go_wp2; go_meet)
      all_goals exact ⟨_, _, _, _, _, _, rfl, rfl, by first | exact hbn | exact BigN.gb hbn Gb.g, by first | exact hbr | exact BigN.gb hbr Gb.g, BigN.gb hbd Gb.g, {}⟩
    case rest =>
      clear qg qr0 qr0z qr1 qr1z qa1 qa2 qa3 qb1 qb2 qb3
      obtain ⟨bn, kn, qn, br, kr, qr, rfl, rfl, hbn, hbr, hbd2, ⟨vg, vr0, vr0z, vr1, vr1z, va1, va2, va3, vb1, vb2, vb3⟩⟩ := hcut
      clear hbd
      have hr2 := HR2.out
      have hb01 : Qn % 2 = 0 ∨ Qn % 2 = 1 := by omega
      have c : R2 = d ∨ d < R2 := by have := hc.out; omega
      rcases c with c | c
      · obtain rfl : zc = 0 := by rw [hzc, if_neg (by omega), if_neg (by omega)]
        have hk0 : (((kr : Nat) : Int) == 0) = false := by have := bigN_pos hbr (by omega); simp; omega
        rcases hb01 with hb | hb
        · rw [hb] at HBit
          obtain rfl : U = false := by rw [hU]; exact decide_eq_false (by omega)
          rw [if_neg (by decide)] at hMm HR
          clear hzc hU
          have hMpos : 0 < Mr := by omega
          have hBM : Hid (∀ w v, BigN 201 w v Rn → BigN 1000 w v Mr) := fun w v g => by rw [hMm]; exact BigN.le g (by omega)
          clear hMm
          go_wp2_with (first
            | (go_at_call 44; with_reducible refine (HS2.out _ _ hbr).mono ?_; rintro e n4 ⟨b4, k4, q4, hb4, rfl, hg_n4⟩; have mr0 : n4.cell? ⟨w.heap.size, 0, none⟩ = some (.int .u64 0) := hg_n4.c; have mrz0 : n4.frozen? ⟨w.heap.size, 0, none⟩ = false := hg_n4.z mr0; have mr1 : n4.cell? ⟨w.heap.size, 1, none⟩ = some (.int .i64 0) := hg_n4.c; have mrz1 : n4.frozen? ⟨w.heap.size, 1, none⟩ = false := hg_n4.z mr1; have mp1 : n4.cell? ⟨w1.heap.size, 1, none⟩ = some (.int .i64 sa) := hg_n4.c)
            | (go_at_call 47; with_reducible refine (HC.out _ _ _ hb4 (BigN.gb hbd2 hg_n4)).mono ?_; rintro e n5 ⟨rfl, hg_n5⟩; have or0 : n5.cell? ⟨w.heap.size, 0, none⟩ = some (.int .u64 0) := hg_n5.c; have orz0 : n5.frozen? ⟨w.heap.size, 0, none⟩ = false := hg_n5.z or0; have or1 : n5.cell? ⟨w.heap.size, 1, none⟩ = some (.int .i64 0) := hg_n5.c; have orz1 : n5.frozen? ⟨w.heap.size, 1, none⟩ = false := hg_n5.z or1; have op1 : n5.cell? ⟨w1.heap.size, 1, none⟩ = some (.int .i64 sa) := hg_n5.c)
            | (go_at_call 48; with_reducible refine (HBit.out _ _ (BigN.gb (BigN.gb hbn hg_n4) hg_n5)).mono ?_; rintro e n6 ⟨rfl, hw⟩; subst hw)
            | (go_at_call 51; with_reducible refine (HR.out _ _ hMpos (hBM.out _ _ (BigN.gb (BigN.gb hbr hg_n4) hg_n5))).mono ?_; rintro e w9 ⟨z, fl, hq, rfl, hg_w9⟩; have zr0 : w9.cell? ⟨w.heap.size, 0, none⟩ = some (.int .u64 0) := hg_w9.c; have zrz0 : w9.frozen? ⟨w.heap.size, 0, none⟩ = false := hg_w9.z zr0; have zr1 : w9.cell? ⟨w.heap.size, 1, none⟩ = some (.int .i64 0) := hg_w9.c; have zrz1 : w9.frozen? ⟨w.heap.size, 1, none⟩ = false := hg_w9.z zr1))
          refine bodyPost_ret (v := .agg #[.int .u64 z, .int .i64 fl]) (by simp [results, Tryz.results9, go_sem, zr0, zr1]) rfl ⟨z, fl, hq, rfl, ?_⟩
          exact Gb.g
        · rw [hb] at HBit
          obtain rfl : U = true := by rw [hU]; exact decide_eq_true (by omega)
          rw [if_pos rfl] at hMm HR
          clear hzc hU
          have hMpos : 0 < Mr := by omega
          have hBM : Hid (∀ w v, BigN 300 w v (d - Rn) → BigN 1000 w v Mr) := fun w v g => by rw [hMm]; exact BigN.le g (by omega)
          clear hMm
          go_wp2_with (first
            | (go_at_call 44; with_reducible refine (HS2.out _ _ hbr).mono ?_; rintro e n4 ⟨b4, k4, q4, hb4, rfl, hg_n4⟩; have mr0 : n4.cell? ⟨w.heap.size, 0, none⟩ = some (.int .u64 0) := hg_n4.c; have mrz0 : n4.frozen? ⟨w.heap.size, 0, none⟩ = false := hg_n4.z mr0; have mr1 : n4.cell? ⟨w.heap.size, 1, none⟩ = some (.int .i64 0) := hg_n4.c; have mrz1 : n4.frozen? ⟨w.heap.size, 1, none⟩ = false := hg_n4.z mr1; have mp1 : n4.cell? ⟨w1.heap.size, 1, none⟩ = some (.int .i64 sa) := hg_n4.c)
            | (go_at_call 47; with_reducible refine (HC.out _ _ _ hb4 (BigN.gb hbd2 hg_n4)).mono ?_; rintro e n5 ⟨rfl, hg_n5⟩; have or0 : n5.cell? ⟨w.heap.size, 0, none⟩ = some (.int .u64 0) := hg_n5.c; have orz0 : n5.frozen? ⟨w.heap.size, 0, none⟩ = false := hg_n5.z or0; have or1 : n5.cell? ⟨w.heap.size, 1, none⟩ = some (.int .i64 0) := hg_n5.c; have orz1 : n5.frozen? ⟨w.heap.size, 1, none⟩ = false := hg_n5.z or1; have op1 : n5.cell? ⟨w1.heap.size, 1, none⟩ = some (.int .i64 sa) := hg_n5.c)
            | (go_at_call 48; with_reducible refine (HBit.out _ _ (BigN.gb (BigN.gb hbn hg_n4) hg_n5)).mono ?_; rintro e n6 ⟨rfl, hw⟩; subst hw)
            | (go_at_call 49; with_reducible refine (HSub.out _ _ _ (BigN.gb (BigN.gb hbd2 hg_n4) hg_n5) (BigN.gb (BigN.gb hbr hg_n4) hg_n5)).mono ?_; rintro e n7 ⟨b7, k7, q7, hb7, rfl, hg_n7⟩; have sr0 : n7.cell? ⟨w.heap.size, 0, none⟩ = some (.int .u64 0) := hg_n7.c; have srz0 : n7.frozen? ⟨w.heap.size, 0, none⟩ = false := hg_n7.z sr0; have sr1 : n7.cell? ⟨w.heap.size, 1, none⟩ = some (.int .i64 0) := hg_n7.c; have srz1 : n7.frozen? ⟨w.heap.size, 1, none⟩ = false := hg_n7.z sr1; have sp1 : n7.cell? ⟨w1.heap.size, 1, none⟩ = some (.int .i64 sa) := hg_n7.c; have hk7 : (((k7 : Nat) : Int) == 0) = false := (by have := bigN_pos hb7 (by omega); simp; omega))
            | (go_at_call 51; with_reducible refine (HR.out _ _ hMpos (hBM.out _ _ hb7)).mono ?_; rintro e w9 ⟨z, fl, hq, rfl, hg_w9⟩; have zr0 : w9.cell? ⟨w.heap.size, 0, none⟩ = some (.int .u64 0) := hg_w9.c; have zrz0 : w9.frozen? ⟨w.heap.size, 0, none⟩ = false := hg_w9.z zr0; have zr1 : w9.cell? ⟨w.heap.size, 1, none⟩ = some (.int .i64 0) := hg_w9.c; have zrz1 : w9.frozen? ⟨w.heap.size, 1, none⟩ = false := hg_w9.z zr1))
          refine bodyPost_ret (v := .agg #[.int .u64 z, .int .i64 fl]) (by simp [results, Tryz.results9, go_sem, zr0, zr1]) rfl ⟨z, fl, hq, rfl, ?_⟩
          exact Gb.g
      · obtain rfl : zc = 1 := by rw [hzc, if_neg (by omega), if_pos c]
        obtain rfl : U = true := by rw [hU]; exact decide_eq_true (by omega)
        rw [if_pos rfl] at hMm HR
        clear hzc hU
        have hMpos : 0 < Mr := by omega
        have hBM : Hid (∀ w v, BigN 300 w v (d - Rn) → BigN 1000 w v Mr) := fun w v g => by rw [hMm]; exact BigN.le g (by omega)
        clear hMm
        go_wp2_with (first
          | (go_at_call 44; with_reducible refine (HS2.out _ _ hbr).mono ?_; rintro e n4 ⟨b4, k4, q4, hb4, rfl, hg_n4⟩; have mr0 : n4.cell? ⟨w.heap.size, 0, none⟩ = some (.int .u64 0) := hg_n4.c; have mrz0 : n4.frozen? ⟨w.heap.size, 0, none⟩ = false := hg_n4.z mr0; have mr1 : n4.cell? ⟨w.heap.size, 1, none⟩ = some (.int .i64 0) := hg_n4.c; have mrz1 : n4.frozen? ⟨w.heap.size, 1, none⟩ = false := hg_n4.z mr1; have mp1 : n4.cell? ⟨w1.heap.size, 1, none⟩ = some (.int .i64 sa) := hg_n4.c)
          | (go_at_call 47; with_reducible refine (HC.out _ _ _ hb4 (BigN.gb hbd2 hg_n4)).mono ?_; rintro e n5 ⟨rfl, hg_n5⟩; have or0 : n5.cell? ⟨w.heap.size, 0, none⟩ = some (.int .u64 0) := hg_n5.c; have orz0 : n5.frozen? ⟨w.heap.size, 0, none⟩ = false := hg_n5.z or0; have or1 : n5.cell? ⟨w.heap.size, 1, none⟩ = some (.int .i64 0) := hg_n5.c; have orz1 : n5.frozen? ⟨w.heap.size, 1, none⟩ = false := hg_n5.z or1; have op1 : n5.cell? ⟨w1.heap.size, 1, none⟩ = some (.int .i64 sa) := hg_n5.c)
          | (go_at_call 49; with_reducible refine (HSub.out _ _ _ (BigN.gb (BigN.gb hbd2 hg_n4) hg_n5) (BigN.gb (BigN.gb hbr hg_n4) hg_n5)).mono ?_; rintro e n7 ⟨b7, k7, q7, hb7, rfl, hg_n7⟩; have sr0 : n7.cell? ⟨w.heap.size, 0, none⟩ = some (.int .u64 0) := hg_n7.c; have srz0 : n7.frozen? ⟨w.heap.size, 0, none⟩ = false := hg_n7.z sr0; have sr1 : n7.cell? ⟨w.heap.size, 1, none⟩ = some (.int .i64 0) := hg_n7.c; have srz1 : n7.frozen? ⟨w.heap.size, 1, none⟩ = false := hg_n7.z sr1; have sp1 : n7.cell? ⟨w1.heap.size, 1, none⟩ = some (.int .i64 sa) := hg_n7.c; have hk7 : (((k7 : Nat) : Int) == 0) = false := (by have := bigN_pos hb7 (by omega); simp; omega))
          | (go_at_call 51; with_reducible refine (HR.out _ _ hMpos (hBM.out _ _ hb7)).mono ?_; rintro e w9 ⟨z, fl, hq, rfl, hg_w9⟩; have zr0 : w9.cell? ⟨w.heap.size, 0, none⟩ = some (.int .u64 0) := hg_w9.c; have zrz0 : w9.frozen? ⟨w.heap.size, 0, none⟩ = false := hg_w9.z zr0; have zr1 : w9.cell? ⟨w.heap.size, 1, none⟩ = some (.int .i64 0) := hg_w9.c; have zrz1 : w9.frozen? ⟨w.heap.size, 1, none⟩ = false := hg_w9.z zr1))
        refine bodyPost_ret (v := .agg #[.int .u64 z, .int .i64 fl]) (by simp [results, Tryz.results9, go_sem, zr0, zr1]) rfl ⟨z, fl, hq, rfl, ?_⟩
        exact Gb.g

theorem sRem_num_hi (f a b ca sa xa ga cb sb xb gb : Int) (HF : Hid (∀ w, Calls Tryz.prog 37 #[.int .i64 f, .int .i64 0, .int .u64 a, .int .u64 b] w fun e w' => e = .returned (.bool true) ∧ w = w')) (HUa : Hid (∀ w, Calls Tryz.prog 26 #[.int .i64 f, .int .u64 a] w fun e w' => e = .returned (.agg #[.int .i64 ca, .int .i64 sa, .int .i64 xa, .int .u64 ga]) ∧ Gr w w')) (HUb : Hid (∀ w, Calls Tryz.prog 26 #[.int .i64 f, .int .u64 b] w fun e w' => e = .returned (.agg #[.int .i64 cb, .int .i64 sb, .int .i64 xb, .int .u64 gb]) ∧ Gr w w')) (HQa : Hid (∀ w, Calls Tryz.prog 42 #[.agg #[.int .i64 ca, .int .i64 sa, .int .i64 xa, .int .u64 ga]] w fun e w' => e = .returned (.bool false) ∧ Gr w w')) (HQb : Hid (∀ w, Calls Tryz.prog 42 #[.agg #[.int .i64 cb, .int .i64 sb, .int .i64 xb, .int .u64 gb]] w fun e w' => e = .returned (.bool false) ∧ Gr w w')) (e1 : ca = 1) (e2 : cb = 1) (A B : Nat) (e3 : ga = (A : Int)) (e4 : gb = (B : Int)) (hA : A < 18446744073709551616) (hB : B < 18446744073709551616) (x0 : -50000 ≤ xa) (x1 : xa ≤ 50000) (y0 : -50000 ≤ xb) (y1 : xb ≤ 50000) (s0 : 0 ≤ sa) (s1 : sa ≤ 1) (hx : xb < xa) (u1 : Nat) (h2 : IntKind.i64.wrap (xa - xb) = (u1 : Int)) (hu1 : u1 ≤ 5000) (X d : Nat) (hX : X = A * 2 ^ u1) (hd : d = B * 2 ^ 0) (hd0 : 0 < d) (Q : Int → Int → Prop) (HR : Hid (∀ v w, 0 < remM X d → BigN 1000 w v (remM X d) → Calls Tryz.prog 51 #[.int .i64 f, .int .i64 0, .agg #[.int .i64 (if remUp X d then 1 - sa else sa), v, .int .i64 xb, .bool false]] w fun e w' => ∃ z fl, Q z fl ∧ e = .returned (.agg #[.int .u64 z, .int .i64 fl]) ∧ Gb w w')) (HZ : Hid (∀ w, remM X d = 0 → Calls Tryz.prog 50 #[.int .i64 f, .int .i64 sa] w fun e w' => ∃ z fl, Q z fl ∧ e = .returned (.agg #[.int .u64 z, .int .i64 fl]) ∧ Gr w w')) (w : World) :
    Calls Tryz.prog 9 #[.int .i64 f, .int .u64 a, .int .u64 b] w fun e w' => ∃ z fl, Q z fl ∧ e = .returned (.agg #[.int .u64 z, .int .i64 fl]) ∧ Gb w w' := by
  by_cases hc : 2 * (X % d) < d
  · exact sRem_num_hiA f a b ca sa xa ga cb sb xb gb HF HUa HUb HQa HQb e1 e2 A B e3 e4 hA hB x0 x1 y0 y1 s0 s1 hx u1 h2 hu1 X d hX hd hd0 Q HR HZ hc w
  · exact sRem_num_hiB f a b ca sa xa ga cb sb xb gb HF HUa HUb HQa HQb e1 e2 A B e3 e4 hA hB x0 x1 y0 y1 s0 s1 hx u1 h2 hu1 X d hX hd hd0 Q HR HZ hc w
end Go.Proofs.YtkflpogmhailhaaGreatDoor
