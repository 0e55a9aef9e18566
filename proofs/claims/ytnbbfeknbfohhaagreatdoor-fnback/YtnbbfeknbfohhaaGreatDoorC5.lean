import Derived.Test.YtnbbfeknbfohhaaGreatDoorU1
import Derived.Deep.DeepCutAuto
import Derived.Test.YtnbbfeknbfohhaaGreatDoorC1
import Derived.Test.YtnbbfeknbfohhaaGreatDoorC2
import Derived.Test.YtnbbfeknbfohhaaGreatDoorB8
set_option linter.unusedVariables false
set_option linter.unusedSimpArgs false
set_option maxRecDepth 1000000
set_option maxHeartbeats 40000000
open Go.Value renaming int → J, agg → X, bool → E
open Go.IntKind renaming i64 → Y, u64 → O
open Go.Ending renaming returned → V
namespace Go.Proofs.YtnbbfeknbfohhaaGreatDoor
open Go.RowKit
theorem twC51 {P : Prop} (h : P := by
 go_enter Tryz.func85, Tryz.ntmps85
 go_wp2_with (first
  | (go_at_call 117; refine kw (HF.out _) ?_)
  | (go_at_call 31; first | (with_reducible refine (HUa.out _).mono ?_; rintro e w1 ⟨rfl, hg_w1⟩; obtain ⟨u0r0, u0rz0, u0r1, u0rz1⟩ := hg_w1.y2 w.heap.size 0 1 (J O 0) (J Y 0); have hz0 := cell_size u0r0) | (with_reducible refine (HUb.out _).mono ?_; rintro e w2 ⟨rfl, hg_w2⟩; obtain ⟨u1r0, u1rz0, u1r1, u1rz1⟩ := hg_w2.y2 w.heap.size 0 1 (J O 0) (J Y 0); have u1p00 := hg_w2.e1 w1.heap.size 0 (J Y ca); have u1p0A0 := kca u1p00; have u1p01 := hg_w2.e1 w1.heap.size 1 (J Y sa); have u1p0A1 := kca u1p01; have u1p02 := hg_w2.e1 w1.heap.size 2 (J Y xa); have u1p0A2 := kca u1p02; have u1p03 := hg_w2.e1 w1.heap.size 3 (J O ga); have u1p0A3 := kca u1p03; have hz1 := cell_size u1r0))
  | (go_at_call 118; first | (with_reducible refine (HQa.out _).mono ?_; rintro e va ⟨rfl, hg_va⟩; obtain ⟨qar0, qarz0, qar1, qarz1⟩ := hg_va.y2 w.heap.size 0 1 (J O 0) (J Y 0); obtain ⟨qap00, qap01, qap02, qap03⟩ := hg_va.e4 w1.heap.size 0 1 2 3 (J Y ca) (J Y sa) (J Y xa) (J O ga); obtain ⟨qap10, qap11, qap12, qap13⟩ := hg_va.e4 w2.heap.size 0 1 2 3 (J Y cb) (J Y sb) (J Y xb) (J O gb)) | (with_reducible refine (HQb.out _).mono ?_; rintro e vb ⟨rfl, hg_vb⟩; obtain ⟨qbr0, qbrz0, qbr1, qbrz1⟩ := hg_vb.y2 w.heap.size 0 1 (J O 0) (J Y 0); obtain ⟨qbp00, qbp01, qbp02, qbp03⟩ := hg_vb.e4 w1.heap.size 0 1 2 3 (J Y ca) (J Y sa) (J Y xa) (J O ga); obtain ⟨qbp10, qbp11, qbp12, qbp13⟩ := hg_vb.e4 w2.heap.size 0 1 2 3 (J Y cb) (J Y sb) (J Y xb) (J O gb)))
  | (go_at_call 119; refine (HL.out _).mono ?_; rintro e w9 ⟨rfl, hg_w9⟩; obtain ⟨zr0, zrz0, zr1, zrz1⟩ := hg_w9.y2 w.heap.size 0 1 (J O 0) (J Y 0)))
 refine bodyPost_ret (v := X #[J O z, J Y fl]) (by simp [results, Tryz.results85, go_sem, zr0, zr1]) rfl ⟨rfl, ?_⟩
 exact Gb.g) : P := h
theorem twC50 {P : Prop} (h : P := by
 go_enter Tryz.func85, Tryz.ntmps85
 go_wp2_with (first
  | (go_at_call 117; refine kw (HF.out _) ?_)
  | (go_at_call 31; first | (with_reducible refine (HUa.out _).mono ?_; rintro e w1 ⟨rfl, hg_w1⟩; obtain ⟨u0r0, u0rz0, u0r1, u0rz1⟩ := hg_w1.y2 w.heap.size 0 1 (J O 0) (J Y 0); have hz0 := cell_size u0r0) | (with_reducible refine (HUb.out _).mono ?_; rintro e w2 ⟨rfl, hg_w2⟩; obtain ⟨u1r0, u1rz0, u1r1, u1rz1⟩ := hg_w2.y2 w.heap.size 0 1 (J O 0) (J Y 0); have u1p00 := hg_w2.e1 w1.heap.size 0 (J Y ca); have u1p0A0 := kca u1p00; have u1p01 := hg_w2.e1 w1.heap.size 1 (J Y sa); have u1p0A1 := kca u1p01; have u1p02 := hg_w2.e1 w1.heap.size 2 (J Y xa); have u1p0A2 := kca u1p02; have u1p03 := hg_w2.e1 w1.heap.size 3 (J O ga); have u1p0A3 := kca u1p03; have hz1 := cell_size u1r0))
  | (go_at_call 118; first | (with_reducible refine (HQa.out _).mono ?_; rintro e va ⟨rfl, hg_va⟩; obtain ⟨qar0, qarz0, qar1, qarz1⟩ := hg_va.y2 w.heap.size 0 1 (J O 0) (J Y 0); obtain ⟨qap00, qap01, qap02, qap03⟩ := hg_va.e4 w1.heap.size 0 1 2 3 (J Y ca) (J Y sa) (J Y xa) (J O ga); obtain ⟨qap10, qap11, qap12, qap13⟩ := hg_va.e4 w2.heap.size 0 1 2 3 (J Y cb) (J Y sb) (J Y xb) (J O gb)))
  | (go_at_call 119; refine (HL.out _).mono ?_; rintro e w9 ⟨rfl, hg_w9⟩; obtain ⟨zr0, zrz0, zr1, zrz1⟩ := hg_w9.y2 w.heap.size 0 1 (J O 0) (J Y 0)))
 refine bodyPost_ret (v := X #[J O z, J Y fl]) (by simp [results, Tryz.results85, go_sem, zr0, zr1]) rfl ⟨rfl, ?_⟩
 exact Gb.g) : P := h
theorem sMul_bad (f mode a b : Int) (HF : KW 117 #[J Y f, J Y mode, J O a, J O b] (E false)) (z fl : Int) (HL : KR 63 #[J Y f] (X #[J O z, J Y fl])) (w : World) :
  QB 85 #[J Y f, J Y mode, J O a, J O b] w (X #[J O z, J Y fl]) := by
 go_enter Tryz.func85, Tryz.ntmps85
 go_wp2_with (first
  | (go_at_call 117; refine kw (HF.out _) ?_)
  | (go_at_call 63; refine (HL.out _).mono ?_; rintro e w9 ⟨rfl, hg_w9⟩; obtain ⟨zr0, zrz0, zr1, zrz1⟩ := hg_w9.y2 w.heap.size 0 1 (J O 0) (J Y 0)))
 refine bodyPost_ret (v := X #[J O z, J Y fl]) (by simp [results, Tryz.results85, go_sem, zr0, zr1]) rfl ⟨rfl, ?_⟩
 exact Gb.g
theorem sMul_nan1 (f mode a b ca sa xa ga cb sb xb gb : Int) (HF : KW 117 #[J Y f, J Y mode, J O a, J O b] (E true)) (HUa : KR 31 #[J Y f, J O a] (X #[J Y ca, J Y sa, J Y xa, J O ga])) (HUb : KR 31 #[J Y f, J O b] (X #[J Y cb, J Y sb, J Y xb, J O gb])) (HQa : KR 118 #[X #[J Y ca, J Y sa, J Y xa, J O ga]] (E true)) (e4 : (ca == 4) = true) (z fl : Int) (HL : KR 119 #[J Y f, E true] (X #[J O z, J Y fl])) (w : World) :
  QB 85 #[J Y f, J Y mode, J O a, J O b] w (X #[J O z, J Y fl]) := by
 exact twC50
theorem sMul_nan2 (f mode a b ca sa xa ga cb sb xb gb : Int) (HF : KW 117 #[J Y f, J Y mode, J O a, J O b] (E true)) (HUa : KR 31 #[J Y f, J O a] (X #[J Y ca, J Y sa, J Y xa, J O ga])) (HUb : KR 31 #[J Y f, J O b] (X #[J Y cb, J Y sb, J Y xb, J O gb])) (HQa : KR 118 #[X #[J Y ca, J Y sa, J Y xa, J O ga]] (E true)) (e4 : (ca == 4) = false) (t : Bool) (e5 : (cb == 4) = t) (z fl : Int) (HL : KR 119 #[J Y f, E t] (X #[J O z, J Y fl])) (w : World) :
  QB 85 #[J Y f, J Y mode, J O a, J O b] w (X #[J O z, J Y fl]) := by
 cases t
 ·exact twC50
 ·exact twC50
theorem sMul_nan3 (f mode a b ca sa xa ga cb sb xb gb : Int) (HF : KW 117 #[J Y f, J Y mode, J O a, J O b] (E true)) (HUa : KR 31 #[J Y f, J O a] (X #[J Y ca, J Y sa, J Y xa, J O ga])) (HUb : KR 31 #[J Y f, J O b] (X #[J Y cb, J Y sb, J Y xb, J O gb])) (HQa : KR 118 #[X #[J Y ca, J Y sa, J Y xa, J O ga]] (E false)) (HQb : KR 118 #[X #[J Y cb, J Y sb, J Y xb, J O gb]] (E true)) (e4 : (ca == 4) = false) (t : Bool) (e5 : (cb == 4) = t) (z fl : Int) (HL : KR 119 #[J Y f, E t] (X #[J O z, J Y fl])) (w : World) :
  QB 85 #[J Y f, J Y mode, J O a, J O b] w (X #[J O z, J Y fl]) := by
 cases t
 ·exact twC51
 ·exact twC51
theorem sMul_no (f mode a b ca sa xa ga cb sb xb gb : Int) (HF : KW 117 #[J Y f, J Y mode, J O a, J O b] (E true)) (HUa : KR 31 #[J Y f, J O a] (X #[J Y ca, J Y sa, J Y xa, J O ga])) (HUb : KR 31 #[J Y f, J O b] (X #[J Y cb, J Y sb, J Y xb, J O gb])) (HQa : KR 118 #[X #[J Y ca, J Y sa, J Y xa, J O ga]] (E false)) (HQb : KR 118 #[X #[J Y cb, J Y sb, J Y xb, J O gb]] (E false)) (HP : KR 172 #[X #[J Y ca, J Y sa, J Y xa, J O ga], X #[J Y cb, J Y sb, J Y xb, J O gb]] (E true)) (z fl : Int) (HL : KR 63 #[J Y f] (X #[J O z, J Y fl])) (w : World) :
  QB 85 #[J Y f, J Y mode, J O a, J O b] w (X #[J O z, J Y fl]) := by
 go_enter Tryz.func85, Tryz.ntmps85
 go_wp2_with (first
  | (go_at_call 117; refine kw (HF.out _) ?_)
  | (go_at_call 31; first | (with_reducible refine (HUa.out _).mono ?_; rintro e w1 ⟨rfl, hg_w1⟩; obtain ⟨u0r0, u0rz0, u0r1, u0rz1⟩ := hg_w1.y2 w.heap.size 0 1 (J O 0) (J Y 0); have hz0 := cell_size u0r0) | (with_reducible refine (HUb.out _).mono ?_; rintro e w2 ⟨rfl, hg_w2⟩; obtain ⟨u1r0, u1rz0, u1r1, u1rz1⟩ := hg_w2.y2 w.heap.size 0 1 (J O 0) (J Y 0); have u1p00 := hg_w2.e1 w1.heap.size 0 (J Y ca); have u1p0A0 := kca u1p00; have u1p01 := hg_w2.e1 w1.heap.size 1 (J Y sa); have u1p0A1 := kca u1p01; have u1p02 := hg_w2.e1 w1.heap.size 2 (J Y xa); have u1p0A2 := kca u1p02; have u1p03 := hg_w2.e1 w1.heap.size 3 (J O ga); have u1p0A3 := kca u1p03; have hz1 := cell_size u1r0))
  | (go_at_call 118; first | (with_reducible refine (HQa.out _).mono ?_; rintro e va ⟨rfl, hg_va⟩; obtain ⟨qar0, qarz0, qar1, qarz1⟩ := hg_va.y2 w.heap.size 0 1 (J O 0) (J Y 0); obtain ⟨qap00, qap01, qap02, qap03⟩ := hg_va.e4 w1.heap.size 0 1 2 3 (J Y ca) (J Y sa) (J Y xa) (J O ga); obtain ⟨qap10, qap11, qap12, qap13⟩ := hg_va.e4 w2.heap.size 0 1 2 3 (J Y cb) (J Y sb) (J Y xb) (J O gb)) | (with_reducible refine (HQb.out _).mono ?_; rintro e vb ⟨rfl, hg_vb⟩; obtain ⟨qbr0, qbrz0, qbr1, qbrz1⟩ := hg_vb.y2 w.heap.size 0 1 (J O 0) (J Y 0); obtain ⟨qbp00, qbp01, qbp02, qbp03⟩ := hg_vb.e4 w1.heap.size 0 1 2 3 (J Y ca) (J Y sa) (J Y xa) (J O ga); obtain ⟨qbp10, qbp11, qbp12, qbp13⟩ := hg_vb.e4 w2.heap.size 0 1 2 3 (J Y cb) (J Y sb) (J Y xb) (J O gb)))
  | (go_at_call 172; refine (HP.out _).mono ?_; rintro e vp ⟨rfl, hg_vp⟩; obtain ⟨npr0, nprz0, npr1, nprz1⟩ := hg_vp.y2 w.heap.size 0 1 (J O 0) (J Y 0); obtain ⟨npp00, npp01, npp02, npp03⟩ := hg_vp.e4 w1.heap.size 0 1 2 3 (J Y ca) (J Y sa) (J Y xa) (J O ga); obtain ⟨npp10, npp11, npp12, npp13⟩ := hg_vp.e4 w2.heap.size 0 1 2 3 (J Y cb) (J Y sb) (J Y xb) (J O gb))
  | (go_at_call 63; refine (HL.out _).mono ?_; rintro e w9 ⟨rfl, hg_w9⟩; obtain ⟨zr0, zrz0, zr1, zrz1⟩ := hg_w9.y2 w.heap.size 0 1 (J O 0) (J Y 0)))
 refine bodyPost_ret (v := X #[J O z, J Y fl]) (by simp [results, Tryz.results85, go_sem, zr0, zr1]) rfl ⟨rfl, ?_⟩
 exact Gb.g
theorem sMul_inf1 (f mode a b ca sa xa ga cb sb xb gb : Int) (sp xp : Int) (Gp : Nat) (HF : KW 117 #[J Y f, J Y mode, J O a, J O b] (E true)) (HUa : KR 31 #[J Y f, J O a] (X #[J Y ca, J Y sa, J Y xa, J O ga])) (HUb : KR 31 #[J Y f, J O b] (X #[J Y cb, J Y sb, J Y xb, J O gb])) (HQa : KR 118 #[X #[J Y ca, J Y sa, J Y xa, J O ga]] (E false)) (HQb : KR 118 #[X #[J Y cb, J Y sb, J Y xb, J O gb]] (E false)) (HP : KR 172 #[X #[J Y ca, J Y sa, J Y xa, J O ga], X #[J Y cb, J Y sb, J Y xb, J O gb]] (E false)) (HM : Hid (∀ w, CT 173 #[X #[J Y ca, J Y sa, J Y xa, J O ga], X #[J Y cb, J Y sb, J Y xb, J O gb]] w fun e w' => ∃ bp kp qp, BigN 4 w' (.slice (some ⟨bp, 0, none⟩) kp qp) Gp ∧ e = V (X #[J Y sp, .slice (some ⟨bp, 0, none⟩) kp qp, J Y xp, E false]) ∧ Gb w w')) (e1 : ca = 2) (z fl : Int) (HL : KR 167 #[J Y f, J Y sp] (X #[J O z, J Y fl])) (w : World) :
  QB 85 #[J Y f, J Y mode, J O a, J O b] w (X #[J O z, J Y fl]) := by
 subst e1
 go_enter Tryz.func85, Tryz.ntmps85
 go_wp2_with (first
  | (go_at_call 117; refine kw (HF.out _) ?_)
  | (go_at_call 31; first | (with_reducible refine (HUa.out _).mono ?_; rintro e w1 ⟨rfl, hg_w1⟩; obtain ⟨u0r0, u0rz0, u0r1, u0rz1⟩ := hg_w1.y2 w.heap.size 0 1 (J O 0) (J Y 0); have hz0 := cell_size u0r0) | (with_reducible refine (HUb.out _).mono ?_; rintro e w2 ⟨rfl, hg_w2⟩; obtain ⟨u1r0, u1rz0, u1r1, u1rz1⟩ := hg_w2.y2 w.heap.size 0 1 (J O 0) (J Y 0); have u1p00 := hg_w2.e1 w1.heap.size 0 (J Y 2); have u1p0A0 := kca u1p00; have u1p01 := hg_w2.e1 w1.heap.size 1 (J Y sa); have u1p0A1 := kca u1p01; have u1p02 := hg_w2.e1 w1.heap.size 2 (J Y xa); have u1p0A2 := kca u1p02; have u1p03 := hg_w2.e1 w1.heap.size 3 (J O ga); have u1p0A3 := kca u1p03; have hz1 := cell_size u1r0))
  | (go_at_call 118; first | (with_reducible refine (HQa.out _).mono ?_; rintro e va ⟨rfl, hg_va⟩; obtain ⟨qar0, qarz0, qar1, qarz1⟩ := hg_va.y2 w.heap.size 0 1 (J O 0) (J Y 0); obtain ⟨qap00, qap01, qap02, qap03⟩ := hg_va.e4 w1.heap.size 0 1 2 3 (J Y 2) (J Y sa) (J Y xa) (J O ga); obtain ⟨qap10, qap11, qap12, qap13⟩ := hg_va.e4 w2.heap.size 0 1 2 3 (J Y cb) (J Y sb) (J Y xb) (J O gb)) | (with_reducible refine (HQb.out _).mono ?_; rintro e vb ⟨rfl, hg_vb⟩; obtain ⟨qbr0, qbrz0, qbr1, qbrz1⟩ := hg_vb.y2 w.heap.size 0 1 (J O 0) (J Y 0); obtain ⟨qbp00, qbp01, qbp02, qbp03⟩ := hg_vb.e4 w1.heap.size 0 1 2 3 (J Y 2) (J Y sa) (J Y xa) (J O ga); obtain ⟨qbp10, qbp11, qbp12, qbp13⟩ := hg_vb.e4 w2.heap.size 0 1 2 3 (J Y cb) (J Y sb) (J Y xb) (J O gb)))
  | (go_at_call 172; refine (HP.out _).mono ?_; rintro e vp ⟨rfl, hg_vp⟩; obtain ⟨npr0, nprz0, npr1, nprz1⟩ := hg_vp.y2 w.heap.size 0 1 (J O 0) (J Y 0); obtain ⟨npp00, npp01, npp02, npp03⟩ := hg_vp.e4 w1.heap.size 0 1 2 3 (J Y 2) (J Y sa) (J Y xa) (J O ga); obtain ⟨npp10, npp11, npp12, npp13⟩ := hg_vp.e4 w2.heap.size 0 1 2 3 (J Y cb) (J Y sb) (J Y xb) (J O gb))
  | (go_at_call 173; refine (HM.out _).mono ?_; rintro e wm ⟨bp, kp, qp, hbp, rfl, hg_wm⟩; skip; obtain ⟨mr0, mrz0⟩ := hg_wm.y1 w.heap.size 0 (J O 0); have mrA0 := kca mr0; have mrB0 := kfa mrz0; obtain ⟨mr1, mrz1⟩ := hg_wm.y1 w.heap.size 1 (J Y 0); have mrA1 := kca mr1; have mrB1 := kfa mrz1; obtain ⟨mp00, mp01, mp02, mp03⟩ := hg_wm.e4 w1.heap.size 0 1 2 3 (J Y 2) (J Y sa) (J Y xa) (J O ga); obtain ⟨mp10, mp11, mp12, mp13⟩ := hg_wm.e4 w2.heap.size 0 1 2 3 (J Y cb) (J Y sb) (J Y xb) (J O gb); have mA0 := kca mp00; have mB0 := kca mp10; have hzm := cell_size mr0)
  | (go_at_call 167; refine (HL.out _).mono ?_; rintro e w9 ⟨rfl, hg_w9⟩; obtain ⟨zr0, zrz0, zr1, zrz1⟩ := hg_w9.y2 w.heap.size 0 1 (J O 0) (J Y 0)))
 refine bodyPost_ret (v := X #[J O z, J Y fl]) (by simp [results, Tryz.results85, go_sem, zr0, zr1]) rfl ⟨rfl, ?_⟩
 exact Gb.g
theorem sMul_inf2 (f mode a b ca sa xa ga cb sb xb gb : Int) (sp xp : Int) (Gp : Nat) (HF : KW 117 #[J Y f, J Y mode, J O a, J O b] (E true)) (HUa : KR 31 #[J Y f, J O a] (X #[J Y ca, J Y sa, J Y xa, J O ga])) (HUb : KR 31 #[J Y f, J O b] (X #[J Y cb, J Y sb, J Y xb, J O gb])) (HQa : KR 118 #[X #[J Y ca, J Y sa, J Y xa, J O ga]] (E false)) (HQb : KR 118 #[X #[J Y cb, J Y sb, J Y xb, J O gb]] (E false)) (HP : KR 172 #[X #[J Y ca, J Y sa, J Y xa, J O ga], X #[J Y cb, J Y sb, J Y xb, J O gb]] (E false)) (HM : Hid (∀ w, CT 173 #[X #[J Y ca, J Y sa, J Y xa, J O ga], X #[J Y cb, J Y sb, J Y xb, J O gb]] w fun e w' => ∃ bp kp qp, BigN 4 w' (.slice (some ⟨bp, 0, none⟩) kp qp) Gp ∧ e = V (X #[J Y sp, .slice (some ⟨bp, 0, none⟩) kp qp, J Y xp, E false]) ∧ Gb w w')) (e1 : (ca == 2) = false) (e2 : cb = 2) (z fl : Int) (HL : KR 167 #[J Y f, J Y sp] (X #[J O z, J Y fl])) (w : World) :
  QB 85 #[J Y f, J Y mode, J O a, J O b] w (X #[J O z, J Y fl]) := by
 subst e2
 go_enter Tryz.func85, Tryz.ntmps85
 go_wp2_with (first
  | (go_at_call 117; refine kw (HF.out _) ?_)
  | (go_at_call 31; first | (with_reducible refine (HUa.out _).mono ?_; rintro e w1 ⟨rfl, hg_w1⟩; obtain ⟨u0r0, u0rz0, u0r1, u0rz1⟩ := hg_w1.y2 w.heap.size 0 1 (J O 0) (J Y 0); have hz0 := cell_size u0r0) | (with_reducible refine (HUb.out _).mono ?_; rintro e w2 ⟨rfl, hg_w2⟩; obtain ⟨u1r0, u1rz0, u1r1, u1rz1⟩ := hg_w2.y2 w.heap.size 0 1 (J O 0) (J Y 0); have u1p00 := hg_w2.e1 w1.heap.size 0 (J Y ca); have u1p0A0 := kca u1p00; have u1p01 := hg_w2.e1 w1.heap.size 1 (J Y sa); have u1p0A1 := kca u1p01; have u1p02 := hg_w2.e1 w1.heap.size 2 (J Y xa); have u1p0A2 := kca u1p02; have u1p03 := hg_w2.e1 w1.heap.size 3 (J O ga); have u1p0A3 := kca u1p03; have hz1 := cell_size u1r0))
  | (go_at_call 118; first | (with_reducible refine (HQa.out _).mono ?_; rintro e va ⟨rfl, hg_va⟩; obtain ⟨qar0, qarz0, qar1, qarz1⟩ := hg_va.y2 w.heap.size 0 1 (J O 0) (J Y 0); obtain ⟨qap00, qap01, qap02, qap03⟩ := hg_va.e4 w1.heap.size 0 1 2 3 (J Y ca) (J Y sa) (J Y xa) (J O ga); obtain ⟨qap10, qap11, qap12, qap13⟩ := hg_va.e4 w2.heap.size 0 1 2 3 (J Y 2) (J Y sb) (J Y xb) (J O gb)) | (with_reducible refine (HQb.out _).mono ?_; rintro e vb ⟨rfl, hg_vb⟩; obtain ⟨qbr0, qbrz0, qbr1, qbrz1⟩ := hg_vb.y2 w.heap.size 0 1 (J O 0) (J Y 0); obtain ⟨qbp00, qbp01, qbp02, qbp03⟩ := hg_vb.e4 w1.heap.size 0 1 2 3 (J Y ca) (J Y sa) (J Y xa) (J O ga); obtain ⟨qbp10, qbp11, qbp12, qbp13⟩ := hg_vb.e4 w2.heap.size 0 1 2 3 (J Y 2) (J Y sb) (J Y xb) (J O gb)))
  | (go_at_call 172; refine (HP.out _).mono ?_; rintro e vp ⟨rfl, hg_vp⟩; obtain ⟨npr0, nprz0, npr1, nprz1⟩ := hg_vp.y2 w.heap.size 0 1 (J O 0) (J Y 0); obtain ⟨npp00, npp01, npp02, npp03⟩ := hg_vp.e4 w1.heap.size 0 1 2 3 (J Y ca) (J Y sa) (J Y xa) (J O ga); obtain ⟨npp10, npp11, npp12, npp13⟩ := hg_vp.e4 w2.heap.size 0 1 2 3 (J Y 2) (J Y sb) (J Y xb) (J O gb))
  | (go_at_call 173; refine (HM.out _).mono ?_; rintro e wm ⟨bp, kp, qp, hbp, rfl, hg_wm⟩; skip; obtain ⟨mr0, mrz0⟩ := hg_wm.y1 w.heap.size 0 (J O 0); have mrA0 := kca mr0; have mrB0 := kfa mrz0; obtain ⟨mr1, mrz1⟩ := hg_wm.y1 w.heap.size 1 (J Y 0); have mrA1 := kca mr1; have mrB1 := kfa mrz1; obtain ⟨mp00, mp01, mp02, mp03⟩ := hg_wm.e4 w1.heap.size 0 1 2 3 (J Y ca) (J Y sa) (J Y xa) (J O ga); obtain ⟨mp10, mp11, mp12, mp13⟩ := hg_wm.e4 w2.heap.size 0 1 2 3 (J Y 2) (J Y sb) (J Y xb) (J O gb); have mA0 := kca mp00; have mB0 := kca mp10; have hzm := cell_size mr0)
  | (go_at_call 167; refine (HL.out _).mono ?_; rintro e w9 ⟨rfl, hg_w9⟩; obtain ⟨zr0, zrz0, zr1, zrz1⟩ := hg_w9.y2 w.heap.size 0 1 (J O 0) (J Y 0)))
 refine bodyPost_ret (v := X #[J O z, J Y fl]) (by simp [results, Tryz.results85, go_sem, zr0, zr1]) rfl ⟨rfl, ?_⟩
 exact Gb.g
theorem sMul_zero (f mode a b ca sa xa ga cb sb xb gb : Int) (sp xp : Int) (Gp : Nat) (HF : KW 117 #[J Y f, J Y mode, J O a, J O b] (E true)) (HUa : KR 31 #[J Y f, J O a] (X #[J Y ca, J Y sa, J Y xa, J O ga])) (HUb : KR 31 #[J Y f, J O b] (X #[J Y cb, J Y sb, J Y xb, J O gb])) (HQa : KR 118 #[X #[J Y ca, J Y sa, J Y xa, J O ga]] (E false)) (HQb : KR 118 #[X #[J Y cb, J Y sb, J Y xb, J O gb]] (E false)) (HP : KR 172 #[X #[J Y ca, J Y sa, J Y xa, J O ga], X #[J Y cb, J Y sb, J Y xb, J O gb]] (E false)) (HM : Hid (∀ w, CT 173 #[X #[J Y ca, J Y sa, J Y xa, J O ga], X #[J Y cb, J Y sb, J Y xb, J O gb]] w fun e w' => ∃ bp kp qp, BigN 4 w' (.slice (some ⟨bp, 0, none⟩) kp qp) Gp ∧ e = V (X #[J Y sp, .slice (some ⟨bp, 0, none⟩) kp qp, J Y xp, E false]) ∧ Gb w w')) (e1 : (ca == 2) = false) (e2 : (cb == 2) = false) (hG : Gp = 0) (z fl : Int) (HL : KR 64 #[J Y f, J Y sp] (X #[J O z, J Y fl])) (w : World) :
  QB 85 #[J Y f, J Y mode, J O a, J O b] w (X #[J O z, J Y fl]) := by
 have HG : Hid (Gp = 0) := hG
 clear hG
 go_enter Tryz.func85, Tryz.ntmps85
 go_wp2_with (first
  | (go_at_call 117; refine kw (HF.out _) ?_)
  | (go_at_call 31; first | (with_reducible refine (HUa.out _).mono ?_; rintro e w1 ⟨rfl, hg_w1⟩; obtain ⟨u0r0, u0rz0, u0r1, u0rz1⟩ := hg_w1.y2 w.heap.size 0 1 (J O 0) (J Y 0); have hz0 := cell_size u0r0) | (with_reducible refine (HUb.out _).mono ?_; rintro e w2 ⟨rfl, hg_w2⟩; obtain ⟨u1r0, u1rz0, u1r1, u1rz1⟩ := hg_w2.y2 w.heap.size 0 1 (J O 0) (J Y 0); have u1p00 := hg_w2.e1 w1.heap.size 0 (J Y ca); have u1p0A0 := kca u1p00; have u1p01 := hg_w2.e1 w1.heap.size 1 (J Y sa); have u1p0A1 := kca u1p01; have u1p02 := hg_w2.e1 w1.heap.size 2 (J Y xa); have u1p0A2 := kca u1p02; have u1p03 := hg_w2.e1 w1.heap.size 3 (J O ga); have u1p0A3 := kca u1p03; have hz1 := cell_size u1r0))
  | (go_at_call 118; first | (with_reducible refine (HQa.out _).mono ?_; rintro e va ⟨rfl, hg_va⟩; obtain ⟨qar0, qarz0, qar1, qarz1⟩ := hg_va.y2 w.heap.size 0 1 (J O 0) (J Y 0); obtain ⟨qap00, qap01, qap02, qap03⟩ := hg_va.e4 w1.heap.size 0 1 2 3 (J Y ca) (J Y sa) (J Y xa) (J O ga); obtain ⟨qap10, qap11, qap12, qap13⟩ := hg_va.e4 w2.heap.size 0 1 2 3 (J Y cb) (J Y sb) (J Y xb) (J O gb)) | (with_reducible refine (HQb.out _).mono ?_; rintro e vb ⟨rfl, hg_vb⟩; obtain ⟨qbr0, qbrz0, qbr1, qbrz1⟩ := hg_vb.y2 w.heap.size 0 1 (J O 0) (J Y 0); obtain ⟨qbp00, qbp01, qbp02, qbp03⟩ := hg_vb.e4 w1.heap.size 0 1 2 3 (J Y ca) (J Y sa) (J Y xa) (J O ga); obtain ⟨qbp10, qbp11, qbp12, qbp13⟩ := hg_vb.e4 w2.heap.size 0 1 2 3 (J Y cb) (J Y sb) (J Y xb) (J O gb)))
  | (go_at_call 172; refine (HP.out _).mono ?_; rintro e vp ⟨rfl, hg_vp⟩; obtain ⟨npr0, nprz0, npr1, nprz1⟩ := hg_vp.y2 w.heap.size 0 1 (J O 0) (J Y 0); obtain ⟨npp00, npp01, npp02, npp03⟩ := hg_vp.e4 w1.heap.size 0 1 2 3 (J Y ca) (J Y sa) (J Y xa) (J O ga); obtain ⟨npp10, npp11, npp12, npp13⟩ := hg_vp.e4 w2.heap.size 0 1 2 3 (J Y cb) (J Y sb) (J Y xb) (J O gb))
  | (go_at_call 173; refine (HM.out _).mono ?_; rintro e wm ⟨bp, kp, qp, hbp, rfl, hg_wm⟩; obtain ⟨np, hnp, hbb⟩ := hbp; obtain rfl : kp = 0 := (big_nok hbb HG.out); obtain ⟨mr0, mrz0⟩ := hg_wm.y1 w.heap.size 0 (J O 0); have mrA0 := kca mr0; have mrB0 := kfa mrz0; obtain ⟨mr1, mrz1⟩ := hg_wm.y1 w.heap.size 1 (J Y 0); have mrA1 := kca mr1; have mrB1 := kfa mrz1; obtain ⟨mp00, mp01, mp02, mp03⟩ := hg_wm.e4 w1.heap.size 0 1 2 3 (J Y ca) (J Y sa) (J Y xa) (J O ga); obtain ⟨mp10, mp11, mp12, mp13⟩ := hg_wm.e4 w2.heap.size 0 1 2 3 (J Y cb) (J Y sb) (J Y xb) (J O gb); have mA0 := kca mp00; have mB0 := kca mp10; have hzm := cell_size mr0)
  | (go_at_call 64; refine (HL.out _).mono ?_; rintro e w9 ⟨rfl, hg_w9⟩; obtain ⟨zr0, zrz0, zr1, zrz1⟩ := hg_w9.y2 w.heap.size 0 1 (J O 0) (J Y 0)))
 refine bodyPost_ret (v := X #[J O z, J Y fl]) (by simp [results, Tryz.results85, go_sem, zr0, zr1]) rfl ⟨rfl, ?_⟩
 exact Gb.g
theorem sMul_num (f mode a b ca sa xa ga cb sb xb gb : Int) (sp xp : Int) (Gp : Nat) (HF : KW 117 #[J Y f, J Y mode, J O a, J O b] (E true)) (HUa : KR 31 #[J Y f, J O a] (X #[J Y ca, J Y sa, J Y xa, J O ga])) (HUb : KR 31 #[J Y f, J O b] (X #[J Y cb, J Y sb, J Y xb, J O gb])) (HQa : KR 118 #[X #[J Y ca, J Y sa, J Y xa, J O ga]] (E false)) (HQb : KR 118 #[X #[J Y cb, J Y sb, J Y xb, J O gb]] (E false)) (HP : KR 172 #[X #[J Y ca, J Y sa, J Y xa, J O ga], X #[J Y cb, J Y sb, J Y xb, J O gb]] (E false)) (HM : Hid (∀ w, CT 173 #[X #[J Y ca, J Y sa, J Y xa, J O ga], X #[J Y cb, J Y sb, J Y xb, J O gb]] w fun e w' => ∃ bp kp qp, BigN 4 w' (.slice (some ⟨bp, 0, none⟩) kp qp) Gp ∧ e = V (X #[J Y sp, .slice (some ⟨bp, 0, none⟩) kp qp, J Y xp, E false]) ∧ Gb w w')) (e1 : (ca == 2) = false) (e2 : (cb == 2) = false) (hG : 0 < Gp) (Q : Int → Int → Prop) (HR : Hid (∀ v w, BigN 4 w v Gp → CT 65 #[J Y f, J Y mode, X #[J Y sp, v, J Y xp, E false]] w fun e w' => ∃ z fl, Q z fl ∧ e = V (X #[J O z, J Y fl]) ∧ Gb w w')) (w : World) :
  CT 85 #[J Y f, J Y mode, J O a, J O b] w fun e w' => ∃ z fl, Q z fl ∧ e = V (X #[J O z, J Y fl]) ∧ Gb w w' := by
 have HG : Hid (0 < Gp) := hG
 clear hG
 go_enter Tryz.func85, Tryz.ntmps85
 go_wp2_with (first
  | (go_at_call 117; refine kw (HF.out _) ?_)
  | (go_at_call 31; first | (with_reducible refine (HUa.out _).mono ?_; rintro e w1 ⟨rfl, hg_w1⟩; obtain ⟨u0r0, u0rz0, u0r1, u0rz1⟩ := hg_w1.y2 w.heap.size 0 1 (J O 0) (J Y 0); have hz0 := cell_size u0r0) | (with_reducible refine (HUb.out _).mono ?_; rintro e w2 ⟨rfl, hg_w2⟩; obtain ⟨u1r0, u1rz0, u1r1, u1rz1⟩ := hg_w2.y2 w.heap.size 0 1 (J O 0) (J Y 0); have u1p00 := hg_w2.e1 w1.heap.size 0 (J Y ca); have u1p0A0 := kca u1p00; have u1p01 := hg_w2.e1 w1.heap.size 1 (J Y sa); have u1p0A1 := kca u1p01; have u1p02 := hg_w2.e1 w1.heap.size 2 (J Y xa); have u1p0A2 := kca u1p02; have u1p03 := hg_w2.e1 w1.heap.size 3 (J O ga); have u1p0A3 := kca u1p03; have hz1 := cell_size u1r0))
  | (go_at_call 118; first | (with_reducible refine (HQa.out _).mono ?_; rintro e va ⟨rfl, hg_va⟩; obtain ⟨qar0, qarz0, qar1, qarz1⟩ := hg_va.y2 w.heap.size 0 1 (J O 0) (J Y 0); obtain ⟨qap00, qap01, qap02, qap03⟩ := hg_va.e4 w1.heap.size 0 1 2 3 (J Y ca) (J Y sa) (J Y xa) (J O ga); obtain ⟨qap10, qap11, qap12, qap13⟩ := hg_va.e4 w2.heap.size 0 1 2 3 (J Y cb) (J Y sb) (J Y xb) (J O gb)) | (with_reducible refine (HQb.out _).mono ?_; rintro e vb ⟨rfl, hg_vb⟩; obtain ⟨qbr0, qbrz0, qbr1, qbrz1⟩ := hg_vb.y2 w.heap.size 0 1 (J O 0) (J Y 0); obtain ⟨qbp00, qbp01, qbp02, qbp03⟩ := hg_vb.e4 w1.heap.size 0 1 2 3 (J Y ca) (J Y sa) (J Y xa) (J O ga); obtain ⟨qbp10, qbp11, qbp12, qbp13⟩ := hg_vb.e4 w2.heap.size 0 1 2 3 (J Y cb) (J Y sb) (J Y xb) (J O gb)))
  | (go_at_call 172; refine (HP.out _).mono ?_; rintro e vp ⟨rfl, hg_vp⟩; obtain ⟨npr0, nprz0, npr1, nprz1⟩ := hg_vp.y2 w.heap.size 0 1 (J O 0) (J Y 0); obtain ⟨npp00, npp01, npp02, npp03⟩ := hg_vp.e4 w1.heap.size 0 1 2 3 (J Y ca) (J Y sa) (J Y xa) (J O ga); obtain ⟨npp10, npp11, npp12, npp13⟩ := hg_vp.e4 w2.heap.size 0 1 2 3 (J Y cb) (J Y sb) (J Y xb) (J O gb))
  | (go_at_call 173; refine (HM.out _).mono ?_; rintro e wm ⟨bp, kp, qp, hbp, rfl, hg_wm⟩; have hk0 : (((kp : Nat) : Int) == 0) = false := (by have := bigN_zk hbp; rw [this]; exact decide_eq_false (by have := HG.out; omega)); obtain ⟨mr0, mrz0⟩ := hg_wm.y1 w.heap.size 0 (J O 0); have mrA0 := kca mr0; have mrB0 := kfa mrz0; obtain ⟨mr1, mrz1⟩ := hg_wm.y1 w.heap.size 1 (J Y 0); have mrA1 := kca mr1; have mrB1 := kfa mrz1; obtain ⟨mp00, mp01, mp02, mp03⟩ := hg_wm.e4 w1.heap.size 0 1 2 3 (J Y ca) (J Y sa) (J Y xa) (J O ga); obtain ⟨mp10, mp11, mp12, mp13⟩ := hg_wm.e4 w2.heap.size 0 1 2 3 (J Y cb) (J Y sb) (J Y xb) (J O gb); have mA0 := kca mp00; have mB0 := kca mp10; have hzm := cell_size mr0)
  | (go_at_call 65; refine (HR.out _ _ (BigN.gb hbp Gb.g)).mono ?_; rintro e w9 ⟨z, fl, hq, rfl, hg_w9⟩; obtain ⟨zr0, zrz0, zr1, zrz1⟩ := hg_w9.y2 w.heap.size 0 1 (J O 0) (J Y 0)))
 refine bodyPost_ret (v := X #[J O z, J Y fl]) (by simp [results, Tryz.results85, go_sem, zr0, zr1]) rfl ⟨z, fl, hq, rfl, ?_⟩
 exact Gb.g
def mulO (mode : Int) (x y : Opd) : Opd := prodO x y
theorem implMul_any (f mode a b : Int) (a0 : 0 ≤ a) (a1 : a < 18446744073709551616) (b0 : 0 ≤ b) (b1 : b < 18446744073709551616) (w : World) (hw : Fm w) :
  CT 86 #[J Y f, J Y mode, J O a, J O b] w fun e w' => ∃ Z fl, OpR mulO f mode a b Z fl ∧ e = V (X #[J O Z, J Y fl]) ∧ Gr w w' := by
 refine implMul_of f mode a b (OpR mulO f mode a b) (fun w' hg => ?_)
 have hw' := hw.gr hg
 by_cases hf : f = 0 ∨ f = 1
 ·obtain ⟨p, mx, one, inf, sg, nan, hF⟩ := fmt_of f hf
  obtain ⟨mn, fb, sp, hM, hmn, hfb⟩ := hF.m
  by_cases hm : 0 ≤ mode ∧ mode ≤ 4
  ·obtain ⟨k, hk⟩ := rule_of mode hm.1 hm.2
   obtain ⟨x, hx, HA⟩ := opd_is hF hM a a0 a1
   obtain ⟨y, hy, HB⟩ := opd_is hF hM b b0 b1
   obtain ⟨v1, v2, v3, v4, v5, v6⟩ := opd_vo hF hx
   obtain ⟨u1, u2, u3, u4, u5, u6⟩ := opd_vo hF hy
   refine (calc_ok p mn mx mode f k 174 a b _ _ _ _ _ _ _ _ _ _ _ _ (fun w'' hg' => settingOf_yes hF hM mode k (fun w => ruleOf_yes mode k hk w) (hw'.gr hg')) HA HB (SameV (mulO mode x y)) (fun w => (combine_product_any p mn mx mode k x y v1 u1 (by omega) (by omega) w).mono (fun e w' ⟨he, hg⟩ => ⟨_, _, _, _, _, _, (prodO_vo v1 u1 v6 u6 v4 v5 u4 u5).same, he, hg⟩)) (PackIs p mn mx one inf sg nan mode (mulO mode x y)) (fun os oe oc oh ol ot w hq => pack_any hM mode k hk _ os oe oc oh ol ot hq w)).mono ?_
   rintro e w'' ⟨Z, fl, hp, rfl, hg'⟩
   rw [hmn] at hp
   exact ⟨_, _, .inl ⟨p, mx, one, inf, sg, nan, x, y, hF, hm, hx, hy, hp⟩, rfl, hg'⟩
  ·refine (calc_no p mn mx mode nan f mode a b (fun w'' hg' => settingOf_bad hF hM mode (fun w => ruleOf_no mode (by omega) w) (hw'.gr hg')) (fun w => invalid_any hM w) 174).mono ?_
   rintro e w'' ⟨rfl, hg'⟩
   exact ⟨_, _, .inr (.inl ⟨p, mx, one, inf, sg, nan, hF, by omega, rfl, rfl⟩), rfl, hg'⟩
 ·refine (calc_no _ _ _ _ _ f mode a b (fun w'' hg' => settingOf_none f mode hf (hw'.gr hg')) (fun w => invalid_any m64 w) 174).mono ?_
  rintro e w'' ⟨rfl, hg'⟩
  exact ⟨_, _, .inr (.inr ⟨hf, rfl, rfl⟩), rfl, hg'⟩
theorem specMul_ok {f p mx one inf sg nan : Int} (h : IsFmt f p mx one inf sg nan) (mode a b : Int) (hm : 0 ≤ mode ∧ mode ≤ 4) (a0 : 0 ≤ a) (a1 : a < 18446744073709551616) (b0 : 0 ≤ b) (b1 : b < 18446744073709551616) {x y : Opd} (hx : OpdIs p mx one inf sg nan a x) (hy : OpdIs p mx one inf sg nan b y) (w : World) :
  CT 85 #[J Y f, J Y mode, J O a, J O b] w fun e w' => ∃ Z fl, PackIs p (1 - mx) mx one inf sg nan mode (mulO mode x y) Z fl ∧ e = V (X #[J O Z, J Y fl]) ∧ Gb w w' := by
 obtain ⟨v1, v2, v3, v4, v5, v6⟩ := opd_vo h hx
 obtain ⟨u1, u2, u3, u4, u5, u6⟩ := opd_vo h hy
 have xc0 := v1.c0
 have xc4 := v1.c4
 have yc0 := u1.c0
 have yc4 := u1.c4
 have hms : mulS x.s y.s = 0 ∨ mulS x.s y.s = 1 := by unfold mulS; split <;> simp
 unfold mulO
 by_cases hfit : a < 2 * sg ∧ b < 2 * sg
 ·obtain ⟨fa, fb'⟩ := hfit
  have HF : KW 117 #[J Y f, J Y mode, J O a, J O b] (E true) := fun w => l3Fits_yes h mode a b hm.1 hm.2 a0 fa b0 fb' w
  have HUa := unp_det h a a0 fa hx
  have HUb := unp_det h b b0 fb' hy
  have HQ : ∀ (z : Opd) (t : Bool), t = decide (3 ≤ z.c) → KR 118 #[X #[J Y z.c, J Y z.s, J Y z.e, J O (((z.M : Nat) : Int))]] (E t) := fun z t ht w => l3Quiet_any _ _ _ _ t ht w
  have HNan : ∀ t : Bool, KR 119 #[J Y f, E t] (X #[J O nan, J Y (if t then 1 else 0)]) := fun t w => l3Nan_any h t _ rfl w
  by_cases c1 : 3 ≤ x.c
  ·rw [prodO_nan x y (by omega)]
   by_cases c2 : x.c = 4
   ·refine (sMul_nan1 f mode a b _ _ _ _ _ _ _ _ HF HUa HUb (HQ x true (by simp [c1])) (by simp [c2]) nan _ (HNan true) w).mono ?_
    rintro e w' ⟨rfl, hg⟩
    exact ⟨_, _, nan_pack _ true (by simp; omega) (by omega) (by omega), rfl, hg⟩
   ·refine (sMul_nan2 f mode a b _ _ _ _ _ _ _ _ HF HUa HUb (HQ x true (by simp [c1])) (by simp [c2]) (decide (y.c = 4)) (bq _ _) nan _ (HNan _) w).mono ?_
    rintro e w' ⟨rfl, hg⟩
    exact ⟨_, _, nan_pack _ _ (by rw [decide_eq_decide]; omega) (by omega) (by omega), rfl, hg⟩
  ·by_cases c2 : 3 ≤ y.c
   ·rw [prodO_nan x y (by omega)]
    refine (sMul_nan3 f mode a b _ _ _ _ _ _ _ _ HF HUa HUb (HQ x false (by simp; omega)) (HQ y true (by simp [c2])) (by simp; omega) (decide (y.c = 4)) (bq _ _) nan _ (HNan _) w).mono ?_
    rintro e w' ⟨rfl, hg⟩
    exact ⟨_, _, nan_pack _ _ (by rw [decide_eq_decide]; omega) (by omega) (by omega), rfl, hg⟩
   ·have hQa := HQ x false (by simp; omega)
    have hQb := HQ y false (by simp; omega)
    have HPr : ∀ t : Bool, t = decide (x.c = 2 ∧ y.c = 0 ∨ x.c = 0 ∧ y.c = 2) → KR 172 #[X #[J Y x.c, J Y x.s, J Y x.e, J O (((x.M : Nat) : Int))], X #[J Y y.c, J Y y.s, J Y y.e, J O (((y.M : Nat) : Int))]] (E t) := fun t ht w => l3NoProduct_any _ _ _ _ _ _ _ _ t ht w
    have HM : Hid (∀ w, CT 173 #[X #[J Y x.c, J Y x.s, J Y x.e, J O (((x.M : Nat) : Int))], X #[J Y y.c, J Y y.s, J Y y.e, J O (((y.M : Nat) : Int))]] w fun e w' => ∃ b k cc, BigN 4 w' (.slice (some ⟨b, 0, none⟩) k cc) (x.M * y.M) ∧ e = V (X #[J Y (mulS x.s y.s), .slice (some ⟨b, 0, none⟩) k cc, J Y (x.e + y.e), E false]) ∧ Gb w w') := fun w => l3Product_any _ _ _ _ _ _ x.M y.M (by omega) (by omega) v1.s01 u1.s01 (by omega) (by omega) (by omega) (by omega) w
    unfold prodO
    rw [if_neg (show ¬ 3 ≤ max x.c y.c by omega)]
    by_cases c3 : x.c = 2 ∧ y.c = 0 ∨ x.c = 0 ∧ y.c = 2
    ·rw [if_pos (show min x.c y.c = 0 ∧ max x.c y.c = 2 by omega)]
     refine (sMul_no f mode a b _ _ _ _ _ _ _ _ HF HUa HUb hQa hQb (HPr true (by simp [c3])) nan 1 (fun w => l2Bad_fmt h w) w).mono ?_
     rintro e w' ⟨rfl, hg⟩
     exact ⟨_, _, bad_nan rfl, rfl, hg⟩
    ·have hP := HPr false (decide_eq_false c3).symm
     rw [if_neg (show ¬ (min x.c y.c = 0 ∧ max x.c y.c = 2) by omega)]
     by_cases c4 : x.c = 2
     ·rw [if_neg (show ¬ min x.c y.c = 0 by omega), if_pos (show max x.c y.c = 2 by omega)]
      refine (sMul_inf1 f mode a b _ _ _ _ _ _ _ _ _ _ _ HF HUa HUb hQa hQb hP HM c4 (sw (mulS x.s y.s) sg inf) 0 (fun w => l3Infinity_any h _ hms w) w).mono ?_
      rintro e w' ⟨rfl, hg⟩
      exact ⟨_, _, .inr (.inr (.inl ⟨rfl, rfl, rfl⟩)), rfl, hg⟩
     ·by_cases c5 : y.c = 2
      ·rw [if_neg (show ¬ min x.c y.c = 0 by omega), if_pos (show max x.c y.c = 2 by omega)]
       refine (sMul_inf2 f mode a b _ _ _ _ _ _ _ _ _ _ _ HF HUa HUb hQa hQb hP HM (by simp [c4]) c5 (sw (mulS x.s y.s) sg inf) 0 (fun w => l3Infinity_any h _ hms w) w).mono ?_
       rintro e w' ⟨rfl, hg⟩
       exact ⟨_, _, .inr (.inr (.inl ⟨rfl, rfl, rfl⟩)), rfl, hg⟩
      ·by_cases c6 : min x.c y.c = 0
       ·rw [if_pos c6]
        have hz : x.M * y.M = 0 := by
         rcases (show x.c = 0 ∨ y.c = 0 by omega) with c | c
         ·rw [v3 (by omega), Nat.zero_mul]
         ·rw [u3 (by omega), Nat.mul_zero]
        refine (sMul_zero f mode a b _ _ _ _ _ _ _ _ _ _ _ HF HUa HUb hQa hQb hP HM (by simp [c4]) (by simp [c5]) hz (sw (mulS x.s y.s) sg 0) 0 (fun w => l3Zero_any h _ hms w) w).mono ?_
        rintro e w' ⟨rfl, hg⟩
        exact ⟨_, _, .inl ⟨rfl, rfl, rfl⟩, rfl, hg⟩
       ·rw [if_neg c6, if_neg (show ¬ max x.c y.c = 2 by omega)]
        have ex := (v1.fin (by omega)).1
        have ey := (u1.fin (by omega)).1
        have hpos : 0 < x.M * y.M := Nat.mul_pos ex ey
        exact sMul_num f mode a b _ _ _ _ _ _ _ _ _ _ _ HF HUa HUb hQa hQb hP HM (by simp [c4]) (by simp [c5]) hpos _ (fun v w hB => round_at h mode hm.1 hm.2 ⟨1, mulS x.s y.s, x.e + y.e, x.M * y.M⟩ rfl hms hpos (by dsimp only; omega) (by dsimp only; omega) 4 (by omega) v w hB) w
 ·refine (sMul_bad f mode a b (fun w => l3Fits_no f mode a b a0 a1 b0 b1 (nofit_of h a1 b1 (by omega)) w) nan 1 (fun w => l2Bad_fmt h w) w).mono ?_
  rintro e w' ⟨rfl, hg⟩
  refine ⟨_, _, ?_, rfl, hg⟩
  have : max x.c y.c = 4 := by
   rcases (show 2 * sg ≤ a ∨ 2 * sg ≤ b by omega) with c | c
   ·have := opd_wide h hx c; subst this; dsimp only at *; omega
   ·have := opd_wide h hy c; subst this; dsimp only at *; omega
  rw [prodO_nan x y (by omega)]
  exact bad_nan this
theorem specMul_any (f mode a b : Int) (a0 : 0 ≤ a) (a1 : a < 18446744073709551616) (b0 : 0 ≤ b) (b1 : b < 18446744073709551616) (w : World) :
  CT 85 #[J Y f, J Y mode, J O a, J O b] w fun e w' => ∃ Z fl, OpR mulO f mode a b Z fl ∧ e = V (X #[J O Z, J Y fl]) ∧ Gb w w' := by
 by_cases hf : f = 0 ∨ f = 1
 ·obtain ⟨p, mx, one, inf, sg, nan, hF⟩ := fmt_of f hf
  by_cases hm : 0 ≤ mode ∧ mode ≤ 4
  ·obtain ⟨x, hx⟩ := opd_ex hF a a0 a1
   obtain ⟨y, hy⟩ := opd_ex hF b b0 b1
   refine (specMul_ok hF mode a b hm a0 a1 b0 b1 hx hy w).mono ?_
   rintro e w' ⟨Z, fl, hp, rfl, hg⟩
   exact ⟨_, _, .inl ⟨p, mx, one, inf, sg, nan, x, y, hF, hm, hx, hy, hp⟩, rfl, hg⟩
  ·refine (sMul_bad f mode a b (fun w => l3Fits_no f mode a b a0 a1 b0 b1 (.inl (by omega)) w) nan 1 (fun w => l2Bad_fmt hF w) w).mono ?_
   rintro e w' ⟨rfl, hg⟩
   exact ⟨_, _, .inr (.inl ⟨p, mx, one, inf, sg, nan, hF, by omega, rfl, rfl⟩), rfl, hg⟩
 ·refine (sMul_bad f mode a b (fun w => l3Fits_no f mode a b a0 a1 b0 b1 (.inr (.inl hf)) w) _ 1 (fun w => l2Bad_no f hf w) w).mono ?_
  rintro e w' ⟨rfl, hg⟩
  exact ⟨_, _, .inr (.inr ⟨hf, rfl, rfl⟩), rfl, hg⟩
theorem prodO_c (mode : Int) (x y : Opd) (hx : VO x) (hy : VO y) (h1 : nb x.M ≤ 53) (h2 : nb y.M ≤ 53) (h3 : -2000 ≤ x.e) (h4 : x.e ≤ 2000) (h5 : -2000 ≤ y.e) (h6 : y.e ≤ 2000) : 0 ≤ (mulO mode x y).c ∧ (mulO mode x y).c ≤ 4 := ⟨(prodO_vo hx hy h1 h2 h3 h4 h5 h6).c0, (prodO_vo hx hy h1 h2 h3 h4 h5 h6).c4⟩
theorem mul_same (f mode a b : Int) (a0 : 0 ≤ a) (a1 : a < 18446744073709551616) (b0 : 0 ≤ b) (b1 : b < 18446744073709551616) :
  ∃ Z fl : Int, OpR mulO f mode a b Z fl ∧ (∀ w, QB 85 #[J Y f, J Y mode, J O a, J O b] w (X #[J O Z, J Y fl])) ∧
   (∀ w, Fm w → QR 86 #[J Y f, J Y mode, J O a, J O b] w (X #[J O Z, J Y fl])) :=
 both_of mulO 85 86 prodO_c f mode a b a0 a1 b0 b1 (specMul_any f mode a b a0 a1 b0 b1) (implMul_any f mode a b a0 a1 b0 b1)
end Go.Proofs.YtnbbfeknbfohhaaGreatDoor
