import Derived.Test.YtnbbfeknbfohhaaGreatDoorX0
import Derived.Laws.MakeOwn
import Derived.Deep.OwnRows
import Derived.Test.YtnbbfeknbfohhaaGreatDoorB0
import Derived.Deep.RegionHeld3
import Derived.Deep.DeepCutAuto
import Derived.Deep.Cut
set_option linter.unusedVariables false
set_option linter.unusedSimpArgs false
open Go.Value renaming int → J
open Go.IntKind renaming i64 → Y, u64 → Z
open Go.Proofs.Tryz
namespace Go.Proofs.YtnbbfeknbfohhaaGreatDoor
open Go.RowKit
theorem nD (ty t : TypeId) (z : Value) (size bytes : Nat) (hty : Tryz.prog.underlying ty = some (.slice t)) (oM : (Tryz.prog.info? t).map (fun i => (i.zero, i.size, i.bytes)) = some (some z, size, bytes)) (hby : bytes ≤ 1000) (n : Nat) (hn : n ≤ 10000000) (w : World) :
  (Instr.makeSlice ty (J Y (n : Int)) (J Y (n : Int))).run Tryz.prog w = .ok (.slice (some ⟨w.heap.size, 0, none⟩) n n) (w.alloc (.cells (madeCells z.cells (n * size)) t)) := by
 obtain ⟨i, hi, hz, hs, hb⟩ := info_parts oM
 have hb' : (i.bytes : Int) * (n : Int) ≤ 281474976710656 := by
  have h : i.bytes * n ≤ 1000 * 10000000 := Nat.mul_le_mul om hn
  have h' : ((i.bytes * n : Nat) : Int) ≤ 281474976710656 := om
  rwa [Int.natCast_mul] at h'
 have hr := run_make (P := Tryz.prog) w ty t i z hty hi hz Y Y n n om (Int.le_refl _) hb' om
 simp only [Int.toNat_natCast, hs] at hr
 exact hr
theorem Qg (z : Array Value) (k : IntKind) (hz : ∀ j, z[j % z.size]! = J k 0) (m : Nat) : (madeCells z m).toList = uv k m (fun _ => 0) := by
 unfold madeCells uv
 simp [hz]
theorem Ow.made (w : World) (t : TypeId) (size : Nat) (z : Array Value) (k : IntKind) (hz : ∀ j, z[j % z.size]! = J k 0) (n : Nat) (hn : n ≤ 10000000) : Ow (w.alloc (.cells (madeCells z (n * size)) t)) w.heap.size t size k (.slice (some ⟨w.heap.size, 0, none⟩) n n) n (fun _ => 0) := by
 have := World.ownsRow_lit (base := w.heap.size) (e := t) (size := size) w (madeCells z (n * size)) n (Nat.le_refl _) (by unfold maxLen; omega) (size_madeCells _ _)
 rw [Qg z k hz] at this
 exact this
theorem z1 (k : IntKind) : ∀ j, (#[Value.int k 0])[j % (#[Value.int k 0]).size]! = J k 0 := fun j => by
 have : j % (#[Value.int k 0]).size = 0 := Nat.mod_one j
 rw [this]; rfl
theorem z2 (k : IntKind) : ∀ j, (#[Value.int k 0, J k 0])[j % (#[Value.int k 0, J k 0]).size]! = J k 0 := fun j => by
 rcases (show j % 2 = 0 ∨ j % 2 = 1 by omega) with e | e
 ·show (#[Value.int k 0, J k 0])[j % 2]! = _; rw [e]; rfl
 ·show (#[Value.int k 0, J k 0])[j % 2]! = _; rw [e]; rfl
set_option maxRecDepth 1000000
set_option maxHeartbeats 40000000
theorem o_ : ∀ (z fl : Int) (w : World), (Instr.field 41 (.agg #[J Z z, J Y fl]) 0).run Tryz.prog w = .ok (J Z z) w := fun z fl w => by kernel_rfl
theorem JK {o : Ops} (H : o.S) {a b : Int} (ha : Wd a) (hb : Wd b) (w : World) :
  QB 137 #[J Z a, J Z b] w (J Z (o.add a b)) := by
 have hf := o_
 have HA := H.add ha hb
 generalize o.add a b = z at *
 clear ha hb H
 go_enter func137, ntmps137
 go_wp2_with (go_at_call 79; refine (HA.out _).mono ?_; rintro e w1 ⟨fl, rfl, aj⟩)
 go_returns
 exact ⟨rfl, kg⟩
theorem NR {o : Ops} (H : o.S) {a b : Int} (ha : Wd a) (hb : Wd b) (w : World) :
  QB 33 #[J Z a, J Z b] w (J Z (o.sub a b)) := by
 have hf := o_
 have HA := H.sub ha hb
 generalize o.sub a b = z at *
 clear ha hb H
 go_enter func33, ntmps33
 go_wp2_with (go_at_call 82; refine (HA.out _).mono ?_; rintro e w1 ⟨fl, rfl, aj⟩)
 go_returns
 exact ⟨rfl, kg⟩
theorem Dj {o : Ops} (H : o.S) {a b : Int} (ha : Wd a) (hb : Wd b) (w : World) :
  QB 34 #[J Z a, J Z b] w (J Z (o.mul a b)) := by
 have hf := o_
 have HA := H.mul ha hb
 generalize o.mul a b = z at *
 clear ha hb H
 go_enter func34, ntmps34
 go_wp2_with (go_at_call 85; refine (HA.out _).mono ?_; rintro e w1 ⟨fl, rfl, aj⟩)
 go_returns
 exact ⟨rfl, kg⟩
theorem yK {o : Ops} (H : o.S) (n : Int) (n0 : -2047 ≤ n) (n1 : n ≤ 2047) (w : World) :
  QB 109 #[J Y n] w (J Z (o.int n)) := by
 have hf := o_
 have hw : IntKind.u64.wrap n = n % 18446744073709551616 := IntKind.wrap_u64 n
 have HA := H.int n (n % 18446744073709551616) n0 n1 rfl
 generalize o.int n = z at *
 generalize n % 18446744073709551616 = u at *
 clear H
 go_enter func109, ntmps109
 go_wp2_with (go_at_call 19; refine (HA.out _).mono ?_; rintro e w1 ⟨fl, rfl, aj⟩)
 go_returns
 exact ⟨rfl, kg⟩
theorem U7 {o : Ops} (H : o.S) (HI : o.In) (w : World) :
  QB 35 #[] w (J Z 4602678819172646912) := by
 have hf := o_
 have H1 : KB 109 #[J Y 1] (J Z 4607182418800017408) := fun w => by have := yK H 1 om om w; rw [H.one] at this; exact this
 have H2 : KB 109 #[J Y 2] (J Z (o.int 2)) := fun w => yK H 2 om om w
 have HA := H.div sV (HI.int 2)
 rw [H.half] at HA
 generalize o.int 2 = t at *
 clear H HI
 go_enter func35, ntmps35
 go_wp2_with (first
  | (go_at_call 109; first | (with_reducible refine (H1.out _).mono ?_; rintro e w1 ⟨rfl, aj⟩) | (with_reducible refine (H2.out _).mono ?_; rintro e w2 ⟨rfl, ak⟩))
  | (go_at_call 91; refine (HA.out _).mono ?_; rintro e w3 ⟨fl, rfl, aA⟩))
 go_returns
 exact ⟨rfl, kg⟩
theorem ET {a : Int} (ha : Wd a) (w : World) :
  QB 138 #[J Z a] w (J Z (l9 a)) := by
 obtain ⟨p, mx, one, inf, sg, nan, hF⟩ : ∃ p mx one inf sg nan, aI 1 p mx one inf sg nan := ⟨_, _, _, _, _, _, .inr ⟨rfl, rfl, rfl, rfl, rfl, rfl, rfl⟩⟩
 have HT : KW 170 #[J Y 1, J Z a] (J Z (l9 a)) := fun w => by
  rcases hF with ⟨h, _⟩ | ⟨_, rfl, rfl, rfl, rfl, rfl, rfl⟩
  ·omega
  ·exact u_ (.inr ⟨rfl, rfl, rfl, rfl, rfl, rfl, rfl⟩) a (l9 a) ha.1 (by have := ha.2; omega) (by unfold l9; split <;> omega) w
 go_enter func138, ntmps138
 go_wp2_with (go_at_call 170; refine kw (HT.out _) ?_)
 go_returns
 exact ⟨rfl, kg⟩
theorem VG {o : Ops} (H : o.S) {a1 a2 b1 b2 : Int} (ha1 : Wd a1) (ha2 : Wd a2) (hb1 : Wd b1) (hb2 : Wd b2) (w : World) :
  QB 68 #[.agg #[J Z a1, J Z a2], .agg #[J Z b1, J Z b2]] w (.agg #[J Z (o.add a1 b1), J Z (o.add a2 b2)]) := by
 have HP : Hid (∀ a b, Wd a → Wd b → ∀ w', QB 137 #[J Z a, J Z b] w' (J Z (o.add a b))) := fun a b ha hb w' => JK H ha hb w'
 clear H
 go_enter func68, ntmps68
 go_wp2
 go_region_held3 (fun w' => w'.cell? ⟨w.heap.size, 0, none⟩ = some (J Z a1) ∧ w'.cell? ⟨w.heap.size, 1, none⟩ = some (J Z a2) ∧ w'.cell? ⟨w.heap.size + 1, 0, none⟩ = some (J Z b1) ∧ w'.cell? ⟨w.heap.size + 1, 1, none⟩ = some (J Z b2))
  ((go_split_ands; (repeat' apply And.intro) <;> exact kh))
  (first
   | (go_at_call 137; with_reducible refine (HP.out _ _ (by assumption) (by assumption) _).mono ?_; rintro e w1 ⟨rfl, aj⟩; obtain ⟨pa0, vN⟩ := aj.e2 w.heap.size 0 1 (J Z a1) (J Z a2); obtain ⟨ED, Bz⟩ := aj.e2 (w.heap.size + 1) 0 1 (J Z b1) (J Z b2); obtain ⟨lu, iC, lM, iy⟩ := aj.y2 (w.heap.size + 1 + 1) 0 1 (J Z 0) (J Z 0)))
 all_goals
  go_wp2
  refine bodyPost_ret (v := .agg #[J Z (o.add a1 b1), J Z (o.add a2 b2)]) (by simp [results, Tryz.results68, go_sem, lu, lM]) rfl ⟨rfl, ?_⟩
  exact Gb.g
theorem Oa {o : Ops} (H : o.S) {a1 a2 b1 b2 : Int} (ha1 : Wd a1) (ha2 : Wd a2) (hb1 : Wd b1) (hb2 : Wd b2) (w : World) :
  QB 69 #[.agg #[J Z a1, J Z a2], .agg #[J Z b1, J Z b2]] w (.agg #[J Z (o.sub a1 b1), J Z (o.sub a2 b2)]) := by
 have HP : Hid (∀ a b, Wd a → Wd b → ∀ w', QB 33 #[J Z a, J Z b] w' (J Z (o.sub a b))) := fun a b ha hb w' => NR H ha hb w'
 clear H
 go_enter func69, ntmps69
 go_wp2
 go_region_held3 (fun w' => w'.cell? ⟨w.heap.size, 0, none⟩ = some (J Z a1) ∧ w'.cell? ⟨w.heap.size, 1, none⟩ = some (J Z a2) ∧ w'.cell? ⟨w.heap.size + 1, 0, none⟩ = some (J Z b1) ∧ w'.cell? ⟨w.heap.size + 1, 1, none⟩ = some (J Z b2))
  ((go_split_ands; (repeat' apply And.intro) <;> exact kh))
  (first
   | (go_at_call 33; with_reducible refine (HP.out _ _ (by assumption) (by assumption) _).mono ?_; rintro e w1 ⟨rfl, aj⟩; obtain ⟨pa0, vN⟩ := aj.e2 w.heap.size 0 1 (J Z a1) (J Z a2); obtain ⟨ED, Bz⟩ := aj.e2 (w.heap.size + 1) 0 1 (J Z b1) (J Z b2); obtain ⟨lu, iC, lM, iy⟩ := aj.y2 (w.heap.size + 1 + 1) 0 1 (J Z 0) (J Z 0)))
 all_goals
  go_wp2
  refine bodyPost_ret (v := .agg #[J Z (o.sub a1 b1), J Z (o.sub a2 b2)]) (by simp [results, Tryz.results69, go_sem, lu, lM]) rfl ⟨rfl, ?_⟩
  exact Gb.g
theorem Yv {o : Ops} (H : o.S) (HI : o.In) {a1 a2 : Int} (ha1 : Wd a1) (ha2 : Wd a2) (w : World) :
  QB 139 #[.agg #[J Z a1, J Z a2]] w (.agg #[J Z (o.mul a1 4602678819172646912), J Z (o.mul a2 4602678819172646912)]) := by
 have hh := nV
 have HP : Hid (∀ a b, Wd a → Wd b → ∀ w', QB 34 #[J Z a, J Z b] w' (J Z (o.mul a b))) := fun a b ha hb w' => Dj H ha hb w'
 have HH : KB 35 #[] (J Z 4602678819172646912) := fun w' => U7 H HI w'
 clear H HI
 go_enter func139, ntmps139
 go_wp2
 go_region_held3 (fun w' => w'.cell? ⟨w.heap.size, 0, none⟩ = some (J Z a1) ∧ w'.cell? ⟨w.heap.size, 1, none⟩ = some (J Z a2))
  ((go_split_ands; (repeat' apply And.intro) <;> exact kh))
  (first
   | (go_at_call 35; with_reducible refine (HH.out _).mono ?_; rintro e w1 ⟨rfl, aj⟩; obtain ⟨pa0, vN⟩ := aj.e2 w.heap.size 0 1 (J Z a1) (J Z a2); obtain ⟨lu, iC, lM, iy⟩ := aj.y2 (w.heap.size + 1) 0 1 (J Z 0) (J Z 0))
   | (go_at_call 34; with_reducible refine (HP.out _ _ (by assumption) (by assumption) _).mono ?_; rintro e w1 ⟨rfl, aj⟩; obtain ⟨pa0, vN⟩ := aj.e2 w.heap.size 0 1 (J Z a1) (J Z a2); obtain ⟨lu, iC, lM, iy⟩ := aj.y2 (w.heap.size + 1) 0 1 (J Z 0) (J Z 0)))
 all_goals
  go_wp2
  refine bodyPost_ret (v := .agg #[J Z (o.mul a1 4602678819172646912), J Z (o.mul a2 4602678819172646912)]) (by simp [results, Tryz.results139, go_sem, lu, lM]) rfl ⟨rfl, ?_⟩
  exact Gb.g
theorem Ef {o : Ops} (H : o.S) (HI : o.In) {a1 a2 b1 b2 : Int} (ha1 : Wd a1) (ha2 : Wd a2) (hb1 : Wd b1) (hb2 : Wd b2) (w : World) :
  QB 52 #[.agg #[J Z a1, J Z a2], .agg #[J Z b1, J Z b2]] w (.agg #[J Z (o.sub (o.mul a1 b1) (o.mul a2 b2)), J Z (o.add (o.mul a1 b2) (o.mul a2 b1))]) := by
 have h11 := HI.mul ha1 hb1
 have h22 := HI.mul ha2 hb2
 have h12 := HI.mul ha1 hb2
 have h21 := HI.mul ha2 hb1
 have HT : Hid (∀ a b, Wd a → Wd b → ∀ w', QB 34 #[J Z a, J Z b] w' (J Z (o.mul a b))) := fun a b ha hb w' => Dj H ha hb w'
 have HM : KB 33 #[J Z (o.mul a1 b1), J Z (o.mul a2 b2)] (J Z (o.sub (o.mul a1 b1) (o.mul a2 b2))) := fun w' => NR H h11 h22 w'
 have HP : KB 137 #[J Z (o.mul a1 b2), J Z (o.mul a2 b1)] (J Z (o.add (o.mul a1 b2) (o.mul a2 b1))) := fun w' => JK H h12 h21 w'
 clear h11 h22 h12 h21 H HI
 go_enter func52, ntmps52
 go_wp2
 go_region_held3 (fun w' => w'.cell? ⟨w.heap.size, 0, none⟩ = some (J Z a1) ∧ w'.cell? ⟨w.heap.size, 1, none⟩ = some (J Z a2) ∧ w'.cell? ⟨w.heap.size + 1, 0, none⟩ = some (J Z b1) ∧ w'.cell? ⟨w.heap.size + 1, 1, none⟩ = some (J Z b2))
  ((go_split_ands; (repeat' apply And.intro) <;> exact kh))
  (first
   | (go_at_call 34; with_reducible refine (HT.out _ _ (by assumption) (by assumption) _).mono ?_; rintro e w1 ⟨rfl, aj⟩; obtain ⟨pa0, vN⟩ := aj.e2 w.heap.size 0 1 (J Z a1) (J Z a2); obtain ⟨ED, Bz⟩ := aj.e2 (w.heap.size + 1) 0 1 (J Z b1) (J Z b2); obtain ⟨lu, iC, lM, iy⟩ := aj.y2 (w.heap.size + 1 + 1) 0 1 (J Z 0) (J Z 0))
   | (go_at_call 33; with_reducible refine (HM.out _).mono ?_; rintro e w1 ⟨rfl, aj⟩; obtain ⟨pa0, vN⟩ := aj.e2 w.heap.size 0 1 (J Z a1) (J Z a2); obtain ⟨ED, Bz⟩ := aj.e2 (w.heap.size + 1) 0 1 (J Z b1) (J Z b2); obtain ⟨lu, iC, lM, iy⟩ := aj.y2 (w.heap.size + 1 + 1) 0 1 (J Z 0) (J Z 0))
   | (go_at_call 137; with_reducible refine (HP.out _).mono ?_; rintro e w1 ⟨rfl, aj⟩; obtain ⟨pa0, vN⟩ := aj.e2 w.heap.size 0 1 (J Z a1) (J Z a2); obtain ⟨ED, Bz⟩ := aj.e2 (w.heap.size + 1) 0 1 (J Z b1) (J Z b2); obtain ⟨lu, iC, lM, iy⟩ := aj.y2 (w.heap.size + 1 + 1) 0 1 (J Z 0) (J Z 0)))
 all_goals
  go_wp2
  refine bodyPost_ret (v := .agg #[J Z (o.sub (o.mul a1 b1) (o.mul a2 b2)), J Z (o.add (o.mul a1 b2) (o.mul a2 b1))]) (by simp [results, Tryz.results52, go_sem, lu, lM]) rfl ⟨rfl, ?_⟩
  exact Gb.g
theorem zT : (Tryz.prog.info? 46).map (fun i => (i.zero, i.size, i.bytes)) = some (some (.agg #[J Z 0, J Z 0]), 2, 16) := by kernel_rfl
theorem N_ {w : World} {b m : Nat} {k : IntKind} {g : Nat → Int} {x0 x1 x2 x3 : Int} (h0 : w.cell? ⟨b, 0, none⟩ = some (J k x0)) (h1 : w.cell? ⟨b, 1, none⟩ = some (J k x1)) (h2 : w.cell? ⟨b, 2, none⟩ = some (J k x2)) (h3 : w.cell? ⟨b, 3, none⟩ = some (J k x3))
  (e0 : g (m + 0) = x0) (e1 : g (m + 1) = x1) (e2 : g (m + 2) = x2) (e3 : g (m + 3) = x3) : ∀ j, j < 2 * 2 → w.cell? ⟨b, j, none⟩ = some (J k (g (m + j))) := by
 intro j hj
 match j, hj with
 | 0, _ => rw [e0]; exact h0
 | 1, _ => rw [e1]; exact h1
 | 2, _ => rw [e2]; exact h2
 | 3, _ => rw [e3]; exact h3
def AA (o : Ops) (k : Nat) : Prop := ∀ w, CT 67 #[J Y k] w fun e w' => ∃ v, e = .returned v ∧ Ow w' w.heap.size 46 2 Z v (2 ^ (k - 1)) (flat (o.rt k)) ∧ Gb w w'
theorem Pq {o : Ops} (H : o.S) : AA o 1 := by
 intro w
 have H1 : KB 109 #[J Y 1] (J Z 4607182418800017408) := fun w => by have := yK H 1 om om w; rw [H.one] at this; exact this
 clear H
 show CT 67 #[J Y 1] w _
 go_enter func67, ntmps67
 go_wp2_with (go_at_call 109; refine (H1.out _).mono ?_; rintro e w1 ⟨rfl, aj⟩)
 go_returns
 refine ⟨_, rfl, ?_, kg⟩
 have := World.ownsRow_lit (base := w.heap.size) (e := 46) (size := 2) w1 #[J Z 0, J Z 4607182418800017408] 1 aj.size de rfl
 exact this
theorem Jv {o : Ops} (H : o.S) (HI : o.In) (k : Nat) (hk : k + 2 ≤ 6) (IH : AA o (k + 1)) : AA o (k + 2) := by
 intro w
 have H1 : KB 109 #[J Y 1] (J Z 4607182418800017408) := fun w => by have := yK H 1 om om w; rw [H.one] at this; exact this
 have HH : KB 35 #[] (J Z 4602678819172646912) := fun w' => U7 H HI w'
 unfold AA at IH
 have hjj : ((k + 2 : Nat) : Int) - 1 = ((k + 1 : Nat) : Int) := om
 obtain ⟨m, hm⟩ : ∃ m, m = 2 ^ k := ⟨_, rfl⟩
 have hm1 : 0 < m := by rw [hm]; exact Nat.pow_pos de
 have hm2 : m ≤ 64 := by
  rw [hm]
  have := Nat.pow_le_pow_right (show 0 < 2 by decide) (show k ≤ 6 by omega)
  omega
 have HM : Hid _ := hm
 have hIH : Hid (∀ w', CT 67 #[J Y ((k : Int) + 2 - 1)] w' fun e w'' => ∃ b cap, e = .returned (.slice (some ⟨b, 0, none⟩) m cap) ∧ w'.heap.size ≤ b ∧ b < w''.heap.size ∧ (∀ j, j < m * 2 → w''.cell? ⟨b, j, none⟩ = some (J Z (flat (o.rt (k + 1)) j))) ∧ Gb w' w'') := fun w' => by
  rw [show (k : Int) + 2 - 1 = ((k + 1 : Nat) : Int) by omega]
  refine (IH w').mono fun e w'' ⟨v, e1, e2, e3⟩ => ?_
  rw [show k + 1 - 1 = k by omega, ← hm] at e2
  obtain ⟨b, cap, rfl, c1, c2, _, _, c3⟩ := e2.at hm1
  exact ⟨b, cap, e1, c1, c2, fun j hj => (c3 j hj).1, e3⟩
 have HPl : Hid (∀ a b, Wd a → Wd b → ∀ w', QB 137 #[J Z a, J Z b] w' (J Z (o.add a b))) := fun a b ha hb w' => JK H ha hb w'
 have YJ : Hid (∀ a b, Wd a → Wd b → ∀ w', QB 34 #[J Z a, J Z b] w' (J Z (o.mul a b))) := fun a b ha hb w' => Dj H ha hb w'
 have WI : Hid (∀ a, Wd a → ∀ w', CT 94 #[J Y 1, J Y 0, J Z a] w' fun e w'' => ∃ fl : Int, e = .returned (.agg #[J Z (o.sqrt a), J Y fl]) ∧ Gb w' w'') := fun a ha w' => (H.sqrt ha).out w'
 have HDv : Hid (∀ a b, Wd a → Wd b → ∀ w', CT 91 #[J Y 1, J Y 0, J Z a, J Z b] w' fun e w'' => ∃ fl : Int, e = .returned (.agg #[J Z (o.div a b), J Y fl]) ∧ Gb w' w'') := fun a b ha hb w' => (H.div ha hb).out w'
 have HTn : Hid (∀ a, Wd a → ∀ w', QB 138 #[J Z a] w' (J Z (l9 a))) := fun a ha w' => ET ha w'
 have hf := o_
 have HW : Hid _ := HI
 clear hm IH H HI
 have k1 : ¬ (k : Int) + 2 < 1 := om
 have k2 : ¬ (6 : Int) < (k : Int) + 2 := om
 have k3 : ((k : Int) + 2 == 1) = false := by simp; omega
 go_enter func67, ntmps67
 go_wp2_with (go_at_call 67; with_reducible refine (hIH.out _).mono ?_; rintro e w2 ⟨b, cap, rfl, hb0, hb1, hbc, ak⟩)
 have hsz := ak.size
 simp only [World.size_alloc] at hsz hb0
 go_loopw [3, 5] (fun f i wr => ∃ j : Nat, j ≤ m ∧ i = J Y j ∧ Ow wr w.heap.size 46 2 Z f (2 * j) (flat (o.rt (k + 2))) ∧ f.ownBlock ≠ some b ∧ b < wr.heap.size ∧ Hid (∀ q, q < m * 2 → wr.cell? ⟨b, q, none⟩ = some (J Z (flat (o.rt (k + 1)) q))) ∧ Gb w wr) (fun _ i _ => m - (intOf i).toNat)
 case atStart => exact ⟨0, Nat.zero_le _, rfl, Ow.gb (Ow.lit w _ _ _ _) ak, (by simp only [Value.ownBlock, ne_eq, Option.some.injEq]; omega), hb1, hbc, kg⟩
 case round =>
  obtain ⟨j, hj, rfl, hof, hne, hbr, HBC, hgb⟩ := hrel
  have HO : Hid _ := hof
  have HNE : Hid _ := hne
  have hzr := hgb.size
  clear hof hne
  by_cases hjm : j < m
  ·have vw : (j : Int) < (m : Int) := om
   obtain ⟨a1, ha1⟩ : ∃ a1, a1 = (o.rt (k + 1) j).1 := ⟨_, rfl⟩
   obtain ⟨a2, ha2⟩ : ∃ a2, a2 = (o.rt (k + 1) j).2 := ⟨_, rfl⟩
   have q0 : wr.cell? ⟨b, j * 2, none⟩ = some (J Z a1) := by rw [ha1, ← aZ, Nat.mul_comm]; exact HBC.out (2 * j) om
   have q1 : wr.cell? ⟨b, j * 2 + 1, none⟩ = some (J Z a2) := by rw [ha2, ← bC, Nat.mul_comm]; exact HBC.out (2 * j + 1) om
   have wa1 : Wd a1 := by rw [ha1]; exact (HW.out.rt _ _).1
   have wa2 : Wd a2 := by rw [ha2]; exact (HW.out.rt _ _).2
   have wo := sV
   have wh := nV
   obtain ⟨s, hs⟩ : ∃ s, o.add uS a1 = s := ⟨_, rfl⟩
   have ws := HW.out.add wo wa1
   rw [hs] at ws
   obtain ⟨t, ht⟩ : ∃ t, o.mul s jJ = t := ⟨_, rfl⟩
   have wt := HW.out.mul ws wh
   rw [ht] at wt
   obtain ⟨r, hr⟩ : ∃ r, o.sqrt t = r := ⟨_, rfl⟩
   have wr1 := HW.out.sqrt wt
   rw [hr] at wr1
   obtain ⟨y, hy⟩ : ∃ y, o.add r r = y := ⟨_, rfl⟩
   have wy := HW.out.add wr1 wr1
   rw [hy] at wy
   obtain ⟨x, hx⟩ : ∃ x, o.div a2 y = x := ⟨_, rfl⟩
   have wx := HW.out.div wa2 wy
   rw [hx] at wx
   have H2 := HPl.out _ _ wo wa1
   rw [hs] at H2
   have H3 := YJ.out _ _ ws wh
   rw [ht] at H3
   have H4 := WI.out _ wt
   rw [hr] at H4
   have H5 := HPl.out _ _ wr1 wr1
   rw [hy] at H5
   have H6 := HDv.out _ _ wa2 wy
   rw [hx] at H6
   have H7 := HTn.out _ wr1
   have H8 := HTn.out _ wx
   have G2 : Hid _ := H2
   have G3 : Hid _ := H3
   have G4 : Hid _ := H4
   have G5 : Hid _ := H5
   have G6 : Hid _ := H6
   have G7 : Hid _ := H7
   have G8 : Hid _ := H8
   have er : o.root (o.rt (k + 1) j) = (r, x) := by
    unfold Ops.root Ops.j_
    rw [← ha1, ← ha2, hs, ht, hr, hy, hx]
   have r0 : o.rt (k + 2) (2 * j) = (r, x) := by
    simp only [Ops.rt]; rw [if_pos om, show 2 * j / 2 = j by omega, er]
   have r1 : o.rt (k + 2) (2 * j + 1) = (l9 r, l9 x) := by
    simp only [Ops.rt]; rw [if_neg om, show (2 * j + 1) / 2 = j by omega, er]; rfl
   have e0 : Hid (flat (o.rt (k + 2)) (2 * j * 2 + 0) = r) := by show _ = _; rw [show 2 * j * 2 + 0 = 2 * (2 * j) by omega, aZ, r0]
   have e1 : Hid (flat (o.rt (k + 2)) (2 * j * 2 + 1) = x) := by show _ = _; rw [show 2 * j * 2 + 1 = 2 * (2 * j) + 1 by omega, bC, r0]
   have e2 : Hid (flat (o.rt (k + 2)) (2 * j * 2 + 2) = l9 r) := by show _ = _; rw [show 2 * j * 2 + 2 = 2 * (2 * j + 1) by omega, aZ, r1]
   have e3 : Hid (flat (o.rt (k + 2)) (2 * j * 2 + 3) = l9 x) := by show _ = _; rw [show 2 * j * 2 + 3 = 2 * (2 * j + 1) + 1 by omega, bC, r1]
   generalize l9 r = t1 at *
   generalize l9 x = t2 at *
   clear H2 H3 H4 H5 H6 H7 H8 er r0 r1 hs ht hr hy hx ws wt wr1 wy wx wa1 wa2 wo wh ha1 ha2 HPl YJ WI HDv HTn
   go_wp2
   go_region_held3 (fun w' => w'.cell? ⟨wr.heap.size, 0, none⟩ = some (J Z a1) ∧ w'.cell? ⟨wr.heap.size, 1, none⟩ = some (J Z a2))
    ((go_split_ands; (repeat' apply And.intro) <;> exact kh))
    (first
     | (go_at_call 109; with_reducible refine (H1.out _).mono ?_; rintro e w3 ⟨rfl, aA⟩)
     | (go_at_call 137; with_reducible refine (G2.out _).mono ?_; rintro e w3 ⟨rfl, aA⟩)
     | (go_at_call 35; with_reducible refine (HH.out _).mono ?_; rintro e w3 ⟨rfl, aA⟩)
     | (go_at_call 34; with_reducible refine (G3.out _).mono ?_; rintro e w3 ⟨rfl, aA⟩)
     | (go_at_call 94; with_reducible refine (G4.out _).mono ?_; rintro e w3 ⟨fl, rfl, aA⟩))
   all_goals
    (try go_split_ands)
    go_wp2
    go_region_held3 (fun w' => w'.cell? ⟨wr.heap.size, 0, none⟩ = some (J Z a1) ∧ w'.cell? ⟨wr.heap.size, 1, none⟩ = some (J Z a2))
     ((go_split_ands; (repeat' apply And.intro) <;> exact kh))
     (first
      | (go_at_call 137; with_reducible refine (G5.out _).mono ?_; rintro e w4 ⟨rfl, aF⟩)
      | (go_at_call 91; with_reducible refine (G6.out _).mono ?_; rintro e w4 ⟨fl2, rfl, aF⟩))
    all_goals
     go_wp2_with (first
      | (go_at_call 138; first | (with_reducible refine (G7.out _).mono ?_; rintro e w5 ⟨rfl, aJ⟩) | (with_reducible refine (G8.out _).mono ?_; rintro e w6 ⟨rfl, fK⟩; have hGO : Gb wr w6 := kg; have hz6 := hGO.size))
      | (at_builtin; refine lJ rfl _ _ 43 rfl 46 (.agg #[J Z 0, J Z 0]) 2 16 Z Tryz.underlying43 zT rfl de de w.heap.size (2 * j) 2 (flat (o.rt (k + 2))) _ w6.heap.size rfl (Ow.alloc (Ow.gb HO.out hGO) _) rfl (N_ (by simp [go_sem]) (by simp [go_sem]) (by simp [go_sem]) (by simp [go_sem]) e0.out e1.out e2.out e3.out) om om (by simp [go_sem]; omega) ?_; intro v' w7 aCs hb7 hk7 aD6))
     go_roundw
     case rel =>
      refine ⟨j + 1, om, by go_num, aCs, ?_, ?_, ?_, Gb.below kg hb7 (Nat.le_refl _)⟩
      ·rcases aD6 with e | e
       ·rw [e]; exact HNE.out
       ·rw [e]; simp [go_sem]; omega
      ·have := hb7.size; simp only [World.size_alloc] at this; omega
      ·exact fun q hq => hk7 _ _ _ (dH _ (hGO.old (HBC.out q hq))) HNE.out
     case measure => simp [intOf] <;> omega
  ·obtain rfl : j = m := om
   have vw : ¬ (j : Int) < (j : Int) := om
   go_wp2
   go_returns
   refine ⟨_, rfl, ?_, hgb⟩
   have e2m : 2 * j = 2 ^ (k + 1) := by have := HM.out; rw [Nat.pow_succ]; omega
   rw [← e2m]
   exact HO.out
theorem Dt {o : Ops} (H : o.S) (HI : o.In) : ∀ k : Nat, 1 ≤ k → k ≤ 6 → AA o k
 | 0, h, _ => absurd h om
 | 1, _, _ => Pq H
 | k + 2, _, h => Jv H HI k h (Dt H HI (k + 1) om om)
theorem Ku : (Tryz.prog.info? 22).map (fun i => (i.zero, i.size, i.bytes)) = some (some (J Z 0), 1, 8) := by kernel_rfl
theorem TA (k : Nat) (hk : k ≤ 60) (w : World) : QW 49 #[J Y k] w (J Y ((2 ^ k : Nat) : Int)) := by
 go_enter func49, ntmps49
 go_wp2
 go_loopw [3, 4] (fun n i wr => ∃ j : Nat, ∃ p : Nat, j ≤ k ∧ i = J Y j ∧ n = J Y (p : Int) ∧ Hid (p = 2 ^ j) ∧ w = wr) (fun _ i _ => k - (intOf i).toNat)
 case atStart => exact ⟨0, 1, Nat.zero_le _, rfl, rfl, rfl, rfl⟩
 case round =>
  obtain ⟨j, p, hj, rfl, rfl, HP, rfl⟩ := hrel
  by_cases hlt : j < k
  ·have hlt' : (j : Int) < (k : Int) := om
   obtain ⟨q, hq⟩ : ∃ q : Nat, q = p * 2 := ⟨_, rfl⟩
   have hp : p ≤ 1152921504606846976 := by
    rw [HP.out]
    have := Nat.pow_le_pow_right (show 0 < 2 by decide) (show j ≤ 60 by omega)
    omega
   have u : IntKind.i64.wrap ((p : Int) * 2) = (q : Int) := wi
   have HQ : Hid (q = 2 ^ (j + 1)) := by show _ = _; rw [hq, HP.out, Nat.pow_succ]
   clear hq
   go_wp2
   go_roundw
   case rel => exact ⟨j + 1, q, om, by go_num, rfl, HQ.out, trivial⟩
   case measure => simp [intOf] <;> omega
  ·obtain rfl : j = k := om
   have vw : ¬ (j : Int) < (j : Int) := om
   go_wp2
   go_returns
   have e : ((2 ^ j : Nat) : Int) = (p : Int) := by rw [HP.out]
   refine ⟨aU ?_, rfl⟩
   have e2 : (2 : Int) ^ j = (p : Int) := by rw [← e]; simp
   first | (rw [e2]; rfl) | (rw [e]; rfl)
theorem qG (K : Int) (k : Nat) (hK : K = (k : Int)) (hk : k ≤ 60) (N : Int) (hN : N = ((2 ^ k : Nat) : Int)) (w : World) : QW 49 #[J Y K] w (J Y N) := by
 subst hK hN
 exact TA k hk w
theorem pK {w : World} {b m : Nat} {k : IntKind} {g : Nat → Int} {x0 : Int} (h0 : w.cell? ⟨b, 0, none⟩ = some (J k x0)) (e0 : g (m + 0) = x0) : ∀ j, j < 1 * 1 → w.cell? ⟨b, j, none⟩ = some (J k (g (m + j))) := by
 intro j hj
 match j, hj with
 | 0, _ => rw [e0]; exact h0
def aBJ (c : Nat) : Prop := ∀ (w : World) (v : Value) (L h : Nat) (cs : Nat → Int), Rd w Z v L L cs → L = 2 * h → 0 < h → h ≤ 100 →
 CT 66 #[v, J Y (c : Int)] w fun e w' => ∃ v', e = .returned v' ∧ Ow w' w.heap.size 22 1 Z v' h (fun m => cs (2 * m + c)) ∧ Gb w w'
theorem Yi (c : Nat) (hc : c ≤ 1) : aBJ c := by
 intro w v L h cs hr hL hpos hh
 obtain ⟨b, cap, rfl, h1, h2, hcell⟩ := hr.at om
 have HC : Hid _ := hcell
 have HL : Hid _ := hL
 have hL2 : L ≤ 200 := om
 have hb := au (hcell 0 om)
 clear hr hcell hL
 go_enter func66, ntmps66
 go_wp2
 go_loopw [5, 6] (fun f i wr => ∃ j q : Nat, j ≤ h ∧ i = J Y (q : Int) ∧ Hid (q = 2 * j + c) ∧ Ow wr w.heap.size 22 1 Z f j (fun m => cs (2 * m + c)) ∧ Gb w wr) (fun _ i _ => 2 * h + 2 - (intOf i).toNat)
 case atStart => exact ⟨0, c, Nat.zero_le _, rfl, by show _ = _; omega, Ow.lit w _ _ _ _, kg⟩
 case round =>
  obtain ⟨j, q, hj, rfl, HQ, hof, hgb⟩ := hrel
  have hq := HQ.out
  have hLL := HL.out
  have hqs : q ≤ 400 := om
  have HO : Hid _ := hof
  have hsz := hgb.size
  by_cases hlt : j < h
  ·have hlt' : (q : Int) < (L : Int) := om
   obtain ⟨x, hx⟩ : ∃ x, cs q = x := ⟨_, rfl⟩
   have x0 : wr.cell? ⟨b, q, none⟩ = some (J Z x) := by rw [← hx]; exact hgb.old (HC.out q om)
   have e0 : Hid ((fun m => cs (2 * m + c)) (j * 1 + 0) = x) := by show _ = _; rw [← hx, hq]; congr 1; omega
   obtain ⟨q', hq'⟩ : ∃ q' : Nat, q' = q + 2 := ⟨_, rfl⟩
   have u : IntKind.i64.wrap ((q : Int) + 2) = (q' : Int) := wi
   have HQ' : Hid _ := hq'
   have HC1 : Hid ((wr.alloc (.cells #[J Z x] 22)).cell? ⟨wr.heap.size, 0, none⟩ = some (J Z x)) := by show _ = _; simp [go_sem]
   have HOa := fun ob => Ow.alloc hof ob
   clear hof hx hq hLL hq'
   go_wp2_with (at_builtin; refine lJ rfl _ _ 39 rfl 22 (J Z 0) 1 8 Z Tryz.underlying39 Ku rfl de de w.heap.size j 1 (fun m => cs (2 * m + c)) _ wr.heap.size rfl (HOa _) rfl (pK (g := fun m => cs (2 * m + c)) (m := j * 1) HC1.out e0.out) om om (by rw [World.size_alloc]; omega) ?_; intro v' w1 hown1 hb1 _ _)
   go_roundw
   case rel => exact ⟨j + 1, q', om, rfl, by show _ = _; have := HQ'.out; have := HQ.out; omega, hown1, Gb.below kg hb1 (Nat.le_refl _)⟩
   case measure => have := HQ'.out; have := HQ.out; simp [intOf] <;> omega
  ·obtain rfl : j = h := om
   have hlt' : ¬ (q : Int) < (L : Int) := om
   clear hof hq hLL
   go_wp2
   go_returns
   exact ⟨_, rfl, HO.out, hgb⟩
theorem Yj (C : Int) (c : Nat) (hC : C = (c : Int)) (hc : c ≤ 1) (w : World) (v : Value) (L h : Nat) (cs : Nat → Int) (hr : Rd w Z v L L cs) (hL : L = 2 * h) (hpos : 0 < h) (hh : h ≤ 100) :
  CT 66 #[v, J Y C] w fun e w' => ∃ v', e = .returned v' ∧ Ow w' w.heap.size 22 1 Z v' h (fun m => cs (2 * m + c)) ∧ Gb w w' := by
 subst hC
 exact Yi c hc w v L h cs hr hL hpos hh
