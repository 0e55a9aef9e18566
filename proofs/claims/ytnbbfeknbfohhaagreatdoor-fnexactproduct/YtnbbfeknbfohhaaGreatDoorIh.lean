import Derived.Test.YtnbbfeknbfohhaaGreatDoorIa
import Derived.Test.YtnbbfeknbfohhaaGreatDoorSf
import Derived.Test.YtnbbfeknbfohhaaGreatDoorSa
import Derived.Deep.RegionHeld3
set_option linter.unusedVariables false
set_option linter.unusedSimpArgs false
set_option maxRecDepth 1000000
set_option maxHeartbeats 40000000
namespace Go.Proofs.YtnbbfeknbfohhaaGreatDoor
open Go.RowKit
theorem twIh0 {P : Prop} (h : P := by
 have hlt' : (j : Int) < (L : Int) := by omega
 have HWj : Hid _ := HW.out j hlt
 have hbj := HB.out j hlt
 obtain ⟨bb, cap', e, _, _, _, _, hcz⟩ := hof.at (by omega)
 simp only [Value.slice.injEq, Option.some.injEq, Addr.mk.injEq, and_true, true_and] at e
 obtain ⟨rfl, rfl⟩ := e
 obtain ⟨c0, z0⟩ := hcz j (by omega)
 rw [if_neg (by omega)] at c0
 have x0 : wr.cell? ⟨b, j, none⟩ = some (.int .i64 (f j)) := hgb.old (HC.out j (by omega))
 obtain ⟨z, hz⟩ : ∃ z, o.int (f j) = z := ⟨_, rfl⟩
 obtain ⟨x, hx⟩ : ∃ x, f j = x := ⟨_, rfl⟩
 rw [hz, hx] at HWj
 rw [hx] at x0 hbj
 have hu : IntKind.u64.wrap x = x % 18446744073709551616 := IntKind.wrap_u64 x
 have HWk : Hid _ := HWj.out _ rfl
 generalize x % 18446744073709551616 = u at *
 have y0 : ¬ x < -2047 := by have := hbj.1; omega
 have y1 : ¬ 2047 < x := by have := hbj.2; omega
 have Hz : Hid _ := hz
 clear hof hcz hx hz hbj HWj
 go_wp2_with (go_at_call 97; refine (HWk.out _ hgb).mono ?_; rintro e w2 ⟨fl, rfl, hg_w2⟩; have c1 : w2.cell? ⟨w.heap.size, j, none⟩ = some (.int .u64 0) := hg_w2.gb.old c0; have z1 := hg_w2.z z0)
 go_roundw
 case rel =>
  refine ⟨j + 1, by omega, by go_num, ?_, kg⟩
  refine Ow.congr (Ow.store (Ow.gb HF.out hg_w2.gb) j z) (fun q hq => ?_)
  by_cases e1 : q = j
  ·rw [if_pos e1, if_pos (by omega), e1, Hz.out]
  ·by_cases e2 : q < j
   ·rw [if_neg e1, if_pos e2, if_pos (by omega)]
   ·rw [if_neg e1, if_neg e2, if_neg (by omega)]
 case measure => simp [intOf] <;> omega) : P := h
def IntI (o : Ops) : Prop := ∀ n u : Int, -2047 ≤ n → n ≤ 2047 → u = n % 18446744073709551616 → Hid (∀ w, Fm w → CT 97 #[.int .i64 1, .int .i64 0, .int .i64 1, .int .u64 u] w fun e w' => ∃ fl : Int, e = .returned (.agg #[.int .u64 (o.int n), .int .i64 fl]) ∧ Gr w w')
theorem wc_len {v : Value} {L : Nat} {f : Nat → Int} {w : World} (hr : Rd w .i64 v L L f) (n : Int) (hn : (L : Int) ≠ n) :
  QB 55 #[.int .i64 n, v] w (.tuple #[.slice none 0 0, .bool false]) := by
 obtain ⟨a, ca, rfl, _⟩ := hr
 go_enter Tryz.func55, Tryz.ntmps55
 go_wp2
 go_returns
 exact ⟨rfl, Gb.refl _⟩
theorem wc_yes {o : Ops} (HP : IntI o) {v : Value} {L : Nat} {f : Nat → Int} {w : World} (hw : Fm w) (hr : Rd w .i64 v L L f) (hpos : 0 < L) (hL : L ≤ 2000000) (h : ∀ i, i < L → InB (f i)) (n : Int) (hn : (L : Int) = n) :
  CT 55 #[.int .i64 n, v] w fun e w' => ∃ v', e = .returned (.tuple #[v', .bool true]) ∧ Ow w' w.heap.size 22 1 .u64 v' L (fun j => o.int (f j)) ∧ Gb w w' := by
 subst hn
 have hf := res_fs
 obtain ⟨b, cap, rfl, _, _, hc⟩ := hr.at hpos
 have HC : Hid _ := hc
 have HW : Hid (∀ j, j < L → ∀ u, u = (f j) % 18446744073709551616 → ∀ w', Gb w w' → CT 97 #[.int .i64 1, .int .i64 0, .int .i64 1, .int .u64 u] w' fun e w'' => ∃ fl : Int, e = .returned (.agg #[.int .u64 (o.int (f j)), .int .i64 fl]) ∧ Gr w' w'') := fun j hj u hu w' hg => (HP (f j) u (h j hj).1 (h j hj).2 hu).out w' (hw.gb hg)
 have HB : Hid _ := h
 have hb := cell_size (hc 0 (by omega))
 have hmk : ∀ w, (Instr.makeSlice 39 (.int .i64 (L : Int)) (.int .i64 (L : Int))).run Tryz.prog w = .ok (.slice (some ⟨w.heap.size, 0, none⟩) L L) (w.alloc (.cells (madeCells #[.int .u64 0] (L * 1)) 22)) := fun w => make_run 39 22 (.int .u64 0) 1 8 Tryz.underlying39 infoU (by decide) L (by omega) w
 have HMd : Hid (Ow (w.alloc (.cells (madeCells #[.int .u64 0] L) 22)) w.heap.size 22 1 .u64 (.slice (some ⟨w.heap.size, 0, none⟩) L L) L (fun _ => 0)) := by have := Ow.made w 22 1 #[.int .u64 0] .u64 (z1 _) L (by omega); rw [Nat.mul_one] at this; exact this
 clear hr hc h HP hw
 go_enter Tryz.func55, Tryz.ntmps55
 go_wp2
 go_loopw [17] (fun i wr => ∃ j : Nat, j ≤ L ∧ i = .int .i64 j ∧ Ow wr w.heap.size 22 1 .u64 (.slice (some ⟨w.heap.size, 0, none⟩) L L) L (fun q => if q < j then o.int (f q) else 0) ∧ Gb w wr) (fun i _ => L - (intOf i).toNat)
 case atStart => exact ⟨0, Nat.zero_le _, rfl, Ow.congr HMd.out (fun q hq => by rw [if_neg (by omega)]), kg⟩
 case round =>
  obtain ⟨j, hj, rfl, hof, hgb⟩ := hrel
  have HF : Hid _ := hof
  by_cases hlt : j < L
  ·exact twIh0
  ·obtain rfl : j = L := by omega
   have hjm' : ¬ (j : Int) < (j : Int) := by omega
   clear hof
   go_wp2
   go_returns
   exact ⟨_, rfl, Ow.congr HF.out (fun q hq => by rw [if_pos (by omega)]), hgb⟩
theorem wc_no {o : Ops} (HP : IntI o) {v : Value} {L : Nat} {f : Nat → Int} {w : World} (hw : Fm w) (hr : Rd w .i64 v L L f) (hpos : 0 < L) (hL : L ≤ 2000000) (m : Nat) (hm : m < L) (h : ∀ i, i < m → InB (f i)) (hbad : ¬ InB (f m)) (n : Int) (hn : (L : Int) = n) :
  QB 55 #[.int .i64 n, v] w (.tuple #[.slice none 0 0, .bool false]) := by
 subst hn
 have hf := res_fs
 obtain ⟨b, cap, rfl, _, _, hc⟩ := hr.at hpos
 have HC : Hid _ := hc
 have HW : Hid (∀ j, j < m → ∀ u, u = (f j) % 18446744073709551616 → ∀ w', Gb w w' → CT 97 #[.int .i64 1, .int .i64 0, .int .i64 1, .int .u64 u] w' fun e w'' => ∃ fl : Int, e = .returned (.agg #[.int .u64 (o.int (f j)), .int .i64 fl]) ∧ Gr w' w'') := fun j hj u hu w' hg => (HP (f j) u (h j hj).1 (h j hj).2 hu).out w' (hw.gb hg)
 have HB : Hid _ := h
 have HN : Hid _ := hbad
 have hb := cell_size (hc 0 (by omega))
 have hmk : ∀ w, (Instr.makeSlice 39 (.int .i64 (L : Int)) (.int .i64 (L : Int))).run Tryz.prog w = .ok (.slice (some ⟨w.heap.size, 0, none⟩) L L) (w.alloc (.cells (madeCells #[.int .u64 0] (L * 1)) 22)) := fun w => make_run 39 22 (.int .u64 0) 1 8 Tryz.underlying39 infoU (by decide) L (by omega) w
 have HMd : Hid (Ow (w.alloc (.cells (madeCells #[.int .u64 0] L) 22)) w.heap.size 22 1 .u64 (.slice (some ⟨w.heap.size, 0, none⟩) L L) L (fun _ => 0)) := by have := Ow.made w 22 1 #[.int .u64 0] .u64 (z1 _) L (by omega); rw [Nat.mul_one] at this; exact this
 clear hr hc h HP hw hbad
 go_enter Tryz.func55, Tryz.ntmps55
 go_wp2
 go_loopw [17] (fun i wr => ∃ j : Nat, j ≤ m ∧ i = .int .i64 j ∧ Ow wr w.heap.size 22 1 .u64 (.slice (some ⟨w.heap.size, 0, none⟩) L L) L (fun q => if q < j then o.int (f q) else 0) ∧ Gb w wr) (fun i _ => L - (intOf i).toNat)
 case atStart => exact ⟨0, Nat.zero_le _, rfl, Ow.congr HMd.out (fun q hq => by rw [if_neg (by omega)]), kg⟩
 case round =>
  obtain ⟨j, hj, rfl, hof, hgb⟩ := hrel
  have HF : Hid _ := hof
  by_cases hlt : j < m
  ·exact twIh0
  ·obtain rfl : j = m := by omega
   have hlt' : (j : Int) < (L : Int) := by omega
   have x0 : wr.cell? ⟨b, j, none⟩ = some (.int .i64 (f j)) := hgb.old (HC.out j (by omega))
   have hb : f j < -2047 ∨ ¬ f j < -2047 ∧ 2047 < f j := by
    rcases (show f j < -2047 ∨ (¬ f j < -2047 ∧ 2047 < f j) ∨ (-2047 ≤ f j ∧ f j ≤ 2047) by omega) with h | h | h
    ·exact .inl h
    ·exact .inr h
    ·exact absurd h HN.out
   clear hof HF HW HB HN HC HMd
   generalize f j = x at *
   rcases hb with x1 | ⟨x1, x2⟩
   ·go_wp2
    go_returns
    exact ⟨rfl, hgb⟩
   ·go_wp2
    go_returns
    exact ⟨rfl, hgb⟩
end Go.Proofs.YtnbbfeknbfohhaaGreatDoor
set_option maxRecDepth 1000000
namespace Go.Proofs.YtnbbfeknbfohhaaGreatDoor
open Go.RowKit
def KN (K N : Int) : Prop := K = 1 ∧ N = 2 ∨ K = 2 ∧ N = 4 ∨ K = 3 ∧ N = 8 ∨ K = 4 ∧ N = 16 ∨ K = 5 ∧ N = 32 ∨ K = 6 ∧ N = 64
theorem iprod_k (K : Int) (vf vg : Value) (w : World) (HL : KW 54 #[.int .i64 K] (.bool false)) : NoProd 14 K vf vg w := by
 go_enter Tryz.func14, Tryz.ntmps14
 go_wp2_with (go_at_call 54; refine kw (HL.out _) ?_)
 go_returns
 exact ⟨_, rfl, Ow.nil _ _ _ _ _ _, Gb.refl w⟩
theorem iprod_no (K N : Int) (hkn : KN K N) (vf vg : Value) (w : World) (HL : KW 54 #[.int .i64 K] (.bool true)) (p q : Bool) (hpq : p = false ∨ p = true ∧ q = false)
  (HF : Hid (∀ w', Gb w w' → CT 55 #[.int .i64 N, vf] w' fun e w'' => ∃ v, e = .returned (.tuple #[v, .bool p]) ∧ Gb w' w''))
  (HG : Hid (∀ w', Gb w w' → CT 55 #[.int .i64 N, vg] w' fun e w'' => ∃ v, e = .returned (.tuple #[v, .bool q]) ∧ Gb w' w'')) : NoProd 14 K vf vg w := by
 rcases hkn with ⟨rfl, rfl⟩ | ⟨rfl, rfl⟩ | ⟨rfl, rfl⟩ | ⟨rfl, rfl⟩ | ⟨rfl, rfl⟩ | ⟨rfl, rfl⟩ <;> rcases hpq with rfl | ⟨rfl, rfl⟩
 all_goals
  go_enter Tryz.func14, Tryz.ntmps14
  go_upto_region 4 with (first
   | (go_at_call 54; refine kw (HL.out _) ?_)
   | (go_at_call 55; refine (HF.out _ kg).mono ?_; rintro e w1 ⟨u1, rfl, hg_w1⟩))
  go_wp2_with (go_at_call 55; refine (HG.out _ kg).mono ?_; rintro e w2 ⟨u2, rfl, hg_w2⟩)
  go_returns
  exact ⟨_, rfl, Ow.nil _ _ _ _ _ _, kg⟩
end Go.Proofs.YtnbbfeknbfohhaaGreatDoor
set_option maxRecDepth 1000000
namespace Go.Proofs.YtnbbfeknbfohhaaGreatDoor
open Go.RowKit
theorem make0_run (ty t : TypeId) (z : Value) (size bytes : Nat) (hty : Tryz.prog.underlying ty = some (.slice t)) (hinf : (Tryz.prog.info? t).map (fun i => (i.zero, i.size, i.bytes)) = some (some z, size, bytes)) (hby : bytes ≤ 1000) (n : Nat) (hn : n ≤ 10000000) (w : World) :
  (Instr.makeSlice ty (.int .i64 0) (.int .i64 (n : Int))).run Tryz.prog w = .ok (.slice (some ⟨w.heap.size, 0, none⟩) 0 n) (w.alloc (.cells (madeCells z.cells (n * size)) t)) := by
 obtain ⟨i, hi, hz, hs, hb⟩ := info_parts hinf
 have hb' : (i.bytes : Int) * (n : Int) ≤ 281474976710656 := by
  have h : i.bytes * n ≤ 1000 * 10000000 := Nat.mul_le_mul (by omega) hn
  have h' : ((i.bytes * n : Nat) : Int) ≤ 281474976710656 := by omega
  rwa [Int.natCast_mul] at h'
 have hr := run_make (P := Tryz.prog) w ty t i z hty hi hz .i64 .i64 0 n (by omega) (by omega) hb' (by omega)
 simp only [Int.toNat_natCast, hs] at hr
 exact hr
theorem Ow.make0 (w : World) (t : TypeId) (size : Nat) (z : Array Value) (k : IntKind) (g : Nat → Int) (n : Nat) (hn : n ≤ 10000000) : Ow (w.alloc (.cells (madeCells z (n * size)) t)) w.heap.size t size k (.slice (some ⟨w.heap.size, 0, none⟩) 0 n) 0 g := by
 refine ⟨by simp [uv], .inr ⟨w.heap.size, n, madeCells z (n * size), rfl, Nat.le_refl _, heap_alloc_new w _, Nat.zero_le _, by unfold maxLen; omega, size_madeCells _ _, by simp [uv]⟩⟩
theorem infoIz : (Tryz.prog.info? 3).map (fun i => (i.zero, i.size, i.bytes)) = some (some (.int .i64 0), 1, 8) := by kernel_rfl
theorem iprod_yes (kk : Nat) (K N : Int) (n h : Nat) (hK : K = (kk : Int)) (hk1 : 1 ≤ kk) (hk6 : kk ≤ 6) (hN2 : (2 : Int) ^ kk = N) (hN : N = (n : Int)) (hn : n ≤ 128) (hh : h ≤ 128) (hn0 : 0 < n) (hh0 : 0 < h) (b0 : Nat) (cap0 : Nat) (vg : Value) (w : World) (cf cg cs tz : Nat → Int) (zf zg zp : Nat → Int × Int) (C : World → Value → Prop) (HCg : Hid (∀ w w' v, C w v → Gb w w' → C w' v))
  (HL : KW 54 #[.int .i64 K] (.bool true))
  (HF : Hid (∀ w', Gb w w' → CT 55 #[.int .i64 N, .slice (some ⟨b0, 0, none⟩) n cap0] w' fun e w'' => ∃ v, e = .returned (.tuple #[v, .bool true]) ∧ Rd w'' .u64 v n n cf ∧ Gb w' w''))
  (HG : Hid (∀ w', Gb w w' → CT 55 #[.int .i64 N, vg] w' fun e w'' => ∃ v, e = .returned (.tuple #[v, .bool true]) ∧ Rd w'' .u64 v n n cg ∧ Gb w' w''))
  (HC : Hid (∀ w', Gb w w' → CT 56 #[.int .i64 K] w' fun e w'' => ∃ v, e = .returned v ∧ C w'' v ∧ Gb w' w''))
  (HTf : Hid (∀ w' u cv, Gb w w' → C w' cv → Rd w' .u64 u n n cf → CT 57 #[cv, u] w' fun e w'' => ∃ v, e = .returned v ∧ Ow w'' w'.heap.size 46 2 .u64 v h (flat zf) ∧ Gb w' w''))
  (HTg : Hid (∀ w' u cv, Gb w w' → C w' cv → Rd w' .u64 u n n cg → CT 57 #[cv, u] w' fun e w'' => ∃ v, e = .returned v ∧ Ow w'' w'.heap.size 46 2 .u64 v h (flat zg) ∧ Gb w' w''))
  (HP : Hid (∀ j, j < h → ∀ w', Gb w w' → QR 58 #[.agg #[.int .u64 ((zf j).1), .int .u64 ((zf j).2)], .agg #[.int .u64 ((zg j).1), .int .u64 ((zg j).2)]] w' (.agg #[.int .u64 ((zp j).1), .int .u64 ((zp j).2)])))
  (HB : Hid (∀ w' u cv, Gb w w' → C w' cv → Rd w' .u64 u h (h * 2) (flat zp) → CT 59 #[cv, u] w' fun e w'' => ∃ b cap, e = .returned (.slice (some ⟨b, 0, none⟩) n cap) ∧ w'.heap.size ≤ b ∧ b < w''.heap.size ∧ (∀ q, q < n → w''.cell? ⟨b, q, none⟩ = some (.int .u64 (cs q))) ∧ Gb w' w''))
  (HI : Hid (∀ j, j < n → ∀ w', Gb w w' → CT 23 #[.int .i64 1, .int .i64 0, .int .i64 1, .int .u64 (cs j)] w' fun e w'' => ∃ fl : Int, e = .returned (.agg #[.int .u64 (tz j), .int .i64 fl]) ∧ Gr w' w'')) :
  CT 14 #[.int .i64 K, .slice (some ⟨b0, 0, none⟩) n cap0, vg] w fun e w' => ∃ v, e = .returned (.tuple #[v, .bool true]) ∧ Ow w' w.heap.size 3 1 .i64 v n (fun j => IntKind.i64.wrap (tz j)) ∧ Gb w w' := by
 have hf := res_f
 subst hK
 have hw1 : IntKind.i64.wrap N = N := by rw [IntKind.wrap_i64]; omega
 have hw2 : IntKind.i64.wrap ((2 : Int) ^ kk) = N := by rw [hN2]; exact hw1
 have hw3 : IntKind.i64.wrap (1 * (2 : Int) ^ kk) = N := by rw [Int.one_mul]; exact hw2
 have HNn : Hid (N = (n : Int)) := hN
 clear hN hN2
 go_enter Tryz.func14, Tryz.ntmps14
 go_upto_region 4 with (first
  | (go_at_call 54; refine kw (HL.out _) ?_)
  | (go_at_call 55; refine (HF.out _ kg).mono ?_; rintro e w1 ⟨u1, rfl, hr1, hg_w1⟩))
 go_upto_region 7 with (go_at_call 55; refine (HG.out _ kg).mono ?_; rintro e w2 ⟨u2, rfl, hr2, hg_w2⟩)
 have hr1' := hr1.gb hg_w2
 go_upto_region 8 with (go_at_call 56; refine (HC.out _ kg).mono ?_; rintro e W ⟨cv, rfl, hcv, hg_W⟩)
 have HR1 : Hid (Rd W .u64 u1 n n cf) := hr1'.gb hg_W
 have HR2 : Hid (Rd W .u64 u2 n n cg) := hr2.gb hg_W
 have HCV : Hid _ := hcv
 have GW : Hid (Gb w W) := (show Gb w W from kg)
 clear hr1 hr1' hr2 hcv hg_w1 hg_w2 hg_W HL HF HG HC
 go_upto_region 9 with (go_at_call 57; first
  | (with_reducible refine (HTf.out _ _ _ GW.out HCV.out HR1.out).mono ?_; rintro e w3 ⟨va, rfl, hoa, hg_w3⟩)
  | (with_reducible refine (HTg.out _ _ _ (GW.out.trans hg_w3) (HCg.out _ _ _ HCV.out hg_w3) (show Rd w3 .u64 u2 n n cg from HR2.out.gb hg_w3)).mono ?_; rintro e w4 ⟨vb, rfl, hob, hg_w4⟩))
 obtain ⟨ba, ca, rfl, a1, a2, a3, a4, ac⟩ := hoa.at hh0
 obtain ⟨bb, cb, rfl, b1, b2, b3, b4, bc⟩ := hob.at hh0
 have s3 := hg_w3.size
 have hne : ba ≠ bb := by omega
 have HOA : Hid (Ow w4 W.heap.size 46 2 .u64 (.slice (some ⟨ba, 0, none⟩) h ca) h (flat zf)) := hoa.gb hg_w4
 have HOB : Hid (Ow w4 W.heap.size 46 2 .u64 (.slice (some ⟨bb, 0, none⟩) h cb) h (flat zg)) := hob.mono s3
 have GG : Hid (Gb W w4) := hg_w3.trans hg_w4
 have HNE : Hid _ := hne
 clear HTf HTg HR1 HR2 hoa hob hg_w3 hg_w4 ac bc a1 a2 b1 b2 s3 hne
 go_wp2
 go_loopw [53] (fun i wr => ∃ j : Nat, j ≤ h ∧ i = .int .i64 j ∧ Ow wr W.heap.size 46 2 .u64 (.slice (some ⟨ba, 0, none⟩) h ca) h (fun q => if q < 2 * j then flat zp q else flat zf q) ∧ Ow wr W.heap.size 46 2 .u64 (.slice (some ⟨bb, 0, none⟩) h cb) h (flat zg) ∧ Gb W wr) (fun i _ => h - (intOf i).toNat)
 case atStart => exact ⟨0, Nat.zero_le _, rfl, Ow.congr HOA.out (fun q hq => by rw [if_neg (by omega)]), HOB.out, GG.out⟩
 case round =>
  obtain ⟨j, hj, rfl, ho1, ho2, hgb⟩ := hrel
  have HP1 : Hid _ := ho1
  have HP2 : Hid _ := ho2
  by_cases hlt : j < h
  ·have hlt' : (j : Int) < (h : Int) := by omega
   obtain ⟨b1', cap1, e1, hb1, hB1, _, _, hc1⟩ := ho1.at hh0
   obtain ⟨b2', cap2, e2, hb2, hB2, _, _, hc2⟩ := ho2.at hh0
   simp only [Value.slice.injEq, Option.some.injEq, Addr.mk.injEq, and_true, true_and] at e1 e2
   obtain ⟨rfl, rfl⟩ := e1
   obtain ⟨rfl, rfl⟩ := e2
   obtain ⟨c1, z1⟩ := hc1 (j * 2) (by omega)
   obtain ⟨c1', z1'⟩ := hc1 (j * 2 + 1) (by omega)
   obtain ⟨c2, z2⟩ := hc2 (j * 2) (by omega)
   obtain ⟨c2', z2'⟩ := hc2 (j * 2 + 1) (by omega)
   rw [if_neg (by omega)] at c1 c1'
   have HSq : Hid (∀ w', Gb W w' → QR 58 #[.agg #[.int .u64 ((zf j).1), .int .u64 ((zf j).2)], .agg #[.int .u64 ((zg j).1), .int .u64 ((zg j).2)]] w' (.agg #[.int .u64 ((zp j).1), .int .u64 ((zp j).2)])) := fun w' hg => HP.out j hlt w' (GW.out.trans hg)
   have f0 : Hid (flat zp (j * 2) = (zp j).1) := by show _ = _; rw [Nat.mul_comm, flat_re]
   have f1 : Hid (flat zp (j * 2 + 1) = (zp j).2) := by show _ = _; rw [Nat.mul_comm, flat_im]
   rw [show flat zf (j * 2) = (zf j).1 by rw [Nat.mul_comm, flat_re]] at c1
   rw [show flat zf (j * 2 + 1) = (zf j).2 by rw [Nat.mul_comm, flat_im]] at c1'
   rw [show flat zg (j * 2) = (zg j).1 by rw [Nat.mul_comm, flat_re]] at c2
   rw [show flat zg (j * 2 + 1) = (zg j).2 by rw [Nat.mul_comm, flat_im]] at c2'
   generalize (zf j).1 = x1 at *
   generalize (zf j).2 = x2 at *
   generalize (zg j).1 = y1 at *
   generalize (zg j).2 = y2 at *
   generalize (zp j).1 = t1 at *
   generalize (zp j).2 = t2 at *
   clear ho1 ho2 hc1 hc2
   go_wp2
   go_region_with
    (first | (go_at_call 58; refine (HSq.out _ kg).mono ?_; rintro e w5 ⟨rfl, hg_w5⟩; have hz5 := hg_w5.size; (try simp only [World.size_drew, World.size_alloc] at hz5); have cc0 : w5.cell? ⟨ba, j * 2, none⟩ = some (.int .u64 x1) := hg_w5.c; have cz0 : w5.frozen? ⟨ba, j * 2, none⟩ = false := hg_w5.z; have cc1 : w5.cell? ⟨ba, j * 2 + 1, none⟩ = some (.int .u64 x2) := hg_w5.c; have cz1 : w5.frozen? ⟨ba, j * 2 + 1, none⟩ = false := hg_w5.z))
   all_goals
    go_wp2
    go_roundw
    case rel =>
     refine ⟨j + 1, by omega, by go_num, ?_, Ow.other (Ow.other (Ow.gb (Ow.drew (Ow.alloc HP2.out _)) hg_w5.gb) HNE.out _) HNE.out _, kg⟩
     refine Ow.congr (Ow.store (Ow.store (Ow.gb (Ow.drew (Ow.alloc HP1.out _)) hg_w5.gb) (j * 2) t1) (j * 2 + 1) t2) (fun q hq => ?_)
     by_cases e1 : q = j * 2 + 1
     ·rw [if_pos e1, if_pos (by omega), e1]; exact f1.out.symm
     ·by_cases e0 : q = j * 2
      ·rw [if_neg e1, if_pos e0, if_pos (by omega), e0]; exact f0.out.symm
      ·by_cases e2 : q < 2 * j
       ·rw [if_neg e1, if_neg e0, if_pos e2, if_pos (by omega)]
       ·rw [if_neg e1, if_neg e0, if_neg e2, if_neg (by omega)]
    case measure => simp [intOf] <;> omega
  ·obtain rfl : j = h := by omega
   have hjm' : ¬ (j : Int) < (j : Int) := by omega
   rename World => V
   have rb : Rd V .u64 (.slice (some ⟨ba, 0, none⟩) j ca) j (j * 2) (flat zp) := (Ow.rd HP1.out).congr (fun q hq => by rw [if_pos (by omega)])
   have HBk : Hid (∀ w', Gb V w' → CT 59 #[cv, .slice (some ⟨ba, 0, none⟩) j ca] w' fun e w'' => ∃ b cap, e = .returned (.slice (some ⟨b, 0, none⟩) n cap) ∧ w'.heap.size ≤ b ∧ b < w''.heap.size ∧ (∀ q, q < n → w''.cell? ⟨b, q, none⟩ = some (.int .u64 (cs q))) ∧ Gb w' w'') := fun w' hg => HB.out w' _ _ (GW.out.trans (hgb.trans hg)) (HCg.out _ _ _ HCV.out (hgb.trans hg)) (rb.gb hg)
   have GV : Hid (Gb w V) := GW.out.trans hgb
   have hmk : ∀ w, (Instr.makeSlice 29 (.int .i64 0) (.int .i64 (n : Int))).run Tryz.prog w = .ok (.slice (some ⟨w.heap.size, 0, none⟩) 0 n) (w.alloc (.cells (madeCells #[.int .i64 0] (n * 1)) 3)) := fun w => make0_run 29 3 (.int .i64 0) 1 8 Tryz.underlying29 infoIz (by decide) n (by omega) w
   clear ho1 ho2 HP1 HP2 HOA HOB GG rb hgb HNE HP HB HCV HCg GW
   have HM0 : Hid (Ow (V.alloc (.cells (madeCells #[.int .i64 0] n) 3)) V.heap.size 3 1 .i64 (.slice (some ⟨V.heap.size, 0, none⟩) 0 n) 0 (fun j => IntKind.i64.wrap (tz j))) := by
    have := Ow.make0 V 3 1 #[.int .i64 0] .i64 (fun j => IntKind.i64.wrap (tz j)) n (by omega)
    rw [Nat.mul_one] at this
    exact this
   go_wp2_with (go_at_call 59; refine (HBk.out _ kg).mono ?_; rintro e V2 ⟨bc, cc, rfl, hbc0, hbc, hcc, hg_V2⟩)
   rw [World.size_alloc] at hbc0
   have HO0 : Hid _ := Ow.gb HM0.out hg_V2
   have HCC : Hid _ := hcc
   have GV2 : Hid (Gb V V2) := (show Gb V V2 from kg)
   clear hcc hg_V2 HM0 HBk hmk
   go_loopw [17, 75] (fun f i wr => ∃ j : Nat, j ≤ n ∧ i = .int .i64 j ∧ Ow wr V.heap.size 3 1 .i64 f j (fun j => IntKind.i64.wrap (tz j)) ∧ f.ownBlock ≠ some bc ∧ (∀ q, q < n → wr.cell? ⟨bc, q, none⟩ = some (.int .u64 (cs q))) ∧ Gb V wr) (fun _ i _ => n - (intOf i).toNat)
   case atStart => exact ⟨0, Nat.zero_le _, rfl, HO0.out, by simp [Value.ownBlock]; omega, HCC.out, GV2.out⟩
   case round =>
    obtain ⟨i, hi, rfl, hof, hnb, hcl, hgb2⟩ := hrel
    have hsz2 := hgb2.size
    by_cases hlt : i < n
    ·have hlt' : (i : Int) < (n : Int) := by omega
     have HIj : Hid _ := HI.out i hlt
     have x0 := hcl i hlt
     have hbs := cell_size x0
     have HCL : Hid _ := hcl
     obtain ⟨y, hy⟩ : ∃ y, IntKind.i64.wrap (tz i) = y := ⟨_, rfl⟩
     have e0 : Hid ((fun j => IntKind.i64.wrap (tz j)) (i * 1 + 0) = y) := by show _ = _; rw [Nat.mul_one, Nat.add_zero]; exact hy
     have HOg : Hid (∀ w2, Gb wr w2 → Ow w2 V.heap.size 3 1 .i64 _ i (fun j => IntKind.i64.wrap (tz j))) := fun w2 hg => Ow.gb hof hg
     have HGw : Hid (∀ w2, Gb wr w2 → Gb w w2) := fun w2 hg => GV.out.trans (hgb2.trans hg)
     clear hof hcl
     go_wp2_with (first
      | (go_at_call 23; refine (HIj.out _ (HGw.out _ kg)).mono ?_; rintro e w2 ⟨fl, rfl, hg_w2⟩)
      | (at_builtin; refine wpList_more rfl _ _ 29 rfl 3 (.int .i64 0) 1 8 .i64 Tryz.underlying29 infoIz rfl (by decide) (by decide) V.heap.size i 1 (fun j => IntKind.i64.wrap (tz j)) _ w2.heap.size rfl (HOg.out _ kg) rfl (cells1s (g := fun j => IntKind.i64.wrap (tz j)) (m := i * 1) (by simp [go_sem]) e0.out) (by omega) (by omega) (by have := hg_w2.size; rw [World.size_alloc]; omega) ?_; intro v' w3 hown3 hb3 hk3 ho3))
     go_roundw
     case rel =>
      refine ⟨i + 1, by omega, by go_num, hown3, ?_, fun q hq => hk3 _ _ _ (by have := hg_w2.old (HCL.out q hq); exact kb) hnb, Gb.below kg hb3 (Nat.le_refl _)⟩
      rcases ho3 with h3 | h3
      ·rw [h3]; exact hnb
      ·rw [h3, World.size_alloc]
       have := hg_w2.size
       intro h; injection h; omega
     case measure => simp [intOf] <;> omega
    ·obtain rfl : i = n := by omega
     have hlt' : ¬ (i : Int) < (i : Int) := by omega
     have HM1 := Ow.mono hof GV.out.size
     have hgE : Gb w wr := GV.out.trans hgb2
     clear hof
     go_wp2
     go_returns
     exact ⟨_, rfl, HM1, hgE⟩
end Go.Proofs.YtnbbfeknbfohhaaGreatDoor
