import Derived.Test.YtnbbfeknbfohhaaGreatDoorL5b
import Derived.Test.YtnbbfeknbfohhaaGreatDoorA3
import Derived.Deep.DeepCutAuto
import Derived.Deep.RegionHeld3
set_option linter.unusedVariables false
set_option linter.unusedSimpArgs false
set_option maxHeartbeats 40000000
namespace Go.Proofs.YtnbbfeknbfohhaaGreatDoor
open Go.RowKit
theorem twL5TI0 {P : Prop} (h : P := by
 rw [← hw7]
 exact (((((((hgw6.setCell (a := ⟨w4.heap.size, 0, none⟩) hlt _).setCell (a := ⟨w4.heap.size, 1, none⟩) hlt _).setCell (a := ⟨w4.heap.size, 2, none⟩) hlt _).setCell (a := ⟨w4.heap.size, 3, none⟩) hlt _).setCell (a := ⟨w4.heap.size, 4, none⟩) hlt _).setCell (a := ⟨w4.heap.size, 5, none⟩) hlt _).setCell (a := ⟨w4.heap.size, 6, none⟩) hlt _)) : P := h
set_option maxRecDepth 1000000 in
theorem size_far (s e c mh ml fl : Int) (t : Bool) (h : decide (1 < c) = true) (w : World) :
  Calls Tryz.prog 76 #[.agg #[.int .i64 s, .int .i64 e, .int .i64 c, .int .u64 mh, .int .u64 ml, .bool t, .int .i64 fl]] w fun e w' => e = .returned (.agg #[.int .u64 1, .int .u64 0]) ∧ Gr w w' := by
 go_enter Tryz.func76, Tryz.ntmps76
 go_wp2
 go_returns
 exact ⟨rfl, Gr.g⟩
set_option maxRecDepth 1000000 in
theorem size_num (s e c mh ml fl k rh rl : Int) (t : Bool) (h : decide (1 < c) = false) (hk : min e 64 = k) (HS : KR 162 #[.agg #[.int .u64 mh, .int .u64 ml], .int .i64 k] (.agg #[.int .u64 rh, .int .u64 rl])) (w : World) :
  Calls Tryz.prog 76 #[.agg #[.int .i64 s, .int .i64 e, .int .i64 c, .int .u64 mh, .int .u64 ml, .bool t, .int .i64 fl]] w fun e w' => e = .returned (.agg #[.int .u64 rh, .int .u64 rl]) ∧ Gr w w' := by
 go_enter Tryz.func76, Tryz.ntmps76
 go_wp2_with (go_at_call 162; refine (HS.out _).mono ?_; rintro x w1 ⟨rfl, hg_w1⟩; obtain ⟨ar0, arz0, ar1, arz1⟩ := hg_w1.y2 (w.heap.size + 1) 0 1 (.int .u64 0) (.int .u64 0))
 refine bodyPost_ret (v := .agg #[.int .u64 rh, .int .u64 rl]) (by simp [results, Tryz.results76, go_sem, ar0, ar1]) rfl ⟨rfl, ?_⟩
 exact Gr.g
set_option maxRecDepth 1000000 in
theorem to_no1 (p mn mx md f mode kind a : Int) (kv : Value) (kB : Bool) {w : World} (HS : Hid (∀ w', Gr w w' → Calls Tryz.prog 70 #[.int .i64 f, .int .i64 mode] w' fun x w'' => x = .returned (.tuple #[.agg #[.int .i64 p, .int .i64 mn, .int .i64 mx, .int .i64 md, Value.nilFunc], .bool false]) ∧ Gr w' w'')) (HK : KR 71 #[.int .i64 kind] (.tuple #[kv, .bool kB])) :
  Calls Tryz.prog 23 #[.int .i64 f, .int .i64 mode, .int .i64 kind, .int .u64 a] w fun e w' => e = .returned (.agg #[.int .u64 0, .int .i64 1]) ∧ Gr w w' := by
 go_enter Tryz.func23, Tryz.ntmps23
 go_wp2_with (first
  | (go_at_call 70; refine (HS.out _ Gr.g).mono ?_; rintro x w1 ⟨rfl, hg_w1⟩; obtain ⟨kr0, krz0, kr1, krz1⟩ := hg_w1.y2 w.heap.size 0 1 (.int .u64 0) (.int .i64 0); have hz1 := cell_size kr0)
  | (go_at_call 71; refine (HK.out _).mono ?_; rintro x w2 ⟨rfl, hg_w2⟩; obtain ⟨lr0, lrz0, lr1, lrz1⟩ := hg_w2.y2 w.heap.size 0 1 (.int .u64 0) (.int .i64 0); obtain ⟨ls0, ls1, ls2, ls3, ls4⟩ := hg_w2.e5 w1.heap.size 0 1 2 3 4 (.int .i64 p) (.int .i64 mn) (.int .i64 mx) (.int .i64 md) (Value.nilFunc); have hz2 := cell_size lr0; have hy2 := cell_size ls0))
 refine bodyPost_ret (v := .agg #[.int .u64 0, .int .i64 1]) (by simp [results, Tryz.results23, go_sem, lr0, lr1]) rfl ⟨rfl, ?_⟩
 exact Gr.g
set_option maxRecDepth 1000000 in
theorem to_no2 (p mn mx md f mode kind a : Int) (k : Nat) {w : World} (HS : Hid (∀ w', Gr w w' → Calls Tryz.prog 70 #[.int .i64 f, .int .i64 mode] w' fun x w'' => x = .returned (.tuple #[.agg #[.int .i64 p, .int .i64 mn, .int .i64 mx, .int .i64 md, .func (.func k) #[] #[]], .bool true]) ∧ Gr w' w'')) (HK : KR 71 #[.int .i64 kind] (.tuple #[Value.nilIface, .bool false])) :
  Calls Tryz.prog 23 #[.int .i64 f, .int .i64 mode, .int .i64 kind, .int .u64 a] w fun e w' => e = .returned (.agg #[.int .u64 0, .int .i64 1]) ∧ Gr w w' := by
 go_enter Tryz.func23, Tryz.ntmps23
 go_wp2_with (first
  | (go_at_call 70; refine (HS.out _ Gr.g).mono ?_; rintro x w1 ⟨rfl, hg_w1⟩; obtain ⟨kr0, krz0, kr1, krz1⟩ := hg_w1.y2 w.heap.size 0 1 (.int .u64 0) (.int .i64 0); have hz1 := cell_size kr0)
  | (go_at_call 71; refine (HK.out _).mono ?_; rintro x w2 ⟨rfl, hg_w2⟩; obtain ⟨lr0, lrz0, lr1, lrz1⟩ := hg_w2.y2 w.heap.size 0 1 (.int .u64 0) (.int .i64 0); obtain ⟨ls0, ls1, ls2, ls3, ls4⟩ := hg_w2.e5 w1.heap.size 0 1 2 3 4 (.int .i64 p) (.int .i64 mn) (.int .i64 mx) (.int .i64 md) (.func (.func k) #[] #[]); have hz2 := cell_size lr0; have hy2 := cell_size ls0))
 refine bodyPost_ret (v := .agg #[.int .u64 0, .int .i64 1]) (by simp [results, Tryz.results23, go_sem, lr0, lr1]) rfl ⟨rfl, ?_⟩
 exact Gr.g
set_option maxRecDepth 1000000 in
theorem to_no3 (p mn mx md f mode kind a : Int) (k : Nat) (kv : Value) {w : World} (HS : Hid (∀ w', Gr w w' → Calls Tryz.prog 70 #[.int .i64 f, .int .i64 mode] w' fun x w'' => x = .returned (.tuple #[.agg #[.int .i64 p, .int .i64 mn, .int .i64 mx, .int .i64 md, .func (.func k) #[] #[]], .bool true]) ∧ Gr w' w'')) (HK : KR 71 #[.int .i64 kind] (.tuple #[kv, .bool true])) (HF : KR 72 #[.agg #[.int .i64 p, .int .i64 mn, .int .i64 mx], .int .u64 a] (.bool false)) :
  Calls Tryz.prog 23 #[.int .i64 f, .int .i64 mode, .int .i64 kind, .int .u64 a] w fun e w' => e = .returned (.agg #[.int .u64 0, .int .i64 1]) ∧ Gr w w' := by
 go_enter Tryz.func23, Tryz.ntmps23
 go_wp2_with (first
  | (go_at_call 70; refine (HS.out _ Gr.g).mono ?_; rintro x w1 ⟨rfl, hg_w1⟩; obtain ⟨kr0, krz0, kr1, krz1⟩ := hg_w1.y2 w.heap.size 0 1 (.int .u64 0) (.int .i64 0); have hz1 := cell_size kr0)
  | (go_at_call 71; refine (HK.out _).mono ?_; rintro x w2 ⟨rfl, hg_w2⟩; obtain ⟨lr0, lrz0, lr1, lrz1⟩ := hg_w2.y2 w.heap.size 0 1 (.int .u64 0) (.int .i64 0); obtain ⟨ls0, ls1, ls2, ls3, ls4⟩ := hg_w2.e5 w1.heap.size 0 1 2 3 4 (.int .i64 p) (.int .i64 mn) (.int .i64 mx) (.int .i64 md) (.func (.func k) #[] #[]); have hz2 := cell_size lr0; have hy2 := cell_size ls0)
  | (go_at_call 72; refine (HF.out _).mono ?_; rintro x w3 ⟨rfl, hg_w3⟩; obtain ⟨nr0, nrz0, nr1, nrz1⟩ := hg_w3.y2 w.heap.size 0 1 (.int .u64 0) (.int .i64 0); obtain ⟨ns0, ns1, ns2, ns3, ns4⟩ := hg_w3.e5 w1.heap.size 0 1 2 3 4 (.int .i64 p) (.int .i64 mn) (.int .i64 mx) (.int .i64 md) (.func (.func k) #[] #[]); have hz3 := cell_size nr0; have hy3 := cell_size ns0))
 refine bodyPost_ret (v := .agg #[.int .u64 0, .int .i64 1]) (by simp [results, Tryz.results23, go_sem, nr0, nr1]) rfl ⟨rfl, ?_⟩
 exact Gr.g
set_option maxRecDepth 1000000 in
theorem to_n0 (p mn mx mode f kind a sx ex cx xh xl os oe oc oh ol of rh rl z : Int) (tx ot q : Bool) (hq : q = false) (k : Nat) {w : World} (HS : Hid (∀ w', Gr w w' → Calls Tryz.prog 70 #[.int .i64 f, .int .i64 mode] w' fun x w'' => x = .returned (.tuple #[.agg #[.int .i64 p, .int .i64 mn, .int .i64 mx, .int .i64 mode, .func (.func k) #[] #[]], .bool true]) ∧ Gr w' w'')) (HK : KR 71 #[.int .i64 kind] (.tuple #[.iface 176 (.agg #[.int .i32 (-2147483648), .int .i32 2147483647]), .bool true])) (HF : KR 72 #[.agg #[.int .i64 p, .int .i64 mn, .int .i64 mx], .int .u64 a] (.bool true)) (HA : KR 73 #[.agg #[.int .i64 p, .int .i64 mn, .int .i64 mx], .int .u64 a] (.agg #[.int .i64 sx, .int .i64 ex, .int .i64 cx, .int .u64 xh, .int .u64 xl, .bool tx, .int .i64 0])) (HC : KR 74 #[.agg #[.int .i64 p, .int .i64 mn, .int .i64 mx, .int .i64 mode, .func (.func k) #[] #[]], .func (.func 75) #[] #[], .agg #[.int .i64 sx, .int .i64 ex, .int .i64 cx, .int .u64 xh, .int .u64 xl, .bool tx, .int .i64 0], .agg #[.int .i64 sx, .int .i64 ex, .int .i64 cx, .int .u64 xh, .int .u64 xl, .bool tx, .int .i64 0]] (.agg #[.int .i64 os, .int .i64 oe, .int .i64 oc, .int .u64 oh, .int .u64 ol, .bool ot, .int .i64 of])) (HZ : KR 76 #[.agg #[.int .i64 os, .int .i64 oe, .int .i64 oc, .int .u64 oh, .int .u64 ol, .bool ot, .int .i64 of]] (.agg #[.int .u64 rh, .int .u64 rl])) (HT : KR 268 #[.agg #[.int .i32 (-2147483648), .int .i32 2147483647], .int .i64 os, .agg #[.int .u64 rh, .int .u64 rl]] (.tuple #[.int .u64 z, .bool q])) :
  Calls Tryz.prog 23 #[.int .i64 f, .int .i64 mode, .int .i64 kind, .int .u64 a] w fun e w' => e = .returned (.agg #[.int .u64 z, .int .i64 1]) ∧ Gr w w' := by
 subst hq
 have hnil : ∀ w, Sem.run Tryz.prog (nilAhead 371 176 (.agg #[.int .i32 (-2147483648), .int .i32 2147483647]) "loop.example/s01330/impl.toWord") w = Result.ok (some false) w := fun w => by kernel_rfl
 go_enter Tryz.func23, Tryz.ntmps23
 go_upto_region 6 with (first
  | (go_at_call 70; refine (HS.out _ Gr.g).mono ?_; rintro x w1 ⟨rfl, hg_w1⟩; obtain ⟨kr0, krz0, kr1, krz1⟩ := hg_w1.y2 w.heap.size 0 1 (.int .u64 0) (.int .i64 0); have hz1 := cell_size kr0)
  | (go_at_call 71; refine (HK.out _).mono ?_; rintro x w2 ⟨rfl, hg_w2⟩; obtain ⟨lr0, lrz0, lr1, lrz1⟩ := hg_w2.y2 w.heap.size 0 1 (.int .u64 0) (.int .i64 0); obtain ⟨ls0, ls1, ls2, ls3, ls4⟩ := hg_w2.e5 w1.heap.size 0 1 2 3 4 (.int .i64 p) (.int .i64 mn) (.int .i64 mx) (.int .i64 mode) (.func (.func k) #[] #[]); have hz2 := cell_size lr0; have hy2 := cell_size ls0)
  | (go_at_call 72; refine (HF.out _).mono ?_; rintro x w3 ⟨rfl, hg_w3⟩; obtain ⟨nr0, nrz0, nr1, nrz1⟩ := hg_w3.y2 w.heap.size 0 1 (.int .u64 0) (.int .i64 0); obtain ⟨ns0, ns1, ns2, ns3, ns4⟩ := hg_w3.e5 w1.heap.size 0 1 2 3 4 (.int .i64 p) (.int .i64 mn) (.int .i64 mx) (.int .i64 mode) (.func (.func k) #[] #[]); have hz3 := cell_size nr0; have hy3 := cell_size ns0)
  | (go_at_call 73; refine (HA.out _).mono ?_; rintro x w4 ⟨rfl, hg_w4⟩; obtain ⟨pr0, prz0, pr1, prz1⟩ := hg_w4.y2 w.heap.size 0 1 (.int .u64 0) (.int .i64 0); obtain ⟨ps0, ps1, ps2, ps3, ps4⟩ := hg_w4.e5 w1.heap.size 0 1 2 3 4 (.int .i64 p) (.int .i64 mn) (.int .i64 mx) (.int .i64 mode) (.func (.func k) #[] #[]); have hz4 := cell_size pr0; have hy4 := cell_size ps0))
 obtain ⟨w5, hw5⟩ : ∃ w5, w4.alloc (.cells #[.int .i64 sx, .int .i64 ex, .int .i64 cx, .int .u64 xh, .int .u64 xl, .bool tx, .int .i64 0] 122) = w5 := ⟨_, rfl⟩
 have hg_w5 : Gr w4 w5 := by rw [← hw5]; exact (Gr.refl _).alloc _ _
 have x0 : w5.cell? ⟨w4.heap.size, 0, none⟩ = some (.int .i64 sx) := by rw [← hw5]; simp [go_sem]
 have xz0 : w5.frozen? ⟨w4.heap.size, 0, none⟩ = false := by rw [← hw5]; simp [go_sem]
 have x1 : w5.cell? ⟨w4.heap.size, 1, none⟩ = some (.int .i64 ex) := by rw [← hw5]; simp [go_sem]
 have xz1 : w5.frozen? ⟨w4.heap.size, 1, none⟩ = false := by rw [← hw5]; simp [go_sem]
 have x2 : w5.cell? ⟨w4.heap.size, 2, none⟩ = some (.int .i64 cx) := by rw [← hw5]; simp [go_sem]
 have xz2 : w5.frozen? ⟨w4.heap.size, 2, none⟩ = false := by rw [← hw5]; simp [go_sem]
 have x3 : w5.cell? ⟨w4.heap.size, 3, none⟩ = some (.int .u64 xh) := by rw [← hw5]; simp [go_sem]
 have xz3 : w5.frozen? ⟨w4.heap.size, 3, none⟩ = false := by rw [← hw5]; simp [go_sem]
 have x4 : w5.cell? ⟨w4.heap.size, 4, none⟩ = some (.int .u64 xl) := by rw [← hw5]; simp [go_sem]
 have xz4 : w5.frozen? ⟨w4.heap.size, 4, none⟩ = false := by rw [← hw5]; simp [go_sem]
 have x5 : w5.cell? ⟨w4.heap.size, 5, none⟩ = some (.bool tx) := by rw [← hw5]; simp [go_sem]
 have xz5 : w5.frozen? ⟨w4.heap.size, 5, none⟩ = false := by rw [← hw5]; simp [go_sem]
 have x6 : w5.cell? ⟨w4.heap.size, 6, none⟩ = some (.int .i64 0) := by rw [← hw5]; simp [go_sem]
 have xz6 : w5.frozen? ⟨w4.heap.size, 6, none⟩ = false := by rw [← hw5]; simp [go_sem]
 have hz5 : w4.heap.size < w5.heap.size := by rw [← hw5]; simp
 rw [hw5]
 clear hw5
 obtain ⟨rr0, rrz0, rr1, rrz1⟩ := hg_w5.y2 w.heap.size 0 1 (.int .u64 0) (.int .i64 0); obtain ⟨rs0, rs1, rs2, rs3, rs4⟩ := hg_w5.e5 w1.heap.size 0 1 2 3 4 (.int .i64 p) (.int .i64 mn) (.int .i64 mx) (.int .i64 mode) (.func (.func k) #[] #[])
 have hgw5 : Gr w w5 := Gr.g
 go_upto_region 7 with (go_at_call 74; refine (HC.out _).mono ?_; rintro x w6 ⟨rfl, hg_w6⟩; obtain ⟨tr0, trz0, tr1, trz1⟩ := hg_w6.y2 w.heap.size 0 1 (.int .u64 0) (.int .i64 0); obtain ⟨tx0, txz0, tx1, txz1, tx2, txz2, tx3, txz3, tx4, txz4, tx5, txz5, tx6, txz6⟩ := hg_w6.y7 w4.heap.size 0 1 2 3 4 5 6 (.int .i64 sx) (.int .i64 ex) (.int .i64 cx) (.int .u64 xh) (.int .u64 xl) (.bool tx) (.int .i64 0); have hz6 := cell_size tx0)
 obtain ⟨w7, hw7⟩ : ∃ w7, ((((((w6.setCell ⟨w4.heap.size, 0, none⟩ (.int .i64 os)).setCell ⟨w4.heap.size, 1, none⟩ (.int .i64 oe)).setCell ⟨w4.heap.size, 2, none⟩ (.int .i64 oc)).setCell ⟨w4.heap.size, 3, none⟩ (.int .u64 oh)).setCell ⟨w4.heap.size, 4, none⟩ (.int .u64 ol)).setCell ⟨w4.heap.size, 5, none⟩ (.bool ot)).setCell ⟨w4.heap.size, 6, none⟩ (.int .i64 of) = w7 := ⟨_, rfl⟩
 have hgw6 : Gr w w6 := Gr.g
 have hlt : w.heap.size ≤ w4.heap.size := by omega
 have hgw7 : Gr w w7 := by
  exact twL5TI0
 have y0 : w7.cell? ⟨w4.heap.size, 0, none⟩ = some (.int .i64 os) := by rw [← hw7]; exact kh
 have y1 : w7.cell? ⟨w4.heap.size, 1, none⟩ = some (.int .i64 oe) := by rw [← hw7]; exact kh
 have y2 : w7.cell? ⟨w4.heap.size, 2, none⟩ = some (.int .i64 oc) := by rw [← hw7]; exact kh
 have y3 : w7.cell? ⟨w4.heap.size, 3, none⟩ = some (.int .u64 oh) := by rw [← hw7]; exact kh
 have y4 : w7.cell? ⟨w4.heap.size, 4, none⟩ = some (.int .u64 ol) := by rw [← hw7]; exact kh
 have y5 : w7.cell? ⟨w4.heap.size, 5, none⟩ = some (.bool ot) := by rw [← hw7]; exact kh
 have y6 : w7.cell? ⟨w4.heap.size, 6, none⟩ = some (.int .i64 of) := by rw [← hw7]; exact kh
 have yr0 : w7.cell? ⟨w.heap.size, 0, none⟩ = some (.int .u64 0) := by rw [← hw7]; exact kh
 have yrz0 : w7.frozen? ⟨w.heap.size, 0, none⟩ = false := by rw [← hw7]; exact kh
 have yr1 : w7.cell? ⟨w.heap.size, 1, none⟩ = some (.int .i64 0) := by rw [← hw7]; exact kh
 have yrz1 : w7.frozen? ⟨w.heap.size, 1, none⟩ = false := by rw [← hw7]; exact kh
 have hz7 : w4.heap.size < w7.heap.size := cell_size y0
 rw [hw7]
 clear hw7
 go_region_held3 (fun w' => w'.cell? ⟨w4.heap.size, 0, none⟩ = some (.int .i64 os) ∧ w'.cell? ⟨w4.heap.size, 1, none⟩ = some (.int .i64 oe) ∧ w'.cell? ⟨w4.heap.size, 2, none⟩ = some (.int .i64 oc) ∧ w'.cell? ⟨w4.heap.size, 3, none⟩ = some (.int .u64 oh) ∧ w'.cell? ⟨w4.heap.size, 4, none⟩ = some (.int .u64 ol) ∧ w'.cell? ⟨w4.heap.size, 5, none⟩ = some (.bool ot) ∧ w'.cell? ⟨w4.heap.size, 6, none⟩ = some (.int .i64 of))
  ((go_split_ands; (repeat' apply And.intro) <;> exact kh))
  (first
   | (go_at_call 76; refine (HZ.out _).mono ?_; rintro x w8 ⟨rfl, hg_w8⟩; obtain ⟨vr0, vrz0, vr1, vrz1⟩ := hg_w8.y2 w.heap.size 0 1 (.int .u64 0) (.int .i64 0))
   | (go_at_call 268; refine (HT.out _).mono ?_; rintro x w9 ⟨rfl, hg_w9⟩; obtain ⟨zr0, zrz0, zr1, zrz1⟩ := hg_w9.y2 w.heap.size 0 1 (.int .u64 0) (.int .i64 0); have zx6 := hg_w9.e1 w4.heap.size 6 (.int .i64 of)))
 all_goals (try go_split_ands)
 all_goals go_wp2
 all_goals
  refine bodyPost_ret (v := .agg #[.int .u64 z, .int .i64 1]) (by simp [results, Tryz.results23, go_sem, zr0, zr1]) rfl ⟨rfl, ?_⟩
  exact Gr.g
set_option maxRecDepth 1000000 in
theorem to_y0 (p mn mx mode f kind a sx ex cx xh xl os oe oc oh ol of rh rl z : Int) (tx ot q : Bool) (hq : q = true) (k : Nat) {w : World} (HS : Hid (∀ w', Gr w w' → Calls Tryz.prog 70 #[.int .i64 f, .int .i64 mode] w' fun x w'' => x = .returned (.tuple #[.agg #[.int .i64 p, .int .i64 mn, .int .i64 mx, .int .i64 mode, .func (.func k) #[] #[]], .bool true]) ∧ Gr w' w'')) (HK : KR 71 #[.int .i64 kind] (.tuple #[.iface 176 (.agg #[.int .i32 (-2147483648), .int .i32 2147483647]), .bool true])) (HF : KR 72 #[.agg #[.int .i64 p, .int .i64 mn, .int .i64 mx], .int .u64 a] (.bool true)) (HA : KR 73 #[.agg #[.int .i64 p, .int .i64 mn, .int .i64 mx], .int .u64 a] (.agg #[.int .i64 sx, .int .i64 ex, .int .i64 cx, .int .u64 xh, .int .u64 xl, .bool tx, .int .i64 0])) (HC : KR 74 #[.agg #[.int .i64 p, .int .i64 mn, .int .i64 mx, .int .i64 mode, .func (.func k) #[] #[]], .func (.func 75) #[] #[], .agg #[.int .i64 sx, .int .i64 ex, .int .i64 cx, .int .u64 xh, .int .u64 xl, .bool tx, .int .i64 0], .agg #[.int .i64 sx, .int .i64 ex, .int .i64 cx, .int .u64 xh, .int .u64 xl, .bool tx, .int .i64 0]] (.agg #[.int .i64 os, .int .i64 oe, .int .i64 oc, .int .u64 oh, .int .u64 ol, .bool ot, .int .i64 of])) (HZ : KR 76 #[.agg #[.int .i64 os, .int .i64 oe, .int .i64 oc, .int .u64 oh, .int .u64 ol, .bool ot, .int .i64 of]] (.agg #[.int .u64 rh, .int .u64 rl])) (HT : KR 268 #[.agg #[.int .i32 (-2147483648), .int .i32 2147483647], .int .i64 os, .agg #[.int .u64 rh, .int .u64 rl]] (.tuple #[.int .u64 z, .bool q])) :
  Calls Tryz.prog 23 #[.int .i64 f, .int .i64 mode, .int .i64 kind, .int .u64 a] w fun e w' => e = .returned (.agg #[.int .u64 z, .int .i64 of]) ∧ Gr w w' := by
 subst hq
 have hnil : ∀ w, Sem.run Tryz.prog (nilAhead 371 176 (.agg #[.int .i32 (-2147483648), .int .i32 2147483647]) "loop.example/s01330/impl.toWord") w = Result.ok (some false) w := fun w => by kernel_rfl
 go_enter Tryz.func23, Tryz.ntmps23
 go_upto_region 6 with (first
  | (go_at_call 70; refine (HS.out _ Gr.g).mono ?_; rintro x w1 ⟨rfl, hg_w1⟩; obtain ⟨kr0, krz0, kr1, krz1⟩ := hg_w1.y2 w.heap.size 0 1 (.int .u64 0) (.int .i64 0); have hz1 := cell_size kr0)
  | (go_at_call 71; refine (HK.out _).mono ?_; rintro x w2 ⟨rfl, hg_w2⟩; obtain ⟨lr0, lrz0, lr1, lrz1⟩ := hg_w2.y2 w.heap.size 0 1 (.int .u64 0) (.int .i64 0); obtain ⟨ls0, ls1, ls2, ls3, ls4⟩ := hg_w2.e5 w1.heap.size 0 1 2 3 4 (.int .i64 p) (.int .i64 mn) (.int .i64 mx) (.int .i64 mode) (.func (.func k) #[] #[]); have hz2 := cell_size lr0; have hy2 := cell_size ls0)
  | (go_at_call 72; refine (HF.out _).mono ?_; rintro x w3 ⟨rfl, hg_w3⟩; obtain ⟨nr0, nrz0, nr1, nrz1⟩ := hg_w3.y2 w.heap.size 0 1 (.int .u64 0) (.int .i64 0); obtain ⟨ns0, ns1, ns2, ns3, ns4⟩ := hg_w3.e5 w1.heap.size 0 1 2 3 4 (.int .i64 p) (.int .i64 mn) (.int .i64 mx) (.int .i64 mode) (.func (.func k) #[] #[]); have hz3 := cell_size nr0; have hy3 := cell_size ns0)
  | (go_at_call 73; refine (HA.out _).mono ?_; rintro x w4 ⟨rfl, hg_w4⟩; obtain ⟨pr0, prz0, pr1, prz1⟩ := hg_w4.y2 w.heap.size 0 1 (.int .u64 0) (.int .i64 0); obtain ⟨ps0, ps1, ps2, ps3, ps4⟩ := hg_w4.e5 w1.heap.size 0 1 2 3 4 (.int .i64 p) (.int .i64 mn) (.int .i64 mx) (.int .i64 mode) (.func (.func k) #[] #[]); have hz4 := cell_size pr0; have hy4 := cell_size ps0))
 obtain ⟨w5, hw5⟩ : ∃ w5, w4.alloc (.cells #[.int .i64 sx, .int .i64 ex, .int .i64 cx, .int .u64 xh, .int .u64 xl, .bool tx, .int .i64 0] 122) = w5 := ⟨_, rfl⟩
 have hg_w5 : Gr w4 w5 := by rw [← hw5]; exact (Gr.refl _).alloc _ _
 have x0 : w5.cell? ⟨w4.heap.size, 0, none⟩ = some (.int .i64 sx) := by rw [← hw5]; simp [go_sem]
 have xz0 : w5.frozen? ⟨w4.heap.size, 0, none⟩ = false := by rw [← hw5]; simp [go_sem]
 have x1 : w5.cell? ⟨w4.heap.size, 1, none⟩ = some (.int .i64 ex) := by rw [← hw5]; simp [go_sem]
 have xz1 : w5.frozen? ⟨w4.heap.size, 1, none⟩ = false := by rw [← hw5]; simp [go_sem]
 have x2 : w5.cell? ⟨w4.heap.size, 2, none⟩ = some (.int .i64 cx) := by rw [← hw5]; simp [go_sem]
 have xz2 : w5.frozen? ⟨w4.heap.size, 2, none⟩ = false := by rw [← hw5]; simp [go_sem]
 have x3 : w5.cell? ⟨w4.heap.size, 3, none⟩ = some (.int .u64 xh) := by rw [← hw5]; simp [go_sem]
 have xz3 : w5.frozen? ⟨w4.heap.size, 3, none⟩ = false := by rw [← hw5]; simp [go_sem]
 have x4 : w5.cell? ⟨w4.heap.size, 4, none⟩ = some (.int .u64 xl) := by rw [← hw5]; simp [go_sem]
 have xz4 : w5.frozen? ⟨w4.heap.size, 4, none⟩ = false := by rw [← hw5]; simp [go_sem]
 have x5 : w5.cell? ⟨w4.heap.size, 5, none⟩ = some (.bool tx) := by rw [← hw5]; simp [go_sem]
 have xz5 : w5.frozen? ⟨w4.heap.size, 5, none⟩ = false := by rw [← hw5]; simp [go_sem]
 have x6 : w5.cell? ⟨w4.heap.size, 6, none⟩ = some (.int .i64 0) := by rw [← hw5]; simp [go_sem]
 have xz6 : w5.frozen? ⟨w4.heap.size, 6, none⟩ = false := by rw [← hw5]; simp [go_sem]
 have hz5 : w4.heap.size < w5.heap.size := by rw [← hw5]; simp
 rw [hw5]
 clear hw5
 obtain ⟨rr0, rrz0, rr1, rrz1⟩ := hg_w5.y2 w.heap.size 0 1 (.int .u64 0) (.int .i64 0); obtain ⟨rs0, rs1, rs2, rs3, rs4⟩ := hg_w5.e5 w1.heap.size 0 1 2 3 4 (.int .i64 p) (.int .i64 mn) (.int .i64 mx) (.int .i64 mode) (.func (.func k) #[] #[])
 have hgw5 : Gr w w5 := Gr.g
 go_upto_region 7 with (go_at_call 74; refine (HC.out _).mono ?_; rintro x w6 ⟨rfl, hg_w6⟩; obtain ⟨tr0, trz0, tr1, trz1⟩ := hg_w6.y2 w.heap.size 0 1 (.int .u64 0) (.int .i64 0); obtain ⟨tx0, txz0, tx1, txz1, tx2, txz2, tx3, txz3, tx4, txz4, tx5, txz5, tx6, txz6⟩ := hg_w6.y7 w4.heap.size 0 1 2 3 4 5 6 (.int .i64 sx) (.int .i64 ex) (.int .i64 cx) (.int .u64 xh) (.int .u64 xl) (.bool tx) (.int .i64 0); have hz6 := cell_size tx0)
 obtain ⟨w7, hw7⟩ : ∃ w7, ((((((w6.setCell ⟨w4.heap.size, 0, none⟩ (.int .i64 os)).setCell ⟨w4.heap.size, 1, none⟩ (.int .i64 oe)).setCell ⟨w4.heap.size, 2, none⟩ (.int .i64 oc)).setCell ⟨w4.heap.size, 3, none⟩ (.int .u64 oh)).setCell ⟨w4.heap.size, 4, none⟩ (.int .u64 ol)).setCell ⟨w4.heap.size, 5, none⟩ (.bool ot)).setCell ⟨w4.heap.size, 6, none⟩ (.int .i64 of) = w7 := ⟨_, rfl⟩
 have hgw6 : Gr w w6 := Gr.g
 have hlt : w.heap.size ≤ w4.heap.size := by omega
 have hgw7 : Gr w w7 := by
  exact twL5TI0
 have y0 : w7.cell? ⟨w4.heap.size, 0, none⟩ = some (.int .i64 os) := by rw [← hw7]; exact kh
 have y1 : w7.cell? ⟨w4.heap.size, 1, none⟩ = some (.int .i64 oe) := by rw [← hw7]; exact kh
 have y2 : w7.cell? ⟨w4.heap.size, 2, none⟩ = some (.int .i64 oc) := by rw [← hw7]; exact kh
 have y3 : w7.cell? ⟨w4.heap.size, 3, none⟩ = some (.int .u64 oh) := by rw [← hw7]; exact kh
 have y4 : w7.cell? ⟨w4.heap.size, 4, none⟩ = some (.int .u64 ol) := by rw [← hw7]; exact kh
 have y5 : w7.cell? ⟨w4.heap.size, 5, none⟩ = some (.bool ot) := by rw [← hw7]; exact kh
 have y6 : w7.cell? ⟨w4.heap.size, 6, none⟩ = some (.int .i64 of) := by rw [← hw7]; exact kh
 have yr0 : w7.cell? ⟨w.heap.size, 0, none⟩ = some (.int .u64 0) := by rw [← hw7]; exact kh
 have yrz0 : w7.frozen? ⟨w.heap.size, 0, none⟩ = false := by rw [← hw7]; exact kh
 have yr1 : w7.cell? ⟨w.heap.size, 1, none⟩ = some (.int .i64 0) := by rw [← hw7]; exact kh
 have yrz1 : w7.frozen? ⟨w.heap.size, 1, none⟩ = false := by rw [← hw7]; exact kh
 have hz7 : w4.heap.size < w7.heap.size := cell_size y0
 rw [hw7]
 clear hw7
 go_region_held3 (fun w' => w'.cell? ⟨w4.heap.size, 0, none⟩ = some (.int .i64 os) ∧ w'.cell? ⟨w4.heap.size, 1, none⟩ = some (.int .i64 oe) ∧ w'.cell? ⟨w4.heap.size, 2, none⟩ = some (.int .i64 oc) ∧ w'.cell? ⟨w4.heap.size, 3, none⟩ = some (.int .u64 oh) ∧ w'.cell? ⟨w4.heap.size, 4, none⟩ = some (.int .u64 ol) ∧ w'.cell? ⟨w4.heap.size, 5, none⟩ = some (.bool ot) ∧ w'.cell? ⟨w4.heap.size, 6, none⟩ = some (.int .i64 of))
  ((go_split_ands; (repeat' apply And.intro) <;> exact kh))
  (first
   | (go_at_call 76; refine (HZ.out _).mono ?_; rintro x w8 ⟨rfl, hg_w8⟩; obtain ⟨vr0, vrz0, vr1, vrz1⟩ := hg_w8.y2 w.heap.size 0 1 (.int .u64 0) (.int .i64 0))
   | (go_at_call 268; refine (HT.out _).mono ?_; rintro x w9 ⟨rfl, hg_w9⟩; obtain ⟨zr0, zrz0, zr1, zrz1⟩ := hg_w9.y2 w.heap.size 0 1 (.int .u64 0) (.int .i64 0); have zx6 := hg_w9.e1 w4.heap.size 6 (.int .i64 of)))
 all_goals (try go_split_ands)
 all_goals go_wp2
 all_goals
  refine bodyPost_ret (v := .agg #[.int .u64 z, .int .i64 of]) (by simp [results, Tryz.results23, go_sem, zr0, zr1]) rfl ⟨rfl, ?_⟩
  exact Gr.g
set_option maxRecDepth 1000000 in
theorem to_n1 (p mn mx mode f kind a sx ex cx xh xl os oe oc oh ol of rh rl z : Int) (tx ot q : Bool) (hq : q = false) (k : Nat) {w : World} (HS : Hid (∀ w', Gr w w' → Calls Tryz.prog 70 #[.int .i64 f, .int .i64 mode] w' fun x w'' => x = .returned (.tuple #[.agg #[.int .i64 p, .int .i64 mn, .int .i64 mx, .int .i64 mode, .func (.func k) #[] #[]], .bool true]) ∧ Gr w' w'')) (HK : KR 71 #[.int .i64 kind] (.tuple #[.iface 178 (.agg #[.int .i64 (-9223372036854775808), .int .i64 9223372036854775807]), .bool true])) (HF : KR 72 #[.agg #[.int .i64 p, .int .i64 mn, .int .i64 mx], .int .u64 a] (.bool true)) (HA : KR 73 #[.agg #[.int .i64 p, .int .i64 mn, .int .i64 mx], .int .u64 a] (.agg #[.int .i64 sx, .int .i64 ex, .int .i64 cx, .int .u64 xh, .int .u64 xl, .bool tx, .int .i64 0])) (HC : KR 74 #[.agg #[.int .i64 p, .int .i64 mn, .int .i64 mx, .int .i64 mode, .func (.func k) #[] #[]], .func (.func 75) #[] #[], .agg #[.int .i64 sx, .int .i64 ex, .int .i64 cx, .int .u64 xh, .int .u64 xl, .bool tx, .int .i64 0], .agg #[.int .i64 sx, .int .i64 ex, .int .i64 cx, .int .u64 xh, .int .u64 xl, .bool tx, .int .i64 0]] (.agg #[.int .i64 os, .int .i64 oe, .int .i64 oc, .int .u64 oh, .int .u64 ol, .bool ot, .int .i64 of])) (HZ : KR 76 #[.agg #[.int .i64 os, .int .i64 oe, .int .i64 oc, .int .u64 oh, .int .u64 ol, .bool ot, .int .i64 of]] (.agg #[.int .u64 rh, .int .u64 rl])) (HT : KR 271 #[.agg #[.int .i64 (-9223372036854775808), .int .i64 9223372036854775807], .int .i64 os, .agg #[.int .u64 rh, .int .u64 rl]] (.tuple #[.int .u64 z, .bool q])) :
  Calls Tryz.prog 23 #[.int .i64 f, .int .i64 mode, .int .i64 kind, .int .u64 a] w fun e w' => e = .returned (.agg #[.int .u64 z, .int .i64 1]) ∧ Gr w w' := by
 subst hq
 have hnil : ∀ w, Sem.run Tryz.prog (nilAhead 371 178 (.agg #[.int .i64 (-9223372036854775808), .int .i64 9223372036854775807]) "loop.example/s01330/impl.toWord") w = Result.ok (some false) w := fun w => by kernel_rfl
 go_enter Tryz.func23, Tryz.ntmps23
 go_upto_region 6 with (first
  | (go_at_call 70; refine (HS.out _ Gr.g).mono ?_; rintro x w1 ⟨rfl, hg_w1⟩; obtain ⟨kr0, krz0, kr1, krz1⟩ := hg_w1.y2 w.heap.size 0 1 (.int .u64 0) (.int .i64 0); have hz1 := cell_size kr0)
  | (go_at_call 71; refine (HK.out _).mono ?_; rintro x w2 ⟨rfl, hg_w2⟩; obtain ⟨lr0, lrz0, lr1, lrz1⟩ := hg_w2.y2 w.heap.size 0 1 (.int .u64 0) (.int .i64 0); obtain ⟨ls0, ls1, ls2, ls3, ls4⟩ := hg_w2.e5 w1.heap.size 0 1 2 3 4 (.int .i64 p) (.int .i64 mn) (.int .i64 mx) (.int .i64 mode) (.func (.func k) #[] #[]); have hz2 := cell_size lr0; have hy2 := cell_size ls0)
  | (go_at_call 72; refine (HF.out _).mono ?_; rintro x w3 ⟨rfl, hg_w3⟩; obtain ⟨nr0, nrz0, nr1, nrz1⟩ := hg_w3.y2 w.heap.size 0 1 (.int .u64 0) (.int .i64 0); obtain ⟨ns0, ns1, ns2, ns3, ns4⟩ := hg_w3.e5 w1.heap.size 0 1 2 3 4 (.int .i64 p) (.int .i64 mn) (.int .i64 mx) (.int .i64 mode) (.func (.func k) #[] #[]); have hz3 := cell_size nr0; have hy3 := cell_size ns0)
  | (go_at_call 73; refine (HA.out _).mono ?_; rintro x w4 ⟨rfl, hg_w4⟩; obtain ⟨pr0, prz0, pr1, prz1⟩ := hg_w4.y2 w.heap.size 0 1 (.int .u64 0) (.int .i64 0); obtain ⟨ps0, ps1, ps2, ps3, ps4⟩ := hg_w4.e5 w1.heap.size 0 1 2 3 4 (.int .i64 p) (.int .i64 mn) (.int .i64 mx) (.int .i64 mode) (.func (.func k) #[] #[]); have hz4 := cell_size pr0; have hy4 := cell_size ps0))
 obtain ⟨w5, hw5⟩ : ∃ w5, w4.alloc (.cells #[.int .i64 sx, .int .i64 ex, .int .i64 cx, .int .u64 xh, .int .u64 xl, .bool tx, .int .i64 0] 122) = w5 := ⟨_, rfl⟩
 have hg_w5 : Gr w4 w5 := by rw [← hw5]; exact (Gr.refl _).alloc _ _
 have x0 : w5.cell? ⟨w4.heap.size, 0, none⟩ = some (.int .i64 sx) := by rw [← hw5]; simp [go_sem]
 have xz0 : w5.frozen? ⟨w4.heap.size, 0, none⟩ = false := by rw [← hw5]; simp [go_sem]
 have x1 : w5.cell? ⟨w4.heap.size, 1, none⟩ = some (.int .i64 ex) := by rw [← hw5]; simp [go_sem]
 have xz1 : w5.frozen? ⟨w4.heap.size, 1, none⟩ = false := by rw [← hw5]; simp [go_sem]
 have x2 : w5.cell? ⟨w4.heap.size, 2, none⟩ = some (.int .i64 cx) := by rw [← hw5]; simp [go_sem]
 have xz2 : w5.frozen? ⟨w4.heap.size, 2, none⟩ = false := by rw [← hw5]; simp [go_sem]
 have x3 : w5.cell? ⟨w4.heap.size, 3, none⟩ = some (.int .u64 xh) := by rw [← hw5]; simp [go_sem]
 have xz3 : w5.frozen? ⟨w4.heap.size, 3, none⟩ = false := by rw [← hw5]; simp [go_sem]
 have x4 : w5.cell? ⟨w4.heap.size, 4, none⟩ = some (.int .u64 xl) := by rw [← hw5]; simp [go_sem]
 have xz4 : w5.frozen? ⟨w4.heap.size, 4, none⟩ = false := by rw [← hw5]; simp [go_sem]
 have x5 : w5.cell? ⟨w4.heap.size, 5, none⟩ = some (.bool tx) := by rw [← hw5]; simp [go_sem]
 have xz5 : w5.frozen? ⟨w4.heap.size, 5, none⟩ = false := by rw [← hw5]; simp [go_sem]
 have x6 : w5.cell? ⟨w4.heap.size, 6, none⟩ = some (.int .i64 0) := by rw [← hw5]; simp [go_sem]
 have xz6 : w5.frozen? ⟨w4.heap.size, 6, none⟩ = false := by rw [← hw5]; simp [go_sem]
 have hz5 : w4.heap.size < w5.heap.size := by rw [← hw5]; simp
 rw [hw5]
 clear hw5
 obtain ⟨rr0, rrz0, rr1, rrz1⟩ := hg_w5.y2 w.heap.size 0 1 (.int .u64 0) (.int .i64 0); obtain ⟨rs0, rs1, rs2, rs3, rs4⟩ := hg_w5.e5 w1.heap.size 0 1 2 3 4 (.int .i64 p) (.int .i64 mn) (.int .i64 mx) (.int .i64 mode) (.func (.func k) #[] #[])
 have hgw5 : Gr w w5 := Gr.g
 go_upto_region 7 with (go_at_call 74; refine (HC.out _).mono ?_; rintro x w6 ⟨rfl, hg_w6⟩; obtain ⟨tr0, trz0, tr1, trz1⟩ := hg_w6.y2 w.heap.size 0 1 (.int .u64 0) (.int .i64 0); obtain ⟨tx0, txz0, tx1, txz1, tx2, txz2, tx3, txz3, tx4, txz4, tx5, txz5, tx6, txz6⟩ := hg_w6.y7 w4.heap.size 0 1 2 3 4 5 6 (.int .i64 sx) (.int .i64 ex) (.int .i64 cx) (.int .u64 xh) (.int .u64 xl) (.bool tx) (.int .i64 0); have hz6 := cell_size tx0)
 obtain ⟨w7, hw7⟩ : ∃ w7, ((((((w6.setCell ⟨w4.heap.size, 0, none⟩ (.int .i64 os)).setCell ⟨w4.heap.size, 1, none⟩ (.int .i64 oe)).setCell ⟨w4.heap.size, 2, none⟩ (.int .i64 oc)).setCell ⟨w4.heap.size, 3, none⟩ (.int .u64 oh)).setCell ⟨w4.heap.size, 4, none⟩ (.int .u64 ol)).setCell ⟨w4.heap.size, 5, none⟩ (.bool ot)).setCell ⟨w4.heap.size, 6, none⟩ (.int .i64 of) = w7 := ⟨_, rfl⟩
 have hgw6 : Gr w w6 := Gr.g
 have hlt : w.heap.size ≤ w4.heap.size := by omega
 have hgw7 : Gr w w7 := by
  exact twL5TI0
 have y0 : w7.cell? ⟨w4.heap.size, 0, none⟩ = some (.int .i64 os) := by rw [← hw7]; exact kh
 have y1 : w7.cell? ⟨w4.heap.size, 1, none⟩ = some (.int .i64 oe) := by rw [← hw7]; exact kh
 have y2 : w7.cell? ⟨w4.heap.size, 2, none⟩ = some (.int .i64 oc) := by rw [← hw7]; exact kh
 have y3 : w7.cell? ⟨w4.heap.size, 3, none⟩ = some (.int .u64 oh) := by rw [← hw7]; exact kh
 have y4 : w7.cell? ⟨w4.heap.size, 4, none⟩ = some (.int .u64 ol) := by rw [← hw7]; exact kh
 have y5 : w7.cell? ⟨w4.heap.size, 5, none⟩ = some (.bool ot) := by rw [← hw7]; exact kh
 have y6 : w7.cell? ⟨w4.heap.size, 6, none⟩ = some (.int .i64 of) := by rw [← hw7]; exact kh
 have yr0 : w7.cell? ⟨w.heap.size, 0, none⟩ = some (.int .u64 0) := by rw [← hw7]; exact kh
 have yrz0 : w7.frozen? ⟨w.heap.size, 0, none⟩ = false := by rw [← hw7]; exact kh
 have yr1 : w7.cell? ⟨w.heap.size, 1, none⟩ = some (.int .i64 0) := by rw [← hw7]; exact kh
 have yrz1 : w7.frozen? ⟨w.heap.size, 1, none⟩ = false := by rw [← hw7]; exact kh
 have hz7 : w4.heap.size < w7.heap.size := cell_size y0
 rw [hw7]
 clear hw7
 go_region_held3 (fun w' => w'.cell? ⟨w4.heap.size, 0, none⟩ = some (.int .i64 os) ∧ w'.cell? ⟨w4.heap.size, 1, none⟩ = some (.int .i64 oe) ∧ w'.cell? ⟨w4.heap.size, 2, none⟩ = some (.int .i64 oc) ∧ w'.cell? ⟨w4.heap.size, 3, none⟩ = some (.int .u64 oh) ∧ w'.cell? ⟨w4.heap.size, 4, none⟩ = some (.int .u64 ol) ∧ w'.cell? ⟨w4.heap.size, 5, none⟩ = some (.bool ot) ∧ w'.cell? ⟨w4.heap.size, 6, none⟩ = some (.int .i64 of))
  ((go_split_ands; (repeat' apply And.intro) <;> exact kh))
  (first
   | (go_at_call 76; refine (HZ.out _).mono ?_; rintro x w8 ⟨rfl, hg_w8⟩; obtain ⟨vr0, vrz0, vr1, vrz1⟩ := hg_w8.y2 w.heap.size 0 1 (.int .u64 0) (.int .i64 0))
   | (go_at_call 271; refine (HT.out _).mono ?_; rintro x w9 ⟨rfl, hg_w9⟩; obtain ⟨zr0, zrz0, zr1, zrz1⟩ := hg_w9.y2 w.heap.size 0 1 (.int .u64 0) (.int .i64 0); have zx6 := hg_w9.e1 w4.heap.size 6 (.int .i64 of)))
 all_goals (try go_split_ands)
 all_goals go_wp2
 all_goals
  refine bodyPost_ret (v := .agg #[.int .u64 z, .int .i64 1]) (by simp [results, Tryz.results23, go_sem, zr0, zr1]) rfl ⟨rfl, ?_⟩
  exact Gr.g
set_option maxRecDepth 1000000 in
theorem to_y1 (p mn mx mode f kind a sx ex cx xh xl os oe oc oh ol of rh rl z : Int) (tx ot q : Bool) (hq : q = true) (k : Nat) {w : World} (HS : Hid (∀ w', Gr w w' → Calls Tryz.prog 70 #[.int .i64 f, .int .i64 mode] w' fun x w'' => x = .returned (.tuple #[.agg #[.int .i64 p, .int .i64 mn, .int .i64 mx, .int .i64 mode, .func (.func k) #[] #[]], .bool true]) ∧ Gr w' w'')) (HK : KR 71 #[.int .i64 kind] (.tuple #[.iface 178 (.agg #[.int .i64 (-9223372036854775808), .int .i64 9223372036854775807]), .bool true])) (HF : KR 72 #[.agg #[.int .i64 p, .int .i64 mn, .int .i64 mx], .int .u64 a] (.bool true)) (HA : KR 73 #[.agg #[.int .i64 p, .int .i64 mn, .int .i64 mx], .int .u64 a] (.agg #[.int .i64 sx, .int .i64 ex, .int .i64 cx, .int .u64 xh, .int .u64 xl, .bool tx, .int .i64 0])) (HC : KR 74 #[.agg #[.int .i64 p, .int .i64 mn, .int .i64 mx, .int .i64 mode, .func (.func k) #[] #[]], .func (.func 75) #[] #[], .agg #[.int .i64 sx, .int .i64 ex, .int .i64 cx, .int .u64 xh, .int .u64 xl, .bool tx, .int .i64 0], .agg #[.int .i64 sx, .int .i64 ex, .int .i64 cx, .int .u64 xh, .int .u64 xl, .bool tx, .int .i64 0]] (.agg #[.int .i64 os, .int .i64 oe, .int .i64 oc, .int .u64 oh, .int .u64 ol, .bool ot, .int .i64 of])) (HZ : KR 76 #[.agg #[.int .i64 os, .int .i64 oe, .int .i64 oc, .int .u64 oh, .int .u64 ol, .bool ot, .int .i64 of]] (.agg #[.int .u64 rh, .int .u64 rl])) (HT : KR 271 #[.agg #[.int .i64 (-9223372036854775808), .int .i64 9223372036854775807], .int .i64 os, .agg #[.int .u64 rh, .int .u64 rl]] (.tuple #[.int .u64 z, .bool q])) :
  Calls Tryz.prog 23 #[.int .i64 f, .int .i64 mode, .int .i64 kind, .int .u64 a] w fun e w' => e = .returned (.agg #[.int .u64 z, .int .i64 of]) ∧ Gr w w' := by
 subst hq
 have hnil : ∀ w, Sem.run Tryz.prog (nilAhead 371 178 (.agg #[.int .i64 (-9223372036854775808), .int .i64 9223372036854775807]) "loop.example/s01330/impl.toWord") w = Result.ok (some false) w := fun w => by kernel_rfl
 go_enter Tryz.func23, Tryz.ntmps23
 go_upto_region 6 with (first
  | (go_at_call 70; refine (HS.out _ Gr.g).mono ?_; rintro x w1 ⟨rfl, hg_w1⟩; obtain ⟨kr0, krz0, kr1, krz1⟩ := hg_w1.y2 w.heap.size 0 1 (.int .u64 0) (.int .i64 0); have hz1 := cell_size kr0)
  | (go_at_call 71; refine (HK.out _).mono ?_; rintro x w2 ⟨rfl, hg_w2⟩; obtain ⟨lr0, lrz0, lr1, lrz1⟩ := hg_w2.y2 w.heap.size 0 1 (.int .u64 0) (.int .i64 0); obtain ⟨ls0, ls1, ls2, ls3, ls4⟩ := hg_w2.e5 w1.heap.size 0 1 2 3 4 (.int .i64 p) (.int .i64 mn) (.int .i64 mx) (.int .i64 mode) (.func (.func k) #[] #[]); have hz2 := cell_size lr0; have hy2 := cell_size ls0)
  | (go_at_call 72; refine (HF.out _).mono ?_; rintro x w3 ⟨rfl, hg_w3⟩; obtain ⟨nr0, nrz0, nr1, nrz1⟩ := hg_w3.y2 w.heap.size 0 1 (.int .u64 0) (.int .i64 0); obtain ⟨ns0, ns1, ns2, ns3, ns4⟩ := hg_w3.e5 w1.heap.size 0 1 2 3 4 (.int .i64 p) (.int .i64 mn) (.int .i64 mx) (.int .i64 mode) (.func (.func k) #[] #[]); have hz3 := cell_size nr0; have hy3 := cell_size ns0)
  | (go_at_call 73; refine (HA.out _).mono ?_; rintro x w4 ⟨rfl, hg_w4⟩; obtain ⟨pr0, prz0, pr1, prz1⟩ := hg_w4.y2 w.heap.size 0 1 (.int .u64 0) (.int .i64 0); obtain ⟨ps0, ps1, ps2, ps3, ps4⟩ := hg_w4.e5 w1.heap.size 0 1 2 3 4 (.int .i64 p) (.int .i64 mn) (.int .i64 mx) (.int .i64 mode) (.func (.func k) #[] #[]); have hz4 := cell_size pr0; have hy4 := cell_size ps0))
 obtain ⟨w5, hw5⟩ : ∃ w5, w4.alloc (.cells #[.int .i64 sx, .int .i64 ex, .int .i64 cx, .int .u64 xh, .int .u64 xl, .bool tx, .int .i64 0] 122) = w5 := ⟨_, rfl⟩
 have hg_w5 : Gr w4 w5 := by rw [← hw5]; exact (Gr.refl _).alloc _ _
 have x0 : w5.cell? ⟨w4.heap.size, 0, none⟩ = some (.int .i64 sx) := by rw [← hw5]; simp [go_sem]
 have xz0 : w5.frozen? ⟨w4.heap.size, 0, none⟩ = false := by rw [← hw5]; simp [go_sem]
 have x1 : w5.cell? ⟨w4.heap.size, 1, none⟩ = some (.int .i64 ex) := by rw [← hw5]; simp [go_sem]
 have xz1 : w5.frozen? ⟨w4.heap.size, 1, none⟩ = false := by rw [← hw5]; simp [go_sem]
 have x2 : w5.cell? ⟨w4.heap.size, 2, none⟩ = some (.int .i64 cx) := by rw [← hw5]; simp [go_sem]
 have xz2 : w5.frozen? ⟨w4.heap.size, 2, none⟩ = false := by rw [← hw5]; simp [go_sem]
 have x3 : w5.cell? ⟨w4.heap.size, 3, none⟩ = some (.int .u64 xh) := by rw [← hw5]; simp [go_sem]
 have xz3 : w5.frozen? ⟨w4.heap.size, 3, none⟩ = false := by rw [← hw5]; simp [go_sem]
 have x4 : w5.cell? ⟨w4.heap.size, 4, none⟩ = some (.int .u64 xl) := by rw [← hw5]; simp [go_sem]
 have xz4 : w5.frozen? ⟨w4.heap.size, 4, none⟩ = false := by rw [← hw5]; simp [go_sem]
 have x5 : w5.cell? ⟨w4.heap.size, 5, none⟩ = some (.bool tx) := by rw [← hw5]; simp [go_sem]
 have xz5 : w5.frozen? ⟨w4.heap.size, 5, none⟩ = false := by rw [← hw5]; simp [go_sem]
 have x6 : w5.cell? ⟨w4.heap.size, 6, none⟩ = some (.int .i64 0) := by rw [← hw5]; simp [go_sem]
 have xz6 : w5.frozen? ⟨w4.heap.size, 6, none⟩ = false := by rw [← hw5]; simp [go_sem]
 have hz5 : w4.heap.size < w5.heap.size := by rw [← hw5]; simp
 rw [hw5]
 clear hw5
 obtain ⟨rr0, rrz0, rr1, rrz1⟩ := hg_w5.y2 w.heap.size 0 1 (.int .u64 0) (.int .i64 0); obtain ⟨rs0, rs1, rs2, rs3, rs4⟩ := hg_w5.e5 w1.heap.size 0 1 2 3 4 (.int .i64 p) (.int .i64 mn) (.int .i64 mx) (.int .i64 mode) (.func (.func k) #[] #[])
 have hgw5 : Gr w w5 := Gr.g
 go_upto_region 7 with (go_at_call 74; refine (HC.out _).mono ?_; rintro x w6 ⟨rfl, hg_w6⟩; obtain ⟨tr0, trz0, tr1, trz1⟩ := hg_w6.y2 w.heap.size 0 1 (.int .u64 0) (.int .i64 0); obtain ⟨tx0, txz0, tx1, txz1, tx2, txz2, tx3, txz3, tx4, txz4, tx5, txz5, tx6, txz6⟩ := hg_w6.y7 w4.heap.size 0 1 2 3 4 5 6 (.int .i64 sx) (.int .i64 ex) (.int .i64 cx) (.int .u64 xh) (.int .u64 xl) (.bool tx) (.int .i64 0); have hz6 := cell_size tx0)
 obtain ⟨w7, hw7⟩ : ∃ w7, ((((((w6.setCell ⟨w4.heap.size, 0, none⟩ (.int .i64 os)).setCell ⟨w4.heap.size, 1, none⟩ (.int .i64 oe)).setCell ⟨w4.heap.size, 2, none⟩ (.int .i64 oc)).setCell ⟨w4.heap.size, 3, none⟩ (.int .u64 oh)).setCell ⟨w4.heap.size, 4, none⟩ (.int .u64 ol)).setCell ⟨w4.heap.size, 5, none⟩ (.bool ot)).setCell ⟨w4.heap.size, 6, none⟩ (.int .i64 of) = w7 := ⟨_, rfl⟩
 have hgw6 : Gr w w6 := Gr.g
 have hlt : w.heap.size ≤ w4.heap.size := by omega
 have hgw7 : Gr w w7 := by
  exact twL5TI0
 have y0 : w7.cell? ⟨w4.heap.size, 0, none⟩ = some (.int .i64 os) := by rw [← hw7]; exact kh
 have y1 : w7.cell? ⟨w4.heap.size, 1, none⟩ = some (.int .i64 oe) := by rw [← hw7]; exact kh
 have y2 : w7.cell? ⟨w4.heap.size, 2, none⟩ = some (.int .i64 oc) := by rw [← hw7]; exact kh
 have y3 : w7.cell? ⟨w4.heap.size, 3, none⟩ = some (.int .u64 oh) := by rw [← hw7]; exact kh
 have y4 : w7.cell? ⟨w4.heap.size, 4, none⟩ = some (.int .u64 ol) := by rw [← hw7]; exact kh
 have y5 : w7.cell? ⟨w4.heap.size, 5, none⟩ = some (.bool ot) := by rw [← hw7]; exact kh
 have y6 : w7.cell? ⟨w4.heap.size, 6, none⟩ = some (.int .i64 of) := by rw [← hw7]; exact kh
 have yr0 : w7.cell? ⟨w.heap.size, 0, none⟩ = some (.int .u64 0) := by rw [← hw7]; exact kh
 have yrz0 : w7.frozen? ⟨w.heap.size, 0, none⟩ = false := by rw [← hw7]; exact kh
 have yr1 : w7.cell? ⟨w.heap.size, 1, none⟩ = some (.int .i64 0) := by rw [← hw7]; exact kh
 have yrz1 : w7.frozen? ⟨w.heap.size, 1, none⟩ = false := by rw [← hw7]; exact kh
 have hz7 : w4.heap.size < w7.heap.size := cell_size y0
 rw [hw7]
 clear hw7
 go_region_held3 (fun w' => w'.cell? ⟨w4.heap.size, 0, none⟩ = some (.int .i64 os) ∧ w'.cell? ⟨w4.heap.size, 1, none⟩ = some (.int .i64 oe) ∧ w'.cell? ⟨w4.heap.size, 2, none⟩ = some (.int .i64 oc) ∧ w'.cell? ⟨w4.heap.size, 3, none⟩ = some (.int .u64 oh) ∧ w'.cell? ⟨w4.heap.size, 4, none⟩ = some (.int .u64 ol) ∧ w'.cell? ⟨w4.heap.size, 5, none⟩ = some (.bool ot) ∧ w'.cell? ⟨w4.heap.size, 6, none⟩ = some (.int .i64 of))
  ((go_split_ands; (repeat' apply And.intro) <;> exact kh))
  (first
   | (go_at_call 76; refine (HZ.out _).mono ?_; rintro x w8 ⟨rfl, hg_w8⟩; obtain ⟨vr0, vrz0, vr1, vrz1⟩ := hg_w8.y2 w.heap.size 0 1 (.int .u64 0) (.int .i64 0))
   | (go_at_call 271; refine (HT.out _).mono ?_; rintro x w9 ⟨rfl, hg_w9⟩; obtain ⟨zr0, zrz0, zr1, zrz1⟩ := hg_w9.y2 w.heap.size 0 1 (.int .u64 0) (.int .i64 0); have zx6 := hg_w9.e1 w4.heap.size 6 (.int .i64 of)))
 all_goals (try go_split_ands)
 all_goals go_wp2
 all_goals
  refine bodyPost_ret (v := .agg #[.int .u64 z, .int .i64 of]) (by simp [results, Tryz.results23, go_sem, zr0, zr1]) rfl ⟨rfl, ?_⟩
  exact Gr.g
set_option maxRecDepth 1000000 in
theorem to_n2 (p mn mx mode f kind a sx ex cx xh xl os oe oc oh ol of rh rl z : Int) (tx ot q : Bool) (hq : q = false) (k : Nat) {w : World} (HS : Hid (∀ w', Gr w w' → Calls Tryz.prog 70 #[.int .i64 f, .int .i64 mode] w' fun x w'' => x = .returned (.tuple #[.agg #[.int .i64 p, .int .i64 mn, .int .i64 mx, .int .i64 mode, .func (.func k) #[] #[]], .bool true]) ∧ Gr w' w'')) (HK : KR 71 #[.int .i64 kind] (.tuple #[.iface 181 (.agg #[.int .u32 0, .int .u32 4294967295]), .bool true])) (HF : KR 72 #[.agg #[.int .i64 p, .int .i64 mn, .int .i64 mx], .int .u64 a] (.bool true)) (HA : KR 73 #[.agg #[.int .i64 p, .int .i64 mn, .int .i64 mx], .int .u64 a] (.agg #[.int .i64 sx, .int .i64 ex, .int .i64 cx, .int .u64 xh, .int .u64 xl, .bool tx, .int .i64 0])) (HC : KR 74 #[.agg #[.int .i64 p, .int .i64 mn, .int .i64 mx, .int .i64 mode, .func (.func k) #[] #[]], .func (.func 75) #[] #[], .agg #[.int .i64 sx, .int .i64 ex, .int .i64 cx, .int .u64 xh, .int .u64 xl, .bool tx, .int .i64 0], .agg #[.int .i64 sx, .int .i64 ex, .int .i64 cx, .int .u64 xh, .int .u64 xl, .bool tx, .int .i64 0]] (.agg #[.int .i64 os, .int .i64 oe, .int .i64 oc, .int .u64 oh, .int .u64 ol, .bool ot, .int .i64 of])) (HZ : KR 76 #[.agg #[.int .i64 os, .int .i64 oe, .int .i64 oc, .int .u64 oh, .int .u64 ol, .bool ot, .int .i64 of]] (.agg #[.int .u64 rh, .int .u64 rl])) (HT : KR 273 #[.agg #[.int .u32 0, .int .u32 4294967295], .int .i64 os, .agg #[.int .u64 rh, .int .u64 rl]] (.tuple #[.int .u64 z, .bool q])) :
  Calls Tryz.prog 23 #[.int .i64 f, .int .i64 mode, .int .i64 kind, .int .u64 a] w fun e w' => e = .returned (.agg #[.int .u64 z, .int .i64 1]) ∧ Gr w w' := by
 subst hq
 have hnil : ∀ w, Sem.run Tryz.prog (nilAhead 371 181 (.agg #[.int .u32 0, .int .u32 4294967295]) "loop.example/s01330/impl.toWord") w = Result.ok (some false) w := fun w => by kernel_rfl
 go_enter Tryz.func23, Tryz.ntmps23
 go_upto_region 6 with (first
  | (go_at_call 70; refine (HS.out _ Gr.g).mono ?_; rintro x w1 ⟨rfl, hg_w1⟩; obtain ⟨kr0, krz0, kr1, krz1⟩ := hg_w1.y2 w.heap.size 0 1 (.int .u64 0) (.int .i64 0); have hz1 := cell_size kr0)
  | (go_at_call 71; refine (HK.out _).mono ?_; rintro x w2 ⟨rfl, hg_w2⟩; obtain ⟨lr0, lrz0, lr1, lrz1⟩ := hg_w2.y2 w.heap.size 0 1 (.int .u64 0) (.int .i64 0); obtain ⟨ls0, ls1, ls2, ls3, ls4⟩ := hg_w2.e5 w1.heap.size 0 1 2 3 4 (.int .i64 p) (.int .i64 mn) (.int .i64 mx) (.int .i64 mode) (.func (.func k) #[] #[]); have hz2 := cell_size lr0; have hy2 := cell_size ls0)
  | (go_at_call 72; refine (HF.out _).mono ?_; rintro x w3 ⟨rfl, hg_w3⟩; obtain ⟨nr0, nrz0, nr1, nrz1⟩ := hg_w3.y2 w.heap.size 0 1 (.int .u64 0) (.int .i64 0); obtain ⟨ns0, ns1, ns2, ns3, ns4⟩ := hg_w3.e5 w1.heap.size 0 1 2 3 4 (.int .i64 p) (.int .i64 mn) (.int .i64 mx) (.int .i64 mode) (.func (.func k) #[] #[]); have hz3 := cell_size nr0; have hy3 := cell_size ns0)
  | (go_at_call 73; refine (HA.out _).mono ?_; rintro x w4 ⟨rfl, hg_w4⟩; obtain ⟨pr0, prz0, pr1, prz1⟩ := hg_w4.y2 w.heap.size 0 1 (.int .u64 0) (.int .i64 0); obtain ⟨ps0, ps1, ps2, ps3, ps4⟩ := hg_w4.e5 w1.heap.size 0 1 2 3 4 (.int .i64 p) (.int .i64 mn) (.int .i64 mx) (.int .i64 mode) (.func (.func k) #[] #[]); have hz4 := cell_size pr0; have hy4 := cell_size ps0))
 obtain ⟨w5, hw5⟩ : ∃ w5, w4.alloc (.cells #[.int .i64 sx, .int .i64 ex, .int .i64 cx, .int .u64 xh, .int .u64 xl, .bool tx, .int .i64 0] 122) = w5 := ⟨_, rfl⟩
 have hg_w5 : Gr w4 w5 := by rw [← hw5]; exact (Gr.refl _).alloc _ _
 have x0 : w5.cell? ⟨w4.heap.size, 0, none⟩ = some (.int .i64 sx) := by rw [← hw5]; simp [go_sem]
 have xz0 : w5.frozen? ⟨w4.heap.size, 0, none⟩ = false := by rw [← hw5]; simp [go_sem]
 have x1 : w5.cell? ⟨w4.heap.size, 1, none⟩ = some (.int .i64 ex) := by rw [← hw5]; simp [go_sem]
 have xz1 : w5.frozen? ⟨w4.heap.size, 1, none⟩ = false := by rw [← hw5]; simp [go_sem]
 have x2 : w5.cell? ⟨w4.heap.size, 2, none⟩ = some (.int .i64 cx) := by rw [← hw5]; simp [go_sem]
 have xz2 : w5.frozen? ⟨w4.heap.size, 2, none⟩ = false := by rw [← hw5]; simp [go_sem]
 have x3 : w5.cell? ⟨w4.heap.size, 3, none⟩ = some (.int .u64 xh) := by rw [← hw5]; simp [go_sem]
 have xz3 : w5.frozen? ⟨w4.heap.size, 3, none⟩ = false := by rw [← hw5]; simp [go_sem]
 have x4 : w5.cell? ⟨w4.heap.size, 4, none⟩ = some (.int .u64 xl) := by rw [← hw5]; simp [go_sem]
 have xz4 : w5.frozen? ⟨w4.heap.size, 4, none⟩ = false := by rw [← hw5]; simp [go_sem]
 have x5 : w5.cell? ⟨w4.heap.size, 5, none⟩ = some (.bool tx) := by rw [← hw5]; simp [go_sem]
 have xz5 : w5.frozen? ⟨w4.heap.size, 5, none⟩ = false := by rw [← hw5]; simp [go_sem]
 have x6 : w5.cell? ⟨w4.heap.size, 6, none⟩ = some (.int .i64 0) := by rw [← hw5]; simp [go_sem]
 have xz6 : w5.frozen? ⟨w4.heap.size, 6, none⟩ = false := by rw [← hw5]; simp [go_sem]
 have hz5 : w4.heap.size < w5.heap.size := by rw [← hw5]; simp
 rw [hw5]
 clear hw5
 obtain ⟨rr0, rrz0, rr1, rrz1⟩ := hg_w5.y2 w.heap.size 0 1 (.int .u64 0) (.int .i64 0); obtain ⟨rs0, rs1, rs2, rs3, rs4⟩ := hg_w5.e5 w1.heap.size 0 1 2 3 4 (.int .i64 p) (.int .i64 mn) (.int .i64 mx) (.int .i64 mode) (.func (.func k) #[] #[])
 have hgw5 : Gr w w5 := Gr.g
 go_upto_region 7 with (go_at_call 74; refine (HC.out _).mono ?_; rintro x w6 ⟨rfl, hg_w6⟩; obtain ⟨tr0, trz0, tr1, trz1⟩ := hg_w6.y2 w.heap.size 0 1 (.int .u64 0) (.int .i64 0); obtain ⟨tx0, txz0, tx1, txz1, tx2, txz2, tx3, txz3, tx4, txz4, tx5, txz5, tx6, txz6⟩ := hg_w6.y7 w4.heap.size 0 1 2 3 4 5 6 (.int .i64 sx) (.int .i64 ex) (.int .i64 cx) (.int .u64 xh) (.int .u64 xl) (.bool tx) (.int .i64 0); have hz6 := cell_size tx0)
 obtain ⟨w7, hw7⟩ : ∃ w7, ((((((w6.setCell ⟨w4.heap.size, 0, none⟩ (.int .i64 os)).setCell ⟨w4.heap.size, 1, none⟩ (.int .i64 oe)).setCell ⟨w4.heap.size, 2, none⟩ (.int .i64 oc)).setCell ⟨w4.heap.size, 3, none⟩ (.int .u64 oh)).setCell ⟨w4.heap.size, 4, none⟩ (.int .u64 ol)).setCell ⟨w4.heap.size, 5, none⟩ (.bool ot)).setCell ⟨w4.heap.size, 6, none⟩ (.int .i64 of) = w7 := ⟨_, rfl⟩
 have hgw6 : Gr w w6 := Gr.g
 have hlt : w.heap.size ≤ w4.heap.size := by omega
 have hgw7 : Gr w w7 := by
  exact twL5TI0
 have y0 : w7.cell? ⟨w4.heap.size, 0, none⟩ = some (.int .i64 os) := by rw [← hw7]; exact kh
 have y1 : w7.cell? ⟨w4.heap.size, 1, none⟩ = some (.int .i64 oe) := by rw [← hw7]; exact kh
 have y2 : w7.cell? ⟨w4.heap.size, 2, none⟩ = some (.int .i64 oc) := by rw [← hw7]; exact kh
 have y3 : w7.cell? ⟨w4.heap.size, 3, none⟩ = some (.int .u64 oh) := by rw [← hw7]; exact kh
 have y4 : w7.cell? ⟨w4.heap.size, 4, none⟩ = some (.int .u64 ol) := by rw [← hw7]; exact kh
 have y5 : w7.cell? ⟨w4.heap.size, 5, none⟩ = some (.bool ot) := by rw [← hw7]; exact kh
 have y6 : w7.cell? ⟨w4.heap.size, 6, none⟩ = some (.int .i64 of) := by rw [← hw7]; exact kh
 have yr0 : w7.cell? ⟨w.heap.size, 0, none⟩ = some (.int .u64 0) := by rw [← hw7]; exact kh
 have yrz0 : w7.frozen? ⟨w.heap.size, 0, none⟩ = false := by rw [← hw7]; exact kh
 have yr1 : w7.cell? ⟨w.heap.size, 1, none⟩ = some (.int .i64 0) := by rw [← hw7]; exact kh
 have yrz1 : w7.frozen? ⟨w.heap.size, 1, none⟩ = false := by rw [← hw7]; exact kh
 have hz7 : w4.heap.size < w7.heap.size := cell_size y0
 rw [hw7]
 clear hw7
 go_region_held3 (fun w' => w'.cell? ⟨w4.heap.size, 0, none⟩ = some (.int .i64 os) ∧ w'.cell? ⟨w4.heap.size, 1, none⟩ = some (.int .i64 oe) ∧ w'.cell? ⟨w4.heap.size, 2, none⟩ = some (.int .i64 oc) ∧ w'.cell? ⟨w4.heap.size, 3, none⟩ = some (.int .u64 oh) ∧ w'.cell? ⟨w4.heap.size, 4, none⟩ = some (.int .u64 ol) ∧ w'.cell? ⟨w4.heap.size, 5, none⟩ = some (.bool ot) ∧ w'.cell? ⟨w4.heap.size, 6, none⟩ = some (.int .i64 of))
  ((go_split_ands; (repeat' apply And.intro) <;> exact kh))
  (first
   | (go_at_call 76; refine (HZ.out _).mono ?_; rintro x w8 ⟨rfl, hg_w8⟩; obtain ⟨vr0, vrz0, vr1, vrz1⟩ := hg_w8.y2 w.heap.size 0 1 (.int .u64 0) (.int .i64 0))
   | (go_at_call 273; refine (HT.out _).mono ?_; rintro x w9 ⟨rfl, hg_w9⟩; obtain ⟨zr0, zrz0, zr1, zrz1⟩ := hg_w9.y2 w.heap.size 0 1 (.int .u64 0) (.int .i64 0); have zx6 := hg_w9.e1 w4.heap.size 6 (.int .i64 of)))
 all_goals (try go_split_ands)
 all_goals go_wp2
 all_goals
  refine bodyPost_ret (v := .agg #[.int .u64 z, .int .i64 1]) (by simp [results, Tryz.results23, go_sem, zr0, zr1]) rfl ⟨rfl, ?_⟩
  exact Gr.g
set_option maxRecDepth 1000000 in
theorem to_y2 (p mn mx mode f kind a sx ex cx xh xl os oe oc oh ol of rh rl z : Int) (tx ot q : Bool) (hq : q = true) (k : Nat) {w : World} (HS : Hid (∀ w', Gr w w' → Calls Tryz.prog 70 #[.int .i64 f, .int .i64 mode] w' fun x w'' => x = .returned (.tuple #[.agg #[.int .i64 p, .int .i64 mn, .int .i64 mx, .int .i64 mode, .func (.func k) #[] #[]], .bool true]) ∧ Gr w' w'')) (HK : KR 71 #[.int .i64 kind] (.tuple #[.iface 181 (.agg #[.int .u32 0, .int .u32 4294967295]), .bool true])) (HF : KR 72 #[.agg #[.int .i64 p, .int .i64 mn, .int .i64 mx], .int .u64 a] (.bool true)) (HA : KR 73 #[.agg #[.int .i64 p, .int .i64 mn, .int .i64 mx], .int .u64 a] (.agg #[.int .i64 sx, .int .i64 ex, .int .i64 cx, .int .u64 xh, .int .u64 xl, .bool tx, .int .i64 0])) (HC : KR 74 #[.agg #[.int .i64 p, .int .i64 mn, .int .i64 mx, .int .i64 mode, .func (.func k) #[] #[]], .func (.func 75) #[] #[], .agg #[.int .i64 sx, .int .i64 ex, .int .i64 cx, .int .u64 xh, .int .u64 xl, .bool tx, .int .i64 0], .agg #[.int .i64 sx, .int .i64 ex, .int .i64 cx, .int .u64 xh, .int .u64 xl, .bool tx, .int .i64 0]] (.agg #[.int .i64 os, .int .i64 oe, .int .i64 oc, .int .u64 oh, .int .u64 ol, .bool ot, .int .i64 of])) (HZ : KR 76 #[.agg #[.int .i64 os, .int .i64 oe, .int .i64 oc, .int .u64 oh, .int .u64 ol, .bool ot, .int .i64 of]] (.agg #[.int .u64 rh, .int .u64 rl])) (HT : KR 273 #[.agg #[.int .u32 0, .int .u32 4294967295], .int .i64 os, .agg #[.int .u64 rh, .int .u64 rl]] (.tuple #[.int .u64 z, .bool q])) :
  Calls Tryz.prog 23 #[.int .i64 f, .int .i64 mode, .int .i64 kind, .int .u64 a] w fun e w' => e = .returned (.agg #[.int .u64 z, .int .i64 of]) ∧ Gr w w' := by
 subst hq
 have hnil : ∀ w, Sem.run Tryz.prog (nilAhead 371 181 (.agg #[.int .u32 0, .int .u32 4294967295]) "loop.example/s01330/impl.toWord") w = Result.ok (some false) w := fun w => by kernel_rfl
 go_enter Tryz.func23, Tryz.ntmps23
 go_upto_region 6 with (first
  | (go_at_call 70; refine (HS.out _ Gr.g).mono ?_; rintro x w1 ⟨rfl, hg_w1⟩; obtain ⟨kr0, krz0, kr1, krz1⟩ := hg_w1.y2 w.heap.size 0 1 (.int .u64 0) (.int .i64 0); have hz1 := cell_size kr0)
  | (go_at_call 71; refine (HK.out _).mono ?_; rintro x w2 ⟨rfl, hg_w2⟩; obtain ⟨lr0, lrz0, lr1, lrz1⟩ := hg_w2.y2 w.heap.size 0 1 (.int .u64 0) (.int .i64 0); obtain ⟨ls0, ls1, ls2, ls3, ls4⟩ := hg_w2.e5 w1.heap.size 0 1 2 3 4 (.int .i64 p) (.int .i64 mn) (.int .i64 mx) (.int .i64 mode) (.func (.func k) #[] #[]); have hz2 := cell_size lr0; have hy2 := cell_size ls0)
  | (go_at_call 72; refine (HF.out _).mono ?_; rintro x w3 ⟨rfl, hg_w3⟩; obtain ⟨nr0, nrz0, nr1, nrz1⟩ := hg_w3.y2 w.heap.size 0 1 (.int .u64 0) (.int .i64 0); obtain ⟨ns0, ns1, ns2, ns3, ns4⟩ := hg_w3.e5 w1.heap.size 0 1 2 3 4 (.int .i64 p) (.int .i64 mn) (.int .i64 mx) (.int .i64 mode) (.func (.func k) #[] #[]); have hz3 := cell_size nr0; have hy3 := cell_size ns0)
  | (go_at_call 73; refine (HA.out _).mono ?_; rintro x w4 ⟨rfl, hg_w4⟩; obtain ⟨pr0, prz0, pr1, prz1⟩ := hg_w4.y2 w.heap.size 0 1 (.int .u64 0) (.int .i64 0); obtain ⟨ps0, ps1, ps2, ps3, ps4⟩ := hg_w4.e5 w1.heap.size 0 1 2 3 4 (.int .i64 p) (.int .i64 mn) (.int .i64 mx) (.int .i64 mode) (.func (.func k) #[] #[]); have hz4 := cell_size pr0; have hy4 := cell_size ps0))
 obtain ⟨w5, hw5⟩ : ∃ w5, w4.alloc (.cells #[.int .i64 sx, .int .i64 ex, .int .i64 cx, .int .u64 xh, .int .u64 xl, .bool tx, .int .i64 0] 122) = w5 := ⟨_, rfl⟩
 have hg_w5 : Gr w4 w5 := by rw [← hw5]; exact (Gr.refl _).alloc _ _
 have x0 : w5.cell? ⟨w4.heap.size, 0, none⟩ = some (.int .i64 sx) := by rw [← hw5]; simp [go_sem]
 have xz0 : w5.frozen? ⟨w4.heap.size, 0, none⟩ = false := by rw [← hw5]; simp [go_sem]
 have x1 : w5.cell? ⟨w4.heap.size, 1, none⟩ = some (.int .i64 ex) := by rw [← hw5]; simp [go_sem]
 have xz1 : w5.frozen? ⟨w4.heap.size, 1, none⟩ = false := by rw [← hw5]; simp [go_sem]
 have x2 : w5.cell? ⟨w4.heap.size, 2, none⟩ = some (.int .i64 cx) := by rw [← hw5]; simp [go_sem]
 have xz2 : w5.frozen? ⟨w4.heap.size, 2, none⟩ = false := by rw [← hw5]; simp [go_sem]
 have x3 : w5.cell? ⟨w4.heap.size, 3, none⟩ = some (.int .u64 xh) := by rw [← hw5]; simp [go_sem]
 have xz3 : w5.frozen? ⟨w4.heap.size, 3, none⟩ = false := by rw [← hw5]; simp [go_sem]
 have x4 : w5.cell? ⟨w4.heap.size, 4, none⟩ = some (.int .u64 xl) := by rw [← hw5]; simp [go_sem]
 have xz4 : w5.frozen? ⟨w4.heap.size, 4, none⟩ = false := by rw [← hw5]; simp [go_sem]
 have x5 : w5.cell? ⟨w4.heap.size, 5, none⟩ = some (.bool tx) := by rw [← hw5]; simp [go_sem]
 have xz5 : w5.frozen? ⟨w4.heap.size, 5, none⟩ = false := by rw [← hw5]; simp [go_sem]
 have x6 : w5.cell? ⟨w4.heap.size, 6, none⟩ = some (.int .i64 0) := by rw [← hw5]; simp [go_sem]
 have xz6 : w5.frozen? ⟨w4.heap.size, 6, none⟩ = false := by rw [← hw5]; simp [go_sem]
 have hz5 : w4.heap.size < w5.heap.size := by rw [← hw5]; simp
 rw [hw5]
 clear hw5
 obtain ⟨rr0, rrz0, rr1, rrz1⟩ := hg_w5.y2 w.heap.size 0 1 (.int .u64 0) (.int .i64 0); obtain ⟨rs0, rs1, rs2, rs3, rs4⟩ := hg_w5.e5 w1.heap.size 0 1 2 3 4 (.int .i64 p) (.int .i64 mn) (.int .i64 mx) (.int .i64 mode) (.func (.func k) #[] #[])
 have hgw5 : Gr w w5 := Gr.g
 go_upto_region 7 with (go_at_call 74; refine (HC.out _).mono ?_; rintro x w6 ⟨rfl, hg_w6⟩; obtain ⟨tr0, trz0, tr1, trz1⟩ := hg_w6.y2 w.heap.size 0 1 (.int .u64 0) (.int .i64 0); obtain ⟨tx0, txz0, tx1, txz1, tx2, txz2, tx3, txz3, tx4, txz4, tx5, txz5, tx6, txz6⟩ := hg_w6.y7 w4.heap.size 0 1 2 3 4 5 6 (.int .i64 sx) (.int .i64 ex) (.int .i64 cx) (.int .u64 xh) (.int .u64 xl) (.bool tx) (.int .i64 0); have hz6 := cell_size tx0)
 obtain ⟨w7, hw7⟩ : ∃ w7, ((((((w6.setCell ⟨w4.heap.size, 0, none⟩ (.int .i64 os)).setCell ⟨w4.heap.size, 1, none⟩ (.int .i64 oe)).setCell ⟨w4.heap.size, 2, none⟩ (.int .i64 oc)).setCell ⟨w4.heap.size, 3, none⟩ (.int .u64 oh)).setCell ⟨w4.heap.size, 4, none⟩ (.int .u64 ol)).setCell ⟨w4.heap.size, 5, none⟩ (.bool ot)).setCell ⟨w4.heap.size, 6, none⟩ (.int .i64 of) = w7 := ⟨_, rfl⟩
 have hgw6 : Gr w w6 := Gr.g
 have hlt : w.heap.size ≤ w4.heap.size := by omega
 have hgw7 : Gr w w7 := by
  exact twL5TI0
 have y0 : w7.cell? ⟨w4.heap.size, 0, none⟩ = some (.int .i64 os) := by rw [← hw7]; exact kh
 have y1 : w7.cell? ⟨w4.heap.size, 1, none⟩ = some (.int .i64 oe) := by rw [← hw7]; exact kh
 have y2 : w7.cell? ⟨w4.heap.size, 2, none⟩ = some (.int .i64 oc) := by rw [← hw7]; exact kh
 have y3 : w7.cell? ⟨w4.heap.size, 3, none⟩ = some (.int .u64 oh) := by rw [← hw7]; exact kh
 have y4 : w7.cell? ⟨w4.heap.size, 4, none⟩ = some (.int .u64 ol) := by rw [← hw7]; exact kh
 have y5 : w7.cell? ⟨w4.heap.size, 5, none⟩ = some (.bool ot) := by rw [← hw7]; exact kh
 have y6 : w7.cell? ⟨w4.heap.size, 6, none⟩ = some (.int .i64 of) := by rw [← hw7]; exact kh
 have yr0 : w7.cell? ⟨w.heap.size, 0, none⟩ = some (.int .u64 0) := by rw [← hw7]; exact kh
 have yrz0 : w7.frozen? ⟨w.heap.size, 0, none⟩ = false := by rw [← hw7]; exact kh
 have yr1 : w7.cell? ⟨w.heap.size, 1, none⟩ = some (.int .i64 0) := by rw [← hw7]; exact kh
 have yrz1 : w7.frozen? ⟨w.heap.size, 1, none⟩ = false := by rw [← hw7]; exact kh
 have hz7 : w4.heap.size < w7.heap.size := cell_size y0
 rw [hw7]
 clear hw7
 go_region_held3 (fun w' => w'.cell? ⟨w4.heap.size, 0, none⟩ = some (.int .i64 os) ∧ w'.cell? ⟨w4.heap.size, 1, none⟩ = some (.int .i64 oe) ∧ w'.cell? ⟨w4.heap.size, 2, none⟩ = some (.int .i64 oc) ∧ w'.cell? ⟨w4.heap.size, 3, none⟩ = some (.int .u64 oh) ∧ w'.cell? ⟨w4.heap.size, 4, none⟩ = some (.int .u64 ol) ∧ w'.cell? ⟨w4.heap.size, 5, none⟩ = some (.bool ot) ∧ w'.cell? ⟨w4.heap.size, 6, none⟩ = some (.int .i64 of))
  ((go_split_ands; (repeat' apply And.intro) <;> exact kh))
  (first
   | (go_at_call 76; refine (HZ.out _).mono ?_; rintro x w8 ⟨rfl, hg_w8⟩; obtain ⟨vr0, vrz0, vr1, vrz1⟩ := hg_w8.y2 w.heap.size 0 1 (.int .u64 0) (.int .i64 0))
   | (go_at_call 273; refine (HT.out _).mono ?_; rintro x w9 ⟨rfl, hg_w9⟩; obtain ⟨zr0, zrz0, zr1, zrz1⟩ := hg_w9.y2 w.heap.size 0 1 (.int .u64 0) (.int .i64 0); have zx6 := hg_w9.e1 w4.heap.size 6 (.int .i64 of)))
 all_goals (try go_split_ands)
 all_goals go_wp2
 all_goals
  refine bodyPost_ret (v := .agg #[.int .u64 z, .int .i64 of]) (by simp [results, Tryz.results23, go_sem, zr0, zr1]) rfl ⟨rfl, ?_⟩
  exact Gr.g
set_option maxRecDepth 1000000 in
theorem to_n3 (p mn mx mode f kind a sx ex cx xh xl os oe oc oh ol of rh rl z : Int) (tx ot q : Bool) (hq : q = false) (k : Nat) {w : World} (HS : Hid (∀ w', Gr w w' → Calls Tryz.prog 70 #[.int .i64 f, .int .i64 mode] w' fun x w'' => x = .returned (.tuple #[.agg #[.int .i64 p, .int .i64 mn, .int .i64 mx, .int .i64 mode, .func (.func k) #[] #[]], .bool true]) ∧ Gr w' w'')) (HK : KR 71 #[.int .i64 kind] (.tuple #[.iface 183 (.agg #[.int .u64 0, .int .u64 18446744073709551615]), .bool true])) (HF : KR 72 #[.agg #[.int .i64 p, .int .i64 mn, .int .i64 mx], .int .u64 a] (.bool true)) (HA : KR 73 #[.agg #[.int .i64 p, .int .i64 mn, .int .i64 mx], .int .u64 a] (.agg #[.int .i64 sx, .int .i64 ex, .int .i64 cx, .int .u64 xh, .int .u64 xl, .bool tx, .int .i64 0])) (HC : KR 74 #[.agg #[.int .i64 p, .int .i64 mn, .int .i64 mx, .int .i64 mode, .func (.func k) #[] #[]], .func (.func 75) #[] #[], .agg #[.int .i64 sx, .int .i64 ex, .int .i64 cx, .int .u64 xh, .int .u64 xl, .bool tx, .int .i64 0], .agg #[.int .i64 sx, .int .i64 ex, .int .i64 cx, .int .u64 xh, .int .u64 xl, .bool tx, .int .i64 0]] (.agg #[.int .i64 os, .int .i64 oe, .int .i64 oc, .int .u64 oh, .int .u64 ol, .bool ot, .int .i64 of])) (HZ : KR 76 #[.agg #[.int .i64 os, .int .i64 oe, .int .i64 oc, .int .u64 oh, .int .u64 ol, .bool ot, .int .i64 of]] (.agg #[.int .u64 rh, .int .u64 rl])) (HT : KR 275 #[.agg #[.int .u64 0, .int .u64 18446744073709551615], .int .i64 os, .agg #[.int .u64 rh, .int .u64 rl]] (.tuple #[.int .u64 z, .bool q])) :
  Calls Tryz.prog 23 #[.int .i64 f, .int .i64 mode, .int .i64 kind, .int .u64 a] w fun e w' => e = .returned (.agg #[.int .u64 z, .int .i64 1]) ∧ Gr w w' := by
 subst hq
 have hnil : ∀ w, Sem.run Tryz.prog (nilAhead 371 183 (.agg #[.int .u64 0, .int .u64 18446744073709551615]) "loop.example/s01330/impl.toWord") w = Result.ok (some false) w := fun w => by kernel_rfl
 go_enter Tryz.func23, Tryz.ntmps23
 go_upto_region 6 with (first
  | (go_at_call 70; refine (HS.out _ Gr.g).mono ?_; rintro x w1 ⟨rfl, hg_w1⟩; obtain ⟨kr0, krz0, kr1, krz1⟩ := hg_w1.y2 w.heap.size 0 1 (.int .u64 0) (.int .i64 0); have hz1 := cell_size kr0)
  | (go_at_call 71; refine (HK.out _).mono ?_; rintro x w2 ⟨rfl, hg_w2⟩; obtain ⟨lr0, lrz0, lr1, lrz1⟩ := hg_w2.y2 w.heap.size 0 1 (.int .u64 0) (.int .i64 0); obtain ⟨ls0, ls1, ls2, ls3, ls4⟩ := hg_w2.e5 w1.heap.size 0 1 2 3 4 (.int .i64 p) (.int .i64 mn) (.int .i64 mx) (.int .i64 mode) (.func (.func k) #[] #[]); have hz2 := cell_size lr0; have hy2 := cell_size ls0)
  | (go_at_call 72; refine (HF.out _).mono ?_; rintro x w3 ⟨rfl, hg_w3⟩; obtain ⟨nr0, nrz0, nr1, nrz1⟩ := hg_w3.y2 w.heap.size 0 1 (.int .u64 0) (.int .i64 0); obtain ⟨ns0, ns1, ns2, ns3, ns4⟩ := hg_w3.e5 w1.heap.size 0 1 2 3 4 (.int .i64 p) (.int .i64 mn) (.int .i64 mx) (.int .i64 mode) (.func (.func k) #[] #[]); have hz3 := cell_size nr0; have hy3 := cell_size ns0)
  | (go_at_call 73; refine (HA.out _).mono ?_; rintro x w4 ⟨rfl, hg_w4⟩; obtain ⟨pr0, prz0, pr1, prz1⟩ := hg_w4.y2 w.heap.size 0 1 (.int .u64 0) (.int .i64 0); obtain ⟨ps0, ps1, ps2, ps3, ps4⟩ := hg_w4.e5 w1.heap.size 0 1 2 3 4 (.int .i64 p) (.int .i64 mn) (.int .i64 mx) (.int .i64 mode) (.func (.func k) #[] #[]); have hz4 := cell_size pr0; have hy4 := cell_size ps0))
 obtain ⟨w5, hw5⟩ : ∃ w5, w4.alloc (.cells #[.int .i64 sx, .int .i64 ex, .int .i64 cx, .int .u64 xh, .int .u64 xl, .bool tx, .int .i64 0] 122) = w5 := ⟨_, rfl⟩
 have hg_w5 : Gr w4 w5 := by rw [← hw5]; exact (Gr.refl _).alloc _ _
 have x0 : w5.cell? ⟨w4.heap.size, 0, none⟩ = some (.int .i64 sx) := by rw [← hw5]; simp [go_sem]
 have xz0 : w5.frozen? ⟨w4.heap.size, 0, none⟩ = false := by rw [← hw5]; simp [go_sem]
 have x1 : w5.cell? ⟨w4.heap.size, 1, none⟩ = some (.int .i64 ex) := by rw [← hw5]; simp [go_sem]
 have xz1 : w5.frozen? ⟨w4.heap.size, 1, none⟩ = false := by rw [← hw5]; simp [go_sem]
 have x2 : w5.cell? ⟨w4.heap.size, 2, none⟩ = some (.int .i64 cx) := by rw [← hw5]; simp [go_sem]
 have xz2 : w5.frozen? ⟨w4.heap.size, 2, none⟩ = false := by rw [← hw5]; simp [go_sem]
 have x3 : w5.cell? ⟨w4.heap.size, 3, none⟩ = some (.int .u64 xh) := by rw [← hw5]; simp [go_sem]
 have xz3 : w5.frozen? ⟨w4.heap.size, 3, none⟩ = false := by rw [← hw5]; simp [go_sem]
 have x4 : w5.cell? ⟨w4.heap.size, 4, none⟩ = some (.int .u64 xl) := by rw [← hw5]; simp [go_sem]
 have xz4 : w5.frozen? ⟨w4.heap.size, 4, none⟩ = false := by rw [← hw5]; simp [go_sem]
 have x5 : w5.cell? ⟨w4.heap.size, 5, none⟩ = some (.bool tx) := by rw [← hw5]; simp [go_sem]
 have xz5 : w5.frozen? ⟨w4.heap.size, 5, none⟩ = false := by rw [← hw5]; simp [go_sem]
 have x6 : w5.cell? ⟨w4.heap.size, 6, none⟩ = some (.int .i64 0) := by rw [← hw5]; simp [go_sem]
 have xz6 : w5.frozen? ⟨w4.heap.size, 6, none⟩ = false := by rw [← hw5]; simp [go_sem]
 have hz5 : w4.heap.size < w5.heap.size := by rw [← hw5]; simp
 rw [hw5]
 clear hw5
 obtain ⟨rr0, rrz0, rr1, rrz1⟩ := hg_w5.y2 w.heap.size 0 1 (.int .u64 0) (.int .i64 0); obtain ⟨rs0, rs1, rs2, rs3, rs4⟩ := hg_w5.e5 w1.heap.size 0 1 2 3 4 (.int .i64 p) (.int .i64 mn) (.int .i64 mx) (.int .i64 mode) (.func (.func k) #[] #[])
 have hgw5 : Gr w w5 := Gr.g
 go_upto_region 7 with (go_at_call 74; refine (HC.out _).mono ?_; rintro x w6 ⟨rfl, hg_w6⟩; obtain ⟨tr0, trz0, tr1, trz1⟩ := hg_w6.y2 w.heap.size 0 1 (.int .u64 0) (.int .i64 0); obtain ⟨tx0, txz0, tx1, txz1, tx2, txz2, tx3, txz3, tx4, txz4, tx5, txz5, tx6, txz6⟩ := hg_w6.y7 w4.heap.size 0 1 2 3 4 5 6 (.int .i64 sx) (.int .i64 ex) (.int .i64 cx) (.int .u64 xh) (.int .u64 xl) (.bool tx) (.int .i64 0); have hz6 := cell_size tx0)
 obtain ⟨w7, hw7⟩ : ∃ w7, ((((((w6.setCell ⟨w4.heap.size, 0, none⟩ (.int .i64 os)).setCell ⟨w4.heap.size, 1, none⟩ (.int .i64 oe)).setCell ⟨w4.heap.size, 2, none⟩ (.int .i64 oc)).setCell ⟨w4.heap.size, 3, none⟩ (.int .u64 oh)).setCell ⟨w4.heap.size, 4, none⟩ (.int .u64 ol)).setCell ⟨w4.heap.size, 5, none⟩ (.bool ot)).setCell ⟨w4.heap.size, 6, none⟩ (.int .i64 of) = w7 := ⟨_, rfl⟩
 have hgw6 : Gr w w6 := Gr.g
 have hlt : w.heap.size ≤ w4.heap.size := by omega
 have hgw7 : Gr w w7 := by
  exact twL5TI0
 have y0 : w7.cell? ⟨w4.heap.size, 0, none⟩ = some (.int .i64 os) := by rw [← hw7]; exact kh
 have y1 : w7.cell? ⟨w4.heap.size, 1, none⟩ = some (.int .i64 oe) := by rw [← hw7]; exact kh
 have y2 : w7.cell? ⟨w4.heap.size, 2, none⟩ = some (.int .i64 oc) := by rw [← hw7]; exact kh
 have y3 : w7.cell? ⟨w4.heap.size, 3, none⟩ = some (.int .u64 oh) := by rw [← hw7]; exact kh
 have y4 : w7.cell? ⟨w4.heap.size, 4, none⟩ = some (.int .u64 ol) := by rw [← hw7]; exact kh
 have y5 : w7.cell? ⟨w4.heap.size, 5, none⟩ = some (.bool ot) := by rw [← hw7]; exact kh
 have y6 : w7.cell? ⟨w4.heap.size, 6, none⟩ = some (.int .i64 of) := by rw [← hw7]; exact kh
 have yr0 : w7.cell? ⟨w.heap.size, 0, none⟩ = some (.int .u64 0) := by rw [← hw7]; exact kh
 have yrz0 : w7.frozen? ⟨w.heap.size, 0, none⟩ = false := by rw [← hw7]; exact kh
 have yr1 : w7.cell? ⟨w.heap.size, 1, none⟩ = some (.int .i64 0) := by rw [← hw7]; exact kh
 have yrz1 : w7.frozen? ⟨w.heap.size, 1, none⟩ = false := by rw [← hw7]; exact kh
 have hz7 : w4.heap.size < w7.heap.size := cell_size y0
 rw [hw7]
 clear hw7
 go_region_held3 (fun w' => w'.cell? ⟨w4.heap.size, 0, none⟩ = some (.int .i64 os) ∧ w'.cell? ⟨w4.heap.size, 1, none⟩ = some (.int .i64 oe) ∧ w'.cell? ⟨w4.heap.size, 2, none⟩ = some (.int .i64 oc) ∧ w'.cell? ⟨w4.heap.size, 3, none⟩ = some (.int .u64 oh) ∧ w'.cell? ⟨w4.heap.size, 4, none⟩ = some (.int .u64 ol) ∧ w'.cell? ⟨w4.heap.size, 5, none⟩ = some (.bool ot) ∧ w'.cell? ⟨w4.heap.size, 6, none⟩ = some (.int .i64 of))
  ((go_split_ands; (repeat' apply And.intro) <;> exact kh))
  (first
   | (go_at_call 76; refine (HZ.out _).mono ?_; rintro x w8 ⟨rfl, hg_w8⟩; obtain ⟨vr0, vrz0, vr1, vrz1⟩ := hg_w8.y2 w.heap.size 0 1 (.int .u64 0) (.int .i64 0))
   | (go_at_call 275; refine (HT.out _).mono ?_; rintro x w9 ⟨rfl, hg_w9⟩; obtain ⟨zr0, zrz0, zr1, zrz1⟩ := hg_w9.y2 w.heap.size 0 1 (.int .u64 0) (.int .i64 0); have zx6 := hg_w9.e1 w4.heap.size 6 (.int .i64 of)))
 all_goals (try go_split_ands)
 all_goals go_wp2
 all_goals
  refine bodyPost_ret (v := .agg #[.int .u64 z, .int .i64 1]) (by simp [results, Tryz.results23, go_sem, zr0, zr1]) rfl ⟨rfl, ?_⟩
  exact Gr.g
set_option maxRecDepth 1000000 in
theorem to_y3 (p mn mx mode f kind a sx ex cx xh xl os oe oc oh ol of rh rl z : Int) (tx ot q : Bool) (hq : q = true) (k : Nat) {w : World} (HS : Hid (∀ w', Gr w w' → Calls Tryz.prog 70 #[.int .i64 f, .int .i64 mode] w' fun x w'' => x = .returned (.tuple #[.agg #[.int .i64 p, .int .i64 mn, .int .i64 mx, .int .i64 mode, .func (.func k) #[] #[]], .bool true]) ∧ Gr w' w'')) (HK : KR 71 #[.int .i64 kind] (.tuple #[.iface 183 (.agg #[.int .u64 0, .int .u64 18446744073709551615]), .bool true])) (HF : KR 72 #[.agg #[.int .i64 p, .int .i64 mn, .int .i64 mx], .int .u64 a] (.bool true)) (HA : KR 73 #[.agg #[.int .i64 p, .int .i64 mn, .int .i64 mx], .int .u64 a] (.agg #[.int .i64 sx, .int .i64 ex, .int .i64 cx, .int .u64 xh, .int .u64 xl, .bool tx, .int .i64 0])) (HC : KR 74 #[.agg #[.int .i64 p, .int .i64 mn, .int .i64 mx, .int .i64 mode, .func (.func k) #[] #[]], .func (.func 75) #[] #[], .agg #[.int .i64 sx, .int .i64 ex, .int .i64 cx, .int .u64 xh, .int .u64 xl, .bool tx, .int .i64 0], .agg #[.int .i64 sx, .int .i64 ex, .int .i64 cx, .int .u64 xh, .int .u64 xl, .bool tx, .int .i64 0]] (.agg #[.int .i64 os, .int .i64 oe, .int .i64 oc, .int .u64 oh, .int .u64 ol, .bool ot, .int .i64 of])) (HZ : KR 76 #[.agg #[.int .i64 os, .int .i64 oe, .int .i64 oc, .int .u64 oh, .int .u64 ol, .bool ot, .int .i64 of]] (.agg #[.int .u64 rh, .int .u64 rl])) (HT : KR 275 #[.agg #[.int .u64 0, .int .u64 18446744073709551615], .int .i64 os, .agg #[.int .u64 rh, .int .u64 rl]] (.tuple #[.int .u64 z, .bool q])) :
  Calls Tryz.prog 23 #[.int .i64 f, .int .i64 mode, .int .i64 kind, .int .u64 a] w fun e w' => e = .returned (.agg #[.int .u64 z, .int .i64 of]) ∧ Gr w w' := by
 subst hq
 have hnil : ∀ w, Sem.run Tryz.prog (nilAhead 371 183 (.agg #[.int .u64 0, .int .u64 18446744073709551615]) "loop.example/s01330/impl.toWord") w = Result.ok (some false) w := fun w => by kernel_rfl
 go_enter Tryz.func23, Tryz.ntmps23
 go_upto_region 6 with (first
  | (go_at_call 70; refine (HS.out _ Gr.g).mono ?_; rintro x w1 ⟨rfl, hg_w1⟩; obtain ⟨kr0, krz0, kr1, krz1⟩ := hg_w1.y2 w.heap.size 0 1 (.int .u64 0) (.int .i64 0); have hz1 := cell_size kr0)
  | (go_at_call 71; refine (HK.out _).mono ?_; rintro x w2 ⟨rfl, hg_w2⟩; obtain ⟨lr0, lrz0, lr1, lrz1⟩ := hg_w2.y2 w.heap.size 0 1 (.int .u64 0) (.int .i64 0); obtain ⟨ls0, ls1, ls2, ls3, ls4⟩ := hg_w2.e5 w1.heap.size 0 1 2 3 4 (.int .i64 p) (.int .i64 mn) (.int .i64 mx) (.int .i64 mode) (.func (.func k) #[] #[]); have hz2 := cell_size lr0; have hy2 := cell_size ls0)
  | (go_at_call 72; refine (HF.out _).mono ?_; rintro x w3 ⟨rfl, hg_w3⟩; obtain ⟨nr0, nrz0, nr1, nrz1⟩ := hg_w3.y2 w.heap.size 0 1 (.int .u64 0) (.int .i64 0); obtain ⟨ns0, ns1, ns2, ns3, ns4⟩ := hg_w3.e5 w1.heap.size 0 1 2 3 4 (.int .i64 p) (.int .i64 mn) (.int .i64 mx) (.int .i64 mode) (.func (.func k) #[] #[]); have hz3 := cell_size nr0; have hy3 := cell_size ns0)
  | (go_at_call 73; refine (HA.out _).mono ?_; rintro x w4 ⟨rfl, hg_w4⟩; obtain ⟨pr0, prz0, pr1, prz1⟩ := hg_w4.y2 w.heap.size 0 1 (.int .u64 0) (.int .i64 0); obtain ⟨ps0, ps1, ps2, ps3, ps4⟩ := hg_w4.e5 w1.heap.size 0 1 2 3 4 (.int .i64 p) (.int .i64 mn) (.int .i64 mx) (.int .i64 mode) (.func (.func k) #[] #[]); have hz4 := cell_size pr0; have hy4 := cell_size ps0))
 obtain ⟨w5, hw5⟩ : ∃ w5, w4.alloc (.cells #[.int .i64 sx, .int .i64 ex, .int .i64 cx, .int .u64 xh, .int .u64 xl, .bool tx, .int .i64 0] 122) = w5 := ⟨_, rfl⟩
 have hg_w5 : Gr w4 w5 := by rw [← hw5]; exact (Gr.refl _).alloc _ _
 have x0 : w5.cell? ⟨w4.heap.size, 0, none⟩ = some (.int .i64 sx) := by rw [← hw5]; simp [go_sem]
 have xz0 : w5.frozen? ⟨w4.heap.size, 0, none⟩ = false := by rw [← hw5]; simp [go_sem]
 have x1 : w5.cell? ⟨w4.heap.size, 1, none⟩ = some (.int .i64 ex) := by rw [← hw5]; simp [go_sem]
 have xz1 : w5.frozen? ⟨w4.heap.size, 1, none⟩ = false := by rw [← hw5]; simp [go_sem]
 have x2 : w5.cell? ⟨w4.heap.size, 2, none⟩ = some (.int .i64 cx) := by rw [← hw5]; simp [go_sem]
 have xz2 : w5.frozen? ⟨w4.heap.size, 2, none⟩ = false := by rw [← hw5]; simp [go_sem]
 have x3 : w5.cell? ⟨w4.heap.size, 3, none⟩ = some (.int .u64 xh) := by rw [← hw5]; simp [go_sem]
 have xz3 : w5.frozen? ⟨w4.heap.size, 3, none⟩ = false := by rw [← hw5]; simp [go_sem]
 have x4 : w5.cell? ⟨w4.heap.size, 4, none⟩ = some (.int .u64 xl) := by rw [← hw5]; simp [go_sem]
 have xz4 : w5.frozen? ⟨w4.heap.size, 4, none⟩ = false := by rw [← hw5]; simp [go_sem]
 have x5 : w5.cell? ⟨w4.heap.size, 5, none⟩ = some (.bool tx) := by rw [← hw5]; simp [go_sem]
 have xz5 : w5.frozen? ⟨w4.heap.size, 5, none⟩ = false := by rw [← hw5]; simp [go_sem]
 have x6 : w5.cell? ⟨w4.heap.size, 6, none⟩ = some (.int .i64 0) := by rw [← hw5]; simp [go_sem]
 have xz6 : w5.frozen? ⟨w4.heap.size, 6, none⟩ = false := by rw [← hw5]; simp [go_sem]
 have hz5 : w4.heap.size < w5.heap.size := by rw [← hw5]; simp
 rw [hw5]
 clear hw5
 obtain ⟨rr0, rrz0, rr1, rrz1⟩ := hg_w5.y2 w.heap.size 0 1 (.int .u64 0) (.int .i64 0); obtain ⟨rs0, rs1, rs2, rs3, rs4⟩ := hg_w5.e5 w1.heap.size 0 1 2 3 4 (.int .i64 p) (.int .i64 mn) (.int .i64 mx) (.int .i64 mode) (.func (.func k) #[] #[])
 have hgw5 : Gr w w5 := Gr.g
 go_upto_region 7 with (go_at_call 74; refine (HC.out _).mono ?_; rintro x w6 ⟨rfl, hg_w6⟩; obtain ⟨tr0, trz0, tr1, trz1⟩ := hg_w6.y2 w.heap.size 0 1 (.int .u64 0) (.int .i64 0); obtain ⟨tx0, txz0, tx1, txz1, tx2, txz2, tx3, txz3, tx4, txz4, tx5, txz5, tx6, txz6⟩ := hg_w6.y7 w4.heap.size 0 1 2 3 4 5 6 (.int .i64 sx) (.int .i64 ex) (.int .i64 cx) (.int .u64 xh) (.int .u64 xl) (.bool tx) (.int .i64 0); have hz6 := cell_size tx0)
 obtain ⟨w7, hw7⟩ : ∃ w7, ((((((w6.setCell ⟨w4.heap.size, 0, none⟩ (.int .i64 os)).setCell ⟨w4.heap.size, 1, none⟩ (.int .i64 oe)).setCell ⟨w4.heap.size, 2, none⟩ (.int .i64 oc)).setCell ⟨w4.heap.size, 3, none⟩ (.int .u64 oh)).setCell ⟨w4.heap.size, 4, none⟩ (.int .u64 ol)).setCell ⟨w4.heap.size, 5, none⟩ (.bool ot)).setCell ⟨w4.heap.size, 6, none⟩ (.int .i64 of) = w7 := ⟨_, rfl⟩
 have hgw6 : Gr w w6 := Gr.g
 have hlt : w.heap.size ≤ w4.heap.size := by omega
 have hgw7 : Gr w w7 := by
  exact twL5TI0
 have y0 : w7.cell? ⟨w4.heap.size, 0, none⟩ = some (.int .i64 os) := by rw [← hw7]; exact kh
 have y1 : w7.cell? ⟨w4.heap.size, 1, none⟩ = some (.int .i64 oe) := by rw [← hw7]; exact kh
 have y2 : w7.cell? ⟨w4.heap.size, 2, none⟩ = some (.int .i64 oc) := by rw [← hw7]; exact kh
 have y3 : w7.cell? ⟨w4.heap.size, 3, none⟩ = some (.int .u64 oh) := by rw [← hw7]; exact kh
 have y4 : w7.cell? ⟨w4.heap.size, 4, none⟩ = some (.int .u64 ol) := by rw [← hw7]; exact kh
 have y5 : w7.cell? ⟨w4.heap.size, 5, none⟩ = some (.bool ot) := by rw [← hw7]; exact kh
 have y6 : w7.cell? ⟨w4.heap.size, 6, none⟩ = some (.int .i64 of) := by rw [← hw7]; exact kh
 have yr0 : w7.cell? ⟨w.heap.size, 0, none⟩ = some (.int .u64 0) := by rw [← hw7]; exact kh
 have yrz0 : w7.frozen? ⟨w.heap.size, 0, none⟩ = false := by rw [← hw7]; exact kh
 have yr1 : w7.cell? ⟨w.heap.size, 1, none⟩ = some (.int .i64 0) := by rw [← hw7]; exact kh
 have yrz1 : w7.frozen? ⟨w.heap.size, 1, none⟩ = false := by rw [← hw7]; exact kh
 have hz7 : w4.heap.size < w7.heap.size := cell_size y0
 rw [hw7]
 clear hw7
 go_region_held3 (fun w' => w'.cell? ⟨w4.heap.size, 0, none⟩ = some (.int .i64 os) ∧ w'.cell? ⟨w4.heap.size, 1, none⟩ = some (.int .i64 oe) ∧ w'.cell? ⟨w4.heap.size, 2, none⟩ = some (.int .i64 oc) ∧ w'.cell? ⟨w4.heap.size, 3, none⟩ = some (.int .u64 oh) ∧ w'.cell? ⟨w4.heap.size, 4, none⟩ = some (.int .u64 ol) ∧ w'.cell? ⟨w4.heap.size, 5, none⟩ = some (.bool ot) ∧ w'.cell? ⟨w4.heap.size, 6, none⟩ = some (.int .i64 of))
  ((go_split_ands; (repeat' apply And.intro) <;> exact kh))
  (first
   | (go_at_call 76; refine (HZ.out _).mono ?_; rintro x w8 ⟨rfl, hg_w8⟩; obtain ⟨vr0, vrz0, vr1, vrz1⟩ := hg_w8.y2 w.heap.size 0 1 (.int .u64 0) (.int .i64 0))
   | (go_at_call 275; refine (HT.out _).mono ?_; rintro x w9 ⟨rfl, hg_w9⟩; obtain ⟨zr0, zrz0, zr1, zrz1⟩ := hg_w9.y2 w.heap.size 0 1 (.int .u64 0) (.int .i64 0); have zx6 := hg_w9.e1 w4.heap.size 6 (.int .i64 of)))
 all_goals (try go_split_ands)
 all_goals go_wp2
 all_goals
  refine bodyPost_ret (v := .agg #[.int .u64 z, .int .i64 of]) (by simp [results, Tryz.results23, go_sem, zr0, zr1]) rfl ⟨rfl, ?_⟩
  exact Gr.g
end Go.Proofs.YtnbbfeknbfohhaaGreatDoor
