/- impl.RoundPack. -/
import Derived.Test.YtoaggnpcmieeaaaDoorSetg
set_option linter.unusedVariables false
set_option linter.unusedSimpArgs false
namespace Go.Proofs.YtoaggnpcmieeaaaDoor
open Go.RowKit

set_option maxRecDepth 100000 in
set_option maxHeartbeats 8000000 in
theorem implRP_none (f mode sign exp mh ml : Int) (sticky : Bool) (hf : ¬ (f = 0 ∨ f = 1)) {w : World} (hw : Fm w) :
    Calls Tryd.prog 14 #[.int .i64 f, .int .i64 mode, .int .i64 sign, .int .i64 exp, .agg #[.int .u64 mh, .int .u64 ml], .bool sticky] w fun x w' => x = .returned (.agg #[.int .u64 9221120237041090560, .int .i64 1]) ∧ Gr w w' := by
  have HF : Hid (∀ w', Gr w w' → Calls Tryd.prog 40 #[.int .i64 f, .int .i64 mode] w' fun x w'' => x = .returned (.tuple #[.agg #[.int .i64 53, .int .i64 (-1022), .int .i64 1023, .int .i64 0, Value.nilFunc], .bool false]) ∧ Gr w' w'') := fun w' hg => settingOf_none f mode hf (hw.gr hg)
  have HN : Hid (∀ w, Calls Tryd.prog 41 #[.agg #[.int .i64 53, .int .i64 (-1022), .int .i64 1023]] w fun e w' => e = .returned (.agg #[.int .u64 9221120237041090560, .int .i64 1]) ∧ Gr w w') := fun w => invalid_any m64 w
  clear hf hw
  go_enter Tryd.func14, Tryd.ntmps14
  go_wp2_with (first
    | (go_at_call 40; refine (HF.out _ Gr.g).mono ?_; rintro x w1 ⟨rfl, hg_w1⟩; have kr0 : w1.cell? ⟨w.heap.size + 1, 0, none⟩ = some (.int .u64 0) := hg_w1.c; have krz0 : w1.frozen? ⟨w.heap.size + 1, 0, none⟩ = false := hg_w1.z; have kr1 : w1.cell? ⟨w.heap.size + 1, 1, none⟩ = some (.int .i64 0) := hg_w1.c; have krz1 : w1.frozen? ⟨w.heap.size + 1, 1, none⟩ = false := hg_w1.z)
    | (go_at_call 41; refine (HN.out _).mono ?_; rintro x w2 ⟨rfl, hg_w2⟩; have br0 : w2.cell? ⟨w.heap.size + 1, 0, none⟩ = some (.int .u64 0) := hg_w2.c; have brz0 : w2.frozen? ⟨w.heap.size + 1, 0, none⟩ = false := hg_w2.z; have br1 : w2.cell? ⟨w.heap.size + 1, 1, none⟩ = some (.int .i64 0) := hg_w2.c; have brz1 : w2.frozen? ⟨w.heap.size + 1, 1, none⟩ = false := hg_w2.z))
  refine bodyPost_ret (v := .agg #[.int .u64 9221120237041090560, .int .i64 1]) (by simp [results, Tryd.results14, go_sem, br0, br1]) rfl ⟨rfl, ?_⟩
  exact Gr.g

set_option maxRecDepth 100000 in
set_option maxHeartbeats 8000000 in
theorem implRP_way {p mn mx fb sp one inf sg nan : Int} (hm : IsM p mn mx fb sp one inf sg nan) (f mode sign exp mh ml : Int) (sticky : Bool) {w : World} (HF : Hid (∀ w', Gr w w' → Calls Tryd.prog 40 #[.int .i64 f, .int .i64 mode] w' fun x w'' => x = .returned (.tuple #[.agg #[.int .i64 p, .int .i64 mn, .int .i64 mx, .int .i64 mode, Value.nilFunc], .bool false]) ∧ Gr w' w'')) :
    Calls Tryd.prog 14 #[.int .i64 f, .int .i64 mode, .int .i64 sign, .int .i64 exp, .agg #[.int .u64 mh, .int .u64 ml], .bool sticky] w fun x w' => x = .returned (.agg #[.int .u64 nan, .int .i64 1]) ∧ Gr w w' := by
  have HN : Hid (∀ w, Calls Tryd.prog 41 #[.agg #[.int .i64 p, .int .i64 mn, .int .i64 mx]] w fun e w' => e = .returned (.agg #[.int .u64 nan, .int .i64 1]) ∧ Gr w w') := fun w => invalid_any hm w
  clear hm
  go_enter Tryd.func14, Tryd.ntmps14
  go_wp2_with (first
    | (go_at_call 40; refine (HF.out _ Gr.g).mono ?_; rintro x w1 ⟨rfl, hg_w1⟩; have kr0 : w1.cell? ⟨w.heap.size + 1, 0, none⟩ = some (.int .u64 0) := hg_w1.c; have krz0 : w1.frozen? ⟨w.heap.size + 1, 0, none⟩ = false := hg_w1.z; have kr1 : w1.cell? ⟨w.heap.size + 1, 1, none⟩ = some (.int .i64 0) := hg_w1.c; have krz1 : w1.frozen? ⟨w.heap.size + 1, 1, none⟩ = false := hg_w1.z)
    | (go_at_call 41; refine (HN.out _).mono ?_; rintro x w2 ⟨rfl, hg_w2⟩; have br0 : w2.cell? ⟨w.heap.size + 1, 0, none⟩ = some (.int .u64 0) := hg_w2.c; have brz0 : w2.frozen? ⟨w.heap.size + 1, 0, none⟩ = false := hg_w2.z; have br1 : w2.cell? ⟨w.heap.size + 1, 1, none⟩ = some (.int .i64 0) := hg_w2.c; have brz1 : w2.frozen? ⟨w.heap.size + 1, 1, none⟩ = false := hg_w2.z))
  refine bodyPost_ret (v := .agg #[.int .u64 nan, .int .i64 1]) (by simp [results, Tryd.results14, go_sem, br0, br1]) rfl ⟨rfl, ?_⟩
  exact Gr.g

set_option maxRecDepth 100000 in
set_option maxHeartbeats 8000000 in
theorem implRP_out {p mn mx fb sp one inf sg nan : Int} (hm : IsM p mn mx fb sp one inf sg nan) (f md sign exp mh ml : Int) (k : Nat) (sticky : Bool) {w : World} (HF : Hid (∀ w', Gr w w' → Calls Tryd.prog 40 #[.int .i64 f, .int .i64 md] w' fun x w'' => x = .returned (.tuple #[.agg #[.int .i64 p, .int .i64 mn, .int .i64 mx, .int .i64 md, .func (.func k) #[] #[]], .bool true]) ∧ Gr w' w''))
    (hc : sign < 0 ∨ (0 ≤ sign ∧ 1 < sign) ∨ (0 ≤ sign ∧ sign ≤ 1 ∧ exp < -100000) ∨ (0 ≤ sign ∧ sign ≤ 1 ∧ -100000 ≤ exp ∧ 100000 < exp)) :
    Calls Tryd.prog 14 #[.int .i64 f, .int .i64 md, .int .i64 sign, .int .i64 exp, .agg #[.int .u64 mh, .int .u64 ml], .bool sticky] w fun x w' => x = .returned (.agg #[.int .u64 nan, .int .i64 1]) ∧ Gr w w' := by
  have HN : Hid (∀ w, Calls Tryd.prog 41 #[.agg #[.int .i64 p, .int .i64 mn, .int .i64 mx]] w fun e w' => e = .returned (.agg #[.int .u64 nan, .int .i64 1]) ∧ Gr w w') := fun w => invalid_any hm w
  clear hm
  rcases hc with c | ⟨c1, c2⟩ | ⟨c1, c2, c3⟩ | ⟨c1, c2, c3, c4⟩
  all_goals
    go_enter Tryd.func14, Tryd.ntmps14
    go_wp2_with (first
      | (go_at_call 40; refine (HF.out _ Gr.g).mono ?_; rintro x w1 ⟨rfl, hg_w1⟩; have kr0 : w1.cell? ⟨w.heap.size + 1, 0, none⟩ = some (.int .u64 0) := hg_w1.c; have krz0 : w1.frozen? ⟨w.heap.size + 1, 0, none⟩ = false := hg_w1.z; have kr1 : w1.cell? ⟨w.heap.size + 1, 1, none⟩ = some (.int .i64 0) := hg_w1.c; have krz1 : w1.frozen? ⟨w.heap.size + 1, 1, none⟩ = false := hg_w1.z)
      | (go_at_call 41; refine (HN.out _).mono ?_; rintro x w2 ⟨rfl, hg_w2⟩; have br0 : w2.cell? ⟨w.heap.size + 1, 0, none⟩ = some (.int .u64 0) := hg_w2.c; have brz0 : w2.frozen? ⟨w.heap.size + 1, 0, none⟩ = false := hg_w2.z; have br1 : w2.cell? ⟨w.heap.size + 1, 1, none⟩ = some (.int .i64 0) := hg_w2.c; have brz1 : w2.frozen? ⟨w.heap.size + 1, 1, none⟩ = false := hg_w2.z))
    refine bodyPost_ret (v := .agg #[.int .u64 nan, .int .i64 1]) (by simp [results, Tryd.results14, go_sem, br0, br1]) rfl ⟨rfl, ?_⟩
    exact Gr.g

set_option maxRecDepth 100000 in
set_option maxHeartbeats 8000000 in
theorem implRP_sticky {p mn mx fb sp one inf sg nan : Int} (hm : IsM p mn mx fb sp one inf sg nan) (f md sign exp mh ml : Int) (k : Nat) {w : World} (HF : Hid (∀ w', Gr w w' → Calls Tryd.prog 40 #[.int .i64 f, .int .i64 md] w' fun x w'' => x = .returned (.tuple #[.agg #[.int .i64 p, .int .i64 mn, .int .i64 mx, .int .i64 md, .func (.func k) #[] #[]], .bool true]) ∧ Gr w' w''))
    (s0 : 0 ≤ sign) (s1 : sign ≤ 1) (e0 : -100000 ≤ exp) (e1 : exp ≤ 100000)
    (HS : Hid (∀ w, Calls Tryd.prog 42 #[.agg #[.int .i64 p, .int .i64 mn, .int .i64 mx], .agg #[.int .u64 mh, .int .u64 ml]] w fun x w' => x = .returned (.bool false) ∧ Gr w w')) :
    Calls Tryd.prog 14 #[.int .i64 f, .int .i64 md, .int .i64 sign, .int .i64 exp, .agg #[.int .u64 mh, .int .u64 ml], .bool true] w fun x w' => x = .returned (.agg #[.int .u64 nan, .int .i64 1]) ∧ Gr w w' := by
  have HN : Hid (∀ w, Calls Tryd.prog 41 #[.agg #[.int .i64 p, .int .i64 mn, .int .i64 mx]] w fun e w' => e = .returned (.agg #[.int .u64 nan, .int .i64 1]) ∧ Gr w w') := fun w => invalid_any hm w
  clear hm
  go_enter Tryd.func14, Tryd.ntmps14
  go_wp2_with (first
    | (go_at_call 40; refine (HF.out _ Gr.g).mono ?_; rintro x w1 ⟨rfl, hg_w1⟩; have kr0 : w1.cell? ⟨w.heap.size + 1, 0, none⟩ = some (.int .u64 0) := hg_w1.c; have krz0 : w1.frozen? ⟨w.heap.size + 1, 0, none⟩ = false := hg_w1.z; have kr1 : w1.cell? ⟨w.heap.size + 1, 1, none⟩ = some (.int .i64 0) := hg_w1.c; have krz1 : w1.frozen? ⟨w.heap.size + 1, 1, none⟩ = false := hg_w1.z; have ks0 : w1.cell? ⟨w.heap.size, 0, none⟩ = some (.int .u64 mh) := hg_w1.c; have ksz0 : w1.frozen? ⟨w.heap.size, 0, none⟩ = false := hg_w1.z; have ksA0 := (fun ob => cell_alloc ob ks0); have ksB0 : ∀ c t, (w1.alloc (.cells c t)).frozen? ⟨w.heap.size, 0, none⟩ = false := (fun c t => fz_alloc ksz0); have ks1 : w1.cell? ⟨w.heap.size, 1, none⟩ = some (.int .u64 ml) := hg_w1.c; have ksz1 : w1.frozen? ⟨w.heap.size, 1, none⟩ = false := hg_w1.z; have ksA1 := (fun ob => cell_alloc ob ks1); have ksB1 : ∀ c t, (w1.alloc (.cells c t)).frozen? ⟨w.heap.size, 1, none⟩ = false := (fun c t => fz_alloc ksz1))
    | (go_at_call 42; refine (HS.out _).mono ?_; rintro x w4 ⟨rfl, hg_w4⟩; have dr0 : w4.cell? ⟨w.heap.size + 1, 0, none⟩ = some (.int .u64 0) := hg_w4.c; have drz0 : w4.frozen? ⟨w.heap.size + 1, 0, none⟩ = false := hg_w4.z; have dr1 : w4.cell? ⟨w.heap.size + 1, 1, none⟩ = some (.int .i64 0) := hg_w4.c; have drz1 : w4.frozen? ⟨w.heap.size + 1, 1, none⟩ = false := hg_w4.z; have dm0 : w4.cell? ⟨w1.heap.size, 0, none⟩ = some (.int .i64 p) := hg_w4.c; have dm1 : w4.cell? ⟨w1.heap.size, 1, none⟩ = some (.int .i64 mn) := hg_w4.c; have dm2 : w4.cell? ⟨w1.heap.size, 2, none⟩ = some (.int .i64 mx) := hg_w4.c; have dm3 : w4.cell? ⟨w1.heap.size, 3, none⟩ = some (.int .i64 md) := hg_w4.c; have dm4 : w4.cell? ⟨w1.heap.size, 4, none⟩ = some (.func (.func k) #[] #[]) := hg_w4.c)
    | (go_at_call 41; refine (HN.out _).mono ?_; rintro x w2 ⟨rfl, hg_w2⟩; have br0 : w2.cell? ⟨w.heap.size + 1, 0, none⟩ = some (.int .u64 0) := hg_w2.c; have brz0 : w2.frozen? ⟨w.heap.size + 1, 0, none⟩ = false := hg_w2.z; have br1 : w2.cell? ⟨w.heap.size + 1, 1, none⟩ = some (.int .i64 0) := hg_w2.c; have brz1 : w2.frozen? ⟨w.heap.size + 1, 1, none⟩ = false := hg_w2.z))
  refine bodyPost_ret (v := .agg #[.int .u64 nan, .int .i64 1]) (by simp [results, Tryd.results14, go_sem, br0, br1]) rfl ⟨rfl, ?_⟩
  exact Gr.g

set_option maxRecDepth 100000 in
set_option maxHeartbeats 8000000 in
theorem implRP_ok {p mn mx : Int} (f md sign exp mh ml : Int) (k : Nat) (sticky : Bool) {w : World} (HF : Hid (∀ w', Gr w w' → Calls Tryd.prog 40 #[.int .i64 f, .int .i64 md] w' fun x w'' => x = .returned (.tuple #[.agg #[.int .i64 p, .int .i64 mn, .int .i64 mx, .int .i64 md, .func (.func k) #[] #[]], .bool true]) ∧ Gr w' w''))
    (s0 : 0 ≤ sign) (s1 : sign ≤ 1) (e0 : -100000 ≤ exp) (e1 : exp ≤ 100000)
    (HS : sticky = true → Hid (∀ w, Calls Tryd.prog 42 #[.agg #[.int .i64 p, .int .i64 mn, .int .i64 mx], .agg #[.int .u64 mh, .int .u64 ml]] w fun x w' => x = .returned (.bool true) ∧ Gr w w')) (Q : Int → Int → Prop)
    (HRd : Hid (∀ w, Calls Tryd.prog 43 #[.agg #[.int .i64 p, .int .i64 mn, .int .i64 mx, .int .i64 md, .func (.func k) #[] #[]], .int .i64 sign, .int .i64 exp, .agg #[.int .u64 mh, .int .u64 ml], .bool sticky] w fun x w' => ∃ z fl, Q z fl ∧ x = .returned (.agg #[.int .u64 z, .int .i64 fl]) ∧ Gr w w')) :
    Calls Tryd.prog 14 #[.int .i64 f, .int .i64 md, .int .i64 sign, .int .i64 exp, .agg #[.int .u64 mh, .int .u64 ml], .bool sticky] w fun x w' => ∃ z fl, Q z fl ∧ x = .returned (.agg #[.int .u64 z, .int .i64 fl]) ∧ Gr w w' := by
  cases sticky
  · clear HS
    go_enter Tryd.func14, Tryd.ntmps14
    go_wp2_with (first
      | (go_at_call 40; refine (HF.out _ Gr.g).mono ?_; rintro x w1 ⟨rfl, hg_w1⟩; have kr0 : w1.cell? ⟨w.heap.size + 1, 0, none⟩ = some (.int .u64 0) := hg_w1.c; have krz0 : w1.frozen? ⟨w.heap.size + 1, 0, none⟩ = false := hg_w1.z; have kr1 : w1.cell? ⟨w.heap.size + 1, 1, none⟩ = some (.int .i64 0) := hg_w1.c; have krz1 : w1.frozen? ⟨w.heap.size + 1, 1, none⟩ = false := hg_w1.z; have ks0 : w1.cell? ⟨w.heap.size, 0, none⟩ = some (.int .u64 mh) := hg_w1.c; have ksz0 : w1.frozen? ⟨w.heap.size, 0, none⟩ = false := hg_w1.z; have ksA0 := (fun ob => cell_alloc ob ks0); have ksB0 : ∀ c t, (w1.alloc (.cells c t)).frozen? ⟨w.heap.size, 0, none⟩ = false := (fun c t => fz_alloc ksz0); have ks1 : w1.cell? ⟨w.heap.size, 1, none⟩ = some (.int .u64 ml) := hg_w1.c; have ksz1 : w1.frozen? ⟨w.heap.size, 1, none⟩ = false := hg_w1.z; have ksA1 := (fun ob => cell_alloc ob ks1); have ksB1 : ∀ c t, (w1.alloc (.cells c t)).frozen? ⟨w.heap.size, 1, none⟩ = false := (fun c t => fz_alloc ksz1))
      | (go_at_call 43; refine (HRd.out _).mono ?_; rintro x w3 ⟨z, fl, hq, rfl, hg_w3⟩; have cr0 : w3.cell? ⟨w.heap.size + 1, 0, none⟩ = some (.int .u64 0) := hg_w3.c; have crz0 : w3.frozen? ⟨w.heap.size + 1, 0, none⟩ = false := hg_w3.z; have cr1 : w3.cell? ⟨w.heap.size + 1, 1, none⟩ = some (.int .i64 0) := hg_w3.c; have crz1 : w3.frozen? ⟨w.heap.size + 1, 1, none⟩ = false := hg_w3.z))
    refine bodyPost_ret (v := .agg #[.int .u64 z, .int .i64 fl]) (by simp [results, Tryd.results14, go_sem, cr0, cr1]) rfl ⟨z, fl, hq, rfl, ?_⟩
    exact Gr.g
  · have HS' := HS rfl
    clear HS
    go_enter Tryd.func14, Tryd.ntmps14
    go_wp2_with (first
      | (go_at_call 40; refine (HF.out _ Gr.g).mono ?_; rintro x w1 ⟨rfl, hg_w1⟩; have kr0 : w1.cell? ⟨w.heap.size + 1, 0, none⟩ = some (.int .u64 0) := hg_w1.c; have krz0 : w1.frozen? ⟨w.heap.size + 1, 0, none⟩ = false := hg_w1.z; have kr1 : w1.cell? ⟨w.heap.size + 1, 1, none⟩ = some (.int .i64 0) := hg_w1.c; have krz1 : w1.frozen? ⟨w.heap.size + 1, 1, none⟩ = false := hg_w1.z; have ks0 : w1.cell? ⟨w.heap.size, 0, none⟩ = some (.int .u64 mh) := hg_w1.c; have ksz0 : w1.frozen? ⟨w.heap.size, 0, none⟩ = false := hg_w1.z; have ksA0 := (fun ob => cell_alloc ob ks0); have ksB0 : ∀ c t, (w1.alloc (.cells c t)).frozen? ⟨w.heap.size, 0, none⟩ = false := (fun c t => fz_alloc ksz0); have ks1 : w1.cell? ⟨w.heap.size, 1, none⟩ = some (.int .u64 ml) := hg_w1.c; have ksz1 : w1.frozen? ⟨w.heap.size, 1, none⟩ = false := hg_w1.z; have ksA1 := (fun ob => cell_alloc ob ks1); have ksB1 : ∀ c t, (w1.alloc (.cells c t)).frozen? ⟨w.heap.size, 1, none⟩ = false := (fun c t => fz_alloc ksz1))
      | (go_at_call 42; refine (HS'.out _).mono ?_; rintro x w4 ⟨rfl, hg_w4⟩; have dr0 : w4.cell? ⟨w.heap.size + 1, 0, none⟩ = some (.int .u64 0) := hg_w4.c; have drz0 : w4.frozen? ⟨w.heap.size + 1, 0, none⟩ = false := hg_w4.z; have dr1 : w4.cell? ⟨w.heap.size + 1, 1, none⟩ = some (.int .i64 0) := hg_w4.c; have drz1 : w4.frozen? ⟨w.heap.size + 1, 1, none⟩ = false := hg_w4.z; have ds0 : w4.cell? ⟨w.heap.size, 0, none⟩ = some (.int .u64 mh) := hg_w4.c; have ds1 : w4.cell? ⟨w.heap.size, 1, none⟩ = some (.int .u64 ml) := hg_w4.c; have dm0 : w4.cell? ⟨w1.heap.size, 0, none⟩ = some (.int .i64 p) := hg_w4.c; have dm1 : w4.cell? ⟨w1.heap.size, 1, none⟩ = some (.int .i64 mn) := hg_w4.c; have dm2 : w4.cell? ⟨w1.heap.size, 2, none⟩ = some (.int .i64 mx) := hg_w4.c; have dm3 : w4.cell? ⟨w1.heap.size, 3, none⟩ = some (.int .i64 md) := hg_w4.c; have dm4 : w4.cell? ⟨w1.heap.size, 4, none⟩ = some (.func (.func k) #[] #[]) := hg_w4.c)
      | (go_at_call 43; refine (HRd.out _).mono ?_; rintro x w3 ⟨z, fl, hq, rfl, hg_w3⟩; have cr0 : w3.cell? ⟨w.heap.size + 1, 0, none⟩ = some (.int .u64 0) := hg_w3.c; have crz0 : w3.frozen? ⟨w.heap.size + 1, 0, none⟩ = false := hg_w3.z; have cr1 : w3.cell? ⟨w.heap.size + 1, 1, none⟩ = some (.int .i64 0) := hg_w3.c; have crz1 : w3.frozen? ⟨w.heap.size + 1, 1, none⟩ = false := hg_w3.z))
    refine bodyPost_ret (v := .agg #[.int .u64 z, .int .i64 fl]) (by simp [results, Tryd.results14, go_sem, cr0, cr1]) rfl ⟨z, fl, hq, rfl, ?_⟩
    exact Gr.g
end Go.Proofs.YtoaggnpcmieeaaaDoor
