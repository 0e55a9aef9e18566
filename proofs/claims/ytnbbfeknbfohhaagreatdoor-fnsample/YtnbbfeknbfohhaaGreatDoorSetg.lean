import Derived.Test.YtnbbfeknbfohhaaGreatDoorR3
import Derived.Test.YtnbbfeknbfohhaaGreatDoorA7
set_option linter.unusedVariables false
set_option linter.unusedSimpArgs false
set_option maxHeartbeats 40000000
namespace Go.Proofs.YtnbbfeknbfohhaaGreatDoor
open Go.RowKit
theorem m64 : IsM 53 (-1022) 1023 52 63 4503599627370496 9218868437227405312 9223372036854775808 9221120237041090560 := .inr ⟨rfl, rfl, rfl, rfl, rfl, rfl, rfl, rfl, rfl⟩
set_option maxRecDepth 100000 in
theorem settingOf_none (f mode : Int) (hf : ¬ (f = 0 ∨ f = 1)) {w : World} (hw : Fm w) :
  Calls Tryz.prog 70 #[.int .i64 f, .int .i64 mode] w fun x w' => x = .returned (.tuple #[.agg #[.int .i64 53, .int .i64 (-1022), .int .i64 1023, .int .i64 0, Value.nilFunc], .bool false]) ∧ Gr w w' := by
 have HF : KR 102 #[.int .i64 f] (.tuple #[.agg #[.int .i64 0, .int .i64 0, .int .i64 0], .bool false]) := fun w' => formatOf_no f hf w'
 have HW : Hid (∀ w', Gr w w' → Fm w') := fun w' hg => hw.gr hg
 clear hf hw
 go_enter Tryz.func70, Tryz.ntmps70
 go_wp2_with (go_at_call 102; refine (HF.out _).mono ?_; rintro x w1 ⟨rfl, hg_w1⟩; obtain ⟨a0, a1, a2, a3, a4, a5⟩ := HW.out w1 Gr.g; have A3 := kca a3; have A4 := kca a4; have A5 := kca a5; obtain ⟨ar0, arz0⟩ := hg_w1.y1 w.heap.size 0 (.int .i64 0); have arA0 := kca ar0; have arB0 := kfa arz0; obtain ⟨ar1, arz1⟩ := hg_w1.y1 w.heap.size 1 (.int .i64 0); have arA1 := kca ar1; have arB1 := kfa arz1; obtain ⟨ar2, arz2⟩ := hg_w1.y1 w.heap.size 2 (.int .i64 0); have arA2 := kca ar2; have arB2 := kfa arz2; obtain ⟨ar3, arz3⟩ := hg_w1.y1 w.heap.size 3 (.int .i64 0); have arA3 := kca ar3; have arB3 := kfa arz3; obtain ⟨ar4, arz4⟩ := hg_w1.y1 w.heap.size 4 (Value.nilFunc); have arA4 := kca ar4; have arB4 := kfa arz4)
 refine bodyPost_ret (v := .tuple #[.agg #[.int .i64 53, .int .i64 (-1022), .int .i64 1023, .int .i64 0, Value.nilFunc], .bool false]) (by simp [results, Tryz.results70, go_sem, arA0, arA1, arA2, arA3, arA4]) rfl ⟨rfl, ?_⟩
 exact Gr.g
set_option maxRecDepth 100000 in
theorem settingOf_yes {f p mx one inf sg nan mn fb sp : Int} (h : IsFmt f p mx one inf sg nan) (hm : IsM p mn mx fb sp one inf sg nan) (mode : Int) (k : Nat) (HR : KR 158 #[.int .i64 mode] (.tuple #[.func (.func k) #[] #[], .bool true])) {w : World} (hw : Fm w) :
  Calls Tryz.prog 70 #[.int .i64 f, .int .i64 mode] w fun x w' => x = .returned (.tuple #[.agg #[.int .i64 p, .int .i64 mn, .int .i64 mx, .int .i64 mode, .func (.func k) #[] #[]], .bool true]) ∧ Gr w w' := by
 have HF : Hid (∀ w', Gr w w' → Calls Tryz.prog 102 #[.int .i64 f] w' fun x w'' => x = .returned (.tuple #[.agg #[.int .i64 p, .int .i64 mn, .int .i64 mx], .bool true]) ∧ Gr w' w'') := fun w' hg => formatOf_yes h hm (hw.gr hg)
 clear h hm hw
 go_enter Tryz.func70, Tryz.ntmps70
 go_wp2_with (first
  | (go_at_call 102; refine (HF.out _ Gr.g).mono ?_; rintro x w1 ⟨rfl, hg_w1⟩; obtain ⟨ar0, arz0, ar1, arz1, ar2, arz2, ar3, arz3, ar4, arz4⟩ := hg_w1.y5 w.heap.size 0 1 2 3 4 (.int .i64 0) (.int .i64 0) (.int .i64 0) (.int .i64 0) (Value.nilFunc))
  | (go_at_call 158; refine (HR.out _).mono ?_; rintro x w2 ⟨rfl, hg_w2⟩; obtain ⟨br0, brz0, br1, brz1, br2, brz2, br3, brz3, br4, brz4⟩ := hg_w2.y5 w.heap.size 0 1 2 3 4 (.int .i64 0) (.int .i64 0) (.int .i64 0) (.int .i64 0) (Value.nilFunc); obtain ⟨bm0, bm1, bm2⟩ := hg_w2.e3 w1.heap.size 0 1 2 (.int .i64 p) (.int .i64 mn) (.int .i64 mx)))
 refine bodyPost_ret (v := .tuple #[.agg #[.int .i64 p, .int .i64 mn, .int .i64 mx, .int .i64 mode, .func (.func k) #[] #[]], .bool true]) (by simp [results, Tryz.results70, go_sem, br0, br1, br2, br3, br4]) rfl ⟨rfl, ?_⟩
 exact Gr.g
set_option maxRecDepth 100000 in
theorem settingOf_bad {f p mx one inf sg nan mn fb sp : Int} (h : IsFmt f p mx one inf sg nan) (hm : IsM p mn mx fb sp one inf sg nan) (mode : Int) (HR : KR 158 #[.int .i64 mode] (.tuple #[Value.nilFunc, .bool false])) {w : World} (hw : Fm w) :
  Calls Tryz.prog 70 #[.int .i64 f, .int .i64 mode] w fun x w' => x = .returned (.tuple #[.agg #[.int .i64 p, .int .i64 mn, .int .i64 mx, .int .i64 mode, Value.nilFunc], .bool false]) ∧ Gr w w' := by
 have HF : Hid (∀ w', Gr w w' → Calls Tryz.prog 102 #[.int .i64 f] w' fun x w'' => x = .returned (.tuple #[.agg #[.int .i64 p, .int .i64 mn, .int .i64 mx], .bool true]) ∧ Gr w' w'') := fun w' hg => formatOf_yes h hm (hw.gr hg)
 clear h hm hw
 go_enter Tryz.func70, Tryz.ntmps70
 go_wp2_with (first
  | (go_at_call 102; refine (HF.out _ Gr.g).mono ?_; rintro x w1 ⟨rfl, hg_w1⟩; obtain ⟨ar0, arz0, ar1, arz1, ar2, arz2, ar3, arz3, ar4, arz4⟩ := hg_w1.y5 w.heap.size 0 1 2 3 4 (.int .i64 0) (.int .i64 0) (.int .i64 0) (.int .i64 0) (Value.nilFunc))
  | (go_at_call 158; refine (HR.out _).mono ?_; rintro x w2 ⟨rfl, hg_w2⟩; obtain ⟨br0, brz0, br1, brz1, br2, brz2, br3, brz3, br4, brz4⟩ := hg_w2.y5 w.heap.size 0 1 2 3 4 (.int .i64 0) (.int .i64 0) (.int .i64 0) (.int .i64 0) (Value.nilFunc); obtain ⟨bm0, bm1, bm2⟩ := hg_w2.e3 w1.heap.size 0 1 2 (.int .i64 p) (.int .i64 mn) (.int .i64 mx)))
 refine bodyPost_ret (v := .tuple #[.agg #[.int .i64 p, .int .i64 mn, .int .i64 mx, .int .i64 mode, Value.nilFunc], .bool false]) (by simp [results, Tryz.results70, go_sem, br0, br1, br2, br3, br4]) rfl ⟨rfl, ?_⟩
 exact Gr.g
end Go.Proofs.YtnbbfeknbfohhaaGreatDoor
