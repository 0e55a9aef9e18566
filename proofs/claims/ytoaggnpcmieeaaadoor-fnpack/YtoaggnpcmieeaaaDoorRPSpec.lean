/- spec.RoundPack. -/
import Derived.Test.YtoaggnpcmieeaaaDoorBigRoundW
set_option linter.unusedVariables false
set_option linter.unusedSimpArgs false
namespace Go.Proofs.YtoaggnpcmieeaaaDoor
open Go.RowKit

theorem raw4 (h l : Nat) (h1 : h < 18446744073709551616) (l1 : l < 18446744073709551616) (w : World) (t : TypeId) (o : Obj) :
    Raw ((w.alloc o).alloc (Obj.cells #[Value.int IntKind.u32 ((l : Int) % 4294967296), Value.int IntKind.u32 ((l : Int) / 4294967296), Value.int IntKind.u32 ((h : Int) % 4294967296), Value.int IntKind.u32 ((h : Int) / 4294967296)] t)) (.slice (some ⟨w.heap.size + 1, 0, none⟩) 4 4) 4 (h * 18446744073709551616 + l) := by
  refine ⟨by omega, w.heap.size + 1, 4, rfl, by omega, by decide, fun j hj => ?_⟩
  match j, hj with
  | 0, _ =>
    have e : ((dg (h * 18446744073709551616 + l) 0 : Nat) : Int) = (l : Int) % 4294967296 := by unfold dg; simp only [Nat.pow_zero, Nat.div_one]; omega
    rw [e]; simp [go_sem]
  | 1, _ =>
    have e : ((dg (h * 18446744073709551616 + l) 1 : Nat) : Int) = (l : Int) / 4294967296 := by unfold dg; rw [Nat.pow_one]; omega
    rw [e]; simp [go_sem]
  | 2, _ =>
    have e : ((dg (h * 18446744073709551616 + l) 2 : Nat) : Int) = (h : Int) % 4294967296 := by unfold dg; rw [show 4294967296 ^ 2 = 18446744073709551616 from rfl]; omega
    rw [e]; simp [go_sem]
  | 3, _ =>
    have e : ((dg (h * 18446744073709551616 + l) 3 : Nat) : Int) = (h : Int) / 4294967296 := by unfold dg; rw [show 4294967296 ^ 3 = 18446744073709551616 * 4294967296 from rfl, ← Nat.div_div_eq_div_mul]; omega
    rw [e]; simp [go_sem]

set_option maxHeartbeats 1000000 in
theorem l2BigWide_any (h l : Nat) (h1 : h < 18446744073709551616) (l1 : l < 18446744073709551616) (w : World) :
    Calls Tryd.prog 36 #[.agg #[.int .u64 h, .int .u64 l]] w fun e w' => ∃ v' k, e = .returned v' ∧ Big w' v' k (h * 18446744073709551616 + l) ∧ k ≤ 4 ∧ Gb w w' := by
  go_enter Tryd.func36, Tryd.ntmps36
  go_wp2_with (go_at_call 53; refine (l2Norm_any (raw4 h l h1 l1 w _ _) (by omega)).mono ?_; rintro e w' ⟨v', k, rfl, hw, hbig, hk⟩; rw [← hw]; clear hw)
  go_returns
  exact ⟨_, _, rfl, hbig, hk, ((Gb.refl w).alloc _).alloc _⟩

set_option maxRecDepth 1000000 in
set_option maxHeartbeats 4000000 in
theorem specRP_none (f mode sign exp : Int) (h l : Nat) (sticky : Bool) (hf : ¬ (f = 0 ∨ f = 1)) (w : World) :
    Calls Tryd.prog 12 #[.int .i64 f, .int .i64 mode, .int .i64 sign, .int .i64 exp, .agg #[.int .u64 (h : Nat), .int .u64 (l : Nat)], .bool sticky] w fun x w' => x = .returned (.agg #[.int .u64 9221120237041090560, .int .i64 1]) ∧ Gb w w' := by
  have HF : Hid (∀ w, Calls Tryd.prog 27 #[.int .i64 f] w fun e w' => e = .returned (.bool false) ∧ w = w') := fun w => l2Format_any f false (by symm; simp; omega) w
  have HB : Hid (∀ w, Calls Tryd.prog 35 #[.int .i64 f] w fun e w' => e = .returned (.agg #[.int .u64 9221120237041090560, .int .i64 1]) ∧ Gr w w') := fun w => l2Bad_no f hf w
  clear hf
  go_enter Tryd.func12, Tryd.ntmps12
  go_wp2_with (first
    | (go_at_call 27; refine (HF.out _).mono ?_; rintro x wk ⟨rfl, hw⟩; subst hw)
    | (go_at_call 35; refine (HB.out _).mono ?_; rintro x w1 ⟨rfl, hg1⟩; have ar0 : w1.cell? ⟨w.heap.size + 1, 0, none⟩ = some (.int .u64 0) := kb; have az0 : w1.frozen? ⟨w.heap.size + 1, 0, none⟩ = false := kb; have ar1 : w1.cell? ⟨w.heap.size + 1, 1, none⟩ = some (.int .i64 0) := kb; have az1 : w1.frozen? ⟨w.heap.size + 1, 1, none⟩ = false := kb))
  refine bodyPost_ret (v := .agg #[.int .u64 9221120237041090560, .int .i64 1]) (by simp [results, Tryd.results12, go_sem, ar0, ar1]) rfl ⟨rfl, ?_⟩
  exact kg

set_option maxRecDepth 1000000 in
set_option maxHeartbeats 8000000 in
theorem specRP_bad {f p mx one inf sg nan : Int} (hf : IsFmt f p mx one inf sg nan) (mode sign exp : Int) (h l : Nat) (sticky : Bool) (hb : (mode < 0 ∨ 4 < mode) ∨ sign < 0 ∨ 1 < sign ∨ exp < -100000 ∨ 100000 < exp) (w : World) :
    Calls Tryd.prog 12 #[.int .i64 f, .int .i64 mode, .int .i64 sign, .int .i64 exp, .agg #[.int .u64 (h : Nat), .int .u64 (l : Nat)], .bool sticky] w fun x w' => x = .returned (.agg #[.int .u64 nan, .int .i64 1]) ∧ Gb w w' := by
  have HF : Hid (∀ w, Calls Tryd.prog 27 #[.int .i64 f] w fun e w' => e = .returned (.bool true) ∧ w = w') := fun w => l2Format_any f true (IsFmt.yes hf) w
  have HB : Hid (∀ w, Calls Tryd.prog 35 #[.int .i64 f] w fun e w' => e = .returned (.agg #[.int .u64 nan, .int .i64 1]) ∧ Gr w w') := fun w => l2Bad_fmt hf w
  have hcase : Hid (∀ w, Calls Tryd.prog 34 #[.int .i64 mode] w fun e w' => e = .returned (.bool false) ∧ w = w') ∨ (Hid (∀ w, Calls Tryd.prog 34 #[.int .i64 mode] w fun e w' => e = .returned (.bool true) ∧ w = w') ∧ (sign < 0 ∨ (0 ≤ sign ∧ 1 < sign) ∨ (0 ≤ sign ∧ sign ≤ 1 ∧ exp < -100000) ∨ (0 ≤ sign ∧ sign ≤ 1 ∧ -100000 ≤ exp ∧ 100000 < exp))) := by
    by_cases hm : 0 ≤ mode ∧ mode ≤ 4
    · exact .inr ⟨fun w => l2Way_any mode true (decide_eq_true hm).symm w, by omega⟩
    · exact .inl (fun w => l2Way_any mode false (decide_eq_false hm).symm w)
  clear hf hb
  rcases hcase with HW | ⟨HW, c | ⟨c1, c2⟩ | ⟨c1, c2, c3⟩ | ⟨c1, c2, c3, c4⟩⟩
  all_goals
    go_enter Tryd.func12, Tryd.ntmps12
    go_wp2_with (first
      | (go_at_call 27; refine (HF.out _).mono ?_; rintro x wk ⟨rfl, hw⟩; subst hw)
      | (go_at_call 34; refine (HW.out _).mono ?_; rintro x wk ⟨rfl, hw⟩; subst hw)
      | (go_at_call 35; refine (HB.out _).mono ?_; rintro x w1 ⟨rfl, hg1⟩; have ar0 : w1.cell? ⟨w.heap.size + 1, 0, none⟩ = some (.int .u64 0) := kb; have az0 : w1.frozen? ⟨w.heap.size + 1, 0, none⟩ = false := kb; have ar1 : w1.cell? ⟨w.heap.size + 1, 1, none⟩ = some (.int .i64 0) := kb; have az1 : w1.frozen? ⟨w.heap.size + 1, 1, none⟩ = false := kb))
    refine bodyPost_ret (v := .agg #[.int .u64 nan, .int .i64 1]) (by simp [results, Tryd.results12, go_sem, ar0, ar1]) rfl ⟨rfl, ?_⟩
    exact kg

set_option maxRecDepth 1000000 in
set_option maxHeartbeats 8000000 in
theorem specRP_sticky {f p mx one inf sg nan : Int} (hf : IsFmt f p mx one inf sg nan) (mode sign exp : Int) (h l : Nat) (h1 : h < 18446744073709551616) (l1 : l < 18446744073709551616) (m0 : 0 ≤ mode) (m1 : mode ≤ 4) (s0 : 0 ≤ sign) (s1 : sign ≤ 1) (e0 : -100000 ≤ exp) (e1 : exp ≤ 100000) (hn : (nb (h * 18446744073709551616 + l) : Int) < p + 2) (w : World) :
    Calls Tryd.prog 12 #[.int .i64 f, .int .i64 mode, .int .i64 sign, .int .i64 exp, .agg #[.int .u64 (h : Nat), .int .u64 (l : Nat)], .bool true] w fun x w' => x = .returned (.agg #[.int .u64 nan, .int .i64 1]) ∧ Gb w w' := by
  obtain ⟨b1, b2, b3, b4, b5, b6, b7, b8, b9, b10, b11, b12⟩ := hf.bounds
  have HF : Hid (∀ w, Calls Tryd.prog 27 #[.int .i64 f] w fun e w' => e = .returned (.bool true) ∧ w = w') := fun w => l2Format_any f true (IsFmt.yes hf) w
  have HB : Hid (∀ w, Calls Tryd.prog 35 #[.int .i64 f] w fun e w' => e = .returned (.agg #[.int .u64 nan, .int .i64 1]) ∧ Gr w w') := fun w => l2Bad_fmt hf w
  have HW : Hid (∀ w, Calls Tryd.prog 34 #[.int .i64 mode] w fun e w' => e = .returned (.bool true) ∧ w = w') := fun w => l2Way_any mode true (decide_eq_true ⟨m0, m1⟩).symm w
  have HP : Hid (∀ w, Calls Tryd.prog 23 #[.int .i64 f] w fun e w' => e = .returned (.int .i64 p) ∧ w = w') := fun w => l2P_any hf w
  have HBig : Hid (∀ w, Calls Tryd.prog 36 #[.agg #[.int .u64 (h : Nat), .int .u64 (l : Nat)]] w fun x w' => ∃ v', x = .returned v' ∧ BigN 100000 w' v' (h * 18446744073709551616 + l) ∧ Gb w w') := fun w => (l2BigWide_any h l h1 l1 w).mono (fun x w' ⟨v', k, a1, a2, a3, a4⟩ => ⟨v', a1, ⟨k, by omega, a2⟩, a4⟩)
  have HLen : Hid (∀ v w, BigN 100000 w v (h * 18446744073709551616 + l) → Calls Tryd.prog 37 #[v] w fun x w' => x = .returned (.int .i64 (nb (h * 18446744073709551616 + l))) ∧ w = w') := fun v w ⟨n, a1, a2⟩ => l2Len_any a2 (by omega)
  generalize nb (h * 18446744073709551616 + l) = L at *
  clear hf
  go_enter Tryd.func12, Tryd.ntmps12
  go_wp2_with (first
    | (go_at_call 27; refine (HF.out _).mono ?_; rintro x wk ⟨rfl, hw⟩; subst hw)
    | (go_at_call 34; refine (HW.out _).mono ?_; rintro x wk ⟨rfl, hw⟩; subst hw)
    | (go_at_call 23; refine (HP.out _).mono ?_; rintro x wk ⟨rfl, hw⟩; subst hw)
    | (go_at_call 36; refine (HBig.out _).mono ?_; rintro x w2 ⟨v2, rfl, hb2, hg2⟩; have bs0 : w2.cell? ⟨w.heap.size, 0, none⟩ = some (.int .u64 (h : Nat)) := kb; have bs1 : w2.cell? ⟨w.heap.size, 1, none⟩ = some (.int .u64 (l : Nat)) := kb; have br0 : w2.cell? ⟨w.heap.size + 1, 0, none⟩ = some (.int .u64 0) := kb; have bz0 : w2.frozen? ⟨w.heap.size + 1, 0, none⟩ = false := kb; have br1 : w2.cell? ⟨w.heap.size + 1, 1, none⟩ = some (.int .i64 0) := kb; have bz1 : w2.frozen? ⟨w.heap.size + 1, 1, none⟩ = false := kb)
    | (go_at_call 37; refine (HLen.out _ _ hb2).mono ?_; rintro x wk ⟨rfl, hw⟩; subst hw)
    | (go_at_call 35; refine (HB.out _).mono ?_; rintro x w1 ⟨rfl, hg1⟩; have ar0 : w1.cell? ⟨w.heap.size + 1, 0, none⟩ = some (.int .u64 0) := kb; have az0 : w1.frozen? ⟨w.heap.size + 1, 0, none⟩ = false := kb; have ar1 : w1.cell? ⟨w.heap.size + 1, 1, none⟩ = some (.int .i64 0) := kb; have az1 : w1.frozen? ⟨w.heap.size + 1, 1, none⟩ = false := kb))
  refine bodyPost_ret (v := .agg #[.int .u64 nan, .int .i64 1]) (by simp [results, Tryd.results12, go_sem, ar0, ar1]) rfl ⟨rfl, ?_⟩
  exact kg

set_option maxRecDepth 1000000 in
set_option maxHeartbeats 8000000 in
theorem specRP_zero {f p mx one inf sg nan : Int} (hf : IsFmt f p mx one inf sg nan) (mode sign exp : Int) (m0 : 0 ≤ mode) (m1 : mode ≤ 4) (s0 : 0 ≤ sign) (s1 : sign ≤ 1) (e0 : -100000 ≤ exp) (e1 : exp ≤ 100000) (w : World) :
    Calls Tryd.prog 12 #[.int .i64 f, .int .i64 mode, .int .i64 sign, .int .i64 exp, .agg #[.int .u64 0, .int .u64 0], .bool false] w fun x w' => x = .returned (.agg #[.int .u64 (sw sign sg 0), .int .i64 0]) ∧ Gb w w' := by
  obtain ⟨b1, b2, b3, b4, b5, b6, b7, b8, b9, b10, b11, b12⟩ := hf.bounds
  have HF : Hid (∀ w, Calls Tryd.prog 27 #[.int .i64 f] w fun e w' => e = .returned (.bool true) ∧ w = w') := fun w => l2Format_any f true (IsFmt.yes hf) w
  have HW : Hid (∀ w, Calls Tryd.prog 34 #[.int .i64 mode] w fun e w' => e = .returned (.bool true) ∧ w = w') := fun w => l2Way_any mode true (decide_eq_true ⟨m0, m1⟩).symm w
  have HBig : Hid (∀ w, Calls Tryd.prog 36 #[.agg #[.int .u64 0, .int .u64 0]] w fun x w' => ∃ b c, x = .returned (.slice (some ⟨b, 0, none⟩) 0 c) ∧ Gb w w') := fun w => (l2BigWide_any 0 0 (by omega) (by omega) w).mono (fun x w' ⟨v', k, a1, a2, a3, a4⟩ => by
    obtain ⟨b, c, rfl, _⟩ := Big.shape a2
    obtain rfl := Big.none a2 rfl
    exact ⟨b, c, a1, a4⟩)
  have HPut : Hid (∀ w', Calls Tryd.prog 38 #[.int .i64 f, .int .i64 sign, .int .u64 0] w' fun x w'' => x = .returned (.int .u64 (sw sign sg 0)) ∧ w' = w'') := fun w' => l2Put_any hf sign 0 _ (by
    unfold sw
    rcases (show sign = 0 ∨ sign = 1 by omega) with rfl | rfl
    · exact .inl ⟨rfl, by simp⟩
    · exact .inr ⟨rfl, by simp⟩) (by omega) (by omega) w'
  clear hf
  generalize sw sign sg 0 = Z at *
  go_enter Tryd.func12, Tryd.ntmps12
  go_wp2_with (first
    | (go_at_call 27; refine (HF.out _).mono ?_; rintro x wk ⟨rfl, hw⟩; subst hw)
    | (go_at_call 34; refine (HW.out _).mono ?_; rintro x wk ⟨rfl, hw⟩; subst hw)
    | (go_at_call 36; refine (HBig.out _).mono ?_; rintro x w1 ⟨b2, c2, rfl, hg2⟩; have ar0 : w1.cell? ⟨w.heap.size + 1, 0, none⟩ = some (.int .u64 0) := kb; have az0 : w1.frozen? ⟨w.heap.size + 1, 0, none⟩ = false := kb; have ar1 : w1.cell? ⟨w.heap.size + 1, 1, none⟩ = some (.int .i64 0) := kb; have az1 : w1.frozen? ⟨w.heap.size + 1, 1, none⟩ = false := kb)
    | (go_at_call 38; refine (HPut.out _).mono ?_; rintro x wk ⟨rfl, hw⟩; subst hw))
  refine bodyPost_ret (v := .agg #[.int .u64 Z, .int .i64 0]) (by simp [results, Tryd.results12, go_sem, ar0, ar1]) rfl ⟨rfl, ?_⟩
  exact kg

set_option maxRecDepth 1000000 in
set_option maxHeartbeats 8000000 in
theorem specRP_num {f p mx one inf sg nan : Int} (hf : IsFmt f p mx one inf sg nan) (mode sign exp : Int) (h l : Nat) (sticky : Bool) (h1 : h < 18446744073709551616) (l1 : l < 18446744073709551616) (m0 : 0 ≤ mode) (m1 : mode ≤ 4) (s0 : 0 ≤ sign) (s1 : sign ≤ 1) (e0 : -100000 ≤ exp) (e1 : exp ≤ 100000) (hM : 0 < h * 18446744073709551616 + l) (hn : sticky = true → p + 2 ≤ (nb (h * 18446744073709551616 + l) : Int)) (w : World) :
    Calls Tryd.prog 12 #[.int .i64 f, .int .i64 mode, .int .i64 sign, .int .i64 exp, .agg #[.int .u64 (h : Nat), .int .u64 (l : Nat)], .bool sticky] w fun x w' => ∃ z fl, RoundIs p (1 - mx) mx one inf mode sign (h * 18446744073709551616 + l) exp sticky z fl ∧ 0 ≤ z ∧ z < sg ∧ x = .returned (.agg #[.int .u64 (sw sign sg z), .int .i64 fl]) ∧ Gb w w' := by
  obtain ⟨b1, b2, b3, b4, b5, b6, b7, b8, b9, b10, b11, b12⟩ := hf.bounds
  have HF : Hid (∀ w, Calls Tryd.prog 27 #[.int .i64 f] w fun e w' => e = .returned (.bool true) ∧ w = w') := fun w => l2Format_any f true (IsFmt.yes hf) w
  have HW : Hid (∀ w, Calls Tryd.prog 34 #[.int .i64 mode] w fun e w' => e = .returned (.bool true) ∧ w = w') := fun w => l2Way_any mode true (decide_eq_true ⟨m0, m1⟩).symm w
  have HP : Hid (∀ w, Calls Tryd.prog 23 #[.int .i64 f] w fun e w' => e = .returned (.int .i64 p) ∧ w = w') := fun w => l2P_any hf w
  have hnb : nb (h * 18446744073709551616 + l) ≤ 128 := nb_le (by omega)
  have HBig : Hid (∀ w, Calls Tryd.prog 36 #[.agg #[.int .u64 (h : Nat), .int .u64 (l : Nat)]] w fun x w' => ∃ b k c, x = .returned (.slice (some ⟨b, 0, none⟩) k c) ∧ ((k : Int) == 0) = false ∧ BigN 4 w' (.slice (some ⟨b, 0, none⟩) k c) (h * 18446744073709551616 + l) ∧ Gb w w') := fun w => (l2BigWide_any h l h1 l1 w).mono (fun x w' ⟨v', k, a1, a2, a3, a4⟩ => by
    obtain ⟨b, c, rfl, _⟩ := Big.shape a2
    exact ⟨b, k, c, a1, Big.some a2 (by omega), ⟨k, a3, a2⟩, a4⟩)
  have HLen : Hid (∀ v w, BigN 4 w v (h * 18446744073709551616 + l) → Calls Tryd.prog 37 #[v] w fun x w' => x = .returned (.int .i64 (nb (h * 18446744073709551616 + l))) ∧ w = w') := fun v w ⟨n, a1, a2⟩ => l2Len_any a2 (by omega)
  have HRd : Hid (∀ v w, BigN 4 w v (h * 18446744073709551616 + l) → Calls Tryd.prog 39 #[.int .i64 f, .int .i64 mode, .agg #[.int .i64 sign, v, .int .i64 exp, .bool sticky]] w fun x w' => ∃ z fl, RoundIs p (1 - mx) mx one inf mode sign (h * 18446744073709551616 + l) exp sticky z fl ∧ 0 ≤ z ∧ z < sg ∧ x = .returned (.agg #[.int .u64 (sw sign sg z), .int .i64 fl]) ∧ Gb w w') := fun v w ⟨n, a1, a2⟩ => l2Round_any hf a2 (by omega) hM (by omega) mode sign exp sticky m0 m1 (by omega) (by omega) (by omega) (fun k => hn k)
  have hn' : Hid (sticky = true → p + 2 ≤ (nb (h * 18446744073709551616 + l) : Int)) := hn
  generalize nb (h * 18446744073709551616 + l) = L at *
  generalize h * 18446744073709551616 + l = M at *
  clear hf hn
  cases sticky
  · clear hn'
    go_enter Tryd.func12, Tryd.ntmps12
    go_wp2_with (first
      | (go_at_call 27; refine (HF.out _).mono ?_; rintro x wk ⟨rfl, hw⟩; subst hw)
      | (go_at_call 34; refine (HW.out _).mono ?_; rintro x wk ⟨rfl, hw⟩; subst hw)
      | (go_at_call 23; refine (HP.out _).mono ?_; rintro x wk ⟨rfl, hw⟩; subst hw)
      | (go_at_call 36; refine (HBig.out _).mono ?_; rintro x w2 ⟨b2, k2, c2, rfl, hk2, hb2, hg2⟩; have bs0 : w2.cell? ⟨w.heap.size, 0, none⟩ = some (.int .u64 (h : Nat)) := kb; have bs1 : w2.cell? ⟨w.heap.size, 1, none⟩ = some (.int .u64 (l : Nat)) := kb; have br0 : w2.cell? ⟨w.heap.size + 1, 0, none⟩ = some (.int .u64 0) := kb; have bz0 : w2.frozen? ⟨w.heap.size + 1, 0, none⟩ = false := kb; have br1 : w2.cell? ⟨w.heap.size + 1, 1, none⟩ = some (.int .i64 0) := kb; have bz1 : w2.frozen? ⟨w.heap.size + 1, 1, none⟩ = false := kb)
      | (go_at_call 37; refine (HLen.out _ _ hb2).mono ?_; rintro x wk ⟨rfl, hw⟩; subst hw)
      | (go_at_call 39; refine (HRd.out _ _ hb2).mono ?_; rintro x w1 ⟨z, fl, hri, z0, z1, rfl, hg1⟩; have ar0 : w1.cell? ⟨w.heap.size + 1, 0, none⟩ = some (.int .u64 0) := kb; have az0 : w1.frozen? ⟨w.heap.size + 1, 0, none⟩ = false := kb; have ar1 : w1.cell? ⟨w.heap.size + 1, 1, none⟩ = some (.int .i64 0) := kb; have az1 : w1.frozen? ⟨w.heap.size + 1, 1, none⟩ = false := kb))
    refine bodyPost_ret (v := .agg #[.int .u64 (sw sign sg z), .int .i64 fl]) (by simp [results, Tryd.results12, go_sem, ar0, ar1]) rfl ⟨z, fl, hri, z0, z1, rfl, ?_⟩
    exact kg

  · have hn2 := hn'.out rfl
    clear hn'
    go_enter Tryd.func12, Tryd.ntmps12
    go_wp2_with (first
      | (go_at_call 27; refine (HF.out _).mono ?_; rintro x wk ⟨rfl, hw⟩; subst hw)
      | (go_at_call 34; refine (HW.out _).mono ?_; rintro x wk ⟨rfl, hw⟩; subst hw)
      | (go_at_call 23; refine (HP.out _).mono ?_; rintro x wk ⟨rfl, hw⟩; subst hw)
      | (go_at_call 36; refine (HBig.out _).mono ?_; rintro x w2 ⟨b2, k2, c2, rfl, hk2, hb2, hg2⟩; have bs0 : w2.cell? ⟨w.heap.size, 0, none⟩ = some (.int .u64 (h : Nat)) := kb; have bs1 : w2.cell? ⟨w.heap.size, 1, none⟩ = some (.int .u64 (l : Nat)) := kb; have br0 : w2.cell? ⟨w.heap.size + 1, 0, none⟩ = some (.int .u64 0) := kb; have bz0 : w2.frozen? ⟨w.heap.size + 1, 0, none⟩ = false := kb; have br1 : w2.cell? ⟨w.heap.size + 1, 1, none⟩ = some (.int .i64 0) := kb; have bz1 : w2.frozen? ⟨w.heap.size + 1, 1, none⟩ = false := kb)
      | (go_at_call 37; refine (HLen.out _ _ hb2).mono ?_; rintro x wk ⟨rfl, hw⟩; subst hw)
      | (go_at_call 39; refine (HRd.out _ _ hb2).mono ?_; rintro x w1 ⟨z, fl, hri, z0, z1, rfl, hg1⟩; have ar0 : w1.cell? ⟨w.heap.size + 1, 0, none⟩ = some (.int .u64 0) := kb; have az0 : w1.frozen? ⟨w.heap.size + 1, 0, none⟩ = false := kb; have ar1 : w1.cell? ⟨w.heap.size + 1, 1, none⟩ = some (.int .i64 0) := kb; have az1 : w1.frozen? ⟨w.heap.size + 1, 1, none⟩ = false := kb))
    refine bodyPost_ret (v := .agg #[.int .u64 (sw sign sg z), .int .i64 fl]) (by simp [results, Tryd.results12, go_sem, ar0, ar1]) rfl ⟨z, fl, hri, z0, z1, rfl, ?_⟩
    exact kg

end Go.Proofs.YtoaggnpcmieeaaaDoor
