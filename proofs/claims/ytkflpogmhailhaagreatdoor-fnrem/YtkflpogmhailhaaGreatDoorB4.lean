/- spec's small functions of chapter 3. -/
import Derived.Test.YtkflpogmhailhaaGreatDoorBigRoundW
import Derived.Test.YtkflpogmhailhaaGreatDoorL2B
import Derived.Test.YtkflpogmhailhaaGreatDoorA6
import Derived.Test.YtkflpogmhailhaaGreatDoorA7
set_option linter.unusedVariables false
set_option linter.unusedSimpArgs false
namespace Go.Proofs.YtkflpogmhailhaaGreatDoor
open Go.RowKit
set_option maxRecDepth 100000 in
theorem l3Quiet_any (c s x g : Int) (b : Bool) (hb : b = decide (3 ≤ c)) (w : World) :
    Calls Tryz.prog 42 #[.agg #[.int .i64 c, .int .i64 s, .int .i64 x, .int .u64 g]] w fun e w' => e = .returned (.bool b) ∧ Gr w w' := by
  have hB : Hid (b = decide (3 ≤ c)) := hb
  clear hb
  go_enter Tryz.func42, Tryz.ntmps42
  go_wp2
  go_returns
  exact ⟨ret_congr (congrArg Value.bool (by rw [hB.out])), kr⟩

set_option maxRecDepth 100000 in
theorem l3Nan_yes {f p mx one inf sg nan : Int} (h : IsFmt f p mx one inf sg nan) (w : World) :
    Calls Tryz.prog 43 #[.int .i64 f, .bool true] w fun e w' => e = .returned (.agg #[.int .u64 nan, .int .i64 1]) ∧ Gr w w' := by
  have HB : Hid (∀ w, Calls Tryz.prog 41 #[.int .i64 f] w fun e w' => e = .returned (.agg #[.int .u64 nan, .int .i64 1]) ∧ Gr w w') := fun w => l2Bad_fmt h w
  clear h
  go_enter Tryz.func43, Tryz.ntmps43
  go_wp2_with (go_at_call 41; refine (HB.out _).mono ?_; rintro x w1 ⟨rfl, hg1⟩; have ar0 : w1.cell? ⟨w.heap.size, 0, none⟩ = some (.int .u64 0) := kq; have az0 : w1.frozen? ⟨w.heap.size, 0, none⟩ = false := kq; have ar1 : w1.cell? ⟨w.heap.size, 1, none⟩ = some (.int .i64 0) := kq; have az1 : w1.frozen? ⟨w.heap.size, 1, none⟩ = false := kq)
  refine bodyPost_ret (v := .agg #[.int .u64 nan, .int .i64 1]) (by simp [results, Tryz.results43, go_sem, ar0, ar1]) rfl ⟨rfl, ?_⟩
  exact kr

set_option maxRecDepth 100000 in
theorem l3Nan_no {f p mx one inf sg nan : Int} (h : IsFmt f p mx one inf sg nan) (w : World) :
    Calls Tryz.prog 43 #[.int .i64 f, .bool false] w fun e w' => e = .returned (.agg #[.int .u64 nan, .int .i64 0]) ∧ Gr w w' := by
  have HB : Hid (∀ w, Calls Tryz.prog 63 #[.int .i64 f] w fun e w' => e = .returned (.int .u64 nan) ∧ w = w') := fun w => l2Nan_any h w
  clear h
  go_enter Tryz.func43, Tryz.ntmps43
  go_wp2_with (go_at_call 63; refine (HB.out _).mono ?_; rintro x wk ⟨rfl, hw⟩; subst hw)
  go_returns
  exact ⟨rfl, kr⟩

theorem l3Nan_any {f p mx one inf sg nan : Int} (h : IsFmt f p mx one inf sg nan) (b : Bool) (fl : Int) (hb : fl = if b then 1 else 0) (w : World) :
    Calls Tryz.prog 43 #[.int .i64 f, .bool b] w fun e w' => e = .returned (.agg #[.int .u64 nan, .int .i64 fl]) ∧ Gr w w' := by
  cases b
  · subst hb; exact l3Nan_no h w
  · subst hb; exact l3Nan_yes h w

set_option maxRecDepth 100000 in
theorem l3Zero_any {f p mx one inf sg nan : Int} (h : IsFmt f p mx one inf sg nan) (sign : Int) (hs : sign = 0 ∨ sign = 1) (w : World) :
    Calls Tryz.prog 50 #[.int .i64 f, .int .i64 sign] w fun e w' => e = .returned (.agg #[.int .u64 (sw sign sg 0), .int .i64 0]) ∧ Gr w w' := by
  have hb := h.bounds
  have HPut : Hid (∀ w', Calls Tryz.prog 61 #[.int .i64 f, .int .i64 sign, .int .u64 0] w' fun x w'' => x = .returned (.int .u64 (sw sign sg 0)) ∧ w' = w'') := fun w' => l2Put_any h sign 0 _ (by
    unfold sw
    rcases hs with rfl | rfl
    · exact .inl ⟨rfl, by simp⟩
    · exact .inr ⟨rfl, by simp⟩) (by omega) (by omega) w'
  clear h hb
  generalize sw sign sg 0 = Z at *
  go_enter Tryz.func50, Tryz.ntmps50
  go_wp2_with (go_at_call 61; refine (HPut.out _).mono ?_; rintro x wk ⟨rfl, hw⟩; subst hw)
  go_returns
  exact ⟨rfl, kr⟩

set_option maxRecDepth 100000 in
theorem l3Infinity_any {f p mx one inf sg nan : Int} (h : IsFmt f p mx one inf sg nan) (sign : Int) (hs : sign = 0 ∨ sign = 1) (w : World) :
    Calls Tryz.prog 56 #[.int .i64 f, .int .i64 sign] w fun e w' => e = .returned (.agg #[.int .u64 (sw sign sg inf), .int .i64 0]) ∧ Gr w w' := by
  have hb := h.bounds
  have HPut : Hid (∀ w', Calls Tryz.prog 61 #[.int .i64 f, .int .i64 sign, .int .u64 inf] w' fun x w'' => x = .returned (.int .u64 (sw sign sg inf)) ∧ w' = w'') := fun w' => l2Put_any h sign inf _ (by
    unfold sw
    rcases hs with rfl | rfl
    · exact .inl ⟨rfl, by simp⟩
    · exact .inr ⟨rfl, by simp⟩) (by omega) (by omega) w'
  have HI : Hid (∀ w, Calls Tryz.prog 62 #[.int .i64 f] w fun e w' => e = .returned (.int .u64 inf) ∧ w = w') := fun w => l2Inf_any h w
  clear h hb
  generalize sw sign sg inf = Z at *
  go_enter Tryz.func56, Tryz.ntmps56
  go_wp2_with (first
    | (go_at_call 62; refine (HI.out _).mono ?_; rintro x wk ⟨rfl, hw⟩; subst hw)
    | (go_at_call 61; refine (HPut.out _).mono ?_; rintro x wk ⟨rfl, hw⟩; subst hw))
  go_returns
  exact ⟨rfl, kr⟩

set_option maxRecDepth 100000 in
theorem l3Fits_yes {f p mx one inf sg nan : Int} (h : IsFmt f p mx one inf sg nan) (mode a b : Int) (m0 : 0 ≤ mode) (m1 : mode ≤ 4) (a0 : 0 ≤ a) (a1 : a < 2 * sg) (b0 : 0 ≤ b) (b1 : b < 2 * sg) (w : World) :
    Calls Tryz.prog 37 #[.int .i64 f, .int .i64 mode, .int .u64 a, .int .u64 b] w fun e w' => e = .returned (.bool true) ∧ w = w' := by
  have HW : Hid (∀ w, Calls Tryz.prog 91 #[.int .i64 mode] w fun e w' => e = .returned (.bool true) ∧ w = w') := fun w => l2Way_any mode true (decide_eq_true ⟨m0, m1⟩).symm w
  have HF : Hid (∀ v w, 0 ≤ v → v < 2 * sg → Calls Tryz.prog 74 #[.int .i64 f, .int .u64 v] w fun e w' => e = .returned (.bool true) ∧ w = w') := fun v w v0 v1 => l2Fits_yes h v v0 v1 w
  clear h
  go_enter Tryz.func37, Tryz.ntmps37
  go_wp2_with (first
    | (go_at_call 91; refine (HW.out _).mono ?_; rintro x wk ⟨rfl, hw⟩; subst hw)
    | (go_at_call 74; refine (HF.out _ _ (by omega) (by omega)).mono ?_; rintro x wk ⟨rfl, hw⟩; subst hw))
  go_returns
  exact ⟨rfl, rfl⟩

/-- The format, the way or one of the words is none. -/
def NoFit (f mode a b : Int) : Prop := (mode < 0 ∨ 4 < mode) ∨ ¬ (f = 0 ∨ f = 1) ∨ f = 0 ∧ 4294967296 ≤ a ∨ f = 0 ∧ 4294967296 ≤ b

set_option maxRecDepth 100000 in
set_option maxHeartbeats 2000000 in
theorem l3Fits_no (f mode a b : Int) (a0 : 0 ≤ a) (a1 : a < 18446744073709551616) (b0 : 0 ≤ b) (b1 : b < 18446744073709551616) (h : NoFit f mode a b) (w : World) :
    Calls Tryz.prog 37 #[.int .i64 f, .int .i64 mode, .int .u64 a, .int .u64 b] w fun e w' => e = .returned (.bool false) ∧ w = w' := by
  have HFt : ∀ v, 0 ≤ v → v < 18446744073709551616 → Hid (∀ w, Calls Tryz.prog 74 #[.int .i64 f, .int .u64 v] w fun e w' => e = .returned (.bool true) ∧ w = w') ∨ Hid (∀ w, Calls Tryz.prog 74 #[.int .i64 f, .int .u64 v] w fun e w' => e = .returned (.bool false) ∧ w = w') ∧ (¬ (f = 0 ∨ f = 1) ∨ (f = 0 ∧ 4294967296 ≤ v)) := by
    intro v v0 v1
    rcases fit_or f v v0 v1 with ⟨p, mx, one, inf, sg, nan, hF, hv⟩ | hn
    · exact .inl (fun w => l2Fits_yes hF v v0 hv w)
    · exact .inr ⟨fun w => l2Fits_no f v v0 hn w, hn⟩
  have hFf : ∀ v, 0 ≤ v → (¬ (f = 0 ∨ f = 1) ∨ (f = 0 ∧ 4294967296 ≤ v)) → Hid (∀ w, Calls Tryz.prog 74 #[.int .i64 f, .int .u64 v] w fun e w' => e = .returned (.bool false) ∧ w = w') := fun v v0 hn w => l2Fits_no f v v0 hn w
  by_cases hm : 0 ≤ mode ∧ mode ≤ 4
  · have HW : Hid (∀ w, Calls Tryz.prog 91 #[.int .i64 mode] w fun e w' => e = .returned (.bool true) ∧ w = w') := fun w => l2Way_any mode true (decide_eq_true hm).symm w
    rcases HFt a a0 a1 with HA | ⟨HA, _⟩
    · have hnb : ¬ (f = 0 ∨ f = 1) ∨ (f = 0 ∧ 4294967296 ≤ b) ∨ (f = 0 ∧ 4294967296 ≤ a) := by
        rcases h with h | h | h | h
        · omega
        · exact .inl h
        · exact .inr (.inr h)
        · exact .inr (.inl h)
      by_cases hb : ¬ (f = 0 ∨ f = 1) ∨ (f = 0 ∧ 4294967296 ≤ b)
      · have HB := hFf b b0 hb
        clear HFt hFf h hnb hb
        go_enter Tryz.func37, Tryz.ntmps37
        go_wp2_with (first
          | (go_at_call 91; refine (HW.out _).mono ?_; rintro x wk ⟨rfl, hw⟩; subst hw)
          | (go_at_call 74; first | (with_reducible refine (HA.out _).mono ?_; rintro x wk ⟨rfl, hw⟩; subst hw) | (with_reducible refine (HB.out _).mono ?_; rintro x wk ⟨rfl, hw⟩; subst hw)))
        go_returns
        exact ⟨rfl, rfl⟩
      · have HA' := hFf a a0 (by omega)
        clear HFt hFf h hnb hb HA
        go_enter Tryz.func37, Tryz.ntmps37
        go_wp2_with (first
          | (go_at_call 91; refine (HW.out _).mono ?_; rintro x wk ⟨rfl, hw⟩; subst hw)
          | (go_at_call 74; refine (HA'.out _).mono ?_; rintro x wk ⟨rfl, hw⟩; subst hw))
        go_returns
        exact ⟨rfl, rfl⟩
    · clear HFt hFf h
      go_enter Tryz.func37, Tryz.ntmps37
      go_wp2_with (first
        | (go_at_call 91; refine (HW.out _).mono ?_; rintro x wk ⟨rfl, hw⟩; subst hw)
        | (go_at_call 74; refine (HA.out _).mono ?_; rintro x wk ⟨rfl, hw⟩; subst hw))
      go_returns
      exact ⟨rfl, rfl⟩
  · have HW : Hid (∀ w, Calls Tryz.prog 91 #[.int .i64 mode] w fun e w' => e = .returned (.bool false) ∧ w = w') := fun w => l2Way_any mode false (decide_eq_false hm).symm w
    clear HFt hFf h
    go_enter Tryz.func37, Tryz.ntmps37
    go_wp2_with (go_at_call 91; refine (HW.out _).mono ?_; rintro x wk ⟨rfl, hw⟩; subst hw)
    go_returns
    exact ⟨rfl, rfl⟩
end Go.Proofs.YtkflpogmhailhaaGreatDoor

/- spec's exact numbers: l3Number, l3Product, l3Total. -/
set_option linter.unusedVariables false
set_option linter.unusedSimpArgs false
namespace Go.Proofs.YtkflpogmhailhaaGreatDoor
open Go.RowKit
theorem big_slice {K : Nat} {F : Nat} {args : Array Value} {w : World} {N : Nat} (h : Calls Tryz.prog F args w fun e w' => ∃ v' k, e = .returned v' ∧ Big w' v' k N ∧ k ≤ K ∧ Gb w w') :
    Calls Tryz.prog F args w fun e w' => ∃ b k c, BigN K w' (.slice (some ⟨b, 0, none⟩) k c) N ∧ e = .returned (.slice (some ⟨b, 0, none⟩) k c) ∧ Gb w w' := h.mono (fun x w' ⟨v', k, a1, a2, a3, a4⟩ => by
  obtain ⟨b, c, rfl, _⟩ := Big.shape a2
  exact ⟨b, k, c, ⟨k, a3, a2⟩, a1, a4⟩)
theorem BigN.le {K L : Nat} {w : World} {v : Value} {N : Nat} (h : BigN K w v N) (k : K ≤ L) : BigN L w v N := by
  obtain ⟨n, a, b⟩ := h
  exact ⟨n, by omega, b⟩

theorem BigN.st {K : Nat} {w : World} {v : Value} {N : Nat} (h : BigN K w v N) {r o : Nat} {u0 : Value} (u : Value) (h0 : w.cell? ⟨r, o, none⟩ = some u0) (hu : ∀ d, u0 ≠ .int .u32 d) : BigN K (w.setCell ⟨r, o, none⟩ u) v N := by
  obtain ⟨n, hn, hnm, hN, b, cap, rfl, hcap, hmx, hcell⟩ := h
  refine ⟨n, hn, hnm, hN, b, cap, rfl, hcap, hmx, fun j hj => ?_⟩
  have := hcell j hj
  by_cases e : r = b ∧ o = j
  · obtain ⟨rfl, rfl⟩ := e
    rw [h0] at this
    exact absurd (Option.some.inj this) (hu _)
  · rw [World.cell?_setCell_other]
    · exact this
    · intro e'; injection e' with e1 e2 e3; exact e ⟨by omega, by omega⟩
theorem BigN.st4 {K : Nat} {w : World} {v : Value} {N : Nat} (h : BigN K w v N) {r : Nat} {x0 x2 : Int} {x3 : Bool} {u0 u1 u2 u3 : Value} (h0 : w.cell? ⟨r, 0, none⟩ = some (.int .i64 x0)) (h1 : w.cell? ⟨r, 1, none⟩ = some (.slice none 0 0)) (h2 : w.cell? ⟨r, 2, none⟩ = some (.int .i64 x2)) (h3 : w.cell? ⟨r, 3, none⟩ = some (.bool x3)) :
    BigN K ((((w.setCell ⟨r, 0, none⟩ u0).setCell ⟨r, 1, none⟩ u1).setCell ⟨r, 2, none⟩ u2).setCell ⟨r, 3, none⟩ u3) v N :=
  (((h.st u0 h0 (fun d e => by cases e)).st u1 (cell_setOff (by omega) h1) (fun d e => by cases e)).st u2 (cell_setOff (by omega) (cell_setOff (by omega) h2)) (fun d e => by cases e)).st u3 (cell_setOff (by omega) (cell_setOff (by omega) (cell_setOff (by omega) h3))) (fun d e => by cases e)

set_option maxRecDepth 1000000 in
set_option maxHeartbeats 4000000 in
theorem l3Number_any (c s x : Int) (G : Nat) (hG : G < 18446744073709551616) (w : World) :
    Calls Tryz.prog 58 #[.agg #[.int .i64 c, .int .i64 s, .int .i64 x, .int .u64 ((G : Nat))]] w fun e w' => ∃ b k cc, BigN 2 w' (.slice (some ⟨b, 0, none⟩) k cc) G ∧ e = .returned (.agg #[.int .i64 s, .slice (some ⟨b, 0, none⟩) k cc, .int .i64 x, .bool false]) ∧ Gb w w' := by
  have HB : Hid (∀ w, Calls Tryz.prog 45 #[.int .u64 (G : Nat)] w fun e w' => ∃ b k c, BigN 2 w' (.slice (some ⟨b, 0, none⟩) k c) G ∧ e = .returned (.slice (some ⟨b, 0, none⟩) k c) ∧ Gb w w') := fun w => big_slice (l2Big_any G hG w)
  generalize ((G : Nat) : Int) = g at *
  go_enter Tryz.func58, Tryz.ntmps58
  go_wp2
  go_region_held3 (fun w' => w'.cell? ⟨w.heap.size, 0, none⟩ = some (.int .i64 c) ∧ w'.cell? ⟨w.heap.size, 1, none⟩ = some (.int .i64 s) ∧ w'.cell? ⟨w.heap.size, 2, none⟩ = some (.int .i64 x) ∧ w'.cell? ⟨w.heap.size, 3, none⟩ = some (.int .u64 g))
    ((go_split_ands; (repeat' apply And.intro) <;> exact kh))
    (first | (go_at_call 45; refine (HB.out _).mono ?_; rintro e w1 ⟨b, k, cc, hbig, rfl, hg_w1⟩; have ar0 : w1.cell? ⟨w.heap.size + 1, 0, none⟩ = some (.int .i64 0) := hg_w1.c; have arz0 : w1.frozen? ⟨w.heap.size + 1, 0, none⟩ = false := hg_w1.z ar0; have ar1 : w1.cell? ⟨w.heap.size + 1, 1, none⟩ = some (.slice none 0 0) := hg_w1.c; have arz1 : w1.frozen? ⟨w.heap.size + 1, 1, none⟩ = false := hg_w1.z ar1; have ar2 : w1.cell? ⟨w.heap.size + 1, 2, none⟩ = some (.int .i64 0) := hg_w1.c; have arz2 : w1.frozen? ⟨w.heap.size + 1, 2, none⟩ = false := hg_w1.z ar2; have ar3 : w1.cell? ⟨w.heap.size + 1, 3, none⟩ = some (.bool false) := hg_w1.c; have arz3 : w1.frozen? ⟨w.heap.size + 1, 3, none⟩ = false := hg_w1.z ar3))
  all_goals (try go_split_ands)
  all_goals go_wp2
  all_goals
    refine bodyPost_ret (v := .agg #[.int .i64 s, .slice (some ⟨b, 0, none⟩) k cc, .int .i64 x, .bool false]) (by simp [results, Tryz.results58, go_sem, ar0, ar1, ar2, ar3]) rfl ⟨b, k, cc, ?_, rfl, ?_⟩
    · exact hbig.st4 ar0 ar1 ar2 ar3
    · exact Gb.g
end Go.Proofs.YtkflpogmhailhaaGreatDoor
