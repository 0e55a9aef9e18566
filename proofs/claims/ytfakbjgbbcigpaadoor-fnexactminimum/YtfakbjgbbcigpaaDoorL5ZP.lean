/- Minimum and Maximum: both sides. -/
import Derived.Test.YtfakbjgbbcigpaaDoorL5ZO
import Derived.Test.YtfakbjgbbcigpaaDoorL5LO
import Derived.Test.YtfakbjgbbcigpaaDoorL5M
import Derived.Test.YtfakbjgbbcigpaaDoorL5PW
import Derived.Test.YtfakbjgbbcigpaaDoorL4NC
import Derived.Test.YtfakbjgbbcigpaaDoorL3N
set_option linter.unusedVariables false
set_option linter.unusedSimpArgs false
namespace Go.Proofs.YtfakbjgbbcigpaaDoor
open Go.RowKit

/-- The lesser or the greater of two. -/
def pickO (l : Bool) (x y : Opd) : Opd :=
  if 3 ≤ max x.c y.c then ⟨max x.c y.c, 0, 0, 0⟩ else if l then (if ordO x y ≤ 0 then x else y) else (if 0 ≤ ordO x y then x else y)
theorem pickO_c (l : Bool) (x y : Opd) (hx : VO x) (hy : VO y) : 0 ≤ (pickO l x y).c ∧ (pickO l x y).c ≤ 4 := by
  have := hx.c0; have := hx.c4; have := hy.c0; have := hy.c4
  unfold pickO
  repeat' split
  all_goals ((try dsimp only); omega)

theorem same_nan (m : Int) (h3 : 3 ≤ m) (h4 : m ≤ 4) : SameV ⟨m, 0, 0, 0⟩ 0 0 m 0 0 false := ⟨0, by simp, by simp, Same.self ⟨m, 0, 0, 0⟩ (fun c => by dsimp only at c; omega), by omega, by omega, fun c => by omega⟩
theorem wrap_signs {s t : Int} (hs : s = 0 ∨ s = 1) (ht : t = 0 ∨ t = 1) : IntKind.i64.wrap (t - s) = t - s := by
  rcases hs with rfl | rfl <;> rcases ht with rfl | rfl <;> decide +kernel

set_option maxHeartbeats 2000000 in
theorem specPick_any (l : Bool) (f a b : Int) (a0 : 0 ≤ a) (a1 : a < 18446744073709551616) (b0 : 0 ≤ b) (b1 : b < 18446744073709551616) (w : World) :
    Calls Tryd.prog 37 #[.int .i64 f, .int .u64 a, .int .u64 b, .bool l] w fun e w' => ∃ Z fl, OpR (fun _ => pickO l) f 0 a b Z fl ∧ e = .returned (.agg #[.int .u64 Z, .int .i64 fl]) ∧ Gr w w' := by
  by_cases hf : f = 0 ∨ f = 1
  · obtain ⟨p, mx, one, inf, sg, nan, hF⟩ := fmt_of f hf
    obtain ⟨x, hx⟩ := opd_ex hF a a0 a1
    obtain ⟨y, hy⟩ := opd_ex hF b b0 b1
    obtain ⟨v1, v2, v3, v4, v5, v6⟩ := opd_vo hF hx
    obtain ⟨u1, u2, u3, u4, u5, u6⟩ := opd_vo hF hy
    have xc0 := v1.c0; have xc4 := v1.c4; have yc0 := u1.c0; have yc4 := u1.c4
    have fin : ∀ Z fl, PackIs p (1 - mx) mx one inf sg nan 0 (pickO l x y) Z fl → (Calls Tryd.prog 37 #[.int .i64 f, .int .u64 a, .int .u64 b, .bool l] w fun e w' => e = .returned (.agg #[.int .u64 Z, .int .i64 fl]) ∧ Gr w w') → Calls Tryd.prog 37 #[.int .i64 f, .int .u64 a, .int .u64 b, .bool l] w fun e w' => ∃ Z fl, OpR (fun _ => pickO l) f 0 a b Z fl ∧ e = .returned (.agg #[.int .u64 Z, .int .i64 fl]) ∧ Gr w w' := fun Z fl hp h => h.mono (fun e w' ⟨h1, h2⟩ => ⟨Z, fl, .inl ⟨p, mx, one, inf, sg, nan, x, y, hF, by omega, hx, hy, hp⟩, h1, h2⟩)
    by_cases fa : a < 2 * sg
    · by_cases fb : b < 2 * sg
      · have HFa : Hid (∀ w, Calls Tryd.prog 30 #[.int .i64 f, .int .u64 a] w fun e w' => e = .returned (.bool true) ∧ w = w') := fun w => l2Fits_yes hF a a0 fa w
        have HFb : Hid (∀ w, Calls Tryd.prog 30 #[.int .i64 f, .int .u64 b] w fun e w' => e = .returned (.bool true) ∧ w = w') := fun w => l2Fits_yes hF b b0 fb w
        have HUa := unp_det hF a a0 fa hx
        have HUb := unp_det hF b b0 fb hy
        have HQ : ∀ (z : Opd) (t : Bool), t = decide (3 ≤ z.c) → Hid (∀ w, Calls Tryd.prog 32 #[.agg #[.int .i64 z.c, .int .i64 z.s, .int .i64 z.e, .int .u64 (((z.M : Nat) : Int))]] w fun e w' => e = .returned (.bool t) ∧ Gr w w') := fun z t ht w => l3Quiet_any _ _ _ _ t ht w
        by_cases cn : 3 ≤ max x.c y.c
        · have hp : pickO l x y = ⟨max x.c y.c, 0, 0, 0⟩ := by unfold pickO; rw [if_pos cn]
          refine fin nan (if (decide (x.c = 4) || decide (y.c = 4)) then 1 else 0) ?_ (sPick_nan f a b _ _ _ _ _ _ _ _ nan _ l (decide (3 ≤ x.c)) (decide (3 ≤ y.c)) _ (by simp; omega) (decide (x.c = 4)) (decide (y.c = 4)) (bq _ _) (bq _ _) rfl HFa HFb HUa HUb (HQ x _ rfl) (HQ y _ rfl) (fun w => l3Nan_any hF _ _ rfl w) w)
          rw [hp]
          refine nan_pack _ _ ?_ (by omega) (by omega)
          rw [← Bool.decide_or, decide_eq_decide]
          omega
        · have hQa := HQ x false (by simp; omega)
          have hQb := HQ y false (by simp; omega)
          have HO : Hid (∀ w, Calls Tryd.prog 33 #[.int .i64 f, .int .u64 a, .int .u64 b] w fun e w' => e = .returned (.int .i64 (ordW x y)) ∧ w = w') := fun w => l5Order_any hF a0 b0 hx hy (by omega) (by omega) w
          obtain ⟨v, u, ⟨ha, v0, v1', va, vb⟩, ⟨hb, u0, u1', ua, ub⟩, hl⟩ := ord_word hF a0 b0 hx hy (show x.c ≤ 2 by omega) (show y.c ≤ 2 by omega)
          have px := pack_own hF a0 hx (show x.c ≤ 2 by omega) 0
          have py := pack_own hF b0 hy (show y.c ≤ 2 by omega) 0
          have x01 := v1.s01
          have y01 := u1.s01
          have hl1 := cmpI_01 v u
          -- where the order is 0, the words are the same
          have heq : ordO x y = 0 → a = b := by
            intro h
            unfold ordO at h
            rw [hl] at h
            by_cases c : x.s = y.s
            · rw [if_neg (by simp [c])] at h
              have hc : cmpI v u = 0 := by split at h <;> omega
              have : v = u := by
                unfold cmpI at hc
                split at hc
                · omega
                · split at hc <;> omega
              omega
            · rw [if_pos c] at h; omega
          have hpk : ∀ q : Bool, decide (ordO x y ≤ 0) = q → ∃ z, ((q == l) = true ∧ z = a ∨ (q == l) = false ∧ z = b) ∧ PackIs p (1 - mx) mx one inf sg nan 0 (pickO l x y) z 0 := by
            intro q hq
            unfold pickO
            rw [if_neg cn]
            by_cases c : ordO x y ≤ 0
            · rw [decide_eq_true c] at hq
              subst hq
              cases l
              · refine ⟨b, .inr ⟨rfl, rfl⟩, ?_⟩
                rw [if_neg (by decide)]
                by_cases c' : 0 ≤ ordO x y
                · rw [if_pos c', ← heq (by omega)]; exact px
                · rw [if_neg c']; exact py
              · refine ⟨a, .inl ⟨rfl, rfl⟩, ?_⟩
                rw [if_pos rfl, if_pos c]; exact px
            · rw [decide_eq_false c] at hq
              subst hq
              cases l
              · refine ⟨a, .inl ⟨rfl, rfl⟩, ?_⟩
                rw [if_neg (by decide), if_pos (by omega)]; exact px
              · refine ⟨b, .inr ⟨rfl, rfl⟩, ?_⟩
                rw [if_pos rfl, if_neg c]; exact py
          obtain ⟨z, hz, hp⟩ := hpk _ rfl
          refine fin z 0 hp ?_
          unfold ordW at HO
          by_cases c : max x.c y.c = 0
          · rw [if_pos c] at HO
            have hlz : lexO x y = 0 := by rw [hl, cmpI_eq (by omega)]
            by_cases cs : x.s = y.s
            · have : ordO x y = 0 := by unfold ordO; rw [if_neg (by simp [cs]), hlz]; split <;> rfl
              rw [this] at hz
              exact sPick_same f a b _ _ _ _ _ _ _ _ 0 l true rfl (by simp [cs]) rfl z hz HFa HFb HUa HUb hQa hQb HO w
            · have : ordO x y = y.s - x.s := by unfold ordO; rw [if_pos cs]
              rw [this] at hz
              exact sPick_signs f a b _ _ _ _ _ _ _ _ 0 l _ rfl (by simp [cs]) _ (wrap_signs x01 y01) rfl z hz HFa HFb HUa HUb hQa hQb HO w
          · rw [if_neg c] at HO
            by_cases c0 : ordO x y = 0
            · have cs : x.s = y.s := by
                rcases (show x.s = y.s ∨ x.s ≠ y.s by omega) with h | h
                · exact h
                · unfold ordO at c0; rw [if_pos h] at c0; omega
              rw [c0] at hz HO
              exact sPick_same f a b _ _ _ _ _ _ _ _ 0 l true rfl (by simp [cs]) rfl z hz HFa HFb HUa HUb hQa hQb HO w
            · exact sPick_neq f a b _ _ _ _ _ _ _ _ (ordO x y) l _ (by simp [c0]) rfl z hz HFa HFb HUa HUb hQa hQb HO w
      · refine fin nan 1 ?_ (sPick_bad2 f a b nan 1 l (fun w => l2Fits_yes hF a a0 fa w) (fun w => l2Fits_no f b b0 (.inr (nofit2 hF b1 (by omega))) w) (fun w => l2Bad_fmt hF w) w)
        have := opd_wide hF hy (by omega); subst this
        unfold pickO; rw [if_pos (by dsimp only; omega)]; exact bad_nan (by dsimp only; omega)
    · refine fin nan 1 ?_ (sPick_bad1 f a b nan 1 l (fun w => l2Fits_no f a a0 (.inr (nofit2 hF a1 (by omega))) w) (fun w => l2Bad_fmt hF w) w)
      have := opd_wide hF hx (by omega); subst this
      unfold pickO; rw [if_pos (by dsimp only; omega)]; exact bad_nan (by dsimp only; omega)
  · refine (sPick_bad1 f a b _ 1 l (fun w => l2Fits_no f a a0 (.inl hf) w) (fun w => l2Bad_no f hf w) w).mono ?_
    rintro e w' ⟨rfl, hg⟩
    exact ⟨_, _, .inr (.inr ⟨hf, rfl, rfl⟩), rfl, hg⟩

set_option maxRecDepth 1000000 in
set_option maxHeartbeats 4000000 in
theorem implMinimum_of (f a b : Int) (R : Int → Int → Prop) {w : World} (HC : Hid (∀ w', Gr w w' → Calls Tryd.prog 38 #[.int .i64 f, .int .i64 0, .func (.func 39) #[] #[], .int .u64 a, .int .u64 b] w' fun e w'' => ∃ z fl, R z fl ∧ e = .returned (.agg #[.int .u64 z, .int .i64 fl]) ∧ Gr w' w'')) :
    Calls Tryd.prog 14 #[.int .i64 f, .int .u64 a, .int .u64 b] w fun e w' => ∃ z fl, R z fl ∧ e = .returned (.agg #[.int .u64 z, .int .i64 fl]) ∧ Gr w w' := by
  go_enter Tryd.func14, Tryd.ntmps14
  go_wp2_with (go_at_call 38; refine (HC.out _ Gr.g).mono ?_; rintro e w1 ⟨z, fl, hr, rfl, hg_w1⟩; have ar0 : w1.cell? ⟨w.heap.size, 0, none⟩ = some (.int .u64 0) := hg_w1.c; have arz0 : w1.frozen? ⟨w.heap.size, 0, none⟩ = false := hg_w1.z; have ar1 : w1.cell? ⟨w.heap.size, 1, none⟩ = some (.int .i64 0) := hg_w1.c; have arz1 : w1.frozen? ⟨w.heap.size, 1, none⟩ = false := hg_w1.z)
  refine bodyPost_ret (v := .agg #[.int .u64 z, .int .i64 fl]) (by simp [results, Tryd.results14, go_sem, ar0, ar1]) rfl ⟨z, fl, hr, rfl, ?_⟩
  exact Gr.g

set_option maxRecDepth 1000000 in
set_option maxHeartbeats 4000000 in
theorem specMinimum_of (f a b : Int) (R : Int → Int → Prop) (HC : Hid (∀ w, Calls Tryd.prog 37 #[.int .i64 f, .int .u64 a, .int .u64 b, .bool true] w fun e w' => ∃ z fl, R z fl ∧ e = .returned (.agg #[.int .u64 z, .int .i64 fl]) ∧ Gr w w')) (w : World) :
    Calls Tryd.prog 13 #[.int .i64 f, .int .u64 a, .int .u64 b] w fun e w' => ∃ z fl, R z fl ∧ e = .returned (.agg #[.int .u64 z, .int .i64 fl]) ∧ Gb w w' := by
  go_enter Tryd.func13, Tryd.ntmps13
  go_wp2_with (go_at_call 37; refine (HC.out _).mono ?_; rintro e w1 ⟨z, fl, hr, rfl, hg_w1⟩; have ar0 : w1.cell? ⟨w.heap.size, 0, none⟩ = some (.int .u64 0) := hg_w1.c; have arz0 : w1.frozen? ⟨w.heap.size, 0, none⟩ = false := hg_w1.z; have ar1 : w1.cell? ⟨w.heap.size, 1, none⟩ = some (.int .i64 0) := hg_w1.c; have arz1 : w1.frozen? ⟨w.heap.size, 1, none⟩ = false := hg_w1.z)
  refine bodyPost_ret (v := .agg #[.int .u64 z, .int .i64 fl]) (by simp [results, Tryd.results13, go_sem, ar0, ar1]) rfl ⟨z, fl, hr, rfl, ?_⟩
  exact Gb.g

theorem implMinimum_any (f a b : Int) (a0 : 0 ≤ a) (a1 : a < 18446744073709551616) (b0 : 0 ≤ b) (b1 : b < 18446744073709551616) (w : World) (hw : Fm w) :
    Calls Tryd.prog 14 #[.int .i64 f, .int .u64 a, .int .u64 b] w fun e w' => ∃ Z fl, OpR (fun _ => pickO true) f 0 a b Z fl ∧ e = .returned (.agg #[.int .u64 Z, .int .i64 fl]) ∧ Gr w w' := by
  refine implMinimum_of f a b (OpR (fun _ => pickO true) f 0 a b) (fun w' hg => ?_)
  have hw' := hw.gr hg
  by_cases hf : f = 0 ∨ f = 1
  · obtain ⟨p, mx, one, inf, sg, nan, hF⟩ := fmt_of f hf
    obtain ⟨mn, fb, sp, hM, hmn, hfb⟩ := hF.m
    obtain ⟨k, hk⟩ := rule_of 0 (by omega) (by omega)
    obtain ⟨x, hx, HA⟩ := opd_is hF hM a a0 a1
    obtain ⟨y, hy, HB⟩ := opd_is hF hM b b0 b1
    obtain ⟨v1, v2, v3, v4, v5, v6⟩ := opd_vo hF hx
    obtain ⟨u1, u2, u3, u4, u5, u6⟩ := opd_vo hF hy
    refine (calc_okf p mn mx 0 f k 39 a b _ _ _ _ _ _ _ _ _ _ _ _ (fun w'' hg' => settingOf_yes hF hM 0 k (fun w => ruleOf_yes 0 k hk w) (hw'.gr hg')) HA HB (fun os oe oc oh ol ot of => SameV (pickO true x y) os oe oc oh ol ot ∧ of = 0) (fun w => ?_) (PackIs p mn mx one inf sg nan 0 (pickO true x y)) (fun os oe oc oh ol ot of w hq => by obtain ⟨hq, rfl⟩ := hq; exact pack_any hM 0 k hk _ os oe oc oh ol ot hq w)).mono ?_
    · by_cases cn : 3 ≤ max x.c y.c
      · have hp : pickO true x y = ⟨max x.c y.c, 0, 0, 0⟩ := by unfold pickO; rw [if_pos cn]
        refine (combine_nan p mn mx 0 k _ _ _ _ _ _ _ _ _ _ _ _ _ (max x.c y.c) rfl cn w).mono ?_
        rintro e w' ⟨rfl, hg⟩
        refine ⟨_, _, _, _, _, _, _, ⟨?_, rfl⟩, rfl, hg⟩
        rw [hp]
        have := v1.c4; have := u1.c4
        exact same_nan _ (by omega) (by omega)
      · have hO : Hid (∀ w, Calls Tryd.prog 36 #[.agg #[.int .i64 x.s, .int .i64 x.e, .int .i64 x.c, .int .u64 (((x.M / 18446744073709551616 : Nat) : Int)), .int .u64 (((x.M % 18446744073709551616 : Nat) : Int)), .bool false, .int .i64 0], .agg #[.int .i64 y.s, .int .i64 y.e, .int .i64 y.c, .int .u64 (((y.M / 18446744073709551616 : Nat) : Int)), .int .u64 (((y.M % 18446744073709551616 : Nat) : Int)), .bool false, .int .i64 0]] w fun e w' => e = .returned (.int .i64 (ordO x y)) ∧ Gr w w') := fun w => order_any x y v1 u1 (by omega) (by omega) w
        refine combine_lesserOf p mn mx 0 k _ _ _ _ _ _ _ _ _ _ _ _ (max x.c y.c) rfl (by omega) _ (fun w => ?_) w
        unfold pickO
        rw [if_neg cn, if_pos rfl]
        by_cases c : ordO x y ≤ 0
        · rw [if_pos c]
          refine (lesserOf_x p mn mx 0 k _ _ _ _ _ _ _ _ _ _ _ _ _ (decide_eq_true c) hO w).mono ?_
          rintro e w' ⟨rfl, hg⟩
          exact ⟨_, _, _, _, _, _, _, ⟨v1.same, rfl⟩, rfl, hg⟩
        · rw [if_neg c]
          refine (lesserOf_y p mn mx 0 k _ _ _ _ _ _ _ _ _ _ _ _ _ (decide_eq_false c) hO w).mono ?_
          rintro e w' ⟨rfl, hg⟩
          exact ⟨_, _, _, _, _, _, _, ⟨u1.same, rfl⟩, rfl, hg⟩
    · rintro e w'' ⟨Z, fl, hp, rfl, hg'⟩
      rw [hmn] at hp
      exact ⟨_, _, .inl ⟨p, mx, one, inf, sg, nan, x, y, hF, by omega, hx, hy, hp⟩, rfl, hg'⟩
  · refine (calc_no _ _ _ _ _ f 0 a b (fun w'' hg' => settingOf_none f 0 hf (hw'.gr hg')) (fun w => invalid_any m64 w) 39).mono ?_
    rintro e w'' ⟨rfl, hg'⟩
    exact ⟨_, _, .inr (.inr ⟨hf, rfl, rfl⟩), rfl, hg'⟩

theorem min_same (f a b : Int) (a0 : 0 ≤ a) (a1 : a < 18446744073709551616) (b0 : 0 ≤ b) (b1 : b < 18446744073709551616) :
    ∃ Z fl : Int, OpR (fun _ => pickO true) f 0 a b Z fl ∧ (∀ w, Calls Tryd.prog 13 #[.int .i64 f, .int .u64 a, .int .u64 b] w fun e w' => e = .returned (.agg #[.int .u64 Z, .int .i64 fl]) ∧ Gb w w') ∧
      (∀ w, Fm w → Calls Tryd.prog 14 #[.int .i64 f, .int .u64 a, .int .u64 b] w fun e w' => e = .returned (.agg #[.int .u64 Z, .int .i64 fl]) ∧ Gr w w') := by
  refine both_by (fun _ _ _ _ h h' => OpR.one h h') ?_ (fun w => specMinimum_of f a b _ (fun w => specPick_any true f a b a0 a1 b0 b1 w) w) (implMinimum_any f a b a0 a1 b0 b1)
  by_cases hf : f = 0 ∨ f = 1
  · obtain ⟨p, mx, one, inf, sg, nan, hF⟩ := fmt_of f hf
    obtain ⟨x, hx⟩ := opd_ex hF a a0 a1
    obtain ⟨y, hy⟩ := opd_ex hF b b0 b1
    obtain ⟨r1, r2⟩ := pickO_c true x y (opd_vo hF hx).1 (opd_vo hF hy).1
    obtain ⟨Z, fl, hp⟩ := pack_is p (1 - mx) mx one inf sg nan 0 _ r1 r2
    exact ⟨Z, fl, .inl ⟨p, mx, one, inf, sg, nan, x, y, hF, by omega, hx, hy, hp⟩⟩
  · exact ⟨_, _, .inr (.inr ⟨hf, rfl, rfl⟩)⟩


set_option maxRecDepth 1000000 in
set_option maxHeartbeats 4000000 in
theorem implMaximum_of (f a b : Int) (R : Int → Int → Prop) {w : World} (HC : Hid (∀ w', Gr w w' → Calls Tryd.prog 38 #[.int .i64 f, .int .i64 0, .func (.func 40) #[] #[], .int .u64 a, .int .u64 b] w' fun e w'' => ∃ z fl, R z fl ∧ e = .returned (.agg #[.int .u64 z, .int .i64 fl]) ∧ Gr w' w'')) :
    Calls Tryd.prog 17 #[.int .i64 f, .int .u64 a, .int .u64 b] w fun e w' => ∃ z fl, R z fl ∧ e = .returned (.agg #[.int .u64 z, .int .i64 fl]) ∧ Gr w w' := by
  go_enter Tryd.func17, Tryd.ntmps17
  go_wp2_with (go_at_call 38; refine (HC.out _ Gr.g).mono ?_; rintro e w1 ⟨z, fl, hr, rfl, hg_w1⟩; have ar0 : w1.cell? ⟨w.heap.size, 0, none⟩ = some (.int .u64 0) := hg_w1.c; have arz0 : w1.frozen? ⟨w.heap.size, 0, none⟩ = false := hg_w1.z; have ar1 : w1.cell? ⟨w.heap.size, 1, none⟩ = some (.int .i64 0) := hg_w1.c; have arz1 : w1.frozen? ⟨w.heap.size, 1, none⟩ = false := hg_w1.z)
  refine bodyPost_ret (v := .agg #[.int .u64 z, .int .i64 fl]) (by simp [results, Tryd.results17, go_sem, ar0, ar1]) rfl ⟨z, fl, hr, rfl, ?_⟩
  exact Gr.g

set_option maxRecDepth 1000000 in
set_option maxHeartbeats 4000000 in
theorem specMaximum_of (f a b : Int) (R : Int → Int → Prop) (HC : Hid (∀ w, Calls Tryd.prog 37 #[.int .i64 f, .int .u64 a, .int .u64 b, .bool false] w fun e w' => ∃ z fl, R z fl ∧ e = .returned (.agg #[.int .u64 z, .int .i64 fl]) ∧ Gr w w')) (w : World) :
    Calls Tryd.prog 16 #[.int .i64 f, .int .u64 a, .int .u64 b] w fun e w' => ∃ z fl, R z fl ∧ e = .returned (.agg #[.int .u64 z, .int .i64 fl]) ∧ Gb w w' := by
  go_enter Tryd.func16, Tryd.ntmps16
  go_wp2_with (go_at_call 37; refine (HC.out _).mono ?_; rintro e w1 ⟨z, fl, hr, rfl, hg_w1⟩; have ar0 : w1.cell? ⟨w.heap.size, 0, none⟩ = some (.int .u64 0) := hg_w1.c; have arz0 : w1.frozen? ⟨w.heap.size, 0, none⟩ = false := hg_w1.z; have ar1 : w1.cell? ⟨w.heap.size, 1, none⟩ = some (.int .i64 0) := hg_w1.c; have arz1 : w1.frozen? ⟨w.heap.size, 1, none⟩ = false := hg_w1.z)
  refine bodyPost_ret (v := .agg #[.int .u64 z, .int .i64 fl]) (by simp [results, Tryd.results16, go_sem, ar0, ar1]) rfl ⟨z, fl, hr, rfl, ?_⟩
  exact Gb.g

theorem implMaximum_any (f a b : Int) (a0 : 0 ≤ a) (a1 : a < 18446744073709551616) (b0 : 0 ≤ b) (b1 : b < 18446744073709551616) (w : World) (hw : Fm w) :
    Calls Tryd.prog 17 #[.int .i64 f, .int .u64 a, .int .u64 b] w fun e w' => ∃ Z fl, OpR (fun _ => pickO false) f 0 a b Z fl ∧ e = .returned (.agg #[.int .u64 Z, .int .i64 fl]) ∧ Gr w w' := by
  refine implMaximum_of f a b (OpR (fun _ => pickO false) f 0 a b) (fun w' hg => ?_)
  have hw' := hw.gr hg
  by_cases hf : f = 0 ∨ f = 1
  · obtain ⟨p, mx, one, inf, sg, nan, hF⟩ := fmt_of f hf
    obtain ⟨mn, fb, sp, hM, hmn, hfb⟩ := hF.m
    obtain ⟨k, hk⟩ := rule_of 0 (by omega) (by omega)
    obtain ⟨x, hx, HA⟩ := opd_is hF hM a a0 a1
    obtain ⟨y, hy, HB⟩ := opd_is hF hM b b0 b1
    obtain ⟨v1, v2, v3, v4, v5, v6⟩ := opd_vo hF hx
    obtain ⟨u1, u2, u3, u4, u5, u6⟩ := opd_vo hF hy
    refine (calc_okf p mn mx 0 f k 40 a b _ _ _ _ _ _ _ _ _ _ _ _ (fun w'' hg' => settingOf_yes hF hM 0 k (fun w => ruleOf_yes 0 k hk w) (hw'.gr hg')) HA HB (fun os oe oc oh ol ot of => SameV (pickO false x y) os oe oc oh ol ot ∧ of = 0) (fun w => ?_) (PackIs p mn mx one inf sg nan 0 (pickO false x y)) (fun os oe oc oh ol ot of w hq => by obtain ⟨hq, rfl⟩ := hq; exact pack_any hM 0 k hk _ os oe oc oh ol ot hq w)).mono ?_
    · by_cases cn : 3 ≤ max x.c y.c
      · have hp : pickO false x y = ⟨max x.c y.c, 0, 0, 0⟩ := by unfold pickO; rw [if_pos cn]
        refine (combine_nan p mn mx 0 k _ _ _ _ _ _ _ _ _ _ _ _ _ (max x.c y.c) rfl cn w).mono ?_
        rintro e w' ⟨rfl, hg⟩
        refine ⟨_, _, _, _, _, _, _, ⟨?_, rfl⟩, rfl, hg⟩
        rw [hp]
        have := v1.c4; have := u1.c4
        exact same_nan _ (by omega) (by omega)
      · have hO : Hid (∀ w, Calls Tryd.prog 36 #[.agg #[.int .i64 x.s, .int .i64 x.e, .int .i64 x.c, .int .u64 (((x.M / 18446744073709551616 : Nat) : Int)), .int .u64 (((x.M % 18446744073709551616 : Nat) : Int)), .bool false, .int .i64 0], .agg #[.int .i64 y.s, .int .i64 y.e, .int .i64 y.c, .int .u64 (((y.M / 18446744073709551616 : Nat) : Int)), .int .u64 (((y.M % 18446744073709551616 : Nat) : Int)), .bool false, .int .i64 0]] w fun e w' => e = .returned (.int .i64 (ordO x y)) ∧ Gr w w') := fun w => order_any x y v1 u1 (by omega) (by omega) w
        refine combine_greaterOf p mn mx 0 k _ _ _ _ _ _ _ _ _ _ _ _ (max x.c y.c) rfl (by omega) _ (fun w => ?_) w
        unfold pickO
        rw [if_neg cn, if_neg (by decide)]
        by_cases c : 0 ≤ ordO x y
        · rw [if_pos c]
          refine (greaterOf_x p mn mx 0 k _ _ _ _ _ _ _ _ _ _ _ _ _ (decide_eq_true c) hO w).mono ?_
          rintro e w' ⟨rfl, hg⟩
          exact ⟨_, _, _, _, _, _, _, ⟨v1.same, rfl⟩, rfl, hg⟩
        · rw [if_neg c]
          refine (greaterOf_y p mn mx 0 k _ _ _ _ _ _ _ _ _ _ _ _ _ (decide_eq_false c) hO w).mono ?_
          rintro e w' ⟨rfl, hg⟩
          exact ⟨_, _, _, _, _, _, _, ⟨u1.same, rfl⟩, rfl, hg⟩
    · rintro e w'' ⟨Z, fl, hp, rfl, hg'⟩
      rw [hmn] at hp
      exact ⟨_, _, .inl ⟨p, mx, one, inf, sg, nan, x, y, hF, by omega, hx, hy, hp⟩, rfl, hg'⟩
  · refine (calc_no _ _ _ _ _ f 0 a b (fun w'' hg' => settingOf_none f 0 hf (hw'.gr hg')) (fun w => invalid_any m64 w) 40).mono ?_
    rintro e w'' ⟨rfl, hg'⟩
    exact ⟨_, _, .inr (.inr ⟨hf, rfl, rfl⟩), rfl, hg'⟩

theorem max_same (f a b : Int) (a0 : 0 ≤ a) (a1 : a < 18446744073709551616) (b0 : 0 ≤ b) (b1 : b < 18446744073709551616) :
    ∃ Z fl : Int, OpR (fun _ => pickO false) f 0 a b Z fl ∧ (∀ w, Calls Tryd.prog 16 #[.int .i64 f, .int .u64 a, .int .u64 b] w fun e w' => e = .returned (.agg #[.int .u64 Z, .int .i64 fl]) ∧ Gb w w') ∧
      (∀ w, Fm w → Calls Tryd.prog 17 #[.int .i64 f, .int .u64 a, .int .u64 b] w fun e w' => e = .returned (.agg #[.int .u64 Z, .int .i64 fl]) ∧ Gr w w') := by
  refine both_by (fun _ _ _ _ h h' => OpR.one h h') ?_ (fun w => specMaximum_of f a b _ (fun w => specPick_any false f a b a0 a1 b0 b1 w) w) (implMaximum_any f a b a0 a1 b0 b1)
  by_cases hf : f = 0 ∨ f = 1
  · obtain ⟨p, mx, one, inf, sg, nan, hF⟩ := fmt_of f hf
    obtain ⟨x, hx⟩ := opd_ex hF a a0 a1
    obtain ⟨y, hy⟩ := opd_ex hF b b0 b1
    obtain ⟨r1, r2⟩ := pickO_c false x y (opd_vo hF hx).1 (opd_vo hF hy).1
    obtain ⟨Z, fl, hp⟩ := pack_is p (1 - mx) mx one inf sg nan 0 _ r1 r2
    exact ⟨Z, fl, .inl ⟨p, mx, one, inf, sg, nan, x, y, hF, by omega, hx, hy, hp⟩⟩
  · exact ⟨_, _, .inr (.inr ⟨hf, rfl, rfl⟩)⟩

end Go.Proofs.YtfakbjgbbcigpaaDoor
