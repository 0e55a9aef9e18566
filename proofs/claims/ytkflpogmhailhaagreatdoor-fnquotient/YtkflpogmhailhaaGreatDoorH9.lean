/- laws.wAbove: the sign of x * y - z, rounded upwards. -/
import Derived.Test.YtkflpogmhailhaaGreatDoorC4
import Derived.Test.YtkflpogmhailhaaGreatDoorA7
import Derived.Test.YtkflpogmhailhaaGreatDoorO1
import Derived.BigQuiet
import Derived.WalkSmall
import Derived.Deep.QuietTactic
import Derived.Test.YtkflpogmhailhaaGreatDoorF2D
import Derived.Test.YtkflpogmhailhaaGreatDoorH8
import Derived.Test.YtkflpogmhailhaaGreatDoorC8
set_option linter.unusedVariables false
set_option linter.unusedSimpArgs false
namespace Go.Proofs.YtkflpogmhailhaaGreatDoor
open Go.RowKit

set_option maxRecDepth 100000 in
set_option maxHeartbeats 1000000 in
theorem wAbove_any (f x y z t Z fl S m r : Int) (w : World)
    (HT : Hid (∀ w, Calls Tryz.prog 21 #[.int .i64 f, .int .u64 z] w fun e w' => e = .returned (.int .u64 t) ∧ w = w'))
    (HF : Hid (Calls Tryz.prog 19 #[.int .i64 f, .int .i64 3, .int .u64 x, .int .u64 y, .int .u64 t] w fun e w' => e = .returned (.agg #[.int .u64 Z, .int .i64 fl]) ∧ Gr w w'))
    (HS : Hid (∀ w, Calls Tryz.prog 11 #[.int .i64 f, .int .u64 Z] w fun e w' => e = .returned (.int .u64 S) ∧ w = w'))
    (HM : Hid (∀ w, Calls Tryz.prog 27 #[.int .i64 f] w fun e w' => e = .returned (.int .u64 m) ∧ w = w'))
    (hr : S = 0 ∧ r = 0 ∨ (S == 0) = false ∧ m ≤ Z ∧ r = -1 ∨ (S == 0) = false ∧ Z < m ∧ r = 1) :
    Calls Tryz.prog 32 #[.int .i64 f, .int .u64 x, .int .u64 y, .int .u64 z] w fun e w' => e = .returned (.int .i64 r) ∧ Gr w w' := by
  rcases hr with ⟨rfl, rfl⟩ | ⟨h1, h2, rfl⟩ | ⟨h1, h2, rfl⟩
  · go_enter Tryz.func32, Tryz.ntmps32
    go_wp2_with (first
      | (go_at_call 21; refine (HT.out _).mono ?_; rintro e wk ⟨rfl, hw⟩; subst hw)
      | (go_at_call 19; refine HF.out.mono ?_; rintro e w2 ⟨rfl, hg_w2⟩)
      | (go_at_call 11; refine (HS.out _).mono ?_; rintro e wk ⟨rfl, hw⟩; subst hw))
    go_returns
    exact ⟨rfl, by first | exact Gr.g | exact kr⟩
  · have d1 : decide (m ≤ Z) = true := decide_eq_true h2
    go_enter Tryz.func32, Tryz.ntmps32
    go_upto_region 4 with (first
      | (go_at_call 21; refine (HT.out _).mono ?_; rintro e wk ⟨rfl, hw⟩; subst hw)
      | (go_at_call 19; refine HF.out.mono ?_; rintro e w2 ⟨rfl, hg_w2⟩)
      | (go_at_call 11; refine (HS.out _).mono ?_; rintro e wk ⟨rfl, hw⟩; subst hw))
    go_quiet ((go_at_call 27; refine Calls.quiet_of_same ((HM.out _).mono (fun e w' h => ⟨h.1, h.2.symm⟩))))
    all_goals go_wp2
    all_goals go_returns
    all_goals exact ⟨rfl, Gr.drewN (Gr.alloc hg_w2 _ _) _⟩
  · have d1 : decide (m ≤ Z) = false := decide_eq_false (by omega)
    go_enter Tryz.func32, Tryz.ntmps32
    go_upto_region 4 with (first
      | (go_at_call 21; refine (HT.out _).mono ?_; rintro e wk ⟨rfl, hw⟩; subst hw)
      | (go_at_call 19; refine HF.out.mono ?_; rintro e w2 ⟨rfl, hg_w2⟩)
      | (go_at_call 11; refine (HS.out _).mono ?_; rintro e wk ⟨rfl, hw⟩; subst hw))
    go_quiet ((go_at_call 27; refine Calls.quiet_of_same ((HM.out _).mono (fun e w' h => ⟨h.1, h.2.symm⟩))))
    all_goals go_wp2
    all_goals go_returns
    all_goals exact ⟨rfl, Gr.drewN (Gr.alloc hg_w2 _ _) _⟩
end Go.Proofs.YtkflpogmhailhaaGreatDoor

/- impl.NextUp of a number that is not less than 0. -/
set_option linter.unusedVariables false
set_option linter.unusedSimpArgs false
namespace Go.Proofs.YtkflpogmhailhaaGreatDoor
open Go.RowKit

set_option maxRecDepth 100000 in
set_option maxHeartbeats 4000000 in
theorem implNext_low {f p mx one inf sg nan : Int} (h : IsFmt f p mx one inf sg nan) (W : Int) (h0 : 0 ≤ W) (h2 : W < inf) {w : World} (hw : Fm w) :
    Calls Tryz.prog 31 #[.int .i64 f, .int .u64 W] w fun e w' => e = .returned (.int .u64 (W + 1)) ∧ Gr w w' := by
  have h1 : W < 2 * sg := by have := h.bounds; omega
  have hsg : inf < sg := by have := h.bounds; omega
  obtain ⟨mn, fb, sp, hm, hmn, hfb⟩ := h.m
  clear hmn hfb
  obtain ⟨b1, b2, b3, b4, b5, b6⟩ := hm.bounds
  have HF : Hid (∀ w', Gr w w' → Calls Tryz.prog 52 #[.int .i64 f] w' fun e w'' => e = .returned (.tuple #[.agg #[.int .i64 p, .int .i64 mn, .int .i64 mx], .bool true]) ∧ Gr w' w'') := fun w' hg => formatOf_yes h hm (hw.gr hg)
  have HI : Hid (∀ w, Calls Tryz.prog 82 #[.agg #[.int .i64 p, .int .i64 mn, .int .i64 mx], .int .u64 W] w fun e w' => e = .returned (.bool true) ∧ Gr w w') := fun w => by
    have := fits_any hm W h0 (by omega) w
    rw [decide_eq_true h1] at this; exact this
  have HS : Hid (∀ w, Calls Tryz.prog 86 #[.agg #[.int .i64 p, .int .i64 mn, .int .i64 mx], .int .u64 W] w fun e w' => e = .returned (.int .i64 (W / sg)) ∧ Gr w w') := fun w => signOf_any hm W h0 h1 w
  have HM : Hid (∀ w, Calls Tryz.prog 83 #[.agg #[.int .i64 p, .int .i64 mn, .int .i64 mx], .int .u64 W] w fun e w' => e = .returned (.int .u64 (W % sg)) ∧ Gr w w') := fun w => magnitude_any hm W h0 h1 w
  have HInf : Hid (∀ w, Calls Tryz.prog 84 #[.agg #[.int .i64 p, .int .i64 mn, .int .i64 mx], .int .i64 0] w fun e w' => e = .returned (.int .u64 inf) ∧ Gr w w') := fun w => inf_any hm 0 inf (.inl ⟨rfl, rfl⟩) w
  have HZ0 : Hid (∀ w, Calls Tryz.prog 85 #[.agg #[.int .i64 p, .int .i64 mn, .int .i64 mx], .int .i64 0] w fun e w' => e = .returned (.int .u64 0) ∧ Gr w w') := fun w => zero_any hm 0 0 (.inl ⟨rfl, rfl⟩) w
  have HZ1 : Hid (∀ w, Calls Tryz.prog 85 #[.agg #[.int .i64 p, .int .i64 mn, .int .i64 mx], .int .i64 1] w fun e w' => e = .returned (.int .u64 sg) ∧ Gr w w') := fun w => zero_any hm 1 sg (.inr ⟨rfl, rfl⟩) w
  have HN : Hid (∀ w, Calls Tryz.prog 81 #[.agg #[.int .i64 p, .int .i64 mn, .int .i64 mx]] w fun e w' => e = .returned (.int .u64 nan) ∧ Gr w w') := fun w => nan_any hm w
  have hsv : Hid (W / sg = 0 ∧ W % sg = W ∧ W < sg ∨ W / sg = 1 ∧ W % sg = W - sg ∧ sg ≤ W) := sign_mag W sg h0 h1
  generalize W / sg = s at *
  generalize W % sg = v at *
  have v0 : 0 ≤ v ∧ v < sg ∧ 0 ≤ s ∧ s ≤ 1 := by have := hsv.out; omega
  obtain ⟨rfl, rfl⟩ : s = 0 ∧ W = v := by have := hsv.out; omega
  clear h hm hw
  have c1d : decide (W > inf) = false := by simp; omega
  have c4 : (W == inf) = false := by simp; omega
  have c5 : (W == sg) = false := by simp; omega
  have c6 : W < sg := by have := hsv.out; omega
  have c7 : W < inf := by have := hsv.out; omega
  clear hsv
  go_enter Tryz.func31, Tryz.ntmps31
  go_wp2_with (go_at_call 52; refine (HF.out _ kr).mono ?_; rintro e w3 ⟨rfl, hg_w3⟩)
  go_region_held3 (fun w' => w'.cell? ⟨w3.heap.size, 0, none⟩ = some (.int .i64 p) ∧ w'.cell? ⟨w3.heap.size, 1, none⟩ = some (.int .i64 mn) ∧ w'.cell? ⟨w3.heap.size, 2, none⟩ = some (.int .i64 mx))
    ((go_split_ands; (repeat' apply And.intro) <;> exact kl))
    (first
      | (go_at_call 82; refine (HI.out _).mono ?_; rintro e w4 ⟨rfl, hg_w4⟩; have hc_w4 := hg_w4.cells; have hf_w4 := hg_w4.frozens; have hz_w4 := hg_w4.size; (try simp only [World.size_alloc, World.size_drew, World.size_setCell] at hz_w4))
      | (go_at_call 83; refine (HM.out _).mono ?_; rintro e w5 ⟨rfl, hg_w5⟩; have hc_w5 := hg_w5.cells; have hf_w5 := hg_w5.frozens; have hz_w5 := hg_w5.size; (try simp only [World.size_alloc, World.size_drew, World.size_setCell] at hz_w5))
      | (go_at_call 84; refine (HInf.out _).mono ?_; rintro e w6 ⟨rfl, hg_w6⟩; have hc_w6 := hg_w6.cells; have hf_w6 := hg_w6.frozens; have hz_w6 := hg_w6.size; (try simp only [World.size_alloc, World.size_drew, World.size_setCell] at hz_w6)))
  all_goals
    (try go_split_ands)
    go_wp2_with (first
      | (go_at_call 84; refine (HInf.out _).mono ?_; rintro e w7 ⟨rfl, hg_w7⟩; have cm0 : w7.cell? ⟨w3.heap.size, 0, none⟩ = some (.int .i64 p) := kq; have cm1 : w7.cell? ⟨w3.heap.size, 1, none⟩ = some (.int .i64 mn) := kq; have cm2 : w7.cell? ⟨w3.heap.size, 2, none⟩ = some (.int .i64 mx) := kq)
      | (go_at_call 85; refine (HZ1.out _).mono ?_; rintro e w8 ⟨rfl, hg_w8⟩; have dm0 : w8.cell? ⟨w3.heap.size, 0, none⟩ = some (.int .i64 p) := kq; have dm1 : w8.cell? ⟨w3.heap.size, 1, none⟩ = some (.int .i64 mn) := kq; have dm2 : w8.cell? ⟨w3.heap.size, 2, none⟩ = some (.int .i64 mx) := kq)
      | (go_at_call 85; refine (HZ0.out _).mono ?_; rintro e w9 ⟨rfl, hg_w9⟩; have em0 : w9.cell? ⟨w3.heap.size, 0, none⟩ = some (.int .i64 p) := kq; have em1 : w9.cell? ⟨w3.heap.size, 1, none⟩ = some (.int .i64 mn) := kq; have em2 : w9.cell? ⟨w3.heap.size, 2, none⟩ = some (.int .i64 mx) := kq)
      | (go_at_call 86; refine (HS.out _).mono ?_; rintro e w10 ⟨rfl, hg_w10⟩; have fm0 : w10.cell? ⟨w3.heap.size, 0, none⟩ = some (.int .i64 p) := kq; have fm1 : w10.cell? ⟨w3.heap.size, 1, none⟩ = some (.int .i64 mn) := kq; have fm2 : w10.cell? ⟨w3.heap.size, 2, none⟩ = some (.int .i64 mx) := kq)
      | (go_at_call 81; refine (HN.out _).mono ?_; rintro e w11 ⟨rfl, hg_w11⟩; have gm0 : w11.cell? ⟨w3.heap.size, 0, none⟩ = some (.int .i64 p) := kq; have gm1 : w11.cell? ⟨w3.heap.size, 1, none⟩ = some (.int .i64 mn) := kq; have gm2 : w11.cell? ⟨w3.heap.size, 2, none⟩ = some (.int .i64 mx) := kq))
    go_returns
    exact ⟨rfl, kr⟩
end Go.Proofs.YtkflpogmhailhaaGreatDoor

/- What laws.wAbove says of words that are not less than 0. -/
set_option linter.unusedVariables false
set_option linter.unusedSimpArgs false
namespace Go.Proofs.YtkflpogmhailhaaGreatDoor
open Go.RowKit

theorem mz_is {f p mx one inf sg nan : Int} (h : IsFmt f p mx one inf sg nan) : mz f = sg := by
  rcases h with ⟨rfl, _, _, _, _, rfl, _⟩ | ⟨rfl, _, _, _, _, rfl, _⟩ <;> rfl

/-- A word of a number, and with the sign turned. -/
theorem OpdIs.neg {p mx one inf sg nan a : Int} {x : Opd} (hx : OpdIs p mx one inf sg nan a x) (a1 : a < sg) (a0 : 0 ≤ a) : x.s = 0 ∧ OpdIs p mx one inf sg nan (a + sg) ⟨x.c, 1, x.e, x.M⟩ := by
  rcases hx with ⟨_, v, hs, hv⟩ | ⟨c, _⟩
  · obtain ⟨h1, h2⟩ : x.s = 0 ∧ v = a := by omega
    subst h2
    exact ⟨h1, .inl ⟨by omega, v, .inr ⟨rfl, by omega, by omega⟩, hv⟩⟩
  · exfalso; omega

theorem above_call {f p mx one inf sg nan : Int} (h : IsFmt f p mx one inf sg nan) (q b a : Int) (q0 : 0 ≤ q) (q1 : q < inf) (b0 : 0 < b) (b1 : b < inf) (a0 : 0 < a) (a1 : a < inf) {u y x : Opd} (hu : OpdIs p mx one inf sg nan q u) (hy : OpdIs p mx one inf sg nan b y) (hx : OpdIs p mx one inf sg nan a x) (uc : u.c = 0 ∨ u.c = 1) (yc : y.c = 1) (xc : x.c = 1) :
    ∃ r : Int, (nv x.M x.e * 2 ^ nvN < nv u.M u.e * nv y.M y.e → r = 1) ∧ (nv u.M u.e * nv y.M y.e ≤ nv x.M x.e * 2 ^ nvN → r ≤ 0) ∧ -1 ≤ r ∧ r ≤ 1 ∧
      Hid (∀ w, Fm w → Calls Tryz.prog 32 #[.int .i64 f, .int .u64 q, .int .u64 b, .int .u64 a] w fun e w' => e = .returned (.int .i64 r) ∧ Gr w w') := by
  have hb := h.bounds
  have hmz := mz_is h
  obtain ⟨us, _⟩ := hu.neg (by omega) q0
  obtain ⟨ys, _⟩ := hy.neg (by omega) (by omega)
  obtain ⟨xs, hxn⟩ := hx.neg (by omega) (by omega)
  obtain ⟨v1, v2, v3, v4, v5, v6⟩ := opd_vo h hu
  obtain ⟨u1, u2, u3, u4, u5, u6⟩ := opd_vo h hy
  obtain ⟨t1, t2, t3, t4, t5, t6⟩ := opd_vo h hxn
  have hc : 0 ≤ (fmaO 3 u y ⟨x.c, 1, x.e, x.M⟩).c ∧ (fmaO 3 u y ⟨x.c, 1, x.e, x.M⟩).c ≤ 4 := by
    have hp : (prodO u y).c = 0 ∨ (prodO u y).c = 1 := by
      unfold prodO
      rw [if_neg (by omega), if_neg (by omega)]
      split
      · exact .inl rfl
      · rw [if_neg (by omega)]; exact .inr rfl
    unfold fmaO sumO
    dsimp only
    rw [if_neg (by omega), if_neg (by omega)]
    split
    · dsimp only; omega
    · rw [if_pos (by omega)]
      unfold totO nilO
      split
      · dsimp only; omega
      · split
        · dsimp only; omega
        · split <;> (dsimp only; omega)
  obtain ⟨Z, fl, hp⟩ := pack_is p (1 - mx) mx one inf sg nan 3 _ hc.1 hc.2
  have hR : FmaR f 3 q b (a + sg) Z fl := .inl ⟨p, mx, one, inf, sg, nan, u, y, _, h, ⟨by omega, by omega⟩, hu, hy, hxn, hp⟩
  obtain ⟨hi, lo⟩ := above_is h u y ⟨x.c, 1, x.e, x.M⟩ us uc (fun c => v3 (by omega)) v4 yc ys u4 xc rfl t4 hp
  dsimp only at hi lo
  have HF : ∀ w, Fm w → Calls Tryz.prog 19 #[.int .i64 f, .int .i64 3, .int .u64 q, .int .u64 b, .int .u64 (a + sg)] w fun e w' => e = .returned (.agg #[.int .u64 Z, .int .i64 fl]) ∧ Gr w w' := fun w hw => by
    refine (implFma_any f 3 q b (a + sg) q0 (by omega) (by omega) (by omega) (by omega) (by omega) w hw).mono ?_
    rintro e w' ⟨Z', fl', h', rfl, hg⟩
    obtain ⟨rfl, rfl⟩ := FmaR.one hR h'
    exact ⟨rfl, hg⟩
  have Z0 : 0 ≤ Z := by
    rcases Nat.lt_or_ge (nv x.M x.e * 2 ^ nvN) (nv u.M u.e * nv y.M y.e) with c | c
    · have := hi c; omega
    · have := lo c; omega
  have HT : Hid (∀ w, Calls Tryz.prog 21 #[.int .i64 f, .int .u64 a] w fun e w' => e = .returned (.int .u64 (a + sg)) ∧ w = w') := fun w => wTurned_any f a (a + sg) (by omega) (by rw [hmz]; omega) (.inl ⟨by rw [hmz]; omega, by rw [hmz]⟩) w
  have HS : Hid (∀ w, Calls Tryz.prog 11 #[.int .i64 f, .int .u64 Z] w fun e w' => e = .returned (.int .u64 (Z % sg)) ∧ w = w') := fun w => by
    have := wSize_any f Z Z0 w
    rw [hmz] at this; exact this
  have HM : Hid (∀ w, Calls Tryz.prog 27 #[.int .i64 f] w fun e w' => e = .returned (.int .u64 sg) ∧ w = w') := fun w => by
    have := wMinus_any f w
    rw [hmz] at this; exact this
  have mk : ∀ r : Int, (Z % sg = 0 ∧ r = 0 ∨ (Z % sg == 0) = false ∧ sg ≤ Z ∧ r = -1 ∨ (Z % sg == 0) = false ∧ Z < sg ∧ r = 1) → Hid (∀ w, Fm w → Calls Tryz.prog 32 #[.int .i64 f, .int .u64 q, .int .u64 b, .int .u64 a] w fun e w' => e = .returned (.int .i64 r) ∧ Gr w w') := fun r hr w hw => wAbove_any f q b a (a + sg) Z fl _ _ r w HT (HF w hw) HS HM hr
  by_cases c1 : Z % sg = 0
  · refine ⟨0, fun c => ?_, fun _ => by omega, by omega, by omega, mk 0 (.inl ⟨c1, rfl⟩)⟩
    exfalso
    have := hi c
    have h2 := Int.emod_eq_of_lt Z0 this.2
    omega
  · by_cases c2 : sg ≤ Z
    · refine ⟨-1, fun c => ?_, fun _ => by omega, by omega, by omega, mk (-1) (.inr (.inl ⟨by simp [c1], c2, rfl⟩))⟩
      exfalso
      have := hi c
      omega
    · refine ⟨1, fun _ => rfl, fun c => ?_, by omega, by omega, mk 1 (.inr (.inr ⟨by simp [c1], by omega, rfl⟩))⟩
      exfalso
      rcases lo c with e | e
      · rw [e] at c1; exact c1 (Int.zero_emod _)
      · omega
end Go.Proofs.YtkflpogmhailhaaGreatDoor
