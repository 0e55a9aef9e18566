/- Compare and the places of words. -/
import Derived.Test.YtfakbjgbbcigpaaDoorK2
import Derived.Test.YtfakbjgbbcigpaaDoorL5ZC
import Derived.Test.YtfakbjgbbcigpaaDoorL5ZP
import Derived.Test.YtfakbjgbbcigpaaDoorO2
import Derived.Test.YtfakbjgbbcigpaaDoorO1
import Derived.Test.YtfakbjgbbcigpaaDoorEqRS
import Derived.Test.YtfakbjgbbcigpaaDoorA7
import Derived.Deep.RegionHeld3
import Derived.Deep.DeepCutAuto
set_option linter.unusedVariables false
set_option linter.unusedSimpArgs false
namespace Go.Proofs.YtfakbjgbbcigpaaDoor
open Go.RowKit

/-- A word's place among the numbers. -/
def nW (sg a : Int) : Int := if a < sg then a else sg - a

theorem or3_neg (a b c : Int) : or3 (-a) (-b) (-c) = - or3 a b c := by
  unfold or3
  split <;> split <;> (try split) <;> (try split) <;> omega
theorem lexO_swap (x y : Opd) : lexO y x = - lexO x y := by
  unfold lexO
  rw [cmpI_swap x.c y.c, cmpI_swap x.e y.e, cmpI_swap (x.M : Int) (y.M : Int), or3_neg]
theorem ordO_swap (x y : Opd) : ordO y x = - ordO x y := by
  unfold ordO
  rw [lexO_swap x y]
  split <;> split <;> (try split) <;> (try split) <;> omega
theorem or3_01 {a b c : Int} (ha : a = -1 ∨ a = 0 ∨ a = 1) (hb : b = -1 ∨ b = 0 ∨ b = 1) (hc : c = -1 ∨ c = 0 ∨ c = 1) : or3 a b c = -1 ∨ or3 a b c = 0 ∨ or3 a b c = 1 := by
  unfold or3
  split <;> (try split) <;> omega
theorem ordO_01 {x y : Opd} (hx : x.s = 0 ∨ x.s = 1) (hy : y.s = 0 ∨ y.s = 1) : ordO x y = -1 ∨ ordO x y = 0 ∨ ordO x y = 1 := by
  have h : lexO x y = -1 ∨ lexO x y = 0 ∨ lexO x y = 1 := or3_01 (cmpI_01 _ _) (cmpI_01 _ _) (cmpI_01 _ _)
  unfold ordO
  split
  · omega
  · split <;> omega

theorem CmpIs.swap {f a b : Int} {s : Bool} {r fl r' fl' : Int} (h : CmpIs f a b s r fl) (h' : CmpIs f b a s r' fl') : fl' = fl ∧ (r = 2 ∧ r' = 2 ∨ (r = -1 ∨ r = 0 ∨ r = 1) ∧ r' = -r) := by
  rcases h with ⟨p, mx, one, inf, sg, nan, x, y, hF, hx, hy, hp⟩ | ⟨hF, rfl, rfl⟩ <;>
  rcases h' with ⟨p', mx', one', inf', sg', nan', y', x', hF', hy', hx', hp'⟩ | ⟨hF', rfl, rfl⟩
  · obtain ⟨rfl, rfl, rfl, rfl, rfl, rfl⟩ := hF.one hF'
    obtain rfl := hx.one hF hx'
    obtain rfl := hy.one hF hy'
    have hm : max y.c x.c = max x.c y.c := by omega
    have h01 := ordO_01 (opd_vo hF hx).1.s01 (opd_vo hF hy).1.s01
    have hsw := ordO_swap x y
    unfold CmpO at hp hp'
    rw [hm, hsw] at hp'
    generalize max x.c y.c = m at *
    generalize ordO x y = d at *
    cases s <;> simp at hp hp' <;> omega
  · exact absurd hF.yes.symm (by simp [hF'])
  · exact absurd hF'.yes.symm (by simp [hF])
  · exact ⟨rfl, .inl ⟨rfl, rfl⟩⟩

/-- Signs and magnitudes against places. -/
theorem nW_word {inf sg a v : Int} {x : Opd} (h : WordIs inf sg a x v) (hs : inf < sg) : x.s = 0 ∧ nW sg a = v ∧ a = v ∨ x.s = 1 ∧ nW sg a = -v ∧ a = v + sg := by
  obtain ⟨h1, h2, h3, _⟩ := h
  unfold nW
  rcases h1 with ⟨e, rfl⟩ | ⟨e, rfl⟩
  · exact .inl ⟨e, by rw [if_pos (by omega)], rfl⟩
  · exact .inr ⟨e, by rw [if_neg (by omega)]; omega, rfl⟩

theorem ord_n {f p mx one inf sg nan a b : Int} (h : IsFmt f p mx one inf sg nan) (a0 : 0 ≤ a) (b0 : 0 ≤ b) {x y : Opd} (hx : OpdIs p mx one inf sg nan a x) (hy : OpdIs p mx one inf sg nan b y) (xc : x.c ≤ 2) (yc : y.c ≤ 2) :
    (ordO x y ≤ 0 → nW sg a ≤ nW sg b) ∧ (0 ≤ ordO x y → nW sg b ≤ nW sg a) ∧ (ordO x y = 0 → a = b) ∧ (¬ max x.c y.c = 0 → ordO x y = cmpI (nW sg a) (nW sg b)) ∧ (max x.c y.c = 0 → nW sg a = nW sg b) := by
  have hb := h.bounds
  obtain ⟨v, u, hv, hu, hl⟩ := ord_word h a0 b0 hx hy xc yc
  have nv := nW_word hv (by omega)
  have nu := nW_word hu (by omega)
  obtain ⟨_, v0, v1, vz, _⟩ := hv
  obtain ⟨_, u0, u1, uz, _⟩ := hu
  have x0 := (opd_vo h hx).1.c0
  have y0 := (opd_vo h hy).1.c0
  have hm : max x.c y.c = 0 ↔ v = 0 ∧ u = 0 := by omega
  have hord : x.s = 0 ∧ y.s = 0 ∧ ordO x y = cmpI v u ∨ x.s = 1 ∧ y.s = 1 ∧ ordO x y = - cmpI v u ∨ x.s = 0 ∧ y.s = 1 ∧ ordO x y = 1 ∨ x.s = 1 ∧ y.s = 0 ∧ ordO x y = -1 := by
    unfold ordO
    rw [hl]
    rcases nv with ⟨e1, _⟩ | ⟨e1, _⟩ <;> rcases nu with ⟨e2, _⟩ | ⟨e2, _⟩ <;> rw [e1, e2] <;> simp
  have hc : (v < u ∧ cmpI v u = -1) ∨ (v = u ∧ cmpI v u = 0) ∨ (u < v ∧ cmpI v u = 1) := by
    rcases Int.lt_trichotomy v u with c | c | c
    · exact .inl ⟨c, cmpI_lt c⟩
    · exact .inr (.inl ⟨c, cmpI_eq c⟩)
    · exact .inr (.inr ⟨c, cmpI_gt c⟩)
  refine ⟨fun k => by omega, fun k => by omega, fun k => by omega, fun k => ?_, fun k => by omega⟩
  have hz : ¬ (v = 0 ∧ u = 0) := fun q => k (hm.2 q)
  rcases Int.lt_trichotomy (nW sg a) (nW sg b) with c | c | c
  · rw [cmpI_lt c]; omega
  · rw [cmpI_eq c]; omega
  · rw [cmpI_gt c]; omega

/-- Compare of two words that are no NaNs. -/
theorem cmp_n {f p mx one inf sg nan a b : Int} (h : IsFmt f p mx one inf sg nan) (a0 : 0 ≤ a) (b0 : 0 ≤ b) {x y : Opd} (hx : OpdIs p mx one inf sg nan a x) (hy : OpdIs p mx one inf sg nan b y) (xc : x.c ≤ 2) (yc : y.c ≤ 2) {s : Bool} {r fl : Int} (hc : CmpIs f a b s r fl) : r = cmpI (nW sg a) (nW sg b) ∧ fl = 0 := by
  rcases hc with ⟨p', mx', one', inf', sg', nan', x', y', hF', hx', hy', hp⟩ | ⟨hF', _⟩
  · obtain ⟨rfl, rfl, rfl, rfl, rfl, rfl⟩ := h.one hF'
    obtain rfl := hx.one h hx'
    obtain rfl := hy.one h hy'
    obtain ⟨_, _, _, h4, h5⟩ := ord_n h a0 b0 hx hy xc yc
    rcases hp with ⟨c, _⟩ | ⟨c, _⟩ | ⟨c, _⟩ | ⟨c, rfl, rfl⟩ | ⟨c, rfl, rfl⟩
    · omega
    · omega
    · omega
    · exact ⟨by rw [cmpI_eq (h5 c)], rfl⟩
    · exact ⟨h4 (by omega), rfl⟩
  · exact absurd h.yes.symm (by simp [hF'])

end Go.Proofs.YtfakbjgbbcigpaaDoor

/- FnOrder: what Compare, NextUp, Minimum and Maximum say of each other. -/
set_option linter.unusedVariables false
set_option linter.unusedSimpArgs false
namespace Go.Proofs.YtfakbjgbbcigpaaDoor
open Go.RowKit

/-- A word of a magnitude up to infinity is no NaN. -/
theorem opd_low {f p mx one inf sg nan a : Int} (h : IsFmt f p mx one inf sg nan) {x : Opd} (hx : OpdIs p mx one inf sg nan a x) (ha : 0 ≤ a ∧ a ≤ inf ∨ sg ≤ a ∧ a ≤ sg + inf) : x.c ≤ 2 := by
  have hb := h.bounds
  rcases hx with ⟨_, hu⟩ | ⟨k, _⟩
  · obtain ⟨v, h1, h2⟩ := hu.cls
    omega
  · exfalso; omega

theorem opd_up {f p mx one inf sg nan a : Int} (h : IsFmt f p mx one inf sg nan) {x : Opd} (hx : OpdIs p mx one inf sg nan a x) (xc : x.c ≤ 2) : a < 2 * sg ∧ (a ≤ inf ∨ sg ≤ a ∧ a ≤ sg + inf) := by
  have hb := h.bounds
  rcases hx with ⟨k, hu⟩ | ⟨k, rfl⟩
  · obtain ⟨v, h1, h2⟩ := hu.cls
    omega
  · exfalso; dsimp only at xc; omega

/-- The next word is greater. -/
theorem next_n {f p mx one inf sg nan a z : Int} (h : IsFmt f p mx one inf sg nan) (a0 : 0 ≤ a) {x : Opd} (hx : OpdIs p mx one inf sg nan a x) (xc : x.c ≤ 2) (hz : NextIs inf sg nan a z) : (0 ≤ z ∧ z ≤ inf ∨ sg ≤ z ∧ z ≤ sg + inf) ∧ (z = a ∨ nW sg a < nW sg z) := by
  have hb := h.bounds
  obtain ⟨u0, u1⟩ := opd_up h hx xc
  unfold NextIs at hz
  unfold nW
  rcases hz with ⟨e, rfl⟩ | ⟨e, rfl⟩ | ⟨e, rfl⟩ | ⟨e, e', rfl⟩ | ⟨e, e', rfl⟩
  · refine ⟨by omega, .inr ?_⟩
    rw [if_pos (show (1 : Int) < sg by omega)]
    split <;> omega
  · exfalso; omega
  · exact ⟨by omega, .inl (by omega)⟩
  · refine ⟨by omega, .inr ?_⟩
    rw [if_pos (show a < sg by omega), if_pos (show a + 1 < sg by omega)]; omega
  · refine ⟨by omega, .inr ?_⟩
    rw [if_neg (show ¬ a < sg by omega), if_neg (show ¬ a - 1 < sg by omega)]; omega

/-- Minimum and Maximum give one of both, in order. -/
theorem pick_n {f p mx one inf sg nan a b Z fl Y gl : Int} (h : IsFmt f p mx one inf sg nan) (a0 : 0 ≤ a) (b0 : 0 ≤ b) {x y : Opd} (hx : OpdIs p mx one inf sg nan a x) (hy : OpdIs p mx one inf sg nan b y) (xc : x.c ≤ 2) (yc : y.c ≤ 2) (hl : OpR (fun _ => pickO true) f 0 a b Z fl) (hg : OpR (fun _ => pickO false) f 0 a b Y gl) : (Z = a ∧ Y = b ∨ Z = b ∧ Y = a) ∧ nW sg Z ≤ nW sg Y := by
  have at' : ∀ l Z fl, OpR (fun _ => pickO l) f 0 a b Z fl → PackIs p (1 - mx) mx one inf sg nan 0 (pickO l x y) Z fl := by
    rintro l Z fl (⟨p', mx', one', inf', sg', nan', x', y', hF', _, hx', hy', hp⟩ | ⟨_, _, _, _, _, _, _, c, _⟩ | ⟨c, _⟩)
    · obtain ⟨rfl, rfl, rfl, rfl, rfl, rfl⟩ := h.one hF'
      obtain rfl := hx.one h hx'
      obtain rfl := hy.one h hy'
      exact hp
    · exfalso; omega
    · exact absurd h.yes.symm (by simp [c])
  have h1 := at' true Z fl hl
  have h2 := at' false Y gl hg
  have px := pack_own h a0 hx xc 0
  have py := pack_own h b0 hy yc 0
  obtain ⟨o1, o2, o3, _, _⟩ := ord_n h a0 b0 hx hy xc yc
  unfold pickO at h1 h2
  rw [if_neg (by omega), if_pos rfl] at h1
  rw [if_neg (by omega), if_neg (by decide)] at h2
  by_cases c1 : ordO x y ≤ 0
  · rw [if_pos c1] at h1
    obtain ⟨rfl, _⟩ := PackIs.one h1 px
    by_cases c2 : 0 ≤ ordO x y
    · rw [if_pos c2] at h2
      obtain ⟨rfl, _⟩ := PackIs.one h2 px
      have := o3 (by omega)
      subst this
      exact ⟨.inl ⟨rfl, rfl⟩, Int.le_refl _⟩
    · rw [if_neg c2] at h2
      obtain ⟨rfl, _⟩ := PackIs.one h2 py
      exact ⟨.inl ⟨rfl, rfl⟩, o1 c1⟩
  · rw [if_neg c1] at h1
    rw [if_pos (by omega)] at h2
    obtain ⟨rfl, _⟩ := PackIs.one h1 py
    obtain ⟨rfl, _⟩ := PackIs.one h2 px
    exact ⟨.inr ⟨rfl, rfl⟩, o2 (by omega)⟩
end Go.Proofs.YtfakbjgbbcigpaaDoor

/- laws.FnOrder: the walk. -/
set_option linter.unusedVariables false
set_option linter.unusedSimpArgs false
namespace Go.Proofs.YtfakbjgbbcigpaaDoor
open Go.RowKit

def CmpDraw (w : World) (x : Ending) (w' : World) : Prop := ∃ (f u v : Int) (s : Bool), -10 ≤ f ∧ f ≤ 10 ∧ 0 ≤ u ∧ u < 18446744073709551616 ∧ 0 ≤ v ∧ v < 18446744073709551616 ∧ x = .returned (.tuple #[.int .i64 f, .int .u64 u, .int .u64 v, .bool s]) ∧ Gr w w'

set_option maxRecDepth 100000 in
set_option maxHeartbeats 2000000 in
theorem drawCompare_any (a : Option Addr) (len cap : Nat) (w : World) (hC : CodeRow w a len) : Calls Tryd.prog 22 #[.slice a len cap] w (CmpDraw w) := by
  have HC : Hid (CodeRow w a len) := hC
  clear hC
  go_enter Tryd.func22, Tryd.ntmps22
  go_wp2_with (go_at_call 61; refine (drawTwo_any a len cap 0 _ HC.out (by omega)).mono ?_; rintro x w1 ⟨f, m, u, v, j, f0, f1, m0, m1, u0, u1, v0, v1, hj, rfl, hg_w1⟩)
  go_returns
  exact ⟨f, u, v, _, f0, f1, u0, u1, v0, v1, rfl, hg_w1⟩

theorem CodeRow.gbO {w w' : World} {a : Option Addr} {len : Nat} (h : CodeRow w a len) (g : Gb w w') : CodeRow w' a len := by
  obtain ⟨h1, h2⟩ := h
  refine ⟨h1, ?_⟩
  rcases h2 with e | ⟨b, off, rfl, hc⟩
  · exact .inl e
  · refine .inr ⟨b, off, rfl, fun i hi => ?_⟩
    obtain ⟨z, z0, z1, hz⟩ := hc i hi
    exact ⟨z, z0, z1, g.old hz⟩

/-- What is asked of two drawn words. -/
structure OrA (f a b : Int) (s : Bool) (r fl r' nx lo lf hi hf ca cb : Int) (w : World) : Prop where
  scm : ∀ w', Calls Tryd.prog 11 #[.int .i64 f, .int .u64 a, .int .u64 b, .bool s] w' fun e w'' => e = .returned (.tuple #[.int .i64 r, .int .i64 fl]) ∧ Gr w' w''
  icm : ∀ w', Gb w w' → Calls Tryd.prog 12 #[.int .i64 f, .int .u64 a, .int .u64 b, .bool s] w' fun e w'' => e = .returned (.tuple #[.int .i64 r, .int .i64 fl]) ∧ Gr w' w''
  icr : ∀ w', Gb w w' → Calls Tryd.prog 12 #[.int .i64 f, .int .u64 b, .int .u64 a, .bool s] w' fun e w'' => e = .returned (.tuple #[.int .i64 r', .int .i64 fl]) ∧ Gr w' w''
  inx : ∀ w', Gb w w' → Calls Tryd.prog 23 #[.int .i64 f, .int .u64 a] w' fun e w'' => e = .returned (.int .u64 nx) ∧ Gr w' w''
  snx : ∀ w', Calls Tryd.prog 24 #[.int .i64 f, .int .u64 a] w' fun e w'' => e = .returned (.int .u64 nx) ∧ Gr w' w''
  imn : ∀ w', Gb w w' → Calls Tryd.prog 14 #[.int .i64 f, .int .u64 a, .int .u64 b] w' fun e w'' => e = .returned (.agg #[.int .u64 lo, .int .i64 lf]) ∧ Gr w' w''
  smn : ∀ w', Calls Tryd.prog 13 #[.int .i64 f, .int .u64 a, .int .u64 b] w' fun e w'' => e = .returned (.agg #[.int .u64 lo, .int .i64 lf]) ∧ Gb w' w''
  imx : ∀ w', Gb w w' → Calls Tryd.prog 17 #[.int .i64 f, .int .u64 a, .int .u64 b] w' fun e w'' => e = .returned (.agg #[.int .u64 hi, .int .i64 hf]) ∧ Gr w' w''
  smx : ∀ w', Calls Tryd.prog 16 #[.int .i64 f, .int .u64 a, .int .u64 b] w' fun e w'' => e = .returned (.agg #[.int .u64 hi, .int .i64 hf]) ∧ Gb w' w''
  cla : ∀ w', Calls Tryd.prog 25 #[.int .i64 f, .int .u64 a] w' fun e w'' => e = .returned (.int .i64 ca) ∧ Gr w' w''
  clb : ∀ w', Calls Tryd.prog 25 #[.int .i64 f, .int .u64 b] w' fun e w'' => e = .returned (.int .i64 cb) ∧ Gr w' w''

def OrC (f x y up uf : Int) (w : World) : Prop := ∀ w', Gb w w' → Calls Tryd.prog 12 #[.int .i64 f, .int .u64 x, .int .u64 y, .bool true] w' fun e w'' => e = .returned (.tuple #[.int .i64 up, .int .i64 uf]) ∧ Gr w' w''

def OrF (f u v : Int) (s : Bool) (w : World) : Prop := ∃ r fl r' nx lo lf hi hf ca cb : Int, OrA f u v s r fl r' nx lo lf hi hf ca cb w ∧ (r = 2 ∧ r' = 2 ∨ (r = -1 ∨ r = 0 ∨ r = 1) ∧ r' = -r) ∧
  (decide (3 ≤ ca) = true ∨ decide (3 ≤ ca) = false ∧ ∃ up uf, OrC f u nx up uf w ∧ (up = -1 ∨ up = 0 ∧ nx = u) ∧
    (decide (3 ≤ cb) = true ∨ decide (3 ≤ cb) = false ∧ ∃ od of, OrC f lo hi od of w ∧ decide (od ≤ 0) = true ∧ r ≠ 2 ∧ (lo = u ∧ hi = v ∨ lo = v ∧ hi = u ∧ (v == u) = false)))

set_option maxRecDepth 1000000 in
set_option maxHeartbeats 8000000 in
theorem ord_walk (a : Option Addr) (len cap : Nat) (w : World) (hC : CodeRow w a len)
    (HD : Hid (∀ w', Gb w w' → Calls Tryd.prog 22 #[.slice a len cap] w' (CmpDraw w')))
    (HF : Hid (∀ f u v s, 0 ≤ u → u < 18446744073709551616 → 0 ≤ v → v < 18446744073709551616 → OrF f u v s w)) :
    Calls Tryd.prog 8 #[.slice a len cap] w fun e w' => e = .returned (.bool true) ∧ Gb w w' := by
  have hlen : len ≤ 1048576 := hC.1
  clear hC
  go_enter Tryd.func8, Tryd.ntmps8
  go_upto_region 4 with (go_at_call 22; refine (HD.out _ (Gb.refl _)).mono ?_; rintro x w1 ⟨f, u, v, s, f0, f1, u0, u1, v0, v1, rfl, hg_w1⟩)
  obtain ⟨r, fl, r', nx, lo, lf, hi, hf, ca, cb, SA, hr, hrest⟩ := HF.out f u v s u0 u1 v0 v1
  have HA : Hid (OrA f u v s r fl r' nx lo lf hi hf ca cb w) := SA
  have hgb1 : Gb w w1 := hg_w1.gb
  have HR : Hid (decide (3 ≤ ca) = true ∨ decide (3 ≤ ca) = false ∧ ∃ up uf, OrC f u nx up uf w ∧ (up = -1 ∨ up = 0 ∧ nx = u) ∧
    (decide (3 ≤ cb) = true ∨ decide (3 ≤ cb) = false ∧ ∃ od of, OrC f lo hi od of w ∧ decide (od ≤ 0) = true ∧ r ≠ 2 ∧ (lo = u ∧ hi = v ∨ lo = v ∧ hi = u ∧ (v == u) = false))) := hrest
  clear SA HF HD hrest
  have hq1 := eqRS_same lo lf
  have hq2 := eqRS_same hi hf
  go_upto_region 7 with (first
    | (go_at_call 11; with_reducible refine (OrA.scm HA.out _).mono ?_; rintro x w2 ⟨rfl, hg_w2⟩; have hgb2 : Gb w w2 := Gb.g)
    | (go_at_call 12; first | (with_reducible refine (OrA.icm HA.out _ Gb.g).mono ?_; rintro x w3 ⟨rfl, hg_w3⟩; have hgb3 : Gb w w3 := Gb.g) | (with_reducible refine (OrA.icr HA.out _ Gb.g).mono ?_; rintro x w4 ⟨rfl, hg_w4⟩; have hgb4 : Gb w w4 := Gb.g)))
  rcases hr with ⟨rfl, rfl⟩ | ⟨hr1, hr2⟩
  · skip
    go_upto_region 12 with (first
      | (go_at_call 23; with_reducible refine (OrA.inx HA.out _ Gb.g).mono ?_; rintro x w5 ⟨rfl, hg_w5⟩; have hgb5 : Gb w w5 := Gb.g)
      | (go_at_call 14; with_reducible refine (OrA.imn HA.out _ Gb.g).mono ?_; rintro x w6 ⟨rfl, hg_w6⟩; have hgb6 : Gb w w6 := Gb.g)
      | (go_at_call 17; with_reducible refine (OrA.imx HA.out _ Gb.g).mono ?_; rintro x w7 ⟨rfl, hg_w7⟩; have hgb7 : Gb w w7 := Gb.g; have lo0 : w7.cell? ⟨w6.heap.size, 0, none⟩ = some (.int .u64 lo) := hg_w7.c; have loz0 : w7.frozen? ⟨w6.heap.size, 0, none⟩ = false := hg_w7.z; have loA0 := (fun ob => cell_alloc ob lo0); have loB0 : ∀ c t, (w7.alloc (.cells c t)).frozen? ⟨w6.heap.size, 0, none⟩ = false := (fun c t => fz_alloc loz0); have lo1 : w7.cell? ⟨w6.heap.size, 1, none⟩ = some (.int .i64 lf) := hg_w7.c; have loz1 : w7.frozen? ⟨w6.heap.size, 1, none⟩ = false := hg_w7.z; have loA1 := (fun ob => cell_alloc ob lo1); have loB1 : ∀ c t, (w7.alloc (.cells c t)).frozen? ⟨w6.heap.size, 1, none⟩ = false := (fun c t => fz_alloc loz1); have hz6 := cell_size lo0))
    obtain ⟨w8, hw8⟩ : ∃ w8, w7.alloc (.cells #[.int .u64 hi, .int .i64 hf] 27) = w8 := ⟨_, rfl⟩
    have hg_w8 : Gr w7 w8 := by rw [← hw8]; exact (Gr.refl _).alloc _ _
    have hgb8 : Gb w w8 := Gb.g
    have hi0 : w8.cell? ⟨w7.heap.size, 0, none⟩ = some (.int .u64 hi) := by rw [← hw8]; simp [go_sem]
    have hi1 : w8.cell? ⟨w7.heap.size, 1, none⟩ = some (.int .i64 hf) := by rw [← hw8]; simp [go_sem]
    have hz8 : w7.heap.size < w8.heap.size := by rw [← hw8]; simp
    rw [hw8]
    clear hw8
    have lp0 : w8.cell? ⟨w6.heap.size, 0, none⟩ = some (.int .u64 lo) := hg_w8.c; have lp1 : w8.cell? ⟨w6.heap.size, 1, none⟩ = some (.int .i64 lf) := hg_w8.c
    go_region_held3 (fun w' => w'.cell? ⟨w6.heap.size, 0, none⟩ = some (.int .u64 lo) ∧ w'.cell? ⟨w6.heap.size, 1, none⟩ = some (.int .i64 lf) ∧ w'.cell? ⟨w7.heap.size, 0, none⟩ = some (.int .u64 hi) ∧ w'.cell? ⟨w7.heap.size, 1, none⟩ = some (.int .i64 hf))
      ((go_split_ands; (repeat' apply And.intro) <;> (repeat' (first | (with_reducible assumption) | (with_reducible refine has_of (by with_reducible assumption)) | (with_reducible refine Gr.old (by with_reducible assumption) ?_) | (with_reducible refine Gb.old (by with_reducible assumption) ?_) | (with_reducible refine Gb.hs (by with_reducible assumption) ?_) | (with_reducible refine has_old (by with_reducible assumption) ?_) | (with_reducible refine cell_setSame ?_) | (with_reducible refine has_set ?_) | (with_reducible refine cell_setOff ?_ ?_; omega) | (with_reducible refine cell_setNew ?_ ?_; (dsimp only; omega)) | (simp [go_sem]; done) | (with_reducible refine cell_alloc _ ?_) | (with_reducible refine cell_drew ?_) | (with_reducible refine has_alloc _ ?_) | (with_reducible refine fz_old (by with_reducible assumption) ?_) | (with_reducible refine Gb.fh (by with_reducible assumption) (by with_reducible assumption) ?_) | (with_reducible refine fz_alloc ?_) | (with_reducible refine fz_set ?_) | (with_reducible refine fz_drew ?_) | go_size))))
      (first
        | (go_at_call 24; with_reducible refine (OrA.snx HA.out _).mono ?_; rintro x wa ⟨rfl, hg_wa⟩; have pa0 : wa.cell? ⟨w6.heap.size, 0, none⟩ = some (.int .u64 lo) := hg_wa.c; have pa1 : wa.cell? ⟨w6.heap.size, 1, none⟩ = some (.int .i64 lf) := hg_wa.c; have qa0 : wa.cell? ⟨w7.heap.size, 0, none⟩ = some (.int .u64 hi) := hg_wa.c; have qa1 : wa.cell? ⟨w7.heap.size, 1, none⟩ = some (.int .i64 hf) := hg_wa.c; have hgba : Gb w wa := Gb.g)
        | (go_at_call 13; with_reducible refine (OrA.smn HA.out _).mono ?_; rintro x wb ⟨rfl, hg_wb⟩; have pb0 : wb.cell? ⟨w6.heap.size, 0, none⟩ = some (.int .u64 lo) := hg_wb.c; have pb1 : wb.cell? ⟨w6.heap.size, 1, none⟩ = some (.int .i64 lf) := hg_wb.c; have qb0 : wb.cell? ⟨w7.heap.size, 0, none⟩ = some (.int .u64 hi) := hg_wb.c; have qb1 : wb.cell? ⟨w7.heap.size, 1, none⟩ = some (.int .i64 hf) := hg_wb.c; have hgbb : Gb w wb := Gb.g)
        | (go_at_call 16; with_reducible refine (OrA.smx HA.out _).mono ?_; rintro x wc ⟨rfl, hg_wc⟩; have pc0 : wc.cell? ⟨w6.heap.size, 0, none⟩ = some (.int .u64 lo) := hg_wc.c; have pc1 : wc.cell? ⟨w6.heap.size, 1, none⟩ = some (.int .i64 lf) := hg_wc.c; have qc0 : wc.cell? ⟨w7.heap.size, 0, none⟩ = some (.int .u64 hi) := hg_wc.c; have qc1 : wc.cell? ⟨w7.heap.size, 1, none⟩ = some (.int .i64 hf) := hg_wc.c; have hgbc : Gb w wc := Gb.g))
    all_goals (try go_split_ands)
    all_goals
      rcases HR.out with k1 | ⟨k1, up, uf, HU', hup, hrest⟩
      · clear HR
        go_wp2_with (go_at_call 25; with_reducible refine (OrA.cla HA.out _).mono ?_; rintro x we ⟨rfl, hg_we⟩; have hgbe : Gb w we := Gb.g)
        go_returns
        exact ⟨rfl, Gb.g⟩
      · have HU : Hid (∀ w', Gb w w' → Calls Tryd.prog 12 #[.int .i64 f, .int .u64 u, .int .u64 nx, .bool true] w' fun e w'' => e = .returned (.tuple #[.int .i64 up, .int .i64 uf]) ∧ Gr w' w'') := HU'
        clear HU' HR
        go_upto_region 17 with (first
          | (go_at_call 25; first | (with_reducible refine (OrA.cla HA.out _).mono ?_; rintro x we ⟨rfl, hg_we⟩; have pe0 : we.cell? ⟨w6.heap.size, 0, none⟩ = some (.int .u64 lo) := hg_we.c; have pe1 : we.cell? ⟨w6.heap.size, 1, none⟩ = some (.int .i64 lf) := hg_we.c; have qe0 : we.cell? ⟨w7.heap.size, 0, none⟩ = some (.int .u64 hi) := hg_we.c; have qe1 : we.cell? ⟨w7.heap.size, 1, none⟩ = some (.int .i64 hf) := hg_we.c; have hgbe : Gb w we := Gb.g) | (with_reducible refine (OrA.clb HA.out _).mono ?_; rintro x wg ⟨rfl, hg_wg⟩; have pg0 : wg.cell? ⟨w6.heap.size, 0, none⟩ = some (.int .u64 lo) := hg_wg.c; have pg1 : wg.cell? ⟨w6.heap.size, 1, none⟩ = some (.int .i64 lf) := hg_wg.c; have qg0 : wg.cell? ⟨w7.heap.size, 0, none⟩ = some (.int .u64 hi) := hg_wg.c; have qg1 : wg.cell? ⟨w7.heap.size, 1, none⟩ = some (.int .i64 hf) := hg_wg.c; have hgbg : Gb w wg := Gb.g))
          | (go_at_call 12; with_reducible refine (HU.out _ Gb.g).mono ?_; rintro x wf ⟨rfl, hg_wf⟩; have pf0 : wf.cell? ⟨w6.heap.size, 0, none⟩ = some (.int .u64 lo) := hg_wf.c; have pf1 : wf.cell? ⟨w6.heap.size, 1, none⟩ = some (.int .i64 lf) := hg_wf.c; have qf0 : wf.cell? ⟨w7.heap.size, 0, none⟩ = some (.int .u64 hi) := hg_wf.c; have qf1 : wf.cell? ⟨w7.heap.size, 1, none⟩ = some (.int .i64 hf) := hg_wf.c; have hgbf : Gb w wf := Gb.g))
        have h17 : (up = -1 ∨ up = 0 ∧ nx = u) := hup
        clear hup
        have HR2 : Hid _ := hrest
        clear hrest
        rcases h17 with rfl | ⟨rfl, rfl⟩
        all_goals
          rcases HR2.out with k2 | ⟨k2, od, of, HO', hod, hr2', hlh⟩
          · clear HR2
            go_wp2_with (go_at_call 25; first | (with_reducible refine (OrA.cla HA.out _).mono ?_; rintro x we ⟨rfl, hg_we⟩; have pe0 : we.cell? ⟨w6.heap.size, 0, none⟩ = some (.int .u64 lo) := hg_we.c; have pe1 : we.cell? ⟨w6.heap.size, 1, none⟩ = some (.int .i64 lf) := hg_we.c; have qe0 : we.cell? ⟨w7.heap.size, 0, none⟩ = some (.int .u64 hi) := hg_we.c; have qe1 : we.cell? ⟨w7.heap.size, 1, none⟩ = some (.int .i64 hf) := hg_we.c; have hgbe : Gb w we := Gb.g) | (with_reducible refine (OrA.clb HA.out _).mono ?_; rintro x wg ⟨rfl, hg_wg⟩; have pg0 : wg.cell? ⟨w6.heap.size, 0, none⟩ = some (.int .u64 lo) := hg_wg.c; have pg1 : wg.cell? ⟨w6.heap.size, 1, none⟩ = some (.int .i64 lf) := hg_wg.c; have qg0 : wg.cell? ⟨w7.heap.size, 0, none⟩ = some (.int .u64 hi) := hg_wg.c; have qg1 : wg.cell? ⟨w7.heap.size, 1, none⟩ = some (.int .i64 hf) := hg_wg.c; have hgbg : Gb w wg := Gb.g))
            go_returns
            exact ⟨rfl, Gb.g⟩
          · exact absurd rfl hr2'
  · have e0 : ¬ r = 2 := by omega
    have e1 : (r == 2) = false := by simp; omega
    have e2 : wrap64 (-r) = r' := by unfold wrap64; omega
    have e3 : IntKind.i64.wrap (-r) = r' := by rw [IntKind.wrap_i64]; omega
    clear hr1 hr2
    go_upto_region 12 with (first
      | (go_at_call 23; with_reducible refine (OrA.inx HA.out _ Gb.g).mono ?_; rintro x w5 ⟨rfl, hg_w5⟩; have hgb5 : Gb w w5 := Gb.g)
      | (go_at_call 14; with_reducible refine (OrA.imn HA.out _ Gb.g).mono ?_; rintro x w6 ⟨rfl, hg_w6⟩; have hgb6 : Gb w w6 := Gb.g)
      | (go_at_call 17; with_reducible refine (OrA.imx HA.out _ Gb.g).mono ?_; rintro x w7 ⟨rfl, hg_w7⟩; have hgb7 : Gb w w7 := Gb.g; have lo0 : w7.cell? ⟨w6.heap.size, 0, none⟩ = some (.int .u64 lo) := hg_w7.c; have loz0 : w7.frozen? ⟨w6.heap.size, 0, none⟩ = false := hg_w7.z; have loA0 := (fun ob => cell_alloc ob lo0); have loB0 : ∀ c t, (w7.alloc (.cells c t)).frozen? ⟨w6.heap.size, 0, none⟩ = false := (fun c t => fz_alloc loz0); have lo1 : w7.cell? ⟨w6.heap.size, 1, none⟩ = some (.int .i64 lf) := hg_w7.c; have loz1 : w7.frozen? ⟨w6.heap.size, 1, none⟩ = false := hg_w7.z; have loA1 := (fun ob => cell_alloc ob lo1); have loB1 : ∀ c t, (w7.alloc (.cells c t)).frozen? ⟨w6.heap.size, 1, none⟩ = false := (fun c t => fz_alloc loz1); have hz6 := cell_size lo0))
    obtain ⟨w8, hw8⟩ : ∃ w8, w7.alloc (.cells #[.int .u64 hi, .int .i64 hf] 27) = w8 := ⟨_, rfl⟩
    have hg_w8 : Gr w7 w8 := by rw [← hw8]; exact (Gr.refl _).alloc _ _
    have hgb8 : Gb w w8 := Gb.g
    have hi0 : w8.cell? ⟨w7.heap.size, 0, none⟩ = some (.int .u64 hi) := by rw [← hw8]; simp [go_sem]
    have hi1 : w8.cell? ⟨w7.heap.size, 1, none⟩ = some (.int .i64 hf) := by rw [← hw8]; simp [go_sem]
    have hz8 : w7.heap.size < w8.heap.size := by rw [← hw8]; simp
    rw [hw8]
    clear hw8
    have lp0 : w8.cell? ⟨w6.heap.size, 0, none⟩ = some (.int .u64 lo) := hg_w8.c; have lp1 : w8.cell? ⟨w6.heap.size, 1, none⟩ = some (.int .i64 lf) := hg_w8.c
    go_region_held3 (fun w' => w'.cell? ⟨w6.heap.size, 0, none⟩ = some (.int .u64 lo) ∧ w'.cell? ⟨w6.heap.size, 1, none⟩ = some (.int .i64 lf) ∧ w'.cell? ⟨w7.heap.size, 0, none⟩ = some (.int .u64 hi) ∧ w'.cell? ⟨w7.heap.size, 1, none⟩ = some (.int .i64 hf))
      ((go_split_ands; (repeat' apply And.intro) <;> (repeat' (first | (with_reducible assumption) | (with_reducible refine has_of (by with_reducible assumption)) | (with_reducible refine Gr.old (by with_reducible assumption) ?_) | (with_reducible refine Gb.old (by with_reducible assumption) ?_) | (with_reducible refine Gb.hs (by with_reducible assumption) ?_) | (with_reducible refine has_old (by with_reducible assumption) ?_) | (with_reducible refine cell_setSame ?_) | (with_reducible refine has_set ?_) | (with_reducible refine cell_setOff ?_ ?_; omega) | (with_reducible refine cell_setNew ?_ ?_; (dsimp only; omega)) | (simp [go_sem]; done) | (with_reducible refine cell_alloc _ ?_) | (with_reducible refine cell_drew ?_) | (with_reducible refine has_alloc _ ?_) | (with_reducible refine fz_old (by with_reducible assumption) ?_) | (with_reducible refine Gb.fh (by with_reducible assumption) (by with_reducible assumption) ?_) | (with_reducible refine fz_alloc ?_) | (with_reducible refine fz_set ?_) | (with_reducible refine fz_drew ?_) | go_size))))
      (first
        | (go_at_call 24; with_reducible refine (OrA.snx HA.out _).mono ?_; rintro x wa ⟨rfl, hg_wa⟩; have pa0 : wa.cell? ⟨w6.heap.size, 0, none⟩ = some (.int .u64 lo) := hg_wa.c; have pa1 : wa.cell? ⟨w6.heap.size, 1, none⟩ = some (.int .i64 lf) := hg_wa.c; have qa0 : wa.cell? ⟨w7.heap.size, 0, none⟩ = some (.int .u64 hi) := hg_wa.c; have qa1 : wa.cell? ⟨w7.heap.size, 1, none⟩ = some (.int .i64 hf) := hg_wa.c; have hgba : Gb w wa := Gb.g)
        | (go_at_call 13; with_reducible refine (OrA.smn HA.out _).mono ?_; rintro x wb ⟨rfl, hg_wb⟩; have pb0 : wb.cell? ⟨w6.heap.size, 0, none⟩ = some (.int .u64 lo) := hg_wb.c; have pb1 : wb.cell? ⟨w6.heap.size, 1, none⟩ = some (.int .i64 lf) := hg_wb.c; have qb0 : wb.cell? ⟨w7.heap.size, 0, none⟩ = some (.int .u64 hi) := hg_wb.c; have qb1 : wb.cell? ⟨w7.heap.size, 1, none⟩ = some (.int .i64 hf) := hg_wb.c; have hgbb : Gb w wb := Gb.g)
        | (go_at_call 16; with_reducible refine (OrA.smx HA.out _).mono ?_; rintro x wc ⟨rfl, hg_wc⟩; have pc0 : wc.cell? ⟨w6.heap.size, 0, none⟩ = some (.int .u64 lo) := hg_wc.c; have pc1 : wc.cell? ⟨w6.heap.size, 1, none⟩ = some (.int .i64 lf) := hg_wc.c; have qc0 : wc.cell? ⟨w7.heap.size, 0, none⟩ = some (.int .u64 hi) := hg_wc.c; have qc1 : wc.cell? ⟨w7.heap.size, 1, none⟩ = some (.int .i64 hf) := hg_wc.c; have hgbc : Gb w wc := Gb.g))
    all_goals (try go_split_ands)
    all_goals
      rcases HR.out with k1 | ⟨k1, up, uf, HU', hup, hrest⟩
      · clear HR
        go_wp2_with (go_at_call 25; with_reducible refine (OrA.cla HA.out _).mono ?_; rintro x we ⟨rfl, hg_we⟩; have hgbe : Gb w we := Gb.g)
        go_returns
        exact ⟨rfl, Gb.g⟩
      · have HU : Hid (∀ w', Gb w w' → Calls Tryd.prog 12 #[.int .i64 f, .int .u64 u, .int .u64 nx, .bool true] w' fun e w'' => e = .returned (.tuple #[.int .i64 up, .int .i64 uf]) ∧ Gr w' w'') := HU'
        clear HU' HR
        go_upto_region 17 with (first
          | (go_at_call 25; first | (with_reducible refine (OrA.cla HA.out _).mono ?_; rintro x we ⟨rfl, hg_we⟩; have pe0 : we.cell? ⟨w6.heap.size, 0, none⟩ = some (.int .u64 lo) := hg_we.c; have pe1 : we.cell? ⟨w6.heap.size, 1, none⟩ = some (.int .i64 lf) := hg_we.c; have qe0 : we.cell? ⟨w7.heap.size, 0, none⟩ = some (.int .u64 hi) := hg_we.c; have qe1 : we.cell? ⟨w7.heap.size, 1, none⟩ = some (.int .i64 hf) := hg_we.c; have hgbe : Gb w we := Gb.g) | (with_reducible refine (OrA.clb HA.out _).mono ?_; rintro x wg ⟨rfl, hg_wg⟩; have pg0 : wg.cell? ⟨w6.heap.size, 0, none⟩ = some (.int .u64 lo) := hg_wg.c; have pg1 : wg.cell? ⟨w6.heap.size, 1, none⟩ = some (.int .i64 lf) := hg_wg.c; have qg0 : wg.cell? ⟨w7.heap.size, 0, none⟩ = some (.int .u64 hi) := hg_wg.c; have qg1 : wg.cell? ⟨w7.heap.size, 1, none⟩ = some (.int .i64 hf) := hg_wg.c; have hgbg : Gb w wg := Gb.g))
          | (go_at_call 12; with_reducible refine (HU.out _ Gb.g).mono ?_; rintro x wf ⟨rfl, hg_wf⟩; have pf0 : wf.cell? ⟨w6.heap.size, 0, none⟩ = some (.int .u64 lo) := hg_wf.c; have pf1 : wf.cell? ⟨w6.heap.size, 1, none⟩ = some (.int .i64 lf) := hg_wf.c; have qf0 : wf.cell? ⟨w7.heap.size, 0, none⟩ = some (.int .u64 hi) := hg_wf.c; have qf1 : wf.cell? ⟨w7.heap.size, 1, none⟩ = some (.int .i64 hf) := hg_wf.c; have hgbf : Gb w wf := Gb.g))
        have h17 : (up = -1 ∨ up = 0 ∧ nx = u) := hup
        clear hup
        have HR2 : Hid _ := hrest
        clear hrest
        rcases h17 with rfl | ⟨rfl, rfl⟩
        all_goals
          rcases HR2.out with k2 | ⟨k2, od, of, HO', hod, hr2', hlh⟩
          · clear HR2
            go_wp2_with (go_at_call 25; first | (with_reducible refine (OrA.cla HA.out _).mono ?_; rintro x we ⟨rfl, hg_we⟩; have pe0 : we.cell? ⟨w6.heap.size, 0, none⟩ = some (.int .u64 lo) := hg_we.c; have pe1 : we.cell? ⟨w6.heap.size, 1, none⟩ = some (.int .i64 lf) := hg_we.c; have qe0 : we.cell? ⟨w7.heap.size, 0, none⟩ = some (.int .u64 hi) := hg_we.c; have qe1 : we.cell? ⟨w7.heap.size, 1, none⟩ = some (.int .i64 hf) := hg_we.c; have hgbe : Gb w we := Gb.g) | (with_reducible refine (OrA.clb HA.out _).mono ?_; rintro x wg ⟨rfl, hg_wg⟩; have pg0 : wg.cell? ⟨w6.heap.size, 0, none⟩ = some (.int .u64 lo) := hg_wg.c; have pg1 : wg.cell? ⟨w6.heap.size, 1, none⟩ = some (.int .i64 lf) := hg_wg.c; have qg0 : wg.cell? ⟨w7.heap.size, 0, none⟩ = some (.int .u64 hi) := hg_wg.c; have qg1 : wg.cell? ⟨w7.heap.size, 1, none⟩ = some (.int .i64 hf) := hg_wg.c; have hgbg : Gb w wg := Gb.g))
            go_returns
            exact ⟨rfl, Gb.g⟩
          · have HO : Hid (∀ w', Gb w w' → Calls Tryd.prog 12 #[.int .i64 f, .int .u64 lo, .int .u64 hi, .bool true] w' fun e w'' => e = .returned (.tuple #[.int .i64 od, .int .i64 of]) ∧ Gr w' w'') := HO'
            clear HO' HR2
            go_upto_region 22 with (first
              | (go_at_call 25; first | (with_reducible refine (OrA.cla HA.out _).mono ?_; rintro x we ⟨rfl, hg_we⟩; have pe0 : we.cell? ⟨w6.heap.size, 0, none⟩ = some (.int .u64 lo) := hg_we.c; have pe1 : we.cell? ⟨w6.heap.size, 1, none⟩ = some (.int .i64 lf) := hg_we.c; have qe0 : we.cell? ⟨w7.heap.size, 0, none⟩ = some (.int .u64 hi) := hg_we.c; have qe1 : we.cell? ⟨w7.heap.size, 1, none⟩ = some (.int .i64 hf) := hg_we.c; have hgbe : Gb w we := Gb.g) | (with_reducible refine (OrA.clb HA.out _).mono ?_; rintro x wg ⟨rfl, hg_wg⟩; have pg0 : wg.cell? ⟨w6.heap.size, 0, none⟩ = some (.int .u64 lo) := hg_wg.c; have pg1 : wg.cell? ⟨w6.heap.size, 1, none⟩ = some (.int .i64 lf) := hg_wg.c; have qg0 : wg.cell? ⟨w7.heap.size, 0, none⟩ = some (.int .u64 hi) := hg_wg.c; have qg1 : wg.cell? ⟨w7.heap.size, 1, none⟩ = some (.int .i64 hf) := hg_wg.c; have hgbg : Gb w wg := Gb.g))
              | (go_at_call 12; with_reducible refine (HO.out _ Gb.g).mono ?_; rintro x wi ⟨rfl, hg_wi⟩; have pi0 : wi.cell? ⟨w6.heap.size, 0, none⟩ = some (.int .u64 lo) := hg_wi.c; have pi1 : wi.cell? ⟨w6.heap.size, 1, none⟩ = some (.int .i64 lf) := hg_wi.c; have qi0 : wi.cell? ⟨w7.heap.size, 0, none⟩ = some (.int .u64 hi) := hg_wi.c; have qi1 : wi.cell? ⟨w7.heap.size, 1, none⟩ = some (.int .i64 hf) := hg_wi.c; have hgbi : Gb w wi := Gb.g))
            rcases hlh with ⟨rfl, rfl⟩ | ⟨rfl, rfl, k3⟩
            all_goals
              go_wp2
              go_returns
              exact ⟨rfl, Gb.g⟩
end Go.Proofs.YtfakbjgbbcigpaaDoor


/- laws.FnOrder: what its walk calls. -/
set_option linter.unusedVariables false
set_option linter.unusedSimpArgs false
namespace Go.Proofs.YtfakbjgbbcigpaaDoor
open Go.RowKit

set_option maxRecDepth 100000 in
theorem ordClass_any (f v c s x g : Int) (HU : Hid (∀ w, Calls Tryd.prog 31 #[.int .i64 f, .int .u64 v] w fun e w' => e = .returned (.agg #[.int .i64 c, .int .i64 s, .int .i64 x, .int .u64 g]) ∧ Gr w w')) (w : World) : Calls Tryd.prog 25 #[.int .i64 f, .int .u64 v] w fun e w' => e = .returned (.int .i64 c) ∧ Gr w w' := by
  have hf : ∀ w, (Instr.field 43 (.agg #[.int .i64 c, .int .i64 s, .int .i64 x, .int .u64 g]) 0).run Tryd.prog w = .ok (.int .i64 c) w := fun w => by kernel_rfl
  go_enter Tryd.func25, Tryd.ntmps25
  go_wp2_with (go_at_call 31; refine (HU.out _).mono ?_; rintro x w1 ⟨rfl, hg_w1⟩)
  go_returns
  exact ⟨rfl, by first | exact hg_w1 | exact kr⟩

theorem ord_class (f v : Int) (v0 : 0 ≤ v) (v1 : v < 18446744073709551616) : ∃ c : Int, (∀ w, Calls Tryd.prog 25 #[.int .i64 f, .int .u64 v] w fun e w' => e = .returned (.int .i64 c) ∧ Gr w w') ∧ (c = 4 ∨ ∃ p mx one inf sg nan x, IsFmt f p mx one inf sg nan ∧ v < 2 * sg ∧ OpdIs p mx one inf sg nan v x ∧ x.c = c) := by
  rcases fit_or f v v0 v1 with ⟨p, mx, one, inf, sg, nan, hF, hv⟩ | hno
  · obtain ⟨x, hx⟩ := opd_ex hF v v0 v1
    exact ⟨x.c, fun w => ordClass_any f v _ _ _ _ (unp_det hF v v0 hv hx) w, .inr ⟨p, mx, one, inf, sg, nan, x, hF, hv, hx, rfl⟩⟩
  · exact ⟨4, fun w => ordClass_any f v 4 0 0 0 (fun w => specUnpack_no f v v0 hno w) w, .inl rfl⟩

/-- NextUp, both sides. -/
theorem next_same (f W : Int) (h0 : 0 ≤ W) (h1 : W < 18446744073709551616) : ∃ z : Int, (∀ w, Calls Tryd.prog 24 #[.int .i64 f, .int .u64 W] w fun e w' => e = .returned (.int .u64 z) ∧ Gr w w') ∧
    (∀ w, Fm w → Calls Tryd.prog 23 #[.int .i64 f, .int .u64 W] w fun e w' => e = .returned (.int .u64 z) ∧ Gr w w') ∧ ∀ p mx one inf sg nan, IsFmt f p mx one inf sg nan → W < 2 * sg → NextIs inf sg nan W z := by
  rcases fit_or f W h0 h1 with ⟨p, mx, one, inf, sg, nan, hf, hW⟩ | hno
  · obtain ⟨z, hu⟩ := next_is hf W h0 hW
    refine ⟨z, fun w => (specNext_fit hf W h0 hW w).mono ?_, fun w hw => (implNext_fit hf W h0 hW hw).mono ?_, fun p' mx' one' inf' sg' nan' hf' _ => ?_⟩
    · rintro e w' ⟨z', hu', rfl, hg⟩
      obtain rfl := NextIs.one hf hu hu'
      exact ⟨rfl, hg⟩
    · rintro e w' ⟨z', hu', rfl, hg⟩
      obtain rfl := NextIs.one hf hu hu'
      exact ⟨rfl, hg⟩
    · obtain ⟨rfl, rfl, rfl, rfl, rfl, rfl⟩ := hf.one hf'
      exact hu
  · have no : ∀ p mx one inf sg nan, IsFmt f p mx one inf sg nan → W < 2 * sg → False := by
      intro p mx one inf sg nan hf hW
      rcases hno with h | ⟨h, h'⟩
      · exact absurd hf.yes.symm (by simp [h])
      · rcases hf with ⟨rfl, rfl, rfl, rfl, rfl, rfl, rfl⟩ | ⟨rfl, rfl, rfl, rfl, rfl, rfl, rfl⟩ <;> omega
    rcases hno with hno | ⟨rfl, hno⟩
    · exact ⟨_, fun w => specNext_none f W h0 hno w, fun w hw => implNext_none f W hno hw, fun _ _ _ _ _ _ a b => (no _ _ _ _ _ _ a b).elim⟩
    · exact ⟨_, fun w => specNext_wide W h0 hno w, fun w hw => implNext_wide W hno h1 hw, fun _ _ _ _ _ _ a b => (no _ _ _ _ _ _ a b).elim⟩

theorem ord_all (f u v : Int) (s : Bool) (u0 : 0 ≤ u) (u1 : u < 18446744073709551616) (v0 : 0 ≤ v) (v1 : v < 18446744073709551616) (w : World) (hw : Fm w) : OrF f u v s w := by
  obtain ⟨r, fl, hc, SC, IC⟩ := compare_same f u v s u0 u1 v0 v1
  obtain ⟨r', fl', hc', _, IC'⟩ := compare_same f v u s v0 v1 u0 u1
  obtain ⟨hfl, hr⟩ := CmpIs.swap hc hc'
  subst hfl
  obtain ⟨nx, SN, IN, hN⟩ := next_same f u u0 u1
  obtain ⟨lo, lf, hL, SL, IL⟩ := min_same f u v u0 u1 v0 v1
  obtain ⟨hi, hf, hH, SH, IH⟩ := max_same f u v u0 u1 v0 v1
  obtain ⟨ca, CA, hca⟩ := ord_class f u u0 u1
  obtain ⟨cb, CB, hcb⟩ := ord_class f v v0 v1
  refine ⟨r, _, r', nx, lo, lf, hi, hf, ca, cb, ⟨SC, fun w' hg => IC w' (hw.gb hg), fun w' hg => IC' w' (hw.gb hg), fun w' hg => IN w' (hw.gb hg), SN, fun w' hg => IL w' (hw.gb hg), SL, fun w' hg => IH w' (hw.gb hg), SH, CA, CB⟩, hr, ?_⟩
  by_cases h3 : 3 ≤ ca
  · exact .inl (decide_eq_true h3)
  · refine .inr ⟨decide_eq_false h3, ?_⟩
    rcases hca with h | ⟨p, mx, one, inf, sg, nan, x, hF, hu, hx, rfl⟩
    · exfalso; omega
    · have xc : x.c ≤ 2 := by omega
      have hb := hF.bounds
      obtain ⟨nr, nn⟩ := next_n hF u0 hx xc (hN _ _ _ _ _ _ hF hu)
      obtain ⟨y, hy⟩ := opd_ex hF nx (by omega) (by omega)
      have yc := opd_low hF hy nr
      obtain ⟨up, uf, hU, _, IU⟩ := compare_same f u nx true u0 u1 (by omega) (by omega)
      obtain ⟨hup, _⟩ := cmp_n hF u0 (by omega) hx hy xc yc hU
      refine ⟨up, uf, fun w' hg => IU w' (hw.gb hg), ?_, ?_⟩
      · rcases nn with h | h
        · refine .inr ⟨?_, h⟩
          rw [hup, h, cmpI_self]
        · left; rw [hup, cmpI_lt h]
      · by_cases h4 : 3 ≤ cb
        · exact .inl (decide_eq_true h4)
        · refine .inr ⟨decide_eq_false h4, ?_⟩
          rcases hcb with h | ⟨p', mx', one', inf', sg', nan', z, hF', hv, hz, rfl⟩
          · exfalso; omega
          · obtain ⟨rfl, rfl, rfl, rfl, rfl, rfl⟩ := hF.one hF'
            have zc : z.c ≤ 2 := by omega
            obtain ⟨hpk, hle⟩ := pick_n hF u0 v0 hx hz xc zc hL hH
            obtain ⟨hr1, _⟩ := cmp_n hF u0 v0 hx hz xc zc hc
            have hr2 : r ≠ 2 := by rw [hr1]; have := cmpI_01 (nW sg u) (nW sg v); omega
            obtain ⟨od, of, hO, _, I3⟩ := compare_same f lo hi true (by omega) (by omega) (by omega) (by omega)
            have hod : od ≤ 0 := by
              rcases hpk with ⟨rfl, rfl⟩ | ⟨rfl, rfl⟩
              · rw [(cmp_n hF u0 v0 hx hz xc zc hO).1]; unfold cmpI; rw [if_neg (show ¬ nW sg hi < nW sg lo by omega)]; split <;> omega
              · rw [(cmp_n hF v0 u0 hz hx zc xc hO).1]; unfold cmpI; rw [if_neg (show ¬ nW sg hi < nW sg lo by omega)]; split <;> omega
            refine ⟨od, of, fun w' hg => I3 w' (hw.gb hg), decide_eq_true hod, hr2, ?_⟩
            rcases hpk with h | ⟨h1, h2⟩
            · exact .inl h
            · by_cases e : v = u
              · exact .inl ⟨by omega, by omega⟩
              · exact .inr ⟨h1, h2, by simp [e]⟩

theorem lawOrder (a : Option Addr) (len cap : Nat) (w : World) (hC : CodeRow w a len) (hw : Fm w) :
    Calls Tryd.prog 8 #[.slice a len cap] w fun e w' => e = .returned (.bool true) ∧ Gb w w' :=
  ord_walk a len cap w hC (fun w' hg => drawCompare_any a len cap w' (CodeRow.gbO hC hg)) (fun f u v s u0 u1 v0 v1 => ord_all f u v s u0 u1 v0 v1 w hw)
end Go.Proofs.YtfakbjgbbcigpaaDoor
