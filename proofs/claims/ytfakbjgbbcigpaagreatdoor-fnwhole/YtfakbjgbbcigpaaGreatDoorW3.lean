/- Results held against each other. -/
import Derived.Test.YtfakbjgbbcigpaaGreatDoorA1
import Derived.Test.YtfakbjgbbcigpaaGreatDoorRows
import Derived.Laws.StructEq
import Derived.WalkLawsBesides
import Derived.Test.YtfakbjgbbcigpaaGreatDoorG1
import Derived.Test.YtfakbjgbbcigpaaGreatDoorL5ZT
import Derived.Test.YtfakbjgbbcigpaaGreatDoorW2
import Derived.Test.YtfakbjgbbcigpaaGreatDoorA7
import Derived.Deep.RegionHeld3
import Derived.Deep.DeepCutAuto
set_option linter.unusedVariables false
set_option linter.unusedSimpArgs false
namespace Go.Proofs.YtfakbjgbbcigpaaGreatDoor
open Go.RowKit

theorem eqRS (a b c d : Int) (w : World) : (Op.equalIn 10000 27 (.agg #[.int .u64 a, .int .i64 b]) (.agg #[.int .u64 c, .int .i64 d])).run Tryz.prog w = .ok (a == c && b == d) w := by
  have u3 := Tryz.underlying23
  have a3 := Tryz.isAgg23
  have z3 := Tryz.sizeOf23
  have u4 := Tryz.underlying3
  have a4 := Tryz.isAgg3
  have z4 := Tryz.sizeOf3
  have hS : Tryz.prog.underlying 27 = some (.struct (Tryz.prog.fieldsOf 27)) := by kernel_rfl
  rw [show (10000 : Nat) = 9999 + 1 from rfl, run_equalIn_agg w 9999 27 _ _ hS (by kernel_rfl)]
  simp only [Program.fieldsOf, Tryz.underlying27]
  go_simp
  by_cases h1 : a = c <;> by_cases h2 : b = d <;> simp [h1, h2]

theorem eqRS_same (Z fl : Int) (w : World) : (Op.equalIn 10000 27 (.agg #[.int .u64 Z, .int .i64 fl]) (.agg #[.int .u64 Z, .int .i64 fl])).run Tryz.prog w = .ok true w := by rw [eqRS]; simp
end Go.Proofs.YtfakbjgbbcigpaaGreatDoor

/- FnWhole: whole numbers, rounded again. -/
set_option linter.unusedVariables false
set_option linter.unusedSimpArgs false
namespace Go.Proofs.YtfakbjgbbcigpaaGreatDoor
open Go.RowKit

theorem sw_in {f p mx one inf sg nan s v : Int} (h : IsFmt f p mx one inf sg nan) (hs : s = 0 ∨ s = 1) (v0 : 0 ≤ v) (v1 : v ≤ inf) : 0 ≤ sw s sg v ∧ sw s sg v < 2 * sg ∧ sw s sg v < 18446744073709551616 := by
  have hb := h.bounds
  unfold sw
  split <;> omega

theorem opd_nil {f p mx one inf sg nan s : Int} (h : IsFmt f p mx one inf sg nan) (hs : s = 0 ∨ s = 1) {y : Opd} (hy : OpdIs p mx one inf sg nan (sw s sg 0) y) : y.s = s ∧ y.e = 0 ∧ y.M = 0 ∧ y.c = 0 := by
  have hb := h.bounds
  obtain ⟨y1, y2⟩ := OpdIs.bare h hs (by omega) (by omega) hy
  rcases y2 with ⟨_, v', hs', hv'⟩ | ⟨c, _⟩
  · dsimp only at hs' hv'
    have : v' = 0 := by omega
    subst this
    rcases hv' with ⟨q, c, e, m⟩ | ⟨_, _, c, _⟩ | ⟨_, c, _⟩ | ⟨q, c, e, m⟩ | ⟨q0, q1, c, _⟩
    · exact ⟨y1, e, by omega, c⟩
    all_goals (exfalso; omega)
  · exfalso; omega

/-- What RoundInt gives is a whole number: its operand. -/
theorem rint_opd {f p mx one inf sg nan mode a Z : Int} (a0 : 0 ≤ a) (a1 : a < 18446744073709551616) (hF : IsFmt f p mx one inf sg nan) {x : Opd} (hx : OpdIs p mx one inf sg nan a x) (xc : x.c ≤ 2) (hp : PackIs p (1 - mx) mx one inf sg nan mode (wholeO mode x) Z 0) :
    (0 ≤ Z ∧ Z < 2 * sg ∧ Z < 18446744073709551616) ∧ ∃ y, OpdIs p mx one inf sg nan Z y ∧ y.c ≤ 2 ∧ y.s = x.s ∧ (x.c ≤ 1 → y.c ≤ 1 ∧ ∀ way, wholeM way y = wholeM mode x) ∧ wfl y = 0 ∧ ∀ way, PackIs p (1 - mx) mx one inf sg nan way (wholeO way y) Z 0 := by
  have hb := hF.bounds
  obtain ⟨v1, v2, v3, v4, v5, v6⟩ := opd_vo hF hx
  have hs := v1.s01
  have x0 := v1.c0
  by_cases hn : x.c = 1 ∧ x.e < 0
  · obtain ⟨c, e⟩ := hn
    obtain ⟨hl, hz0, hz1⟩ := whole_pack hF hx mode c e
    rcases Nat.eq_zero_or_pos (wholeM mode x) with h0 | h0
    · obtain ⟨rfl, _⟩ := PackIs.one hp (hz0 h0)
      have hsw := sw_in hF hs (Int.le_refl 0) (show (0 : Int) ≤ inf by omega)
      obtain ⟨y, hy⟩ := opd_ex hF _ hsw.1 hsw.2.2
      obtain ⟨q1, q2, q3, q4⟩ := opd_nil hF hs hy
      have hny : ¬ (y.c = 1 ∧ y.e < 0) := by omega
      refine ⟨hsw, y, hy, by omega, q1, fun _ => ⟨by omega, fun way => ?_⟩, wfl_self (a := a) hF hny, fun way => ?_⟩
      · rw [wholeM_no (by omega), q3, h0, Nat.zero_mul]
      · rw [wholeO_self hny]; exact pack_own hF hsw.1 hy (by omega) way
    · obtain ⟨z, hr, hpz⟩ := hz1 h0
      obtain ⟨rfl, _⟩ := PackIs.one hp hpz
      obtain ⟨z0, z1, hy'⟩ := exact_word hF hs h0 (by omega) (hr mode)
      have hsw := sw_in hF hs (show 0 ≤ z by omega) (show z ≤ inf by omega)
      obtain ⟨y, hy⟩ := opd_ex hF _ hsw.1 hsw.2.2
      obtain ⟨q1, q2, q3⟩ := hy' y hy
      have hye := (opd_vo hF hy).2.2.2.1
      have hw := fun way => whole_nv (x := y) (by omega) q3 way
      refine ⟨hsw, y, hy, by omega, q2, fun _ => ⟨by omega, fun way => (hw way).1⟩, ?_, fun way => ?_⟩
      · unfold wfl; rw [(hw 0).2, if_neg (by simp)]
      · by_cases hny : y.c = 1 ∧ y.e < 0
        · unfold wholeO
          rw [if_pos hny, (hw way).1, if_neg (by omega), q2]
          exact .inr (.inl ⟨rfl, z, hr way, rfl⟩)
        · rw [wholeO_self hny]; exact pack_own hF hsw.1 hy (by omega) way
  · rw [wholeO_self hn] at hp
    obtain ⟨rfl, _⟩ := PackIs.one hp (pack_own hF a0 hx xc mode)
    obtain ⟨ha, v, _, _, hzz⟩ := word_is hF a0 hx xc
    refine ⟨⟨a0, ha, a1⟩, x, hx, xc, rfl, fun hc => ⟨hc, fun way => ?_⟩, wfl_self (a := Z) hF hn, fun way => ?_⟩
    · have he : 0 ≤ x.e := by
        rcases (show x.c = 1 ∨ x.c ≠ 1 by omega) with k | k
        · omega
        · have := hzz k; omega
      rw [wholeM_no he, wholeM_no he]
    · rw [wholeO_self hn]; exact pack_own hF a0 hx xc way

theorem rint_again {f p mx one inf sg nan mode a Z fl : Int} (a0 : 0 ≤ a) (a1 : a < 18446744073709551616) (hF : IsFmt f p mx one inf sg nan) {x : Opd} (hx : OpdIs p mx one inf sg nan a x) (xc : x.c ≤ 2) (hR : RIntIs f mode a true Z fl) (hfl : fl ≠ 1) :
    (0 ≤ Z ∧ Z < 18446744073709551616) ∧ (∀ way, 0 ≤ way → way ≤ 4 → RIntIs f way Z true Z 0) ∧ ∀ kind I gl, ToIntIs f mode kind a I gl → gl ≠ 1 → ToIntIs f mode kind Z I 0 ∧ gl = fl := by
  rcases hR with ⟨p', mx', one', inf', sg', nan', x', hF', hm, hx', hp⟩ | ⟨_, _, _, _, _, _, _, _, _, k⟩ | ⟨_, _, k⟩
  · obtain ⟨rfl, rfl, rfl, rfl, rfl, rfl⟩ := hF.one hF'
    obtain rfl := hx.one hF hx'
    rcases hp with ⟨c, _⟩ | ⟨_, hp, hfl'⟩
    · exfalso; omega
    · rw [if_pos rfl] at hfl'
      obtain ⟨hZ, y, hy, yc, ys, hM, hwf, hpk⟩ := rint_opd a0 a1 hF hx xc hp
      refine ⟨⟨hZ.1, hZ.2.2⟩, fun way w0 w4 => .inl ⟨p, mx, one, inf, sg, nan, y, hF, ⟨w0, w4⟩, hy, .inr ⟨yc, hpk way, by rw [if_pos rfl, hwf]⟩⟩, fun kind I gl hT hgl => ?_⟩
      rcases hT with ⟨p', mx', one', inf', sg', nan', x', hF', ha', hm', hk', hx', hq⟩ | ⟨_, _, k⟩
      · obtain ⟨rfl, rfl, rfl, rfl, rfl, rfl⟩ := hF.one hF'
        obtain rfl := hx.one hF hx'
        rcases hq with ⟨_, _, k⟩ | ⟨c1, hle, rfl, rfl⟩ | ⟨_, _, _, k⟩
        · exact absurd k hgl
        · obtain ⟨yc1, hMy⟩ := hM c1
          refine ⟨.inl ⟨p, mx, one, inf, sg, nan, y, hF, hZ.2.1, hm', hk', hy, .inr (.inl ⟨yc1, ?_, ?_, hwf.symm⟩)⟩, hfl'.symm⟩
          · rw [hMy mode, ys]; exact hle
          · rw [hMy mode, ys]
        · exact absurd k hgl
      · exact absurd k hgl
  · exact absurd k hfl
  · exact absurd k hfl
end Go.Proofs.YtfakbjgbbcigpaaGreatDoor

/- laws.FnWhole: the walk. -/
set_option linter.unusedVariables false
set_option linter.unusedSimpArgs false
namespace Go.Proofs.YtfakbjgbbcigpaaGreatDoor
open Go.RowKit

/-- What is asked of a drawn number. -/
structure WhA (f m k a Z fl I gl ca : Int) (w : World) : Prop where
  sti : ∀ w', Calls Tryz.prog 14 #[.int .i64 f, .int .i64 m, .int .i64 k, .int .u64 a] w' fun e w'' => e = .returned (.agg #[.int .u64 I, .int .i64 gl]) ∧ Gb w' w''
  iti : ∀ w', Gb w w' → Calls Tryz.prog 8 #[.int .i64 f, .int .i64 m, .int .i64 k, .int .u64 a] w' fun e w'' => e = .returned (.agg #[.int .u64 I, .int .i64 gl]) ∧ Gr w' w''
  sri : ∀ w', Calls Tryz.prog 16 #[.int .i64 f, .int .i64 m, .int .u64 a, .bool true] w' fun e w'' => e = .returned (.agg #[.int .u64 Z, .int .i64 fl]) ∧ Gb w' w''
  iri : ∀ w', Gb w w' → Calls Tryz.prog 15 #[.int .i64 f, .int .i64 m, .int .u64 a, .bool true] w' fun e w'' => e = .returned (.agg #[.int .u64 Z, .int .i64 fl]) ∧ Gr w' w''
  cla : ∀ w', Calls Tryz.prog 12 #[.int .i64 f, .int .u64 a] w' fun e w'' => e = .returned (.int .i64 ca) ∧ Gr w' w''

def WhR (f Z : Int) (w : World) : Prop := ∀ way w', 0 ≤ way → way ≤ 4 → Gb w w' → Calls Tryz.prog 15 #[.int .i64 f, .int .i64 way, .int .u64 Z, .bool true] w' fun e w'' => e = .returned (.agg #[.int .u64 Z, .int .i64 0]) ∧ Gr w' w''
def WhT (f m k Z I : Int) (w : World) : Prop := ∀ w', Gb w w' → Calls Tryz.prog 8 #[.int .i64 f, .int .i64 m, .int .i64 k, .int .u64 Z] w' fun e w'' => e = .returned (.agg #[.int .u64 I, .int .i64 0]) ∧ Gr w' w''
def WhF (f m k a : Int) (w : World) : Prop := ∃ Z fl I gl ca, WhA f m k a Z fl I gl ca w ∧ (decide (3 ≤ ca) = true ∨ decide (3 ≤ ca) = false ∧ (bits .and .i64 fl 1 = 1 ∨ bits .and .i64 fl 1 = 0 ∧ WhR f Z w ∧ (bits .and .i64 gl 1 = 1 ∨ bits .and .i64 gl 1 = 0 ∧ gl = fl ∧ WhT f m k Z I w)))

set_option maxRecDepth 1000000 in
set_option maxHeartbeats 8000000 in
theorem whole_walk (a : Option Addr) (len cap : Nat) (w : World) (hC : CodeRow w a len)
    (HD : Hid (∀ w', Gb w w' → Calls Tryz.prog 13 #[.slice a len cap] w' (FromDraw w')))
    (HF : Hid (∀ f m k v, 0 ≤ v → v < 18446744073709551616 → WhF f m k v w)) :
    Calls Tryz.prog 4 #[.slice a len cap] w fun e w' => e = .returned (.bool true) ∧ Gb w w' := by
  have hlen : len ≤ 1048576 := hC.1
  clear hC
  go_enter Tryz.func4, Tryz.ntmps4
  go_upto_region 4 with (go_at_call 13; refine (HD.out _ (Gb.refl _)).mono ?_; rintro x w1 ⟨f, m, kd, v, f0, f1, m0, m1, k0, k1, v0, v1, rfl, hg_w1⟩)
  obtain ⟨Z, fl, I, gl, ca, SA, hrest⟩ := HF.out f m kd v v0 v1
  have HA : Hid (WhA f m kd v Z fl I gl ca w) := SA
  have HR : Hid (decide (3 ≤ ca) = true ∨ decide (3 ≤ ca) = false ∧ (bits .and .i64 fl 1 = 1 ∨ bits .and .i64 fl 1 = 0 ∧ WhR f Z w ∧ (bits .and .i64 gl 1 = 1 ∨ bits .and .i64 gl 1 = 0 ∧ gl = fl ∧ WhT f m kd Z I w))) := hrest
  have hgb1 : Gb w w1 := hg_w1
  have hq1 := eqRS_same Z fl
  have hq2 := eqRS_same I gl
  have hq3 := eqRS_same Z 0
  have hq4 := eqRS_same I 0
  clear SA HF HD hrest
  go_upto_region 7 with (first
    | (go_at_call 14; with_reducible refine (WhA.sti HA.out _).mono ?_; rintro x w2 ⟨rfl, hg_w2⟩; have hgb2 : Gb w w2 := Gb.g)
    | (go_at_call 15; with_reducible refine (WhA.iri HA.out _ Gb.g).mono ?_; rintro x w3 ⟨rfl, hg_w3⟩; have hgb3 : Gb w w3 := Gb.g; have wt0 : w3.cell? ⟨w2.heap.size, 0, none⟩ = some (.int .u64 I) := hg_w3.c; have wtz0 : w3.frozen? ⟨w2.heap.size, 0, none⟩ = false := hg_w3.z; have wtA0 := (fun ob => cell_alloc ob wt0); have wtB0 : ∀ c t, (w3.alloc (.cells c t)).frozen? ⟨w2.heap.size, 0, none⟩ = false := (fun c t => fz_alloc wtz0); have wt1 : w3.cell? ⟨w2.heap.size, 1, none⟩ = some (.int .i64 gl) := hg_w3.c; have wtz1 : w3.frozen? ⟨w2.heap.size, 1, none⟩ = false := hg_w3.z; have wtA1 := (fun ob => cell_alloc ob wt1); have wtB1 : ∀ c t, (w3.alloc (.cells c t)).frozen? ⟨w2.heap.size, 1, none⟩ = false := (fun c t => fz_alloc wtz1); have hz3 := cell_size wt0)
    | (go_at_call 8; with_reducible refine (WhA.iti HA.out _ Gb.g).mono ?_; rintro x w4 ⟨rfl, hg_w4⟩; have hgb4 : Gb w w4 := Gb.g; have wu0 : w4.cell? ⟨w2.heap.size, 0, none⟩ = some (.int .u64 I) := hg_w4.c; have wuz0 : w4.frozen? ⟨w2.heap.size, 0, none⟩ = false := hg_w4.z; have wuA0 := (fun ob => cell_alloc ob wu0); have wuB0 : ∀ c t, (w4.alloc (.cells c t)).frozen? ⟨w2.heap.size, 0, none⟩ = false := (fun c t => fz_alloc wuz0); have wu1 : w4.cell? ⟨w2.heap.size, 1, none⟩ = some (.int .i64 gl) := hg_w4.c; have wuz1 : w4.frozen? ⟨w2.heap.size, 1, none⟩ = false := hg_w4.z; have wuA1 := (fun ob => cell_alloc ob wu1); have wuB1 : ∀ c t, (w4.alloc (.cells c t)).frozen? ⟨w2.heap.size, 1, none⟩ = false := (fun c t => fz_alloc wuz1); have wv0 : w4.cell? ⟨w3.heap.size, 0, none⟩ = some (.int .u64 Z) := hg_w4.c; have wvz0 : w4.frozen? ⟨w3.heap.size, 0, none⟩ = false := hg_w4.z; have wvA0 := (fun ob => cell_alloc ob wv0); have wvB0 : ∀ c t, (w4.alloc (.cells c t)).frozen? ⟨w3.heap.size, 0, none⟩ = false := (fun c t => fz_alloc wvz0); have wv1 : w4.cell? ⟨w3.heap.size, 1, none⟩ = some (.int .i64 fl) := hg_w4.c; have wvz1 : w4.frozen? ⟨w3.heap.size, 1, none⟩ = false := hg_w4.z; have wvA1 := (fun ob => cell_alloc ob wv1); have wvB1 : ∀ c t, (w4.alloc (.cells c t)).frozen? ⟨w3.heap.size, 1, none⟩ = false := (fun c t => fz_alloc wvz1); have hz4 := cell_size wv0))
  obtain ⟨w5, hw5⟩ : ∃ w5, w4.alloc (.cells #[.int .u64 I, .int .i64 gl] 27) = w5 := ⟨_, rfl⟩
  have hg_w5 : Gr w4 w5 := by rw [← hw5]; exact (Gr.refl _).alloc _ _
  have hgb5 : Gb w w5 := Gb.g
  have ec0 : w5.cell? ⟨w4.heap.size, 0, none⟩ = some (.int .u64 I) := by rw [← hw5]; simp [go_sem]
  have ec1 : w5.cell? ⟨w4.heap.size, 1, none⟩ = some (.int .i64 gl) := by rw [← hw5]; simp [go_sem]
  have hz5 : w4.heap.size < w5.heap.size := by rw [← hw5]; simp
  rw [hw5]
  clear hw5
  have ea0 : w5.cell? ⟨w2.heap.size, 0, none⟩ = some (.int .u64 I) := hg_w5.c; have ea1 : w5.cell? ⟨w2.heap.size, 1, none⟩ = some (.int .i64 gl) := hg_w5.c
  have eb0 : w5.cell? ⟨w3.heap.size, 0, none⟩ = some (.int .u64 Z) := hg_w5.c; have eb1 : w5.cell? ⟨w3.heap.size, 1, none⟩ = some (.int .i64 fl) := hg_w5.c
  go_region_held3 (fun w' => w'.cell? ⟨w2.heap.size, 0, none⟩ = some (.int .u64 I) ∧ w'.cell? ⟨w2.heap.size, 1, none⟩ = some (.int .i64 gl) ∧ w'.cell? ⟨w3.heap.size, 0, none⟩ = some (.int .u64 Z) ∧ w'.cell? ⟨w3.heap.size, 1, none⟩ = some (.int .i64 fl) ∧ w'.cell? ⟨w4.heap.size, 0, none⟩ = some (.int .u64 I) ∧ w'.cell? ⟨w4.heap.size, 1, none⟩ = some (.int .i64 gl))
    ((go_split_ands; (repeat' apply And.intro) <;> exact kh))
    ((go_at_call 16; with_reducible refine (WhA.sri HA.out _).mono ?_; rintro x w6 ⟨rfl, hg_w6⟩; have ga0 : w6.cell? ⟨w2.heap.size, 0, none⟩ = some (.int .u64 I) := hg_w6.c; have ga1 : w6.cell? ⟨w2.heap.size, 1, none⟩ = some (.int .i64 gl) := hg_w6.c; have gb0 : w6.cell? ⟨w3.heap.size, 0, none⟩ = some (.int .u64 Z) := hg_w6.c; have gb1 : w6.cell? ⟨w3.heap.size, 1, none⟩ = some (.int .i64 fl) := hg_w6.c; have gc0 : w6.cell? ⟨w4.heap.size, 0, none⟩ = some (.int .u64 I) := hg_w6.c; have gc1 : w6.cell? ⟨w4.heap.size, 1, none⟩ = some (.int .i64 gl) := hg_w6.c; have hgb6 : Gb w w6 := Gb.g))
  all_goals (try go_split_ands)
  all_goals
    rcases HR.out with k1 | ⟨k1, k2 | ⟨k2, HW', hgl⟩⟩
    · clear HR
      go_wp2_with (go_at_call 12; with_reducible refine (WhA.cla HA.out _).mono ?_; rintro x w7 ⟨rfl, hg_w7⟩; have ha0 : w7.cell? ⟨w2.heap.size, 0, none⟩ = some (.int .u64 I) := hg_w7.c; have ha1 : w7.cell? ⟨w2.heap.size, 1, none⟩ = some (.int .i64 gl) := hg_w7.c; have hb0 : w7.cell? ⟨w3.heap.size, 0, none⟩ = some (.int .u64 Z) := hg_w7.c; have hb1 : w7.cell? ⟨w3.heap.size, 1, none⟩ = some (.int .i64 fl) := hg_w7.c; have hc0 : w7.cell? ⟨w4.heap.size, 0, none⟩ = some (.int .u64 I) := hg_w7.c; have hc1 : w7.cell? ⟨w4.heap.size, 1, none⟩ = some (.int .i64 gl) := hg_w7.c; have hgb7 : Gb w w7 := Gb.g)
      go_returns
      exact ⟨rfl, Gb.g⟩
    · clear HR
      go_wp2_with (go_at_call 12; with_reducible refine (WhA.cla HA.out _).mono ?_; rintro x w7 ⟨rfl, hg_w7⟩; have ha0 : w7.cell? ⟨w2.heap.size, 0, none⟩ = some (.int .u64 I) := hg_w7.c; have ha1 : w7.cell? ⟨w2.heap.size, 1, none⟩ = some (.int .i64 gl) := hg_w7.c; have hb0 : w7.cell? ⟨w3.heap.size, 0, none⟩ = some (.int .u64 Z) := hg_w7.c; have hb1 : w7.cell? ⟨w3.heap.size, 1, none⟩ = some (.int .i64 fl) := hg_w7.c; have hc0 : w7.cell? ⟨w4.heap.size, 0, none⟩ = some (.int .u64 I) := hg_w7.c; have hc1 : w7.cell? ⟨w4.heap.size, 1, none⟩ = some (.int .i64 gl) := hg_w7.c; have hgb7 : Gb w w7 := Gb.g)
      go_returns
      exact ⟨rfl, Gb.g⟩
    · have HW : Hid (WhR f Z w) := HW'
      have HG : Hid (bits .and .i64 gl 1 = 1 ∨ bits .and .i64 gl 1 = 0 ∧ gl = fl ∧ WhT f m kd Z I w) := hgl
      clear HR HW' hgl
      go_upto_region 11 with (go_at_call 12; with_reducible refine (WhA.cla HA.out _).mono ?_; rintro x w7 ⟨rfl, hg_w7⟩; have ha0 : w7.cell? ⟨w2.heap.size, 0, none⟩ = some (.int .u64 I) := hg_w7.c; have ha1 : w7.cell? ⟨w2.heap.size, 1, none⟩ = some (.int .i64 gl) := hg_w7.c; have hb0 : w7.cell? ⟨w3.heap.size, 0, none⟩ = some (.int .u64 Z) := hg_w7.c; have hb1 : w7.cell? ⟨w3.heap.size, 1, none⟩ = some (.int .i64 fl) := hg_w7.c; have hc0 : w7.cell? ⟨w4.heap.size, 0, none⟩ = some (.int .u64 I) := hg_w7.c; have hc1 : w7.cell? ⟨w4.heap.size, 1, none⟩ = some (.int .i64 gl) := hg_w7.c; have hgb7 : Gb w w7 := Gb.g)
      go_wp2_with fail
      go_loopw [10] (fun i wr => ∃ k : Nat, k ≤ 5 ∧ i = .int .i64 k ∧ Gb w wr ∧ wr.cell? ⟨w2.heap.size, 0, none⟩ = some (.int .u64 I) ∧ wr.cell? ⟨w2.heap.size, 1, none⟩ = some (.int .i64 gl) ∧ wr.cell? ⟨w3.heap.size, 0, none⟩ = some (.int .u64 Z) ∧ wr.cell? ⟨w3.heap.size, 1, none⟩ = some (.int .i64 fl) ∧ wr.cell? ⟨w4.heap.size, 0, none⟩ = some (.int .u64 I) ∧ wr.cell? ⟨w4.heap.size, 1, none⟩ = some (.int .i64 gl)) (fun i _ => 5 - (intOf i).toNat)
      case atStart => exact ⟨0, by omega, rfl, Gb.g, ha0, ha1, hb0, hb1, hc0, hc1⟩
      case round =>
        obtain ⟨k, hk, rfl, hgr, ta0, ta1, tb0, tb1, tc0, tc1⟩ := hrel
        by_cases hgo : k < 5
        · have hk5' : (k : Int) ≤ 4 := by omega
          go_wp2_with fail
          go_region_held3 (fun w' => w'.cell? ⟨w3.heap.size, 0, none⟩ = some (.int .u64 Z))
            ((go_split_ands; (repeat' apply And.intro) <;> exact kh))
            ((go_at_call 15; refine (HW.out (k : Int) _ (by omega) (by omega) Gb.g).mono ?_; rintro y w8 ⟨rfl, hg_w8⟩; have ia0 : w8.cell? ⟨w2.heap.size, 0, none⟩ = some (.int .u64 I) := hg_w8.c; have ia1 : w8.cell? ⟨w2.heap.size, 1, none⟩ = some (.int .i64 gl) := hg_w8.c; have ib0 : w8.cell? ⟨w3.heap.size, 0, none⟩ = some (.int .u64 Z) := hg_w8.c; have ib1 : w8.cell? ⟨w3.heap.size, 1, none⟩ = some (.int .i64 fl) := hg_w8.c; have ic0 : w8.cell? ⟨w4.heap.size, 0, none⟩ = some (.int .u64 I) := hg_w8.c; have ic1 : w8.cell? ⟨w4.heap.size, 1, none⟩ = some (.int .i64 gl) := hg_w8.c; have hgb8 : Gb w w8 := Gb.g))
          all_goals (try go_split_ands)
          all_goals go_wp2
          all_goals go_roundw
          all_goals first | exact ⟨k + 1, by omega, by go_num, Gb.g, ia0, ia1, ib0, ib1, ic0, ic1⟩ | (simp [intOf] <;> omega)
        · have hk5 : 4 < (k : Int) := by omega
          rcases HG.out with q1 | ⟨q1, q2, HT'⟩
          · clear HG
            go_wp2
            go_returns
            exact ⟨rfl, Gb.g⟩
          · have HT : Hid (WhT f m kd Z I w) := HT'
            clear HT' HG
            subst q2
            go_upto_region 18 with fail
            go_region_held3 (fun w' => w'.cell? ⟨w3.heap.size, 0, none⟩ = some (.int .u64 Z) ∧ w'.cell? ⟨w3.heap.size, 1, none⟩ = some (.int .i64 gl) ∧ w'.cell? ⟨w4.heap.size, 0, none⟩ = some (.int .u64 I) ∧ w'.cell? ⟨w4.heap.size, 1, none⟩ = some (.int .i64 gl))
              ((go_split_ands; (repeat' apply And.intro) <;> exact kh))
              ((go_at_call 8; refine (HT.out _ Gb.g).mono ?_; rintro y w9 ⟨rfl, hg_w9⟩; have jb0 : w9.cell? ⟨w3.heap.size, 0, none⟩ = some (.int .u64 Z) := hg_w9.c; have jb1 : w9.cell? ⟨w3.heap.size, 1, none⟩ = some (.int .i64 gl) := hg_w9.c; have jc0 : w9.cell? ⟨w4.heap.size, 0, none⟩ = some (.int .u64 I) := hg_w9.c; have jc1 : w9.cell? ⟨w4.heap.size, 1, none⟩ = some (.int .i64 gl) := hg_w9.c; have hgb9 : Gb w w9 := Gb.g))
            all_goals (try go_split_ands)
            all_goals go_wp2
            all_goals go_returns
            all_goals exact ⟨rfl, Gb.g⟩
end Go.Proofs.YtfakbjgbbcigpaaGreatDoor

/- laws.FnWhole: what its walk calls. -/
set_option linter.unusedVariables false
set_option linter.unusedSimpArgs false
namespace Go.Proofs.YtfakbjgbbcigpaaGreatDoor
open Go.RowKit

set_option maxRecDepth 100000 in
theorem whoClass_any (f v c s x g : Int) (HU : Hid (∀ w, Calls Tryz.prog 44 #[.int .i64 f, .int .u64 v] w fun e w' => e = .returned (.agg #[.int .i64 c, .int .i64 s, .int .i64 x, .int .u64 g]) ∧ Gr w w')) (w : World) : Calls Tryz.prog 12 #[.int .i64 f, .int .u64 v] w fun e w' => e = .returned (.int .i64 c) ∧ Gr w w' := by
  have hf : ∀ w, (Instr.field 89 (.agg #[.int .i64 c, .int .i64 s, .int .i64 x, .int .u64 g]) 0).run Tryz.prog w = .ok (.int .i64 c) w := fun w => by kernel_rfl
  go_enter Tryz.func12, Tryz.ntmps12
  go_wp2_with (go_at_call 44; refine (HU.out _).mono ?_; rintro x w1 ⟨rfl, hg_w1⟩)
  go_returns
  exact ⟨rfl, by first | exact hg_w1 | exact kr⟩

theorem who_class (f v : Int) (v0 : 0 ≤ v) (v1 : v < 18446744073709551616) : ∃ c : Int, (∀ w, Calls Tryz.prog 12 #[.int .i64 f, .int .u64 v] w fun e w' => e = .returned (.int .i64 c) ∧ Gr w w') ∧ (c = 4 ∨ ∃ p mx one inf sg nan x, IsFmt f p mx one inf sg nan ∧ v < 2 * sg ∧ OpdIs p mx one inf sg nan v x ∧ x.c = c) := by
  rcases fit_or f v v0 v1 with ⟨p, mx, one, inf, sg, nan, hF, hv⟩ | hno
  · obtain ⟨x, hx⟩ := opd_ex hF v v0 v1
    exact ⟨x.c, fun w => whoClass_any f v _ _ _ _ (unp_det hF v v0 hv hx) w, .inr ⟨p, mx, one, inf, sg, nan, x, hF, hv, hx, rfl⟩⟩
  · exact ⟨4, fun w => whoClass_any f v 4 0 0 0 (fun w => specUnpack_no f v v0 hno w) w, .inl rfl⟩

theorem CodeRow.gbW {w w' : World} {a : Option Addr} {len : Nat} (h : CodeRow w a len) (g : Gb w w') : CodeRow w' a len := by
  obtain ⟨h1, h2⟩ := h
  refine ⟨h1, ?_⟩
  rcases h2 with e | ⟨b, off, rfl, hc⟩
  · exact .inl e
  · refine .inr ⟨b, off, rfl, fun i hi => ?_⟩
    obtain ⟨z, z0, z1, hz⟩ := hc i hi
    exact ⟨z, z0, z1, g.old hz⟩

theorem and_1 {fl : Int} (h : fl = 0 ∨ fl = 1 ∨ fl = 16) : fl = 1 ∧ bits .and .i64 fl 1 = 1 ∨ fl ≠ 1 ∧ bits .and .i64 fl 1 = 0 := by rcases h with rfl | rfl | rfl <;> decide +kernel
theorem rint_fl {f mode a Z fl : Int} {ex : Bool} (h : RIntIs f mode a ex Z fl) : fl = 0 ∨ fl = 1 ∨ fl = 16 := by
  rcases h with ⟨_, _, _, _, _, _, x, _, _, _, ⟨_, _, rfl⟩ | ⟨_, _, rfl⟩⟩ | ⟨_, _, _, _, _, _, _, _, _, rfl⟩ | ⟨_, _, rfl⟩
  · split <;> simp
  · split
    · rcases wfl_01 x with k | k <;> simp [k]
    · simp
  · simp
  · simp
theorem toInt_fl {f mode kind a Z fl : Int} (h : ToIntIs f mode kind a Z fl) : fl = 0 ∨ fl = 1 ∨ fl = 16 := by
  rcases h with ⟨_, _, _, _, _, _, x, _, _, _, _, _, ⟨_, _, rfl⟩ | ⟨_, _, _, rfl⟩ | ⟨_, _, _, rfl⟩⟩ | ⟨_, _, rfl⟩
  · simp
  · rcases wfl_01 x with k | k <;> simp [k]
  · simp
  · simp

theorem whole_all (f m k a : Int) (a0 : 0 ≤ a) (a1 : a < 18446744073709551616) (w : World) (hw : Fm w) : WhF f m k a w := by
  obtain ⟨Z, fl, hR, SR, IR⟩ := rint_same f m a true a0 a1
  obtain ⟨I, gl, hT, ST, IT⟩ := toInt_same f m k a a0 a1
  obtain ⟨ca, CA, hca⟩ := who_class f a a0 a1
  refine ⟨Z, fl, I, gl, ca, ⟨ST, fun w' hg => IT w' (hw.gb hg), SR, fun w' hg => IR w' (hw.gb hg), CA⟩, ?_⟩
  by_cases h3 : 3 ≤ ca
  · exact .inl (decide_eq_true h3)
  · refine .inr ⟨decide_eq_false h3, ?_⟩
    rcases and_1 (rint_fl hR) with ⟨_, h⟩ | ⟨hne, h⟩
    · exact .inl h
    · rcases hca with q | ⟨p, mx, one, inf, sg, nan, x, hF, hv, hx, rfl⟩
      · exfalso; omega
      · obtain ⟨⟨Z0, Z1⟩, hA, hB⟩ := rint_again a0 a1 hF hx (by omega) hR hne
        refine .inr ⟨h, fun way w' w0 w4 hg => ?_, ?_⟩
        · obtain ⟨Y, yl, hY, _, IY⟩ := rint_same f way Z true Z0 Z1
          obtain ⟨rfl, rfl⟩ := RIntIs.one (hA way w0 w4) hY
          exact IY w' (hw.gb hg)
        · rcases and_1 (toInt_fl hT) with ⟨_, h'⟩ | ⟨hne', h'⟩
          · exact .inl h'
          · obtain ⟨hC, hD⟩ := hB k I gl hT hne'
            refine .inr ⟨h', hD, fun w' hg => ?_⟩
            obtain ⟨Y, yl, hY, _, IY⟩ := toInt_same f m k Z Z0 Z1
            obtain ⟨rfl, rfl⟩ := ToIntIs.one hC hY
            exact IY w' (hw.gb hg)

theorem from_in {f mode kind a Z fl : Int} (h : FromIs f mode kind a Z fl) : 0 ≤ Z ∧ Z < 18446744073709551616 := by
  rcases h with ⟨p, mx, one, inf, sg, nan, hF, hm, _, hp⟩ | ⟨p, mx, one, inf, sg, nan, hF, _, rfl, _⟩ | ⟨_, rfl, _⟩
  · have hb := hF.bounds
    have hs : (intO kind a).s = 0 ∨ (intO kind a).s = 1 := by
      unfold intO
      split
      · exact .inl rfl
      · exact signK_01 kind a
    have hsw : ∀ v, 0 ≤ v → v < sg → 0 ≤ sw (intO kind a).s sg v ∧ sw (intO kind a).s sg v < 18446744073709551616 := by
      intro v k1 k2; unfold sw; split <;> omega
    rcases hp with ⟨_, rfl, _⟩ | ⟨_, z, hr, rfl⟩ | ⟨_, rfl, _⟩ | ⟨_, rfl, _⟩ | ⟨_, rfl, _⟩
    · exact hsw 0 (by omega) (by omega)
    · refine hsw z ?_ ?_
      · obtain ⟨top, E, r, r2, hf, h1, h2, h3, h4, h5, hc⟩ := hr
        have := Int.mul_nonneg (show 0 ≤ one by omega) (show 0 ≤ E - (1 - mx) by omega)
        unfold ovMag at hc
        split at hc <;> omega
      · obtain ⟨top, E, r, r2, hf, h1, h2, h3, h4, h5, hc⟩ := hr
        unfold ovMag at hc
        split at hc <;> omega
    · exact hsw inf (by omega) (by omega)
    · omega
    · omega
  · have hb := hF.bounds; omega
  · omega

theorem lawWhole (a : Option Addr) (len cap : Nat) (w : World) (hC : CodeRow w a len) (hw : Fm w) :
    Calls Tryz.prog 4 #[.slice a len cap] w fun e w' => e = .returned (.bool true) ∧ Gb w w' := by
  refine whole_walk a len cap w hC (fun w' hg => drawToInt_any a len cap w' (CodeRow.gbW hC hg) ?_ ?_ ?_) (fun f m k v v0 v1 => whole_all f m k v v0 v1 w hw)
  · exact fun s k b n c N w hs hN hB => (l5Word_any s hs 20 (by omega) N hN b n c w hB).mono (fun e w' ⟨h1, h2⟩ => ⟨_, (wordK_lt s N hN).1, (wordK_lt s N hN).2, h1, h2⟩)
  · intro f k v w hf v0 v1
    obtain ⟨Z, fl, hF, S, _⟩ := fromInt_same f 2 k v v0 v1
    exact (S w).mono (fun e w' ⟨h1, h2⟩ => ⟨Z, fl, from_in hF, h1, h2⟩)
  · intro f v hf v0 v1
    obtain ⟨p, mx, one, inf, sg, nan, hF⟩ := fmt_of f hf
    obtain ⟨z1, fl1, hA, S1, _⟩ := fromInt_same f 0 1 v (by omega) (by omega)
    obtain ⟨z2, fl2, hB, S2, _⟩ := fromInt_same f 0 1 2 (by omega) (by omega)
    obtain ⟨⟨p0, p1⟩, x, hx, cx⟩ := small_int hF v0 v1 hA
    obtain ⟨⟨q0, q1⟩, y, hy, cy⟩ := small_int hF (by omega) (by omega) hB
    exact ⟨z1, fl1, z2, fl2, S1, S2, fun w => div_some hF p0 q0 hx hy cx cy w⟩
end Go.Proofs.YtfakbjgbbcigpaaGreatDoor
