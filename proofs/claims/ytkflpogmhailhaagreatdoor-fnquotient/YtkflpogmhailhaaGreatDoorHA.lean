/- Quotient and root towards zero: the facts that the law asks. -/
import Derived.Test.YtkflpogmhailhaaGreatDoorH9
import Derived.Test.YtkflpogmhailhaaGreatDoorH6
import Derived.Test.YtkflpogmhailhaaGreatDoorH7
set_option linter.unusedVariables false
set_option linter.unusedSimpArgs false
namespace Go.Proofs.YtkflpogmhailhaaGreatDoor
open Go.RowKit

theorem OpdIs.abs {f p mx one inf sg nan a : Int} {x : Opd} (h : IsFmt f p mx one inf sg nan) (hx : OpdIs p mx one inf sg nan a x) (xc : x.c = 1) (a0 : 0 ≤ a) :
    0 < a % sg ∧ a % sg < inf ∧ a < 2 * sg ∧ OpdIs p mx one inf sg nan (a % sg) ⟨1, 0, x.e, x.M⟩ ∧ one ≤ (x.M : Int) ∧ (x.M : Int) < 2 * one ∧ x.e ≤ mx + 1 - p := by
  have hb := h.bounds
  rcases hx with ⟨hlt, v, hs, hv⟩ | ⟨_, e⟩
  · have hv' : 0 < v ∧ v < inf ∧ NormIs p mx one v x.e (x.M : Int) := by
      rcases hv with ⟨_, c, _⟩ | ⟨_, _, c, _⟩ | ⟨_, c, _⟩ | ⟨_, c, _⟩ | ⟨v0, v1, _, hn⟩
      · omega
      · omega
      · omega
      · omega
      · exact ⟨v0, v1, hn⟩
    obtain ⟨v0, v1, hn⟩ := hv'
    have hm : a % sg = v := by
      rcases hs with ⟨_, e, _⟩ | ⟨_, e, _⟩
      · rw [e]; exact Int.emod_eq_of_lt (by omega) (by omega)
      · rw [show a = v + sg * 1 by omega, Int.add_mul_emod_self_left]; exact Int.emod_eq_of_lt (by omega) (by omega)
    obtain ⟨n1, n2, _, _⟩ := norm_bounds h v0 v1 hn
    refine ⟨by omega, by omega, hlt, .inl ⟨by omega, v, .inl ⟨rfl, by omega, by omega⟩, .inr (.inr (.inr (.inr ⟨v0, v1, rfl, hn⟩)))⟩, n1, n2, ?_⟩
    obtain ⟨k, m, e0, hm', _, he, _⟩ := hn
    rcases h with ⟨_, rfl, rfl, rfl, rfl, rfl, _⟩ | ⟨_, rfl, rfl, rfl, rfl, rfl, _⟩ <;> omega
  · rw [e] at xc; exact absurd xc (by dsimp only; decide)

theorem RoundIs.fl4 {p mn mx one inf mode sign : Int} {M : Nat} {e : Int} {rest : Bool} {z fl : Int} (h : RoundIs p mn mx one inf mode sign M e rest z fl) : fl = 0 ∨ fl = 16 ∨ fl = 20 ∨ fl = 24 := by
  obtain ⟨top, E, r, r2, hf', h1, h2, h3, h4, h5, hc⟩ := h
  rcases hc with ⟨_, _, c⟩ | ⟨_, _, _, c⟩ | ⟨_, _, _, c⟩ <;> omega

theorem inf_is {f p mx one inf sg nan : Int} (h : IsFmt f p mx one inf sg nan) : inf = one * (2 * mx + 1) := by
  rcases h with ⟨_, rfl, rfl, rfl, rfl, _⟩ | ⟨_, rfl, rfl, rfl, rfl, _⟩ <;> decide

theorem sqM_lt {P Pl A : Nat} (hA : A < 2 ^ (P + 1)) (hPl : Pl ≤ P + 10) : sqM Pl A < 2 ^ (P + 7) := by
  obtain ⟨r1, _⟩ := rootN_is (A * 2 ^ Pl)
  have h1 : A * 2 ^ Pl < 2 ^ (P + 6) * 2 ^ (P + 6) := by
    have a1 : A * 2 ^ Pl ≤ A * 2 ^ (P + 10) := Nat.mul_le_mul_left _ (pow2_mono hPl)
    have a2 : A * 2 ^ (P + 10) < 2 ^ (P + 1) * 2 ^ (P + 10) := Nat.mul_lt_mul_of_pos_right hA (Nat.pow_pos (by decide))
    have a3 : 2 ^ (P + 1) * 2 ^ (P + 10) ≤ 2 ^ (P + 6) * 2 ^ (P + 6) := by rw [← Nat.pow_add, ← Nat.pow_add]; exact pow2_mono (by omega)
    omega
  have h2 : rootN (A * 2 ^ Pl) < 2 ^ (P + 6) := by
    rcases Nat.lt_or_ge (rootN (A * 2 ^ Pl)) (2 ^ (P + 6)) with c | c
    · exact c
    · have := Nat.mul_le_mul c c; omega
  unfold sqM
  have := oneIf_le (decide (rootN (A * 2 ^ Pl) * rootN (A * 2 ^ Pl) ≠ A * 2 ^ Pl))
  rw [show P + 7 = P + 6 + 1 by omega, Nat.pow_succ]
  omega

theorem root_small {f p mx one inf sg nan : Int} (h : IsFmt f p mx one inf sg nan) {A : Nat} {xe s z fl : Int} (hA : one ≤ (A : Int)) (hA2 : (A : Int) < 2 * one) (hxe : xe ≤ mx + 1 - p)
    (hr : RoundIs p (1 - mx) mx one inf 2 s (sqM (sqPl p xe) A) ((xe - sqPl p xe) / 2 - 1) false z fl) : fl ≠ 20 ∧ z + 1 < inf := by
  obtain ⟨P, hp, ho, hP⟩ := fmt_pow h
  have hb := h.bounds
  have hpl : sqPl p xe = P + 9 ∨ sqPl p xe = P + 10 := by unfold sqPl; split <;> omega
  have hM := sqM_lt (P := P) (Pl := sqPl p xe) (A := A) (by rw [Nat.pow_succ]; omega) (by omega)
  have hn : nb (sqM (sqPl p xe) A) ≤ P + 7 := by
    rcases Nat.eq_zero_or_pos (sqM (sqPl p xe) A) with c | c
    · rw [c]; have : nb 0 = 0 := rfl; omega
    · have h1 := nb_ge _ c
      rcases Nat.lt_or_ge (P + 7) (nb (sqM (sqPl p xe) A)) with d | d
      · have := pow2_mono (show P + 7 ≤ nb (sqM (sqPl p xe) A) - 1 by omega); omega
      · exact d
  obtain ⟨top, E, r, r2, hf', h1, h2, h3, h4, h5, hc⟩ := hr
  have ht : 2 * top ≤ mx + 1 := by omega
  have hrr : r = cutLo (sqM (sqPl p xe) A) ((xe - sqPl p xe) / 2 - 1) (E - p + 1) := by rw [h4]; unfold chosen; rw [up_zero]; simp
  have hlt := cutLo_lt (sqM (sqPl p xe) A) ((xe - sqPl p xe) / 2 - 1) (E - p + 1) (P + 1) (by omega)
  rw [Nat.pow_succ] at hlt
  have hk : one * (E - (1 - mx)) + 2 * one = one * (E - (1 - mx) + 2) := by rw [Int.mul_add]; omega
  have hk2 : one * (E - (1 - mx) + 2) ≤ one * (2 * mx) := Int.mul_le_mul_of_nonneg_left (by omega) (by omega)
  have hi := inf_is h
  rw [Int.mul_add] at hi
  rcases hc with ⟨c, _⟩ | ⟨_, c, _⟩ | ⟨c1, c2, c3, c4⟩
  · exfalso; omega
  · exfalso; omega
  · exact ⟨by omega, by omega⟩
end Go.Proofs.YtkflpogmhailhaaGreatDoor

/- laws.FnQuotient: what its walk calls. -/
set_option linter.unusedVariables false
set_option linter.unusedSimpArgs false
namespace Go.Proofs.YtkflpogmhailhaaGreatDoor
open Go.RowKit

/-- A word's class, as the model says it. -/
theorem class_at (f v : Int) (v0 : 0 ≤ v) (v1 : v < 18446744073709551616) : ∃ c : Int, (∀ w, Calls Tryz.prog 10 #[.int .i64 f, .int .u64 v] w fun e w' => e = .returned (.int .i64 c) ∧ Gr w w') ∧ (c = 4 ∨ ∃ p mx one inf sg nan x, IsFmt f p mx one inf sg nan ∧ v < 2 * sg ∧ OpdIs p mx one inf sg nan v x ∧ x.c = c) := by
  rcases fit_or f v v0 v1 with ⟨p, mx, one, inf, sg, nan, hF, hv⟩ | hno
  · obtain ⟨x, hx⟩ := opd_ex hF v v0 v1
    exact ⟨x.c, fun w => wClass_any f v _ _ _ _ (unp_det hF v v0 hv hx) w, .inr ⟨p, mx, one, inf, sg, nan, x, hF, hv, hx, rfl⟩⟩
  · exact ⟨4, fun w => wClass_any f v 4 0 0 0 (fun w => specUnpack_no f v v0 hno w) w, .inl rfl⟩

/-- Div, Sqrt and the root's bounds. -/
structure QuB (f a b Z fl a' b' Zs fs r3 : Int) (w : World) : Prop where
  sdv : ∀ w', Calls Tryz.prog 29 #[.int .i64 f, .int .i64 2, .int .u64 a, .int .u64 b] w' fun e w'' => e = .returned (.agg #[.int .u64 Z, .int .i64 fl]) ∧ Gb w' w''
  idv : ∀ w', Gb w w' → Calls Tryz.prog 30 #[.int .i64 f, .int .i64 2, .int .u64 a, .int .u64 b] w' fun e w'' => e = .returned (.agg #[.int .u64 Z, .int .i64 fl]) ∧ Gr w' w''
  sza : ∀ w', Calls Tryz.prog 11 #[.int .i64 f, .int .u64 a] w' fun e w'' => e = .returned (.int .u64 a') ∧ w' = w''
  szb : ∀ w', Calls Tryz.prog 11 #[.int .i64 f, .int .u64 b] w' fun e w'' => e = .returned (.int .u64 b') ∧ w' = w''
  ssq : ∀ w', Calls Tryz.prog 34 #[.int .i64 f, .int .i64 2, .int .u64 a'] w' fun e w'' => e = .returned (.agg #[.int .u64 Zs, .int .i64 fs]) ∧ Gb w' w''
  isq : ∀ w', Gb w w' → Calls Tryz.prog 33 #[.int .i64 f, .int .i64 2, .int .u64 a'] w' fun e w'' => e = .returned (.agg #[.int .u64 Zs, .int .i64 fs]) ∧ Gr w' w''
  nxs : ∀ w', Gb w w' → Calls Tryz.prog 31 #[.int .i64 f, .int .u64 Zs] w' fun e w'' => e = .returned (.int .u64 (Zs + 1)) ∧ Gr w' w''
  ab3 : ∀ w', Gb w w' → Calls Tryz.prog 32 #[.int .i64 f, .int .u64 Zs, .int .u64 Zs, .int .u64 a'] w' fun e w'' => e = .returned (.int .i64 r3) ∧ Gr w' w''
  ab4 : ∀ w', Gb w w' → Calls Tryz.prog 32 #[.int .i64 f, .int .u64 (Zs + 1), .int .u64 (Zs + 1), .int .u64 a'] w' fun e w'' => e = .returned (.int .i64 1) ∧ Gr w' w''
  r3 : r3 ≤ 0

/-- The quotient's bounds. -/
structure QuC (f Z q a' b' r1 : Int) (t : Bool) (w : World) : Prop where
  szq : ∀ w', Calls Tryz.prog 11 #[.int .i64 f, .int .u64 Z] w' fun e w'' => e = .returned (.int .u64 q) ∧ w' = w''
  nxq : ∀ w', Gb w w' → Calls Tryz.prog 31 #[.int .i64 f, .int .u64 q] w' fun e w'' => e = .returned (.int .u64 (q + 1)) ∧ Gr w' w''
  ab1 : ∀ w', Gb w w' → Calls Tryz.prog 32 #[.int .i64 f, .int .u64 q, .int .u64 b', .int .u64 a'] w' fun e w'' => e = .returned (.int .i64 r1) ∧ Gr w' w''
  rel : ∀ w', Calls Tryz.prog 22 #[.int .i64 f, .int .u64 (q + 1)] w' fun e w'' => e = .returned (.bool t) ∧ Gr w' w''
  ab2 : t = true → ∀ w', Gb w w' → Calls Tryz.prog 32 #[.int .i64 f, .int .u64 (q + 1), .int .u64 b', .int .u64 a'] w' fun e w'' => e = .returned (.int .i64 1) ∧ Gr w' w''
  r1 : r1 ≤ 0

theorem PackD.num {p mn mx one inf sg nan mode : Int} {o : Opd} {Z fl : Int} (h : PackD p mn mx one inf sg nan mode o Z fl) (c : o.c = 1) : ∃ z, RoundIs p mn mx one inf mode o.s o.M o.e false z fl ∧ Z = sw o.s sg z := by
  rcases h with (⟨d, _⟩ | ⟨_, h⟩ | ⟨d, _⟩ | ⟨d, _⟩ | ⟨d, _⟩) | ⟨d, _⟩
  · omega
  · exact h
  · omega
  · omega
  · omega
  · omega

theorem OpRD.at {R : Int → Int → Opd → Opd → Opd} {f mode a b Z fl p mx one inf sg nan : Int} {x y : Opd} (h : OpRD R f mode a b Z fl) (hF : IsFmt f p mx one inf sg nan) (hm : 0 ≤ mode ∧ mode ≤ 4) (hx : OpdIs p mx one inf sg nan a x) (hy : OpdIs p mx one inf sg nan b y) : PackD p (1 - mx) mx one inf sg nan mode (R p mode x y) Z fl := by
  rcases h with ⟨p', mx', one', inf', sg', nan', x', y', hF', _, hx', hy', hp⟩ | ⟨_, _, _, _, _, _, _, c, _⟩ | ⟨c, _⟩
  · obtain ⟨rfl, rfl, rfl, rfl, rfl, rfl⟩ := hF.one hF'
    obtain rfl := hx.one hF hx'
    obtain rfl := hy.one hF hy'
    exact hp
  · exfalso; omega
  · exact absurd hF.yes.symm (by simp [c])

/-- Whether q and the next word stand below and above. -/
theorem bounds_call {f p mx one inf sg nan : Int} (h : IsFmt f p mx one inf sg nan) {w : World} (hw : Fm w) (z a' b' : Int) (b0 : 0 < b') (b1 : b' < inf) (a0 : 0 < a') (a1 : a' < inf) {y x : Opd} (hy : OpdIs p mx one inf sg nan b' y) (hx : OpdIs p mx one inf sg nan a' x) (yc : y.c = 1) (xc : x.c = 1)
    (l : Nat) (E : Int) (hE : 1 - mx ≤ E) (hl : (l : Int) < 2 * one) (hb : E = 1 - mx ∨ one ≤ (l : Int)) (hz : z = (l : Int) + one * (E - (1 - mx))) (zi : z < inf)
    (lo : nv l (E - p + 1) * nv y.M y.e ≤ nv x.M x.e * 2 ^ nvN) (hi : nv x.M x.e * 2 ^ nvN < nv (l + 1) (E - p + 1) * nv y.M y.e) :
    (∃ r : Int, r ≤ 0 ∧ ∀ w', Gb w w' → Calls Tryz.prog 32 #[.int .i64 f, .int .u64 z, .int .u64 b', .int .u64 a'] w' fun e w'' => e = .returned (.int .i64 r) ∧ Gr w' w'') ∧
      (z + 1 < inf → ∀ w', Gb w w' → Calls Tryz.prog 32 #[.int .i64 f, .int .u64 (z + 1), .int .u64 b', .int .u64 a'] w' fun e w'' => e = .returned (.int .i64 1) ∧ Gr w' w'') := by
  have hB := h.bounds
  have hk0 : 0 ≤ one * (E - (1 - mx)) := Int.mul_nonneg (by omega) (by omega)
  obtain ⟨u, hu⟩ := opd_ex h z (by omega) (by omega)
  obtain ⟨us, uc, un⟩ := opd_nv h hu l E hE (by omega) hb hz zi
  obtain ⟨r, _, r2, _, _, H⟩ := above_call h z b' a' (by omega) zi b0 b1 a0 a1 hu hy hx uc yc xc
  refine ⟨⟨r, r2 (by rw [un]; exact lo), fun w' hg => H.out w' (hw.gb hg)⟩, fun z1 => ?_⟩
  obtain ⟨u', hu'⟩ := opd_ex h (z + 1) (by omega) (by omega)
  obtain ⟨us', uc', un'⟩ := opd_nv h hu' (l + 1) E hE (by omega) (by omega) (by rw [hz]; omega) z1
  obtain ⟨r', r1', _, _, _, H'⟩ := above_call h (z + 1) b' a' (by omega) z1 b0 b1 a0 a1 hu' hy hx uc' yc xc
  have := r1' (by rw [un']; exact hi)
  subst this
  exact fun w' hg => H'.out w' (hw.gb hg)

theorem opd_c1 {f p mx one inf sg nan v : Int} {u : Opd} (h : IsFmt f p mx one inf sg nan) (hu : OpdIs p mx one inf sg nan v u) (v0 : 0 < v) (v1 : v ≤ inf) : u.c = if v = inf then 2 else 1 := by
  have hb := h.bounds
  rcases hu with ⟨_, v', hs, hv⟩ | ⟨c, _⟩
  · have hv' : v' = v := by omega
    subst hv'
    split <;> rcases hv with ⟨_, c, _⟩ | ⟨_, _, c, _⟩ | ⟨_, c, _⟩ | ⟨_, c, _⟩ | ⟨_, _, c, _⟩ <;> omega
  · exfalso; omega

theorem opd_low {f p mx one inf sg nan a : Int} {x : Opd} (h : IsFmt f p mx one inf sg nan) (hx : OpdIs p mx one inf sg nan a x) (xc : x.c = 1) : 2 - mx - p - 60 ≤ x.e := by
  have hb := h.bounds
  obtain ⟨P, hp, ho, hP⟩ := fmt_pow h
  rcases hx with ⟨hlt, v, hs, hv⟩ | ⟨_, e⟩
  · rcases hv with ⟨_, c, _⟩ | ⟨_, _, c, _⟩ | ⟨_, c, _⟩ | ⟨_, c, _⟩ | ⟨v0, v1, _, hn⟩
    · omega
    · omega
    · omega
    · omega
    · obtain ⟨k, m, e0, hm, hg, he, g1, g2⟩ := hn
      have m1 : 1 ≤ m := by
        rcases hm with ⟨_, rfl, _⟩ | ⟨_, rfl, _⟩
        · omega
        · have := Int.emod_nonneg v (show one ≠ 0 by omega); omega
      have e1 : 2 - mx - p ≤ e0 := by
        rcases hm with ⟨_, _, r⟩ | ⟨c, _, r⟩
        · omega
        · have : 1 ≤ v / one := by rw [Int.le_ediv_iff_mul_le (by omega)]; omega
          omega
      have hk : k ≤ 60 := by
        rcases Nat.lt_or_ge 60 k with c | c
        · exfalso
          have h1 := pow2_mono (show 61 ≤ k by omega)
          have h2 : (2 : Int) ^ k ≤ m * 2 ^ k := by
            have := Int.mul_le_mul_of_nonneg_right m1 (show (0 : Int) ≤ 2 ^ k from Int.le_of_lt (Int.pow_pos (by decide)))
            omega
          have h3 : ((2 ^ k : Nat) : Int) = (2 : Int) ^ k := by rw [Int.natCast_pow]; rfl
          omega
        · exact c
      omega
  · rw [e] at xc; exact absurd xc (by dsimp only; decide)

theorem root_top {f p mx one inf sg nan : Int} (h : IsFmt f p mx one inf sg nan) {A : Nat} {xe s z fl : Int} (hA : one ≤ (A : Int)) (hxe : 2 - mx - p - 60 ≤ xe)
    (hr : RoundIs p (1 - mx) mx one inf 2 s (sqM (sqPl p xe) A) ((xe - sqPl p xe) / 2 - 1) false z fl) : 0 < z := by
  obtain ⟨P, hp, ho, hP⟩ := fmt_pow h
  have hb := h.bounds
  have hpl : sqPl p xe = P + 9 ∨ sqPl p xe = P + 10 := by unfold sqPl; split <;> omega
  obtain ⟨r1, r2⟩ := rootN_is (A * 2 ^ sqPl p xe)
  have hA3 : 2 ^ P ≤ A := by omega
  have hbig : 2 ^ (P + 4) * 2 ^ (P + 4) ≤ A * 2 ^ sqPl p xe := by
    rw [← Nat.pow_add, show P + 4 + (P + 4) = P + (P + 8) by omega, Nat.pow_add]
    exact Nat.mul_le_mul hA3 (pow2_mono (by omega))
  have hR : 2 ^ (P + 4) ≤ rootN (A * 2 ^ sqPl p xe) := by
    rcases Nat.lt_or_ge (rootN (A * 2 ^ sqPl p xe)) (2 ^ (P + 4)) with c | c
    · exfalso
      have := Nat.mul_le_mul (show rootN (A * 2 ^ sqPl p xe) + 1 ≤ 2 ^ (P + 4) from c) (show rootN (A * 2 ^ sqPl p xe) + 1 ≤ 2 ^ (P + 4) from c)
      omega
    · exact c
  have hM : 2 ^ (P + 5) ≤ sqM (sqPl p xe) A := by unfold sqM; rw [Nat.pow_succ]; omega
  have hn := pow_le_nb hM
  have hM0 : 0 < sqM (sqPl p xe) A := Nat.lt_of_lt_of_le (Nat.pow_pos (by decide)) hM
  obtain ⟨top, E, r, r2', hf', h1, h2, h3, h4, h5, hc⟩ := hr
  have hov : 0 < ovMag inf 2 s := by unfold ovMag; split <;> omega
  have ht : 1 - mx ≤ top := by
    rcases h with ⟨_, rfl, rfl, _⟩ | ⟨_, rfl, rfl, _⟩ <;> omega
  have hE : E = top := by omega
  have hrr : r = cutLo (sqM (sqPl p xe) A) ((xe - sqPl p xe) / 2 - 1) (E - p + 1) := by rw [h4]; unfold chosen; rw [up_zero]; simp
  have hge := cutLo_ge (sqM (sqPl p xe) A) ((xe - sqPl p xe) / 2 - 1) (E - p + 1) P hM0 (by omega)
  have hk0 : 0 ≤ one * (E - (1 - mx)) := Int.mul_nonneg (by omega) (by omega)
  rcases hc with ⟨_, c, _⟩ | ⟨_, _, c, _⟩ | ⟨c1, c2, c3, c4⟩ <;> omega

theorem sw_mod {sg z s : Int} (hs : s = 0 ∨ s = 1) (z0 : 0 ≤ z) (z1 : z < sg) : 0 ≤ sw s sg z ∧ sw s sg z % sg = z := by
  unfold sw
  split
  · refine ⟨by omega, ?_⟩
    rw [show z + sg = z + sg * 1 by omega, Int.add_mul_emod_self_left]
    exact Int.emod_eq_of_lt z0 z1
  · exact ⟨z0, Int.emod_eq_of_lt z0 z1⟩

theorem quo_facts {f p mx one inf sg nan : Int} (h : IsFmt f p mx one inf sg nan) (a b : Int) (a0 : 0 ≤ a) (b0 : 0 ≤ b) {x y : Opd} (hx : OpdIs p mx one inf sg nan a x) (hy : OpdIs p mx one inf sg nan b y) (xc : x.c = 1) (yc : y.c = 1) (w : World) (hw : Fm w) :
    ∃ Z fl a' b' Zs fs r3, QuB f a b Z fl a' b' Zs fs r3 w ∧ (fl = 20 ∨ fl = 24 ∨ (fl = 0 ∨ fl = 16) ∧ ∃ q r1 t, QuC f Z q a' b' r1 t w) := by
  have hB := h.bounds
  have hmz := mz_is h
  obtain ⟨p1, p2, p3, hxa, p4, p5, p6⟩ := hx.abs h xc a0
  obtain ⟨q1, q2, q3, hyb, q4, q5, q6⟩ := hy.abs h yc b0
  obtain ⟨v1, v2, v3, v4, v5, v6⟩ := opd_vo h hx
  obtain ⟨u1, u2, u3, u4, u5, u6⟩ := opd_vo h hy
  obtain ⟨Z, fl, hR, hs, hi⟩ := div_same f 2 a b a0 (by omega) b0 (by omega)
  obtain ⟨Zs, fs, hRs, hss, his⟩ := sqrt_same f 2 (a % sg) (by omega) (by omega)
  have hd := hR.at h ⟨by omega, by omega⟩ hx hy
  have hdo : divO p 2 x y = ⟨1, mulS x.s y.s, x.e - y.e - (p + 4) - 1, quoM p.toNat x.M y.M⟩ := by
    unfold divO
    rw [if_neg (by omega), if_neg (by omega), if_neg (by omega), if_neg (by omega), if_pos ⟨xc, yc⟩]
  rw [hdo] at hd
  obtain ⟨z, hz, hZ⟩ := hd.num rfl
  have hq := hRs.at h ⟨by omega, by omega⟩ hxa hxa
  have hso : sqrtO p 2 (⟨1, 0, x.e, x.M⟩ : Opd) ⟨1, 0, x.e, x.M⟩ = ⟨1, 0, (x.e - sqPl p x.e) / 2 - 1, sqM (sqPl p x.e) x.M⟩ := by
    unfold sqrtO
    dsimp only
    rw [if_neg (by decide), if_neg (by decide), if_neg (by decide), if_neg (by decide)]
  rw [hso] at hq
  obtain ⟨zs, hzs, hZs⟩ := hq.num rfl
  dsimp only at hz hZ hzs hZs
  have hZs' : Zs = zs := by rw [hZs]; rfl
  subst hZs'
  obtain ⟨g1, g2⟩ := root_small h p4 p5 p6 hzs
  have zs0 := hzs.nonneg (by omega) (by omega)
  obtain ⟨l, E, e1, e2, e3, e4, e5, e6, e7, e8⟩ := root_between h p4 p5 (by omega) (by omega) hzs g1
  have hk0 : 0 ≤ one * (E - (1 - mx)) := Int.mul_nonneg (by omega) (by omega)
  have hpl : sqPl p x.e = p.toNat + 8 ∨ sqPl p x.e = p.toNat + 9 := by unfold sqPl; split <;> omega
  have zpos : 0 < Zs := by
    have hlow := opd_low h hx xc
    have := root_top h p4 hlow hzs
    omega
  obtain ⟨us, hus⟩ := opd_ex h Zs zs0 (by omega)
  obtain ⟨s1, s2, s3⟩ := opd_nv h hus l E e1 (by omega) e3 e4 e5
  obtain ⟨ut, hut⟩ := opd_ex h (Zs + 1) (by omega) (by omega)
  obtain ⟨t1, t2, t3⟩ := opd_nv h hut (l + 1) E e1 (by omega) (by omega) (by omega) g2
  have usc := opd_c1 h hus zpos (by omega)
  rw [if_neg (by omega)] at usc
  have utc := opd_c1 h hut (by omega) (by omega)
  rw [if_neg (by omega)] at utc
  obtain ⟨r3, _, r3b, _, _, H3⟩ := above_call h Zs Zs (a % sg) zs0 e5 zpos e5 p1 p2 hus hus hxa (.inr usc) usc rfl
  obtain ⟨r4, r4a, _, _, _, H4⟩ := above_call h (Zs + 1) (Zs + 1) (a % sg) (by omega) g2 (by omega) g2 p1 p2 hut hut hxa (.inr utc) utc rfl
  have h3 := r3b (by rw [s3]; exact e7)
  have h4 := r4a (by rw [t3]; exact e8)
  subst h4
  have hsz : ∀ v : Int, 0 ≤ v → ∀ w', Calls Tryz.prog 11 #[.int .i64 f, .int .u64 v] w' fun e w'' => e = .returned (.int .u64 (v % sg)) ∧ w' = w'' := fun v v0 w' => by
    have := wSize_any f v v0 w'
    rw [hmz] at this; exact this
  refine ⟨Z, fl, a % sg, b % sg, Zs, fs, r3, ⟨hs, fun w' hg => hi w' (hw.gb hg), hsz a a0, hsz b b0, hss, fun w' hg => his w' (hw.gb hg), fun w' hg => implNext_low h Zs zs0 e5 (hw.gb hg), fun w' hg => H3.out w' (hw.gb hg), fun w' hg => H4.out w' (hw.gb hg), h3⟩, ?_⟩
  have hfl := hz.fl4
  rcases (show fl = 20 ∨ fl = 24 ∨ (fl = 0 ∨ fl = 16) by omega) with c | c | c
  · exact .inl c
  · exact .inr (.inl c)
  · refine .inr (.inr ⟨c, ?_⟩)
    obtain ⟨l', E', k1, k2, k3, k4, k5, k6, k7, k8⟩ := quo_between h p4 p5 q4 q5 (by omega) (by omega) (by omega) (by omega) hz (by omega)
    have z0 := hz.nonneg (by omega) (by omega)
    have hms : mulS x.s y.s = 0 ∨ mulS x.s y.s = 1 := by unfold mulS; split <;> simp
    obtain ⟨Z0, Zm⟩ := sw_mod hms z0 (show z < sg by omega)
    rw [← hZ] at Z0 Zm
    obtain ⟨⟨r1, r1a, H1⟩, H2⟩ := bounds_call h hw z (a % sg) (b % sg) q1 q2 p1 p2 hyb hxa rfl rfl l' E' k1 k2 k3 k4 k5 k7 k8
    obtain ⟨un, hun⟩ := opd_ex h (z + 1) (by omega) (by omega)
    have unc := opd_c1 h hun (by omega) (by omega)
    refine ⟨z, r1, decide (un.c ≤ 1), ⟨fun w' => by have := hsz Z Z0 w'; rw [Zm] at this; exact this, fun w' hg => implNext_low h z z0 k5 (hw.gb hg), H1, fun w' => wReal_any f (z + 1) un.c _ rfl (fun w => wClass_any f (z + 1) _ _ _ _ (unp_det h (z + 1) (by omega) (by omega) hun) w) w', fun ht => H2 ?_, r1a⟩⟩
    have ht' := of_decide_eq_true ht
    by_cases ci : z + 1 = inf
    · rw [if_pos ci] at unc; exfalso; omega
    · omega
end Go.Proofs.YtkflpogmhailhaaGreatDoor
