/- impl.total, impl.sum, impl.difference: what they give stands for the exact sum. -/
import Derived.Test.YtpfmfbadeebeeabGreatDoorL3J
import Derived.Test.YtpfmfbadeebeeabGreatDoorRPRdW
import Derived.Test.YtpfmfbadeebeeabGreatDoorB2
import Derived.Test.YtpfmfbadeebeeabGreatDoorL3P
import Derived.Test.YtpfmfbadeebeeabGreatDoorL3V
set_option linter.unusedVariables false
set_option linter.unusedSimpArgs false
namespace Go.Proofs.YtpfmfbadeebeeabGreatDoor
open Go.RowKit

/-- An operand as it comes of a word, or of a product of two. -/
structure VO (x : Opd) : Prop where
  c0 : 0 ≤ x.c
  c4 : x.c ≤ 4
  s01 : x.s = 0 ∨ x.s = 1
  fin : x.c = 1 → 0 < x.M ∧ nb x.M ≤ 106
  nil : x.c ≠ 1 → x.M = 0
  e0 : -5000 ≤ x.e
  e1 : x.e ≤ 5000

theorem pow2_lt (M : Nat) (h : nb M ≤ 106) : M < 340282366920938463463374607431768211456 := by
  have h1 := nb_lt M
  have h2 := pow2_mono (show nb M ≤ 128 by omega)
  have h3 : (2 : Nat) ^ 128 = 340282366920938463463374607431768211456 := by decide
  omega
theorem words_nz (R : Nat) (h : 0 < R) : (((R / 18446744073709551616 : Nat) : Int) == 0 && ((R % 18446744073709551616 : Nat) : Int) == 0) = false := by
  rw [Bool.and_eq_false_iff]
  by_cases c : R / 18446744073709551616 = 0
  · right; simp; omega
  · left; simp; omega
theorem add1W (Q : Nat) (h : Q + 1 < 340282366920938463463374607431768211456) (w : World) :
    Calls Tryz.prog 83 #[.agg #[.int .u64 ((Q / 18446744073709551616 : Nat) : Int), .int .u64 ((Q % 18446744073709551616 : Nat) : Int)], .agg #[.int .u64 0, .int .u64 1]] w fun e w' => ∃ b, e = .returned (.tuple #[.agg #[.int .u64 (((Q + 1) / 18446744073709551616 : Nat) : Int), .int .u64 (((Q + 1) % 18446744073709551616 : Nat) : Int)], .bool b]) ∧ Gr w w' := by
  have := addW Q 1 (by omega) (by omega) h w
  rw [show ((1 / 18446744073709551616 : Nat) : Int) = 0 from rfl, show ((1 % 18446744073709551616 : Nat) : Int) = 1 from rfl] at this
  exact this

theorem nil_same (md : Int) : Same (nilO md) 0 (if md = 4 then 1 else 0) 0 0 false := ⟨rfl, fun _ => rfl, fun h => by cases h⟩

/-- The greater and the lesser one, in the order that lessThan found. -/
theorem total_half (p mn mx md : Int) (k : Nat) (x y g l : Opd) (hx : VO x) (hy : VO y) (cx : x.c = 1) (cy : y.c = 1) (b : Bool)
    (hb : b = decide (x.e - (127 - nb x.M : Nat) < y.e - (127 - nb y.M : Nat) ∨ x.e - (127 - nb x.M : Nat) = y.e - (127 - nb y.M : Nat) ∧ x.M * 2 ^ (127 - nb x.M) < y.M * 2 ^ (127 - nb y.M)))
    (hgl : b = false ∧ g = x ∧ l = y ∨ b = true ∧ g = y ∧ l = x) (w : World) :
    Calls Tryz.prog 57 #[.agg #[.int .i64 p, .int .i64 mn, .int .i64 mx, .int .i64 md, .func (.func k) #[] #[]], .agg #[.int .i64 x.s, .int .i64 x.e, .int .i64 1, .int .u64 (((x.M / 18446744073709551616 : Nat) : Int)), .int .u64 (((x.M % 18446744073709551616 : Nat) : Int)), .bool false], .agg #[.int .i64 y.s, .int .i64 y.e, .int .i64 1, .int .u64 (((y.M / 18446744073709551616 : Nat) : Int)), .int .u64 (((y.M % 18446744073709551616 : Nat) : Int)), .bool false]] w fun r w' => ∃ (c s e : Int) (M : Nat) (st : Bool), Same (totO md g l) c s e M st ∧ r = .returned (.agg #[.int .i64 s, .int .i64 e, .int .i64 c, .int .u64 (((M / 18446744073709551616 : Nat) : Int)), .int .u64 (((M % 18446744073709551616 : Nat) : Int)), .bool st]) ∧ Gr w w' := by
  obtain ⟨fx0, fxn⟩ := hx.fin cx
  obtain ⟨fy0, fyn⟩ := hy.fin cy
  have hxe0 := hx.e0
  have hxe1 := hx.e1
  have hye0 := hy.e0
  have hye1 := hy.e1
  have HLx : Hid (∀ w, Calls Tryz.prog 80 #[.agg #[.int .i64 x.s, .int .i64 x.e, .int .i64 1, .int .u64 (((x.M / 18446744073709551616 : Nat) : Int)), .int .u64 (((x.M % 18446744073709551616 : Nat) : Int)), .bool false]] w fun r w' => r = .returned (.agg #[.int .i64 x.s, .int .i64 (x.e - (127 - nb x.M : Nat)), .int .i64 1, .int .u64 (((x.M * 2 ^ (127 - nb x.M) / 18446744073709551616 : Nat) : Int)), .int .u64 (((x.M * 2 ^ (127 - nb x.M) % 18446744073709551616 : Nat) : Int)), .bool false]) ∧ Gr w w') := fun w => lifted_any x.s x.e 1 x.M false fx0 fxn (by omega) (by omega) w
  have HLy : Hid (∀ w, Calls Tryz.prog 80 #[.agg #[.int .i64 y.s, .int .i64 y.e, .int .i64 1, .int .u64 (((y.M / 18446744073709551616 : Nat) : Int)), .int .u64 (((y.M % 18446744073709551616 : Nat) : Int)), .bool false]] w fun r w' => r = .returned (.agg #[.int .i64 y.s, .int .i64 (y.e - (127 - nb y.M : Nat)), .int .i64 1, .int .u64 (((y.M * 2 ^ (127 - nb y.M) / 18446744073709551616 : Nat) : Int)), .int .u64 (((y.M * 2 ^ (127 - nb y.M) % 18446744073709551616 : Nat) : Int)), .bool false]) ∧ Gr w w') := fun w => lifted_any y.s y.e 1 y.M false fy0 fyn (by omega) (by omega) w
  obtain ⟨bx1, bx2⟩ := lift_bounds x.M fx0 fxn
  obtain ⟨by1, by2⟩ := lift_bounds y.M fy0 fyn
  have HLt : Hid (∀ w, Calls Tryz.prog 81 #[.agg #[.int .i64 x.s, .int .i64 (x.e - (127 - nb x.M : Nat)), .int .i64 1, .int .u64 (((x.M * 2 ^ (127 - nb x.M) / 18446744073709551616 : Nat) : Int)), .int .u64 (((x.M * 2 ^ (127 - nb x.M) % 18446744073709551616 : Nat) : Int)), .bool false], .agg #[.int .i64 y.s, .int .i64 (y.e - (127 - nb y.M : Nat)), .int .i64 1, .int .u64 (((y.M * 2 ^ (127 - nb y.M) / 18446744073709551616 : Nat) : Int)), .int .u64 (((y.M * 2 ^ (127 - nb y.M) % 18446744073709551616 : Nat) : Int)), .bool false]] w fun r w' => r = .returned (.bool b) ∧ Gr w w') := fun w => lessThan_any x.s _ 1 y.s _ 1 _ _ false false b (by omega) (by omega) hb w
  have hg0 : 0 < g.M ∧ nb g.M ≤ 106 ∧ -5000 ≤ g.e ∧ g.e ≤ 5000 := by rcases hgl with ⟨_, rfl, rfl⟩ | ⟨_, rfl, rfl⟩ <;> exact ⟨by assumption, by assumption, by assumption, by assumption⟩
  have hl0 : 0 < l.M ∧ nb l.M ≤ 106 ∧ -5000 ≤ l.e ∧ l.e ≤ 5000 := by rcases hgl with ⟨_, rfl, rfl⟩ | ⟨_, rfl, rfl⟩ <;> exact ⟨by assumption, by assumption, by assumption, by assumption⟩
  obtain ⟨g0, gn, ge0, ge1⟩ := hg0
  obtain ⟨l0, ln, le0, le1⟩ := hl0
  obtain ⟨bg1, bg2⟩ := lift_bounds g.M g0 gn
  obtain ⟨bl1, bl2⟩ := lift_bounds l.M l0 ln
  -- the order
  have hord : l.e - (127 - nb l.M : Nat) ≤ g.e - (127 - nb g.M : Nat) ∧ (l.e - (127 - nb l.M : Nat) = g.e - (127 - nb g.M : Nat) → l.M * 2 ^ (127 - nb l.M) ≤ g.M * 2 ^ (127 - nb g.M)) := by
    rcases hgl with ⟨rfl, rfl, rfl⟩ | ⟨rfl, rfl, rfl⟩
    · have := of_decide_eq_false hb.symm
      refine ⟨by omega, fun e => ?_⟩
      omega
    · have := of_decide_eq_true hb.symm
      refine ⟨by omega, fun e => ?_⟩
      omega
  obtain ⟨d, hd⟩ : ∃ d : Nat, (d : Int) = (g.e - (127 - nb g.M : Nat)) - (l.e - (127 - nb l.M : Nat)) := ⟨((g.e - (127 - nb g.M : Nat)) - (l.e - (127 - nb l.M : Nat))).toNat, by omega⟩
  obtain ⟨T1, T2, T3⟩ := tot_same md g l _ _ d _ _ g0 gn l0 ln rfl rfl rfl rfl hd (fun h0 => hord.2 (by omega)) ⟨by omega, by omega⟩
  have hsw : ∀ gs ga Gh Gl ls la Lh Ll : Int, gs = g.s → ga = g.e - (127 - nb g.M : Nat) → Gh = ((g.M * 2 ^ (127 - nb g.M) / 18446744073709551616 : Nat) : Int) → Gl = ((g.M * 2 ^ (127 - nb g.M) % 18446744073709551616 : Nat) : Int) → ls = l.s → la = l.e - (127 - nb l.M : Nat) → Lh = ((l.M * 2 ^ (127 - nb l.M) / 18446744073709551616 : Nat) : Int) → Ll = ((l.M * 2 ^ (127 - nb l.M) % 18446744073709551616 : Nat) : Int) →
      (b = false ∧ x.s = gs ∧ x.e - (127 - nb x.M : Nat) = ga ∧ ((x.M * 2 ^ (127 - nb x.M) / 18446744073709551616 : Nat) : Int) = Gh ∧ ((x.M * 2 ^ (127 - nb x.M) % 18446744073709551616 : Nat) : Int) = Gl ∧ y.s = ls ∧ y.e - (127 - nb y.M : Nat) = la ∧ ((y.M * 2 ^ (127 - nb y.M) / 18446744073709551616 : Nat) : Int) = Lh ∧ ((y.M * 2 ^ (127 - nb y.M) % 18446744073709551616 : Nat) : Int) = Ll) ∨
      (b = true ∧ y.s = gs ∧ y.e - (127 - nb y.M : Nat) = ga ∧ ((y.M * 2 ^ (127 - nb y.M) / 18446744073709551616 : Nat) : Int) = Gh ∧ ((y.M * 2 ^ (127 - nb y.M) % 18446744073709551616 : Nat) : Int) = Gl ∧ x.s = ls ∧ x.e - (127 - nb x.M : Nat) = la ∧ ((x.M * 2 ^ (127 - nb x.M) / 18446744073709551616 : Nat) : Int) = Lh ∧ ((x.M * 2 ^ (127 - nb x.M) % 18446744073709551616 : Nat) : Int) = Ll) := by
    rintro gs ga Gh Gl ls la Lh Ll rfl rfl rfl rfl rfl rfl rfl rfl
    rcases hgl with ⟨rfl, rfl, rfl⟩ | ⟨rfl, rfl, rfl⟩
    · exact .inl ⟨rfl, rfl, rfl, rfl, rfl, rfl, rfl, rfl, rfl⟩
    · exact .inr ⟨rfl, rfl, rfl, rfl, rfl, rfl, rfl, rfl, rfl⟩
  have hsw' := hsw _ _ _ _ _ _ _ _ rfl rfl rfl rfl rfl rfl rfl rfl
  have hdz : IntKind.i64.wrap ((g.e - (127 - nb g.M : Nat)) - (l.e - (127 - nb l.M : Nat))) = (d : Int) := by rw [← hd, IntKind.wrap_i64]; omega
  have HSr := fun w => shrM (l.M * 2 ^ (127 - nb l.M)) (by omega) d w
  clear hsw hord
  obtain ⟨A, hA⟩ : ∃ A, g.M * 2 ^ (127 - nb g.M) = A := ⟨_, rfl⟩
  obtain ⟨B, hB⟩ : ∃ B, l.M * 2 ^ (127 - nb l.M) = B := ⟨_, rfl⟩
  rw [hA] at T1 T2 T3 bg1 bg2
  rw [hB] at T1 T2 T3 bl1 bl2
  rw [hA, hB] at hsw'
  rw [hB] at HSr
  have hQ : B / 2 ^ d ≤ B := Nat.div_le_self _ _
  by_cases hs : g.s = l.s
  · obtain ⟨t1, t2⟩ := T1 hs
    refine (total_core p mn mx md k _ _ _ _ _ _ _ _ _ _ _ _ _ _ b _ _ _ _ _ _ _ _ d _ _ g.s (g.e - (127 - nb g.M : Nat)) 1 (((A + B / 2 ^ d) / 18446744073709551616 : Nat) : Int) (((A + B / 2 ^ d) % 18446744073709551616 : Nat) : Int) _ _ HLx HLy HLt hsw' hdz HSr (.inl ⟨hs, fun w => addW A (B / 2 ^ d) (by omega) (by omega) t1 w, rfl, rfl, rfl, rfl⟩) w).mono ?_
    rintro r w' ⟨rfl, hg⟩
    exact ⟨_, _, _, _, _, t2, rfl, hg⟩
  · have hne : (g.s == l.s) = false := by simp [hs]
    by_cases hr : B % 2 ^ d = 0
    · obtain ⟨t1, t2, t3⟩ := T3 hs hr
      have hl : decide (B % 2 ^ d ≠ 0) = false := by simp [hr]
      rw [hl] at HSr
      rcases Nat.eq_zero_or_pos (A - B / 2 ^ d) with hz | hz
      · have hsub := fun w => subW A (B / 2 ^ d) (by omega) t1 w
        rw [hz] at hsub
        refine (total_core p mn mx md k _ _ _ _ _ _ _ _ _ _ _ _ _ _ b _ _ _ _ _ _ _ _ d _ _ (if md = 4 then 1 else 0) 0 0 0 0 _ false HLx HLy HLt hsw' hdz HSr (.inr (.inr (.inr ⟨hne, rfl, hsub, fun w => nothing_any p mn mx md k w⟩))) w).mono ?_
        rintro r w' ⟨rfl, hg⟩
        refine ⟨_, _, _, 0, _, ?_, rfl, hg⟩
        rw [t3 hz]
        exact nil_same md
      · refine (total_core p mn mx md k _ _ _ _ _ _ _ _ _ _ _ _ _ _ b _ _ _ _ _ _ _ _ d _ _ g.s (g.e - (127 - nb g.M : Nat)) 1 (((A - B / 2 ^ d) / 18446744073709551616 : Nat) : Int) (((A - B / 2 ^ d) % 18446744073709551616 : Nat) : Int) _ false HLx HLy HLt hsw' hdz HSr (.inr (.inr (.inl ⟨hne, rfl, fun w => subW A (B / 2 ^ d) (by omega) t1 w, words_nz _ hz, rfl, rfl, rfl, rfl⟩))) w).mono ?_
        rintro r w' ⟨rfl, hg⟩
        exact ⟨_, _, _, _, _, t2 hz, rfl, hg⟩
    · obtain ⟨t1, t2, t3⟩ := T2 hs hr
      have hl : decide (B % 2 ^ d ≠ 0) = true := by simp [hr]
      rw [hl] at HSr
      refine (total_core p mn mx md k _ _ _ _ _ _ _ _ _ _ _ _ _ _ b _ _ _ _ _ _ _ _ d _ _ g.s (g.e - (127 - nb g.M : Nat)) 1 (((A - (B / 2 ^ d + 1)) / 18446744073709551616 : Nat) : Int) (((A - (B / 2 ^ d + 1)) % 18446744073709551616 : Nat) : Int) _ true HLx HLy HLt hsw' hdz HSr (.inr (.inl ⟨hne, rfl, ⟨_, _, fun w => add1W (B / 2 ^ d) (by omega) w, fun w => subW A (B / 2 ^ d + 1) (by omega) t1 w⟩, words_nz _ t2, rfl, rfl, rfl, rfl⟩)) w).mono ?_
      rintro r w' ⟨rfl, hg⟩
      exact ⟨_, _, _, _, _, t3, rfl, hg⟩

theorem total_any (p mn mx md : Int) (k : Nat) (x y : Opd) (hx : VO x) (hy : VO y) (cx : x.c = 1) (cy : y.c = 1) (w : World) :
    Calls Tryz.prog 57 #[.agg #[.int .i64 p, .int .i64 mn, .int .i64 mx, .int .i64 md, .func (.func k) #[] #[]], .agg #[.int .i64 x.s, .int .i64 x.e, .int .i64 1, .int .u64 (((x.M / 18446744073709551616 : Nat) : Int)), .int .u64 (((x.M % 18446744073709551616 : Nat) : Int)), .bool false], .agg #[.int .i64 y.s, .int .i64 y.e, .int .i64 1, .int .u64 (((y.M / 18446744073709551616 : Nat) : Int)), .int .u64 (((y.M % 18446744073709551616 : Nat) : Int)), .bool false]] w fun r w' => ∃ (c s e : Int) (M : Nat) (st : Bool), Same (totO md x y) c s e M st ∧ r = .returned (.agg #[.int .i64 s, .int .i64 e, .int .i64 c, .int .u64 (((M / 18446744073709551616 : Nat) : Int)), .int .u64 (((M % 18446744073709551616 : Nat) : Int)), .bool st]) ∧ Gr w w' := by
  obtain ⟨b, hb⟩ : ∃ b : Bool, b = decide (x.e - (127 - nb x.M : Nat) < y.e - (127 - nb y.M : Nat) ∨ x.e - (127 - nb x.M : Nat) = y.e - (127 - nb y.M : Nat) ∧ x.M * 2 ^ (127 - nb x.M) < y.M * 2 ^ (127 - nb y.M)) := ⟨_, rfl⟩
  cases b
  · exact total_half p mn mx md k x y x y hx hy cx cy false hb (.inl ⟨rfl, rfl, rfl⟩) w
  · rw [totO_comm]
    exact total_half p mn mx md k x y y x hx hy cx cy true hb (.inr ⟨rfl, rfl, rfl⟩) w
end Go.Proofs.YtpfmfbadeebeeabGreatDoor

/- There is an answer; the rule of a way. -/
set_option linter.unusedVariables false
namespace Go.Proofs.YtpfmfbadeebeeabGreatDoor
open Go.RowKit

/-- There is an answer. -/
theorem round_is (p mn mx one inf mode sign : Int) (M : Nat) (e : Int) (rest : Bool) : ∃ z fl, RoundIs p mn mx one inf mode sign M e rest z fl := by
  obtain ⟨top, htop⟩ : ∃ top : Int, top = nb M + e - 1 := ⟨_, rfl⟩
  obtain ⟨E, hE⟩ : ∃ E : Int, top < mn ∧ E = mn ∨ mn ≤ top ∧ E = top := by
    by_cases c : top < mn
    · exact ⟨mn, .inl ⟨c, rfl⟩⟩
    · exact ⟨top, .inr ⟨by omega, rfl⟩⟩
  obtain ⟨hf, hhf⟩ : ∃ hf, hf = cutHalf M e (E - p + 1) rest := ⟨_, rfl⟩
  obtain ⟨r, hr⟩ : ∃ r, r = chosen mode sign (cutLo M e (E - p + 1)) hf := ⟨_, rfl⟩
  obtain ⟨r2, hr2⟩ : ∃ r2, r2 = chosen mode sign (cutLo M e (top - p + 1)) (cutHalf M e (top - p + 1) rest) := ⟨_, rfl⟩
  by_cases c1 : mx < top
  · exact ⟨_, _, top, E, r, r2, hf, htop, hE, hhf, hr, hr2, .inl ⟨c1, rfl, rfl⟩⟩
  · by_cases c2 : inf ≤ r + one * (E - mn)
    · exact ⟨_, _, top, E, r, r2, hf, htop, hE, hhf, hr, hr2, .inr (.inl ⟨by omega, c2, rfl, rfl⟩)⟩
    · rcases Nat.eq_zero_or_pos hf with c3 | c3
      · exact ⟨_, _, top, E, r, r2, hf, htop, hE, hhf, hr, hr2, .inr (.inr ⟨by omega, by omega, rfl, .inl ⟨c3, rfl⟩⟩)⟩
      · by_cases c4 : top < mn - 1 ∨ top = mn - 1 ∧ (r2 : Int) < 2 * one
        · exact ⟨_, _, top, E, r, r2, hf, htop, hE, hhf, hr, hr2, .inr (.inr ⟨by omega, by omega, rfl, .inr (.inl ⟨c3, c4, rfl⟩)⟩)⟩
        · exact ⟨_, _, top, E, r, r2, hf, htop, hE, hhf, hr, hr2, .inr (.inr ⟨by omega, by omega, rfl, .inr (.inr ⟨c3, by omega, rfl⟩)⟩)⟩

theorem rule_of (mode : Int) (m0 : 0 ≤ mode) (m1 : mode ≤ 4) : ∃ k, IsRule mode k := by
  unfold IsRule
  rcases (show mode = 0 ∨ mode = 1 ∨ mode = 2 ∨ mode = 3 ∨ mode = 4 by omega) with rfl | rfl | rfl | rfl | rfl
  · exact ⟨_, .inl ⟨rfl, rfl⟩⟩
  · exact ⟨_, .inr (.inl ⟨rfl, rfl⟩)⟩
  · exact ⟨_, .inr (.inr (.inl ⟨rfl, rfl⟩))⟩
  · exact ⟨_, .inr (.inr (.inr (.inl ⟨rfl, rfl⟩)))⟩
  · exact ⟨_, .inr (.inr (.inr (.inr ⟨rfl, rfl⟩)))⟩

theorem sv_sw (sign sg z : Int) : sv sign sg z = sw sign sg z := by unfold sv sw; split <;> omega

end Go.Proofs.YtpfmfbadeebeeabGreatDoor

/- impl's Add, Sub, Mul: what they answer. -/
set_option linter.unusedVariables false
set_option linter.unusedSimpArgs false
namespace Go.Proofs.YtpfmfbadeebeeabGreatDoor
open Go.RowKit

/-- The operand of a word; a word that does not fit is one like a signaling NaN. -/
def OpdIs (p mx one inf sg nan a : Int) (x : Opd) : Prop := a < 2 * sg ∧ UnpackIs p mx one inf sg nan a x.c x.s x.e (x.M : Int) ∨ 2 * sg ≤ a ∧ x = ⟨4, 0, 0, 0⟩

theorem norm_bounds {f p mx one inf sg nan v e g : Int} (h : IsFmt f p mx one inf sg nan) (v0 : 0 < v) (v1 : v < inf) (hn : NormIs p mx one v e g) : one ≤ g ∧ g < 2 * one ∧ -2000 ≤ e ∧ e ≤ 1100 := by
  obtain ⟨k, m, e0, hm, hg, he, h1, h2⟩ := hn
  have hm1 : 1 ≤ m := by
    rcases hm with ⟨_, rfl, _⟩ | ⟨_, rfl, _⟩
    · omega
    · have := Int.emod_nonneg v (show one ≠ 0 by have := h.bounds; omega)
      have := h.bounds
      omega
  have hk : k ≤ 60 := by
    rcases Nat.lt_or_ge 60 k with c | c
    · exfalso
      have h3 : (2 : Int) ^ 61 ≤ 2 ^ k := by
        have := pow2_mono (show 61 ≤ k by omega)
        have e1 : ((2 ^ 61 : Nat) : Int) ≤ ((2 ^ k : Nat) : Int) := by omega
        rw [pow_cast, pow_cast] at e1
        exact e1
      have h4 : 1 * (2 : Int) ^ k ≤ m * 2 ^ k := Int.mul_le_mul_of_nonneg_right hm1 (by omega)
      have h5 : (2 : Int) ^ 61 = 2305843009213693952 := by decide
      have := h.bounds
      omega
    · exact c
  have hd : one ≤ v → v / one ≤ 2 * mx + 1 := by
    intro c
    rcases h with ⟨rfl, rfl, rfl, rfl, rfl, rfl, rfl⟩ | ⟨rfl, rfl, rfl, rfl, rfl, rfl, rfl⟩ <;> omega
  have hd0 : one ≤ v → 0 ≤ v / one := by
    intro c
    rcases h with ⟨rfl, rfl, rfl, rfl, rfl, rfl, rfl⟩ | ⟨rfl, rfl, rfl, rfl, rfl, rfl, rfl⟩ <;> omega
  have hb := h.bounds
  rcases hm with ⟨c, _, rfl⟩ | ⟨c, _, rfl⟩
  · exact ⟨h1, h2, by omega, by omega⟩
  · have := hd c
    have := hd0 c
    exact ⟨h1, h2, by omega, by omega⟩

theorem unpack_bounds {f p mx one inf sg nan W c s e g : Int} (h : IsFmt f p mx one inf sg nan) (hu : UnpackIs p mx one inf sg nan W c s e g) : 0 ≤ c ∧ c ≤ 4 ∧ (s = 0 ∨ s = 1) ∧ 0 ≤ g ∧ g < 2 * one ∧ -2000 ≤ e ∧ e ≤ 1100 ∧ (c = 1 → one ≤ g) ∧ (c ≠ 1 → g = 0) := by
  have hb := h.bounds
  obtain ⟨v, hs, hc⟩ := hu
  rcases hc with ⟨_, rfl, rfl, rfl⟩ | ⟨_, _, rfl, rfl, rfl⟩ | ⟨_, rfl, rfl, rfl⟩ | ⟨_, rfl, rfl, rfl⟩ | ⟨v0, v1, rfl, hn⟩
  · exact ⟨by omega, by omega, by omega, by omega, by omega, by omega, by omega, by omega, by omega⟩
  · exact ⟨by omega, by omega, by omega, by omega, by omega, by omega, by omega, by omega, by omega⟩
  · exact ⟨by omega, by omega, by omega, by omega, by omega, by omega, by omega, by omega, by omega⟩
  · exact ⟨by omega, by omega, by omega, by omega, by omega, by omega, by omega, by omega, by omega⟩
  · have := norm_bounds h v0 v1 hn
    exact ⟨by omega, by omega, by omega, by omega, by omega, by omega, by omega, by omega, by omega⟩

theorem opd_vo {f p mx one inf sg nan a : Int} (h : IsFmt f p mx one inf sg nan) {x : Opd} (hx : OpdIs p mx one inf sg nan a x) : VO x ∧ x.M < 9007199254740992 ∧ (x.c ≠ 1 → x.M = 0) ∧ -2000 ≤ x.e ∧ x.e ≤ 2000 ∧ nb x.M ≤ 53 := by
  have hb := h.bounds
  rcases hx with ⟨_, hu⟩ | ⟨_, rfl⟩
  · obtain ⟨h1, h2, h3, h4, h5, h6, h7, h8, h9⟩ := unpack_bounds h hu
    have hM : x.M < 9007199254740992 := by omega
    have hn : nb x.M ≤ 53 := nb_le (by simpa using hM)
    exact ⟨⟨h1, h2, h3, fun c => ⟨by have := h8 c; omega, by omega⟩, fun c => by have := h9 c; omega, by omega, by omega⟩, hM, fun c => by have := h9 c; omega, by omega, by omega, hn⟩
  · exact ⟨⟨by decide, by decide, .inl rfl, (fun c => by cases c), fun _ => rfl, by decide, by decide⟩, by decide, fun _ => rfl, by decide, by decide, by decide⟩

theorem OpdIs.one {f p mx one inf sg nan a : Int} (h : IsFmt f p mx one inf sg nan) {x y : Opd} (hx : OpdIs p mx one inf sg nan a x) (hy : OpdIs p mx one inf sg nan a y) : x = y := by
  rcases hx with ⟨c, hu⟩ | ⟨c, rfl⟩ <;> rcases hy with ⟨d, hv⟩ | ⟨d, rfl⟩
  · obtain ⟨e1, e2, e3, e4⟩ := UnpackIs.one h hu hv
    obtain ⟨c1, s1, x1, M1⟩ := x
    obtain ⟨c2, s2, x2, M2⟩ := y
    dsimp only at e1 e2 e3 e4
    have : M1 = M2 := by omega
    subst e1 e2 e3 this
    rfl
  · exfalso; omega
  · exfalso; omega
  · rfl

theorem opd_is {f p mx one inf sg nan mn fb sp : Int} (h : IsFmt f p mx one inf sg nan) (hm : IsM p mn mx fb sp one inf sg nan) (a : Int) (a0 : 0 ≤ a) (a1 : a < 18446744073709551616) :
    ∃ x : Opd, OpdIs p mx one inf sg nan a x ∧ ∀ w, Calls Tryz.prog 48 #[.agg #[.int .i64 p, .int .i64 mn, .int .i64 mx], .int .u64 a] w fun e w' => e = .returned (.agg #[.int .i64 x.s, .int .i64 x.e, .int .i64 x.c, .int .u64 (((x.M / 18446744073709551616 : Nat) : Int)), .int .u64 (((x.M % 18446744073709551616 : Nat) : Int)), .bool false]) ∧ Gr w w' := by
  have hb := h.bounds
  by_cases hf : a < 2 * sg
  · obtain ⟨c, s, e, g, hu⟩ := unpack_is h a a0 hf
    obtain ⟨u1, u2, u3, u4, u5, u6, u7, u8, u9⟩ := unpack_bounds h hu
    obtain ⟨G, rfl⟩ := Int.eq_ofNat_of_zero_le u4
    refine ⟨⟨c, s, e, G⟩, .inl ⟨hf, hu⟩, fun w => ?_⟩
    refine (operand_fit hm a a0 hf w).mono ?_
    rintro r w' ⟨c', s', e', g', hu', rfl, hg⟩
    obtain ⟨rfl, rfl, rfl, rfl⟩ := UnpackIs.one h hu hu'
    refine ⟨?_, hg⟩
    dsimp only
    rw [show G / 18446744073709551616 = 0 by omega, show G % 18446744073709551616 = G by omega]
    rfl
  · exact ⟨⟨4, 0, 0, 0⟩, .inr ⟨by omega, rfl⟩, fun w => operand_wide hm a (by omega) a1 w⟩

/-- What the program holds stands for an operand: as words. -/
def SameV (o : Opd) (os oe oc oh ol : Int) (ot : Bool) : Prop := ∃ M : Nat, oh = ((M / 18446744073709551616 : Nat) : Int) ∧ ol = ((M % 18446744073709551616 : Nat) : Int) ∧ Same o oc os oe M ot ∧ 0 ≤ oc ∧ oc ≤ 4 ∧ (oc ≤ 2 → os = 0 ∨ os = 1)

theorem VO.same {x : Opd} (h : VO x) : SameV x x.s x.e x.c ((x.M / 18446744073709551616 : Nat) : Int) ((x.M % 18446744073709551616 : Nat) : Int) false := by
  refine ⟨x.M, rfl, rfl, Same.self x (fun c => ?_), h.c0, h.c4, fun _ => h.s01⟩
  obtain ⟨a, b⟩ := h.fin c
  have := h.e0
  have := h.e1
  exact ⟨a, pow2_lt _ b, by omega, by omega⟩

theorem pack_any {p mn mx fb sp one inf sg nan : Int} (hm : IsM p mn mx fb sp one inf sg nan) (md : Int) (k : Nat) (hk : IsRule md k) (o : Opd) (os oe oc oh ol : Int) (ot : Bool) (h : SameV o os oe oc oh ol ot) (w : World) :
    Calls Tryz.prog 49 #[.agg #[.int .i64 p, .int .i64 mn, .int .i64 mx, .int .i64 md, .func (.func k) #[] #[]], .agg #[.int .i64 os, .int .i64 oe, .int .i64 oc, .int .u64 oh, .int .u64 ol, .bool ot]] w fun e w' => ∃ z fl, PackIs p mn mx one inf sg nan md o z fl ∧ e = .returned (.agg #[.int .u64 z, .int .i64 fl]) ∧ Gr w w' := by
  obtain ⟨M, rfl, rfl, ⟨h1, h2, h3⟩, c0, c4, hs⟩ := h
  have hp : p ≤ 53 ∧ 0 ≤ p := by rcases hm with h | h <;> omega
  rcases (show oc = 0 ∨ oc = 1 ∨ oc = 2 ∨ oc = 3 ∨ oc = 4 by omega) with rfl | rfl | rfl | rfl | rfl
  · refine (pack_0 p mn mx md k os oe _ _ ot (sw os sg 0) (fun w => zero_any hm os _ ?_ w) w).mono ?_
    · rcases hs (by omega) with rfl | rfl
      · exact .inl ⟨rfl, by simp [sw]⟩
      · exact .inr ⟨rfl, by simp [sw]⟩
    · rintro r w' ⟨rfl, hg⟩
      exact ⟨_, _, .inl ⟨h1, by rw [h2 (by omega)], rfl⟩, rfl, hg⟩
  · obtain ⟨m0, m1, m2, e0, e1, m3⟩ := h3 rfl
    refine (pack_1 p mn mx md k os oe _ _ ot (fun z fl => ∃ z0, RoundIs p mn mx one inf md os M oe ot z0 fl ∧ z = sw os sg z0) (fun w => ?_) w).mono ?_
    · refine (round_num hm md md k hk os (hs (by omega)) oe e0 e1 M m0 m1 ot (fun c => by have := m2 c; omega) w).mono ?_
      rintro r w' ⟨z, fl, hr, rfl, hg⟩
      exact ⟨_, _, ⟨z, hr, sv_sw _ _ _⟩, rfl, hg⟩
    · rintro r w' ⟨z, fl, ⟨z0, hr, rfl⟩, rfl, hg⟩
      refine ⟨_, _, .inr (.inl ⟨h1, z0, ?_, by rw [h2 (by omega)]⟩), rfl, hg⟩
      rw [h2 (by omega)]
      exact (m3 p mn mx one inf md z0 fl hp.2 hp.1).1 hr
  · refine (pack_2 p mn mx md k os oe _ _ ot (sw os sg inf) (fun w => inf_any hm os _ ?_ w) w).mono ?_
    · rcases hs (by omega) with rfl | rfl
      · exact .inl ⟨rfl, by simp [sw]⟩
      · exact .inr ⟨rfl, by simp [sw]; omega⟩
    · rintro r w' ⟨rfl, hg⟩
      exact ⟨_, _, .inr (.inr (.inl ⟨h1, by rw [h2 (by omega)], rfl⟩)), rfl, hg⟩
  · refine (pack_3 p mn mx md k os oe _ _ ot nan (fun w => nan_any hm w) w).mono ?_
    rintro r w' ⟨rfl, hg⟩
    exact ⟨_, _, .inr (.inr (.inr (.inl ⟨h1, rfl, rfl⟩))), rfl, hg⟩
  · refine (pack_4 p mn mx md k os oe _ _ ot nan (fun w => invalid_any hm w) w).mono ?_
    rintro r w' ⟨rfl, hg⟩
    exact ⟨_, _, .inr (.inr (.inr (.inr ⟨h1, rfl, rfl⟩))), rfl, hg⟩

theorem nilO_s (md : Int) : (nilO md).s = 0 ∨ (nilO md).s = 1 := by
  unfold nilO; dsimp only; split
  · exact .inr rfl
  · exact .inl rfl
theorem totO_cs (md : Int) (x y : Opd) (hx : x.s = 0 ∨ x.s = 1) (hy : y.s = 0 ∨ y.s = 1) : ((totO md x y).c = 0 ∨ (totO md x y).c = 1) ∧ ((totO md x y).s = 0 ∨ (totO md x y).s = 1) := by
  unfold totO
  split
  · exact ⟨.inr rfl, hx⟩
  · split
    · exact ⟨.inl rfl, nilO_s md⟩
    · split
      · exact ⟨.inr rfl, hx⟩
      · exact ⟨.inr rfl, hy⟩

theorem sum_any (p mn mx md : Int) (k : Nat) (x y : Opd) (hx : VO x) (hy : VO y) (h2 : max x.c y.c < 3) (w : World) :
    Calls Tryz.prog 24 #[.agg #[.int .i64 p, .int .i64 mn, .int .i64 mx, .int .i64 md, .func (.func k) #[] #[]], .agg #[.int .i64 x.s, .int .i64 x.e, .int .i64 x.c, .int .u64 (((x.M / 18446744073709551616 : Nat) : Int)), .int .u64 (((x.M % 18446744073709551616 : Nat) : Int)), .bool false], .agg #[.int .i64 y.s, .int .i64 y.e, .int .i64 y.c, .int .u64 (((y.M / 18446744073709551616 : Nat) : Int)), .int .u64 (((y.M % 18446744073709551616 : Nat) : Int)), .bool false]] w fun e w' => ∃ os oe oc oh ol ot, SameV (sumO md x y) os oe oc oh ol ot ∧ e = .returned (.agg #[.int .i64 os, .int .i64 oe, .int .i64 oc, .int .u64 oh, .int .u64 ol, .bool ot]) ∧ Gr w w' := by
  have c0 := hx.c0
  have d0 := hy.c0
  unfold sumO
  rw [if_neg (show ¬ 3 ≤ max x.c y.c by omega)]
  by_cases c1 : y.c < x.c
  · rw [if_pos c1]
    refine (sum_gt p mn mx md k _ _ _ _ _ _ _ _ _ _ _ _ c1 w).mono ?_
    rintro r w' ⟨rfl, hg⟩
    exact ⟨_, _, _, _, _, _, hx.same, rfl, hg⟩
  · rw [if_neg c1]
    by_cases c2 : x.c < y.c
    · rw [if_pos c2]
      refine (sum_lt p mn mx md k _ _ _ _ _ _ _ _ _ _ _ _ c2 w).mono ?_
      rintro r w' ⟨rfl, hg⟩
      exact ⟨_, _, _, _, _, _, hy.same, rfl, hg⟩
    · rw [if_neg c2]
      by_cases c3 : x.c = 1
      · rw [if_pos c3]
        refine (sum_tot p mn mx md k _ _ _ _ _ _ _ _ _ _ _ _ c3 (by omega) (fun os oe oc oh ol ot => SameV (totO md x y) os oe oc oh ol ot) (fun w => ?_) w).mono (fun e w' h => h)
        refine (total_any p mn mx md k x y hx hy c3 (by omega) w).mono ?_
        rintro r w' ⟨c, s, e, M, st, hsm, rfl, hg⟩
        obtain ⟨t1, t2⟩ := totO_cs md x y hx.s01 hy.s01
        have tc := hsm.1
        exact ⟨_, _, _, _, _, _, ⟨M, rfl, rfl, hsm, by omega, by omega, fun hc => by rw [← hsm.2.1 hc]; exact t2⟩, rfl, hg⟩
      · rw [if_neg c3]
        by_cases c4 : x.s = y.s
        · rw [if_pos c4]
          refine (sum_sg p mn mx md k _ _ _ _ _ _ _ _ _ _ _ _ (by omega) (by simp [c3]) c4 w).mono ?_
          rintro r w' ⟨rfl, hg⟩
          exact ⟨_, _, _, _, _, _, hx.same, rfl, hg⟩
        · rw [if_neg c4]
          by_cases c5 : x.c = 2
          · rw [if_pos c5]
            refine (sum_inf p mn mx md k _ _ _ _ _ _ _ _ _ _ _ _ c5 (by omega) (by simp [c4]) w).mono ?_
            rintro r w' ⟨rfl, hg⟩
            exact ⟨_, _, _, _, _, _, ⟨0, rfl, rfl, ⟨rfl, fun _ => rfl, (fun h => by cases h)⟩, (show (0 : Int) ≤ 4 by omega), (show (4 : Int) ≤ 4 by omega), fun _ => .inl rfl⟩, rfl, hg⟩
          · rw [if_neg c5]
            refine (sum_nil p mn mx md k _ _ _ _ _ _ _ _ _ _ _ _ (by omega) (by omega) (by simp [c4]) _ _ _ _ _ _ (fun w => nothing_any p mn mx md k w) w).mono ?_
            rintro r w' ⟨rfl, hg⟩
            exact ⟨_, _, _, _, _, _, ⟨0, rfl, rfl, nil_same md, by omega, by omega, fun _ => nilO_s md⟩, rfl, hg⟩

theorem VO.turn {x : Opd} (h : VO x) : VO (turnO x) := ⟨h.c0, h.c4, by have := h.s01; unfold turnO; dsimp only; omega, h.fin, h.nil, h.e0, h.e1⟩

theorem product_any (p mn mx md : Int) (k : Nat) (x y : Opd) (hx : VO x) (hy : VO y) (hxM : x.M < 18446744073709551616) (hyM : y.M < 18446744073709551616) (h2 : max x.c y.c < 3) (w : World) :
    Calls Tryz.prog 40 #[.agg #[.int .i64 p, .int .i64 mn, .int .i64 mx, .int .i64 md, .func (.func k) #[] #[]], .agg #[.int .i64 x.s, .int .i64 x.e, .int .i64 x.c, .int .u64 (((x.M / 18446744073709551616 : Nat) : Int)), .int .u64 (((x.M % 18446744073709551616 : Nat) : Int)), .bool false], .agg #[.int .i64 y.s, .int .i64 y.e, .int .i64 y.c, .int .u64 (((y.M / 18446744073709551616 : Nat) : Int)), .int .u64 (((y.M % 18446744073709551616 : Nat) : Int)), .bool false]] w fun e w' => e = .returned (.agg #[.int .i64 ((prodO x y).s), .int .i64 ((prodO x y).e), .int .i64 ((prodO x y).c), .int .u64 ((((prodO x y).M / 18446744073709551616 : Nat) : Int)), .int .u64 ((((prodO x y).M % 18446744073709551616 : Nat) : Int)), .bool false]) ∧ Gr w w' := by
  have HT : Hid (∀ w, Calls Tryz.prog 64 #[.agg #[.int .i64 x.s, .int .i64 x.e], .agg #[.int .i64 y.s, .int .i64 y.e]] w fun e w' => e = .returned (.agg #[.int .i64 (mulS x.s y.s), .int .i64 (x.e + y.e)]) ∧ Gr w w') := fun w => times_any x.s x.e y.s y.e hx.s01 hy.s01 (by have := hx.e0; omega) (by have := hx.e1; omega) (by have := hy.e0; omega) (by have := hy.e1; omega) w
  have hMm : Hid (∀ w, Calls Tryz.prog 65 #[.int .u64 ((x.M % 18446744073709551616 : Nat) : Int), .int .u64 ((y.M % 18446744073709551616 : Nat) : Int)] w fun e w' => e = .returned (.agg #[.int .u64 ((x.M * y.M / 18446744073709551616 : Nat) : Int), .int .u64 ((x.M * y.M % 18446744073709551616 : Nat) : Int)]) ∧ Gr w w') := fun w => by
    rw [Nat.mod_eq_of_lt hxM, Nat.mod_eq_of_lt hyM]; exact mulW x.M y.M hxM hyM w
  have c0 := hx.c0
  have d0 := hy.c0
  obtain ⟨cx, sx, ex, Mx⟩ := x
  obtain ⟨cy, sy, ey, My⟩ := y
  dsimp only at *
  rcases (show cx = 0 ∨ cx = 1 ∨ cx = 2 by omega) with rfl | rfl | rfl <;> rcases (show cy = 0 ∨ cy = 1 ∨ cy = 2 by omega) with rfl | rfl | rfl
  · rw [show prodO ⟨0, sx, ex, Mx⟩ ⟨0, sy, ey, My⟩ = ⟨0, mulS sx sy, ex + ey, 0⟩ from by unfold prodO; dsimp only; rw [if_neg (by decide), if_neg (by decide), if_pos (by decide)]]
    refine (product_00 p mn mx md k _ _ _ _ _ _ _ _ _ _ _ _ HT w).mono ?_
    rintro r w' ⟨rfl, hg⟩
    exact ⟨by simp, hg⟩
  · rw [show prodO ⟨0, sx, ex, Mx⟩ ⟨1, sy, ey, My⟩ = ⟨0, mulS sx sy, ex + ey, 0⟩ from by unfold prodO; dsimp only; rw [if_neg (by decide), if_neg (by decide), if_pos (by decide)]]
    refine (product_01 p mn mx md k _ _ _ _ _ _ _ _ _ _ _ _ HT w).mono ?_
    rintro r w' ⟨rfl, hg⟩
    exact ⟨by simp, hg⟩
  · rw [show prodO ⟨0, sx, ex, Mx⟩ ⟨2, sy, ey, My⟩ = ⟨4, mulS sx sy, ex + ey, 0⟩ from by unfold prodO; dsimp only; rw [if_neg (by decide), if_pos (by decide)]]
    refine (product_02 p mn mx md k _ _ _ _ _ _ _ _ _ _ _ _ HT w).mono ?_
    rintro r w' ⟨rfl, hg⟩
    exact ⟨by simp, hg⟩
  · rw [show prodO ⟨1, sx, ex, Mx⟩ ⟨0, sy, ey, My⟩ = ⟨0, mulS sx sy, ex + ey, 0⟩ from by unfold prodO; dsimp only; rw [if_neg (by decide), if_neg (by decide), if_pos (by decide)]]
    refine (product_10 p mn mx md k _ _ _ _ _ _ _ _ _ _ _ _ HT w).mono ?_
    rintro r w' ⟨rfl, hg⟩
    exact ⟨by simp, hg⟩
  · rw [show prodO ⟨1, sx, ex, Mx⟩ ⟨1, sy, ey, My⟩ = ⟨1, mulS sx sy, ex + ey, Mx * My⟩ from by unfold prodO; dsimp only; rw [if_neg (by decide), if_neg (by decide), if_neg (by decide), if_neg (by decide)]]
    exact product_11 p mn mx md k _ _ _ _ _ _ _ _ _ _ _ _ HT _ _ hMm w
  · rw [show prodO ⟨1, sx, ex, Mx⟩ ⟨2, sy, ey, My⟩ = ⟨2, mulS sx sy, ex + ey, 0⟩ from by unfold prodO; dsimp only; rw [if_neg (by decide), if_neg (by decide), if_neg (by decide), if_pos (by decide)]]
    refine (product_12 p mn mx md k _ _ _ _ _ _ _ _ _ _ _ _ HT w).mono ?_
    rintro r w' ⟨rfl, hg⟩
    exact ⟨by simp, hg⟩
  · rw [show prodO ⟨2, sx, ex, Mx⟩ ⟨0, sy, ey, My⟩ = ⟨4, mulS sx sy, ex + ey, 0⟩ from by unfold prodO; dsimp only; rw [if_neg (by decide), if_pos (by decide)]]
    refine (product_20 p mn mx md k _ _ _ _ _ _ _ _ _ _ _ _ HT w).mono ?_
    rintro r w' ⟨rfl, hg⟩
    exact ⟨by simp, hg⟩
  · rw [show prodO ⟨2, sx, ex, Mx⟩ ⟨1, sy, ey, My⟩ = ⟨2, mulS sx sy, ex + ey, 0⟩ from by unfold prodO; dsimp only; rw [if_neg (by decide), if_neg (by decide), if_neg (by decide), if_pos (by decide)]]
    refine (product_21 p mn mx md k _ _ _ _ _ _ _ _ _ _ _ _ HT w).mono ?_
    rintro r w' ⟨rfl, hg⟩
    exact ⟨by simp, hg⟩
  · rw [show prodO ⟨2, sx, ex, Mx⟩ ⟨2, sy, ey, My⟩ = ⟨2, mulS sx sy, ex + ey, 0⟩ from by unfold prodO; dsimp only; rw [if_neg (by decide), if_neg (by decide), if_neg (by decide), if_pos (by decide)]]
    refine (product_22 p mn mx md k _ _ _ _ _ _ _ _ _ _ _ _ HT w).mono ?_
    rintro r w' ⟨rfl, hg⟩
    exact ⟨by simp, hg⟩

theorem nan_same (m : Int) (h0 : 3 ≤ m) (h1 : m ≤ 4) : SameV ⟨m, 0, 0, 0⟩ 0 0 m 0 0 false := ⟨0, rfl, rfl, ⟨rfl, fun _ => rfl, fun h => by omega⟩, by omega, h1, fun _ => .inl rfl⟩

theorem sumO_nan (md : Int) (x y : Opd) (h : 3 ≤ max x.c y.c) : sumO md x y = ⟨max x.c y.c, 0, 0, 0⟩ := by unfold sumO; rw [if_pos h]
theorem prodO_nan (x y : Opd) (h : 3 ≤ max x.c y.c) : prodO x y = ⟨max x.c y.c, 0, 0, 0⟩ := by unfold prodO; rw [if_pos h]

theorem combine_sum_any (p mn mx md : Int) (k : Nat) (x y : Opd) (hx : VO x) (hy : VO y) (w : World) :
    Calls Tryz.prog 47 #[.agg #[.int .i64 p, .int .i64 mn, .int .i64 mx, .int .i64 md, .func (.func k) #[] #[]], .func (.func 24) #[] #[], .agg #[.int .i64 x.s, .int .i64 x.e, .int .i64 x.c, .int .u64 (((x.M / 18446744073709551616 : Nat) : Int)), .int .u64 (((x.M % 18446744073709551616 : Nat) : Int)), .bool false], .agg #[.int .i64 y.s, .int .i64 y.e, .int .i64 y.c, .int .u64 (((y.M / 18446744073709551616 : Nat) : Int)), .int .u64 (((y.M % 18446744073709551616 : Nat) : Int)), .bool false]] w fun e w' => ∃ os oe oc oh ol ot, SameV (sumO md x y) os oe oc oh ol ot ∧ e = .returned (.agg #[.int .i64 os, .int .i64 oe, .int .i64 oc, .int .u64 oh, .int .u64 ol, .bool ot]) ∧ Gr w w' := by
  by_cases h : 3 ≤ max x.c y.c
  · refine (combine_nan p mn mx md k _ _ _ _ _ _ _ _ _ _ _ _ 24 _ rfl h w).mono ?_
    rintro r w' ⟨rfl, hg⟩
    have := hx.c4
    have := hy.c4
    rw [sumO_nan md x y h]
    exact ⟨_, _, _, _, _, _, nan_same _ h (by omega), rfl, hg⟩
  · exact combine_sum p mn mx md k _ _ _ _ _ _ _ _ _ _ _ _ _ rfl (by omega) _ (fun w => sum_any p mn mx md k x y hx hy (by omega) w) w

theorem prodO_vo {x y : Opd} (hx : VO x) (hy : VO y) (hxn : nb x.M ≤ 53) (hyn : nb y.M ≤ 53) (x0 : -2000 ≤ x.e) (x1 : x.e ≤ 2000) (y0 : -2000 ≤ y.e) (y1 : y.e ≤ 2000) : VO (prodO x y) := by
  have hm : mulS x.s y.s = 0 ∨ mulS x.s y.s = 1 := by unfold mulS; split <;> simp
  have cx4 := hx.c4
  have cy4 := hy.c4
  have cx0 := hx.c0
  have cy0 := hy.c0
  unfold prodO
  split
  · rename_i h; exact ⟨by dsimp only; omega, by dsimp only; omega, .inl rfl, fun c => by dsimp only at c; omega, fun _ => rfl, (by dsimp only; omega), (by dsimp only; omega)⟩
  · rename_i h
    split
    · exact ⟨(by dsimp only; omega), (by dsimp only; omega), hm, (fun c => by cases c), fun _ => rfl, by dsimp only; omega, by dsimp only; omega⟩
    · split
      · exact ⟨(by dsimp only; omega), (by dsimp only; omega), hm, (fun c => by cases c), fun _ => rfl, by dsimp only; omega, by dsimp only; omega⟩
      · split
        · exact ⟨(by dsimp only; omega), (by dsimp only; omega), hm, (fun c => by cases c), fun _ => rfl, by dsimp only; omega, by dsimp only; omega⟩
        · rename_i h1 h2 h3
          have ex := (hx.fin (by omega)).1
          have ey := (hy.fin (by omega)).1
          refine ⟨(by dsimp only; omega), (by dsimp only; omega), hm, fun _ => ⟨Nat.mul_pos ex ey, ?_⟩, fun c => absurd rfl c, by dsimp only; omega, by dsimp only; omega⟩
          refine nb_le ?_
          have a1 := nb_lt x.M
          have a2 := nb_lt y.M
          have a3 := pow2_mono hxn
          have a4 := pow2_mono hyn
          have : x.M * y.M < 2 ^ 53 * 2 ^ 53 := Nat.mul_lt_mul'' (by omega) (by omega)
          rw [← Nat.pow_add] at this
          exact this

theorem combine_product_any (p mn mx md : Int) (k : Nat) (x y : Opd) (hx : VO x) (hy : VO y) (hxM : x.M < 18446744073709551616) (hyM : y.M < 18446744073709551616) (w : World) :
    Calls Tryz.prog 47 #[.agg #[.int .i64 p, .int .i64 mn, .int .i64 mx, .int .i64 md, .func (.func k) #[] #[]], .func (.func 40) #[] #[], .agg #[.int .i64 x.s, .int .i64 x.e, .int .i64 x.c, .int .u64 (((x.M / 18446744073709551616 : Nat) : Int)), .int .u64 (((x.M % 18446744073709551616 : Nat) : Int)), .bool false], .agg #[.int .i64 y.s, .int .i64 y.e, .int .i64 y.c, .int .u64 (((y.M / 18446744073709551616 : Nat) : Int)), .int .u64 (((y.M % 18446744073709551616 : Nat) : Int)), .bool false]] w fun e w' => e = .returned (.agg #[.int .i64 ((prodO x y).s), .int .i64 ((prodO x y).e), .int .i64 ((prodO x y).c), .int .u64 ((((prodO x y).M / 18446744073709551616 : Nat) : Int)), .int .u64 ((((prodO x y).M % 18446744073709551616 : Nat) : Int)), .bool false]) ∧ Gr w w' := by
  by_cases h : 3 ≤ max x.c y.c
  · refine (combine_nan p mn mx md k _ _ _ _ _ _ _ _ _ _ _ _ 40 _ rfl h w).mono ?_
    rintro r w' ⟨rfl, hg⟩
    rw [prodO_nan x y h]
    exact ⟨by simp, hg⟩
  · refine (combine_product p mn mx md k _ _ _ _ _ _ _ _ _ _ _ _ _ rfl (by omega) (fun os oe oc oh ol ot => os = (prodO x y).s ∧ oe = (prodO x y).e ∧ oc = (prodO x y).c ∧ oh = (((prodO x y).M / 18446744073709551616 : Nat) : Int) ∧ ol = (((prodO x y).M % 18446744073709551616 : Nat) : Int) ∧ ot = false) (fun w => ?_) w).mono ?_
    · refine (product_any p mn mx md k x y hx hy hxM hyM (by omega) w).mono ?_
      rintro r w' ⟨rfl, hg⟩
      exact ⟨_, _, _, _, _, _, ⟨rfl, rfl, rfl, rfl, rfl, rfl⟩, rfl, hg⟩
    · rintro r w' ⟨os, oe, oc, oh, ol, ot, ⟨rfl, rfl, rfl, rfl, rfl, rfl⟩, rfl, hg⟩
      exact ⟨rfl, hg⟩
end Go.Proofs.YtpfmfbadeebeeabGreatDoor

/- spec.l3Sum, whole; spec's Add and Mul: what they answer. -/
set_option linter.unusedVariables false
set_option linter.unusedSimpArgs false
namespace Go.Proofs.YtpfmfbadeebeeabGreatDoor
open Go.RowKit

theorem big_nb {K : Nat} {w : World} {v : Value} {M : Nat} (h : BigN K w v M) (hK : K ≤ 100000) : nb M ≤ 3200000 := by
  obtain ⟨n, hn, hb⟩ := h
  have h1 := hb.1.1
  rw [← two_pw] at h1
  have := nb_le h1
  omega

/-- l2Round at a number of the sums. -/
theorem round_at {f p mx one inf sg nan : Int} (h : IsFmt f p mx one inf sg nan) (mode : Int) (m0 : 0 ≤ mode) (m1 : mode ≤ 4) (o : Opd) (ho : o.c = 1) (hs : o.s = 0 ∨ o.s = 1) (hM : 0 < o.M) (e0 : -5000 ≤ o.e) (e1 : o.e ≤ 5000) (K : Nat) (hK : K ≤ 100000) (v : Value) (w : World) (hB : BigN K w v o.M) :
    Calls Tryz.prog 44 #[.int .i64 f, .int .i64 mode, .agg #[.int .i64 o.s, v, .int .i64 o.e, .bool false]] w fun e w' => ∃ z fl, PackIs p (1 - mx) mx one inf sg nan mode o z fl ∧ e = .returned (.agg #[.int .u64 z, .int .i64 fl]) ∧ Gb w w' := by
  have hn := big_nb hB hK
  obtain ⟨n, hn', hb⟩ := hB
  refine (l2Round_any h hb (by omega) hM hn mode o.s o.e false m0 m1 hs (by omega) (by omega) (fun c => by cases c)).mono ?_
  rintro x w' ⟨z, fl, hr, z0, z1, rfl, hg⟩
  exact ⟨_, _, .inr (.inl ⟨ho, z, hr, rfl⟩), rfl, hg⟩

theorem l3Sum_any {f p mx one inf sg nan : Int} (h : IsFmt f p mx one inf sg nan) (mode : Int) (m0 : 0 ≤ mode) (m1 : mode ≤ 4) (x y : Opd) (hx : VO x) (hy : VO y) (cx : x.c ≤ 1) (cy : y.c ≤ 1) (x0 : -4000 ≤ x.e) (x1 : x.e ≤ 4000) (y0 : -4000 ≤ y.e) (y1 : y.e ≤ 4000) (bx kx qx gy ky qy : Nat) {w : World} (HX : BigN 4 w (.slice (some ⟨bx, 0, none⟩) kx qx) x.M) (HY : BigN 4 w (.slice (some ⟨gy, 0, none⟩) ky qy) y.M) :
    Calls Tryz.prog 30 #[.int .i64 f, .int .i64 mode, .agg #[.int .i64 x.s, .slice (some ⟨bx, 0, none⟩) kx qx, .int .i64 x.e, .bool false], .agg #[.int .i64 y.s, .slice (some ⟨gy, 0, none⟩) ky qy, .int .i64 y.e, .bool false]] w fun e w' => ∃ z fl, PackIs p (1 - mx) mx one inf sg nan mode (sumO mode x y) z fl ∧ e = .returned (.agg #[.int .u64 z, .int .i64 fl]) ∧ Gb w w' := by
  have c0 := hx.c0
  have d0 := hy.c0
  have zx := bigN_zk HX
  have zy := bigN_zk HY
  have hzero : ∀ s : Int, (s = 0 ∨ s = 1) → Hid (∀ w, Calls Tryz.prog 43 #[.int .i64 f, .int .i64 s] w fun e w' => e = .returned (.agg #[.int .u64 (sw s sg 0), .int .i64 0]) ∧ Gr w w') := fun s hs w => l3Zero_any h s hs w
  have hnil : ∀ o : Opd, o = nilO mode → PackIs p (1 - mx) mx one inf sg nan mode o (sw (if mode = 4 then 1 else 0) sg 0) 0 := fun o ho => by rw [ho]; exact .inl ⟨rfl, rfl, rfl⟩
  have htot : ∀ (ex ey sT : Int) (MT : Nat), -4000 ≤ ex → ex ≤ 4000 → -4000 ≤ ey → ey ≤ 4000 → TotIs x.s y.s (x.M * 2 ^ (ex - min ex ey).toNat) (y.M * 2 ^ (ey - min ex ey).toNat) sT MT → Hid (∀ w', Gb w w' → Calls Tryz.prog 60 #[.agg #[.int .i64 x.s, .slice (some ⟨bx, 0, none⟩) kx qx, .int .i64 ex, .bool false], .agg #[.int .i64 y.s, .slice (some ⟨gy, 0, none⟩) ky qy, .int .i64 ey, .bool false]] w' fun e w'' => ∃ b k c, BigN 1000 w'' (.slice (some ⟨b, 0, none⟩) k c) MT ∧ e = .returned (.agg #[.int .i64 sT, .slice (some ⟨b, 0, none⟩) k c, .int .i64 (min ex ey), .bool false]) ∧ Gb w' w'') := fun ex ey sT MT a1 a2 a3 a4 hT w' hg => l3Total_any x.s y.s ex ey bx kx qx gy ky qy x.M y.M (HX.gb hg) (HY.gb hg) a1 a2 a3 a4 sT MT hT
  rcases (show x.c = 0 ∨ x.c = 1 by omega) with xc | xc <;> rcases (show y.c = 0 ∨ y.c = 1 by omega) with yc | yc
  · -- two zeros
    have xM := hx.nil (by omega)
    have yM := hy.nil (by omega)
    rw [decide_eq_true xM] at zx
    rw [decide_eq_true yM] at zy
    have hsum : sumO mode x y = if x.s = y.s then x else nilO mode := by
      unfold sumO
      rw [if_neg (show ¬ 3 ≤ max x.c y.c by omega), if_neg (show ¬ y.c < x.c by omega), if_neg (show ¬ x.c < y.c by omega), if_neg (show ¬ x.c = 1 by omega), if_neg (show ¬ x.c = 2 by omega)]
    by_cases hs : x.s = y.s
    · have hT := htot y.e y.e x.s 0 y0 y1 y0 y1 (.inl ⟨hs, rfl, by rw [xM, yM]; simp⟩)
      refine (l3Sum_zzS f mode x.s y.s x.e y.e x.s _ bx kx qx gy ky qy 0 zx zy hT rfl (by simp [hs]) _ (hzero x.s hx.s01)).mono ?_
      rintro r w' ⟨rfl, hg⟩
      refine ⟨_, _, ?_, rfl, hg⟩
      rw [hsum, if_pos hs]
      exact .inl ⟨xc, rfl, rfl⟩
    · have hT := htot y.e y.e x.s 0 y0 y1 y0 y1 (.inr (.inl ⟨hs, by rw [xM, yM]; simp, rfl, by rw [xM, yM]; simp⟩))
      rw [hsum, if_neg hs]
      by_cases hm : mode = 4
      · refine (l3Sum_zzD f mode x.s y.s x.e y.e x.s _ bx kx qx gy ky qy 0 zx zy hT rfl (by simp [hs]) (by simp [hm]) _ (hzero 1 (.inr rfl))).mono ?_
        rintro r w' ⟨rfl, hg⟩
        have := hnil _ rfl
        rw [if_pos hm] at this
        exact ⟨_, _, this, rfl, hg⟩
      · refine (l3Sum_zzO f mode x.s y.s x.e y.e x.s _ bx kx qx gy ky qy 0 zx zy hT rfl (by simp [hs]) (by simp [hm]) _ (hzero 0 (.inl rfl))).mono ?_
        rintro r w' ⟨rfl, hg⟩
        have := hnil _ rfl
        rw [if_neg hm] at this
        exact ⟨_, _, this, rfl, hg⟩
  · -- a zero and a number
    have xM := hx.nil (by omega)
    have yM := (hy.fin yc).1
    rw [decide_eq_true xM] at zx
    rw [decide_eq_false (by omega)] at zy
    have hsum : sumO mode x y = y := by
      unfold sumO
      rw [if_neg (show ¬ 3 ≤ max x.c y.c by omega), if_neg (show ¬ y.c < x.c by omega), if_pos (show x.c < y.c by omega)]
    have hT := htot y.e y.e y.s y.M y0 y1 y0 y1 (by
      have e1 : (y.e - min y.e y.e).toNat = 0 := by omega
      rw [e1, xM]
      simp only [Nat.pow_zero, Nat.mul_one]
      by_cases hs : x.s = y.s
      · exact .inl ⟨hs, hs.symm, by omega⟩
      · exact .inr (.inr ⟨hs, by omega, rfl, by omega⟩))
    rw [show min y.e y.e = y.e by omega] at hT
    refine (l3Sum_znR f mode x.s y.s x.e y.e y.s y.e bx kx qx gy ky qy y.M zx zy hT yM (fun z fl => PackIs p (1 - mx) mx one inf sg nan mode y z fl) (fun v w hB => round_at h mode m0 m1 y yc hy.s01 yM (by omega) (by omega) 1000 (by omega) v w hB)).mono ?_
    rw [hsum]
    exact fun e w' h => h
  · -- a number and a zero
    have xM := (hx.fin xc).1
    have yM := hy.nil (by omega)
    rw [decide_eq_false (by omega)] at zx
    rw [decide_eq_true yM] at zy
    have hsum : sumO mode x y = x := by
      unfold sumO
      rw [if_neg (show ¬ 3 ≤ max x.c y.c by omega), if_pos (show y.c < x.c by omega)]
    have hT := htot x.e x.e x.s x.M x0 x1 x0 x1 (by
      have e1 : (x.e - min x.e x.e).toNat = 0 := by omega
      rw [e1, yM]
      simp only [Nat.pow_zero, Nat.mul_one]
      by_cases hs : x.s = y.s
      · exact .inl ⟨hs, rfl, by omega⟩
      · exact .inr (.inl ⟨hs, by omega, rfl, by omega⟩))
    rw [show min x.e x.e = x.e by omega] at hT
    refine (l3Sum_nzR f mode x.s y.s x.e y.e x.s x.e bx kx qx gy ky qy x.M zx zy hT xM (fun z fl => PackIs p (1 - mx) mx one inf sg nan mode x z fl) (fun v w hB => round_at h mode m0 m1 x xc hx.s01 xM (by omega) (by omega) 1000 (by omega) v w hB)).mono ?_
    rw [hsum]
    exact fun e w' h => h
  · -- two numbers
    have xM := (hx.fin xc).1
    have yM := (hy.fin yc).1
    rw [decide_eq_false (by omega)] at zx
    rw [decide_eq_false (by omega)] at zy
    have hsum : sumO mode x y = totO mode x y := by
      unfold sumO
      rw [if_neg (show ¬ 3 ≤ max x.c y.c by omega), if_neg (show ¬ y.c < x.c by omega), if_neg (show ¬ x.c < y.c by omega), if_pos xc]
    have hmin : -5000 ≤ min x.e y.e ∧ min x.e y.e ≤ 5000 := by omega
    rw [hsum]
    have hb : bothM x y = (x.M * 2 ^ (x.e - min x.e y.e).toNat, y.M * 2 ^ (y.e - min x.e y.e).toNat) := rfl
    obtain ⟨A, hA⟩ : ∃ A, x.M * 2 ^ (x.e - min x.e y.e).toNat = A := ⟨_, rfl⟩
    obtain ⟨B, hB⟩ : ∃ B, y.M * 2 ^ (y.e - min x.e y.e).toNat = B := ⟨_, rfl⟩
    have hA0 : 0 < A := by rw [← hA]; exact Nat.mul_pos xM (Nat.pow_pos (by decide))
    have hB0 : 0 < B := by rw [← hB]; exact Nat.mul_pos yM (Nat.pow_pos (by decide))
    have htot' := htot x.e y.e
    rw [hA, hB] at hb htot'
    unfold totO
    rw [hb]
    dsimp only
    by_cases hs : x.s = y.s
    · rw [if_pos hs]
      exact l3Sum_nnR f mode x.s y.s x.e y.e x.s _ bx kx qx gy ky qy (A + B) zx zy (htot' _ _ x0 x1 y0 y1 (.inl ⟨hs, rfl, rfl⟩)) (by omega) _ (fun v w hB => round_at h mode m0 m1 ⟨1, x.s, min x.e y.e, A + B⟩ rfl hx.s01 (by dsimp only; omega) hmin.1 hmin.2 1000 (by omega) v w hB)
    · rw [if_neg hs]
      by_cases hab : A = B
      · rw [if_pos hab]
        have hT := htot' x.s 0 x0 x1 y0 y1 (.inr (.inl ⟨hs, by omega, rfl, by omega⟩))
        by_cases hm : mode = 4
        · refine (l3Sum_nnD f mode x.s y.s x.e y.e x.s _ bx kx qx gy ky qy 0 zx zy hT rfl (by simp [hs]) (by simp [hm]) _ (hzero 1 (.inr rfl))).mono ?_
          rintro r w' ⟨rfl, hg⟩
          have := hnil _ rfl
          rw [if_pos hm] at this
          exact ⟨_, _, this, rfl, hg⟩
        · refine (l3Sum_nnO f mode x.s y.s x.e y.e x.s _ bx kx qx gy ky qy 0 zx zy hT rfl (by simp [hs]) (by simp [hm]) _ (hzero 0 (.inl rfl))).mono ?_
          rintro r w' ⟨rfl, hg⟩
          have := hnil _ rfl
          rw [if_neg hm] at this
          exact ⟨_, _, this, rfl, hg⟩
      · rw [if_neg hab]
        by_cases hlt : B < A
        · rw [if_pos hlt]
          exact l3Sum_nnR f mode x.s y.s x.e y.e x.s _ bx kx qx gy ky qy (A - B) zx zy (htot' _ _ x0 x1 y0 y1 (.inr (.inl ⟨hs, by omega, rfl, rfl⟩))) (by omega) _ (fun v w hB => round_at h mode m0 m1 ⟨1, x.s, min x.e y.e, A - B⟩ rfl hx.s01 (by dsimp only; omega) hmin.1 hmin.2 1000 (by omega) v w hB)
        · rw [if_neg hlt]
          exact l3Sum_nnR f mode x.s y.s x.e y.e y.s _ bx kx qx gy ky qy (B - A) zx zy (htot' _ _ x0 x1 y0 y1 (.inr (.inr ⟨hs, by omega, rfl, rfl⟩))) (by omega) _ (fun v w hB => round_at h mode m0 m1 ⟨1, y.s, min x.e y.e, B - A⟩ rfl hy.s01 (by dsimp only; omega) hmin.1 hmin.2 1000 (by omega) v w hB)

/-- What an operation on two words answers, by its rule on operands. -/
def OpR (R : Int → Opd → Opd → Opd) (f mode a b Z fl : Int) : Prop :=
  (∃ p mx one inf sg nan x y, IsFmt f p mx one inf sg nan ∧ (0 ≤ mode ∧ mode ≤ 4) ∧ OpdIs p mx one inf sg nan a x ∧ OpdIs p mx one inf sg nan b y ∧ PackIs p (1 - mx) mx one inf sg nan mode (R mode x y) Z fl) ∨
  (∃ p mx one inf sg nan, IsFmt f p mx one inf sg nan ∧ (mode < 0 ∨ 4 < mode) ∧ Z = nan ∧ fl = 1) ∨
  (¬ (f = 0 ∨ f = 1) ∧ Z = 9221120237041090560 ∧ fl = 1)

theorem fmt_of (f : Int) (h : f = 0 ∨ f = 1) : ∃ p mx one inf sg nan, IsFmt f p mx one inf sg nan := by
  rcases h with rfl | rfl
  · exact ⟨_, _, _, _, _, _, .inl ⟨rfl, rfl, rfl, rfl, rfl, rfl, rfl⟩⟩
  · exact ⟨_, _, _, _, _, _, .inr ⟨rfl, rfl, rfl, rfl, rfl, rfl, rfl⟩⟩
theorem IsFmt.one {f p mx one inf sg nan p' mx' one' inf' sg' nan' : Int} (h : IsFmt f p mx one inf sg nan) (h' : IsFmt f p' mx' one' inf' sg' nan') : p = p' ∧ mx = mx' ∧ one = one' ∧ inf = inf' ∧ sg = sg' ∧ nan = nan' := by
  rcases h with ⟨rfl, rfl, rfl, rfl, rfl, rfl, rfl⟩ | ⟨rfl, rfl, rfl, rfl, rfl, rfl, rfl⟩ <;> rcases h' with ⟨e, rfl, rfl, rfl, rfl, rfl, rfl⟩ | ⟨e, rfl, rfl, rfl, rfl, rfl, rfl⟩
  · exact ⟨rfl, rfl, rfl, rfl, rfl, rfl⟩
  · cases e
  · cases e
  · exact ⟨rfl, rfl, rfl, rfl, rfl, rfl⟩

theorem OpR.one {R : Int → Opd → Opd → Opd} {f mode a b Z fl Z' fl' : Int} (h : OpR R f mode a b Z fl) (h' : OpR R f mode a b Z' fl') : Z = Z' ∧ fl = fl' := by
  rcases h with ⟨p, mx, one, inf, sg, nan, x, y, hF, hm, hx, hy, hp⟩ | ⟨p, mx, one, inf, sg, nan, hF, hm, rfl, rfl⟩ | ⟨hF, rfl, rfl⟩ <;>
  rcases h' with ⟨p', mx', one', inf', sg', nan', x', y', hF', hm', hx', hy', hp'⟩ | ⟨p', mx', one', inf', sg', nan', hF', hm', rfl, rfl⟩ | ⟨hF', rfl, rfl⟩
  · obtain ⟨rfl, rfl, rfl, rfl, rfl, rfl⟩ := hF.one hF'
    obtain rfl := hx.one hF hx'
    obtain rfl := hy.one hF hy'
    exact PackIs.one hp hp'
  · exfalso; omega
  · exact absurd hF.yes.symm (by simp [hF'])
  · exfalso; omega
  · obtain ⟨rfl, rfl, rfl, rfl, rfl, rfl⟩ := hF.one hF'
    exact ⟨rfl, rfl⟩
  · exact absurd hF.yes.symm (by simp [hF'])
  · exact absurd hF'.yes.symm (by simp [hF])
  · exact absurd hF'.yes.symm (by simp [hF])
  · exact ⟨rfl, rfl⟩

theorem pack_is (p mn mx one inf sg nan mode : Int) (o : Opd) (c0 : 0 ≤ o.c) (c4 : o.c ≤ 4) : ∃ Z fl, PackIs p mn mx one inf sg nan mode o Z fl := by
  rcases (show o.c = 0 ∨ o.c = 1 ∨ o.c = 2 ∨ o.c = 3 ∨ o.c = 4 by omega) with c | c | c | c | c
  · exact ⟨_, _, .inl ⟨c, rfl, rfl⟩⟩
  · obtain ⟨z, fl, hr⟩ := round_is p mn mx one inf mode o.s o.M o.e false
    exact ⟨_, _, .inr (.inl ⟨c, z, hr, rfl⟩)⟩
  · exact ⟨_, _, .inr (.inr (.inl ⟨c, rfl, rfl⟩))⟩
  · exact ⟨_, _, .inr (.inr (.inr (.inl ⟨c, rfl, rfl⟩)))⟩
  · exact ⟨_, _, .inr (.inr (.inr (.inr ⟨c, rfl, rfl⟩)))⟩

theorem opd_ex {f p mx one inf sg nan : Int} (h : IsFmt f p mx one inf sg nan) (a : Int) (a0 : 0 ≤ a) (a1 : a < 18446744073709551616) : ∃ x, OpdIs p mx one inf sg nan a x := by
  obtain ⟨mn, fb, sp, hm, _, _⟩ := h.m
  obtain ⟨x, hx, _⟩ := opd_is h hm a a0 a1
  exact ⟨x, hx⟩

theorem sumO_c (mode : Int) (x y : Opd) (hx : VO x) (hy : VO y) : 0 ≤ (sumO mode x y).c ∧ (sumO mode x y).c ≤ 4 := by
  have := hx.c0
  have := hx.c4
  have := hy.c0
  have := hy.c4
  have ht := totO_cs mode x y hx.s01 hy.s01
  unfold sumO
  split
  · dsimp only; omega
  · split
    · omega
    · split
      · omega
      · split
        · omega
        · split
          · omega
          · split
            · exact ⟨by decide, by decide⟩
            · unfold nilO; dsimp only; omega

/-- An answer of both sides, out of what each says. -/
theorem both_of (R : Int → Opd → Opd → Opd) (S I : Nat) (hR : ∀ mode x y, VO x → VO y → nb x.M ≤ 53 → nb y.M ≤ 53 → -2000 ≤ x.e → x.e ≤ 2000 → -2000 ≤ y.e → y.e ≤ 2000 → 0 ≤ (R mode x y).c ∧ (R mode x y).c ≤ 4) (f mode a b : Int) (a0 : 0 ≤ a) (a1 : a < 18446744073709551616) (b0 : 0 ≤ b) (b1 : b < 18446744073709551616)
    (hs : ∀ w, Calls Tryz.prog S #[.int .i64 f, .int .i64 mode, .int .u64 a, .int .u64 b] w fun e w' => ∃ Z fl, OpR R f mode a b Z fl ∧ e = .returned (.agg #[.int .u64 Z, .int .i64 fl]) ∧ Gb w w')
    (hi : ∀ w, Fm w → Calls Tryz.prog I #[.int .i64 f, .int .i64 mode, .int .u64 a, .int .u64 b] w fun e w' => ∃ Z fl, OpR R f mode a b Z fl ∧ e = .returned (.agg #[.int .u64 Z, .int .i64 fl]) ∧ Gr w w') :
    ∃ Z fl : Int, OpR R f mode a b Z fl ∧ (∀ w, Calls Tryz.prog S #[.int .i64 f, .int .i64 mode, .int .u64 a, .int .u64 b] w fun e w' => e = .returned (.agg #[.int .u64 Z, .int .i64 fl]) ∧ Gb w w') ∧
      (∀ w, Fm w → Calls Tryz.prog I #[.int .i64 f, .int .i64 mode, .int .u64 a, .int .u64 b] w fun e w' => e = .returned (.agg #[.int .u64 Z, .int .i64 fl]) ∧ Gr w w') := by
  have hex : ∃ Z fl : Int, OpR R f mode a b Z fl := by
    by_cases hf : f = 0 ∨ f = 1
    · obtain ⟨p, mx, one, inf, sg, nan, hF⟩ := fmt_of f hf
      by_cases hm : 0 ≤ mode ∧ mode ≤ 4
      · obtain ⟨x, hx⟩ := opd_ex hF a a0 a1
        obtain ⟨y, hy⟩ := opd_ex hF b b0 b1
        obtain ⟨v1, v2, v3, v4, v5, v6⟩ := opd_vo hF hx
        obtain ⟨u1, u2, u3, u4, u5, u6⟩ := opd_vo hF hy
        obtain ⟨r1, r2⟩ := hR mode x y v1 u1 v6 u6 v4 v5 u4 u5
        obtain ⟨Z, fl, hp⟩ := pack_is p (1 - mx) mx one inf sg nan mode _ r1 r2
        exact ⟨Z, fl, .inl ⟨p, mx, one, inf, sg, nan, x, y, hF, hm, hx, hy, hp⟩⟩
      · exact ⟨_, _, .inr (.inl ⟨p, mx, one, inf, sg, nan, hF, by omega, rfl, rfl⟩)⟩
    · exact ⟨_, _, .inr (.inr ⟨hf, rfl, rfl⟩)⟩
  obtain ⟨Z, fl, h⟩ := hex
  refine ⟨Z, fl, h, fun w => (hs w).mono ?_, fun w hw => (hi w hw).mono ?_⟩
  · rintro e w' ⟨Z', fl', h', rfl, hg⟩
    obtain ⟨rfl, rfl⟩ := OpR.one h h'
    exact ⟨rfl, hg⟩
  · rintro e w' ⟨Z', fl', h', rfl, hg⟩
    obtain ⟨rfl, rfl⟩ := OpR.one h h'
    exact ⟨rfl, hg⟩


theorem unp_det {f p mx one inf sg nan : Int} (h : IsFmt f p mx one inf sg nan) (a : Int) (a0 : 0 ≤ a) (a1 : a < 2 * sg) {x : Opd} (hx : OpdIs p mx one inf sg nan a x) : Hid (∀ w, Calls Tryz.prog 20 #[.int .i64 f, .int .u64 a] w fun e w' => e = .returned (.agg #[.int .i64 x.c, .int .i64 x.s, .int .i64 x.e, .int .u64 (((x.M : Nat) : Int))]) ∧ Gr w w') := fun w => by
  rcases hx with ⟨_, hu⟩ | ⟨c, _⟩
  · refine (specUnpack_fit h a a0 a1 w).mono ?_
    rintro e w' ⟨c, s, x', g, hu', rfl, hg⟩
    obtain ⟨rfl, rfl, rfl, rfl⟩ := UnpackIs.one h hu hu'
    exact ⟨rfl, hg⟩
  · exfalso; omega

theorem opd_wide {f p mx one inf sg nan a : Int} (h : IsFmt f p mx one inf sg nan) {x : Opd} (hx : OpdIs p mx one inf sg nan a x) (hw : 2 * sg ≤ a) : x = ⟨4, 0, 0, 0⟩ := by
  rcases hx with ⟨c, _⟩ | ⟨_, rfl⟩
  · exfalso; omega
  · rfl
theorem nofit_of {f p mx one inf sg nan a b mode : Int} (h : IsFmt f p mx one inf sg nan) (a1 : a < 18446744073709551616) (b1 : b < 18446744073709551616) (hn : 2 * sg ≤ a ∨ 2 * sg ≤ b) : NoFit f mode a b := by
  unfold NoFit
  rcases h with ⟨rfl, rfl, rfl, rfl, rfl, rfl, rfl⟩ | ⟨rfl, rfl, rfl, rfl, rfl, rfl, rfl⟩
  · rcases hn with h | h
    · exact .inr (.inr (.inl ⟨rfl, by omega⟩))
    · exact .inr (.inr (.inr ⟨rfl, by omega⟩))
  · exfalso; omega
theorem bad_nan {p mn mx one inf sg nan mode : Int} {o : Opd} (ho : o.c = 4) : PackIs p mn mx one inf sg nan mode o nan 1 := .inr (.inr (.inr (.inr ⟨ho, rfl, rfl⟩)))
theorem nan_pack {p mn mx one inf sg nan mode : Int} (m : Int) (t : Bool) (h : t = decide (m = 4)) (h3 : 3 ≤ m) (h4 : m ≤ 4) : PackIs p mn mx one inf sg nan mode ⟨m, 0, 0, 0⟩ nan (if t then 1 else 0) := by
  by_cases c : m = 4
  · rw [h, decide_eq_true c]; exact .inr (.inr (.inr (.inr ⟨c, rfl, rfl⟩)))
  · rw [h, decide_eq_false c]; exact .inr (.inr (.inr (.inl ⟨by dsimp only; omega, rfl, rfl⟩)))

theorem bq (c k : Int) : (c == k) = decide (c = k) := by by_cases h : c = k <;> simp [h]

end Go.Proofs.YtpfmfbadeebeeabGreatDoor
