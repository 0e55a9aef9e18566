/- impl.total: its sum or difference, whichever operand is the lesser. -/
import Derived.Test.YtkflpogmhailhaaGreatDoorL3JA
import Derived.Test.YtkflpogmhailhaaGreatDoorL3JB
import Derived.Test.YtkflpogmhailhaaGreatDoorC0
import Derived.Test.YtkflpogmhailhaaGreatDoorB2
set_option linter.unusedVariables false
set_option linter.unusedSimpArgs false
namespace Go.Proofs.YtkflpogmhailhaaGreatDoor
open Go.RowKit

theorem total_core (p mn mx md : Int) (k : Nat) (sx ex mh ml sy ey nh nl ax Ah Al ay Bh Bl : Int) (b : Bool) (gs ga Gh Gl ls la Lh Ll dz Qh Ql os oe oc oh ol : Int) (lost ost : Bool)
    (HLx : Hid (∀ w, Calls Tryz.prog 128 #[.agg #[.int .i64 sx, .int .i64 ex, .int .i64 1, .int .u64 mh, .int .u64 ml, .bool false, .int .i64 0]] w fun x w' => x = .returned (.agg #[.int .i64 sx, .int .i64 ax, .int .i64 1, .int .u64 Ah, .int .u64 Al, .bool false, .int .i64 0]) ∧ Gr w w')) (HLy : Hid (∀ w, Calls Tryz.prog 128 #[.agg #[.int .i64 sy, .int .i64 ey, .int .i64 1, .int .u64 nh, .int .u64 nl, .bool false, .int .i64 0]] w fun x w' => x = .returned (.agg #[.int .i64 sy, .int .i64 ay, .int .i64 1, .int .u64 Bh, .int .u64 Bl, .bool false, .int .i64 0]) ∧ Gr w w')) (HLt : Hid (∀ w, Calls Tryz.prog 129 #[.agg #[.int .i64 sx, .int .i64 ax, .int .i64 1, .int .u64 Ah, .int .u64 Al, .bool false, .int .i64 0], .agg #[.int .i64 sy, .int .i64 ay, .int .i64 1, .int .u64 Bh, .int .u64 Bl, .bool false, .int .i64 0]] w fun x w' => x = .returned (.bool b) ∧ Gr w w'))
    (hsw : b = false ∧ sx = gs ∧ ax = ga ∧ Ah = Gh ∧ Al = Gl ∧ sy = ls ∧ ay = la ∧ Bh = Lh ∧ Bl = Ll ∨ b = true ∧ sy = gs ∧ ay = ga ∧ Bh = Gh ∧ Bl = Gl ∧ sx = ls ∧ ax = la ∧ Ah = Lh ∧ Al = Ll) (hdz : IntKind.i64.wrap (ga - la) = dz) (HSr : Hid (∀ w, Calls Tryz.prog 130 #[.agg #[.int .u64 Lh, .int .u64 Ll], .int .i64 dz] w fun x w' => x = .returned (.tuple #[.agg #[.int .u64 Qh, .int .u64 Ql], .bool lost]) ∧ Gr w w'))
    (hend : (gs = ls ∧ Hid (∀ w, Calls Tryz.prog 131 #[.agg #[.int .u64 Gh, .int .u64 Gl], .agg #[.int .u64 Qh, .int .u64 Ql]] w fun x w' => ∃ b', x = .returned (.tuple #[.agg #[.int .u64 oh, .int .u64 ol], .bool b']) ∧ Gr w w') ∧ gs = os ∧ ga = oe ∧ 1 = oc ∧ lost = ost) ∨ ((gs == ls) = false ∧ lost = true ∧ (∃ Th Tl : Int, Hid (∀ w, Calls Tryz.prog 131 #[.agg #[.int .u64 Qh, .int .u64 Ql], .agg #[.int .u64 0, .int .u64 1]] w fun x w' => ∃ b', x = .returned (.tuple #[.agg #[.int .u64 Th, .int .u64 Tl], .bool b']) ∧ Gr w w') ∧ Hid (∀ w, Calls Tryz.prog 132 #[.agg #[.int .u64 Gh, .int .u64 Gl], .agg #[.int .u64 Th, .int .u64 Tl]] w fun x w' => ∃ b', x = .returned (.tuple #[.agg #[.int .u64 oh, .int .u64 ol], .bool b']) ∧ Gr w w')) ∧ (oh == 0 && ol == 0) = false ∧ gs = os ∧ ga = oe ∧ 1 = oc ∧ true = ost) ∨ ((gs == ls) = false ∧ lost = false ∧ Hid (∀ w, Calls Tryz.prog 132 #[.agg #[.int .u64 Gh, .int .u64 Gl], .agg #[.int .u64 Qh, .int .u64 Ql]] w fun x w' => ∃ b', x = .returned (.tuple #[.agg #[.int .u64 oh, .int .u64 ol], .bool b']) ∧ Gr w w') ∧ (oh == 0 && ol == 0) = false ∧ gs = os ∧ ga = oe ∧ 1 = oc ∧ false = ost) ∨ ((gs == ls) = false ∧ lost = false ∧ Hid (∀ w, Calls Tryz.prog 132 #[.agg #[.int .u64 Gh, .int .u64 Gl], .agg #[.int .u64 Qh, .int .u64 Ql]] w fun x w' => ∃ b', x = .returned (.tuple #[.agg #[.int .u64 0, .int .u64 0], .bool b']) ∧ Gr w w') ∧ Hid (∀ w, Calls Tryz.prog 108 #[.agg #[.int .i64 p, .int .i64 mn, .int .i64 mx, .int .i64 md, .func (.func k) #[] #[]]] w fun x w' => x = .returned (.agg #[.int .i64 os, .int .i64 oe, .int .i64 oc, .int .u64 oh, .int .u64 ol, .bool ost, .int .i64 0]) ∧ Gr w w'))) (w : World) :
    Calls Tryz.prog 107 #[.agg #[.int .i64 p, .int .i64 mn, .int .i64 mx, .int .i64 md, .func (.func k) #[] #[]], .agg #[.int .i64 sx, .int .i64 ex, .int .i64 1, .int .u64 mh, .int .u64 ml, .bool false, .int .i64 0], .agg #[.int .i64 sy, .int .i64 ey, .int .i64 1, .int .u64 nh, .int .u64 nl, .bool false, .int .i64 0]] w fun x w' => x = .returned (.agg #[.int .i64 os, .int .i64 oe, .int .i64 oc, .int .u64 oh, .int .u64 ol, .bool ost, .int .i64 0]) ∧ Gr w w' := by
  rcases hsw with h | h
  · exact total_a p mn mx md k sx ex mh ml sy ey nh nl ax Ah Al ay Bh Bl b gs ga Gh Gl ls la Lh Ll dz Qh Ql os oe oc oh ol lost ost HLx HLy HLt h hdz HSr hend w
  · exact total_b p mn mx md k sx ex mh ml sy ey nh nl ax Ah Al ay Bh Bl b gs ga Gh Gl ls la Lh Ll dz Qh Ql os oe oc oh ol lost ost HLx HLy HLt h hdz HSr hend w
end Go.Proofs.YtkflpogmhailhaaGreatDoor

/- impl.total, impl.sum, impl.difference: what they give stands for the exact sum. -/
set_option linter.unusedVariables false
set_option linter.unusedSimpArgs false
namespace Go.Proofs.YtkflpogmhailhaaGreatDoor
open Go.RowKit
theorem words_nz (R : Nat) (h : 0 < R) : (((R / 18446744073709551616 : Nat) : Int) == 0 && ((R % 18446744073709551616 : Nat) : Int) == 0) = false := by
  rw [Bool.and_eq_false_iff]
  by_cases c : R / 18446744073709551616 = 0
  · right; simp; omega
  · left; simp; omega
theorem add1W (Q : Nat) (h : Q + 1 < 340282366920938463463374607431768211456) (w : World) :
    Calls Tryz.prog 131 #[.agg #[.int .u64 ((Q / 18446744073709551616 : Nat) : Int), .int .u64 ((Q % 18446744073709551616 : Nat) : Int)], .agg #[.int .u64 0, .int .u64 1]] w fun e w' => ∃ b, e = .returned (.tuple #[.agg #[.int .u64 (((Q + 1) / 18446744073709551616 : Nat) : Int), .int .u64 (((Q + 1) % 18446744073709551616 : Nat) : Int)], .bool b]) ∧ Gr w w' := by
  have := addW Q 1 (by omega) (by omega) h w
  rw [show ((1 / 18446744073709551616 : Nat) : Int) = 0 from rfl, show ((1 % 18446744073709551616 : Nat) : Int) = 1 from rfl] at this
  exact this

theorem nil_same (md : Int) : Same (nilO md) 0 (if md = 4 then 1 else 0) 0 0 false := ⟨rfl, fun _ => rfl, fun h => by cases h⟩

/-- The greater and the lesser one, in the order that lessThan found. -/
theorem total_half (p mn mx md : Int) (k : Nat) (x y g l : Opd) (hx : VO x) (hy : VO y) (cx : x.c = 1) (cy : y.c = 1) (b : Bool)
    (hb : b = decide (x.e - (127 - nb x.M : Nat) < y.e - (127 - nb y.M : Nat) ∨ x.e - (127 - nb x.M : Nat) = y.e - (127 - nb y.M : Nat) ∧ x.M * 2 ^ (127 - nb x.M) < y.M * 2 ^ (127 - nb y.M)))
    (hgl : b = false ∧ g = x ∧ l = y ∨ b = true ∧ g = y ∧ l = x) (w : World) :
    Calls Tryz.prog 107 #[.agg #[.int .i64 p, .int .i64 mn, .int .i64 mx, .int .i64 md, .func (.func k) #[] #[]], .agg #[.int .i64 x.s, .int .i64 x.e, .int .i64 1, .int .u64 (((x.M / 18446744073709551616 : Nat) : Int)), .int .u64 (((x.M % 18446744073709551616 : Nat) : Int)), .bool false, .int .i64 0], .agg #[.int .i64 y.s, .int .i64 y.e, .int .i64 1, .int .u64 (((y.M / 18446744073709551616 : Nat) : Int)), .int .u64 (((y.M % 18446744073709551616 : Nat) : Int)), .bool false, .int .i64 0]] w fun r w' => ∃ (c s e : Int) (M : Nat) (st : Bool), Same (totO md g l) c s e M st ∧ r = .returned (.agg #[.int .i64 s, .int .i64 e, .int .i64 c, .int .u64 (((M / 18446744073709551616 : Nat) : Int)), .int .u64 (((M % 18446744073709551616 : Nat) : Int)), .bool st, .int .i64 0]) ∧ Gr w w' := by
  obtain ⟨fx0, fxn⟩ := hx.fin cx
  obtain ⟨fy0, fyn⟩ := hy.fin cy
  have hxe0 := hx.e0
  have hxe1 := hx.e1
  have hye0 := hy.e0
  have hye1 := hy.e1
  have HLx : Hid (∀ w, Calls Tryz.prog 128 #[.agg #[.int .i64 x.s, .int .i64 x.e, .int .i64 1, .int .u64 (((x.M / 18446744073709551616 : Nat) : Int)), .int .u64 (((x.M % 18446744073709551616 : Nat) : Int)), .bool false, .int .i64 0]] w fun r w' => r = .returned (.agg #[.int .i64 x.s, .int .i64 (x.e - (127 - nb x.M : Nat)), .int .i64 1, .int .u64 (((x.M * 2 ^ (127 - nb x.M) / 18446744073709551616 : Nat) : Int)), .int .u64 (((x.M * 2 ^ (127 - nb x.M) % 18446744073709551616 : Nat) : Int)), .bool false, .int .i64 0]) ∧ Gr w w') := fun w => lifted_any x.s x.e 1 x.M false fx0 fxn (by omega) (by omega) w
  have HLy : Hid (∀ w, Calls Tryz.prog 128 #[.agg #[.int .i64 y.s, .int .i64 y.e, .int .i64 1, .int .u64 (((y.M / 18446744073709551616 : Nat) : Int)), .int .u64 (((y.M % 18446744073709551616 : Nat) : Int)), .bool false, .int .i64 0]] w fun r w' => r = .returned (.agg #[.int .i64 y.s, .int .i64 (y.e - (127 - nb y.M : Nat)), .int .i64 1, .int .u64 (((y.M * 2 ^ (127 - nb y.M) / 18446744073709551616 : Nat) : Int)), .int .u64 (((y.M * 2 ^ (127 - nb y.M) % 18446744073709551616 : Nat) : Int)), .bool false, .int .i64 0]) ∧ Gr w w') := fun w => lifted_any y.s y.e 1 y.M false fy0 fyn (by omega) (by omega) w
  obtain ⟨bx1, bx2⟩ := lift_bounds x.M fx0 fxn
  obtain ⟨by1, by2⟩ := lift_bounds y.M fy0 fyn
  have HLt : Hid (∀ w, Calls Tryz.prog 129 #[.agg #[.int .i64 x.s, .int .i64 (x.e - (127 - nb x.M : Nat)), .int .i64 1, .int .u64 (((x.M * 2 ^ (127 - nb x.M) / 18446744073709551616 : Nat) : Int)), .int .u64 (((x.M * 2 ^ (127 - nb x.M) % 18446744073709551616 : Nat) : Int)), .bool false, .int .i64 0], .agg #[.int .i64 y.s, .int .i64 (y.e - (127 - nb y.M : Nat)), .int .i64 1, .int .u64 (((y.M * 2 ^ (127 - nb y.M) / 18446744073709551616 : Nat) : Int)), .int .u64 (((y.M * 2 ^ (127 - nb y.M) % 18446744073709551616 : Nat) : Int)), .bool false, .int .i64 0]] w fun r w' => r = .returned (.bool b) ∧ Gr w w') := fun w => lessThan_any x.s _ 1 y.s _ 1 _ _ false false b (by omega) (by omega) hb w
  have hg0 : 0 < g.M ∧ nb g.M ≤ 106 ∧ -5000 ≤ g.e ∧ g.e ≤ 5000 := by rcases hgl with ⟨_, rfl, rfl⟩ | ⟨_, rfl, rfl⟩ <;> exact ⟨by assumption, by assumption, by assumption, by assumption⟩
  have hl0 : 0 < l.M ∧ nb l.M ≤ 106 ∧ -5000 ≤ l.e ∧ l.e ≤ 5000 := by rcases hgl with ⟨_, rfl, rfl⟩ | ⟨_, rfl, rfl⟩ <;> exact ⟨by assumption, by assumption, by assumption, by assumption⟩
  obtain ⟨g0, gn, ge0, ge1⟩ := hg0
  obtain ⟨l0, ln, le0, le1⟩ := hl0
  obtain ⟨bg1, bg2⟩ := lift_bounds g.M g0 gn
  obtain ⟨bl1, bl2⟩ := lift_bounds l.M l0 ln
  -- the order
  have hord : l.e - (127 - nb l.M : Nat) ≤ g.e - (127 - nb g.M : Nat) ∧ (l.e - (127 - nb l.M : Nat) = g.e - (127 - nb g.M : Nat) → l.M * 2 ^ (127 - nb l.M) ≤ g.M * 2 ^ (127 - nb g.M)) := by
    rcases hgl with ⟨rfl, rfl, rfl⟩ | ⟨rfl, rfl, rfl⟩
    · have := of_decide_eq_false hb.symm
      refine ⟨by omega, fun e => ?_⟩
      omega
    · have := of_decide_eq_true hb.symm
      refine ⟨by omega, fun e => ?_⟩
      omega
  obtain ⟨d, hd⟩ : ∃ d : Nat, (d : Int) = (g.e - (127 - nb g.M : Nat)) - (l.e - (127 - nb l.M : Nat)) := ⟨((g.e - (127 - nb g.M : Nat)) - (l.e - (127 - nb l.M : Nat))).toNat, by omega⟩
  obtain ⟨T1, T2, T3⟩ := tot_same md g l _ _ d _ _ g0 gn l0 ln rfl rfl rfl rfl hd (fun h0 => hord.2 (by omega)) ⟨by omega, by omega⟩
  have hsw : ∀ gs ga Gh Gl ls la Lh Ll : Int, gs = g.s → ga = g.e - (127 - nb g.M : Nat) → Gh = ((g.M * 2 ^ (127 - nb g.M) / 18446744073709551616 : Nat) : Int) → Gl = ((g.M * 2 ^ (127 - nb g.M) % 18446744073709551616 : Nat) : Int) → ls = l.s → la = l.e - (127 - nb l.M : Nat) → Lh = ((l.M * 2 ^ (127 - nb l.M) / 18446744073709551616 : Nat) : Int) → Ll = ((l.M * 2 ^ (127 - nb l.M) % 18446744073709551616 : Nat) : Int) →
      (b = false ∧ x.s = gs ∧ x.e - (127 - nb x.M : Nat) = ga ∧ ((x.M * 2 ^ (127 - nb x.M) / 18446744073709551616 : Nat) : Int) = Gh ∧ ((x.M * 2 ^ (127 - nb x.M) % 18446744073709551616 : Nat) : Int) = Gl ∧ y.s = ls ∧ y.e - (127 - nb y.M : Nat) = la ∧ ((y.M * 2 ^ (127 - nb y.M) / 18446744073709551616 : Nat) : Int) = Lh ∧ ((y.M * 2 ^ (127 - nb y.M) % 18446744073709551616 : Nat) : Int) = Ll) ∨
      (b = true ∧ y.s = gs ∧ y.e - (127 - nb y.M : Nat) = ga ∧ ((y.M * 2 ^ (127 - nb y.M) / 18446744073709551616 : Nat) : Int) = Gh ∧ ((y.M * 2 ^ (127 - nb y.M) % 18446744073709551616 : Nat) : Int) = Gl ∧ x.s = ls ∧ x.e - (127 - nb x.M : Nat) = la ∧ ((x.M * 2 ^ (127 - nb x.M) / 18446744073709551616 : Nat) : Int) = Lh ∧ ((x.M * 2 ^ (127 - nb x.M) % 18446744073709551616 : Nat) : Int) = Ll) := by
    rintro gs ga Gh Gl ls la Lh Ll rfl rfl rfl rfl rfl rfl rfl rfl
    rcases hgl with ⟨rfl, rfl, rfl⟩ | ⟨rfl, rfl, rfl⟩
    · exact .inl ⟨rfl, rfl, rfl, rfl, rfl, rfl, rfl, rfl, rfl⟩
    · exact .inr ⟨rfl, rfl, rfl, rfl, rfl, rfl, rfl, rfl, rfl⟩
  have hsw' := hsw _ _ _ _ _ _ _ _ rfl rfl rfl rfl rfl rfl rfl rfl
  have hdz : IntKind.i64.wrap ((g.e - (127 - nb g.M : Nat)) - (l.e - (127 - nb l.M : Nat))) = (d : Int) := by rw [← hd, IntKind.wrap_i64]; omega
  have HSr := fun w => shrM (l.M * 2 ^ (127 - nb l.M)) (by omega) d w
  clear hsw hord
  obtain ⟨A, hA⟩ : ∃ A, g.M * 2 ^ (127 - nb g.M) = A := ⟨_, rfl⟩
  obtain ⟨B, hB⟩ : ∃ B, l.M * 2 ^ (127 - nb l.M) = B := ⟨_, rfl⟩
  rw [hA] at T1 T2 T3 bg1 bg2
  rw [hB] at T1 T2 T3 bl1 bl2
  rw [hA, hB] at hsw'
  rw [hB] at HSr
  have hQ : B / 2 ^ d ≤ B := Nat.div_le_self _ _
  by_cases hs : g.s = l.s
  · obtain ⟨t1, t2⟩ := T1 hs
    refine (total_core p mn mx md k _ _ _ _ _ _ _ _ _ _ _ _ _ _ b _ _ _ _ _ _ _ _ d _ _ g.s (g.e - (127 - nb g.M : Nat)) 1 (((A + B / 2 ^ d) / 18446744073709551616 : Nat) : Int) (((A + B / 2 ^ d) % 18446744073709551616 : Nat) : Int) _ _ HLx HLy HLt hsw' hdz HSr (.inl ⟨hs, fun w => addW A (B / 2 ^ d) (by omega) (by omega) t1 w, rfl, rfl, rfl, rfl⟩) w).mono ?_
    rintro r w' ⟨rfl, hg⟩
    exact ⟨_, _, _, _, _, t2, rfl, hg⟩
  · have hne : (g.s == l.s) = false := by simp [hs]
    by_cases hr : B % 2 ^ d = 0
    · obtain ⟨t1, t2, t3⟩ := T3 hs hr
      have hl : decide (B % 2 ^ d ≠ 0) = false := by simp [hr]
      rw [hl] at HSr
      rcases Nat.eq_zero_or_pos (A - B / 2 ^ d) with hz | hz
      · have hsub := fun w => subW A (B / 2 ^ d) (by omega) t1 w
        rw [hz] at hsub
        refine (total_core p mn mx md k _ _ _ _ _ _ _ _ _ _ _ _ _ _ b _ _ _ _ _ _ _ _ d _ _ (if md = 4 then 1 else 0) 0 0 0 0 _ false HLx HLy HLt hsw' hdz HSr (.inr (.inr (.inr ⟨hne, rfl, hsub, fun w => nothing_any p mn mx md k w⟩))) w).mono ?_
        rintro r w' ⟨rfl, hg⟩
        refine ⟨_, _, _, 0, _, ?_, rfl, hg⟩
        rw [t3 hz]
        exact nil_same md
      · refine (total_core p mn mx md k _ _ _ _ _ _ _ _ _ _ _ _ _ _ b _ _ _ _ _ _ _ _ d _ _ g.s (g.e - (127 - nb g.M : Nat)) 1 (((A - B / 2 ^ d) / 18446744073709551616 : Nat) : Int) (((A - B / 2 ^ d) % 18446744073709551616 : Nat) : Int) _ false HLx HLy HLt hsw' hdz HSr (.inr (.inr (.inl ⟨hne, rfl, fun w => subW A (B / 2 ^ d) (by omega) t1 w, words_nz _ hz, rfl, rfl, rfl, rfl⟩))) w).mono ?_
        rintro r w' ⟨rfl, hg⟩
        exact ⟨_, _, _, _, _, t2 hz, rfl, hg⟩
    · obtain ⟨t1, t2, t3⟩ := T2 hs hr
      have hl : decide (B % 2 ^ d ≠ 0) = true := by simp [hr]
      rw [hl] at HSr
      refine (total_core p mn mx md k _ _ _ _ _ _ _ _ _ _ _ _ _ _ b _ _ _ _ _ _ _ _ d _ _ g.s (g.e - (127 - nb g.M : Nat)) 1 (((A - (B / 2 ^ d + 1)) / 18446744073709551616 : Nat) : Int) (((A - (B / 2 ^ d + 1)) % 18446744073709551616 : Nat) : Int) _ true HLx HLy HLt hsw' hdz HSr (.inr (.inl ⟨hne, rfl, ⟨_, _, fun w => add1W (B / 2 ^ d) (by omega) w, fun w => subW A (B / 2 ^ d + 1) (by omega) t1 w⟩, words_nz _ t2, rfl, rfl, rfl, rfl⟩)) w).mono ?_
      rintro r w' ⟨rfl, hg⟩
      exact ⟨_, _, _, _, _, t3, rfl, hg⟩

theorem total_any (p mn mx md : Int) (k : Nat) (x y : Opd) (hx : VO x) (hy : VO y) (cx : x.c = 1) (cy : y.c = 1) (w : World) :
    Calls Tryz.prog 107 #[.agg #[.int .i64 p, .int .i64 mn, .int .i64 mx, .int .i64 md, .func (.func k) #[] #[]], .agg #[.int .i64 x.s, .int .i64 x.e, .int .i64 1, .int .u64 (((x.M / 18446744073709551616 : Nat) : Int)), .int .u64 (((x.M % 18446744073709551616 : Nat) : Int)), .bool false, .int .i64 0], .agg #[.int .i64 y.s, .int .i64 y.e, .int .i64 1, .int .u64 (((y.M / 18446744073709551616 : Nat) : Int)), .int .u64 (((y.M % 18446744073709551616 : Nat) : Int)), .bool false, .int .i64 0]] w fun r w' => ∃ (c s e : Int) (M : Nat) (st : Bool), Same (totO md x y) c s e M st ∧ r = .returned (.agg #[.int .i64 s, .int .i64 e, .int .i64 c, .int .u64 (((M / 18446744073709551616 : Nat) : Int)), .int .u64 (((M % 18446744073709551616 : Nat) : Int)), .bool st, .int .i64 0]) ∧ Gr w w' := by
  obtain ⟨b, hb⟩ : ∃ b : Bool, b = decide (x.e - (127 - nb x.M : Nat) < y.e - (127 - nb y.M : Nat) ∨ x.e - (127 - nb x.M : Nat) = y.e - (127 - nb y.M : Nat) ∧ x.M * 2 ^ (127 - nb x.M) < y.M * 2 ^ (127 - nb y.M)) := ⟨_, rfl⟩
  cases b
  · exact total_half p mn mx md k x y x y hx hy cx cy false hb (.inl ⟨rfl, rfl, rfl⟩) w
  · rw [totO_comm]
    exact total_half p mn mx md k x y y x hx hy cx cy true hb (.inr ⟨rfl, rfl, rfl⟩) w
end Go.Proofs.YtkflpogmhailhaaGreatDoor

/- Sums of operands. -/
set_option linter.unusedVariables false
set_option linter.unusedSimpArgs false
namespace Go.Proofs.YtkflpogmhailhaaGreatDoor
open Go.RowKit

theorem nilO_s (md : Int) : (nilO md).s = 0 ∨ (nilO md).s = 1 := by
  unfold nilO; dsimp only; split
  · exact .inr rfl
  · exact .inl rfl
theorem totO_cs (md : Int) (x y : Opd) (hx : x.s = 0 ∨ x.s = 1) (hy : y.s = 0 ∨ y.s = 1) : ((totO md x y).c = 0 ∨ (totO md x y).c = 1) ∧ ((totO md x y).s = 0 ∨ (totO md x y).s = 1) := by
  unfold totO
  split
  · exact ⟨.inr rfl, hx⟩
  · split
    · exact ⟨.inl rfl, nilO_s md⟩
    · split
      · exact ⟨.inr rfl, hx⟩
      · exact ⟨.inr rfl, hy⟩

theorem sum_any (p mn mx md : Int) (k : Nat) (x y : Opd) (hx : VO x) (hy : VO y) (h2 : max x.c y.c < 3) (w : World) :
    Calls Tryz.prog 55 #[.agg #[.int .i64 p, .int .i64 mn, .int .i64 mx, .int .i64 md, .func (.func k) #[] #[]], .agg #[.int .i64 x.s, .int .i64 x.e, .int .i64 x.c, .int .u64 (((x.M / 18446744073709551616 : Nat) : Int)), .int .u64 (((x.M % 18446744073709551616 : Nat) : Int)), .bool false, .int .i64 0], .agg #[.int .i64 y.s, .int .i64 y.e, .int .i64 y.c, .int .u64 (((y.M / 18446744073709551616 : Nat) : Int)), .int .u64 (((y.M % 18446744073709551616 : Nat) : Int)), .bool false, .int .i64 0]] w fun e w' => ∃ os oe oc oh ol ot, SameV (sumO md x y) os oe oc oh ol ot ∧ e = .returned (.agg #[.int .i64 os, .int .i64 oe, .int .i64 oc, .int .u64 oh, .int .u64 ol, .bool ot, .int .i64 0]) ∧ Gr w w' := by
  have c0 := hx.c0
  have d0 := hy.c0
  unfold sumO
  rw [if_neg (show ¬ 3 ≤ max x.c y.c by omega)]
  by_cases c1 : y.c < x.c
  · rw [if_pos c1]
    refine (sum_gt p mn mx md k _ _ _ _ _ _ _ _ _ _ _ _ c1 w).mono ?_
    rintro r w' ⟨rfl, hg⟩
    exact ⟨_, _, _, _, _, _, hx.same, rfl, hg⟩
  · rw [if_neg c1]
    by_cases c2 : x.c < y.c
    · rw [if_pos c2]
      refine (sum_lt p mn mx md k _ _ _ _ _ _ _ _ _ _ _ _ c2 w).mono ?_
      rintro r w' ⟨rfl, hg⟩
      exact ⟨_, _, _, _, _, _, hy.same, rfl, hg⟩
    · rw [if_neg c2]
      by_cases c3 : x.c = 1
      · rw [if_pos c3]
        refine (sum_tot p mn mx md k _ _ _ _ _ _ _ _ _ _ _ _ c3 (by omega) (fun os oe oc oh ol ot => SameV (totO md x y) os oe oc oh ol ot) (fun w => ?_) w).mono (fun e w' h => h)
        refine (total_any p mn mx md k x y hx hy c3 (by omega) w).mono ?_
        rintro r w' ⟨c, s, e, M, st, hsm, rfl, hg⟩
        obtain ⟨t1, t2⟩ := totO_cs md x y hx.s01 hy.s01
        have tc := hsm.1
        exact ⟨_, _, _, _, _, _, ⟨M, rfl, rfl, hsm, by omega, by omega, fun hc => by rw [← hsm.2.1 hc]; exact t2⟩, rfl, hg⟩
      · rw [if_neg c3]
        by_cases c4 : x.s = y.s
        · rw [if_pos c4]
          refine (sum_sg p mn mx md k _ _ _ _ _ _ _ _ _ _ _ _ (by omega) (by simp [c3]) c4 w).mono ?_
          rintro r w' ⟨rfl, hg⟩
          exact ⟨_, _, _, _, _, _, hx.same, rfl, hg⟩
        · rw [if_neg c4]
          by_cases c5 : x.c = 2
          · rw [if_pos c5]
            refine (sum_inf p mn mx md k _ _ _ _ _ _ _ _ _ _ _ _ c5 (by omega) (by simp [c4]) w).mono ?_
            rintro r w' ⟨rfl, hg⟩
            exact ⟨_, _, _, _, _, _, ⟨0, rfl, rfl, ⟨rfl, fun _ => rfl, (fun h => by cases h)⟩, (show (0 : Int) ≤ 4 by omega), (show (4 : Int) ≤ 4 by omega), fun _ => .inl rfl⟩, rfl, hg⟩
          · rw [if_neg c5]
            refine (sum_nil p mn mx md k _ _ _ _ _ _ _ _ _ _ _ _ (by omega) (by omega) (by simp [c4]) _ _ _ _ _ _ (fun w => nothing_any p mn mx md k w) w).mono ?_
            rintro r w' ⟨rfl, hg⟩
            exact ⟨_, _, _, _, _, _, ⟨0, rfl, rfl, nil_same md, by omega, by omega, fun _ => nilO_s md⟩, rfl, hg⟩

theorem VO.turn {x : Opd} (h : VO x) : VO (turnO x) := ⟨h.c0, h.c4, by have := h.s01; unfold turnO; dsimp only; omega, h.fin, h.nil, h.e0, h.e1⟩

theorem sumO_nan (md : Int) (x y : Opd) (h : 3 ≤ max x.c y.c) : sumO md x y = ⟨max x.c y.c, 0, 0, 0⟩ := by unfold sumO; rw [if_pos h]

theorem combine_sum_any (p mn mx md : Int) (k : Nat) (x y : Opd) (hx : VO x) (hy : VO y) (w : World) :
    Calls Tryz.prog 71 #[.agg #[.int .i64 p, .int .i64 mn, .int .i64 mx, .int .i64 md, .func (.func k) #[] #[]], .func (.func 55) #[] #[], .agg #[.int .i64 x.s, .int .i64 x.e, .int .i64 x.c, .int .u64 (((x.M / 18446744073709551616 : Nat) : Int)), .int .u64 (((x.M % 18446744073709551616 : Nat) : Int)), .bool false, .int .i64 0], .agg #[.int .i64 y.s, .int .i64 y.e, .int .i64 y.c, .int .u64 (((y.M / 18446744073709551616 : Nat) : Int)), .int .u64 (((y.M % 18446744073709551616 : Nat) : Int)), .bool false, .int .i64 0]] w fun e w' => ∃ os oe oc oh ol ot, SameV (sumO md x y) os oe oc oh ol ot ∧ e = .returned (.agg #[.int .i64 os, .int .i64 oe, .int .i64 oc, .int .u64 oh, .int .u64 ol, .bool ot, .int .i64 0]) ∧ Gr w w' := by
  by_cases h : 3 ≤ max x.c y.c
  · refine (combine_nan p mn mx md k _ _ _ _ _ _ _ _ _ _ _ _ 55 _ rfl h w).mono ?_
    rintro r w' ⟨rfl, hg⟩
    have := hx.c4
    have := hy.c4
    rw [sumO_nan md x y h]
    exact ⟨_, _, _, _, _, _, nan_same _ h (by omega), rfl, hg⟩
  · exact combine_sum p mn mx md k _ _ _ _ _ _ _ _ _ _ _ _ _ rfl (by omega) _ (fun w => sum_any p mn mx md k x y hx hy (by omega) w) w

end Go.Proofs.YtkflpogmhailhaaGreatDoor
