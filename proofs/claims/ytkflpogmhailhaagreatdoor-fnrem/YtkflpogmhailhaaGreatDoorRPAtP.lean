/- impl's roundAt: the ways through it. -/
import Derived.Test.YtkflpogmhailhaaGreatDoorB1
set_option linter.unusedVariables false
set_option linter.unusedSimpArgs false
namespace Go.Proofs.YtkflpogmhailhaaGreatDoor
open Go.RowKit

set_option maxRecDepth 100000 in
set_option maxHeartbeats 2000000 in
theorem roundAt_neg (M : Nat) (hM : M < 340282366920938463463374607431768211456) (drop sign : Int) (sticky : Bool) (k : Nat) (fv : Value) (hd : drop ≤ 0) (d0 : -128 ≤ drop) (hk : 0 - drop = (k : Int)) (h : M * 2 ^ k < 18446744073709551616) (w : World) :
    Calls Tryz.prog 143 #[fv, .int .i64 drop, .int .i64 sign, .agg #[.int .u64 ((M / 18446744073709551616 : Nat) : Int), .int .u64 ((M % 18446744073709551616 : Nat) : Int)], .bool sticky] w fun e w' => e = .returned (.tuple #[.int .u64 ((M * 2 ^ k : Nat) : Int), .bool false]) ∧ Gr w w' := by
  have HS : Hid (∀ w, Calls Tryz.prog 149 #[.agg #[.int .u64 ((M / 18446744073709551616 : Nat) : Int), .int .u64 ((M % 18446744073709551616 : Nat) : Int)], .int .i64 (-drop)] w fun e w' => e = .returned (.agg #[.int .u64 0, .int .u64 ((M * 2 ^ k : Nat) : Int)]) ∧ Gr w w') := fun w => by
    rw [show -drop = (k : Int) by omega]
    exact shlM M hM k (by omega) h w
  generalize ((M / 18446744073709551616 : Nat) : Int) = mh at *
  generalize ((M % 18446744073709551616 : Nat) : Int) = ml at *
  generalize ((M * 2 ^ k : Nat) : Int) = c at *
  clear h hk
  have hfd : ∀ (w : World) (a b : Int), (Instr.field 78 (.agg #[.int .u64 a, .int .u64 b]) 1).run Tryz.prog w = .ok (.int .u64 b) w := fun _ _ _ => by kernel_rfl
  go_enter Tryz.func143, Tryz.ntmps143
  go_wp2_with (go_at_call 149; refine (HS.out _).mono ?_; rintro e w1 ⟨rfl, hg_w1⟩)
  go_returns
  exact ⟨rfl, kr⟩


set_option maxRecDepth 100000 in
set_option maxHeartbeats 4000000 in
theorem roundAt_nearestEven (mh ml hh hl kh kl drop sign o : Int) (lost hb sticky sB oB rB U : Bool) (hd : 0 < drop) (d1 : drop ≤ 1000000) (hsB : (sign == 1) = sB) (ho : bits .and .u64 kl 1 = o) (hoB : (o == 1) = oB) (hrB : (lost || sticky) = rB) (k0 : 0 ≤ kl) (k1 : kl < 18446744073709551615) (hU : ru 0 sB oB hb rB = U)
    (HS1 : Hid (∀ w, Calls Tryz.prog 130 #[.agg #[.int .u64 mh, .int .u64 ml], .int .i64 (drop - 1)] w fun e w' => e = .returned (.tuple #[.agg #[.int .u64 hh, .int .u64 hl], .bool lost]) ∧ Gr w w'))
    (HS2 : Hid (∀ w, Calls Tryz.prog 130 #[.agg #[.int .u64 hh, .int .u64 hl], .int .i64 1] w fun e w' => e = .returned (.tuple #[.agg #[.int .u64 kh, .int .u64 kl], .bool hb]) ∧ Gr w w')) (w : World) :
    Calls Tryz.prog 143 #[.func (.func 95) #[] #[], .int .i64 drop, .int .i64 sign, .agg #[.int .u64 mh, .int .u64 ml], .bool sticky] w fun e w' => e = .returned (.tuple #[.int .u64 (kl + (if U then 1 else 0)), .bool (hb || rB)]) ∧ Gr w w' := by
  have HR : Hid (∀ w, Calls Tryz.prog 95 #[.bool sB, .bool oB, .bool hb, .bool rB] w fun e w' => e = .returned (.bool U) ∧ w = w') := fun w => hU ▸ nearestEven_any sB oB hb rB w
  clear hU
  cases lost <;> cases hb <;> cases U
  all_goals
    simp only [Bool.false_or, Bool.true_or] at hrB
    subst hrB
    go_enter Tryz.func143, Tryz.ntmps143
    go_upto_region 4 with (go_at_call 130; refine (HS1.out _).mono ?_; rintro e w1 ⟨rfl, hg_w1⟩)
    go_upto_region 5 with (go_at_call 130; refine (HS2.out _).mono ?_; rintro e w2 ⟨rfl, hg_w2⟩)
    go_wp2_with (first | (go_at_call 95; refine (HR.out _).mono ?_; rintro e w3 ⟨rfl, hw⟩; subst hw))
    go_returns
    exact ⟨by simp, kr⟩


set_option maxRecDepth 100000 in
set_option maxHeartbeats 4000000 in
theorem roundAt_nearestAway (mh ml hh hl kh kl drop sign o : Int) (lost hb sticky sB oB rB U : Bool) (hd : 0 < drop) (d1 : drop ≤ 1000000) (hsB : (sign == 1) = sB) (ho : bits .and .u64 kl 1 = o) (hoB : (o == 1) = oB) (hrB : (lost || sticky) = rB) (k0 : 0 ≤ kl) (k1 : kl < 18446744073709551615) (hU : ru 1 sB oB hb rB = U)
    (HS1 : Hid (∀ w, Calls Tryz.prog 130 #[.agg #[.int .u64 mh, .int .u64 ml], .int .i64 (drop - 1)] w fun e w' => e = .returned (.tuple #[.agg #[.int .u64 hh, .int .u64 hl], .bool lost]) ∧ Gr w w'))
    (HS2 : Hid (∀ w, Calls Tryz.prog 130 #[.agg #[.int .u64 hh, .int .u64 hl], .int .i64 1] w fun e w' => e = .returned (.tuple #[.agg #[.int .u64 kh, .int .u64 kl], .bool hb]) ∧ Gr w w')) (w : World) :
    Calls Tryz.prog 143 #[.func (.func 137) #[] #[], .int .i64 drop, .int .i64 sign, .agg #[.int .u64 mh, .int .u64 ml], .bool sticky] w fun e w' => e = .returned (.tuple #[.int .u64 (kl + (if U then 1 else 0)), .bool (hb || rB)]) ∧ Gr w w' := by
  have HR : Hid (∀ w, Calls Tryz.prog 137 #[.bool sB, .bool oB, .bool hb, .bool rB] w fun e w' => e = .returned (.bool U) ∧ w = w') := fun w => hU ▸ nearestAway_any sB oB hb rB w
  clear hU
  cases lost <;> cases hb <;> cases U
  all_goals
    simp only [Bool.false_or, Bool.true_or] at hrB
    subst hrB
    go_enter Tryz.func143, Tryz.ntmps143
    go_upto_region 4 with (go_at_call 130; refine (HS1.out _).mono ?_; rintro e w1 ⟨rfl, hg_w1⟩)
    go_upto_region 5 with (go_at_call 130; refine (HS2.out _).mono ?_; rintro e w2 ⟨rfl, hg_w2⟩)
    go_wp2_with (first | (go_at_call 137; refine (HR.out _).mono ?_; rintro e w3 ⟨rfl, hw⟩; subst hw))
    go_returns
    exact ⟨by simp, kr⟩


set_option maxRecDepth 100000 in
set_option maxHeartbeats 4000000 in
theorem roundAt_towardZero (mh ml hh hl kh kl drop sign o : Int) (lost hb sticky sB oB rB U : Bool) (hd : 0 < drop) (d1 : drop ≤ 1000000) (hsB : (sign == 1) = sB) (ho : bits .and .u64 kl 1 = o) (hoB : (o == 1) = oB) (hrB : (lost || sticky) = rB) (k0 : 0 ≤ kl) (k1 : kl < 18446744073709551615) (hU : ru 2 sB oB hb rB = U)
    (HS1 : Hid (∀ w, Calls Tryz.prog 130 #[.agg #[.int .u64 mh, .int .u64 ml], .int .i64 (drop - 1)] w fun e w' => e = .returned (.tuple #[.agg #[.int .u64 hh, .int .u64 hl], .bool lost]) ∧ Gr w w'))
    (HS2 : Hid (∀ w, Calls Tryz.prog 130 #[.agg #[.int .u64 hh, .int .u64 hl], .int .i64 1] w fun e w' => e = .returned (.tuple #[.agg #[.int .u64 kh, .int .u64 kl], .bool hb]) ∧ Gr w w')) (w : World) :
    Calls Tryz.prog 143 #[.func (.func 138) #[] #[], .int .i64 drop, .int .i64 sign, .agg #[.int .u64 mh, .int .u64 ml], .bool sticky] w fun e w' => e = .returned (.tuple #[.int .u64 (kl + (if U then 1 else 0)), .bool (hb || rB)]) ∧ Gr w w' := by
  have HR : Hid (∀ w, Calls Tryz.prog 138 #[.bool sB, .bool oB, .bool hb, .bool rB] w fun e w' => e = .returned (.bool U) ∧ w = w') := fun w => hU ▸ towardZero_any sB oB hb rB w
  clear hU
  cases lost <;> cases hb <;> cases U
  all_goals
    simp only [Bool.false_or, Bool.true_or] at hrB
    subst hrB
    go_enter Tryz.func143, Tryz.ntmps143
    go_upto_region 4 with (go_at_call 130; refine (HS1.out _).mono ?_; rintro e w1 ⟨rfl, hg_w1⟩)
    go_upto_region 5 with (go_at_call 130; refine (HS2.out _).mono ?_; rintro e w2 ⟨rfl, hg_w2⟩)
    go_wp2_with (first | (go_at_call 138; refine (HR.out _).mono ?_; rintro e w3 ⟨rfl, hw⟩; subst hw))
    go_returns
    exact ⟨by simp, kr⟩


set_option maxRecDepth 100000 in
set_option maxHeartbeats 4000000 in
theorem roundAt_upward (mh ml hh hl kh kl drop sign o : Int) (lost hb sticky sB oB rB U : Bool) (hd : 0 < drop) (d1 : drop ≤ 1000000) (hsB : (sign == 1) = sB) (ho : bits .and .u64 kl 1 = o) (hoB : (o == 1) = oB) (hrB : (lost || sticky) = rB) (k0 : 0 ≤ kl) (k1 : kl < 18446744073709551615) (hU : ru 3 sB oB hb rB = U)
    (HS1 : Hid (∀ w, Calls Tryz.prog 130 #[.agg #[.int .u64 mh, .int .u64 ml], .int .i64 (drop - 1)] w fun e w' => e = .returned (.tuple #[.agg #[.int .u64 hh, .int .u64 hl], .bool lost]) ∧ Gr w w'))
    (HS2 : Hid (∀ w, Calls Tryz.prog 130 #[.agg #[.int .u64 hh, .int .u64 hl], .int .i64 1] w fun e w' => e = .returned (.tuple #[.agg #[.int .u64 kh, .int .u64 kl], .bool hb]) ∧ Gr w w')) (w : World) :
    Calls Tryz.prog 143 #[.func (.func 139) #[] #[], .int .i64 drop, .int .i64 sign, .agg #[.int .u64 mh, .int .u64 ml], .bool sticky] w fun e w' => e = .returned (.tuple #[.int .u64 (kl + (if U then 1 else 0)), .bool (hb || rB)]) ∧ Gr w w' := by
  have HR : Hid (∀ w, Calls Tryz.prog 139 #[.bool sB, .bool oB, .bool hb, .bool rB] w fun e w' => e = .returned (.bool U) ∧ w = w') := fun w => hU ▸ upward_any sB oB hb rB w
  clear hU
  cases lost <;> cases hb <;> cases U
  all_goals
    simp only [Bool.false_or, Bool.true_or] at hrB
    subst hrB
    go_enter Tryz.func143, Tryz.ntmps143
    go_upto_region 4 with (go_at_call 130; refine (HS1.out _).mono ?_; rintro e w1 ⟨rfl, hg_w1⟩)
    go_upto_region 5 with (go_at_call 130; refine (HS2.out _).mono ?_; rintro e w2 ⟨rfl, hg_w2⟩)
    go_wp2_with (first | (go_at_call 139; refine (HR.out _).mono ?_; rintro e w3 ⟨rfl, hw⟩; subst hw))
    go_returns
    exact ⟨by simp, kr⟩


set_option maxRecDepth 100000 in
set_option maxHeartbeats 4000000 in
theorem roundAt_downward (mh ml hh hl kh kl drop sign o : Int) (lost hb sticky sB oB rB U : Bool) (hd : 0 < drop) (d1 : drop ≤ 1000000) (hsB : (sign == 1) = sB) (ho : bits .and .u64 kl 1 = o) (hoB : (o == 1) = oB) (hrB : (lost || sticky) = rB) (k0 : 0 ≤ kl) (k1 : kl < 18446744073709551615) (hU : ru 4 sB oB hb rB = U)
    (HS1 : Hid (∀ w, Calls Tryz.prog 130 #[.agg #[.int .u64 mh, .int .u64 ml], .int .i64 (drop - 1)] w fun e w' => e = .returned (.tuple #[.agg #[.int .u64 hh, .int .u64 hl], .bool lost]) ∧ Gr w w'))
    (HS2 : Hid (∀ w, Calls Tryz.prog 130 #[.agg #[.int .u64 hh, .int .u64 hl], .int .i64 1] w fun e w' => e = .returned (.tuple #[.agg #[.int .u64 kh, .int .u64 kl], .bool hb]) ∧ Gr w w')) (w : World) :
    Calls Tryz.prog 143 #[.func (.func 140) #[] #[], .int .i64 drop, .int .i64 sign, .agg #[.int .u64 mh, .int .u64 ml], .bool sticky] w fun e w' => e = .returned (.tuple #[.int .u64 (kl + (if U then 1 else 0)), .bool (hb || rB)]) ∧ Gr w w' := by
  have HR : Hid (∀ w, Calls Tryz.prog 140 #[.bool sB, .bool oB, .bool hb, .bool rB] w fun e w' => e = .returned (.bool U) ∧ w = w') := fun w => hU ▸ downward_any sB oB hb rB w
  clear hU
  cases lost <;> cases hb <;> cases U
  all_goals
    simp only [Bool.false_or, Bool.true_or] at hrB
    subst hrB
    go_enter Tryz.func143, Tryz.ntmps143
    go_upto_region 4 with (go_at_call 130; refine (HS1.out _).mono ?_; rintro e w1 ⟨rfl, hg_w1⟩)
    go_upto_region 5 with (go_at_call 130; refine (HS2.out _).mono ?_; rintro e w2 ⟨rfl, hg_w2⟩)
    go_wp2_with (first | (go_at_call 140; refine (HR.out _).mono ?_; rintro e w3 ⟨rfl, hw⟩; subst hw))
    go_returns
    exact ⟨by simp, kr⟩

end Go.Proofs.YtkflpogmhailhaaGreatDoor
