import Derived.Test.YtnbbfeknbfohhaaGreatDoorB1
import Derived.Test.YtnbbfeknbfohhaaGreatDoorA2
import Derived.Test.YtnbbfeknbfohhaaGreatDoorA1
import Derived.Test.YtnbbfeknbfohhaaGreatDoorF0
import Derived.Deep.RegionHeld3
set_option linter.unusedVariables false
set_option linter.unusedSimpArgs false
set_option maxHeartbeats 40000000
namespace Go.Proofs.YtnbbfeknbfohhaaGreatDoor
open Go.RowKit
set_option maxRecDepth 100000 in
theorem roundAt_neg (M : Nat) (hM : M < 340282366920938463463374607431768211456) (drop sign : Int) (sticky : Bool) (k : Nat) (fv : Value) (hd : drop ≤ 0) (d0 : -128 ≤ drop) (hk : 0 - drop = (k : Int)) (h : M * 2 ^ k < 18446744073709551616) (w : World) :
  Calls Tryz.prog 161 #[fv, .int .i64 drop, .int .i64 sign, .agg #[.int .u64 ((M / 18446744073709551616 : Nat) : Int), .int .u64 ((M % 18446744073709551616 : Nat) : Int)], .bool sticky] w fun e w' => e = .returned (.tuple #[.int .u64 ((M * 2 ^ k : Nat) : Int), .bool false]) ∧ Gr w w' := by
 have HS : Hid (∀ w, Calls Tryz.prog 162 #[.agg #[.int .u64 ((M / 18446744073709551616 : Nat) : Int), .int .u64 ((M % 18446744073709551616 : Nat) : Int)], .int .i64 (-drop)] w fun e w' => e = .returned (.agg #[.int .u64 0, .int .u64 ((M * 2 ^ k : Nat) : Int)]) ∧ Gr w w') := fun w => by
  rw [show -drop = (k : Int) by omega]
  exact shlM M hM k (by omega) h w
 generalize ((M / 18446744073709551616 : Nat) : Int) = mh at *
 generalize ((M % 18446744073709551616 : Nat) : Int) = ml at *
 generalize ((M * 2 ^ k : Nat) : Int) = c at *
 clear h hk
 have hfd : ∀ (w : World) (a b : Int), (Instr.field 120 (.agg #[.int .u64 a, .int .u64 b]) 1).run Tryz.prog w = .ok (.int .u64 b) w := fun _ _ _ => by kernel_rfl
 go_enter Tryz.func161, Tryz.ntmps161
 go_wp2_with (go_at_call 162; refine (HS.out _).mono ?_; rintro e w1 ⟨rfl, hg_w1⟩)
 go_returns
 exact ⟨rfl, kr⟩
set_option maxRecDepth 100000 in
theorem roundAt_nearestEven (mh ml hh hl kh kl drop sign o : Int) (lost hb sticky sB oB rB U : Bool) (hd : 0 < drop) (d1 : drop ≤ 1000000) (hsB : (sign == 1) = sB) (ho : bits .and .u64 kl 1 = o) (hoB : (o == 1) = oB) (hrB : (lost || sticky) = rB) (k0 : 0 ≤ kl) (k1 : kl < 18446744073709551615) (hU : ru 0 sB oB hb rB = U)
  (HS1 : Hid (∀ w, Calls Tryz.prog 192 #[.agg #[.int .u64 mh, .int .u64 ml], .int .i64 (drop - 1)] w fun e w' => e = .returned (.tuple #[.agg #[.int .u64 hh, .int .u64 hl], .bool lost]) ∧ Gr w w'))
  (HS2 : Hid (∀ w, Calls Tryz.prog 192 #[.agg #[.int .u64 hh, .int .u64 hl], .int .i64 1] w fun e w' => e = .returned (.tuple #[.agg #[.int .u64 kh, .int .u64 kl], .bool hb]) ∧ Gr w w')) (w : World) :
  Calls Tryz.prog 161 #[.func (.func 204) #[] #[], .int .i64 drop, .int .i64 sign, .agg #[.int .u64 mh, .int .u64 ml], .bool sticky] w fun e w' => e = .returned (.tuple #[.int .u64 (kl + (if U then 1 else 0)), .bool (hb || rB)]) ∧ Gr w w' := by
 have HR : Hid (∀ w, Calls Tryz.prog 204 #[.bool sB, .bool oB, .bool hb, .bool rB] w fun e w' => e = .returned (.bool U) ∧ w = w') := fun w => hU ▸ nearestEven_any sB oB hb rB w
 clear hU
 cases lost <;> cases hb <;> cases U
 all_goals
  simp only [Bool.false_or, Bool.true_or] at hrB
  subst hrB
  go_enter Tryz.func161, Tryz.ntmps161
  go_upto_region 4 with (go_at_call 192; refine (HS1.out _).mono ?_; rintro e w1 ⟨rfl, hg_w1⟩)
  go_upto_region 5 with (go_at_call 192; refine (HS2.out _).mono ?_; rintro e w2 ⟨rfl, hg_w2⟩)
  go_wp2_with (first | (go_at_call 204; refine kw (HR.out _) ?_))
  go_returns
  exact ⟨by simp, kr⟩
set_option maxRecDepth 100000 in
theorem roundAt_nearestAway (mh ml hh hl kh kl drop sign o : Int) (lost hb sticky sB oB rB U : Bool) (hd : 0 < drop) (d1 : drop ≤ 1000000) (hsB : (sign == 1) = sB) (ho : bits .and .u64 kl 1 = o) (hoB : (o == 1) = oB) (hrB : (lost || sticky) = rB) (k0 : 0 ≤ kl) (k1 : kl < 18446744073709551615) (hU : ru 1 sB oB hb rB = U)
  (HS1 : Hid (∀ w, Calls Tryz.prog 192 #[.agg #[.int .u64 mh, .int .u64 ml], .int .i64 (drop - 1)] w fun e w' => e = .returned (.tuple #[.agg #[.int .u64 hh, .int .u64 hl], .bool lost]) ∧ Gr w w'))
  (HS2 : Hid (∀ w, Calls Tryz.prog 192 #[.agg #[.int .u64 hh, .int .u64 hl], .int .i64 1] w fun e w' => e = .returned (.tuple #[.agg #[.int .u64 kh, .int .u64 kl], .bool hb]) ∧ Gr w w')) (w : World) :
  Calls Tryz.prog 161 #[.func (.func 205) #[] #[], .int .i64 drop, .int .i64 sign, .agg #[.int .u64 mh, .int .u64 ml], .bool sticky] w fun e w' => e = .returned (.tuple #[.int .u64 (kl + (if U then 1 else 0)), .bool (hb || rB)]) ∧ Gr w w' := by
 have HR : Hid (∀ w, Calls Tryz.prog 205 #[.bool sB, .bool oB, .bool hb, .bool rB] w fun e w' => e = .returned (.bool U) ∧ w = w') := fun w => hU ▸ nearestAway_any sB oB hb rB w
 clear hU
 cases lost <;> cases hb <;> cases U
 all_goals
  simp only [Bool.false_or, Bool.true_or] at hrB
  subst hrB
  go_enter Tryz.func161, Tryz.ntmps161
  go_upto_region 4 with (go_at_call 192; refine (HS1.out _).mono ?_; rintro e w1 ⟨rfl, hg_w1⟩)
  go_upto_region 5 with (go_at_call 192; refine (HS2.out _).mono ?_; rintro e w2 ⟨rfl, hg_w2⟩)
  go_wp2_with (first | (go_at_call 205; refine kw (HR.out _) ?_))
  go_returns
  exact ⟨by simp, kr⟩
set_option maxRecDepth 100000 in
theorem roundAt_towardZero (mh ml hh hl kh kl drop sign o : Int) (lost hb sticky sB oB rB U : Bool) (hd : 0 < drop) (d1 : drop ≤ 1000000) (hsB : (sign == 1) = sB) (ho : bits .and .u64 kl 1 = o) (hoB : (o == 1) = oB) (hrB : (lost || sticky) = rB) (k0 : 0 ≤ kl) (k1 : kl < 18446744073709551615) (hU : ru 2 sB oB hb rB = U)
  (HS1 : Hid (∀ w, Calls Tryz.prog 192 #[.agg #[.int .u64 mh, .int .u64 ml], .int .i64 (drop - 1)] w fun e w' => e = .returned (.tuple #[.agg #[.int .u64 hh, .int .u64 hl], .bool lost]) ∧ Gr w w'))
  (HS2 : Hid (∀ w, Calls Tryz.prog 192 #[.agg #[.int .u64 hh, .int .u64 hl], .int .i64 1] w fun e w' => e = .returned (.tuple #[.agg #[.int .u64 kh, .int .u64 kl], .bool hb]) ∧ Gr w w')) (w : World) :
  Calls Tryz.prog 161 #[.func (.func 206) #[] #[], .int .i64 drop, .int .i64 sign, .agg #[.int .u64 mh, .int .u64 ml], .bool sticky] w fun e w' => e = .returned (.tuple #[.int .u64 (kl + (if U then 1 else 0)), .bool (hb || rB)]) ∧ Gr w w' := by
 have HR : Hid (∀ w, Calls Tryz.prog 206 #[.bool sB, .bool oB, .bool hb, .bool rB] w fun e w' => e = .returned (.bool U) ∧ w = w') := fun w => hU ▸ towardZero_any sB oB hb rB w
 clear hU
 cases lost <;> cases hb <;> cases U
 all_goals
  simp only [Bool.false_or, Bool.true_or] at hrB
  subst hrB
  go_enter Tryz.func161, Tryz.ntmps161
  go_upto_region 4 with (go_at_call 192; refine (HS1.out _).mono ?_; rintro e w1 ⟨rfl, hg_w1⟩)
  go_upto_region 5 with (go_at_call 192; refine (HS2.out _).mono ?_; rintro e w2 ⟨rfl, hg_w2⟩)
  go_wp2_with (first | (go_at_call 206; refine kw (HR.out _) ?_))
  go_returns
  exact ⟨by simp, kr⟩
set_option maxRecDepth 100000 in
theorem roundAt_upward (mh ml hh hl kh kl drop sign o : Int) (lost hb sticky sB oB rB U : Bool) (hd : 0 < drop) (d1 : drop ≤ 1000000) (hsB : (sign == 1) = sB) (ho : bits .and .u64 kl 1 = o) (hoB : (o == 1) = oB) (hrB : (lost || sticky) = rB) (k0 : 0 ≤ kl) (k1 : kl < 18446744073709551615) (hU : ru 3 sB oB hb rB = U)
  (HS1 : Hid (∀ w, Calls Tryz.prog 192 #[.agg #[.int .u64 mh, .int .u64 ml], .int .i64 (drop - 1)] w fun e w' => e = .returned (.tuple #[.agg #[.int .u64 hh, .int .u64 hl], .bool lost]) ∧ Gr w w'))
  (HS2 : Hid (∀ w, Calls Tryz.prog 192 #[.agg #[.int .u64 hh, .int .u64 hl], .int .i64 1] w fun e w' => e = .returned (.tuple #[.agg #[.int .u64 kh, .int .u64 kl], .bool hb]) ∧ Gr w w')) (w : World) :
  Calls Tryz.prog 161 #[.func (.func 207) #[] #[], .int .i64 drop, .int .i64 sign, .agg #[.int .u64 mh, .int .u64 ml], .bool sticky] w fun e w' => e = .returned (.tuple #[.int .u64 (kl + (if U then 1 else 0)), .bool (hb || rB)]) ∧ Gr w w' := by
 have HR : Hid (∀ w, Calls Tryz.prog 207 #[.bool sB, .bool oB, .bool hb, .bool rB] w fun e w' => e = .returned (.bool U) ∧ w = w') := fun w => hU ▸ upward_any sB oB hb rB w
 clear hU
 cases lost <;> cases hb <;> cases U
 all_goals
  simp only [Bool.false_or, Bool.true_or] at hrB
  subst hrB
  go_enter Tryz.func161, Tryz.ntmps161
  go_upto_region 4 with (go_at_call 192; refine (HS1.out _).mono ?_; rintro e w1 ⟨rfl, hg_w1⟩)
  go_upto_region 5 with (go_at_call 192; refine (HS2.out _).mono ?_; rintro e w2 ⟨rfl, hg_w2⟩)
  go_wp2_with (first | (go_at_call 207; refine kw (HR.out _) ?_))
  go_returns
  exact ⟨by simp, kr⟩
set_option maxRecDepth 100000 in
theorem roundAt_downward (mh ml hh hl kh kl drop sign o : Int) (lost hb sticky sB oB rB U : Bool) (hd : 0 < drop) (d1 : drop ≤ 1000000) (hsB : (sign == 1) = sB) (ho : bits .and .u64 kl 1 = o) (hoB : (o == 1) = oB) (hrB : (lost || sticky) = rB) (k0 : 0 ≤ kl) (k1 : kl < 18446744073709551615) (hU : ru 4 sB oB hb rB = U)
  (HS1 : Hid (∀ w, Calls Tryz.prog 192 #[.agg #[.int .u64 mh, .int .u64 ml], .int .i64 (drop - 1)] w fun e w' => e = .returned (.tuple #[.agg #[.int .u64 hh, .int .u64 hl], .bool lost]) ∧ Gr w w'))
  (HS2 : Hid (∀ w, Calls Tryz.prog 192 #[.agg #[.int .u64 hh, .int .u64 hl], .int .i64 1] w fun e w' => e = .returned (.tuple #[.agg #[.int .u64 kh, .int .u64 kl], .bool hb]) ∧ Gr w w')) (w : World) :
  Calls Tryz.prog 161 #[.func (.func 208) #[] #[], .int .i64 drop, .int .i64 sign, .agg #[.int .u64 mh, .int .u64 ml], .bool sticky] w fun e w' => e = .returned (.tuple #[.int .u64 (kl + (if U then 1 else 0)), .bool (hb || rB)]) ∧ Gr w w' := by
 have HR : Hid (∀ w, Calls Tryz.prog 208 #[.bool sB, .bool oB, .bool hb, .bool rB] w fun e w' => e = .returned (.bool U) ∧ w = w') := fun w => hU ▸ downward_any sB oB hb rB w
 clear hU
 cases lost <;> cases hb <;> cases U
 all_goals
  simp only [Bool.false_or, Bool.true_or] at hrB
  subst hrB
  go_enter Tryz.func161, Tryz.ntmps161
  go_upto_region 4 with (go_at_call 192; refine (HS1.out _).mono ?_; rintro e w1 ⟨rfl, hg_w1⟩)
  go_upto_region 5 with (go_at_call 192; refine (HS2.out _).mono ?_; rintro e w2 ⟨rfl, hg_w2⟩)
  go_wp2_with (first | (go_at_call 208; refine kw (HR.out _) ?_))
  go_returns
  exact ⟨by simp, kr⟩
end Go.Proofs.YtnbbfeknbfohhaaGreatDoor
namespace Go.Proofs.YtnbbfeknbfohhaaGreatDoor
open Go.RowKit
def sv (sign sg z : Int) : Int := if sign = 1 then sg + z else z
set_option maxRecDepth 100000 in
theorem overflow_nearestEven {p mn mx fb sp one inf sg nan : Int} (h : IsM p mn mx fb sp one inf sg nan) (md : Int) (sign z : Int) (sB U : Bool) (hs : sign = 0 ∧ z = inf ∨ sign = 1 ∧ z = sg + inf) (hsB : (sign == 1) = sB) (hU : ru 0 sB true true true = U) (hz : 1 ≤ z) (hz1 : z < 18446744073709551616) (w : World) :
  Calls Tryz.prog 225 #[.agg #[.int .i64 p, .int .i64 mn, .int .i64 mx, .int .i64 md, .func (.func 204) #[] #[]], .int .i64 sign] w fun e w' => e = .returned (.agg #[.int .u64 (if U then z else z - 1), .int .i64 20]) ∧ Gr w w' := by
 have HI : Hid (∀ w, Calls Tryz.prog 105 #[.agg #[.int .i64 p, .int .i64 mn, .int .i64 mx], .int .i64 sign] w fun e w' => e = .returned (.int .u64 z) ∧ Gr w w') := fun w => inf_any h sign z hs w
 have HR : Hid (∀ w, Calls Tryz.prog 204 #[.bool sB, .bool true, .bool true, .bool true] w fun e w' => e = .returned (.bool U) ∧ w = w') := fun w => hU ▸ nearestEven_any sB true true true w
 clear hU hs h
 cases U
 ·go_enter Tryz.func225, Tryz.ntmps225
  go_wp2_with (first
   | (go_at_call 105; refine (HI.out _).mono ?_; rintro e w1 ⟨rfl, hg_w1⟩; have am4 : w1.cell? ⟨w.heap.size, 4, none⟩ = some (.func (.func 204) #[] #[]) := kq; obtain ⟨ar0, az0, ar1, az1⟩ : KF2 w1 (w.heap.size + 1) 0 1 (.int .u64 0) (.int .i64 0) := ⟨kq, kq, kq, kq⟩)
   | (go_at_call 204; refine kw (HR.out _) ?_))
  refine bodyPost_ret (v := .agg #[.int .u64 (z - 1), .int .i64 20]) (by simp [results, Tryz.results225, go_sem, ar0, ar1]) rfl ⟨by simp, ?_⟩
  exact kr
 ·go_enter Tryz.func225, Tryz.ntmps225
  go_wp2_with (first
   | (go_at_call 105; refine (HI.out _).mono ?_; rintro e w1 ⟨rfl, hg_w1⟩; have am4 : w1.cell? ⟨w.heap.size, 4, none⟩ = some (.func (.func 204) #[] #[]) := kq; obtain ⟨ar0, az0, ar1, az1⟩ : KF2 w1 (w.heap.size + 1) 0 1 (.int .u64 0) (.int .i64 0) := ⟨kq, kq, kq, kq⟩)
   | (go_at_call 204; refine kw (HR.out _) ?_))
  refine bodyPost_ret (v := .agg #[.int .u64 z, .int .i64 20]) (by simp [results, Tryz.results225, go_sem, ar0, ar1]) rfl ⟨by simp, ?_⟩
  exact kr
set_option maxRecDepth 100000 in
theorem overflow_nearestAway {p mn mx fb sp one inf sg nan : Int} (h : IsM p mn mx fb sp one inf sg nan) (md : Int) (sign z : Int) (sB U : Bool) (hs : sign = 0 ∧ z = inf ∨ sign = 1 ∧ z = sg + inf) (hsB : (sign == 1) = sB) (hU : ru 1 sB true true true = U) (hz : 1 ≤ z) (hz1 : z < 18446744073709551616) (w : World) :
  Calls Tryz.prog 225 #[.agg #[.int .i64 p, .int .i64 mn, .int .i64 mx, .int .i64 md, .func (.func 205) #[] #[]], .int .i64 sign] w fun e w' => e = .returned (.agg #[.int .u64 (if U then z else z - 1), .int .i64 20]) ∧ Gr w w' := by
 have HI : Hid (∀ w, Calls Tryz.prog 105 #[.agg #[.int .i64 p, .int .i64 mn, .int .i64 mx], .int .i64 sign] w fun e w' => e = .returned (.int .u64 z) ∧ Gr w w') := fun w => inf_any h sign z hs w
 have HR : Hid (∀ w, Calls Tryz.prog 205 #[.bool sB, .bool true, .bool true, .bool true] w fun e w' => e = .returned (.bool U) ∧ w = w') := fun w => hU ▸ nearestAway_any sB true true true w
 clear hU hs h
 cases U
 ·go_enter Tryz.func225, Tryz.ntmps225
  go_wp2_with (first
   | (go_at_call 105; refine (HI.out _).mono ?_; rintro e w1 ⟨rfl, hg_w1⟩; have am4 : w1.cell? ⟨w.heap.size, 4, none⟩ = some (.func (.func 205) #[] #[]) := kq; obtain ⟨ar0, az0, ar1, az1⟩ : KF2 w1 (w.heap.size + 1) 0 1 (.int .u64 0) (.int .i64 0) := ⟨kq, kq, kq, kq⟩)
   | (go_at_call 205; refine kw (HR.out _) ?_))
  refine bodyPost_ret (v := .agg #[.int .u64 (z - 1), .int .i64 20]) (by simp [results, Tryz.results225, go_sem, ar0, ar1]) rfl ⟨by simp, ?_⟩
  exact kr
 ·go_enter Tryz.func225, Tryz.ntmps225
  go_wp2_with (first
   | (go_at_call 105; refine (HI.out _).mono ?_; rintro e w1 ⟨rfl, hg_w1⟩; have am4 : w1.cell? ⟨w.heap.size, 4, none⟩ = some (.func (.func 205) #[] #[]) := kq; obtain ⟨ar0, az0, ar1, az1⟩ : KF2 w1 (w.heap.size + 1) 0 1 (.int .u64 0) (.int .i64 0) := ⟨kq, kq, kq, kq⟩)
   | (go_at_call 205; refine kw (HR.out _) ?_))
  refine bodyPost_ret (v := .agg #[.int .u64 z, .int .i64 20]) (by simp [results, Tryz.results225, go_sem, ar0, ar1]) rfl ⟨by simp, ?_⟩
  exact kr
set_option maxRecDepth 100000 in
theorem overflow_towardZero {p mn mx fb sp one inf sg nan : Int} (h : IsM p mn mx fb sp one inf sg nan) (md : Int) (sign z : Int) (sB U : Bool) (hs : sign = 0 ∧ z = inf ∨ sign = 1 ∧ z = sg + inf) (hsB : (sign == 1) = sB) (hU : ru 2 sB true true true = U) (hz : 1 ≤ z) (hz1 : z < 18446744073709551616) (w : World) :
  Calls Tryz.prog 225 #[.agg #[.int .i64 p, .int .i64 mn, .int .i64 mx, .int .i64 md, .func (.func 206) #[] #[]], .int .i64 sign] w fun e w' => e = .returned (.agg #[.int .u64 (if U then z else z - 1), .int .i64 20]) ∧ Gr w w' := by
 have HI : Hid (∀ w, Calls Tryz.prog 105 #[.agg #[.int .i64 p, .int .i64 mn, .int .i64 mx], .int .i64 sign] w fun e w' => e = .returned (.int .u64 z) ∧ Gr w w') := fun w => inf_any h sign z hs w
 have HR : Hid (∀ w, Calls Tryz.prog 206 #[.bool sB, .bool true, .bool true, .bool true] w fun e w' => e = .returned (.bool U) ∧ w = w') := fun w => hU ▸ towardZero_any sB true true true w
 clear hU hs h
 cases U
 ·go_enter Tryz.func225, Tryz.ntmps225
  go_wp2_with (first
   | (go_at_call 105; refine (HI.out _).mono ?_; rintro e w1 ⟨rfl, hg_w1⟩; have am4 : w1.cell? ⟨w.heap.size, 4, none⟩ = some (.func (.func 206) #[] #[]) := kq; obtain ⟨ar0, az0, ar1, az1⟩ : KF2 w1 (w.heap.size + 1) 0 1 (.int .u64 0) (.int .i64 0) := ⟨kq, kq, kq, kq⟩)
   | (go_at_call 206; refine kw (HR.out _) ?_))
  refine bodyPost_ret (v := .agg #[.int .u64 (z - 1), .int .i64 20]) (by simp [results, Tryz.results225, go_sem, ar0, ar1]) rfl ⟨by simp, ?_⟩
  exact kr
 ·go_enter Tryz.func225, Tryz.ntmps225
  go_wp2_with (first
   | (go_at_call 105; refine (HI.out _).mono ?_; rintro e w1 ⟨rfl, hg_w1⟩; have am4 : w1.cell? ⟨w.heap.size, 4, none⟩ = some (.func (.func 206) #[] #[]) := kq; obtain ⟨ar0, az0, ar1, az1⟩ : KF2 w1 (w.heap.size + 1) 0 1 (.int .u64 0) (.int .i64 0) := ⟨kq, kq, kq, kq⟩)
   | (go_at_call 206; refine kw (HR.out _) ?_))
  refine bodyPost_ret (v := .agg #[.int .u64 z, .int .i64 20]) (by simp [results, Tryz.results225, go_sem, ar0, ar1]) rfl ⟨by simp, ?_⟩
  exact kr
set_option maxRecDepth 100000 in
theorem overflow_upward {p mn mx fb sp one inf sg nan : Int} (h : IsM p mn mx fb sp one inf sg nan) (md : Int) (sign z : Int) (sB U : Bool) (hs : sign = 0 ∧ z = inf ∨ sign = 1 ∧ z = sg + inf) (hsB : (sign == 1) = sB) (hU : ru 3 sB true true true = U) (hz : 1 ≤ z) (hz1 : z < 18446744073709551616) (w : World) :
  Calls Tryz.prog 225 #[.agg #[.int .i64 p, .int .i64 mn, .int .i64 mx, .int .i64 md, .func (.func 207) #[] #[]], .int .i64 sign] w fun e w' => e = .returned (.agg #[.int .u64 (if U then z else z - 1), .int .i64 20]) ∧ Gr w w' := by
 have HI : Hid (∀ w, Calls Tryz.prog 105 #[.agg #[.int .i64 p, .int .i64 mn, .int .i64 mx], .int .i64 sign] w fun e w' => e = .returned (.int .u64 z) ∧ Gr w w') := fun w => inf_any h sign z hs w
 have HR : Hid (∀ w, Calls Tryz.prog 207 #[.bool sB, .bool true, .bool true, .bool true] w fun e w' => e = .returned (.bool U) ∧ w = w') := fun w => hU ▸ upward_any sB true true true w
 clear hU hs h
 cases U
 ·go_enter Tryz.func225, Tryz.ntmps225
  go_wp2_with (first
   | (go_at_call 105; refine (HI.out _).mono ?_; rintro e w1 ⟨rfl, hg_w1⟩; have am4 : w1.cell? ⟨w.heap.size, 4, none⟩ = some (.func (.func 207) #[] #[]) := kq; obtain ⟨ar0, az0, ar1, az1⟩ : KF2 w1 (w.heap.size + 1) 0 1 (.int .u64 0) (.int .i64 0) := ⟨kq, kq, kq, kq⟩)
   | (go_at_call 207; refine kw (HR.out _) ?_))
  refine bodyPost_ret (v := .agg #[.int .u64 (z - 1), .int .i64 20]) (by simp [results, Tryz.results225, go_sem, ar0, ar1]) rfl ⟨by simp, ?_⟩
  exact kr
 ·go_enter Tryz.func225, Tryz.ntmps225
  go_wp2_with (first
   | (go_at_call 105; refine (HI.out _).mono ?_; rintro e w1 ⟨rfl, hg_w1⟩; have am4 : w1.cell? ⟨w.heap.size, 4, none⟩ = some (.func (.func 207) #[] #[]) := kq; obtain ⟨ar0, az0, ar1, az1⟩ : KF2 w1 (w.heap.size + 1) 0 1 (.int .u64 0) (.int .i64 0) := ⟨kq, kq, kq, kq⟩)
   | (go_at_call 207; refine kw (HR.out _) ?_))
  refine bodyPost_ret (v := .agg #[.int .u64 z, .int .i64 20]) (by simp [results, Tryz.results225, go_sem, ar0, ar1]) rfl ⟨by simp, ?_⟩
  exact kr
set_option maxRecDepth 100000 in
theorem overflow_downward {p mn mx fb sp one inf sg nan : Int} (h : IsM p mn mx fb sp one inf sg nan) (md : Int) (sign z : Int) (sB U : Bool) (hs : sign = 0 ∧ z = inf ∨ sign = 1 ∧ z = sg + inf) (hsB : (sign == 1) = sB) (hU : ru 4 sB true true true = U) (hz : 1 ≤ z) (hz1 : z < 18446744073709551616) (w : World) :
  Calls Tryz.prog 225 #[.agg #[.int .i64 p, .int .i64 mn, .int .i64 mx, .int .i64 md, .func (.func 208) #[] #[]], .int .i64 sign] w fun e w' => e = .returned (.agg #[.int .u64 (if U then z else z - 1), .int .i64 20]) ∧ Gr w w' := by
 have HI : Hid (∀ w, Calls Tryz.prog 105 #[.agg #[.int .i64 p, .int .i64 mn, .int .i64 mx], .int .i64 sign] w fun e w' => e = .returned (.int .u64 z) ∧ Gr w w') := fun w => inf_any h sign z hs w
 have HR : Hid (∀ w, Calls Tryz.prog 208 #[.bool sB, .bool true, .bool true, .bool true] w fun e w' => e = .returned (.bool U) ∧ w = w') := fun w => hU ▸ downward_any sB true true true w
 clear hU hs h
 cases U
 ·go_enter Tryz.func225, Tryz.ntmps225
  go_wp2_with (first
   | (go_at_call 105; refine (HI.out _).mono ?_; rintro e w1 ⟨rfl, hg_w1⟩; have am4 : w1.cell? ⟨w.heap.size, 4, none⟩ = some (.func (.func 208) #[] #[]) := kq; obtain ⟨ar0, az0, ar1, az1⟩ : KF2 w1 (w.heap.size + 1) 0 1 (.int .u64 0) (.int .i64 0) := ⟨kq, kq, kq, kq⟩)
   | (go_at_call 208; refine kw (HR.out _) ?_))
  refine bodyPost_ret (v := .agg #[.int .u64 (z - 1), .int .i64 20]) (by simp [results, Tryz.results225, go_sem, ar0, ar1]) rfl ⟨by simp, ?_⟩
  exact kr
 ·go_enter Tryz.func225, Tryz.ntmps225
  go_wp2_with (first
   | (go_at_call 105; refine (HI.out _).mono ?_; rintro e w1 ⟨rfl, hg_w1⟩; have am4 : w1.cell? ⟨w.heap.size, 4, none⟩ = some (.func (.func 208) #[] #[]) := kq; obtain ⟨ar0, az0, ar1, az1⟩ : KF2 w1 (w.heap.size + 1) 0 1 (.int .u64 0) (.int .i64 0) := ⟨kq, kq, kq, kq⟩)
   | (go_at_call 208; refine kw (HR.out _) ?_))
  refine bodyPost_ret (v := .agg #[.int .u64 z, .int .i64 20]) (by simp [results, Tryz.results225, go_sem, ar0, ar1]) rfl ⟨by simp, ?_⟩
  exact kr
theorem overflow_any {p mn mx fb sp one inf sg nan : Int} (h : IsM p mn mx fb sp one inf sg nan) (md : Int) (mode : Int) (k : Nat) (hk : IsRule mode k) (sign : Int) (hs : sign = 0 ∨ sign = 1) (w : World) :
  Calls Tryz.prog 225 #[.agg #[.int .i64 p, .int .i64 mn, .int .i64 mx, .int .i64 md, .func (.func k) #[] #[]], .int .i64 sign] w fun e w' => e = .returned (.agg #[.int .u64 (sv sign sg (ovMag inf mode sign)), .int .i64 20]) ∧ Gr w w' := by
 have b : 0 < inf ∧ inf < sg ∧ sg ≤ 9223372036854775808 := by rcases h with h | h <;> omega
 obtain ⟨z, hz⟩ : ∃ z, sign = 0 ∧ z = inf ∨ sign = 1 ∧ z = sg + inf := by
  rcases hs with rfl | rfl
  ·exact ⟨inf, .inl ⟨rfl, rfl⟩⟩
  ·exact ⟨sg + inf, .inr ⟨rfl, rfl⟩⟩
 have fin : ∀ x w', (x = Ending.returned (.agg #[.int .u64 (if ru mode (sign == 1) true true true then z else z - 1), .int .i64 20]) ∧ Gr w w') → (x = Ending.returned (.agg #[.int .u64 (sv sign sg (ovMag inf mode sign)), .int .i64 20]) ∧ Gr w w') := by
  rintro x w' ⟨rfl, hg⟩
  refine ⟨?_, hg⟩
  have e : (if ru mode (sign == 1) true true true then z else z - 1) = sv sign sg (ovMag inf mode sign) := by
   rcases hz with ⟨rfl, rfl⟩ | ⟨rfl, rfl⟩ <;> rcases hk with ⟨rfl, _⟩ | ⟨rfl, _⟩ | ⟨rfl, _⟩ | ⟨rfl, _⟩ | ⟨rfl, _⟩ <;> simp [ru, sv, ovMag] <;> omega
  rw [e]
 rcases hk with ⟨rfl, rfl⟩ | ⟨rfl, rfl⟩ | ⟨rfl, rfl⟩ | ⟨rfl, rfl⟩ | ⟨rfl, rfl⟩
 ·exact (overflow_nearestEven h md sign z _ _ hz rfl rfl (by omega) (by omega) w).mono (fun x w' h => fin x w' h)
 ·exact (overflow_nearestAway h md sign z _ _ hz rfl rfl (by omega) (by omega) w).mono (fun x w' h => fin x w' h)
 ·exact (overflow_towardZero h md sign z _ _ hz rfl rfl (by omega) (by omega) w).mono (fun x w' h => fin x w' h)
 ·exact (overflow_upward h md sign z _ _ hz rfl rfl (by omega) (by omega) w).mono (fun x w' h => fin x w' h)
 ·exact (overflow_downward h md sign z _ _ hz rfl rfl (by omega) (by omega) w).mono (fun x w' h => fin x w' h)
set_option maxRecDepth 100000 in
theorem invalid_any {p mn mx fb sp one inf sg nan : Int} (h : IsM p mn mx fb sp one inf sg nan) (w : World) :
  Calls Tryz.prog 176 #[.agg #[.int .i64 p, .int .i64 mn, .int .i64 mx]] w fun e w' => e = .returned (.agg #[.int .u64 nan, .int .i64 1]) ∧ Gr w w' := by
 have HN : Hid (∀ w, Calls Tryz.prog 103 #[.agg #[.int .i64 p, .int .i64 mn, .int .i64 mx]] w fun e w' => e = .returned (.int .u64 nan) ∧ Gr w w') := fun w => nan_any h w
 clear h
 go_enter Tryz.func176, Tryz.ntmps176
 go_wp2_with (go_at_call 103; refine (HN.out _).mono ?_; rintro e w1 ⟨rfl, hg_w1⟩; obtain ⟨ar0, az0, ar1, az1⟩ : KF2 w1 (w.heap.size + 1) 0 1 (.int .u64 0) (.int .i64 0) := ⟨kq, kq, kq, kq⟩)
 refine bodyPost_ret (v := .agg #[.int .u64 nan, .int .i64 1]) (by simp [results, Tryz.results176, go_sem, ar0, ar1]) rfl ⟨rfl, ?_⟩
 exact kr
theorem bl_nb (M : Nat) (hM : M < 340282366920938463463374607431768211456) : bl (M : Int) = (nb M : Int) := by
 unfold bl
 by_cases h : (M : Int) / 18446744073709551616 = 0
 ·rw [if_pos h]
  have e : ((M : Int) % 18446744073709551616).toNat = M := by omega
  rw [e, bitLen_nb M (by omega)]
 ·rw [if_neg h]
  have e : ((M : Int) / 18446744073709551616).toNat = M / 18446744073709551616 := by omega
  have h2 := nb_shift M 64 (by simp only [Nat.reducePow]; omega)
  simp only [Nat.reducePow] at h2
  rw [e, bitLen_nb _ (by omega), h2]; omega
theorem zerosM (M : Nat) (hM : M < 340282366920938463463374607431768211456) (w : World) :
  Calls Tryz.prog 224 #[.agg #[.int .u64 ((M / 18446744073709551616 : Nat) : Int), .int .u64 ((M % 18446744073709551616 : Nat) : Int)]] w fun e w' => e = .returned (.int .i64 (128 - (nb M : Int))) ∧ Gr w w' := by
 have e0 : ((M / 18446744073709551616 : Nat) : Int) * 18446744073709551616 + ((M % 18446744073709551616 : Nat) : Int) = (M : Int) := by omega
 have := implZeros_any ((M / 18446744073709551616 : Nat) : Int) ((M % 18446744073709551616 : Nat) : Int) (by omega) (by omega) (by omega) (by omega) w
 rw [bl_zer _ _ (by omega) (by omega) (by omega) (by omega), e0, bl_nb M hM] at this
 exact this
end Go.Proofs.YtnbbfeknbfohhaaGreatDoor
