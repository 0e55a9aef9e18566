/- impl's overflow, invalid, stickyFits. -/
import Derived.Test.YtkflpogmhailhaaGreatDoorB1
import Derived.Test.YtkflpogmhailhaaGreatDoorA2
import Derived.Test.YtkflpogmhailhaaGreatDoorA1
import Derived.Test.YtkflpogmhailhaaGreatDoorF2b
import Derived.Deep.RegionHeld3
set_option linter.unusedVariables false
set_option linter.unusedSimpArgs false
namespace Go.Proofs.YtkflpogmhailhaaGreatDoor
open Go.RowKit

/-- The sign's word, as the program makes it. -/
def sv (sign sg z : Int) : Int := if sign = 1 then sg + z else z

set_option maxRecDepth 100000 in
set_option maxHeartbeats 2000000 in
theorem overflow_nearestEven {p mn mx fb sp one inf sg nan : Int} (h : IsM p mn mx fb sp one inf sg nan) (md : Int) (sign z : Int) (sB U : Bool) (hs : sign = 0 ∧ z = inf ∨ sign = 1 ∧ z = sg + inf) (hsB : (sign == 1) = sB) (hU : ru 0 sB true true true = U) (hz : 1 ≤ z) (hz1 : z < 18446744073709551616) (w : World) :
    Calls Tryz.prog 142 #[.agg #[.int .i64 p, .int .i64 mn, .int .i64 mx, .int .i64 md, .func (.func 95) #[] #[]], .int .i64 sign] w fun e w' => e = .returned (.agg #[.int .u64 (if U then z else z - 1), .int .i64 20]) ∧ Gr w w' := by
  have HI : Hid (∀ w, Calls Tryz.prog 84 #[.agg #[.int .i64 p, .int .i64 mn, .int .i64 mx], .int .i64 sign] w fun e w' => e = .returned (.int .u64 z) ∧ Gr w w') := fun w => inf_any h sign z hs w
  have HR : Hid (∀ w, Calls Tryz.prog 95 #[.bool sB, .bool true, .bool true, .bool true] w fun e w' => e = .returned (.bool U) ∧ w = w') := fun w => hU ▸ nearestEven_any sB true true true w
  clear hU hs h
  cases U
  · go_enter Tryz.func142, Tryz.ntmps142
    go_wp2_with (first
      | (go_at_call 84; refine (HI.out _).mono ?_; rintro e w1 ⟨rfl, hg_w1⟩; have am4 : w1.cell? ⟨w.heap.size, 4, none⟩ = some (.func (.func 95) #[] #[]) := kq; have ar0 : w1.cell? ⟨w.heap.size + 1, 0, none⟩ = some (.int .u64 0) := kq; have az0 : w1.frozen? ⟨w.heap.size + 1, 0, none⟩ = false := kq; have ar1 : w1.cell? ⟨w.heap.size + 1, 1, none⟩ = some (.int .i64 0) := kq; have az1 : w1.frozen? ⟨w.heap.size + 1, 1, none⟩ = false := kq)
      | (go_at_call 95; refine (HR.out _).mono ?_; rintro e w2 ⟨rfl, hw⟩; subst hw))
    refine bodyPost_ret (v := .agg #[.int .u64 (z - 1), .int .i64 20]) (by simp [results, Tryz.results142, go_sem, ar0, ar1]) rfl ⟨by simp, ?_⟩
    exact kr
  · go_enter Tryz.func142, Tryz.ntmps142
    go_wp2_with (first
      | (go_at_call 84; refine (HI.out _).mono ?_; rintro e w1 ⟨rfl, hg_w1⟩; have am4 : w1.cell? ⟨w.heap.size, 4, none⟩ = some (.func (.func 95) #[] #[]) := kq; have ar0 : w1.cell? ⟨w.heap.size + 1, 0, none⟩ = some (.int .u64 0) := kq; have az0 : w1.frozen? ⟨w.heap.size + 1, 0, none⟩ = false := kq; have ar1 : w1.cell? ⟨w.heap.size + 1, 1, none⟩ = some (.int .i64 0) := kq; have az1 : w1.frozen? ⟨w.heap.size + 1, 1, none⟩ = false := kq)
      | (go_at_call 95; refine (HR.out _).mono ?_; rintro e w2 ⟨rfl, hw⟩; subst hw))
    refine bodyPost_ret (v := .agg #[.int .u64 z, .int .i64 20]) (by simp [results, Tryz.results142, go_sem, ar0, ar1]) rfl ⟨by simp, ?_⟩
    exact kr

set_option maxRecDepth 100000 in
set_option maxHeartbeats 2000000 in
theorem overflow_nearestAway {p mn mx fb sp one inf sg nan : Int} (h : IsM p mn mx fb sp one inf sg nan) (md : Int) (sign z : Int) (sB U : Bool) (hs : sign = 0 ∧ z = inf ∨ sign = 1 ∧ z = sg + inf) (hsB : (sign == 1) = sB) (hU : ru 1 sB true true true = U) (hz : 1 ≤ z) (hz1 : z < 18446744073709551616) (w : World) :
    Calls Tryz.prog 142 #[.agg #[.int .i64 p, .int .i64 mn, .int .i64 mx, .int .i64 md, .func (.func 137) #[] #[]], .int .i64 sign] w fun e w' => e = .returned (.agg #[.int .u64 (if U then z else z - 1), .int .i64 20]) ∧ Gr w w' := by
  have HI : Hid (∀ w, Calls Tryz.prog 84 #[.agg #[.int .i64 p, .int .i64 mn, .int .i64 mx], .int .i64 sign] w fun e w' => e = .returned (.int .u64 z) ∧ Gr w w') := fun w => inf_any h sign z hs w
  have HR : Hid (∀ w, Calls Tryz.prog 137 #[.bool sB, .bool true, .bool true, .bool true] w fun e w' => e = .returned (.bool U) ∧ w = w') := fun w => hU ▸ nearestAway_any sB true true true w
  clear hU hs h
  cases U
  · go_enter Tryz.func142, Tryz.ntmps142
    go_wp2_with (first
      | (go_at_call 84; refine (HI.out _).mono ?_; rintro e w1 ⟨rfl, hg_w1⟩; have am4 : w1.cell? ⟨w.heap.size, 4, none⟩ = some (.func (.func 137) #[] #[]) := kq; have ar0 : w1.cell? ⟨w.heap.size + 1, 0, none⟩ = some (.int .u64 0) := kq; have az0 : w1.frozen? ⟨w.heap.size + 1, 0, none⟩ = false := kq; have ar1 : w1.cell? ⟨w.heap.size + 1, 1, none⟩ = some (.int .i64 0) := kq; have az1 : w1.frozen? ⟨w.heap.size + 1, 1, none⟩ = false := kq)
      | (go_at_call 137; refine (HR.out _).mono ?_; rintro e w2 ⟨rfl, hw⟩; subst hw))
    refine bodyPost_ret (v := .agg #[.int .u64 (z - 1), .int .i64 20]) (by simp [results, Tryz.results142, go_sem, ar0, ar1]) rfl ⟨by simp, ?_⟩
    exact kr
  · go_enter Tryz.func142, Tryz.ntmps142
    go_wp2_with (first
      | (go_at_call 84; refine (HI.out _).mono ?_; rintro e w1 ⟨rfl, hg_w1⟩; have am4 : w1.cell? ⟨w.heap.size, 4, none⟩ = some (.func (.func 137) #[] #[]) := kq; have ar0 : w1.cell? ⟨w.heap.size + 1, 0, none⟩ = some (.int .u64 0) := kq; have az0 : w1.frozen? ⟨w.heap.size + 1, 0, none⟩ = false := kq; have ar1 : w1.cell? ⟨w.heap.size + 1, 1, none⟩ = some (.int .i64 0) := kq; have az1 : w1.frozen? ⟨w.heap.size + 1, 1, none⟩ = false := kq)
      | (go_at_call 137; refine (HR.out _).mono ?_; rintro e w2 ⟨rfl, hw⟩; subst hw))
    refine bodyPost_ret (v := .agg #[.int .u64 z, .int .i64 20]) (by simp [results, Tryz.results142, go_sem, ar0, ar1]) rfl ⟨by simp, ?_⟩
    exact kr

set_option maxRecDepth 100000 in
set_option maxHeartbeats 2000000 in
theorem overflow_towardZero {p mn mx fb sp one inf sg nan : Int} (h : IsM p mn mx fb sp one inf sg nan) (md : Int) (sign z : Int) (sB U : Bool) (hs : sign = 0 ∧ z = inf ∨ sign = 1 ∧ z = sg + inf) (hsB : (sign == 1) = sB) (hU : ru 2 sB true true true = U) (hz : 1 ≤ z) (hz1 : z < 18446744073709551616) (w : World) :
    Calls Tryz.prog 142 #[.agg #[.int .i64 p, .int .i64 mn, .int .i64 mx, .int .i64 md, .func (.func 138) #[] #[]], .int .i64 sign] w fun e w' => e = .returned (.agg #[.int .u64 (if U then z else z - 1), .int .i64 20]) ∧ Gr w w' := by
  have HI : Hid (∀ w, Calls Tryz.prog 84 #[.agg #[.int .i64 p, .int .i64 mn, .int .i64 mx], .int .i64 sign] w fun e w' => e = .returned (.int .u64 z) ∧ Gr w w') := fun w => inf_any h sign z hs w
  have HR : Hid (∀ w, Calls Tryz.prog 138 #[.bool sB, .bool true, .bool true, .bool true] w fun e w' => e = .returned (.bool U) ∧ w = w') := fun w => hU ▸ towardZero_any sB true true true w
  clear hU hs h
  cases U
  · go_enter Tryz.func142, Tryz.ntmps142
    go_wp2_with (first
      | (go_at_call 84; refine (HI.out _).mono ?_; rintro e w1 ⟨rfl, hg_w1⟩; have am4 : w1.cell? ⟨w.heap.size, 4, none⟩ = some (.func (.func 138) #[] #[]) := kq; have ar0 : w1.cell? ⟨w.heap.size + 1, 0, none⟩ = some (.int .u64 0) := kq; have az0 : w1.frozen? ⟨w.heap.size + 1, 0, none⟩ = false := kq; have ar1 : w1.cell? ⟨w.heap.size + 1, 1, none⟩ = some (.int .i64 0) := kq; have az1 : w1.frozen? ⟨w.heap.size + 1, 1, none⟩ = false := kq)
      | (go_at_call 138; refine (HR.out _).mono ?_; rintro e w2 ⟨rfl, hw⟩; subst hw))
    refine bodyPost_ret (v := .agg #[.int .u64 (z - 1), .int .i64 20]) (by simp [results, Tryz.results142, go_sem, ar0, ar1]) rfl ⟨by simp, ?_⟩
    exact kr
  · go_enter Tryz.func142, Tryz.ntmps142
    go_wp2_with (first
      | (go_at_call 84; refine (HI.out _).mono ?_; rintro e w1 ⟨rfl, hg_w1⟩; have am4 : w1.cell? ⟨w.heap.size, 4, none⟩ = some (.func (.func 138) #[] #[]) := kq; have ar0 : w1.cell? ⟨w.heap.size + 1, 0, none⟩ = some (.int .u64 0) := kq; have az0 : w1.frozen? ⟨w.heap.size + 1, 0, none⟩ = false := kq; have ar1 : w1.cell? ⟨w.heap.size + 1, 1, none⟩ = some (.int .i64 0) := kq; have az1 : w1.frozen? ⟨w.heap.size + 1, 1, none⟩ = false := kq)
      | (go_at_call 138; refine (HR.out _).mono ?_; rintro e w2 ⟨rfl, hw⟩; subst hw))
    refine bodyPost_ret (v := .agg #[.int .u64 z, .int .i64 20]) (by simp [results, Tryz.results142, go_sem, ar0, ar1]) rfl ⟨by simp, ?_⟩
    exact kr

set_option maxRecDepth 100000 in
set_option maxHeartbeats 2000000 in
theorem overflow_upward {p mn mx fb sp one inf sg nan : Int} (h : IsM p mn mx fb sp one inf sg nan) (md : Int) (sign z : Int) (sB U : Bool) (hs : sign = 0 ∧ z = inf ∨ sign = 1 ∧ z = sg + inf) (hsB : (sign == 1) = sB) (hU : ru 3 sB true true true = U) (hz : 1 ≤ z) (hz1 : z < 18446744073709551616) (w : World) :
    Calls Tryz.prog 142 #[.agg #[.int .i64 p, .int .i64 mn, .int .i64 mx, .int .i64 md, .func (.func 139) #[] #[]], .int .i64 sign] w fun e w' => e = .returned (.agg #[.int .u64 (if U then z else z - 1), .int .i64 20]) ∧ Gr w w' := by
  have HI : Hid (∀ w, Calls Tryz.prog 84 #[.agg #[.int .i64 p, .int .i64 mn, .int .i64 mx], .int .i64 sign] w fun e w' => e = .returned (.int .u64 z) ∧ Gr w w') := fun w => inf_any h sign z hs w
  have HR : Hid (∀ w, Calls Tryz.prog 139 #[.bool sB, .bool true, .bool true, .bool true] w fun e w' => e = .returned (.bool U) ∧ w = w') := fun w => hU ▸ upward_any sB true true true w
  clear hU hs h
  cases U
  · go_enter Tryz.func142, Tryz.ntmps142
    go_wp2_with (first
      | (go_at_call 84; refine (HI.out _).mono ?_; rintro e w1 ⟨rfl, hg_w1⟩; have am4 : w1.cell? ⟨w.heap.size, 4, none⟩ = some (.func (.func 139) #[] #[]) := kq; have ar0 : w1.cell? ⟨w.heap.size + 1, 0, none⟩ = some (.int .u64 0) := kq; have az0 : w1.frozen? ⟨w.heap.size + 1, 0, none⟩ = false := kq; have ar1 : w1.cell? ⟨w.heap.size + 1, 1, none⟩ = some (.int .i64 0) := kq; have az1 : w1.frozen? ⟨w.heap.size + 1, 1, none⟩ = false := kq)
      | (go_at_call 139; refine (HR.out _).mono ?_; rintro e w2 ⟨rfl, hw⟩; subst hw))
    refine bodyPost_ret (v := .agg #[.int .u64 (z - 1), .int .i64 20]) (by simp [results, Tryz.results142, go_sem, ar0, ar1]) rfl ⟨by simp, ?_⟩
    exact kr
  · go_enter Tryz.func142, Tryz.ntmps142
    go_wp2_with (first
      | (go_at_call 84; refine (HI.out _).mono ?_; rintro e w1 ⟨rfl, hg_w1⟩; have am4 : w1.cell? ⟨w.heap.size, 4, none⟩ = some (.func (.func 139) #[] #[]) := kq; have ar0 : w1.cell? ⟨w.heap.size + 1, 0, none⟩ = some (.int .u64 0) := kq; have az0 : w1.frozen? ⟨w.heap.size + 1, 0, none⟩ = false := kq; have ar1 : w1.cell? ⟨w.heap.size + 1, 1, none⟩ = some (.int .i64 0) := kq; have az1 : w1.frozen? ⟨w.heap.size + 1, 1, none⟩ = false := kq)
      | (go_at_call 139; refine (HR.out _).mono ?_; rintro e w2 ⟨rfl, hw⟩; subst hw))
    refine bodyPost_ret (v := .agg #[.int .u64 z, .int .i64 20]) (by simp [results, Tryz.results142, go_sem, ar0, ar1]) rfl ⟨by simp, ?_⟩
    exact kr

set_option maxRecDepth 100000 in
set_option maxHeartbeats 2000000 in
theorem overflow_downward {p mn mx fb sp one inf sg nan : Int} (h : IsM p mn mx fb sp one inf sg nan) (md : Int) (sign z : Int) (sB U : Bool) (hs : sign = 0 ∧ z = inf ∨ sign = 1 ∧ z = sg + inf) (hsB : (sign == 1) = sB) (hU : ru 4 sB true true true = U) (hz : 1 ≤ z) (hz1 : z < 18446744073709551616) (w : World) :
    Calls Tryz.prog 142 #[.agg #[.int .i64 p, .int .i64 mn, .int .i64 mx, .int .i64 md, .func (.func 140) #[] #[]], .int .i64 sign] w fun e w' => e = .returned (.agg #[.int .u64 (if U then z else z - 1), .int .i64 20]) ∧ Gr w w' := by
  have HI : Hid (∀ w, Calls Tryz.prog 84 #[.agg #[.int .i64 p, .int .i64 mn, .int .i64 mx], .int .i64 sign] w fun e w' => e = .returned (.int .u64 z) ∧ Gr w w') := fun w => inf_any h sign z hs w
  have HR : Hid (∀ w, Calls Tryz.prog 140 #[.bool sB, .bool true, .bool true, .bool true] w fun e w' => e = .returned (.bool U) ∧ w = w') := fun w => hU ▸ downward_any sB true true true w
  clear hU hs h
  cases U
  · go_enter Tryz.func142, Tryz.ntmps142
    go_wp2_with (first
      | (go_at_call 84; refine (HI.out _).mono ?_; rintro e w1 ⟨rfl, hg_w1⟩; have am4 : w1.cell? ⟨w.heap.size, 4, none⟩ = some (.func (.func 140) #[] #[]) := kq; have ar0 : w1.cell? ⟨w.heap.size + 1, 0, none⟩ = some (.int .u64 0) := kq; have az0 : w1.frozen? ⟨w.heap.size + 1, 0, none⟩ = false := kq; have ar1 : w1.cell? ⟨w.heap.size + 1, 1, none⟩ = some (.int .i64 0) := kq; have az1 : w1.frozen? ⟨w.heap.size + 1, 1, none⟩ = false := kq)
      | (go_at_call 140; refine (HR.out _).mono ?_; rintro e w2 ⟨rfl, hw⟩; subst hw))
    refine bodyPost_ret (v := .agg #[.int .u64 (z - 1), .int .i64 20]) (by simp [results, Tryz.results142, go_sem, ar0, ar1]) rfl ⟨by simp, ?_⟩
    exact kr
  · go_enter Tryz.func142, Tryz.ntmps142
    go_wp2_with (first
      | (go_at_call 84; refine (HI.out _).mono ?_; rintro e w1 ⟨rfl, hg_w1⟩; have am4 : w1.cell? ⟨w.heap.size, 4, none⟩ = some (.func (.func 140) #[] #[]) := kq; have ar0 : w1.cell? ⟨w.heap.size + 1, 0, none⟩ = some (.int .u64 0) := kq; have az0 : w1.frozen? ⟨w.heap.size + 1, 0, none⟩ = false := kq; have ar1 : w1.cell? ⟨w.heap.size + 1, 1, none⟩ = some (.int .i64 0) := kq; have az1 : w1.frozen? ⟨w.heap.size + 1, 1, none⟩ = false := kq)
      | (go_at_call 140; refine (HR.out _).mono ?_; rintro e w2 ⟨rfl, hw⟩; subst hw))
    refine bodyPost_ret (v := .agg #[.int .u64 z, .int .i64 20]) (by simp [results, Tryz.results142, go_sem, ar0, ar1]) rfl ⟨by simp, ?_⟩
    exact kr


theorem overflow_any {p mn mx fb sp one inf sg nan : Int} (h : IsM p mn mx fb sp one inf sg nan) (md : Int) (mode : Int) (k : Nat) (hk : IsRule mode k) (sign : Int) (hs : sign = 0 ∨ sign = 1) (w : World) :
    Calls Tryz.prog 142 #[.agg #[.int .i64 p, .int .i64 mn, .int .i64 mx, .int .i64 md, .func (.func k) #[] #[]], .int .i64 sign] w fun e w' => e = .returned (.agg #[.int .u64 (sv sign sg (ovMag inf mode sign)), .int .i64 20]) ∧ Gr w w' := by
  have b : 0 < inf ∧ inf < sg ∧ sg ≤ 9223372036854775808 := by rcases h with h | h <;> omega
  obtain ⟨z, hz⟩ : ∃ z, sign = 0 ∧ z = inf ∨ sign = 1 ∧ z = sg + inf := by
    rcases hs with rfl | rfl
    · exact ⟨inf, .inl ⟨rfl, rfl⟩⟩
    · exact ⟨sg + inf, .inr ⟨rfl, rfl⟩⟩
  have fin : ∀ x w', (x = Ending.returned (.agg #[.int .u64 (if ru mode (sign == 1) true true true then z else z - 1), .int .i64 20]) ∧ Gr w w') → (x = Ending.returned (.agg #[.int .u64 (sv sign sg (ovMag inf mode sign)), .int .i64 20]) ∧ Gr w w') := by
    rintro x w' ⟨rfl, hg⟩
    refine ⟨?_, hg⟩
    have e : (if ru mode (sign == 1) true true true then z else z - 1) = sv sign sg (ovMag inf mode sign) := by
      rcases hz with ⟨rfl, rfl⟩ | ⟨rfl, rfl⟩ <;> rcases hk with ⟨rfl, _⟩ | ⟨rfl, _⟩ | ⟨rfl, _⟩ | ⟨rfl, _⟩ | ⟨rfl, _⟩ <;> simp [ru, sv, ovMag] <;> omega
    rw [e]
  rcases hk with ⟨rfl, rfl⟩ | ⟨rfl, rfl⟩ | ⟨rfl, rfl⟩ | ⟨rfl, rfl⟩ | ⟨rfl, rfl⟩
  · exact (overflow_nearestEven h md sign z _ _ hz rfl rfl (by omega) (by omega) w).mono (fun x w' h => fin x w' h)
  · exact (overflow_nearestAway h md sign z _ _ hz rfl rfl (by omega) (by omega) w).mono (fun x w' h => fin x w' h)
  · exact (overflow_towardZero h md sign z _ _ hz rfl rfl (by omega) (by omega) w).mono (fun x w' h => fin x w' h)
  · exact (overflow_upward h md sign z _ _ hz rfl rfl (by omega) (by omega) w).mono (fun x w' h => fin x w' h)
  · exact (overflow_downward h md sign z _ _ hz rfl rfl (by omega) (by omega) w).mono (fun x w' h => fin x w' h)

set_option maxRecDepth 100000 in
set_option maxHeartbeats 2000000 in
theorem invalid_any {p mn mx fb sp one inf sg nan : Int} (h : IsM p mn mx fb sp one inf sg nan) (w : World) :
    Calls Tryz.prog 70 #[.agg #[.int .i64 p, .int .i64 mn, .int .i64 mx]] w fun e w' => e = .returned (.agg #[.int .u64 nan, .int .i64 1]) ∧ Gr w w' := by
  have HN : Hid (∀ w, Calls Tryz.prog 81 #[.agg #[.int .i64 p, .int .i64 mn, .int .i64 mx]] w fun e w' => e = .returned (.int .u64 nan) ∧ Gr w w') := fun w => nan_any h w
  clear h
  go_enter Tryz.func70, Tryz.ntmps70
  go_wp2_with (go_at_call 81; refine (HN.out _).mono ?_; rintro e w1 ⟨rfl, hg_w1⟩; have ar0 : w1.cell? ⟨w.heap.size + 1, 0, none⟩ = some (.int .u64 0) := kq; have az0 : w1.frozen? ⟨w.heap.size + 1, 0, none⟩ = false := kq; have ar1 : w1.cell? ⟨w.heap.size + 1, 1, none⟩ = some (.int .i64 0) := kq; have az1 : w1.frozen? ⟨w.heap.size + 1, 1, none⟩ = false := kq)
  refine bodyPost_ret (v := .agg #[.int .u64 nan, .int .i64 1]) (by simp [results, Tryz.results70, go_sem, ar0, ar1]) rfl ⟨rfl, ?_⟩
  exact kr

theorem bl_nb (M : Nat) (hM : M < 340282366920938463463374607431768211456) : bl (M : Int) = (nb M : Int) := by
  unfold bl
  by_cases h : (M : Int) / 18446744073709551616 = 0
  · rw [if_pos h]
    have e : ((M : Int) % 18446744073709551616).toNat = M := by omega
    rw [e, bitLen_nb M (by omega)]
  · rw [if_neg h]
    have e : ((M : Int) / 18446744073709551616).toNat = M / 18446744073709551616 := by omega
    have h2 := nb_shift M 64 (by simp only [Nat.reducePow]; omega)
    simp only [Nat.reducePow] at h2
    rw [e, bitLen_nb _ (by omega), h2]; omega

theorem zerosM (M : Nat) (hM : M < 340282366920938463463374607431768211456) (w : World) :
    Calls Tryz.prog 141 #[.agg #[.int .u64 ((M / 18446744073709551616 : Nat) : Int), .int .u64 ((M % 18446744073709551616 : Nat) : Int)]] w fun e w' => e = .returned (.int .i64 (128 - (nb M : Int))) ∧ Gr w w' := by
  have e0 : ((M / 18446744073709551616 : Nat) : Int) * 18446744073709551616 + ((M % 18446744073709551616 : Nat) : Int) = (M : Int) := by omega
  have := implZeros_any ((M / 18446744073709551616 : Nat) : Int) ((M % 18446744073709551616 : Nat) : Int) (by omega) (by omega) (by omega) (by omega) w
  rw [bl_zer _ _ (by omega) (by omega) (by omega) (by omega), e0, bl_nb M hM] at this
  exact this

end Go.Proofs.YtkflpogmhailhaaGreatDoor
