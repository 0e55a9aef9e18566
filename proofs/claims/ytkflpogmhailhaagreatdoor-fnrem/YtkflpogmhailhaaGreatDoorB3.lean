/- impl's roundAt, whole. -/
import Derived.Test.YtkflpogmhailhaaGreatDoorRPAtP
import Derived.Test.YtkflpogmhailhaaGreatDoorF2b
import Derived.Deep.RegionHeld3
set_option linter.unusedVariables false
set_option linter.unusedSimpArgs false
namespace Go.Proofs.YtkflpogmhailhaaGreatDoor
open Go.RowKit

theorem and_one (kl : Nat) (h : kl < 18446744073709551616) : bits .and .u64 (kl : Int) 1 = ((kl % 2 : Nat) : Int) := by
  have := u64_and_nat kl 1 h (by omega)
  rw [show ((1 : Nat) : Int) = 1 from rfl] at this
  rw [this, Nat.and_one_is_mod]

/-- The rule and the model's choice. -/
theorem ru_up (mode sign : Int) (M lo d : Nat) (rest : Bool) (m0 : 0 ≤ mode) (m1 : mode ≤ 4) (hs : sign = 0 ∨ sign = 1) :
    ru mode (sign == 1) ((((lo % 2 : Nat) : Int)) == 1) (decide (M / 2 ^ (d - 1) % 2 ≠ 0)) (decide (M % 2 ^ (d - 1) ≠ 0) || rest) = up mode sign lo (hr M d rest) ∧
    ((decide (M / 2 ^ (d - 1) % 2 ≠ 0)) || (decide (M % 2 ^ (d - 1) ≠ 0) || rest)) = decide (0 < hr M d rest) := by
  obtain ⟨H, hH⟩ : ∃ H, M / 2 ^ (d - 1) % 2 = H := ⟨_, rfl⟩
  obtain ⟨R, hR⟩ : ∃ R, M % 2 ^ (d - 1) = R := ⟨_, rfl⟩
  have hH2 : H = 0 ∨ H = 1 := by have := Nat.mod_lt (M / 2 ^ (d - 1)) (show 0 < 2 by decide); omega
  have hL : lo % 2 = 0 ∨ lo % 2 = 1 := by omega
  unfold hr
  rw [hH, hR]
  unfold up ru
  rcases (show mode = 0 ∨ mode = 1 ∨ mode = 2 ∨ mode = 3 ∨ mode = 4 by omega) with rfl | rfl | rfl | rfl | rfl <;> rcases hs with rfl | rfl <;> rcases hH2 with rfl | rfl <;> rcases hL with hL | hL <;> rw [hL] <;> cases rest <;> by_cases hz : R = 0 <;> simp [hz]

theorem roundAt_any (mode : Int) (k : Nat) (hk : IsRule mode k) (sign : Int) (hs : sign = 0 ∨ sign = 1) (M : Nat) (hM : M < 340282366920938463463374607431768211456) (e q drop : Int) (sticky : Bool) (hd : drop = q - e) (d0 : -128 ≤ drop) (d1 : drop ≤ 1000000) (hst : drop ≤ 0 → sticky = false) (hlo : cutLo M e q < 18446744073709551615) (w : World) :
    Calls Tryz.prog 143 #[.func (.func k) #[] #[], .int .i64 drop, .int .i64 sign, .agg #[.int .u64 ((M / 18446744073709551616 : Nat) : Int), .int .u64 ((M % 18446744073709551616 : Nat) : Int)], .bool sticky] w fun x w' => x = .returned (.tuple #[.int .u64 ((chosen mode sign (cutLo M e q) (cutHalf M e q sticky) : Nat) : Int), .bool (decide (0 < cutHalf M e q sticky))]) ∧ Gr w w' := by
  have m01 : 0 ≤ mode ∧ mode ≤ 4 := by rcases hk with h | h | h | h | h <;> omega
  by_cases hq : q ≤ e
  · have hst' := hst (by omega)
    subst hst'
    have eLo : cutLo M e q = M * 2 ^ (e - q).toNat := by unfold cutLo; rw [if_pos hq]
    have eHa : cutHalf M e q false = 0 := by unfold cutHalf; rw [if_pos hq]; rfl
    have eCh : chosen mode sign (cutLo M e q) 0 = M * 2 ^ (e - q).toNat := by
      rw [eLo]; unfold chosen up
      rw [if_neg (by simp)]; rfl
    rw [eHa, eCh]
    rw [eLo] at hlo
    refine (roundAt_neg M hM drop sign false (e - q).toNat _ (by omega) d0 (by omega) (by omega) w).mono ?_
    rintro x w' ⟨rfl, hg⟩
    exact ⟨by simp, hg⟩
  · obtain ⟨d, hdd⟩ : ∃ d : Nat, q - e = (d : Int) := ⟨(q - e).toNat, by omega⟩
    have d1' : 1 ≤ d := by omega
    have eLo : cutLo M e q = M / 2 ^ d := by unfold cutLo; rw [if_neg hq, hdd]; rfl
    have eHa : cutHalf M e q sticky = hr M d sticky := by unfold cutHalf; rw [if_neg hq, hdd]; rfl
    rw [eLo] at hlo
    rw [eLo, eHa]
    obtain ⟨hU, hI⟩ := ru_up mode sign M (M / 2 ^ d) d sticky m01.1 m01.2 hs
    have hHd : M / 2 ^ (d - 1) / 2 ^ 1 = M / 2 ^ d := by
      rw [Nat.div_div_eq_div_mul, ← Nat.pow_add, show d - 1 + 1 = d by omega]
    have hb : M / 2 ^ (d - 1) < 340282366920938463463374607431768211456 := Nat.lt_of_le_of_lt (Nat.div_le_self _ _) hM
    have HS1 : Hid (∀ w, Calls Tryz.prog 130 #[.agg #[.int .u64 ((M / 18446744073709551616 : Nat) : Int), .int .u64 ((M % 18446744073709551616 : Nat) : Int)], .int .i64 (drop - 1)] w fun e w' => e = .returned (.tuple #[.agg #[.int .u64 ((M / 2 ^ (d - 1) / 18446744073709551616 : Nat) : Int), .int .u64 ((M / 2 ^ (d - 1) % 18446744073709551616 : Nat) : Int)], .bool (decide (M % 2 ^ (d - 1) ≠ 0))]) ∧ Gr w w') := fun w => by
      rw [show drop - 1 = ((d - 1 : Nat) : Int) by omega]
      exact shrM M hM (d - 1) w
    have HS2 : Hid (∀ w, Calls Tryz.prog 130 #[.agg #[.int .u64 ((M / 2 ^ (d - 1) / 18446744073709551616 : Nat) : Int), .int .u64 ((M / 2 ^ (d - 1) % 18446744073709551616 : Nat) : Int)], .int .i64 1] w fun e w' => e = .returned (.tuple #[.agg #[.int .u64 ((M / 2 ^ d / 18446744073709551616 : Nat) : Int), .int .u64 ((M / 2 ^ d % 18446744073709551616 : Nat) : Int)], .bool (decide (M / 2 ^ (d - 1) % 2 ≠ 0))]) ∧ Gr w w') := fun w => by
      have := shrM (M / 2 ^ (d - 1)) hb 1 w
      rw [hHd, Nat.pow_one] at this
      exact this
    have hK : M / 2 ^ d % 18446744073709551616 = M / 2 ^ d := Nat.mod_eq_of_lt (by omega)
    rw [hK] at HS2
    have hfin : ∀ x w', (x = Ending.returned (.tuple #[.int .u64 (((M / 2 ^ d : Nat) : Int) + (if up mode sign (M / 2 ^ d) (hr M d sticky) then 1 else 0)), .bool (decide (M / 2 ^ (d - 1) % 2 ≠ 0) || (decide (M % 2 ^ (d - 1) ≠ 0) || sticky))]) ∧ Gr w w') →
        (x = Ending.returned (.tuple #[.int .u64 ((chosen mode sign (M / 2 ^ d) (hr M d sticky) : Nat) : Int), .bool (decide (0 < hr M d sticky))]) ∧ Gr w w') := by
      rintro x w' ⟨rfl, hg⟩
      refine ⟨?_, hg⟩
      rw [hI]
      unfold chosen
      split <;> simp
    rcases hk with ⟨rfl, rfl⟩ | ⟨rfl, rfl⟩ | ⟨rfl, rfl⟩ | ⟨rfl, rfl⟩ | ⟨rfl, rfl⟩
    · exact (roundAt_nearestEven _ _ _ _ _ _ drop sign _ _ _ sticky _ _ _ _ (by omega) d1 rfl (and_one _ (by omega)) rfl rfl (by omega) (by omega) hU HS1 HS2 w).mono (fun x w' h => hfin x w' h)
    · exact (roundAt_nearestAway _ _ _ _ _ _ drop sign _ _ _ sticky _ _ _ _ (by omega) d1 rfl (and_one _ (by omega)) rfl rfl (by omega) (by omega) hU HS1 HS2 w).mono (fun x w' h => hfin x w' h)
    · exact (roundAt_towardZero _ _ _ _ _ _ drop sign _ _ _ sticky _ _ _ _ (by omega) d1 rfl (and_one _ (by omega)) rfl rfl (by omega) (by omega) hU HS1 HS2 w).mono (fun x w' h => hfin x w' h)
    · exact (roundAt_upward _ _ _ _ _ _ drop sign _ _ _ sticky _ _ _ _ (by omega) d1 rfl (and_one _ (by omega)) rfl rfl (by omega) (by omega) hU HS1 HS2 w).mono (fun x w' h => hfin x w' h)
    · exact (roundAt_downward _ _ _ _ _ _ drop sign _ _ _ sticky _ _ _ _ (by omega) d1 rfl (and_one _ (by omega)) rfl rfl (by omega) (by omega) hU HS1 HS2 w).mono (fun x w' h => hfin x w' h)
end Go.Proofs.YtkflpogmhailhaaGreatDoor

/- impl's tiny. -/
set_option linter.unusedVariables false
set_option linter.unusedSimpArgs false
namespace Go.Proofs.YtkflpogmhailhaaGreatDoor
open Go.RowKit

set_option maxRecDepth 100000 in
set_option maxHeartbeats 2000000 in
theorem tiny_ne {p mn mx : Int} (m0 : -1022 ≤ mn) (m1 : mn ≤ 0) (md : Int) (k : Nat) (top sign e mh ml : Int) (sticky : Bool) (hne : (top == mn - 1) = false) (w : World) :
    Calls Tryz.prog 144 #[.agg #[.int .i64 p, .int .i64 mn, .int .i64 mx, .int .i64 md, .func (.func k) #[] #[]], .int .i64 top, .int .i64 sign, .int .i64 e, .agg #[.int .u64 mh, .int .u64 ml], .bool sticky] w fun x w' => x = .returned (.bool (decide (top < mn))) ∧ Gr w w' := by
  go_enter Tryz.func144, Tryz.ntmps144
  go_wp2
  go_returns
  exact ⟨rfl, kr⟩

set_option maxRecDepth 100000 in
set_option maxHeartbeats 1000000 in
theorem tiny_eq {p mn mx fb sp one inf sg nan : Int} (h : IsM p mn mx fb sp one inf sg nan) (md : Int) (k : Nat) (top sign e mh ml a1 dr r2 : Int) (sticky b2 tb : Bool) (htop : top = mn - 1) (e0 : -200000 ≤ e) (e1 : e ≤ 200000) (ha : top - fb = a1) (hdr : a1 - e = dr) (r0 : 0 ≤ r2) (r1 : r2 < 18446744073709551616) (htb : tb = decide (r2 < 2 * one))
    (HAt : Hid (∀ w, Calls Tryz.prog 143 #[.func (.func k) #[] #[], .int .i64 dr, .int .i64 sign, .agg #[.int .u64 mh, .int .u64 ml], .bool sticky] w fun x w' => x = .returned (.tuple #[.int .u64 r2, .bool b2]) ∧ Gr w w')) (w : World) :
    Calls Tryz.prog 144 #[.agg #[.int .i64 p, .int .i64 mn, .int .i64 mx, .int .i64 md, .func (.func k) #[] #[]], .int .i64 top, .int .i64 sign, .int .i64 e, .agg #[.int .u64 mh, .int .u64 ml], .bool sticky] w fun x w' => x = .returned (.bool tb) ∧ Gr w w' := by
  have HF : Hid (∀ w, Calls Tryz.prog 117 #[.agg #[.int .i64 p, .int .i64 mn, .int .i64 mx]] w fun e w' => e = .returned (.int .i64 fb) ∧ Gr w w') := fun w => fb_any h w
  have tb2 : -2000 ≤ top ∧ top ≤ 0 := by rcases h with h | h <;> omega
  have u1 : IntKind.i64.wrap (top - fb) = a1 := by rw [ha]; exact wi64 _ (by rcases h with h | h <;> omega) (by rcases h with h | h <;> omega)
  have u2 : IntKind.i64.wrap (a1 - e) = dr := by rw [hdr]; exact wi64 _ (by rcases h with h | h <;> omega) (by rcases h with h | h <;> omega)
  have HT : Hid (tb = decide (r2 < 2 * one)) := htb
  clear ha hdr htb
  rcases h with ⟨rfl, rfl, rfl, rfl, rfl, rfl, rfl, rfl, rfl⟩ | ⟨rfl, rfl, rfl, rfl, rfl, rfl, rfl, rfl, rfl⟩
  · have heq : (top == -127) = true := by simp; omega
    clear htop
    go_enter Tryz.func144, Tryz.ntmps144
    go_wp2
    go_region_held3 (fun w' => w'.cell? ⟨w.heap.size, 0, none⟩ = some (.int .i64 24) ∧ w'.cell? ⟨w.heap.size, 1, none⟩ = some (.int .i64 (-126)) ∧ w'.cell? ⟨w.heap.size, 2, none⟩ = some (.int .i64 127) ∧ w'.cell? ⟨w.heap.size, 3, none⟩ = some (.int .i64 md) ∧ w'.cell? ⟨w.heap.size, 4, none⟩ = some (.func (.func k) #[] #[]) ∧ w'.cell? ⟨w.heap.size + 1, 0, none⟩ = some (.int .u64 mh) ∧ w'.cell? ⟨w.heap.size + 1, 1, none⟩ = some (.int .u64 ml))
      ((go_split_ands; (repeat' apply And.intro) <;> exact kl))
      (first
        | (go_at_call 117; refine (HF.out _).mono ?_; rintro e w1 ⟨rfl, hg_w1⟩; have hc_w1 := hg_w1.cells; have hf_w1 := hg_w1.frozens; have hz_w1 := hg_w1.size; (try simp only [World.size_alloc, World.size_drew, World.size_setCell] at hz_w1))
        | (go_at_call 143; refine (HAt.out _).mono ?_; rintro e w2 ⟨rfl, hg_w2⟩; have hc_w2 := hg_w2.cells; have hf_w2 := hg_w2.frozens; have hz_w2 := hg_w2.size; (try simp only [World.size_alloc, World.size_drew, World.size_setCell] at hz_w2)))
    all_goals (try go_split_ands)
    all_goals go_wp2
    all_goals go_returns
    all_goals
      refine ⟨ret_congr (congrArg Value.bool ?_), kr⟩
      rw [HT.out]
      first
        | (rw [Bool.eq_iff_iff]; simp; omega)
        | (by_cases c : r2 < 16777216
           · rw [decide_eq_true (by omega)]; simp; omega
           · rw [decide_eq_false (by omega)]; simp; omega)
  · have heq : (top == -1023) = true := by simp; omega
    clear htop
    go_enter Tryz.func144, Tryz.ntmps144
    go_wp2
    go_region_held3 (fun w' => w'.cell? ⟨w.heap.size, 0, none⟩ = some (.int .i64 53) ∧ w'.cell? ⟨w.heap.size, 1, none⟩ = some (.int .i64 (-1022)) ∧ w'.cell? ⟨w.heap.size, 2, none⟩ = some (.int .i64 1023) ∧ w'.cell? ⟨w.heap.size, 3, none⟩ = some (.int .i64 md) ∧ w'.cell? ⟨w.heap.size, 4, none⟩ = some (.func (.func k) #[] #[]) ∧ w'.cell? ⟨w.heap.size + 1, 0, none⟩ = some (.int .u64 mh) ∧ w'.cell? ⟨w.heap.size + 1, 1, none⟩ = some (.int .u64 ml))
      ((go_split_ands; (repeat' apply And.intro) <;> exact kl))
      (first
        | (go_at_call 117; refine (HF.out _).mono ?_; rintro e w1 ⟨rfl, hg_w1⟩; have hc_w1 := hg_w1.cells; have hf_w1 := hg_w1.frozens; have hz_w1 := hg_w1.size; (try simp only [World.size_alloc, World.size_drew, World.size_setCell] at hz_w1))
        | (go_at_call 143; refine (HAt.out _).mono ?_; rintro e w2 ⟨rfl, hg_w2⟩; have hc_w2 := hg_w2.cells; have hf_w2 := hg_w2.frozens; have hz_w2 := hg_w2.size; (try simp only [World.size_alloc, World.size_drew, World.size_setCell] at hz_w2)))
    all_goals (try go_split_ands)
    all_goals go_wp2
    all_goals go_returns
    all_goals
      refine ⟨ret_congr (congrArg Value.bool ?_), kr⟩
      rw [HT.out]
      first
        | (rw [Bool.eq_iff_iff]; simp; omega)
        | (by_cases c : r2 < 9007199254740992
           · rw [decide_eq_true (by omega)]; simp; omega
           · rw [decide_eq_false (by omega)]; simp; omega)
end Go.Proofs.YtkflpogmhailhaaGreatDoor
