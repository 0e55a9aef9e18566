/- words.wide, impl.wordsOf. -/
import Derived.Test.YtkflpogmhailhaaGreatDoorA1
import Derived.Test.YtkflpogmhailhaaGreatDoorRows
import Derived.WalkSpells
import Derived.WalkKit
import Derived.Laws.StructEq
import Derived.Lib.BitFns
import Derived.Lib.Walk
import Derived.Lib.Small
import Derived.Lib.Strings
import Derived.Lib.Slices
set_option linter.unusedVariables false
set_option linter.unusedSimpArgs false
namespace Go.Proofs.YtkflpogmhailhaaGreatDoor
open Go.RowKit

theorem wide_any (a0 a1 : Int) (w : World) :
    Calls Tryz.prog 136 #[.agg #[.int .u64 a0, .int .u64 a1]] w fun e w' => e = .returned (.agg #[.int .u64 a1, .int .u64 a0]) ∧ ∃ c1 c2 : Array Value, w' = (w.alloc (.cells c1 150)).alloc (.cells c2 78) := by
  go_enter Tryz.func136, Tryz.ntmps136
  go_wp2
  go_returns
  exact ⟨rfl, _, _, rfl⟩

theorem wordsOf_any (a0 a1 : Int) (w : World) :
    Calls Tryz.prog 150 #[.agg #[.int .u64 a1, .int .u64 a0]] w fun e w' => e = .returned (.agg #[.int .u64 a0, .int .u64 a1]) ∧ ∃ c1 c2 : Array Value, w' = (w.alloc (.cells c1 78)).alloc (.cells c2 150) := by
  go_enter Tryz.func150, Tryz.ntmps150
  go_wp2
  go_returns
  exact ⟨rfl, _, _, rfl⟩

theorem wide_gr (a0 a1 : Int) (w : World) :
    Calls Tryz.prog 136 #[.agg #[.int .u64 a0, .int .u64 a1]] w fun e w' => e = .returned (.agg #[.int .u64 a1, .int .u64 a0]) ∧ Gr w w' := by
  refine (wide_any a0 a1 w).mono ?_
  rintro e w' ⟨rfl, c1, c2, rfl⟩
  exact ⟨rfl, kr⟩

end Go.Proofs.YtkflpogmhailhaaGreatDoor

/- What '==' says of two arrays of two words. -/
set_option linter.unusedSimpArgs false
namespace Go.Proofs.YtkflpogmhailhaaGreatDoor
theorem eqWords (a b c d : Int) (w : World) : (Op.equalIn 10000 150 (.agg #[.int .u64 a, .int .u64 b]) (.agg #[.int .u64 c, .int .u64 d])).run Tryz.prog w = .ok (a == c && b == d) w := by
  have u3 := Tryz.underlying23
  have a3 := Tryz.isAgg23
  have z3 := Tryz.sizeOf23
  rw [show (10000 : Nat) = 9999 + 1 from rfl, Op.equalIn]
  simp only [Sem.run_bind, run_underlying Tryz.underlying150, Result.andThen_ok]
  simp only [Std.Legacy.Range.forIn_eq_forIn_range', Std.Legacy.Range.size, Nat.sub_zero, Nat.add_sub_cancel, Nat.div_one, List.range'_succ, List.range'_zero, List.forIn_cons, List.forIn_nil]
  go_simp
  by_cases h1 : a = c <;> by_cases h2 : b = d <;> simp [h1, h2]
end Go.Proofs.YtkflpogmhailhaaGreatDoor

/- What '==' says of two impl.Wide. -/
set_option linter.unusedSimpArgs false
namespace Go.Proofs.YtkflpogmhailhaaGreatDoor
theorem eqWideS (a b c d : Int) (w : World) : (Op.equalIn 10000 78 (.agg #[.int .u64 a, .int .u64 b]) (.agg #[.int .u64 c, .int .u64 d])).run Tryz.prog w = .ok (a == c && b == d) w := by
  have u3 := Tryz.underlying23
  have a3 := Tryz.isAgg23
  have z3 := Tryz.sizeOf23
  have hS : Tryz.prog.underlying 78 = some (.struct (Tryz.prog.fieldsOf 78)) := by kernel_rfl
  rw [show (10000 : Nat) = 9999 + 1 from rfl, run_equalIn_agg w 9999 78 _ _ hS (by kernel_rfl)]
  simp only [Program.fieldsOf, Tryz.underlying78]
  go_simp
  by_cases h1 : a = c <;> by_cases h2 : b = d <;> simp [h1, h2]
end Go.Proofs.YtkflpogmhailhaaGreatDoor

/- The distance, bounded. -/
namespace Go.Proofs.YtkflpogmhailhaaGreatDoor
def bnd (n : Int) : Int := if n < 0 then 0 else if 128 < n then 128 else n
open Go.RowKit
theorem world_w {w : World} {o : Obj} {t : TypeId} {x x' y y' : Int} (h1 : x = x') (h2 : y = y') : (w.alloc (.cells #[.int .u64 x, .int .u64 y] t)).alloc o = (w.alloc (.cells #[.int .u64 x', .int .u64 y'] t)).alloc o := by rw [h1, h2]
end Go.Proofs.YtkflpogmhailhaaGreatDoor

/- math/bits.Len64, math/bits.LeadingZeros64. -/
set_option linter.unusedVariables false
set_option linter.unusedSimpArgs false
namespace Go.Proofs.YtkflpogmhailhaaGreatDoor
open Go.RowKit

theorem tab_size : Go.Lib.len8tab.size = 256 := by decide +kernel
theorem tab_all : ∀ j : Fin 256, (Go.Lib.len8tab[j.val]'(by rw [tab_size]; exact j.isLt)).toNat = Go.Lib.bitLen j.val := by decide +kernel
theorem tab_get (i : Nat) (h : i < Go.Lib.len8tab.size) : (Go.Lib.len8tab[i]'h).toNat = Go.Lib.bitLen i := tab_all ⟨i, by rw [← tab_size]; exact h⟩
theorem tab_le (i : Nat) (h : i < 256) : Go.Lib.bitLen i ≤ 8 := Go.Lib.bitLen_le i 8 (by omega) (by omega)
/-- The value of one way through Len64: the number is shifted by s, what is left is below 256. -/
theorem len_way (x : Int) (s i : Nat) (c : Int) (h0 : 0 ≤ x) (h1 : x < 18446744073709551616) (hc : c = (s : Int)) (hs : s ≤ 56) (hi : i = x.toNat / 2 ^ s) (h : i < Go.Lib.len8tab.size) (hx : s = 0 ∨ 2 ^ s ≤ x.toNat) :
    wrap64 (c + wrap64 (((Go.Lib.len8tab[i]'h).toNat : Nat) : Int)) = (Go.Lib.bitLen x.toNat : Int) := by
  rw [tab_get]
  have hl := tab_le i (by rw [← tab_size]; exact h)
  have e : Go.Lib.bitLen x.toNat = s + Go.Lib.bitLen i := by
    rcases hx with rfl | hx
    · rw [hi]; simp
    · rw [hi]; exact Go.Lib.bitLen_shift s x.toNat hx (by omega)
  rw [e]
  unfold wrap64
  omega

set_option maxHeartbeats 4000000 in
set_option maxRecDepth 100000 in
theorem len64_any (x : Int) (h0 : 0 ≤ x) (h1 : x < 18446744073709551616) (w : World) :
    Calls Tryz.prog 148 #[.int .u64 x] w fun e w' => e = .returned (.int .i64 (Go.Lib.bitLen x.toNat)) ∧ w' = w := by
  have hsz := tab_size
  go_enter Tryz.func148, Tryz.ntmps148
  go_wp2
  all_goals (go_ret; refine ⟨ret_congr (congrArg (Value.int IntKind.i64) ?_), rfl⟩)
  all_goals first
    | exact len_way x 56 _ 56 h0 h1 rfl (by omega) (by simp only [Nat.reducePow]; omega) _ (.inr (by simp only [Nat.reducePow]; omega))
    | exact len_way x 48 _ 48 h0 h1 rfl (by omega) (by simp only [Nat.reducePow]; omega) _ (.inr (by simp only [Nat.reducePow]; omega))
    | exact len_way x 40 _ 40 h0 h1 rfl (by omega) (by simp only [Nat.reducePow]; omega) _ (.inr (by simp only [Nat.reducePow]; omega))
    | exact len_way x 32 _ 32 h0 h1 rfl (by omega) (by simp only [Nat.reducePow]; omega) _ (.inr (by simp only [Nat.reducePow]; omega))
    | exact len_way x 24 _ 24 h0 h1 rfl (by omega) (by simp only [Nat.reducePow]; omega) _ (.inr (by simp only [Nat.reducePow]; omega))
    | exact len_way x 16 _ 16 h0 h1 rfl (by omega) (by simp only [Nat.reducePow]; omega) _ (.inr (by simp only [Nat.reducePow]; omega))
    | exact len_way x 8 _ 8 h0 h1 rfl (by omega) (by simp only [Nat.reducePow]; omega) _ (.inr (by simp only [Nat.reducePow]; omega))
    | (have e := len_way x 0 x.toNat 0 h0 h1 rfl (by omega) (by simp) (by rw [tab_size]; omega) (.inl rfl); rw [Int.zero_add] at e; exact e)

theorem lz64_any (x : Int) (h0 : 0 ≤ x) (h1 : x < 18446744073709551616) (w : World) :
    Calls Tryz.prog 161 #[.int .u64 x] w fun e w' => e = .returned (.int .i64 (64 - (Go.Lib.bitLen x.toNat : Int))) ∧ w' = w := by
  have hl := Go.Lib.bitLen_le x.toNat 64 (by omega) (by omega)
  go_enter Tryz.func161, Tryz.ntmps161
  go_wp2_with (go_at_call 148; refine (len64_any x h0 h1 _).mono ?_; rintro e w' ⟨rfl, rfl⟩)
  go_ret
  exact ⟨rfl, rfl⟩

end Go.Proofs.YtkflpogmhailhaaGreatDoor

/- words.zeros. -/
set_option linter.unusedVariables false
set_option linter.unusedSimpArgs false
namespace Go.Proofs.YtkflpogmhailhaaGreatDoor
open Go.RowKit

/-- The zeros ahead of the highest 1 of a number of two words. -/
def zer (h l : Int) : Int := if h = 0 then 128 - (Go.Lib.bitLen l.toNat : Int) else 64 - (Go.Lib.bitLen h.toNat : Int)

set_option maxHeartbeats 1000000 in
theorem zeros_any (a0 a1 : Int) (ha0 : 0 ≤ a0) (ha1 : 0 ≤ a1) (ga0 : a0 < 18446744073709551616) (ga1 : a1 < 18446744073709551616) (w : World) :
    Calls Tryz.prog 156 #[.agg #[.int .u64 a0, .int .u64 a1]] w fun e w' => e = .returned (.int .i64 (zer a1 a0)) ∧ Gr w w' := by
  have hl0 := Go.Lib.bitLen_le a0.toNat 64 (by omega) (by omega)
  have hl1 := Go.Lib.bitLen_le a1.toNat 64 (by omega) (by omega)
  by_cases z1 : a1 = 0
  · subst z1
    by_cases z0 : a0 = 0
    · subst z0
      go_enter Tryz.func156, Tryz.ntmps156
      go_wp2
      refine wp_loop_rounds 3 ?_
      rw [rounds_succ]; go_wp2
      rw [rounds_succ]; go_wp2
      rw [rounds_succ]; go_wp2
      go_returns
      exact ⟨ret_congr (congrArg (Value.int IntKind.i64) (by decide +kernel)), ⟨by go_grown, by go_grown⟩⟩
    · have e0 : (a0 == 0) = false := by simp [z0]
      clear z0
      go_enter Tryz.func156, Tryz.ntmps156
      go_wp2
      refine wp_loop_rounds 3 ?_
      rw [rounds_succ]; go_wp2
      rw [rounds_succ]
      go_wp2_with (go_at_call 161; refine (lz64_any _ ha0 ga0 _).mono ?_; rintro e w' ⟨rfl, rfl⟩)
      go_returns
      exact ⟨ret_congr (congrArg (Value.int IntKind.i64) (by unfold zer; rw [if_pos rfl]; omega)), ⟨by go_grown, by go_grown⟩⟩
  · have e1 : (a1 == 0) = false := by simp [z1]
    have Z1 : Hid _ := z1
    clear z1
    go_enter Tryz.func156, Tryz.ntmps156
    go_wp2
    refine wp_loop_rounds 3 ?_
    rw [rounds_succ]
    go_wp2_with (go_at_call 161; refine (lz64_any _ ha1 ga1 _).mono ?_; rintro e w' ⟨rfl, rfl⟩)
    go_returns
    exact ⟨ret_congr (congrArg (Value.int IntKind.i64) (by unfold zer; rw [if_neg Z1.out]; try omega)), ⟨by go_grown, by go_grown⟩⟩
end Go.Proofs.YtkflpogmhailhaaGreatDoor

/- impl.Zeros. -/
set_option linter.unusedVariables false
set_option linter.unusedSimpArgs false
namespace Go.Proofs.YtkflpogmhailhaaGreatDoor
open Go.RowKit

def bl (X : Int) : Int := if X / 18446744073709551616 = 0 then (Go.Lib.bitLen (X % 18446744073709551616).toNat : Int) else 64 + (Go.Lib.bitLen (X / 18446744073709551616).toNat : Int)

theorem bl_zer (h l : Int) (h0 : 0 ≤ h) (l0 : 0 ≤ l) (h1 : h < 18446744073709551616) (l1 : l < 18446744073709551616) : zer h l = 128 - bl (h * 18446744073709551616 + l) := by
  have e1 : (h * 18446744073709551616 + l) / 18446744073709551616 = h := by omega
  have e2 : (h * 18446744073709551616 + l) % 18446744073709551616 = l := by omega
  unfold zer bl
  rw [e1, e2]
  split <;> omega
theorem bl_le (X : Int) (x0 : 0 ≤ X) (x1 : X < 340282366920938463463374607431768211456) : bl X ≤ 128 := by
  unfold bl
  have a := Go.Lib.bitLen_le (X % 18446744073709551616).toNat 64 (by omega) (by omega)
  have b := Go.Lib.bitLen_le (X / 18446744073709551616).toNat 64 (by omega) (by omega)
  split <;> omega
theorem bl_nonneg (X : Int) : 0 ≤ bl X := by
  unfold bl
  split <;> omega
theorem bl_zero : bl 0 = 0 := by decide +kernel
theorem bl_half (X : Int) (x0 : 0 < X) (x1 : X < 340282366920938463463374607431768211456) : bl X = 1 + bl (X / 2) := by
  unfold bl
  by_cases h : X / 18446744073709551616 = 0
  · have h2 : X / 2 / 18446744073709551616 = 0 := by omega
    rw [if_pos h, if_pos h2]
    have e := Go.Lib.bitLen_half (X % 18446744073709551616).toNat (by omega) (by omega)
    have e2 : (X % 18446744073709551616).toNat / 2 = (X / 2 % 18446744073709551616).toNat := by omega
    rw [e, e2]; omega
  · by_cases h1 : X / 18446744073709551616 = 1
    · have h2 : X / 2 / 18446744073709551616 = 0 := by omega
      rw [if_neg h, if_pos h2, h1]
      have e := Go.Lib.bitLen_shift 63 (X / 2 % 18446744073709551616).toNat (by simp only [Nat.reducePow]; omega) (by omega)
      have e2 : (X / 2 % 18446744073709551616).toNat / 2 ^ 63 = 1 := by simp only [Nat.reducePow]; omega
      have e3 : Go.Lib.bitLen 1 = 1 := by decide +kernel
      rw [e2, e3] at e
      rw [e]
      have e4 : (1 : Int).toNat = 1 := rfl
      rw [e4, e3]; omega
    · have h2 : ¬ X / 2 / 18446744073709551616 = 0 := by omega
      rw [if_neg h, if_neg h2]
      have e := Go.Lib.bitLen_half (X / 18446744073709551616).toNat (by omega) (by omega)
      have e2 : (X / 18446744073709551616).toNat / 2 = (X / 2 / 18446744073709551616).toNat := by omega
      rw [e, e2]; omega


set_option maxHeartbeats 1000000 in
theorem implZeros_any (h l : Int) (h0 : 0 ≤ h) (l0 : 0 ≤ l) (h1 : h < 18446744073709551616) (l1 : l < 18446744073709551616) (w : World) :
    Calls Tryz.prog 141 #[.agg #[.int .u64 h, .int .u64 l]] w fun e w' => e = .returned (.int .i64 (zer h l)) ∧ Gr w w' := by
  go_enter Tryz.func141, Tryz.ntmps141
  go_wp2_with (first
    | (go_at_call 150; refine (wordsOf_any _ _ _).mono ?_; rintro e w1 ⟨rfl, c1, c2, rfl⟩)
    | (go_at_call 156; refine (zeros_any l h l0 h0 l1 h1 _).mono ?_; rintro e w2 ⟨rfl, hg_w2⟩))
  go_returns
  exact ⟨rfl, kr⟩

end Go.Proofs.YtkflpogmhailhaaGreatDoor
