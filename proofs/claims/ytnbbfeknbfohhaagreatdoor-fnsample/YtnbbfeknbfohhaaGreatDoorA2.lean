import Derived.Test.YtnbbfeknbfohhaaGreatDoorA1
import Derived.Test.YtnbbfeknbfohhaaGreatDoorRows
import Derived.WalkSpells
import Derived.WalkKit
import Derived.Laws.StructEq
import Derived.Lib.BitFns
import Derived.Lib.Walk
import Derived.Lib.Small
import Derived.Lib.Strings
import Derived.Lib.Slices
set_option linter.unusedVariables false
set_option linter.unusedSimpArgs false
namespace Go.Proofs.YtnbbfeknbfohhaaGreatDoor
open Go.RowKit
theorem wide_any (a0 a1 : Int) (w : World) :
  Calls Tryz.prog 213 #[.agg #[.int .u64 a0, .int .u64 a1]] w fun e w' => e = .returned (.agg #[.int .u64 a1, .int .u64 a0]) ∧ ∃ c1 c2 : Array Value, w' = (w.alloc (.cells c1 228)).alloc (.cells c2 120) := by
 go_enter Tryz.func213, Tryz.ntmps213
 go_wp2
 go_returns
 exact ⟨rfl, _, _, rfl⟩
theorem wordsOf_any (a0 a1 : Int) (w : World) :
  Calls Tryz.prog 211 #[.agg #[.int .u64 a1, .int .u64 a0]] w fun e w' => e = .returned (.agg #[.int .u64 a0, .int .u64 a1]) ∧ ∃ c1 c2 : Array Value, w' = (w.alloc (.cells c1 120)).alloc (.cells c2 228) := by
 go_enter Tryz.func211, Tryz.ntmps211
 go_wp2
 go_returns
 exact ⟨rfl, _, _, rfl⟩
theorem wide_gr (a0 a1 : Int) (w : World) :
  Calls Tryz.prog 213 #[.agg #[.int .u64 a0, .int .u64 a1]] w fun e w' => e = .returned (.agg #[.int .u64 a1, .int .u64 a0]) ∧ Gr w w' := by
 refine (wide_any a0 a1 w).mono ?_
 rintro e w' ⟨rfl, c1, c2, rfl⟩
 exact ⟨rfl, kr⟩
end Go.Proofs.YtnbbfeknbfohhaaGreatDoor
namespace Go.Proofs.YtnbbfeknbfohhaaGreatDoor
theorem eqWords (a b c d : Int) (w : World) : (Op.equalIn 10000 228 (.agg #[.int .u64 a, .int .u64 b]) (.agg #[.int .u64 c, .int .u64 d])).run Tryz.prog w = .ok (a == c && b == d) w := by
 have u3 := Tryz.underlying22
 have a3 := Tryz.isAgg22
 have z3 := Tryz.sizeOf22
 rw [show (10000 : Nat) = 9999 + 1 from rfl, Op.equalIn]
 simp only [Sem.run_bind, run_underlying Tryz.underlying228, Result.andThen_ok]
 simp only [Std.Legacy.Range.forIn_eq_forIn_range', Std.Legacy.Range.size, Nat.sub_zero, Nat.add_sub_cancel, Nat.div_one, List.range'_succ, List.range'_zero, List.forIn_cons, List.forIn_nil]
 go_simp
 by_cases h1 : a = c <;> by_cases h2 : b = d <;> simp [h1, h2]
end Go.Proofs.YtnbbfeknbfohhaaGreatDoor
namespace Go.Proofs.YtnbbfeknbfohhaaGreatDoor
theorem eqWideS (a b c d : Int) (w : World) : (Op.equalIn 10000 120 (.agg #[.int .u64 a, .int .u64 b]) (.agg #[.int .u64 c, .int .u64 d])).run Tryz.prog w = .ok (a == c && b == d) w := by
 have u3 := Tryz.underlying22
 have a3 := Tryz.isAgg22
 have z3 := Tryz.sizeOf22
 have hS : Tryz.prog.underlying 120 = some (.struct (Tryz.prog.fieldsOf 120)) := by kernel_rfl
 rw [show (10000 : Nat) = 9999 + 1 from rfl, run_equalIn_agg w 9999 120 _ _ hS (by kernel_rfl)]
 simp only [Program.fieldsOf, Tryz.underlying120]
 go_simp
 by_cases h1 : a = c <;> by_cases h2 : b = d <;> simp [h1, h2]
end Go.Proofs.YtnbbfeknbfohhaaGreatDoor
namespace Go.Proofs.YtnbbfeknbfohhaaGreatDoor
def bnd (n : Int) : Int := if n < 0 then 0 else if 128 < n then 128 else n
open Go.RowKit
theorem world_w {w : World} {o : Obj} {t : TypeId} {x x' y y' : Int} (h1 : x = x') (h2 : y = y') : (w.alloc (.cells #[.int .u64 x, .int .u64 y] t)).alloc o = (w.alloc (.cells #[.int .u64 x', .int .u64 y'] t)).alloc o := by rw [h1, h2]
end Go.Proofs.YtnbbfeknbfohhaaGreatDoor
set_option maxHeartbeats 40000000
namespace Go.Proofs.YtnbbfeknbfohhaaGreatDoor
open Go.RowKit
theorem tab_size : Go.Lib.len8tab.size = 256 := by decide +kernel
theorem tab_all : ∀ j : Fin 256, (Go.Lib.len8tab[j.val]'(by rw [tab_size]; exact j.isLt)).toNat = Go.Lib.bitLen j.val := by decide +kernel
theorem tab_get (i : Nat) (h : i < Go.Lib.len8tab.size) : (Go.Lib.len8tab[i]'h).toNat = Go.Lib.bitLen i := tab_all ⟨i, by rw [← tab_size]; exact h⟩
theorem tab_le (i : Nat) (h : i < 256) : Go.Lib.bitLen i ≤ 8 := Go.Lib.bitLen_le i 8 (by omega) (by omega)
theorem len_way (x : Int) (s i : Nat) (c : Int) (h0 : 0 ≤ x) (h1 : x < 18446744073709551616) (hc : c = (s : Int)) (hs : s ≤ 56) (hi : i = x.toNat / 2 ^ s) (h : i < Go.Lib.len8tab.size) (hx : s = 0 ∨ 2 ^ s ≤ x.toNat) :
  wrap64 (c + wrap64 (((Go.Lib.len8tab[i]'h).toNat : Nat) : Int)) = (Go.Lib.bitLen x.toNat : Int) := by
 rw [tab_get]
 have hl := tab_le i (by rw [← tab_size]; exact h)
 have e : Go.Lib.bitLen x.toNat = s + Go.Lib.bitLen i := by
  rcases hx with rfl | hx
  ·rw [hi]; simp
  ·rw [hi]; exact Go.Lib.bitLen_shift s x.toNat hx (by omega)
 rw [e]
 unfold wrap64
 omega
set_option maxRecDepth 100000 in
theorem len64_any (x : Int) (h0 : 0 ≤ x) (h1 : x < 18446744073709551616) (w : World) :
  Calls Tryz.prog 234 #[.int .u64 x] w fun e w' => e = .returned (.int .i64 (Go.Lib.bitLen x.toNat)) ∧ w' = w := by
 have hsz := tab_size
 go_enter Tryz.func234, Tryz.ntmps234
 go_wp2
 all_goals (go_ret; refine ⟨ret_congr (congrArg (Value.int IntKind.i64) ?_), rfl⟩)
 all_goals first
  | exact len_way x 56 _ 56 h0 h1 rfl (by omega) (by simp only [Nat.reducePow]; omega) _ (.inr (by simp only [Nat.reducePow]; omega))
  | exact len_way x 48 _ 48 h0 h1 rfl (by omega) (by simp only [Nat.reducePow]; omega) _ (.inr (by simp only [Nat.reducePow]; omega))
  | exact len_way x 40 _ 40 h0 h1 rfl (by omega) (by simp only [Nat.reducePow]; omega) _ (.inr (by simp only [Nat.reducePow]; omega))
  | exact len_way x 32 _ 32 h0 h1 rfl (by omega) (by simp only [Nat.reducePow]; omega) _ (.inr (by simp only [Nat.reducePow]; omega))
  | exact len_way x 24 _ 24 h0 h1 rfl (by omega) (by simp only [Nat.reducePow]; omega) _ (.inr (by simp only [Nat.reducePow]; omega))
  | exact len_way x 16 _ 16 h0 h1 rfl (by omega) (by simp only [Nat.reducePow]; omega) _ (.inr (by simp only [Nat.reducePow]; omega))
  | exact len_way x 8 _ 8 h0 h1 rfl (by omega) (by simp only [Nat.reducePow]; omega) _ (.inr (by simp only [Nat.reducePow]; omega))
  | (have e := len_way x 0 x.toNat 0 h0 h1 rfl (by omega) (by simp) (by rw [tab_size]; omega) (.inl rfl); rw [Int.zero_add] at e; exact e)
theorem lz64_any (x : Int) (h0 : 0 ≤ x) (h1 : x < 18446744073709551616) (w : World) :
  Calls Tryz.prog 249 #[.int .u64 x] w fun e w' => e = .returned (.int .i64 (64 - (Go.Lib.bitLen x.toNat : Int))) ∧ w' = w := by
 have hl := Go.Lib.bitLen_le x.toNat 64 (by omega) (by omega)
 go_enter Tryz.func249, Tryz.ntmps249
 go_wp2_with (go_at_call 234; refine (len64_any x h0 h1 _).mono ?_; rintro e w' ⟨rfl, rfl⟩)
 go_ret
 exact ⟨rfl, rfl⟩
end Go.Proofs.YtnbbfeknbfohhaaGreatDoor
namespace Go.Proofs.YtnbbfeknbfohhaaGreatDoor
open Go.RowKit
def zer (h l : Int) : Int := if h = 0 then 128 - (Go.Lib.bitLen l.toNat : Int) else 64 - (Go.Lib.bitLen h.toNat : Int)
theorem zeros_any (a0 a1 : Int) (ha0 : 0 ≤ a0) (ha1 : 0 ≤ a1) (ga0 : a0 < 18446744073709551616) (ga1 : a1 < 18446744073709551616) (w : World) :
  Calls Tryz.prog 244 #[.agg #[.int .u64 a0, .int .u64 a1]] w fun e w' => e = .returned (.int .i64 (zer a1 a0)) ∧ Gr w w' := by
 have hl0 := Go.Lib.bitLen_le a0.toNat 64 (by omega) (by omega)
 have hl1 := Go.Lib.bitLen_le a1.toNat 64 (by omega) (by omega)
 by_cases z1 : a1 = 0
 ·subst z1
  by_cases z0 : a0 = 0
  ·subst z0
   go_enter Tryz.func244, Tryz.ntmps244
   go_wp2
   refine wp_loop_rounds 3 ?_
   rw [rounds_succ]; go_wp2
   rw [rounds_succ]; go_wp2
   rw [rounds_succ]; go_wp2
   go_returns
   exact ⟨ret_congr (congrArg (Value.int IntKind.i64) (by decide +kernel)), ⟨by go_grown, by go_grown⟩⟩
  ·have e0 : (a0 == 0) = false := by simp [z0]
   clear z0
   go_enter Tryz.func244, Tryz.ntmps244
   go_wp2
   refine wp_loop_rounds 3 ?_
   rw [rounds_succ]; go_wp2
   rw [rounds_succ]
   go_wp2_with (go_at_call 249; refine (lz64_any _ ha0 ga0 _).mono ?_; rintro e w' ⟨rfl, rfl⟩)
   go_returns
   exact ⟨ret_congr (congrArg (Value.int IntKind.i64) (by unfold zer; rw [if_pos rfl]; omega)), ⟨by go_grown, by go_grown⟩⟩
 ·have e1 : (a1 == 0) = false := by simp [z1]
  have Z1 : Hid _ := z1
  clear z1
  go_enter Tryz.func244, Tryz.ntmps244
  go_wp2
  refine wp_loop_rounds 3 ?_
  rw [rounds_succ]
  go_wp2_with (go_at_call 249; refine (lz64_any _ ha1 ga1 _).mono ?_; rintro e w' ⟨rfl, rfl⟩)
  go_returns
  exact ⟨ret_congr (congrArg (Value.int IntKind.i64) (by unfold zer; rw [if_neg Z1.out]; try omega)), ⟨by go_grown, by go_grown⟩⟩
end Go.Proofs.YtnbbfeknbfohhaaGreatDoor
namespace Go.Proofs.YtnbbfeknbfohhaaGreatDoor
open Go.RowKit
def bl (X : Int) : Int := if X / 18446744073709551616 = 0 then (Go.Lib.bitLen (X % 18446744073709551616).toNat : Int) else 64 + (Go.Lib.bitLen (X / 18446744073709551616).toNat : Int)
theorem bl_zer (h l : Int) (h0 : 0 ≤ h) (l0 : 0 ≤ l) (h1 : h < 18446744073709551616) (l1 : l < 18446744073709551616) : zer h l = 128 - bl (h * 18446744073709551616 + l) := by
 have e1 : (h * 18446744073709551616 + l) / 18446744073709551616 = h := by omega
 have e2 : (h * 18446744073709551616 + l) % 18446744073709551616 = l := by omega
 unfold zer bl
 rw [e1, e2]
 split <;> omega
theorem implZeros_any (h l : Int) (h0 : 0 ≤ h) (l0 : 0 ≤ l) (h1 : h < 18446744073709551616) (l1 : l < 18446744073709551616) (w : World) :
  Calls Tryz.prog 224 #[.agg #[.int .u64 h, .int .u64 l]] w fun e w' => e = .returned (.int .i64 (zer h l)) ∧ Gr w w' := by
 go_enter Tryz.func224, Tryz.ntmps224
 go_wp2_with (first
  | (go_at_call 211; refine (wordsOf_any _ _ _).mono ?_; rintro e w1 ⟨rfl, c1, c2, rfl⟩)
  | (go_at_call 244; refine (zeros_any l h l0 h0 l1 h1 _).mono ?_; rintro e w2 ⟨rfl, hg_w2⟩))
 go_returns
 exact ⟨rfl, kr⟩
end Go.Proofs.YtnbbfeknbfohhaaGreatDoor
