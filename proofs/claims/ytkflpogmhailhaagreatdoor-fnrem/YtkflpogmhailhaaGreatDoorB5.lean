/- impl's chapter 3: the small functions. -/
import Derived.Test.YtkflpogmhailhaaGreatDoorB7
import Derived.Test.YtkflpogmhailhaaGreatDoorA6
import Derived.Test.YtkflpogmhailhaaGreatDoorA4
import Derived.Deep.DeepCutAuto
set_option linter.unusedVariables false
set_option linter.unusedSimpArgs false
namespace Go.Proofs.YtkflpogmhailhaaGreatDoor
open Go.RowKit
set_option maxRecDepth 100000 in
set_option maxHeartbeats 2000000 in
theorem nothing_any (p mn mx md : Int) (k : Nat) (w : World) :
    Calls Tryz.prog 108 #[.agg #[.int .i64 p, .int .i64 mn, .int .i64 mx, .int .i64 md, .func (.func k) #[] #[]]] w fun e w' => e = .returned (.agg #[.int .i64 (if md = 4 then 1 else 0), .int .i64 0, .int .i64 0, .int .u64 0, .int .u64 0, .bool false, .int .i64 0]) ∧ Gr w w' := by
  by_cases c : md = 4
  · subst c
    go_enter Tryz.func108, Tryz.ntmps108
    go_wp2
    go_returns
    exact ⟨rfl, Gr.g⟩
  · have c1 : (md == 4) = false := by simp; omega
    rw [if_neg c]
    go_enter Tryz.func108, Tryz.ntmps108
    go_wp2
    go_returns
    exact ⟨rfl, Gr.g⟩

/-- The left shift of a number that keeps below 2^128. -/
theorem shlW (M : Nat) (hM : M < 340282366920938463463374607431768211456) (n : Nat) (hn : n ≤ 128) (h : M * 2 ^ n < 340282366920938463463374607431768211456) (w : World) :
    Calls Tryz.prog 149 #[.agg #[.int .u64 ((M / 18446744073709551616 : Nat) : Int), .int .u64 ((M % 18446744073709551616 : Nat) : Int)], .int .i64 n] w fun e w' => e = .returned (.agg #[.int .u64 ((M * 2 ^ n / 18446744073709551616 : Nat) : Int), .int .u64 ((M * 2 ^ n % 18446744073709551616 : Nat) : Int)]) ∧ Gr w w' := by
  have e0 : ((M / 18446744073709551616 : Nat) : Int) * 18446744073709551616 + ((M % 18446744073709551616 : Nat) : Int) = (M : Int) := by omega
  have hk : (bnd (n : Int)).toNat = n := by unfold bnd; rw [if_neg (by omega), if_neg (by omega)]; simp
  refine (shiftLeft_any _ _ (n : Int) (by omega) (by omega) (by omega) (by omega) w).mono ?_
  rintro e w' ⟨rfl, hg⟩
  refine ⟨ret_w ?_ ?_, hg⟩
  · unfold shlHi; rw [hk, e0, cast_mul]; omega
  · unfold shlLo; rw [hk, e0, cast_mul]; omega

theorem addW (A B : Nat) (hA : A < 340282366920938463463374607431768211456) (hB : B < 340282366920938463463374607431768211456) (h : A + B < 340282366920938463463374607431768211456) (w : World) :
    Calls Tryz.prog 131 #[.agg #[.int .u64 ((A / 18446744073709551616 : Nat) : Int), .int .u64 ((A % 18446744073709551616 : Nat) : Int)], .agg #[.int .u64 ((B / 18446744073709551616 : Nat) : Int), .int .u64 ((B % 18446744073709551616 : Nat) : Int)]] w fun e w' => ∃ b, e = .returned (.tuple #[.agg #[.int .u64 (((A + B) / 18446744073709551616 : Nat) : Int), .int .u64 (((A + B) % 18446744073709551616 : Nat) : Int)], .bool b]) ∧ Gr w w' := by
  refine (addWide_any _ _ _ _ (by omega) (by omega) (by omega) (by omega) (by omega) (by omega) (by omega) (by omega) w).mono ?_
  rintro e w' ⟨rfl, hg⟩
  exact ⟨_, ret_wb (by first | omega | (unfold bow; split <;> omega)) (by omega) rfl, hg⟩

theorem subW (A B : Nat) (hA : A < 340282366920938463463374607431768211456) (hB : B ≤ A) (w : World) :
    Calls Tryz.prog 132 #[.agg #[.int .u64 ((A / 18446744073709551616 : Nat) : Int), .int .u64 ((A % 18446744073709551616 : Nat) : Int)], .agg #[.int .u64 ((B / 18446744073709551616 : Nat) : Int), .int .u64 ((B % 18446744073709551616 : Nat) : Int)]] w fun e w' => ∃ b, e = .returned (.tuple #[.agg #[.int .u64 (((A - B) / 18446744073709551616 : Nat) : Int), .int .u64 (((A - B) % 18446744073709551616 : Nat) : Int)], .bool b]) ∧ Gr w w' := by
  refine (subWide_any _ _ _ _ (by omega) (by omega) (by omega) (by omega) (by omega) (by omega) (by omega) (by omega) w).mono ?_
  rintro e w' ⟨rfl, hg⟩
  exact ⟨_, ret_wb (by first | omega | (unfold bow; split <;> omega)) (by omega) rfl, hg⟩

theorem subLess (A B : Nat) (hA : A < 340282366920938463463374607431768211456) (hB : B < 340282366920938463463374607431768211456) (w : World) :
    Calls Tryz.prog 132 #[.agg #[.int .u64 ((A / 18446744073709551616 : Nat) : Int), .int .u64 ((A % 18446744073709551616 : Nat) : Int)], .agg #[.int .u64 ((B / 18446744073709551616 : Nat) : Int), .int .u64 ((B % 18446744073709551616 : Nat) : Int)]] w fun e w' => ∃ x y, e = .returned (.tuple #[.agg #[.int .u64 x, .int .u64 y], .bool (decide (A < B))]) ∧ Gr w w' := by
  refine (subWide_any _ _ _ _ (by omega) (by omega) (by omega) (by omega) (by omega) (by omega) (by omega) (by omega) w).mono ?_
  rintro e w' ⟨rfl, hg⟩
  refine ⟨_, _, ret_wb rfl rfl ?_, hg⟩
  first
    | (rw [lt2_iff _ _ _ _ (by omega) (by omega) (by omega) (by omega)]; rw [decide_eq_decide]; omega)
    | (rw [decide_eq_decide]; omega)

set_option maxRecDepth 100000 in
set_option maxHeartbeats 4000000 in
theorem lifted_any (s e c : Int) (M : Nat) (st : Bool) (h0 : 0 < M) (hn : nb M ≤ 106) (e0 : -50000 ≤ e) (e1 : e ≤ 50000) (w : World) :
    Calls Tryz.prog 128 #[.agg #[.int .i64 s, .int .i64 e, .int .i64 c, .int .u64 (((M / 18446744073709551616 : Nat) : Int)), .int .u64 (((M % 18446744073709551616 : Nat) : Int)), .bool st, .int .i64 0]] w fun x w' => x = .returned (.agg #[.int .i64 s, .int .i64 (e - (127 - nb M : Nat)), .int .i64 c, .int .u64 (((M * 2 ^ (127 - nb M) / 18446744073709551616 : Nat) : Int)), .int .u64 (((M * 2 ^ (127 - nb M) % 18446744073709551616 : Nat) : Int)), .bool st, .int .i64 0]) ∧ Gr w w' := by
  have hb := lift_bounds M h0 hn
  have hM : M < 340282366920938463463374607431768211456 := by
    have h1 := nb_lt M
    have h2 := pow2_mono (show nb M ≤ 128 by omega)
    have h3 : (2 : Nat) ^ 128 = 340282366920938463463374607431768211456 := by decide
    omega
  have HZ : Hid (∀ w, Calls Tryz.prog 141 #[.agg #[.int .u64 ((M / 18446744073709551616 : Nat) : Int), .int .u64 ((M % 18446744073709551616 : Nat) : Int)]] w fun x w' => x = .returned (.int .i64 (128 - (nb M : Int))) ∧ Gr w w') := fun w => zerosM M hM w
  have HL : Hid (∀ w, Calls Tryz.prog 149 #[.agg #[.int .u64 ((M / 18446744073709551616 : Nat) : Int), .int .u64 ((M % 18446744073709551616 : Nat) : Int)], .int .i64 ((127 - nb M : Nat) : Int)] w fun e w' => e = .returned (.agg #[.int .u64 ((M * 2 ^ (127 - nb M) / 18446744073709551616 : Nat) : Int), .int .u64 ((M * 2 ^ (127 - nb M) % 18446744073709551616 : Nat) : Int)]) ∧ Gr w w') := fun w => shlW M hM (127 - nb M) (by omega) (by omega) w
  obtain ⟨L, hL⟩ : ∃ L : Int, ((127 - nb M : Nat) : Int) = L := ⟨_, rfl⟩
  obtain ⟨u, hu⟩ : ∃ u : Int, 128 - (nb M : Int) = u := ⟨_, rfl⟩
  obtain ⟨y, hy⟩ : ∃ y : Int, e - L = y := ⟨_, rfl⟩
  rw [hL] at HL
  rw [hu] at HZ
  rw [hL, hy]
  have u1 : IntKind.i64.wrap (u - 1) = L := by rw [IntKind.wrap_i64]; omega
  have u2 : IntKind.i64.wrap (e - L) = y := by rw [IntKind.wrap_i64]; omega
  generalize ((M * 2 ^ (127 - nb M) / 18446744073709551616 : Nat) : Int) = Ah at *
  generalize ((M * 2 ^ (127 - nb M) % 18446744073709551616 : Nat) : Int) = Al at *
  generalize ((M / 18446744073709551616 : Nat) : Int) = mh at *
  generalize ((M % 18446744073709551616 : Nat) : Int) = ml at *
  clear hb hu hL hy
  go_enter Tryz.func128, Tryz.ntmps128
  go_wp2_with (first
    | (go_at_call 141; refine (HZ.out _).mono ?_; rintro x w1 ⟨rfl, hg_w1⟩; have ax0 : w1.cell? ⟨w.heap.size, 0, none⟩ = some (.int .i64 s) := hg_w1.c; have axz0 : w1.frozen? ⟨w.heap.size, 0, none⟩ = false := hg_w1.z; have ax1 : w1.cell? ⟨w.heap.size, 1, none⟩ = some (.int .i64 e) := hg_w1.c; have axz1 : w1.frozen? ⟨w.heap.size, 1, none⟩ = false := hg_w1.z; have ax2 : w1.cell? ⟨w.heap.size, 2, none⟩ = some (.int .i64 c) := hg_w1.c; have axz2 : w1.frozen? ⟨w.heap.size, 2, none⟩ = false := hg_w1.z; have ax3 : w1.cell? ⟨w.heap.size, 3, none⟩ = some (.int .u64 mh) := hg_w1.c; have axz3 : w1.frozen? ⟨w.heap.size, 3, none⟩ = false := hg_w1.z; have ax4 : w1.cell? ⟨w.heap.size, 4, none⟩ = some (.int .u64 ml) := hg_w1.c; have axz4 : w1.frozen? ⟨w.heap.size, 4, none⟩ = false := hg_w1.z; have ax5 : w1.cell? ⟨w.heap.size, 5, none⟩ = some (.bool st) := hg_w1.c; have axz5 : w1.frozen? ⟨w.heap.size, 5, none⟩ = false := hg_w1.z; have ax6 : w1.cell? ⟨w.heap.size, 6, none⟩ = some (.int .i64 0) := hg_w1.c; have axz6 : w1.frozen? ⟨w.heap.size, 6, none⟩ = false := hg_w1.z; have ar0 : w1.cell? ⟨w.heap.size + 1, 0, none⟩ = some (.int .i64 0) := hg_w1.c; have arz0 : w1.frozen? ⟨w.heap.size + 1, 0, none⟩ = false := hg_w1.z; have ar1 : w1.cell? ⟨w.heap.size + 1, 1, none⟩ = some (.int .i64 0) := hg_w1.c; have arz1 : w1.frozen? ⟨w.heap.size + 1, 1, none⟩ = false := hg_w1.z; have ar2 : w1.cell? ⟨w.heap.size + 1, 2, none⟩ = some (.int .i64 0) := hg_w1.c; have arz2 : w1.frozen? ⟨w.heap.size + 1, 2, none⟩ = false := hg_w1.z; have ar3 : w1.cell? ⟨w.heap.size + 1, 3, none⟩ = some (.int .u64 0) := hg_w1.c; have arz3 : w1.frozen? ⟨w.heap.size + 1, 3, none⟩ = false := hg_w1.z; have ar4 : w1.cell? ⟨w.heap.size + 1, 4, none⟩ = some (.int .u64 0) := hg_w1.c; have arz4 : w1.frozen? ⟨w.heap.size + 1, 4, none⟩ = false := hg_w1.z; have ar5 : w1.cell? ⟨w.heap.size + 1, 5, none⟩ = some (.bool false) := hg_w1.c; have arz5 : w1.frozen? ⟨w.heap.size + 1, 5, none⟩ = false := hg_w1.z; have ar6 : w1.cell? ⟨w.heap.size + 1, 6, none⟩ = some (.int .i64 0) := hg_w1.c; have arz6 : w1.frozen? ⟨w.heap.size + 1, 6, none⟩ = false := hg_w1.z)
    | (go_at_call 149; refine (HL.out _).mono ?_; rintro x w2 ⟨rfl, hg_w2⟩; have bx0 : w2.cell? ⟨w.heap.size, 0, none⟩ = some (.int .i64 s) := hg_w2.c; have bxz0 : w2.frozen? ⟨w.heap.size, 0, none⟩ = false := hg_w2.z; have bx1 : w2.cell? ⟨w.heap.size, 1, none⟩ = some (.int .i64 y) := hg_w2.c; have bxz1 : w2.frozen? ⟨w.heap.size, 1, none⟩ = false := hg_w2.z; have bx2 : w2.cell? ⟨w.heap.size, 2, none⟩ = some (.int .i64 c) := hg_w2.c; have bxz2 : w2.frozen? ⟨w.heap.size, 2, none⟩ = false := hg_w2.z; have bx3 : w2.cell? ⟨w.heap.size, 3, none⟩ = some (.int .u64 mh) := hg_w2.c; have bxz3 : w2.frozen? ⟨w.heap.size, 3, none⟩ = false := hg_w2.z; have bx4 : w2.cell? ⟨w.heap.size, 4, none⟩ = some (.int .u64 ml) := hg_w2.c; have bxz4 : w2.frozen? ⟨w.heap.size, 4, none⟩ = false := hg_w2.z; have bx5 : w2.cell? ⟨w.heap.size, 5, none⟩ = some (.bool st) := hg_w2.c; have bxz5 : w2.frozen? ⟨w.heap.size, 5, none⟩ = false := hg_w2.z; have bx6 : w2.cell? ⟨w.heap.size, 6, none⟩ = some (.int .i64 0) := hg_w2.c; have bxz6 : w2.frozen? ⟨w.heap.size, 6, none⟩ = false := hg_w2.z; have br0 : w2.cell? ⟨w.heap.size + 1, 0, none⟩ = some (.int .i64 0) := hg_w2.c; have brz0 : w2.frozen? ⟨w.heap.size + 1, 0, none⟩ = false := hg_w2.z; have br1 : w2.cell? ⟨w.heap.size + 1, 1, none⟩ = some (.int .i64 0) := hg_w2.c; have brz1 : w2.frozen? ⟨w.heap.size + 1, 1, none⟩ = false := hg_w2.z; have br2 : w2.cell? ⟨w.heap.size + 1, 2, none⟩ = some (.int .i64 0) := hg_w2.c; have brz2 : w2.frozen? ⟨w.heap.size + 1, 2, none⟩ = false := hg_w2.z; have br3 : w2.cell? ⟨w.heap.size + 1, 3, none⟩ = some (.int .u64 0) := hg_w2.c; have brz3 : w2.frozen? ⟨w.heap.size + 1, 3, none⟩ = false := hg_w2.z; have br4 : w2.cell? ⟨w.heap.size + 1, 4, none⟩ = some (.int .u64 0) := hg_w2.c; have brz4 : w2.frozen? ⟨w.heap.size + 1, 4, none⟩ = false := hg_w2.z; have br5 : w2.cell? ⟨w.heap.size + 1, 5, none⟩ = some (.bool false) := hg_w2.c; have brz5 : w2.frozen? ⟨w.heap.size + 1, 5, none⟩ = false := hg_w2.z; have br6 : w2.cell? ⟨w.heap.size + 1, 6, none⟩ = some (.int .i64 0) := hg_w2.c; have brz6 : w2.frozen? ⟨w.heap.size + 1, 6, none⟩ = false := hg_w2.z))
  refine bodyPost_ret (v := .agg #[.int .i64 s, .int .i64 y, .int .i64 c, .int .u64 Ah, .int .u64 Al, .bool st, .int .i64 0]) (by simp [results, Tryz.results128, go_sem, br0, br1, br2, br3, br4, br5, br6]) rfl ⟨rfl, ?_⟩
  exact Gr.g

set_option maxRecDepth 100000 in
set_option maxHeartbeats 4000000 in
theorem lessThan_any (s e c s' e' c' : Int) (A B : Nat) (st st' b : Bool) (hA : A < 340282366920938463463374607431768211456) (hB : B < 340282366920938463463374607431768211456) (hb : b = decide (e < e' ∨ e = e' ∧ A < B)) (w : World) :
    Calls Tryz.prog 129 #[.agg #[.int .i64 s, .int .i64 e, .int .i64 c, .int .u64 (((A / 18446744073709551616 : Nat) : Int)), .int .u64 (((A % 18446744073709551616 : Nat) : Int)), .bool st, .int .i64 0], .agg #[.int .i64 (s'), .int .i64 (e'), .int .i64 (c'), .int .u64 (((B / 18446744073709551616 : Nat) : Int)), .int .u64 (((B % 18446744073709551616 : Nat) : Int)), .bool (st'), .int .i64 0]] w fun x w' => x = .returned (.bool b) ∧ Gr w w' := by
  have HS : Hid (∀ w, Calls Tryz.prog 132 #[.agg #[.int .u64 ((A / 18446744073709551616 : Nat) : Int), .int .u64 ((A % 18446744073709551616 : Nat) : Int)], .agg #[.int .u64 ((B / 18446744073709551616 : Nat) : Int), .int .u64 ((B % 18446744073709551616 : Nat) : Int)]] w fun e w' => ∃ x y, e = .returned (.tuple #[.agg #[.int .u64 x, .int .u64 y], .bool (decide (A < B))]) ∧ Gr w w') := fun w => subLess A B hA hB w
  have hB' : Hid (b = decide (e < e' ∨ e = e' ∧ A < B)) := hb
  obtain ⟨t, ht⟩ : ∃ t : Bool, decide (A < B) = t := ⟨_, rfl⟩
  rw [ht] at HS
  have ht' : Hid (decide (A < B) = t) := ht
  clear hb ht
  generalize ((A / 18446744073709551616 : Nat) : Int) = ah at *
  generalize ((A % 18446744073709551616 : Nat) : Int) = al at *
  generalize ((B / 18446744073709551616 : Nat) : Int) = bh at *
  generalize ((B % 18446744073709551616 : Nat) : Int) = bl' at *
  by_cases ce : e = e'
  · subst ce
    go_enter Tryz.func129, Tryz.ntmps129
    go_wp2_with (go_at_call 132; refine (HS.out _).mono ?_; rintro z w1 ⟨x, y, rfl, hg_w1⟩)
    go_returns
    exact ⟨ret_congr (congrArg Value.bool (by rw [hB'.out, ← ht'.out]; simp)), Gr.g⟩
  · have c1 : (e == e') = false := by simp [ce]
    go_enter Tryz.func129, Tryz.ntmps129
    go_wp2
    go_returns
    exact ⟨ret_congr (congrArg Value.bool (by rw [hB'.out]; simp [ce])), Gr.g⟩

theorem xor01 (s t : Int) (hs : s = 0 ∨ s = 1) (ht : t = 0 ∨ t = 1) : bits .xor .i64 s t = mulS s t := by
  rcases hs with rfl | rfl <;> rcases ht with rfl | rfl <;> decide +kernel

set_option maxRecDepth 100000 in
theorem times_any (s e s' e' : Int) (hs : s = 0 ∨ s = 1) (ht : s' = 0 ∨ s' = 1) (e0 : -50000 ≤ e) (e1 : e ≤ 50000) (f0 : -50000 ≤ e') (f1 : e' ≤ 50000) (w : World) :
    Calls Tryz.prog 111 #[.agg #[.int .i64 s, .int .i64 e], .agg #[.int .i64 s', .int .i64 e']] w fun x w' => x = .returned (.agg #[.int .i64 (mulS s s'), .int .i64 (e + e')]) ∧ Gr w w' := by
  have u1 := xor01 s s' hs ht
  have u2 : IntKind.i64.wrap (e + e') = e + e' := by rw [IntKind.wrap_i64]; omega
  generalize mulS s s' = z at *
  go_enter Tryz.func111, Tryz.ntmps111
  go_wp2
  go_returns
  exact ⟨ret_congr (by simp [u1, u2]), Gr.g⟩

theorem mulW (A B : Nat) (hA : A < 18446744073709551616) (hB : B < 18446744073709551616) (w : World) :
    Calls Tryz.prog 112 #[.int .u64 (A : Nat), .int .u64 (B : Nat)] w fun e w' => e = .returned (.agg #[.int .u64 ((A * B / 18446744073709551616 : Nat) : Int), .int .u64 ((A * B % 18446744073709551616 : Nat) : Int)]) ∧ Gr w w' := by
  refine (mulWide_any _ _ (by omega) (by omega) (by omega) (by omega) w).mono ?_
  rintro e w' ⟨rfl, hg⟩
  refine ⟨ret_w ?_ ?_, hg⟩
  · rw [← Int.natCast_mul]; omega
  · rw [← Int.natCast_mul]; omega
end Go.Proofs.YtkflpogmhailhaaGreatDoor

/- impl.total. -/
set_option linter.unusedVariables false
set_option linter.unusedSimpArgs false
namespace Go.Proofs.YtkflpogmhailhaaGreatDoor
open Go.RowKit

/-- The variables of total behind the lifting. -/
structure TotAt (p mn mx md : Int) (k : Nat) (w wx : World) (sx ax Ah Al sy ay Bh Bl : Int) : Prop where
  g : Gr w wx := by exact kr
  s0 : wx.cell? ⟨w.heap.size, 0, none⟩ = some (.int .i64 p) := by exact kl
  s1 : wx.cell? ⟨w.heap.size, 1, none⟩ = some (.int .i64 mn) := by exact kl
  s2 : wx.cell? ⟨w.heap.size, 2, none⟩ = some (.int .i64 mx) := by exact kl
  s3 : wx.cell? ⟨w.heap.size, 3, none⟩ = some (.int .i64 md) := by exact kl
  s4 : wx.cell? ⟨w.heap.size, 4, none⟩ = some (.func (.func k) #[] #[]) := by exact kl
  x0 : wx.cell? ⟨w.heap.size + 1, 0, none⟩ = some (.int .i64 sx) := by exact kl
  xz0 : wx.frozen? ⟨w.heap.size + 1, 0, none⟩ = false := by exact kl
  x1 : wx.cell? ⟨w.heap.size + 1, 1, none⟩ = some (.int .i64 ax) := by exact kl
  xz1 : wx.frozen? ⟨w.heap.size + 1, 1, none⟩ = false := by exact kl
  x2 : wx.cell? ⟨w.heap.size + 1, 2, none⟩ = some (.int .i64 1) := by exact kl
  xz2 : wx.frozen? ⟨w.heap.size + 1, 2, none⟩ = false := by exact kl
  x3 : wx.cell? ⟨w.heap.size + 1, 3, none⟩ = some (.int .u64 Ah) := by exact kl
  xz3 : wx.frozen? ⟨w.heap.size + 1, 3, none⟩ = false := by exact kl
  x4 : wx.cell? ⟨w.heap.size + 1, 4, none⟩ = some (.int .u64 Al) := by exact kl
  xz4 : wx.frozen? ⟨w.heap.size + 1, 4, none⟩ = false := by exact kl
  x5 : wx.cell? ⟨w.heap.size + 1, 5, none⟩ = some (.bool false) := by exact kl
  xz5 : wx.frozen? ⟨w.heap.size + 1, 5, none⟩ = false := by exact kl
  x6 : wx.cell? ⟨w.heap.size + 1, 6, none⟩ = some (.int .i64 0) := by exact kl
  xz6 : wx.frozen? ⟨w.heap.size + 1, 6, none⟩ = false := by exact kl
  y0 : wx.cell? ⟨w.heap.size + 1 + 1, 0, none⟩ = some (.int .i64 sy) := by exact kl
  yz0 : wx.frozen? ⟨w.heap.size + 1 + 1, 0, none⟩ = false := by exact kl
  y1 : wx.cell? ⟨w.heap.size + 1 + 1, 1, none⟩ = some (.int .i64 ay) := by exact kl
  yz1 : wx.frozen? ⟨w.heap.size + 1 + 1, 1, none⟩ = false := by exact kl
  y2 : wx.cell? ⟨w.heap.size + 1 + 1, 2, none⟩ = some (.int .i64 1) := by exact kl
  yz2 : wx.frozen? ⟨w.heap.size + 1 + 1, 2, none⟩ = false := by exact kl
  y3 : wx.cell? ⟨w.heap.size + 1 + 1, 3, none⟩ = some (.int .u64 Bh) := by exact kl
  yz3 : wx.frozen? ⟨w.heap.size + 1 + 1, 3, none⟩ = false := by exact kl
  y4 : wx.cell? ⟨w.heap.size + 1 + 1, 4, none⟩ = some (.int .u64 Bl) := by exact kl
  yz4 : wx.frozen? ⟨w.heap.size + 1 + 1, 4, none⟩ = false := by exact kl
  y5 : wx.cell? ⟨w.heap.size + 1 + 1, 5, none⟩ = some (.bool false) := by exact kl
  yz5 : wx.frozen? ⟨w.heap.size + 1 + 1, 5, none⟩ = false := by exact kl
  y6 : wx.cell? ⟨w.heap.size + 1 + 1, 6, none⟩ = some (.int .i64 0) := by exact kl
  yz6 : wx.frozen? ⟨w.heap.size + 1 + 1, 6, none⟩ = false := by exact kl
  r0 : wx.cell? ⟨w.heap.size + 1 + 1 + 1, 0, none⟩ = some (.int .i64 0) := by exact kl
  rz0 : wx.frozen? ⟨w.heap.size + 1 + 1 + 1, 0, none⟩ = false := by exact kl
  r1 : wx.cell? ⟨w.heap.size + 1 + 1 + 1, 1, none⟩ = some (.int .i64 0) := by exact kl
  rz1 : wx.frozen? ⟨w.heap.size + 1 + 1 + 1, 1, none⟩ = false := by exact kl
  r2 : wx.cell? ⟨w.heap.size + 1 + 1 + 1, 2, none⟩ = some (.int .i64 0) := by exact kl
  rz2 : wx.frozen? ⟨w.heap.size + 1 + 1 + 1, 2, none⟩ = false := by exact kl
  r3 : wx.cell? ⟨w.heap.size + 1 + 1 + 1, 3, none⟩ = some (.int .u64 0) := by exact kl
  rz3 : wx.frozen? ⟨w.heap.size + 1 + 1 + 1, 3, none⟩ = false := by exact kl
  r4 : wx.cell? ⟨w.heap.size + 1 + 1 + 1, 4, none⟩ = some (.int .u64 0) := by exact kl
  rz4 : wx.frozen? ⟨w.heap.size + 1 + 1 + 1, 4, none⟩ = false := by exact kl
  r5 : wx.cell? ⟨w.heap.size + 1 + 1 + 1, 5, none⟩ = some (.bool false) := by exact kl
  rz5 : wx.frozen? ⟨w.heap.size + 1 + 1 + 1, 5, none⟩ = false := by exact kl
  r6 : wx.cell? ⟨w.heap.size + 1 + 1 + 1, 6, none⟩ = some (.int .i64 0) := by exact kl
  rz6 : wx.frozen? ⟨w.heap.size + 1 + 1 + 1, 6, none⟩ = false := by exact kl
end Go.Proofs.YtkflpogmhailhaaGreatDoor
