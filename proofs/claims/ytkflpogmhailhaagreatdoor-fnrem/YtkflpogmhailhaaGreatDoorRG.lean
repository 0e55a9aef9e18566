/- spec's chapter 5: kinds of integers. -/
import Derived.Test.YtkflpogmhailhaaGreatDoorC0
import Derived.Test.YtkflpogmhailhaaGreatDoorR7
import Derived.Deep.RegionHeld3
import Derived.Test.YtkflpogmhailhaaGreatDoorB4
import Derived.Deep.DeepCutAuto
set_option linter.unusedVariables false
set_option linter.unusedSimpArgs false
namespace Go.Proofs.YtkflpogmhailhaaGreatDoor
open Go.RowKit

def bitsK (kind : Int) : Int := if kind = 0 ∨ kind = 2 then 32 else if kind = 1 ∨ kind = 3 then 64 else 0
def sgnK (kind : Int) : Bool := decide (kind = 0 ∨ kind = 1)

theorem l5Kind_any (kind : Int) (w : World) : Calls Tryz.prog 120 #[.int .i64 kind] w fun e w' => e = .returned (.tuple #[.int .i64 (bitsK kind), .bool (sgnK kind)]) ∧ w = w' := by
  rcases (show kind = 0 ∨ kind = 1 ∨ kind = 2 ∨ kind = 3 ∨ (kind ≠ 0 ∧ kind ≠ 1 ∧ kind ≠ 2 ∧ kind ≠ 3) by omega) with rfl | rfl | rfl | rfl | ⟨c0, c1, c2, c3⟩
  case inr.inr.inr.inr =>
    have e0 : (kind == 0) = false := by simp [c0]
    have e1 : (kind == 1) = false := by simp [c1]
    have e2 : (kind == 2) = false := by simp [c2]
    have e3 : (kind == 3) = false := by simp [c3]
    have h1 : bitsK kind = 0 := by simp [bitsK, c0, c1, c2, c3]
    have h2 : sgnK kind = false := by simp [sgnK, c0, c1]
    rw [h1, h2]
    go_enter Tryz.func120, Tryz.ntmps120
    go_wp2
    go_returns
    exact ⟨rfl, rfl⟩
  all_goals
    go_enter Tryz.func120, Tryz.ntmps120
    go_wp2
    go_returns
    exact ⟨rfl, rfl⟩

set_option maxRecDepth 100000 in
set_option maxHeartbeats 1000000 in
/-- A kind with so many bits ahead of the sign's: t of them. -/
theorem l5Most_at (kind s B t : Int) (S : Bool) (T : Nat) (hs : s = 0 ∨ s = 1 ∧ S = true) (hB : (if S then B - 1 else B) = t) (B0 : 0 ≤ B) (B1 : B ≤ 64) (t0 : 0 ≤ t) (hT : T = 2 ^ t.toNat)
    (HK : Hid (∀ w, Calls Tryz.prog 120 #[.int .i64 kind] w fun e w' => e = .returned (.tuple #[.int .i64 B, .bool S]) ∧ w = w')) (w : World) :
    Calls Tryz.prog 121 #[.int .i64 kind, .int .i64 s] w fun e w' => ∃ b k c, BigN 20 w' (.slice (some ⟨b, 0, none⟩) k c) (if s = 1 then T else T - 1) ∧ e = .returned (.slice (some ⟨b, 0, none⟩) k c) ∧ Gb w w' := by
  have T0 : 1 ≤ T := by rw [hT]; exact Nat.pow_pos (by decide)
  have t64 : t ≤ 64 := by split at hB <;> omega
  have HO : Hid (∀ w, Calls Tryz.prog 45 #[.int .u64 1] w fun e w' => ∃ b k c, BigN 2 w' (.slice (some ⟨b, 0, none⟩) k c) 1 ∧ e = .returned (.slice (some ⟨b, 0, none⟩) k c) ∧ Gb w w') := fun w => big_slice (l2Big_any 1 (by omega) w)
  have HS : Hid (∀ v w, BigN 2 w v 1 → Calls Tryz.prog 44 #[v, .int .i64 t] w fun e w' => ∃ b k c, BigN 20 w' (.slice (some ⟨b, 0, none⟩) k c) T ∧ e = .returned (.slice (some ⟨b, 0, none⟩) k c) ∧ Gb w w') := fun v w ⟨n, a1, a2⟩ => by
    obtain ⟨m, rfl⟩ := Int.eq_ofNat_of_zero_le t0
    rw [Int.toNat_natCast] at hT
    rw [hT, ← Nat.one_mul (2 ^ m)]
    exact big_slice ((l2Shl_any a2 (by omega) m (by omega)).mono (fun e w' ⟨v, k, c1, c2, c3, c4⟩ => ⟨v, k, c1, c2, by omega, c4⟩))
  have HB : Hid (∀ v v' w, BigN 20 w v T → BigN 2 w v' 1 → Calls Tryz.prog 49 #[v, v'] w fun e w' => ∃ b k c, BigN 20 w' (.slice (some ⟨b, 0, none⟩) k c) (T - 1) ∧ e = .returned (.slice (some ⟨b, 0, none⟩) k c) ∧ Gb w w') := fun v v' w ⟨n, a1, a2⟩ ⟨n', b1, b2⟩ => big_slice ((l2Sub_any a2 (by omega) b2 (by omega) (by omega)).mono (fun e w' ⟨v, k, c1, c2, c3, c4⟩ => ⟨v, k, c1, c2, by omega, c4⟩))
  clear hT
  cases S
  · rw [if_neg (by decide)] at hB
    rcases hs with rfl | ⟨_, h⟩
    · rw [if_neg (by decide)]
      subst hB
      go_enter Tryz.func121, Tryz.ntmps121
      go_wp2_with (first
        | (go_at_call 120; refine (HK.out _).mono ?_; rintro e wk ⟨rfl, hw⟩; subst hw)
        | (go_at_call 45; refine (HO.out _).mono ?_; rintro e n1 ⟨b1, k1, q1, hb1, rfl, hg_n1⟩)
        | (go_at_call 44; with_reducible refine (HS.out _ _ hb1).mono ?_; rintro e n2 ⟨b2, k2, q2, hb2, rfl, hg_n2⟩)
        | (go_at_call 49; with_reducible refine (HB.out _ _ _ (BigN.gb hb2 hg_n1) hb1).mono ?_; rintro e n4 ⟨b4, k4, q4, hb4, rfl, hg_n4⟩))
      go_returns
      exact ⟨_, _, _, hb4, rfl, Gb.g⟩
    · cases h
  · rw [if_pos rfl] at hB
    have u1 : IntKind.i64.wrap (B - 1) = t := by rw [IntKind.wrap_i64]; omega
    rcases hs with rfl | ⟨rfl, _⟩
    · rw [if_neg (by decide)]
      go_enter Tryz.func121, Tryz.ntmps121
      go_wp2_with (first
        | (go_at_call 120; refine (HK.out _).mono ?_; rintro e wk ⟨rfl, hw⟩; subst hw)
        | (go_at_call 45; refine (HO.out _).mono ?_; rintro e n1 ⟨b1, k1, q1, hb1, rfl, hg_n1⟩)
        | (go_at_call 44; with_reducible refine (HS.out _ _ hb1).mono ?_; rintro e n2 ⟨b2, k2, q2, hb2, rfl, hg_n2⟩)
        | (go_at_call 49; with_reducible refine (HB.out _ _ _ (BigN.gb hb2 hg_n1) hb1).mono ?_; rintro e n4 ⟨b4, k4, q4, hb4, rfl, hg_n4⟩))
      go_returns
      exact ⟨_, _, _, hb4, rfl, Gb.g⟩
    · rw [if_pos rfl]
      go_enter Tryz.func121, Tryz.ntmps121
      go_wp2_with (first
        | (go_at_call 120; refine (HK.out _).mono ?_; rintro e wk ⟨rfl, hw⟩; subst hw)
        | (go_at_call 45; refine (HO.out _).mono ?_; rintro e n1 ⟨b1, k1, q1, hb1, rfl, hg_n1⟩)
        | (go_at_call 44; with_reducible refine (HS.out _ _ hb1).mono ?_; rintro e n2 ⟨b2, k2, q2, hb2, rfl, hg_n2⟩))
      go_returns
      exact ⟨_, _, _, hb2, rfl, Gb.g⟩

set_option maxRecDepth 100000 in
set_option maxHeartbeats 1000000 in
theorem l5Most_none (kind B : Int) (HK : Hid (∀ w, Calls Tryz.prog 120 #[.int .i64 kind] w fun e w' => e = .returned (.tuple #[.int .i64 B, .bool false]) ∧ w = w')) (w : World) :
    Calls Tryz.prog 121 #[.int .i64 kind, .int .i64 1] w fun e w' => ∃ b k c, BigN 20 w' (.slice (some ⟨b, 0, none⟩) k c) 0 ∧ e = .returned (.slice (some ⟨b, 0, none⟩) k c) ∧ Gb w w' := by
  go_enter Tryz.func121, Tryz.ntmps121
  go_wp2_with (go_at_call 120; refine (HK.out _).mono ?_; rintro e wk ⟨rfl, hw⟩; subst hw)
  go_returns
  refine ⟨_, _, _, ⟨0, by omega, ⟨by decide, .inl rfl⟩, (own_lit w 0).raw (by decide)⟩, rfl, Gb.g⟩

theorem l5Most_any (kind s : Int) (hs : s = 0 ∨ s = 1) (w : World) :
    Calls Tryz.prog 121 #[.int .i64 kind, .int .i64 s] w fun e w' => ∃ b k c, BigN 20 w' (.slice (some ⟨b, 0, none⟩) k c) (mostK kind s) ∧ e = .returned (.slice (some ⟨b, 0, none⟩) k c) ∧ Gb w w' := by
  by_cases c : sgnK kind = true
  · have hk : kind = 0 ∨ kind = 1 := by unfold sgnK at c; exact of_decide_eq_true c
    rcases hk with rfl | rfl
    · have := l5Most_at 0 s 32 31 true 2147483648 (hs.imp id (fun h => ⟨h, rfl⟩)) (by decide) (by omega) (by omega) (by omega) (by decide) (fun w => l5Kind_any 0 w) w
      rcases hs with rfl | rfl <;> exact this
    · have := l5Most_at 1 s 64 63 true 9223372036854775808 (hs.imp id (fun h => ⟨h, rfl⟩)) (by decide) (by omega) (by omega) (by omega) (by decide) (fun w => l5Kind_any 1 w) w
      rcases hs with rfl | rfl <;> exact this
  · have c' : sgnK kind = false := by simpa using c
    have HK : Hid (∀ w, Calls Tryz.prog 120 #[.int .i64 kind] w fun e w' => e = .returned (.tuple #[.int .i64 (bitsK kind), .bool false]) ∧ w = w') := fun w => c' ▸ l5Kind_any kind w
    have hk : ¬ (kind = 0 ∨ kind = 1) := by unfold sgnK at c'; exact of_decide_eq_false c'
    rcases hs with rfl | rfl
    · rcases (show kind = 2 ∨ kind = 3 ∨ (kind ≠ 2 ∧ kind ≠ 3) by omega) with rfl | rfl | ⟨d, d'⟩
      · exact l5Most_at 2 0 32 32 false 4294967296 (by omega) (by decide) (by omega) (by omega) (by omega) (by decide) HK w
      · exact l5Most_at 3 0 64 64 false 18446744073709551616 (by omega) (by decide) (by omega) (by omega) (by omega) (by decide) HK w
      · have e1 : bitsK kind = 0 := by unfold bitsK; rw [if_neg (by omega), if_neg (by omega)]
        have e2 : mostK kind 0 = 0 := by unfold mostK; rw [if_neg (by omega), if_neg (by omega), if_neg (by omega), if_neg (by omega)]
        rw [e2]
        rw [e1] at HK
        exact l5Most_at kind 0 0 0 false 1 (by omega) (by decide) (by omega) (by omega) (by omega) (by decide) HK w
    · have e2 : mostK kind 1 = 0 := by unfold mostK; rw [if_neg (by omega), if_neg (by omega)]; repeat' split
                                       all_goals first | rfl | omega
      rw [e2]
      exact l5Most_none kind _ HK w
end Go.Proofs.YtkflpogmhailhaaGreatDoor

/- spec.l5Int of what is not negative. -/
set_option linter.unusedVariables false
set_option linter.unusedSimpArgs false
namespace Go.Proofs.YtkflpogmhailhaaGreatDoor
open Go.RowKit

set_option maxRecDepth 1000000 in
set_option maxHeartbeats 4000000 in
theorem l5Int_p (kind a B d : Int) (M L : Nat) (t : Bool) (B0 : 0 < B) (hd : decide (d ≤ 0) = t) (ha : decide (9223372036854775808 ≤ a) = false) (HK : Hid (∀ w, Calls Tryz.prog 120 #[.int .i64 kind] w fun e w' => e = .returned (.tuple #[.int .i64 B, .bool true]) ∧ w = w')) (HB : Hid (∀ w, Calls Tryz.prog 45 #[.int .u64 a] w fun e w' => ∃ b k c, BigN 2 w' (.slice (some ⟨b, 0, none⟩) k c) M ∧ e = .returned (.slice (some ⟨b, 0, none⟩) k c) ∧ Gb w w')) (HT : Hid (∀ w, Calls Tryz.prog 75 #[.int .i64 63] w fun e w' => e = .returned (.int .u64 9223372036854775808) ∧ w = w')) (HM : Hid (∀ w, Calls Tryz.prog 121 #[.int .i64 kind, .int .i64 0] w fun e w' => ∃ b k c, BigN 20 w' (.slice (some ⟨b, 0, none⟩) k c) L ∧ e = .returned (.slice (some ⟨b, 0, none⟩) k c) ∧ Gb w w')) (HC : Hid (∀ v v' w, BigN 2 w v M → BigN 20 w v' L → Calls Tryz.prog 47 #[v, v'] w fun e w' => e = .returned (.int .i64 d) ∧ Gb w w')) (w : World) :
    Calls Tryz.prog 92 #[.int .i64 kind, .int .u64 a] w fun e w' => ∃ b k c, BigN 2 w' (.slice (some ⟨b, 0, none⟩) k c) M ∧ e = .returned (.tuple #[.agg #[.int .i64 0, .slice (some ⟨b, 0, none⟩) k c, .int .i64 0, .bool false], .bool t]) ∧ Gb w w' := by
  go_enter Tryz.func92, Tryz.ntmps92
  go_upto_region 3 with (first
    | (go_at_call 120; refine (HK.out _).mono ?_; rintro e wk ⟨rfl, hw⟩; subst hw)
    | (go_at_call 45; refine (HB.out _).mono ?_; rintro e n1 ⟨b1, k1, q1, hb1, rfl, hg_n1⟩; have kr0 : n1.cell? ⟨w.heap.size, 0, none⟩ = some (.int .i64 0) := hg_n1.c; have krz0 : n1.frozen? ⟨w.heap.size, 0, none⟩ = false := hg_n1.z kr0; have kr1 : n1.cell? ⟨w.heap.size, 1, none⟩ = some (.slice none 0 0) := hg_n1.c; have krz1 : n1.frozen? ⟨w.heap.size, 1, none⟩ = false := hg_n1.z kr1; have kr2 : n1.cell? ⟨w.heap.size, 2, none⟩ = some (.int .i64 0) := hg_n1.c; have krz2 : n1.frozen? ⟨w.heap.size, 2, none⟩ = false := hg_n1.z kr2; have kr3 : n1.cell? ⟨w.heap.size, 3, none⟩ = some (.bool false) := hg_n1.c; have krz3 : n1.frozen? ⟨w.heap.size, 3, none⟩ = false := hg_n1.z kr3; have hz1 := cell_size kr0))
  obtain ⟨w2, hw2⟩ : ∃ w2, n1.alloc (.cells #[.int .i64 0, .slice (some ⟨b1, 0, none⟩) k1 q1, .int .i64 0, .bool false] 70) = w2 := ⟨_, rfl⟩
  have hg_w2 : Gb n1 w2 := by rw [← hw2]; exact (Gb.refl _).alloc _
  have hb2 : BigN 2 w2 (.slice (some ⟨b1, 0, none⟩) k1 q1) M := BigN.gb hb1 hg_w2
  have x0 : w2.cell? ⟨n1.heap.size, 0, none⟩ = some (.int .i64 0) := by rw [← hw2]; simp [go_sem]
  have x1 : w2.cell? ⟨n1.heap.size, 1, none⟩ = some (.slice (some ⟨b1, 0, none⟩) k1 q1) := by rw [← hw2]; simp [go_sem]
  have x2 : w2.cell? ⟨n1.heap.size, 2, none⟩ = some (.int .i64 0) := by rw [← hw2]; simp [go_sem]
  have x3 : w2.cell? ⟨n1.heap.size, 3, none⟩ = some (.bool false) := by rw [← hw2]; simp [go_sem]
  have hz2 : n1.heap.size < w2.heap.size := by rw [← hw2]; simp
  rw [hw2]
  clear hw2
  have mr0 : w2.cell? ⟨w.heap.size, 0, none⟩ = some (.int .i64 0) := hg_w2.c; have mrz0 : w2.frozen? ⟨w.heap.size, 0, none⟩ = false := hg_w2.z mr0; have mr1 : w2.cell? ⟨w.heap.size, 1, none⟩ = some (.slice none 0 0) := hg_w2.c; have mrz1 : w2.frozen? ⟨w.heap.size, 1, none⟩ = false := hg_w2.z mr1; have mr2 : w2.cell? ⟨w.heap.size, 2, none⟩ = some (.int .i64 0) := hg_w2.c; have mrz2 : w2.frozen? ⟨w.heap.size, 2, none⟩ = false := hg_w2.z mr2; have mr3 : w2.cell? ⟨w.heap.size, 3, none⟩ = some (.bool false) := hg_w2.c; have mrz3 : w2.frozen? ⟨w.heap.size, 3, none⟩ = false := hg_w2.z mr3
  have hgw : Gb w w2 := Gb.g
  go_wp2_with (go_at_call 75; refine (HT.out _).mono ?_; rintro e wk ⟨rfl, hw⟩; subst hw)
  go_region_held3 (fun w' => w'.cell? ⟨n1.heap.size, 0, none⟩ = some (.int .i64 0) ∧ w'.cell? ⟨n1.heap.size, 1, none⟩ = some (.slice (some ⟨b1, 0, none⟩) k1 q1) ∧ w'.cell? ⟨n1.heap.size, 2, none⟩ = some (.int .i64 0) ∧ w'.cell? ⟨n1.heap.size, 3, none⟩ = some (.bool false))
    ((go_split_ands; (repeat' apply And.intro) <;> exact kh))
    (first
      | (go_at_call 121; refine (HM.out _).mono ?_; rintro e n3 ⟨b3, k3, q3, hb3, rfl, hg_n3⟩; have nr0 : n3.cell? ⟨w.heap.size, 0, none⟩ = some (.int .i64 0) := hg_n3.c; have nrz0 : n3.frozen? ⟨w.heap.size, 0, none⟩ = false := hg_n3.z nr0; have nr1 : n3.cell? ⟨w.heap.size, 1, none⟩ = some (.slice none 0 0) := hg_n3.c; have nrz1 : n3.frozen? ⟨w.heap.size, 1, none⟩ = false := hg_n3.z nr1; have nr2 : n3.cell? ⟨w.heap.size, 2, none⟩ = some (.int .i64 0) := hg_n3.c; have nrz2 : n3.frozen? ⟨w.heap.size, 2, none⟩ = false := hg_n3.z nr2; have nr3 : n3.cell? ⟨w.heap.size, 3, none⟩ = some (.bool false) := hg_n3.c; have nrz3 : n3.frozen? ⟨w.heap.size, 3, none⟩ = false := hg_n3.z nr3)
      | (go_at_call 47; with_reducible refine (HC.out _ _ _ (BigN.gb hb2 Gb.g) (BigN.gb hb3 Gb.g)).mono ?_; rintro e n4 ⟨rfl, hg_n4⟩; have or0 : n4.cell? ⟨w.heap.size, 0, none⟩ = some (.int .i64 0) := hg_n4.c; have orz0 : n4.frozen? ⟨w.heap.size, 0, none⟩ = false := hg_n4.z or0; have or1 : n4.cell? ⟨w.heap.size, 1, none⟩ = some (.slice none 0 0) := hg_n4.c; have orz1 : n4.frozen? ⟨w.heap.size, 1, none⟩ = false := hg_n4.z or1; have or2 : n4.cell? ⟨w.heap.size, 2, none⟩ = some (.int .i64 0) := hg_n4.c; have orz2 : n4.frozen? ⟨w.heap.size, 2, none⟩ = false := hg_n4.z or2; have or3 : n4.cell? ⟨w.heap.size, 3, none⟩ = some (.bool false) := hg_n4.c; have orz3 : n4.frozen? ⟨w.heap.size, 3, none⟩ = false := hg_n4.z or3))
  all_goals (try go_split_ands)
  all_goals go_wp2
  all_goals
    refine bodyPost_ret (v := .tuple #[.agg #[.int .i64 0, .slice (some ⟨b1, 0, none⟩) k1 q1, .int .i64 0, .bool false], .bool t]) (by simp [results, Tryz.results92, go_sem, or0, or1, or2, or3, hd]) rfl ⟨b1, k1, q1, ?_, rfl, ?_⟩
    · exact (BigN.gb hb2 Gb.g).st4 or0 or1 or2 or3
    · exact Gb.g

end Go.Proofs.YtkflpogmhailhaaGreatDoor

/- spec.FromInt of a number. -/
set_option linter.unusedVariables false
set_option linter.unusedSimpArgs false
namespace Go.Proofs.YtkflpogmhailhaaGreatDoor
open Go.RowKit

theorem fr_lenP {K : Nat} {w : World} {b k c N : Nat} (h : BigN K w (.slice (some ⟨b, 0, none⟩) k c) N) (hN : 0 < N) : 0 < k := by
  obtain ⟨n, hn, hb⟩ := h
  obtain ⟨b', cap, e, _⟩ := hb.shape
  have h2 := hb.1.iff
  injection e with _ e2 _
  have : n ≠ 0 := fun h => by have := h2.1 h; omega
  omega

set_option maxRecDepth 1000000 in
set_option maxHeartbeats 4000000 in
theorem sFrom_num (f mode kind a s : Int) (M : Nat) (hM : 0 < M) (HX : Hid (∀ w, Calls Tryz.prog 92 #[.int .i64 kind, .int .u64 a] w fun e w' => ∃ b k c, BigN 2 w' (.slice (some ⟨b, 0, none⟩) k c) M ∧ e = .returned (.tuple #[.agg #[.int .i64 s, .slice (some ⟨b, 0, none⟩) k c, .int .i64 0, .bool false], .bool true]) ∧ Gb w w')) (HFm : Hid (∀ w, Calls Tryz.prog 60 #[.int .i64 f] w fun e w' => e = .returned (.bool true) ∧ w = w')) (HWy : Hid (∀ w, Calls Tryz.prog 91 #[.int .i64 mode] w fun e w' => e = .returned (.bool true) ∧ w = w')) (Q : Int → Int → Prop) (HR : Hid (∀ v w, BigN 2 w v M → Calls Tryz.prog 51 #[.int .i64 f, .int .i64 mode, .agg #[.int .i64 s, v, .int .i64 0, .bool false]] w fun e w' => ∃ z fl, Q z fl ∧ e = .returned (.agg #[.int .u64 z, .int .i64 fl]) ∧ Gb w w')) (w : World) :
    Calls Tryz.prog 38 #[.int .i64 f, .int .i64 mode, .int .i64 kind, .int .u64 a] w fun e w' => ∃ z fl, Q z fl ∧ e = .returned (.agg #[.int .u64 z, .int .i64 fl]) ∧ Gb w w' := by
  go_enter Tryz.func38, Tryz.ntmps38
  go_wp2_with (first
    | (go_at_call 92; refine (HX.out _).mono ?_; rintro e w1 ⟨b, k, c, hb, rfl, hg_w1⟩; have ur0 : w1.cell? ⟨w.heap.size, 0, none⟩ = some (.int .u64 0) := hg_w1.c; have urz0 : w1.frozen? ⟨w.heap.size, 0, none⟩ = false := hg_w1.z ur0; have ur1 : w1.cell? ⟨w.heap.size, 1, none⟩ = some (.int .i64 0) := hg_w1.c; have urz1 : w1.frozen? ⟨w.heap.size, 1, none⟩ = false := hg_w1.z ur1; have hz1 := cell_size ur0; have hk1 := fr_lenP hb hM)
    | (go_at_call 60; refine (HFm.out _).mono ?_; rintro e wk ⟨rfl, hw⟩; subst hw)
    | (go_at_call 91; refine (HWy.out _).mono ?_; rintro e wk ⟨rfl, hw⟩; subst hw)
    | (go_at_call 51; refine (HR.out _ _ (BigN.gb hb Gb.g)).mono ?_; rintro e w4 ⟨z, fl, hq, rfl, hg_w4⟩; have zr0 : w4.cell? ⟨w.heap.size, 0, none⟩ = some (.int .u64 0) := hg_w4.c; have zrz0 : w4.frozen? ⟨w.heap.size, 0, none⟩ = false := hg_w4.z zr0; have zr1 : w4.cell? ⟨w.heap.size, 1, none⟩ = some (.int .i64 0) := hg_w4.c; have zrz1 : w4.frozen? ⟨w.heap.size, 1, none⟩ = false := hg_w4.z zr1))
  refine bodyPost_ret (v := .agg #[.int .u64 z, .int .i64 fl]) (by simp [results, Tryz.results38, go_sem, zr0, zr1]) rfl ⟨z, fl, hq, rfl, ?_⟩
  exact Gb.g

end Go.Proofs.YtkflpogmhailhaaGreatDoor
