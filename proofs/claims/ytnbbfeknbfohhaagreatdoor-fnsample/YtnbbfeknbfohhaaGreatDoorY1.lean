import Derived.Test.YtnbbfeknbfohhaaGreatDoorA1
import Derived.Test.YtnbbfeknbfohhaaGreatDoorRows
import Derived.WalkSpells
import Derived.Laws.Rows
import Derived.Test.YtnbbfeknbfohhaaGreatDoorA3
import Derived.Test.YtnbbfeknbfohhaaGreatDoorA2
import Derived.Test.YtnbbfeknbfohhaaGreatDoorA4
import Derived.Test.YtnbbfeknbfohhaaGreatDoorB0
import Derived.WalkSmall
set_option linter.unusedVariables false
set_option linter.unusedSimpArgs false
namespace Go.Proofs.YtnbbfeknbfohhaaGreatDoor
open Go.RowKit
def tailL : List Int := [12311384997445461060, 6896949616398116700, 3175666228297764653, 1183806766059182244, 353476207714659139, 83907343225073545, 15749660485982248, 2328616999791800, 270433320942720, 24618334939658, 1753979576257, 97691228987, 4249834529, 144306183, 3822728, 78971, 1272, 16]
def tailF (i : Nat) : Int := tailL.getD i 0
def tailC : Array Value := #[.int .u64 12311384997445461060, .int .u64 6896949616398116700, .int .u64 3175666228297764653, .int .u64 1183806766059182244, .int .u64 353476207714659139, .int .u64 83907343225073545, .int .u64 15749660485982248, .int .u64 2328616999791800, .int .u64 270433320942720, .int .u64 24618334939658, .int .u64 1753979576257, .int .u64 97691228987, .int .u64 4249834529, .int .u64 144306183, .int .u64 3822728, .int .u64 78971, .int .u64 1272, .int .u64 16]
theorem tailC_at (i : Nat) (h : i < 18) : tailC[i]? = some (.int .u64 (tailF i)) := by
 obtain rfl | rfl | rfl | rfl | rfl | rfl | rfl | rfl | rfl | rfl | rfl | rfl | rfl | rfl | rfl | rfl | rfl | rfl : i = 0 ∨ i = 1 ∨ i = 2 ∨ i = 3 ∨ i = 4 ∨ i = 5 ∨ i = 6 ∨ i = 7 ∨ i = 8 ∨ i = 9 ∨ i = 10 ∨ i = 11 ∨ i = 12 ∨ i = 13 ∨ i = 14 ∨ i = 15 ∨ i = 16 ∨ i = 17 := by omega
 all_goals rfl
theorem getD_all {P : Int → Prop} {l : List Int} (h : ∀ x ∈ l, P x) (h0 : P 0) (i : Nat) : P (l.getD i 0) := by
 rw [List.getD_eq_getElem?_getD]
 cases e : l[i]? with
 | none => exact h0
 | some x => exact h x (List.mem_of_getElem? e)
theorem tailF_in (i : Nat) : 0 ≤ tailF i ∧ tailF i < 18446744073709551616 := getD_all (P := fun x => 0 ≤ x ∧ x < 18446744073709551616) (l := tailL) (by decide) (by decide) i
def above (f : Nat → Int) (u : Int) : Nat → Nat
 | 0 => 0
 | k + 1 => above f u k + if u < f k then 1 else 0
theorem above_le (f : Nat → Int) (u : Int) (k : Nat) : above f u k ≤ k := by
 induction k with
 | zero => exact Nat.le_refl _
 | succ k ih => unfold above; split <;> omega
def baseN (u : Int) : Nat := above tailF u 18
theorem baseN_le (u : Int) : baseN u ≤ 18 := above_le _ _ _
def Tl (w : World) : Prop := ∃ t fr, w.heap[1]? = some (.cells tailC t fr)
theorem Tl.below {w w' : World} (h : Tl w) (b : Below w.heap.size w w') : Tl w' := by
 obtain ⟨t, fr, h⟩ := h
 refine ⟨t, fr, ?_⟩
 have : 1 < w.heap.size := by
  rcases Nat.lt_or_ge 1 w.heap.size with k | k
  ·exact k
  ·simp [k] at h
 rw [Below.block b _ this]
 exact h
end Go.Proofs.YtnbbfeknbfohhaaGreatDoor
namespace Go.Proofs.YtnbbfeknbfohhaaGreatDoor
open Go.RowKit
def decayL : List Int := [9223372034707292160, 9223372032559808513, 9223372028264841220, 9223372019674906640, 9223372002495037504, 9223371968135299328, 9223371899415823360, 9223371761976872960, 9223371487098978304, 9223370937343213568, 9223369837831782400, 9223367638809313280, 9223363240765947903, 9223354444685508597, 9223336852549795755, 9223301668379032917, 9223231300440156843, 9223090566172988758, 9222809104080874160, 9222246205664613803, 9221120511896629248, 9218869536560097961, 9214369234215239612, 9205375219083682339, 9187413517043429148, 9151595186215228390, 9080376907458843210, 8939598712059420229, 8664556174609911609, 8139597253909710366, 7183169364861397922, 5594257926288582650, 3393088950634442637, 1248247667004394400, 168931951563480719, 3094096621605846, 1037953783668, 116806]
def decayF (i : Nat) : Int := decayL.getD i 0
def decayC : Array Value := #[.int .u64 9223372034707292160, .int .u64 9223372032559808513, .int .u64 9223372028264841220, .int .u64 9223372019674906640, .int .u64 9223372002495037504, .int .u64 9223371968135299328, .int .u64 9223371899415823360, .int .u64 9223371761976872960, .int .u64 9223371487098978304, .int .u64 9223370937343213568, .int .u64 9223369837831782400, .int .u64 9223367638809313280, .int .u64 9223363240765947903, .int .u64 9223354444685508597, .int .u64 9223336852549795755, .int .u64 9223301668379032917, .int .u64 9223231300440156843, .int .u64 9223090566172988758, .int .u64 9222809104080874160, .int .u64 9222246205664613803, .int .u64 9221120511896629248, .int .u64 9218869536560097961, .int .u64 9214369234215239612, .int .u64 9205375219083682339, .int .u64 9187413517043429148, .int .u64 9151595186215228390, .int .u64 9080376907458843210, .int .u64 8939598712059420229, .int .u64 8664556174609911609, .int .u64 8139597253909710366, .int .u64 7183169364861397922, .int .u64 5594257926288582650, .int .u64 3393088950634442637, .int .u64 1248247667004394400, .int .u64 168931951563480719, .int .u64 3094096621605846, .int .u64 1037953783668, .int .u64 116806]
theorem decayC_at (i : Nat) (h : i < 38) : decayC[i]? = some (.int .u64 (decayF i)) := by
 have hs : decayC = (decayL.map fun n => Value.int .u64 n).toArray := rfl
 have hl : decayL.length = 38 := rfl
 rw [hs, List.getElem?_toArray, List.getElem?_map, List.getElem?_eq_getElem (by omega), Option.map_some]
 unfold decayF
 rw [List.getD_eq_getElem?_getD, List.getElem?_eq_getElem (by omega), Option.getD_some]
theorem decayF_in (i : Nat) : 0 ≤ decayF i ∧ decayF i ≤ 9223372036854775808 := getD_all (P := fun x => 0 ≤ x ∧ x ≤ 9223372036854775808) (l := decayL) (by decide) (by decide) i
def share (a b : Int) : Int := a * b / 9223372036854775808 % 18446744073709551616
theorem share_in (a b : Int) : 0 ≤ share a b ∧ share a b < 18446744073709551616 := by unfold share; omega
theorem share_small {a b : Int} (a0 : 0 ≤ a) (a1 : a ≤ 9223372036854775808) (b0 : 0 ≤ b) (b1 : b ≤ 9223372036854775808) : share a b = a * b / 9223372036854775808 ∧ share a b ≤ a := by
 have h0 : 0 ≤ a * b := Int.mul_nonneg a0 b0
 have h1 : a * b ≤ a * 9223372036854775808 := Int.mul_le_mul_of_nonneg_left b1 a0
 have h2 : a * b / 9223372036854775808 ≤ a := by omega
 unfold share
 constructor <;> omega
def dec (t : Int) : Nat → Int
 | 0 => 9223372036854775808
 | k + 1 => if t / 2 ^ k % 2 = 1 then share (dec t k) (decayF k) else dec t k
theorem dec_in (t : Int) (k : Nat) : 0 ≤ dec t k ∧ dec t k ≤ 9223372036854775808 := by
 induction k with
 | zero => exact ⟨by unfold dec; decide, Int.le_refl _⟩
 | succ k ih =>
  unfold dec
  split
  ·have := share_small ih.1 ih.2 (decayF_in k).1 (decayF_in k).2
   have := share_in (dec t k) (decayF k)
   omega
  ·exact ih
def decayN (t : Int) : Int := if t < 274877906944 then dec t 38 else 0
theorem decayN_in (t : Int) : 0 ≤ decayN t ∧ decayN t ≤ 9223372036854775808 := by
 unfold decayN
 split
 ·exact dec_in t 38
 ·decide
def Dc (w : World) : Prop := ∃ t fr, w.heap[2]? = some (.cells decayC t fr)
theorem Dc.below {w w' : World} (h : Dc w) (b : Below w.heap.size w w') : Dc w' := by
 obtain ⟨t, fr, h⟩ := h
 refine ⟨t, fr, ?_⟩
 have : 2 < w.heap.size := by
  rcases Nat.lt_or_ge 2 w.heap.size with k | k
  ·exact k
  ·simp [k] at h
 rw [Below.block b _ this]
 exact h
end Go.Proofs.YtnbbfeknbfohhaaGreatDoor
set_option maxHeartbeats 40000000
namespace Go.Proofs.YtnbbfeknbfohhaaGreatDoor
open Go.RowKit
theorem twY10 {P : Prop} (h : P := by
 obtain ⟨t0, t1⟩ := tailF_in k
 have hs : above tailF u (k + 1) = n + if u < tailF k then 1 else 0 := by rw [← hn]; rfl
 have HS : Hid _ := hs
 clear hs
 generalize tailF k = t at *
 by_cases hb : u < t
 ·go_wp2
  go_round
  case rel => exact ⟨k + 1, by omega, by rw [HS.out, if_pos hb]; go_num, by go_num⟩
  case measure => simp [intOf]; omega
 ·go_wp2
  go_round
  case rel => exact ⟨k + 1, by omega, by rw [HS.out, if_neg hb]; go_num, by go_num⟩
  case measure => simp [intOf]; omega) : P := h
theorem shares_s (w : World) : Calls Tryz.prog 122 #[] w fun e w' => ∃ b, e = .returned (.slice (some ⟨b, 0, none⟩) 18 18) ∧ Gr w w' ∧ ∀ i, i < 18 → w'.cell? ⟨b, i, none⟩ = some (.int .u64 (tailF i)) := by
 go_enter Tryz.func122, Tryz.ntmps122
 go_wp2
 go_returns
 exact ⟨_, rfl, kr, fun i hi => (World.cell?_alloc_new _ _ _ _).trans (tailC_at i hi)⟩
theorem index_row {t : TypeId} {n : Nat} (h : Tryz.prog.underlying t = some (.array n 22)) {cs : Array Value} {k : Nat} {v : Value} (hk : k < n) (hv : cs[k]? = some v) (w : World) : (Instr.index t (.agg cs) (.int .i64 k)).run Tryz.prog w = .ok v w := by
 have hk' : (k : Int) < n := by omega
 simp [Instr.index, run_underlying h, asIntOf, hk, hk', hv, go_sem]
theorem base_s (u : Int) (h0 : 0 ≤ u) (h1 : u < 18446744073709551616) (w : World) :
  Calls Tryz.prog 36 #[.int .u64 u] w fun e w' => e = .returned (.int .i64 (baseN u : Nat)) ∧ Gr w w' := by
 go_enter Tryz.func36, Tryz.ntmps36
 go_wp2_with (go_at_call 122; refine (shares_s _).mono ?_; rintro e w1 ⟨b, rfl, hg0, hc0⟩)
 have hc : Hid _ := hc0
 have hg : Hid (Gr w w1) := hg0
 clear hc0 hg0
 go_loop [4, 5] (fun n i => ∃ k : Nat, k ≤ 18 ∧ n = .int .i64 (above tailF u k : Nat) ∧ i = .int .i64 k) (fun _ i => 18 - (intOf i).toNat)
 case atStart => exact ⟨0, by omega, rfl, rfl⟩
 case round =>
  obtain ⟨k, hk, rfl, rfl⟩ := hrel
  have ha := above_le tailF u k
  obtain ⟨n, hn⟩ : ∃ n, above tailF u k = n := ⟨_, rfl⟩
  rw [hn] at ha ⊢
  by_cases h : (k : Int) < 18
  ·have q := hc.out k (by omega)
   exact twY10
  ·obtain rfl : k = 18 := by omega
   go_wp2
   go_returns
   exact ⟨by rw [← hn]; rfl, hg.out⟩
theorem base_i (u : Int) (h0 : 0 ≤ u) (h1 : u < 18446744073709551616) {w : World} (hT : Tl w) :
  Calls Tryz.prog 133 #[.int .u64 u] w fun e w' => e = .returned (.int .i64 (baseN u : Nat)) ∧ w = w' := by
 obtain ⟨t, fr, hg⟩ := hT
 have hc : Hid (∀ i, i < 18 → tailC[i]? = some (.int .u64 (tailF i))) := tailC_at
 have hz : tailC.size = 18 := rfl
 generalize tailC = cs at *
 go_enter Tryz.func133, Tryz.ntmps133
 go_wp2_with (refine wpList_load_row rfl 213 _ rfl 1 rfl t cs fr _ hg Tryz.underlying213 rfl (by rw [hz]; kernel_rfl) ?_)
 go_loop [3, 7] (fun n i => ∃ k : Nat, k ≤ 18 ∧ n = .int .i64 (above tailF u k : Nat) ∧ i = .int .i64 k) (fun _ i => 18 - (intOf i).toNat)
 case atStart => exact ⟨0, by omega, rfl, rfl⟩
 case round =>
  obtain ⟨k, hk, rfl, rfl⟩ := hrel
  have ha := above_le tailF u k
  obtain ⟨n, hn⟩ : ∃ n, above tailF u k = n := ⟨_, rfl⟩
  rw [hn] at ha ⊢
  by_cases h : (k : Int) < 18
  ·have q := index_row Tryz.underlying213 (show k < 18 by omega) (hc.out k (by omega)) w
   exact twY10
  ·obtain rfl : k = 18 := by omega
   go_wp2
   go_returns
   exact ⟨by rw [← hn]; rfl, rfl⟩
end Go.Proofs.YtnbbfeknbfohhaaGreatDoor
namespace Go.Proofs.YtnbbfeknbfohhaaGreatDoor
open Go.RowKit
theorem twY11 {P : Prop} (h : P := by
 go_wp2
 go_returns
 have e : (k : Int) = bnd n := by unfold bnd; (repeat' split) <;> omega
 exact ⟨ret_wb (HF.out e).1 (HF.out e).2.1 (HF.out e).2.2, _, _, rfl⟩) : P := h
theorem lost_step (h l : Int) (k : Nat) (h0 : 0 ≤ h) (l0 : 0 ≤ l) : shrLost h l (k + 1) = (shrLost h l k || decide ((h * 18446744073709551616 + l) / 2 ^ k % 2 = 1)) := by
 obtain ⟨H, rfl⟩ := Int.eq_ofNat_of_zero_le h0
 obtain ⟨L, rfl⟩ := Int.eq_ofNat_of_zero_le l0
 unfold shrLost
 rw [show (H : Int) * 18446744073709551616 + L = ((H * 18446744073709551616 + L : Nat) : Int) by omega]
 generalize H * 18446744073709551616 + L = V
 have c1 : (V : Int) % 2 ^ (k + 1) = ((V % 2 ^ (k + 1) : Nat) : Int) := by push_cast; rfl
 have c2 : (V : Int) % 2 ^ k = ((V % 2 ^ k : Nat) : Int) := by push_cast; rfl
 have c3 : (V : Int) / 2 ^ k = ((V / 2 ^ k : Nat) : Int) := by push_cast; rfl
 rw [c1, c2, c3, Nat.pow_succ, Nat.mod_mul]
 have hp : 0 < 2 ^ k := Nat.pow_pos (by decide)
 generalize 2 ^ k = P at *
 generalize V % P = A at *
 generalize V / P = B at *
 rcases Nat.mod_two_eq_zero_or_one B with e | e
 ·rw [e, Nat.mul_zero, Nat.add_zero]
  have : ¬ ((B : Nat) : Int) % 2 = 1 := by omega
  simp [this]
 ·rw [e, Nat.mul_one]
  have : ((B : Nat) : Int) % 2 = 1 := by omega
  simp only [this, decide_true, Bool.or_true, decide_eq_true_eq]
  omega
theorem lost_zero (h l : Int) : shrLost h l 0 = false := by
 unfold shrLost; rw [Int.pow_zero]; simp [Int.emod_one]
theorem specShr_any (h l n : Int) (hh0 : 0 ≤ h) (hl0 : 0 ≤ l) (hh1 : h < 18446744073709551616) (hl1 : l < 18446744073709551616) (w : World) :
  Calls Tryz.prog 188 #[.agg #[.int .u64 h, .int .u64 l], .int .i64 n] w fun e w' => e = .returned (.tuple #[.agg #[.int .u64 (shrHi h l (bnd n).toNat), .int .u64 (shrLo h l (bnd n).toNat)], .bool (shrLost h l (bnd n).toNat)]) ∧ ∃ c1 c2 : Array Value, w' = (w.alloc (.cells c1 120)).alloc (.cells c2 120) := by
 go_enter Tryz.func188, Tryz.ntmps188
 go_wp2
 go_loopw [6, 7] (fun b i wr => ∃ (k : Nat) (X : Int) (L : Bool), k ≤ 128 ∧ ((k : Int) ≤ n ∨ k = 0) ∧ i = .int .i64 k ∧ b = .bool L ∧ Hid (L = shrLost h l k) ∧ Hid (X = (h * 18446744073709551616 + l) / 2 ^ k) ∧ 0 ≤ X ∧ X < 340282366920938463463374607431768211456 ∧ wr = (w.alloc (.cells #[.int .u64 (X / 18446744073709551616), .int .u64 (X % 18446744073709551616)] 120)).alloc (.cells #[.int .u64 0, .int .u64 0] 120)) (fun _ i _ => 128 - (intOf i).toNat)
 case atStart => exact ⟨0, h * 18446744073709551616 + l, false, by omega, by omega, rfl, rfl, (lost_zero h l).symm, by show _ = _; rw [Int.pow_zero]; omega, by omega, by omega, world_w (by omega) (by omega)⟩
 case round =>
  obtain ⟨k, X, L, hk, hkn, rfl, rfl, HL, HX, x0, x1, rfl⟩ := hrel
  have fin : ∀ (h2 : (k : Int) = bnd n), X / 18446744073709551616 = shrHi h l (bnd n).toNat ∧ X % 18446744073709551616 = shrLo h l (bnd n).toNat ∧ L = shrLost h l (bnd n).toNat := by
   intro h2
   have : (bnd n).toNat = k := by omega
   unfold shrHi shrLo
   rw [this, ← HX.out]
   exact ⟨rfl, rfl, HL.out⟩
  have HF : Hid (_ → _) := fin
  clear fin
  by_cases h1 : (k : Int) < n
  ·by_cases h2 : (k : Int) < 128
   ·have hx2 : 0 ≤ X / 2 ∧ X / 2 < 340282366920938463463374607431768211456 := by omega
    by_cases h3 : X % 18446744073709551616 % 2 = 1
    ·have hl : Hid (true = shrLost h l (k + 1)) := by show _ = _; rw [lost_step h l k hh0 hl0, ← HX.out, show decide (X % 2 = 1) = true from decide_eq_true (by omega), Bool.or_true]
     go_wp2
     go_roundw
     case rel => exact ⟨k + 1, X / 2, true, by omega, by omega, by go_num, rfl, hl, by show _ = _; rw [HX.out, shr_step], hx2.1, hx2.2, world_w (by first | omega | (simp only [IntKind.wrap_u64]; omega)) (by first | omega | (simp only [IntKind.wrap_u64]; omega))⟩
     case measure => simp [intOf]; omega
    ·have hl : Hid (L = shrLost h l (k + 1)) := by show _ = _; rw [lost_step h l k hh0 hl0, ← HX.out, show decide (X % 2 = 1) = false from decide_eq_false (by omega), Bool.or_false, HL.out]
     have h3' : X % 18446744073709551616 % 2 = 0 := by omega
     clear h3
     go_wp2
     go_roundw
     case rel => exact ⟨k + 1, X / 2, L, by omega, by omega, by go_num, rfl, hl, by show _ = _; rw [HX.out, shr_step], hx2.1, hx2.2, world_w (by first | omega | (simp only [IntKind.wrap_u64]; omega)) (by first | omega | (simp only [IntKind.wrap_u64]; omega))⟩
     case measure => simp [intOf]; omega
   ·exact twY11
  ·exact twY11
end Go.Proofs.YtnbbfeknbfohhaaGreatDoor
namespace Go.Proofs.YtnbbfeknbfohhaaGreatDoor
open Go.RowKit
theorem shrLo_share (a b : Int) : shrLo (a * b / 18446744073709551616) (a * b % 18446744073709551616) (bnd 63).toNat = share a b := by
 have e : (bnd 63).toNat = 63 := by decide
 rw [e]
 unfold shrLo share
 rw [show a * b / 18446744073709551616 * 18446744073709551616 + a * b % 18446744073709551616 = a * b by omega]
 rfl
theorem part_s (a b : Int) (a0 : 0 ≤ a) (a1 : a < 18446744073709551616) (b0 : 0 ≤ b) (b1 : b < 18446744073709551616) (w : World) :
  Calls Tryz.prog 123 #[.int .u64 a, .int .u64 b] w fun e w' => e = .returned (.int .u64 (share a b)) ∧ Gr w w' := by
 obtain ⟨p0, p1⟩ := mul_bounds a b a0 a1 b0 b1
 have e0 := shrLo_share a b
 generalize share a b = s at *
 have H1 : Hid (∀ w, Calls Tryz.prog 189 #[.int .u64 a, .int .u64 b] w fun e w' => e = .returned (.agg #[.int .u64 (a * b / 18446744073709551616), .int .u64 (a * b % 18446744073709551616)]) ∧ Gr w w') := fun w => (specMul_int a b a0 a1 b0 b1 w).mono fun e w' ⟨h, c, hw⟩ => ⟨h, by subst hw; exact kr⟩
 have H2 : Hid (∀ w, Calls Tryz.prog 188 #[.agg #[.int .u64 (a * b / 18446744073709551616), .int .u64 (a * b % 18446744073709551616)], .int .i64 63] w fun e w' => ∃ x y, e = .returned (.tuple #[.agg #[.int .u64 x, .int .u64 s], .bool y]) ∧ Gr w w') := fun w => (specShr_any _ _ 63 (by omega) (by omega) (by omega) (by omega) w).mono fun e w' ⟨h, c1, c2, hw⟩ => ⟨_, _, h.trans (by rw [e0]), by subst hw; exact kr⟩
 clear e0
 generalize a * b / 18446744073709551616 = x at *
 generalize a * b % 18446744073709551616 = y at *
 go_enter Tryz.func123, Tryz.ntmps123
 go_wp2_with (first
  | (go_at_call 189; refine (H1.out _).mono ?_; rintro e w1 ⟨rfl, hg_w1⟩)
  | (go_at_call 188; refine (H2.out _).mono ?_; rintro e w2 ⟨x2, y2, rfl, hg_w2⟩))
 go_returns
 exact ⟨rfl, kr⟩
theorem share_i (a b : Int) (a0 : 0 ≤ a) (a1 : a < 18446744073709551616) (b0 : 0 ≤ b) (b1 : b < 18446744073709551616) (w : World) :
  Calls Tryz.prog 136 #[.int .u64 a, .int .u64 b] w fun e w' => e = .returned (.int .u64 (share a b)) ∧ Gr w w' := by
 obtain ⟨p0, p1⟩ := mul_bounds a b a0 a1 b0 b1
 have e0 := shrLo_share a b
 generalize share a b = s at *
 have H1 : Hid (∀ w, Calls Tryz.prog 193 #[.int .u64 a, .int .u64 b] w fun e w' => e = .returned (.agg #[.int .u64 (a * b / 18446744073709551616), .int .u64 (a * b % 18446744073709551616)]) ∧ Gr w w') := mulWide_any a b a0 a1 b0 b1
 have H2 : Hid (∀ w, Calls Tryz.prog 192 #[.agg #[.int .u64 (a * b / 18446744073709551616), .int .u64 (a * b % 18446744073709551616)], .int .i64 63] w fun e w' => ∃ x y, e = .returned (.tuple #[.agg #[.int .u64 x, .int .u64 s], .bool y]) ∧ Gr w w') := fun w => (shiftRight_any _ _ 63 (by omega) (by omega) (by omega) (by omega) w).mono fun e w' ⟨h, hw⟩ => ⟨_, _, h.trans (by rw [e0]), hw⟩
 clear e0
 generalize a * b / 18446744073709551616 = x at *
 generalize a * b % 18446744073709551616 = y at *
 go_enter Tryz.func136, Tryz.ntmps136
 go_wp2_with (first
  | (go_at_call 193; refine (H1.out _).mono ?_; rintro e w1 ⟨rfl, hg_w1⟩)
  | (go_at_call 192; refine (H2.out _).mono ?_; rintro e w2 ⟨x2, y2, rfl, hg_w2⟩))
 go_returns
 exact ⟨rfl, kr⟩
theorem decays_s (w : World) : Calls Tryz.prog 190 #[] w fun e w' => ∃ b, e = .returned (.slice (some ⟨b, 0, none⟩) 38 38) ∧ Gr w w' ∧ ∀ i, i < 38 → w'.cell? ⟨b, i, none⟩ = some (.int .u64 (decayF i)) := by
 go_enter Tryz.func190, Tryz.ntmps190
 go_wp2
 go_returns
 exact ⟨_, rfl, kr, fun i hi => (World.cell?_alloc_new _ _ _ _).trans (decayC_at i hi)⟩
theorem two38 (w : World) : Calls Tryz.prog 114 #[.int .i64 38] w fun e w' => e = .returned (.int .u64 274877906944) ∧ w = w' := l2Two_any 38 _ (by omega) (by decide) w
theorem two63 (w : World) : Calls Tryz.prog 114 #[.int .i64 63] w fun e w' => e = .returned (.int .u64 9223372036854775808) ∧ w = w' := l2Two_any 63 _ (by omega) (by decide) w
theorem half_step (t : Int) (k : Nat) : t / 2 ^ k / 2 = t / 2 ^ (k + 1) := by
 rw [Int.pow_succ, Int.ediv_ediv_of_nonneg (Int.pow_nonneg (by decide))]
theorem pow_le_i {t : Int} (h0 : 0 ≤ t) (h1 : t < 18446744073709551616) (k : Nat) : 0 ≤ t / 2 ^ k ∧ t / 2 ^ k < 18446744073709551616 :=
 ⟨Int.ediv_nonneg h0 (Int.pow_nonneg (by decide)), Int.lt_of_le_of_lt (Int.ediv_le_self _ h0) h1⟩
theorem decay_s (t : Int) (h0 : 0 ≤ t) (h1 : t < 18446744073709551616) (w : World) :
  Calls Tryz.prog 124 #[.int .u64 t] w fun e w' => e = .returned (.int .u64 (decayN t)) ∧ Gr w w' := by
 by_cases hb : t < 274877906944
 ·have hn : decayN t = dec t 38 := if_pos hb
  rw [hn]
  have hb' : ¬ 274877906944 ≤ t := by omega
  clear hn
  go_enter Tryz.func124, Tryz.ntmps124
  go_upto_region 3 with (go_at_call 114; refine kw (two38 _) ?_)
  go_upto_region 4 with (go_at_call 190; refine (decays_s _).mono ?_; rintro e w1 ⟨b, rfl, hg0, hc0⟩)
  go_wp2_with (go_at_call 114; refine kw (two63 _) ?_)
  have hc : Hid _ := hc0
  have hg : Hid (Gr w w1) := hg0
  clear hc0 hg0
  go_loopw [0, 4, 5] (fun x y i wr => ∃ k : Nat, k ≤ 38 ∧ x = .int .u64 (t / 2 ^ k) ∧ y = .int .u64 (dec t k) ∧ i = .int .i64 k ∧ Hid (Gr w1 wr)) (fun _ _ i _ => 38 - (intOf i).toNat)
  case atStart => exact ⟨0, by omega, by rw [Int.pow_zero, Int.ediv_one], rfl, rfl, Gr.refl _⟩
  case round =>
   obtain ⟨k, hk, rfl, rfl, rfl, hr⟩ := hrel
   rename_i wr
   by_cases h : (k : Int) < 38
   ·have q := hr.out.old (hc.out k (by omega))
    obtain ⟨t0, t1⟩ := decayF_in k
    obtain ⟨d0, d1⟩ := dec_in t k
    obtain ⟨x0, x1⟩ := pow_le_i h0 h1 k
    have HS : Hid (dec t (k + 1) = if t / 2 ^ k % 2 = 1 then share (dec t k) (decayF k) else dec t k) := rfl
    have HX : Hid (t / 2 ^ k / 2 = t / 2 ^ (k + 1)) := half_step t k
    have HY : Hid (∀ w, Calls Tryz.prog 123 #[.int .u64 (dec t k), .int .u64 (decayF k)] w fun e w' => e = .returned (.int .u64 (share (dec t k) (decayF k))) ∧ Gr w w') := part_s _ _ d0 (by omega) t0 (by omega)
    generalize t / 2 ^ k = x at *
    generalize share (dec t k) (decayF k) = z at *
    generalize dec t k = y at *
    generalize decayF k = f at *
    by_cases hb : x % 2 = 1
    ·go_wp2_with (go_at_call 123; refine (HY.out _).mono ?_; rintro e w2 ⟨rfl, hg_w2⟩)
     go_roundw
     case rel => exact ⟨k + 1, by omega, by rw [← HX.out], by rw [HS.out, if_pos hb], by go_num, hr.out.trans hg_w2⟩
     case measure => simp [intOf]; omega
    ·have hb2 : x % 2 = 0 := by omega
     have HB : Hid (¬ x % 2 = 1) := hb
     clear hb
     go_wp2
     go_roundw
     case rel => exact ⟨k + 1, by omega, by rw [← HX.out], by rw [HS.out, if_neg HB.out], by go_num, hr⟩
     case measure => simp [intOf]; omega
   ·obtain rfl : k = 38 := by omega
    go_wp2
    go_returns
    exact ⟨rfl, hg.out.trans hr.out⟩
 ·have hn : decayN t = 0 := if_neg hb
  rw [hn]
  have hb' : 274877906944 ≤ t := by omega
  clear hn hb
  go_enter Tryz.func124, Tryz.ntmps124
  go_wp2_with (go_at_call 114; refine kw (two38 _) ?_)
  go_returns
  exact ⟨rfl, Gr.refl _⟩
theorem decay_i (t : Int) (h0 : 0 ≤ t) (h1 : t < 18446744073709551616) {w : World} (hT : Dc w) :
  Calls Tryz.prog 135 #[.int .u64 t] w fun e w' => e = .returned (.int .u64 (decayN t)) ∧ Gr w w' := by
 have hsh : t / 2 ^ 38 = t / 274877906944 := rfl
 by_cases hb : t < 274877906944
 ·have hn : decayN t = dec t 38 := if_pos hb
  rw [hn]
  have hb' : t / 274877906944 = 0 := by omega
  clear hn
  obtain ⟨tt, fr, hg⟩ := hT
  have hc : Hid (∀ i, i < 38 → decayC[i]? = some (.int .u64 (decayF i))) := decayC_at
  have hz : decayC.size = 38 := rfl
  generalize decayC = cs at *
  go_enter Tryz.func135, Tryz.ntmps135
  go_wp2_with (refine wpList_load_row rfl 214 _ rfl 2 rfl tt cs fr _ hg Tryz.underlying214 rfl (by rw [hz]; kernel_rfl) ?_)
  go_loopw [3, 10] (fun y i wr => ∃ k : Nat, k ≤ 38 ∧ y = .int .u64 (dec t k) ∧ i = .int .i64 k ∧ Hid (Gr w wr)) (fun _ i _ => 38 - (intOf i).toNat)
  case atStart => exact ⟨0, by omega, rfl, rfl, Gr.refl _⟩
  case round =>
   obtain ⟨k, hk, rfl, rfl, hr⟩ := hrel
   rename_i wr
   by_cases h : (k : Int) < 38
   ·have q := index_row Tryz.underlying214 (show k < 38 by omega) (hc.out k (by omega)) wr
    obtain ⟨t0, t1⟩ := decayF_in k
    obtain ⟨d0, d1⟩ := dec_in t k
    obtain ⟨x0, x1⟩ := pow_le_i h0 h1 k
    have hand := and_one_u64 (t / 2 ^ k) x0 (by omega)
    have HS : Hid (dec t (k + 1) = if t / 2 ^ k % 2 = 1 then share (dec t k) (decayF k) else dec t k) := rfl
    have HY : Hid (∀ w, Calls Tryz.prog 136 #[.int .u64 (dec t k), .int .u64 (decayF k)] w fun e w' => e = .returned (.int .u64 (share (dec t k) (decayF k))) ∧ Gr w w') := share_i _ _ d0 (by omega) t0 (by omega)
    generalize share (dec t k) (decayF k) = z at *
    generalize dec t k = y at *
    generalize decayF k = f at *
    by_cases hb : t / 2 ^ k % 2 = 1
    ·go_wp2_with (go_at_call 136; refine (HY.out _).mono ?_; rintro e w2 ⟨rfl, hg_w2⟩)
     go_roundw
     case rel => exact ⟨k + 1, by omega, by rw [HS.out, if_pos hb], by go_num, hr.out.trans hg_w2⟩
     case measure => simp [intOf]; omega
    ·have hb2 : t / 2 ^ k % 2 = 0 := by omega
     have HB : Hid (¬ t / 2 ^ k % 2 = 1) := hb
     clear hb
     go_wp2
     go_roundw
     case rel => exact ⟨k + 1, by omega, by rw [HS.out, if_neg HB.out], by go_num, hr⟩
     case measure => simp [intOf]; omega
   ·obtain rfl : k = 38 := by omega
    go_wp2
    go_returns
    exact ⟨rfl, hr.out⟩
 ·have hn : decayN t = 0 := if_neg hb
  rw [hn]
  have hb' : (t / 274877906944 == 0) = false := by simp; omega
  clear hn
  go_enter Tryz.func135, Tryz.ntmps135
  go_wp2
  go_returns
  exact ⟨rfl, Gr.refl _⟩
end Go.Proofs.YtnbbfeknbfohhaaGreatDoor
