/- The table of Decay, and what Decay is by it. -/
import Derived.Test.YtfhbhghifeefeaaDoorT7
set_option linter.unusedVariables false
set_option linter.unusedSimpArgs false
namespace Go.Proofs.YtfhbhghifeefeaaDoor
open Go.RowKit

def decayL : List Int := [9223372034707292160, 9223372032559808513, 9223372028264841220, 9223372019674906640, 9223372002495037504, 9223371968135299328, 9223371899415823360, 9223371761976872960, 9223371487098978304, 9223370937343213568, 9223369837831782400, 9223367638809313280, 9223363240765947903, 9223354444685508597, 9223336852549795755, 9223301668379032917, 9223231300440156843, 9223090566172988758, 9222809104080874160, 9222246205664613803, 9221120511896629248, 9218869536560097961, 9214369234215239612, 9205375219083682339, 9187413517043429148, 9151595186215228390, 9080376907458843210, 8939598712059420229, 8664556174609911609, 8139597253909710366, 7183169364861397922, 5594257926288582650, 3393088950634442637, 1248247667004394400, 168931951563480719, 3094096621605846, 1037953783668, 116806]
def decayF (i : Nat) : Int := decayL.getD i 0
def decayC : Array Value := #[.int .u64 9223372034707292160, .int .u64 9223372032559808513, .int .u64 9223372028264841220, .int .u64 9223372019674906640, .int .u64 9223372002495037504, .int .u64 9223371968135299328, .int .u64 9223371899415823360, .int .u64 9223371761976872960, .int .u64 9223371487098978304, .int .u64 9223370937343213568, .int .u64 9223369837831782400, .int .u64 9223367638809313280, .int .u64 9223363240765947903, .int .u64 9223354444685508597, .int .u64 9223336852549795755, .int .u64 9223301668379032917, .int .u64 9223231300440156843, .int .u64 9223090566172988758, .int .u64 9222809104080874160, .int .u64 9222246205664613803, .int .u64 9221120511896629248, .int .u64 9218869536560097961, .int .u64 9214369234215239612, .int .u64 9205375219083682339, .int .u64 9187413517043429148, .int .u64 9151595186215228390, .int .u64 9080376907458843210, .int .u64 8939598712059420229, .int .u64 8664556174609911609, .int .u64 8139597253909710366, .int .u64 7183169364861397922, .int .u64 5594257926288582650, .int .u64 3393088950634442637, .int .u64 1248247667004394400, .int .u64 168931951563480719, .int .u64 3094096621605846, .int .u64 1037953783668, .int .u64 116806]
theorem decayC_at (i : Nat) (h : i < 38) : decayC[i]? = some (.int .u64 (decayF i)) := by
  have hs : decayC = (decayL.map fun n => Value.int .u64 n).toArray := rfl
  have hl : decayL.length = 38 := rfl
  rw [hs, List.getElem?_toArray, List.getElem?_map, List.getElem?_eq_getElem (by omega), Option.map_some]
  unfold decayF
  rw [List.getD_eq_getElem?_getD, List.getElem?_eq_getElem (by omega), Option.getD_some]
theorem decayF_in (i : Nat) : 0 ≤ decayF i ∧ decayF i ≤ 9223372036854775808 := getD_all (P := fun x => 0 ≤ x ∧ x ≤ 9223372036854775808) (l := decayL) (by decide) (by decide) i

/-- A share of a share. -/
def share (a b : Int) : Int := a * b / 9223372036854775808 % 18446744073709551616
theorem share_in (a b : Int) : 0 ≤ share a b ∧ share a b < 18446744073709551616 := by unfold share; omega
theorem share_small {a b : Int} (a0 : 0 ≤ a) (a1 : a ≤ 9223372036854775808) (b0 : 0 ≤ b) (b1 : b ≤ 9223372036854775808) : share a b = a * b / 9223372036854775808 ∧ share a b ≤ a := by
  have h0 : 0 ≤ a * b := Int.mul_nonneg a0 b0
  have h1 : a * b ≤ a * 9223372036854775808 := Int.mul_le_mul_of_nonneg_left b1 a0
  have h2 : a * b / 9223372036854775808 ≤ a := by omega
  unfold share
  constructor <;> omega
theorem share_mono {a c b : Int} (a0 : 0 ≤ a) (h : a ≤ c) (c1 : c ≤ 9223372036854775808) (b0 : 0 ≤ b) (b1 : b ≤ 9223372036854775808) : share a b ≤ share c b := by
  rw [(share_small a0 (by omega) b0 b1).1, (share_small (by omega) c1 b0 b1).1]
  exact Int.ediv_le_ediv (by decide) (Int.mul_le_mul_of_nonneg_right h b0)
/-- Decay by the first bits. -/
def dec (t : Int) : Nat → Int
  | 0 => 9223372036854775808
  | k + 1 => if t / 2 ^ k % 2 = 1 then share (dec t k) (decayF k) else dec t k
theorem dec_in (t : Int) (k : Nat) : 0 ≤ dec t k ∧ dec t k ≤ 9223372036854775808 := by
  induction k with
  | zero => exact ⟨by unfold dec; decide, Int.le_refl _⟩
  | succ k ih =>
    unfold dec
    split
    · have := share_small ih.1 ih.2 (decayF_in k).1 (decayF_in k).2
      have := share_in (dec t k) (decayF k)
      omega
    · exact ih
/-- More bits, less is left. -/
theorem dec_fall (t s : Int) (h : ∀ k : Nat, t / 2 ^ k % 2 = 1 → s / 2 ^ k % 2 = 1) (k : Nat) : dec s k ≤ dec t k := by
  induction k with
  | zero => exact Int.le_refl _
  | succ k ih =>
    have a := dec_in s k
    have b := dec_in t k
    have d := decayF_in k
    have hk := h k
    unfold dec
    by_cases ht : t / 2 ^ k % 2 = 1
    · rw [if_pos ht, if_pos (hk ht)]
      exact share_mono a.1 ih b.2 d.1 d.2
    · rw [if_neg ht]
      split
      · exact Int.le_trans (share_small a.1 a.2 d.1 d.2).2 ih
      · exact ih
def decayN (t : Int) : Int := if t < 274877906944 then dec t 38 else 0
theorem decayN_in (t : Int) : 0 ≤ decayN t ∧ decayN t ≤ 9223372036854775808 := by
  unfold decayN
  split
  · exact dec_in t 38
  · decide

/-- The table of Decay lies in memory. -/
def Dc (w : World) : Prop := ∃ t fr, w.heap[1]? = some (.cells decayC t fr)
theorem Dc.below {w w' : World} (h : Dc w) (b : Below w.heap.size w w') : Dc w' := by
  obtain ⟨t, fr, h⟩ := h
  refine ⟨t, fr, ?_⟩
  have : 1 < w.heap.size := by
    rcases Nat.lt_or_ge 1 w.heap.size with k | k
    · exact k
    · simp [k] at h
  rw [Below.block b _ this]
  exact h
end Go.Proofs.YtfhbhghifeefeaaDoor
