/- The tables of chapter 7, and what Base and Decay are by them. -/
import Derived.Test.YtfhbhghifeefeaaDoorBase
import Derived.Test.YtfhbhghifeefeaaDoorRows
import Derived.WalkSpells
import Derived.Laws.Rows
set_option linter.unusedVariables false
set_option linter.unusedSimpArgs false
namespace Go.Proofs.YtfhbhghifeefeaaDoor
open Go.RowKit

def tailL : List Int := [12311384997445461060, 6896949616398116700, 3175666228297764653, 1183806766059182244, 353476207714659139, 83907343225073545, 15749660485982248, 2328616999791800, 270433320942720, 24618334939658, 1753979576257, 97691228987, 4249834529, 144306183, 3822728, 78971, 1272, 16]
def tailF (i : Nat) : Int := tailL.getD i 0
def tailC : Array Value := #[.int .u64 12311384997445461060, .int .u64 6896949616398116700, .int .u64 3175666228297764653, .int .u64 1183806766059182244, .int .u64 353476207714659139, .int .u64 83907343225073545, .int .u64 15749660485982248, .int .u64 2328616999791800, .int .u64 270433320942720, .int .u64 24618334939658, .int .u64 1753979576257, .int .u64 97691228987, .int .u64 4249834529, .int .u64 144306183, .int .u64 3822728, .int .u64 78971, .int .u64 1272, .int .u64 16]
theorem tailC_at (i : Nat) (h : i < 18) : tailC[i]? = some (.int .u64 (tailF i)) := by
  obtain rfl | rfl | rfl | rfl | rfl | rfl | rfl | rfl | rfl | rfl | rfl | rfl | rfl | rfl | rfl | rfl | rfl | rfl : i = 0 ∨ i = 1 ∨ i = 2 ∨ i = 3 ∨ i = 4 ∨ i = 5 ∨ i = 6 ∨ i = 7 ∨ i = 8 ∨ i = 9 ∨ i = 10 ∨ i = 11 ∨ i = 12 ∨ i = 13 ∨ i = 14 ∨ i = 15 ∨ i = 16 ∨ i = 17 := by omega
  all_goals rfl
theorem getD_all {P : Int → Prop} {l : List Int} (h : ∀ x ∈ l, P x) (h0 : P 0) (i : Nat) : P (l.getD i 0) := by
  rw [List.getD_eq_getElem?_getD]
  cases e : l[i]? with
  | none => exact h0
  | some x => exact h x (List.mem_of_getElem? e)
theorem tailF_in (i : Nat) : 0 ≤ tailF i ∧ tailF i < 18446744073709551616 := getD_all (P := fun x => 0 ≤ x ∧ x < 18446744073709551616) (l := tailL) (by decide) (by decide) i

/-- How many of the first numbers of a row are above u. -/
def above (f : Nat → Int) (u : Int) : Nat → Nat
  | 0 => 0
  | k + 1 => above f u k + if u < f k then 1 else 0
theorem above_le (f : Nat → Int) (u : Int) (k : Nat) : above f u k ≤ k := by
  induction k with
  | zero => exact Nat.le_refl _
  | succ k ih => unfold above; split <;> omega
theorem above_anti (f : Nat → Int) {u v : Int} (h : u ≤ v) (k : Nat) : above f v k ≤ above f u k := by
  induction k with
  | zero => exact Nat.le_refl _
  | succ k ih => unfold above; (repeat' split) <;> omega
/-- Base. -/
def baseN (u : Int) : Nat := above tailF u 18
theorem baseN_le (u : Int) : baseN u ≤ 18 := above_le _ _ _

/-- The table of Base lies in memory. -/
def Tl (w : World) : Prop := ∃ t fr, w.heap[0]? = some (.cells tailC t fr)
theorem Tl.below {w w' : World} (h : Tl w) (b : Below w.heap.size w w') : Tl w' := by
  obtain ⟨t, fr, h⟩ := h
  refine ⟨t, fr, ?_⟩
  have : 0 < w.heap.size := by
    rcases Nat.lt_or_ge 0 w.heap.size with k | k
    · exact k
    · simp [k] at h
  rw [Below.block b _ this]
  exact h
end Go.Proofs.YtfhbhghifeefeaaDoor
