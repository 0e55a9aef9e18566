/- The order of operands and of words: both sides. -/
import Derived.Test.YtfakbjgbbcigpaaDoorK1
import Derived.Test.YtfakbjgbbcigpaaDoorL5PO
import Derived.Test.YtfakbjgbbcigpaaDoorL3YA
set_option linter.unusedVariables false
set_option linter.unusedSimpArgs false
namespace Go.Proofs.YtfakbjgbbcigpaaDoor
open Go.RowKit

theorem tmod_of {a v sg s : Int} (h : s = 0 ∧ a = v ∨ s = 1 ∧ a = v + sg) (v0 : 0 ≤ v) (v1 : v < sg) : a.tmod sg = v := by
  rw [Int.tmod_eq_emod_of_nonneg (by omega)]
  rcases h with ⟨_, rfl⟩ | ⟨_, rfl⟩
  · exact Int.emod_eq_of_lt v0 v1
  · rw [Int.add_emod_right]; exact Int.emod_eq_of_lt v0 v1

/-- The model's order of two words that are no NaNs. -/
def ordW (x y : Opd) : Int := if max x.c y.c = 0 then 0 else ordO x y
theorem l5Order_any {f p mx one inf sg nan a b : Int} (h : IsFmt f p mx one inf sg nan) (a0 : 0 ≤ a) (b0 : 0 ≤ b) {x y : Opd} (hx : OpdIs p mx one inf sg nan a x) (hy : OpdIs p mx one inf sg nan b y) (xc : x.c ≤ 2) (yc : y.c ≤ 2) (w : World) :
    Calls Tryd.prog 33 #[.int .i64 f, .int .u64 a, .int .u64 b] w fun e w' => e = .returned (.int .i64 (ordW x y)) ∧ w = w' := by
  obtain ⟨v, u, ⟨ha, v0, v1, va, vb⟩, ⟨hb, u0, u1, ua, ub⟩, hl⟩ := ord_word h a0 b0 hx hy xc yc
  have hbd := h.bounds
  have x0 := (opd_vo h hx).1.c0
  have y0 := (opd_vo h hy).1.c0
  refine l5Order_walk f a b v u sg _ (fun w => l2Sign_any h w) (by omega) (tmod_of ha v0 (by omega)) (tmod_of hb u0 (by omega)) ?_ w
  show ordW x y = _
  unfold ordW ordO
  rw [hl]
  by_cases c0 : v = 0 ∧ u = 0
  · rw [if_pos c0, if_pos (by omega)]
  · rw [if_neg c0, if_neg (by omega)]
    rcases ha with ⟨hs, rfl⟩ | ⟨hs, rfl⟩ <;> rcases hb with ⟨ht, rfl⟩ | ⟨ht, rfl⟩ <;> rw [hs, ht]
    · rw [if_neg (by decide), if_neg (by decide), if_neg (by rw [decide_eq_false (by omega), decide_eq_false (by omega)]; simp), decide_eq_true (show a < sg by omega)]
      unfold cmpI
      by_cases c1 : a = b
      · rw [if_pos c1, if_neg (by omega), if_neg (by omega)]
      · rw [if_neg c1]
        by_cases c2 : a < b
        · rw [if_pos c2, if_pos (by simp [c2])]
        · rw [if_neg c2, if_pos (by omega), if_neg (by simp [c2])]
    · rw [if_pos (by decide), if_pos (by rw [decide_eq_false (by omega), decide_eq_true (by omega)]; decide), if_neg (by omega)]; rfl
    · rw [if_pos (by decide), if_pos (by rw [decide_eq_true (by omega), decide_eq_false (by omega)]; decide), if_pos (by omega)]; rfl
    · rw [if_neg (by decide), if_pos rfl, if_neg (by rw [decide_eq_true (by omega), decide_eq_true (by omega)]; simp), decide_eq_false (show ¬ v + sg < sg by omega)]
      unfold cmpI
      by_cases c1 : v = u
      · rw [if_pos c1, if_neg (by omega), if_neg (by omega)]; rfl
      · rw [if_neg c1]
        by_cases c2 : v < u
        · rw [if_pos c2, if_neg (by simp [c2])]; rfl
        · rw [if_neg c2, if_pos (by omega), if_pos (by simp [c2])]

theorem nofit2 {f p mx one inf sg nan a : Int} (h : IsFmt f p mx one inf sg nan) (a1 : a < 18446744073709551616) (hn : 2 * sg ≤ a) : f = 0 ∧ 4294967296 ≤ a := by
  rcases h with ⟨rfl, rfl, rfl, rfl, rfl, rfl, rfl⟩ | ⟨rfl, rfl, rfl, rfl, rfl, rfl, rfl⟩ <;> omega

end Go.Proofs.YtfakbjgbbcigpaaDoor
