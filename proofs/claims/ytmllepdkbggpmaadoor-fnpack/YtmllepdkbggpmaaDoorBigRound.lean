/- spec.l2Round. -/
import Derived.Test.YtmllepdkbggpmaaDoorBigChoose
import Derived.Test.YtmllepdkbggpmaaDoorBigOver
set_option linter.unusedVariables false
set_option linter.unusedSimpArgs false
namespace Go.Proofs.YtmllepdkbggpmaaDoor
open Go.RowKit

/-- A row of words, its length bounded. -/
def BigN (K : Nat) (w : World) (v : Value) (N : Nat) : Prop := ∃ n, n ≤ K ∧ Big w v n N
theorem BigN.gb {K : Nat} {w w' : World} {v : Value} {N : Nat} (h : BigN K w v N) (k : Gb w w') : BigN K w' v N := by
  obtain ⟨n, h1, h2⟩ := h
  exact ⟨n, h1, h2.gb k⟩

/-- What the walk of l2Round calls. -/
structure RC (f p mn mx one mode sign : Int) (w : World) : Prop where
  max : ∀ w, Calls Tryd.prog 49 #[.int .i64 f] w fun x w' => x = .returned (.int .i64 mx) ∧ w = w'
  min : ∀ w, Calls Tryd.prog 24 #[.int .i64 f] w fun x w' => x = .returned (.int .i64 mn) ∧ w = w'
  prec : ∀ w, Calls Tryd.prog 23 #[.int .i64 f] w fun x w' => x = .returned (.int .i64 p) ∧ w = w'
  two : ∀ w, Calls Tryd.prog 22 #[.int .i64 (p - 1)] w fun x w' => x = .returned (.int .u64 one) ∧ w = w'
  len : ∀ K v N w, K ≤ 200000 → BigN K w v N → Calls Tryd.prog 37 #[v] w fun x w' => x = .returned (.int .i64 (nb N)) ∧ w = w'
  word : ∀ v N w, BigN 190000 w v N → N < 18446744073709551616 → Calls Tryd.prog 58 #[v] w fun x w' => x = .returned (.int .u64 N) ∧ w = w'
  choose : ∀ v (L : Nat) (half : Nat) w, BigN 180000 w v L → half ≤ 3 → Calls Tryd.prog 57 #[.int .i64 mode, .int .i64 sign, v, .int .i64 half] w fun x w' => ∃ v', x = .returned v' ∧ BigN 190000 w' v' (chosen mode sign L half) ∧ Gb w w'

theorem rc_of {f p mn mx one inf sg nan : Int} (h : IsFmt f p mx one inf sg nan) (hmn : 1 - mx = mn) (mode sign : Int) (m0 : 0 ≤ mode) (m1 : mode ≤ 4) (hs : sign = 0 ∨ sign = 1) (w : World) : RC f p mn mx one mode sign w where
  max := fun w => l2Max_any h w
  min := fun w => hmn ▸ l2Min_any h w
  prec := fun w => l2P_any h w
  two := fun w => l2One_any h w
  len := fun K v N w hK ⟨n, h1, h2⟩ => l2Len_any h2 (by omega)
  word := fun v N w ⟨n, h1, h2⟩ hN => l2Word_any h2 (by omega) hN
  choose := fun v L half w ⟨n, h1, h2⟩ hh => (l2Choose_any h2 (by omega) mode sign half m0 m1 hs hh).mono (fun x w' ⟨v', k, a1, a2, a3, a4⟩ => ⟨v', a1, ⟨k, by omega, a2⟩, a4⟩)
end Go.Proofs.YtmllepdkbggpmaaDoor
