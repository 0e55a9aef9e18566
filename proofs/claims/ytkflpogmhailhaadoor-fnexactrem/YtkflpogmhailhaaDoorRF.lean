/- A range over an endless function that the body leaves by a break after N rounds: an own law, over the library's steps of the statement. -/
import Derived.Test.YtkflpogmhailhaaDoorA1
import Derived.RangeFuncNested
import Derived.RangeFuncBound
import Derived.RangeFuncCalls
import Derived.RangeFuncLeaves
import Derived.Shelf.Abstract
import Derived.Shelf.RegionOpen
import Derived.OwnWalkIn
import Derived.TacticsInMore
import Derived.LoopNIn
import Derived.LoopIn
set_option linter.unusedVariables false
set_option linter.unusedSimpArgs false
namespace Go.Proofs.YtkflpogmhailhaaDoor
open Go.RowKit

/-- What is said of a world abides new blocks, and turns of what is no cells from B on. -/
structure Calm (B : Nat) (I : World → Prop) : Prop where
  put : ∀ W l o o', I W → B ≤ l → W.heap[l]? = some o → o.isCells = false → o'.isCells = false → I (W.putObj l o')
  new : ∀ W o, I W → o.isCells = false → I (W.alloc o)
  cells : ∀ W c t, I W → I (W.alloc (.cells c t))
  drew : ∀ W, I W → I W.drew

theorem Calm.mono {B B' : Nat} {I : World → Prop} (h : Calm B I) (hb : B ≤ B') : Calm B' I := ⟨fun W l o o' a b => h.put W l o o' a (Nat.le_trans hb b), h.new, h.cells, h.drew⟩
theorem Calm.and {B : Nat} {I J : World → Prop} (h : Calm B I) (k : Calm B J) : Calm B (fun W => I W ∧ J W) :=
  ⟨fun W l o o' a b c d e => ⟨h.put W l o o' a.1 b c d e, k.put W l o o' a.2 b c d e⟩, fun W o a b => ⟨h.new W o a.1 b, k.new W o a.2 b⟩, fun W c t a => ⟨h.cells W c t a.1, k.cells W c t a.2⟩, fun W a => ⟨h.drew W a.1, k.drew W a.2⟩⟩

theorem Gr.allocO {W w : World} (h : Gr W w) (o : Obj) (ho : o.isCells = false) : Gr W (w.alloc o) := by
  refine ⟨⟨World.keptBut_trans h.grown.1 (World.keptBut_alloc _ _ _), fun a => ?_, Nat.le_trans h.grown.2.2 (by simp)⟩, h.below.alloc h.below.size o⟩
  rw [← h.grown.2.1 a]
  by_cases e : a.block = w.heap.size
  · have e1 : (w.alloc o).heap[a.block]? = some o := by rw [e]; exact (MapKept.heap_alloc w _).1
    have e2 : w.heap[a.block]? = none := by rw [e]; simp
    unfold World.frozen?
    rw [e1, e2]
    cases o <;> first | rfl | (simp [Obj.isCells] at ho)
  · exact World.frozen?_alloc_old _ _ _ e

/-- A block of the heap that is no cells, as the law holds it. -/
theorem calm_block (B l : Nat) (o : Obj) (hl : l < B) : Calm B (fun W => W.heap[l]? = some o) :=
  ⟨fun W k o1 o2 h hk hb _ _ => (World.putObj_heap_other (by omega)).trans h,
   fun W o1 h _ => (Below.heap_alloc W o1 l (Array.getElem?_eq_some_iff.1 h).1).trans h,
   fun W c t h => (Below.heap_alloc W _ l (Array.getElem?_eq_some_iff.1 h).1).trans h,
   fun W h => h⟩

theorem cell_any_alloc {W : World} {p : Addr} {v : Value} (o : Obj) (h : W.cell? p = some v) : (W.alloc o).cell? p = some v := by
  obtain ⟨q, hq, hc⟩ := cells_of_cell h
  unfold World.cell? at h ⊢
  rw [Below.heap_alloc W o _ (Array.getElem?_eq_some_iff.1 hq).1]
  exact h
theorem calm_cell (B : Nat) (p : Addr) (v : Value) : Calm B (fun W => W.cell? p = some v) :=
  ⟨fun W l o o' h _ hl ho _ => by
      have := cells_of_cell h
      obtain ⟨q, hq, hc⟩ := this
      have hne : p.block ≠ l := by intro e; rw [e, hl] at hq; cases hq; rw [ho] at hc; cases hc
      unfold World.cell? at h ⊢
      rw [World.putObj_heap_other (by omega)]; exact h,
   fun W o h _ => cell_any_alloc o h, fun W c t h => cell_any_alloc _ h, fun W h => h⟩

/-- An iterator that hands out N values (and has more), for every body that is done with it then. -/
def Hands (F : Fence) (n : Nat) (P : Program) (g : Nat) (lb : Array Value) (n₀ N : Nat) (encs : Nat → Array Value) (w : World) : Prop :=
  ∀ (l : Nat) (J : Nat → World → Prop) (Jx : World → Prop) (W : World), Below n₀ w W → (∀ i, Calm W.heap.size (J i)) →
    (∀ i W1, i < N → J i W1 → YieldAt F (n - 1) P l (encs i) W1 fun e W' => (i + 1 < N ∧ e = .returned (.bool true) ∧ J (i + 1) W' ∧ Below n₀ W1 W') ∨ (i + 1 = N ∧ e = .returned (.bool false) ∧ Jx W')) →
    J 0 W → CallsIn F n P g (#[.func (.yield l) #[] #[]] ++ lb) W fun e W' => (∃ v, e = .returned v) ∧ Jx W'

/-- How the body of round i may be left: off its end, or, in the last one, by the break. -/
def upPost (n₀ N id : Nat) (I : Nat → World → Prop) (Ix : World → Prop) (i : Nat) (W : World) : Exit → Act → World → Prop
  | .normal, _, W' => i + 1 < N ∧ KeepsOthers W W' ∧ Below n₀ W W' ∧ I (i + 1) W'
  | .exit d, _, W' => i + 1 = N ∧ d = id ∧ KeepsOthers W W' ∧ Ix W'
  | .ret, _, _ => False
  | .goto _, _, _ => False
  | .panic _, _, _ => False
  | .outgrown, _, _ => False

theorem wpIn_range_upto {F : Fence} {n : Nat} {P : Program} {g : Operand} {ps : Array Tmp} {assign body : Code} {Q : Exit → Act → World → Prop} {a : Act} {w : World}
    (hro : F.round = none) (h1 : 1 ≤ n) {gf : Nat} {lb : Array Value} (hg : a.eval g = .func (.func gf) #[] lb) (hFg : F.fn gf) (eg : ∀ args w, (callFunc gf args).run P w = .ok (.enter gf args) w)
    {n₀ N : Nat} {encs : Nat → Array Value} {w0 : World} (hseq : Hands F (n - 1) P gf lb n₀ N encs w0) (hn₀ : n₀ ≤ w.heap.size) (hb0 : Below n₀ w0 w) (hps : ∀ i, (encs i).size = ps.size)
    (id : Nat) (I : Nat → World → Prop) (Ix : World → Prop) (hI : ∀ i, Calm w.heap.size (I i)) (hIx : Calm w.heap.size Ix) (h0 : I 0 w) (a₁ : Nat → Act)
    (hassign : ∀ (l i : Nat) (W : World) (K : Act → World → Prop), K (a₁ i) W →
      assign.wpIn (F.inRound l) (n - 1 - 1) P (Exit.then K (fun _ _ _ => False)) { tmps := (ps.zip (encs i)).foldl (fun t (p, v) => t.setIfInBounds p v) a.tmps, defers := [] } W)
    (hbody : ∀ (l i : Nat) (W : World), i < N → I i W → body.wpIn (F.inRound l) (n - 1 - 1) P (upPost n₀ N id I Ix i W) (a₁ i) W)
    (hstop : ∀ (D : Nat) (W : World), w.heap.size ≤ D → Ix W → W.heap[D]? = some (.deferred (some [])) → (Code.exit id).wpIn F n P Q { a with defers := { target := .collected D, args := #[] } :: a.defers } W) :
    (Code.rangeFunc g ps assign body).wpIn F n P Q a w := by
  refine wpIn_rangeFunc (fun fn hfn => ?_)
  rw [hro]
  obtain ⟨rc, hrc⟩ : ∃ rc : LoopState → Option Code → Loop, rc = fun st pe => { state := st, pending := pe, fn, tmps := a.tmps, params := ps, assign, body, defers := w.heap.size } := ⟨_, rfl⟩
  obtain ⟨w1, hw1⟩ : ∃ w1, w1 = (w.alloc (.deferred (some []))).alloc (.loop (rc .ready none)) := ⟨_, rfl⟩
  have hs1 : w1.heap.size = w.heap.size + 1 + 1 := by rw [hw1]; simp
  have hL : w1.heap[w.heap.size + 1]? = some (.loop (rc .ready none)) := by
    rw [hw1]; have := World.alloc_heap_new (w.alloc (.deferred (some []))) (.loop (rc .ready none)); rwa [World.size_alloc] at this
  have hD : w1.heap[w.heap.size]? = some (.deferred (some [])) := by rw [hw1]; exact (Below.heap_alloc _ _ _ (by simp)).trans (World.alloc_heap_new w _)
  have hI1 : I 0 w1 := by rw [hw1]; exact (hI 0).new _ _ ((hI 0).new _ _ h0 rfl) rfl
  have hB1 : Below n₀ w0 w1 := by
    rw [hw1]; exact hb0.trans (((Below.refl n₀ w).alloc hn₀ _).alloc (by simp; omega) _)
  refine ⟨w.heap.size + 1, [{ target := .collected w.heap.size, args := #[] }], w1, { target := .fn (.func gf) lb, args := #[.func (.yield (w.heap.size + 1)) #[] #[]] }, w1, gf,
    #[.func (.yield (w.heap.size + 1)) #[] #[]] ++ lb, w1, ?_, ?_, ?_, ?_, fun _ => h1, ?_⟩
  · rw [hw1, hrc]; exact run_enterLoop_outer _ _ _ _ _
  · simp only [resolve, hg]
    simp [go_sem]
  · intro f' hf'; simp [Target.leads] at hf'; subst hf'; exact hFg
  · simp [invoke, go_sem, eg]
  refine (hseq (w.heap.size + 1) (fun i W => I i W ∧ W.heap[w.heap.size + 1]? = some (.loop (rc .ready none)) ∧ W.heap[w.heap.size]? = some (.deferred (some [])))
    (fun W => Ix W ∧ W.heap[w.heap.size + 1]? = some (.loop (rc .done (some (.exit id)))) ∧ W.heap[w.heap.size]? = some (.deferred (some []))) w1 hB1
    (fun i => ((hI i).mono (by omega)).and ((calm_block _ _ _ (by omega)).and (calm_block _ _ _ (by omega)))) ?_ ⟨hI1, hL, hD⟩).mono ?_
  · rintro i W hi ⟨hIi, hl, hd⟩
    have hy := run_yield (P := P) (args := encs i) hl (by rw [hrc]; exact hps i)
    rw [hrc] at hy
    refine ⟨fn, _, assign, body, hy, roundIn_of_wpIn hfn (hassign _ i W _ ⟨_, run_beginRound hl (by rw [hrc]), ?_⟩)⟩
    obtain ⟨V, hV⟩ : ∃ V, V = W.putObj (w.heap.size + 1) (.loop { rc .ready none with state := .busy }) := ⟨_, rfl⟩
    have hlt := (Array.getElem?_eq_some_iff.1 hl).1
    have hl2 : V.heap[w.heap.size + 1]? = some (.loop { rc .ready none with state := .busy }) := by rw [hV]; exact World.putObj_heap_same hlt
    have hd2 : V.heap[w.heap.size]? = some (.deferred (some [])) := by rw [hV]; exact (World.putObj_heap_other (by omega)).trans hd
    have hBV : Below n₀ W V := by rw [hV]; exact belowK_b hn₀ _ _ _ _ (by omega) hl rfl rfl
    have hIV : I i V := by rw [hV]; exact (hI i).put _ _ _ _ hIi (by omega) hl rfl rfl
    rw [← hV]
    refine wpIn_mono (hbody _ i V hi hIV) ?_
    have fin : ∀ (j : Option Code) (X : World), KeepsOthers V X → X.heap[w.heap.size + 1]? = some (.loop { rc .ready none with state := .busy }) ∧
        (Instr.endRound (w.heap.size + 1) j).run P X = .ok (.bool j.isNone) (X.putObj (w.heap.size + 1) (.loop (rc (if j.isNone then .ready else .done) j))) ∧
        (X.putObj (w.heap.size + 1) (.loop (rc (if j.isNone then .ready else .done) j))).heap[w.heap.size + 1]? = some (.loop (rc (if j.isNone then .ready else .done) j)) ∧
        (X.putObj (w.heap.size + 1) (.loop (rc (if j.isNone then .ready else .done) j))).heap[w.heap.size]? = some (.deferred (some [])) := fun j X hk => by
      have hl3 := hk.same _ _ hl2 rfl
      have he := run_endRound (P := P) j hl3
      have hd3 := hk.same _ _ hd2 rfl
      refine ⟨hl3, ?_, World.putObj_heap_same (Array.getElem?_eq_some_iff.1 hl3).1, (World.putObj_heap_other (by omega)).trans hd3⟩
      rw [hrc] at he ⊢
      exact he
    intro e a3 X hp
    cases e with
    | normal =>
      obtain ⟨hlt2, hk, hb, hi2⟩ := hp
      obtain ⟨hl3, hr, hl4, hd4⟩ := fin none X hk
      exact ⟨_, _, hr, .inl ⟨hlt2, rfl, ⟨(hI _).put _ _ _ _ hi2 (by omega) hl3 rfl rfl, hl4, hd4⟩, (hBV.trans hb).trans (belowK_b hn₀ _ _ _ _ (by omega) hl3 rfl rfl)⟩⟩
    | exit d =>
      obtain ⟨he, rfl, hk, hx⟩ := hp
      obtain ⟨hl3, hr, hl4, hd4⟩ := fin (some (.exit d)) X hk
      exact ⟨_, _, hr, .inr ⟨he, rfl, hIx.put _ _ _ _ hx (by omega) hl3 rfl rfl, hl4, hd4⟩⟩
    | ret => exact hp.elim
    | goto t => exact hp.elim
    | panic ch => exact hp.elim
    | outgrown => exact hp.elim
  · rintro e X ⟨⟨v, rfl⟩, hx, hl, hd⟩
    have he := run_endLoop (P := P) hl (by rw [hrc]; simp)
    rw [show (rc LoopState.done (some (Code.exit id))).pending = some (Code.exit id) by rw [hrc]] at he
    exact ⟨some (.exit id), _, he, hstop _ _ (Nat.le_refl _) (hIx.put _ _ _ _ hx (by omega) hl rfl rfl) ((World.putObj_heap_other (by omega)).trans hd)⟩
end Go.Proofs.YtkflpogmhailhaaDoor
