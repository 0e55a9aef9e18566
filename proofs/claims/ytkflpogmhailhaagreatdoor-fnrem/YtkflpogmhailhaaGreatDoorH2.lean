/- A range over an endless function that the body leaves by a break after N rounds: an own law, over the library's steps of the statement. -/
import Derived.Test.YtkflpogmhailhaaGreatDoorA1
import Derived.RangeFuncNested
import Derived.RangeFuncBound
import Derived.RangeFuncCalls
import Derived.RangeFuncLeaves
import Derived.Shelf.Abstract
import Derived.Shelf.RegionOpen
import Derived.OwnWalkIn
import Derived.TacticsInMore
import Derived.LoopNIn
import Derived.LoopIn
import Derived.Test.YtkflpogmhailhaaGreatDoorH1
import Derived.Test.YtkflpogmhailhaaGreatDoorA2
import Derived.Sort.LoopGhostIn
import Derived.Lib.BitFns
import Derived.Deep.Onto
import Derived.Test.YtkflpogmhailhaaGreatDoorA7
set_option linter.unusedVariables false
set_option linter.unusedSimpArgs false
namespace Go.Proofs.YtkflpogmhailhaaGreatDoor
open Go.RowKit

/-- What is said of a world abides new blocks, and turns of what is no cells from B on. -/
structure Calm (B : Nat) (I : World → Prop) : Prop where
  put : ∀ W l o o', I W → B ≤ l → W.heap[l]? = some o → o.isCells = false → o'.isCells = false → I (W.putObj l o')
  new : ∀ W o, I W → o.isCells = false → I (W.alloc o)
  cells : ∀ W c t, I W → I (W.alloc (.cells c t))
  drew : ∀ W, I W → I W.drew

theorem Calm.mono {B B' : Nat} {I : World → Prop} (h : Calm B I) (hb : B ≤ B') : Calm B' I := ⟨fun W l o o' a b => h.put W l o o' a (Nat.le_trans hb b), h.new, h.cells, h.drew⟩
theorem Calm.and {B : Nat} {I J : World → Prop} (h : Calm B I) (k : Calm B J) : Calm B (fun W => I W ∧ J W) :=
  ⟨fun W l o o' a b c d e => ⟨h.put W l o o' a.1 b c d e, k.put W l o o' a.2 b c d e⟩, fun W o a b => ⟨h.new W o a.1 b, k.new W o a.2 b⟩, fun W c t a => ⟨h.cells W c t a.1, k.cells W c t a.2⟩, fun W a => ⟨h.drew W a.1, k.drew W a.2⟩⟩

theorem Gr.allocO {W w : World} (h : Gr W w) (o : Obj) (ho : o.isCells = false) : Gr W (w.alloc o) := by
  refine ⟨⟨World.keptBut_trans h.grown.1 (World.keptBut_alloc _ _ _), fun a => ?_, Nat.le_trans h.grown.2.2 (by simp)⟩, h.below.alloc h.below.size o⟩
  rw [← h.grown.2.1 a]
  by_cases e : a.block = w.heap.size
  · have e1 : (w.alloc o).heap[a.block]? = some o := by rw [e]; exact (MapKept.heap_alloc w _).1
    have e2 : w.heap[a.block]? = none := by rw [e]; simp
    unfold World.frozen?
    rw [e1, e2]
    cases o <;> first | rfl | (simp [Obj.isCells] at ho)
  · exact World.frozen?_alloc_old _ _ _ e

/-- A block of the heap that is no cells, as the law holds it. -/
theorem calm_block (B l : Nat) (o : Obj) (hl : l < B) : Calm B (fun W => W.heap[l]? = some o) :=
  ⟨fun W k o1 o2 h hk hb _ _ => (World.putObj_heap_other (by omega)).trans h,
   fun W o1 h _ => (Below.heap_alloc W o1 l (Array.getElem?_eq_some_iff.1 h).1).trans h,
   fun W c t h => (Below.heap_alloc W _ l (Array.getElem?_eq_some_iff.1 h).1).trans h,
   fun W h => h⟩

theorem cell_any_alloc {W : World} {p : Addr} {v : Value} (o : Obj) (h : W.cell? p = some v) : (W.alloc o).cell? p = some v := by
  obtain ⟨q, hq, hc⟩ := cells_of_cell h
  unfold World.cell? at h ⊢
  rw [Below.heap_alloc W o _ (Array.getElem?_eq_some_iff.1 hq).1]
  exact h
theorem calm_cell (B : Nat) (p : Addr) (v : Value) : Calm B (fun W => W.cell? p = some v) :=
  ⟨fun W l o o' h _ hl ho _ => by
      have := cells_of_cell h
      obtain ⟨q, hq, hc⟩ := this
      have hne : p.block ≠ l := by intro e; rw [e, hl] at hq; cases hq; rw [ho] at hc; cases hc
      unfold World.cell? at h ⊢
      rw [World.putObj_heap_other (by omega)]; exact h,
   fun W o h _ => cell_any_alloc o h, fun W c t h => cell_any_alloc _ h, fun W h => h⟩

/-- An iterator that hands out N values (and has more), for every body that is done with it then. -/
def Hands (F : Fence) (n : Nat) (P : Program) (g : Nat) (lb : Array Value) (n₀ N : Nat) (encs : Nat → Array Value) (w : World) : Prop :=
  ∀ (l : Nat) (J : Nat → World → Prop) (Jx : World → Prop) (W : World), Below n₀ w W → (∀ i, Calm W.heap.size (J i)) →
    (∀ i W1, i < N → J i W1 → YieldAt F (n - 1) P l (encs i) W1 fun e W' => (i + 1 < N ∧ e = .returned (.bool true) ∧ J (i + 1) W' ∧ Below n₀ W1 W') ∨ (i + 1 = N ∧ e = .returned (.bool false) ∧ Jx W')) →
    J 0 W → CallsIn F n P g (#[.func (.yield l) #[] #[]] ++ lb) W fun e W' => (∃ v, e = .returned v) ∧ Jx W'

/-- How the body of round i may be left: off its end, or, in the last one, by the break. -/
def upPost (n₀ N id : Nat) (I : Nat → World → Prop) (Ix : World → Prop) (i : Nat) (W : World) : Exit → Act → World → Prop
  | .normal, _, W' => i + 1 < N ∧ KeepsOthers W W' ∧ Below n₀ W W' ∧ I (i + 1) W'
  | .exit d, _, W' => i + 1 = N ∧ d = id ∧ KeepsOthers W W' ∧ Ix W'
  | .ret, _, _ => False
  | .goto _, _, _ => False
  | .panic _, _, _ => False
  | .outgrown, _, _ => False

theorem wpIn_range_upto {F : Fence} {n : Nat} {P : Program} {g : Operand} {ps : Array Tmp} {assign body : Code} {Q : Exit → Act → World → Prop} {a : Act} {w : World}
    (hro : F.round = none) (h1 : 1 ≤ n) {gf : Nat} {lb : Array Value} (hg : a.eval g = .func (.func gf) #[] lb) (hFg : F.fn gf) (eg : ∀ args w, (callFunc gf args).run P w = .ok (.enter gf args) w)
    {n₀ N : Nat} {encs : Nat → Array Value} {w0 : World} (hseq : Hands F (n - 1) P gf lb n₀ N encs w0) (hn₀ : n₀ ≤ w.heap.size) (hb0 : Below n₀ w0 w) (hps : ∀ i, (encs i).size = ps.size)
    (id : Nat) (I : Nat → World → Prop) (Ix : World → Prop) (hI : ∀ i, Calm w.heap.size (I i)) (hIx : Calm w.heap.size Ix) (h0 : I 0 w) (a₁ : Nat → Act)
    (hassign : ∀ (l i : Nat) (W : World) (K : Act → World → Prop), K (a₁ i) W →
      assign.wpIn (F.inRound l) (n - 1 - 1) P (Exit.then K (fun _ _ _ => False)) { tmps := (ps.zip (encs i)).foldl (fun t (p, v) => t.setIfInBounds p v) a.tmps, defers := [] } W)
    (hbody : ∀ (l i : Nat) (W : World), i < N → I i W → body.wpIn (F.inRound l) (n - 1 - 1) P (upPost n₀ N id I Ix i W) (a₁ i) W)
    (hstop : ∀ (D : Nat) (W : World), w.heap.size ≤ D → Ix W → W.heap[D]? = some (.deferred (some [])) → (Code.exit id).wpIn F n P Q { a with defers := { target := .collected D, args := #[] } :: a.defers } W) :
    (Code.rangeFunc g ps assign body).wpIn F n P Q a w := by
  refine wpIn_rangeFunc (fun fn hfn => ?_)
  rw [hro]
  obtain ⟨rc, hrc⟩ : ∃ rc : LoopState → Option Code → Loop, rc = fun st pe => { state := st, pending := pe, fn, tmps := a.tmps, params := ps, assign, body, defers := w.heap.size } := ⟨_, rfl⟩
  obtain ⟨w1, hw1⟩ : ∃ w1, w1 = (w.alloc (.deferred (some []))).alloc (.loop (rc .ready none)) := ⟨_, rfl⟩
  have hs1 : w1.heap.size = w.heap.size + 1 + 1 := by rw [hw1]; simp
  have hL : w1.heap[w.heap.size + 1]? = some (.loop (rc .ready none)) := by
    rw [hw1]; have := World.alloc_heap_new (w.alloc (.deferred (some []))) (.loop (rc .ready none)); rwa [World.size_alloc] at this
  have hD : w1.heap[w.heap.size]? = some (.deferred (some [])) := by rw [hw1]; exact (Below.heap_alloc _ _ _ (by simp)).trans (World.alloc_heap_new w _)
  have hI1 : I 0 w1 := by rw [hw1]; exact (hI 0).new _ _ ((hI 0).new _ _ h0 rfl) rfl
  have hB1 : Below n₀ w0 w1 := by
    rw [hw1]; exact hb0.trans (((Below.refl n₀ w).alloc hn₀ _).alloc (by simp; omega) _)
  refine ⟨w.heap.size + 1, [{ target := .collected w.heap.size, args := #[] }], w1, { target := .fn (.func gf) lb, args := #[.func (.yield (w.heap.size + 1)) #[] #[]] }, w1, gf,
    #[.func (.yield (w.heap.size + 1)) #[] #[]] ++ lb, w1, ?_, ?_, ?_, ?_, fun _ => h1, ?_⟩
  · rw [hw1, hrc]; exact run_enterLoop_outer _ _ _ _ _
  · simp only [resolve, hg]
    simp [go_sem]
  · intro f' hf'; simp [Target.leads] at hf'; subst hf'; exact hFg
  · simp [invoke, go_sem, eg]
  refine (hseq (w.heap.size + 1) (fun i W => I i W ∧ W.heap[w.heap.size + 1]? = some (.loop (rc .ready none)) ∧ W.heap[w.heap.size]? = some (.deferred (some [])))
    (fun W => Ix W ∧ W.heap[w.heap.size + 1]? = some (.loop (rc .done (some (.exit id)))) ∧ W.heap[w.heap.size]? = some (.deferred (some []))) w1 hB1
    (fun i => ((hI i).mono (by omega)).and ((calm_block _ _ _ (by omega)).and (calm_block _ _ _ (by omega)))) ?_ ⟨hI1, hL, hD⟩).mono ?_
  · rintro i W hi ⟨hIi, hl, hd⟩
    have hy := run_yield (P := P) (args := encs i) hl (by rw [hrc]; exact hps i)
    rw [hrc] at hy
    refine ⟨fn, _, assign, body, hy, roundIn_of_wpIn hfn (hassign _ i W _ ⟨_, run_beginRound hl (by rw [hrc]), ?_⟩)⟩
    obtain ⟨V, hV⟩ : ∃ V, V = W.putObj (w.heap.size + 1) (.loop { rc .ready none with state := .busy }) := ⟨_, rfl⟩
    have hlt := (Array.getElem?_eq_some_iff.1 hl).1
    have hl2 : V.heap[w.heap.size + 1]? = some (.loop { rc .ready none with state := .busy }) := by rw [hV]; exact World.putObj_heap_same hlt
    have hd2 : V.heap[w.heap.size]? = some (.deferred (some [])) := by rw [hV]; exact (World.putObj_heap_other (by omega)).trans hd
    have hBV : Below n₀ W V := by rw [hV]; exact belowK_b hn₀ _ _ _ _ (by omega) hl rfl rfl
    have hIV : I i V := by rw [hV]; exact (hI i).put _ _ _ _ hIi (by omega) hl rfl rfl
    rw [← hV]
    refine wpIn_mono (hbody _ i V hi hIV) ?_
    have fin : ∀ (j : Option Code) (X : World), KeepsOthers V X → X.heap[w.heap.size + 1]? = some (.loop { rc .ready none with state := .busy }) ∧
        (Instr.endRound (w.heap.size + 1) j).run P X = .ok (.bool j.isNone) (X.putObj (w.heap.size + 1) (.loop (rc (if j.isNone then .ready else .done) j))) ∧
        (X.putObj (w.heap.size + 1) (.loop (rc (if j.isNone then .ready else .done) j))).heap[w.heap.size + 1]? = some (.loop (rc (if j.isNone then .ready else .done) j)) ∧
        (X.putObj (w.heap.size + 1) (.loop (rc (if j.isNone then .ready else .done) j))).heap[w.heap.size]? = some (.deferred (some [])) := fun j X hk => by
      have hl3 := hk.same _ _ hl2 rfl
      have he := run_endRound (P := P) j hl3
      have hd3 := hk.same _ _ hd2 rfl
      refine ⟨hl3, ?_, World.putObj_heap_same (Array.getElem?_eq_some_iff.1 hl3).1, (World.putObj_heap_other (by omega)).trans hd3⟩
      rw [hrc] at he ⊢
      exact he
    intro e a3 X hp
    cases e with
    | normal =>
      obtain ⟨hlt2, hk, hb, hi2⟩ := hp
      obtain ⟨hl3, hr, hl4, hd4⟩ := fin none X hk
      exact ⟨_, _, hr, .inl ⟨hlt2, rfl, ⟨(hI _).put _ _ _ _ hi2 (by omega) hl3 rfl rfl, hl4, hd4⟩, (hBV.trans hb).trans (belowK_b hn₀ _ _ _ _ (by omega) hl3 rfl rfl)⟩⟩
    | exit d =>
      obtain ⟨he, rfl, hk, hx⟩ := hp
      obtain ⟨hl3, hr, hl4, hd4⟩ := fin (some (.exit d)) X hk
      exact ⟨_, _, hr, .inr ⟨he, rfl, hIx.put _ _ _ _ hx (by omega) hl3 rfl rfl, hl4, hd4⟩⟩
    | ret => exact hp.elim
    | goto t => exact hp.elim
    | panic ch => exact hp.elim
    | outgrown => exact hp.elim
  · rintro e X ⟨⟨v, rfl⟩, hx, hl, hd⟩
    have he := run_endLoop (P := P) hl (by rw [hrc]; simp)
    rw [show (rc LoopState.done (some (Code.exit id))).pending = some (Code.exit id) by rw [hrc]] at he
    exact ⟨some (.exit id), _, he, hstop _ _ (Nat.le_refl _) (hIx.put _ _ _ _ hx (by omega) hl rfl rfl) ((World.putObj_heap_other (by omega)).trans hd)⟩
end Go.Proofs.YtkflpogmhailhaaGreatDoor

/- impl's digits: the iterator hands them out, one after the other. -/
set_option linter.unusedVariables false
set_option linter.unusedSimpArgs false
namespace Go.Proofs.YtkflpogmhailhaaGreatDoor
open Go.RowKit Go.Shelf
attribute [local go_sem] Oper.semAt_some

theorem or_nat (a b : Nat) (ha : a < 18446744073709551616) (hb : b < 18446744073709551616) : bits .or .u64 (a : Int) (b : Int) = ((a ||| b : Nat) : Int) ∧ a ||| b < 18446744073709551616 := by
  have h : a ||| b < 2 ^ 64 := Nat.or_lt_two_pow (by simpa using ha) (by simpa using hb)
  exact ⟨u64_or_nat a b ha hb, by simpa using h⟩

theorem dS_lt (c : Nat → Nat → Nat) (N k : Nat) (hN : N < 18446744073709551616) : (dS c N k).1 < 18446744073709551616 ∧ (dS c N k).2 < 18446744073709551616 := by
  induction k with
  | zero => rw [dS]; exact ⟨by dsimp only; omega, hN⟩
  | succ k ih =>
    have hw : dW k < 18446744073709551616 := by unfold dW; exact Nat.lt_of_le_of_lt (Nat.div_le_self _ _) (by decide)
    rw [dS]
    split
    · exact ⟨(or_nat _ _ ih.1 hw).2, Nat.mod_lt _ (by decide)⟩
    · exact ⟨ih.1, Nat.mod_lt _ (by decide)⟩

theorem quoCost (B D : Nat) (b v : Int) {w : World} (h : w.cell? ⟨B, 0, none⟩ = some (.int .u64 (D : Int))) :
    Calls Tryz.prog 123 #[.int .u64 b, .int .u64 v, .pointer (some ⟨B, 0, none⟩)] w fun e w' => e = .returned (.int .u64 (D : Int)) ∧ w' = w := by
  go_enter Tryz.func123, Tryz.ntmps123
  go_wp2
  go_returns
  exact ⟨rfl, rfl⟩

theorem rootCost (b v : Nat) (w : World) :
    Calls Tryz.prog 146 #[.int .u64 (b : Int), .int .u64 (v : Int)] w fun e w' => e = .returned (.int .u64 ((rootC b v : Nat) : Int)) ∧ w' = w := by
  have e1 : ((rootC b v : Nat) : Int) = IntKind.u64.wrap (IntKind.u64.wrap (2 * (b : Int)) + (v : Int)) := by rw [IntKind.wrap_u64, IntKind.wrap_u64]; unfold rootC; omega
  go_enter Tryz.func146, Tryz.ntmps146
  go_wp2
  go_returns
  exact ⟨by rw [e1]; rfl, rfl⟩

set_option maxRecDepth 100000 in
theorem quo_hands (n N Nn D n₀ B1 B2 B3 : Nat) (hNn : Nn < 18446744073709551616) (hD : D < 18446744073709551616) (hN : 1 ≤ N) (b1 : B1 < n₀) (b2 : B2 < n₀) (b3 : B3 < n₀) {w : World} (h1 : w.cell? ⟨B1, 0, none⟩ = some (.int .u64 (Nn : Int)))
    (h2 : w.cell? ⟨B2, 0, none⟩ = some (.func (.func 123) #[] #[.pointer (some ⟨B3, 0, none⟩)])) (h3 : w.cell? ⟨B3, 0, none⟩ = some (.int .u64 (D : Int))) :
    Hands Fence.wide n Tryz.prog 147 #[.pointer (some ⟨B1, 0, none⟩), .pointer (some ⟨B2, 0, none⟩)] n₀ N (fun i => #[.int .u64 ((dD (fun _ _ => D) Nn i : Nat) : Int), .int .u64 ((dR (fun _ _ => D) Nn i : Nat) : Int)]) w := by
  intro l J Jx W hW hJ hY h0
  have c1 : W.cell? ⟨B1, 0, none⟩ = some (.int .u64 (Nn : Int)) := (hW.cell (p := ⟨B1, 0, none⟩) b1).trans h1
  refine callsIn_of_wp Tryz.func147 rfl trivial ?_ rfl
  simp only [Tryz.ntmps147, List.size_toArray, List.length_cons, List.length_nil, Nat.reduceAdd, Nat.reduceSub, Array.replicate_succ, Array.replicate_zero, List.push_toArray, List.append_toArray, List.nil_append, List.cons_append]
  gi_wp2
  gi_loopg [4, 5, 6] N (fun m b lf v wr => ∃ k : Nat, k < N ∧ m = N - k ∧ b = .int .u64 ((dS (fun _ _ => D) Nn k).1 : Int) ∧ lf = .int .u64 ((dS (fun _ _ => D) Nn k).2 : Int) ∧ v = .int .u64 (dW k : Int) ∧ J k wr ∧ Below n₀ w wr)
  case atStart => exact ⟨0, by omega, rfl, by rw [dS]; rfl, by rw [dS], by unfold dW; rfl, h0, hW⟩
  case round =>
    obtain ⟨k, hk, rfl, rfl, rfl, rfl, hJk, hB⟩ := hrel
    have c2 : wr.cell? ⟨B2, 0, none⟩ = some (.func (.func 123) #[] #[.pointer (some ⟨B3, 0, none⟩)]) := (hB.cell (p := ⟨B2, 0, none⟩) b2).trans h2
    have c3 : wr.cell? ⟨B3, 0, none⟩ = some (.int .u64 (D : Int)) := (hB.cell (p := ⟨B3, 0, none⟩) b3).trans h3
    obtain ⟨fn, tmps, assign, body, hy, hR⟩ := hY k wr hk hJk
    obtain ⟨s1, s2⟩ := dS_lt (fun _ _ => D) Nn k hNn
    have hs1 : dS (fun _ _ => D) Nn (k + 1) = if D ≤ (dS (fun _ _ => D) Nn k).2 then ((dS (fun _ _ => D) Nn k).1 ||| dW k, ((dS (fun _ _ => D) Nn k).2 - D) * 2 % 18446744073709551616) else ((dS (fun _ _ => D) Nn k).1, (dS (fun _ _ => D) Nn k).2 * 2 % 18446744073709551616) := by rw [dS]
    have hd : dD (fun _ _ => D) Nn k = if D ≤ (dS (fun _ _ => D) Nn k).2 then 1 else 0 := rfl
    have hr : dR (fun _ _ => D) Nn k = if D ≤ (dS (fun _ _ => D) Nn k).2 then (dS (fun _ _ => D) Nn k).2 - D else (dS (fun _ _ => D) Nn k).2 := rfl
    have hw1 : dW k < 18446744073709551616 := by unfold dW; exact Nat.lt_of_le_of_lt (Nat.div_le_self _ _) (by decide)
    have hw2 : dW (k + 1) = dW k / 2 := by unfold dW; rw [Nat.pow_succ, Nat.div_div_eq_div_mul]
    obtain ⟨S1, hS1⟩ : ∃ x, x = dS (fun _ _ => D) Nn (k + 1) := ⟨_, rfl⟩
    obtain ⟨V1, hV1⟩ : ∃ x, x = dW (k + 1) := ⟨_, rfl⟩
    rw [← hS1] at hs1
    rw [← hV1] at hw2
    have HN : Hid (S1 = dS (fun _ _ => D) Nn (k + 1) ∧ V1 = dW (k + 1)) := ⟨hS1, hV1⟩
    have HV : Hid (V1 = dW k / 2) := hw2
    clear hS1 hV1 hw2
    generalize dS (fun _ _ => D) Nn k = st at *
    obtain ⟨b, L⟩ := st
    dsimp only at *
    generalize dW k = v at *
    generalize dD (fun _ _ => D) Nn k = dd at *
    generalize dR (fun _ _ => D) Nn k = rr at *
    have HC : Hid (∀ w, w.cell? ⟨B3, 0, none⟩ = some (.int .u64 (D : Int)) → Calls Tryz.prog 123 #[.int .u64 (b : Int), .int .u64 (v : Int), .pointer (some ⟨B3, 0, none⟩)] w fun e w' => e = .returned (.int .u64 (D : Int)) ∧ w' = w) := fun w h => quoCost B3 D _ _ h
    by_cases hle : D ≤ L
    · rw [if_pos hle] at hs1 hd hr
      subst hd
      have hle' : (D : Int) ≤ (L : Int) := by omega
      obtain ⟨o1, o2⟩ := or_nat b v s1 hw1
      generalize b ||| v = bv at *
      rw [show ((1 : Nat) : Int) = 1 from rfl] at hy
      have g1 : (L : Int) - (D : Int) = (rr : Int) := by omega
      have HR2 : Hid (S1 = (bv, rr * 2 % 18446744073709551616)) := by show _ = _; rw [hs1, hr]
      have hrr : rr < 18446744073709551616 := by omega
      clear hr hs1
      gi_wp2_with (refine ⟨trivial, fun h => (by cases h), ?_⟩; refine (callsIn_wide.2 (HC.out _ c3)).mono ?_; rintro e wq ⟨rfl, hwq⟩; subst hwq)
      refine ⟨fun h => (by cases h), ?_⟩
      refine hR.mono ?_
      rintro e W3 (⟨hlt, rfl, hJ3, hk3⟩ | ⟨heq, rfl, hJx3⟩)
      · gi_wp2
        gi_roundg (N - (k + 1))
        case rel =>
          obtain ⟨n1, n2⟩ := HN.out
          have hs1 := HR2.out
          have hv1 := HV.out
          refine ⟨k + 1, hlt, rfl, ?_, ?_, ?_, hJ3, hB.trans hk3⟩
          · rw [← n1, hs1]
          · rw [← n1, hs1]; dsimp only; go_num
          · rw [← n2, hv1]; go_num
        case measure => omega
      · gi_wp2
        refine bodyPost_ret (results_none rfl _ _ _) rfl ?_
        exact ⟨⟨_, rfl⟩, hJx3⟩
    · rw [if_neg hle] at hs1 hd hr
      subst hd
      have hle' : ¬ (D : Int) ≤ (L : Int) := by omega
      rw [show ((0 : Nat) : Int) = 0 from rfl] at hy
      subst hr
      have HR2 : Hid (S1 = (b, rr * 2 % 18446744073709551616)) := hs1
      clear hs1
      gi_wp2_with (refine ⟨trivial, fun h => (by cases h), ?_⟩; refine (callsIn_wide.2 (HC.out _ c3)).mono ?_; rintro e wq ⟨rfl, hwq⟩; subst hwq)
      refine ⟨fun h => (by cases h), ?_⟩
      refine hR.mono ?_
      rintro e W3 (⟨hlt, rfl, hJ3, hk3⟩ | ⟨heq, rfl, hJx3⟩)
      · gi_wp2
        gi_roundg (N - (k + 1))
        case rel =>
          obtain ⟨n1, n2⟩ := HN.out
          have hs1 := HR2.out
          have hv1 := HV.out
          refine ⟨k + 1, hlt, rfl, ?_, ?_, ?_, hJ3, hB.trans hk3⟩
          · rw [← n1, hs1]
          · rw [← n1, hs1]; dsimp only; go_num
          · rw [← n2, hv1]; go_num
        case measure => omega
      · gi_wp2
        refine bodyPost_ret (results_none rfl _ _ _) rfl ?_
        exact ⟨⟨_, rfl⟩, hJx3⟩

set_option maxRecDepth 100000 in
theorem root_hands (n N Nn n₀ B1 B2 : Nat) (hNn : Nn < 18446744073709551616) (hN : 1 ≤ N) (b1 : B1 < n₀) (b2 : B2 < n₀) {w : World} (h1 : w.cell? ⟨B1, 0, none⟩ = some (.int .u64 (Nn : Int)))
    (h2 : w.cell? ⟨B2, 0, none⟩ = some (.func (.func 146) #[] #[])) :
    Hands Fence.wide n Tryz.prog 147 #[.pointer (some ⟨B1, 0, none⟩), .pointer (some ⟨B2, 0, none⟩)] n₀ N (fun i => #[.int .u64 ((dD rootC Nn i : Nat) : Int), .int .u64 ((dR rootC Nn i : Nat) : Int)]) w := by
  intro l J Jx W hW hJ hY h0
  have c1 : W.cell? ⟨B1, 0, none⟩ = some (.int .u64 (Nn : Int)) := (hW.cell (p := ⟨B1, 0, none⟩) b1).trans h1
  refine callsIn_of_wp Tryz.func147 rfl trivial ?_ rfl
  simp only [Tryz.ntmps147, List.size_toArray, List.length_cons, List.length_nil, Nat.reduceAdd, Nat.reduceSub, Array.replicate_succ, Array.replicate_zero, List.push_toArray, List.append_toArray, List.nil_append, List.cons_append]
  gi_wp2
  gi_loopg [4, 5, 6] N (fun m b lf v wr => ∃ k : Nat, k < N ∧ m = N - k ∧ b = .int .u64 ((dS rootC Nn k).1 : Int) ∧ lf = .int .u64 ((dS rootC Nn k).2 : Int) ∧ v = .int .u64 (dW k : Int) ∧ J k wr ∧ Below n₀ w wr)
  case atStart => exact ⟨0, by omega, rfl, by rw [dS]; rfl, by rw [dS], by unfold dW; rfl, h0, hW⟩
  case round =>
    obtain ⟨k, hk, rfl, rfl, rfl, rfl, hJk, hB⟩ := hrel
    have c2 : wr.cell? ⟨B2, 0, none⟩ = some (.func (.func 146) #[] #[]) := (hB.cell (p := ⟨B2, 0, none⟩) b2).trans h2
    obtain ⟨fn, tmps, assign, body, hy, hR⟩ := hY k wr hk hJk
    obtain ⟨s1, s2⟩ := dS_lt rootC Nn k hNn
    have hs1 : dS rootC Nn (k + 1) = if rootC (dS rootC Nn k).1 (dW k) ≤ (dS rootC Nn k).2 then ((dS rootC Nn k).1 ||| dW k, ((dS rootC Nn k).2 - rootC (dS rootC Nn k).1 (dW k)) * 2 % 18446744073709551616) else ((dS rootC Nn k).1, (dS rootC Nn k).2 * 2 % 18446744073709551616) := by rw [dS]
    have hd : dD rootC Nn k = if rootC (dS rootC Nn k).1 (dW k) ≤ (dS rootC Nn k).2 then 1 else 0 := rfl
    have hr : dR rootC Nn k = if rootC (dS rootC Nn k).1 (dW k) ≤ (dS rootC Nn k).2 then (dS rootC Nn k).2 - rootC (dS rootC Nn k).1 (dW k) else (dS rootC Nn k).2 := rfl
    have hw1 : dW k < 18446744073709551616 := by unfold dW; exact Nat.lt_of_le_of_lt (Nat.div_le_self _ _) (by decide)
    have hw2 : dW (k + 1) = dW k / 2 := by unfold dW; rw [Nat.pow_succ, Nat.div_div_eq_div_mul]
    obtain ⟨S1, hS1⟩ : ∃ x, x = dS rootC Nn (k + 1) := ⟨_, rfl⟩
    obtain ⟨V1, hV1⟩ : ∃ x, x = dW (k + 1) := ⟨_, rfl⟩
    rw [← hS1] at hs1
    rw [← hV1] at hw2
    have HN : Hid (S1 = dS rootC Nn (k + 1) ∧ V1 = dW (k + 1)) := ⟨hS1, hV1⟩
    have HV : Hid (V1 = dW k / 2) := hw2
    clear hS1 hV1 hw2
    generalize dS rootC Nn k = st at *
    obtain ⟨b, L⟩ := st
    dsimp only at *
    generalize dW k = v at *
    generalize dD rootC Nn k = dd at *
    generalize dR rootC Nn k = rr at *
    have HC : Hid (∀ w, Calls Tryz.prog 146 #[.int .u64 (b : Int), .int .u64 (v : Int)] w fun e w' => e = .returned (.int .u64 ((rootC b v : Nat) : Int)) ∧ w' = w) := fun w => rootCost b v w
    have hD : rootC b v < 18446744073709551616 := by unfold rootC; exact Nat.mod_lt _ (by decide)
    generalize rootC b v = D at *
    by_cases hle : D ≤ L
    · rw [if_pos hle] at hs1 hd hr
      subst hd
      have hle' : (D : Int) ≤ (L : Int) := by omega
      obtain ⟨o1, o2⟩ := or_nat b v s1 hw1
      generalize b ||| v = bv at *
      rw [show ((1 : Nat) : Int) = 1 from rfl] at hy
      have g1 : (L : Int) - (D : Int) = (rr : Int) := by omega
      have HR2 : Hid (S1 = (bv, rr * 2 % 18446744073709551616)) := by show _ = _; rw [hs1, hr]
      have hrr : rr < 18446744073709551616 := by omega
      clear hr hs1
      gi_wp2_with (refine ⟨trivial, fun h => (by cases h), ?_⟩; refine (callsIn_wide.2 (HC.out _)).mono ?_; rintro e wq ⟨rfl, hwq⟩; subst hwq)
      refine ⟨fun h => (by cases h), ?_⟩
      refine hR.mono ?_
      rintro e W3 (⟨hlt, rfl, hJ3, hk3⟩ | ⟨heq, rfl, hJx3⟩)
      · gi_wp2
        gi_roundg (N - (k + 1))
        case rel =>
          obtain ⟨n1, n2⟩ := HN.out
          have hs1 := HR2.out
          have hv1 := HV.out
          refine ⟨k + 1, hlt, rfl, ?_, ?_, ?_, hJ3, hB.trans hk3⟩
          · rw [← n1, hs1]
          · rw [← n1, hs1]; dsimp only; go_num
          · rw [← n2, hv1]; go_num
        case measure => omega
      · gi_wp2
        refine bodyPost_ret (results_none rfl _ _ _) rfl ?_
        exact ⟨⟨_, rfl⟩, hJx3⟩
    · rw [if_neg hle] at hs1 hd hr
      subst hd
      have hle' : ¬ (D : Int) ≤ (L : Int) := by omega
      rw [show ((0 : Nat) : Int) = 0 from rfl] at hy
      subst hr
      have HR2 : Hid (S1 = (b, rr * 2 % 18446744073709551616)) := hs1
      clear hs1
      gi_wp2_with (refine ⟨trivial, fun h => (by cases h), ?_⟩; refine (callsIn_wide.2 (HC.out _)).mono ?_; rintro e wq ⟨rfl, hwq⟩; subst hwq)
      refine ⟨fun h => (by cases h), ?_⟩
      refine hR.mono ?_
      rintro e W3 (⟨hlt, rfl, hJ3, hk3⟩ | ⟨heq, rfl, hJx3⟩)
      · gi_wp2
        gi_roundg (N - (k + 1))
        case rel =>
          obtain ⟨n1, n2⟩ := HN.out
          have hs1 := HR2.out
          have hv1 := HV.out
          refine ⟨k + 1, hlt, rfl, ?_, ?_, ?_, hJ3, hB.trans hk3⟩
          · rw [← n1, hs1]
          · rw [← n1, hs1]; dsimp only; go_num
          · rw [← n2, hv1]; go_num
        case measure => omega
      · gi_wp2
        refine bodyPost_ret (results_none rfl _ _ _) rfl ?_
        exact ⟨⟨_, rfl⟩, hJx3⟩
end Go.Proofs.YtkflpogmhailhaaGreatDoor

/- impl's first: so many digits, what they come to, and what is left. -/
set_option linter.unusedVariables false
set_option linter.unusedSimpArgs false
namespace Go.Proofs.YtkflpogmhailhaaGreatDoor
open Go.RowKit Go.Shelf
attribute [local go_sem] Oper.semAt_some

theorem fz_put {W : World} {l : Nat} {o' : Obj} {a : Addr} (ho : o'.isCells = false) (h : W.frozen? a = false) : (W.putObj l o').frozen? a = false := by
  by_cases e : a.block = l
  · unfold World.frozen?
    by_cases hl : l < W.heap.size
    · rw [e, World.putObj_heap_same hl]
      cases o' <;> first | rfl | (simp [Obj.isCells] at ho)
    · rw [e, show (W.putObj l o').heap[l]? = none from Array.getElem?_eq_none (by simp; omega)]
  · unfold World.frozen? at h ⊢
    rw [World.putObj_heap_other (by omega)]
    exact h

theorem Gr.putObj {W w : World} (h : Gr W w) {l : Nat} {o o' : Obj} (hl : W.heap.size ≤ l) (ho : w.heap[l]? = some o) (hc : o.isCells = false) (hc' : o'.isCells = false) : Gr W (w.putObj l o') := by
  refine ⟨⟨World.keptBut.congr h.grown.1 rfl rfl (fun i hi => World.putObj_heap_other (by omega)), fun a => ?_, Nat.le_trans h.grown.2.2 (by simp)⟩, ?_⟩
  · rw [← h.grown.2.1 a]
    by_cases e : a.block = l
    · unfold World.frozen?
      rw [e, World.putObj_heap_same (Array.getElem?_eq_some_iff.1 ho).1, ho]
      cases o <;> cases o' <;> first | rfl | (simp [Obj.isCells] at hc hc')
    · unfold World.frozen?
      rw [World.putObj_heap_other (by omega)]
  · exact h.below.grown (grownBy_putObj' w l o') h.size (fun k e => by cases e; exact hl)

theorem calm_fz (B : Nat) (p : Addr) : Calm B (fun W => W.frozen? p = false) :=
  ⟨fun W l o o' h _ _ _ ho => fz_put ho h,
   fun W o h ho => by
     by_cases e : p.block = W.heap.size
     · unfold World.frozen?
       rw [show (W.alloc o).heap[p.block]? = some o by rw [e]; exact (MapKept.heap_alloc W _).1]
       cases o <;> first | rfl | (simp [Obj.isCells] at ho)
     · exact (World.frozen?_alloc_old _ _ _ e).trans h,
   fun W c t h => (frozen?_alloc_cells _ _ _ _).trans h, fun W h => h⟩

theorem calm_gr (B : Nat) (w : World) (hB : w.heap.size ≤ B) : Calm B (fun W => Gr w W) :=
  ⟨fun W l o o' h hl ho hc hc' => h.putObj (Nat.le_trans hB hl) ho hc hc', fun W o h ho => h.allocO o ho, fun W c t h => h.alloc c t, fun W h => h.drew⟩

theorem set3 {W : World} {b1 b2 b3 : Nat} {x1 x2 x3 : Value} (h1 : W.cell? ⟨b1, 0, none⟩ = some x1) (h2 : W.cell? ⟨b2, 0, none⟩ = some x2) (h3 : W.cell? ⟨b3, 0, none⟩ = some x3) (n1 : b1 ≠ b2) (n2 : b1 ≠ b3) (n3 : b2 ≠ b3) (v1 v2 v3 : Value) :
    (((W.setCell ⟨b1, 0, none⟩ v1).setCell ⟨b2, 0, none⟩ v2).setCell ⟨b3, 0, none⟩ v3).cell? ⟨b3, 0, none⟩ = some v3 ∧ (((W.setCell ⟨b1, 0, none⟩ v1).setCell ⟨b2, 0, none⟩ v2).setCell ⟨b3, 0, none⟩ v3).cell? ⟨b1, 0, none⟩ = some v1 ∧ (((W.setCell ⟨b1, 0, none⟩ v1).setCell ⟨b2, 0, none⟩ v2).setCell ⟨b3, 0, none⟩ v3).cell? ⟨b2, 0, none⟩ = some v2 := by
  have i1 : (W.cell? ⟨b1, 0, none⟩).isSome = true := by rw [h1]; rfl
  have i2 : (W.cell? ⟨b2, 0, none⟩).isSome = true := by rw [h2]; rfl
  have i3 : (W.cell? ⟨b3, 0, none⟩).isSome = true := by rw [h3]; rfl
  exact ⟨cell_setSame (has_set (has_set i3)), cell_setNew (Ne.symm n2) (cell_setNew (Ne.symm n1) (cell_setSame i1)), cell_setNew (Ne.symm n3) (cell_setSame (has_set i2))⟩

set_option maxHeartbeats 1000000 in
set_option maxRecDepth 100000 in
theorem first_of (N : Nat) (hN : 1 ≤ N) (hN2 : N ≤ 100000) (lb : Array Value) (dd rr cc : Nat → Nat) (hd : ∀ i, dd i ≤ 1) (hr : ∀ i, rr i < 18446744073709551616) (hc : ∀ i, cc i < 18446744073709551616) (h0 : cc 0 = 0) (hs : ∀ i, cc (i + 1) = cc i * 2 % 18446744073709551616 ||| dd i) {w : World}
    (HH : ∀ n w', Gr w w' → Hands Fence.wide n Tryz.prog 147 lb w.heap.size N (fun i => #[.int .u64 ((dd i : Nat) : Int), .int .u64 ((rr i : Nat) : Int)]) w') :
    Calls Tryz.prog 94 #[.func (.func 147) #[] lb, .int .i64 (N : Int)] w fun e w' => e = .returned (.tuple #[.int .u64 ((cc N : Nat) : Int), .int .u64 ((rr (N - 1) : Nat) : Int)]) ∧ Gr w w' := by
  have HSS : Hid (∀ i, cc (i + 1) = cc i * 2 % 18446744073709551616 ||| dd i) := hs
  clear hs
  refine (callsIn_wide (n := 3)).1 ?_
  refine callsIn_of_wp_marks Tryz.func94 rfl trivial ?_ rfl
  simp only [Tryz.ntmps94, List.size_toArray, List.length_cons, List.length_nil, Nat.reduceAdd, Nat.reduceSub, Array.replicate_succ, Array.replicate_zero, List.push_toArray, List.append_toArray, List.nil_append, List.cons_append]
  gi_wp2
  obtain ⟨w3, hw3⟩ : ∃ w3, w3 = ((w.alloc (.cells #[.int .i64 (N : Int)] 3)).alloc (.cells #[.int .u64 0] 23)).alloc (.cells #[.int .u64 0] 23) := ⟨_, rfl⟩
  rw [← hw3]
  have hsz : w3.heap.size = w.heap.size + 1 + 1 + 1 := by rw [hw3]; simp
  have hg3 : Gr w w3 := by rw [hw3]; exact (((Gr.refl w).alloc _ _).alloc _ _).alloc _ _
  have n0 : w3.cell? ⟨w.heap.size, 0, none⟩ = some (.int .i64 (N : Int)) := by rw [hw3]; simp [go_sem]
  have n1 : w3.frozen? ⟨w.heap.size, 0, none⟩ = false := by rw [hw3]; simp [go_sem]
  have n2 : w3.cell? ⟨w.heap.size + 1, 0, none⟩ = some (.int .u64 0) := by rw [hw3]; simp [go_sem]
  have n3 : w3.frozen? ⟨w.heap.size + 1, 0, none⟩ = false := by rw [hw3]; simp [go_sem]
  have n4 : w3.cell? ⟨w.heap.size + 1 + 1, 0, none⟩ = some (.int .u64 0) := by rw [hw3]; simp [go_sem]
  have n5 : w3.frozen? ⟨w.heap.size + 1 + 1, 0, none⟩ = false := by rw [hw3]; simp [go_sem]
  clear hw3
  refine wpIn_range_upto (n₀ := w.heap.size) (N := N) (gf := 147) (lb := lb) rfl (by omega) rfl trivial (enters_of Tryz.func147 (by kernel_rfl) rfl) (HH _ w3 hg3) (by omega) (Below.refl _ _) (fun _ => rfl) 0
    (fun i W => (W.cell? ⟨w.heap.size, 0, none⟩ = some (.int .i64 ((N - i : Nat) : Int)) ∧ W.frozen? ⟨w.heap.size, 0, none⟩ = false) ∧ (W.cell? ⟨w.heap.size + 1, 0, none⟩ = some (.int .u64 (cc i : Int)) ∧ W.frozen? ⟨w.heap.size + 1, 0, none⟩ = false) ∧ (W.cell? ⟨w.heap.size + 1 + 1, 0, none⟩ = some (.int .u64 ((if i = 0 then 0 else rr (i - 1) : Nat) : Int)) ∧ W.frozen? ⟨w.heap.size + 1 + 1, 0, none⟩ = false) ∧ Gr w W)
    (fun W => W.cell? ⟨w.heap.size + 1, 0, none⟩ = some (.int .u64 (cc N : Int)) ∧ W.cell? ⟨w.heap.size + 1 + 1, 0, none⟩ = some (.int .u64 (rr (N - 1) : Int)) ∧ Gr w W)
    (fun i => ((calm_cell _ _ _).and (calm_fz _ _)).and (((calm_cell _ _ _).and (calm_fz _ _)).and (((calm_cell _ _ _).and (calm_fz _ _)).and (calm_gr _ _ (by omega)))))
    ((calm_cell _ _ _).and ((calm_cell _ _ _).and (calm_gr _ _ (by omega))))
    ⟨⟨n0, n1⟩, ⟨by rw [h0]; exact n2, n3⟩, ⟨n4, n5⟩, hg3⟩
    (fun i => { tmps := #[.func (.func 147) #[] lb, .int .i64 (N : Int), undef, .pointer (some ⟨w.heap.size, 0, none⟩), .int .u64 0, .int .u64 0, .pointer (some ⟨w.heap.size + 1, 0, none⟩), .pointer (some ⟨w.heap.size + 1 + 1, 0, none⟩), .int .u64 (dd i : Int), .int .u64 (rr i : Int), .func (.func 147) #[] lb, .int .u64 (dd i : Int), .int .u64 (rr i : Int), undef, undef, undef, undef, undef, undef, undef, undef, undef, undef, undef], defers := [] }) ?assign ?body ?stop
  case assign =>
    intro l i W K hK
    gi_wp2
    exact hK
  case body =>
    rintro l i W hi ⟨⟨m0, m1⟩, ⟨m2, m3⟩, ⟨m4, m5⟩, mg⟩
    have hsi := HSS.out i
    obtain ⟨o1, o2⟩ := or_nat (cc i * 2 % 18446744073709551616) (dd i) (Nat.mod_lt _ (by decide)) (by have := hd i; omega)
    rw [← hsi] at o1
    have hci := hc i
    have hri := hr i
    have hdi := hd i
    have hc1 := hc (i + 1)
    have HS : Hid _ := hsi
    clear hsi o2
    have hsize := mg.size
    have hq : IntKind.u64.wrap ((cc i : Int) * 2) = ((cc i * 2 % 18446744073709551616 : Nat) : Int) := by rw [IntKind.wrap_u64]; omega
    generalize cc i * 2 % 18446744073709551616 = q at *
    have kk : ∀ v1 v2 v3, KeepsOthers W (((W.setCell ⟨w.heap.size + 1, 0, none⟩ v1).setCell ⟨w.heap.size + 1 + 1, 0, none⟩ v2).setCell ⟨w.heap.size, 0, none⟩ v3) := fun v1 v2 v3 => ((KeepsOthers.setCell _ _ _).trans (KeepsOthers.setCell _ _ _)).trans (KeepsOthers.setCell _ _ _)
    have kb : ∀ v1 v2 v3, Below w.heap.size W (((W.setCell ⟨w.heap.size + 1, 0, none⟩ v1).setCell ⟨w.heap.size + 1 + 1, 0, none⟩ v2).setCell ⟨w.heap.size, 0, none⟩ v3) := fun v1 v2 v3 => (((Below.refl _ W).setCell (p := ⟨w.heap.size + 1, 0, none⟩) (Nat.le_succ _) _).setCell (p := ⟨w.heap.size + 1 + 1, 0, none⟩) (by show _ ≤ _ + 1 + 1; omega) _).setCell (p := ⟨w.heap.size, 0, none⟩) (Nat.le_refl _) _
    have kg : ∀ v1 v2 v3, Gr w (((W.setCell ⟨w.heap.size + 1, 0, none⟩ v1).setCell ⟨w.heap.size + 1 + 1, 0, none⟩ v2).setCell ⟨w.heap.size, 0, none⟩ v3) := fun v1 v2 v3 => ((mg.setCell (a := ⟨w.heap.size + 1, 0, none⟩) (Nat.le_succ _) _).setCell (a := ⟨w.heap.size + 1 + 1, 0, none⟩) (by show _ ≤ _ + 1 + 1; omega) _).setCell (a := ⟨w.heap.size, 0, none⟩) (Nat.le_refl _) _
    have kc : ∀ v1 v2 v3, (((W.setCell ⟨w.heap.size + 1, 0, none⟩ v1).setCell ⟨w.heap.size + 1 + 1, 0, none⟩ v2).setCell ⟨w.heap.size, 0, none⟩ v3).cell? ⟨w.heap.size, 0, none⟩ = some v3 ∧ (((W.setCell ⟨w.heap.size + 1, 0, none⟩ v1).setCell ⟨w.heap.size + 1 + 1, 0, none⟩ v2).setCell ⟨w.heap.size, 0, none⟩ v3).cell? ⟨w.heap.size + 1, 0, none⟩ = some v1 ∧ (((W.setCell ⟨w.heap.size + 1, 0, none⟩ v1).setCell ⟨w.heap.size + 1 + 1, 0, none⟩ v2).setCell ⟨w.heap.size, 0, none⟩ v3).cell? ⟨w.heap.size + 1 + 1, 0, none⟩ = some v2 := fun v1 v2 v3 => set3 m2 m4 m0 (by omega) (by omega) (by omega) v1 v2 v3
    have kf : ∀ v1 v2 v3 a, W.frozen? a = false → (((W.setCell ⟨w.heap.size + 1, 0, none⟩ v1).setCell ⟨w.heap.size + 1 + 1, 0, none⟩ v2).setCell ⟨w.heap.size, 0, none⟩ v3).frozen? a = false := fun v1 v2 v3 a h => fz_set (fz_set (fz_set h))
    by_cases hlast : i + 1 < N
    · have hnl : ¬ ((N - i : Nat) : Int) - 1 ≤ 0 := by omega
      have hn1 : ((N - i : Nat) : Int) - 1 = ((N - (i + 1) : Nat) : Int) := by omega
      have hn2 : ((N - i : Nat) : Int) ≤ 100000 := by omega
      have hn3 : 0 ≤ ((N - i : Nat) : Int) := by omega
      generalize ((N - i : Nat) : Int) = ni at *
      gi_wp2
      obtain ⟨k1, k2, k3⟩ := kc (.int .u64 ((cc (i + 1) : Nat) : Int)) (.int .u64 ((rr i : Nat) : Int)) (.int .i64 ((N - (i + 1) : Nat) : Int))
      refine ⟨hlast, kk _ _ _, kb _ _ _, ⟨k1, kf _ _ _ _ m1⟩, ⟨k2, kf _ _ _ _ m3⟩, ⟨?_, kf _ _ _ _ m5⟩, kg _ _ _⟩
      rw [if_neg (show ¬ i + 1 = 0 by omega), show i + 1 - 1 = i by omega]
      exact k3
    · have hnl : ((N - i : Nat) : Int) - 1 = 0 := by omega
      have hn2 : ((N - i : Nat) : Int) = 1 := by omega
      rw [hn2] at m0
      gi_wp2
      have hiN : i + 1 = N := by omega
      obtain ⟨k1, k2, k3⟩ := kc (.int .u64 ((cc (i + 1) : Nat) : Int)) (.int .u64 ((rr i : Nat) : Int)) (.int .i64 0)
      refine ⟨hiN, rfl, kk _ _ _, ?_, ?_, kg _ _ _⟩
      · rw [← hiN]; exact k2
      · rw [show N - 1 = i by omega]; exact k3
  case stop =>
    rintro D W hD ⟨m2, m4, mg⟩ hK
    gi_wp2
    gi_region
    all_goals gi_wp2
    all_goals
      refine ⟨by simp, .inl ⟨_, _, rfl, run_takeDeferred (w := W.drew) hK, ?_⟩⟩
      exact ⟨.tuple #[.int .u64 ((cc N : Nat) : Int), .int .u64 ((rr (N - 1) : Nat) : Int)], by simp [results, Tryz.results94, go_sem], rfl, Gr.putObj mg.drew (by have := hg3.size; omega) hK rfl rfl⟩
end Go.Proofs.YtkflpogmhailhaaGreatDoor

/- impl's quotientDigits, rootDigits, first and cut. -/
set_option linter.unusedVariables false
set_option linter.unusedSimpArgs false
namespace Go.Proofs.YtkflpogmhailhaaGreatDoor
open Go.RowKit

/-- A value of type digits: those of N at the price c, in every later world. -/
def Digs (c : Nat → Nat → Nat) (N : Nat) (W : World) (v : Value) : Prop :=
  ∃ b1 b2 : Nat, v = .func (.func 147) #[] #[.pointer (some ⟨b1, 0, none⟩), .pointer (some ⟨b2, 0, none⟩)] ∧ ∀ (n K : Nat) (w' w'' : World), 1 ≤ K → Gr W w' → Gr w' w'' →
    Hands Fence.wide n Tryz.prog 147 #[.pointer (some ⟨b1, 0, none⟩), .pointer (some ⟨b2, 0, none⟩)] w'.heap.size K (fun i => #[.int .u64 ((dD c N i : Nat) : Int), .int .u64 ((dR c N i : Nat) : Int)]) w''

theorem Digs.gr {c : Nat → Nat → Nat} {N : Nat} {W W' : World} {v : Value} (h : Digs c N W v) (k : Gr W W') : Digs c N W' v := by
  obtain ⟨b1, b2, rfl, h⟩ := h
  exact ⟨b1, b2, rfl, fun n K w' w'' hK h1 h2 => h n K w' w'' hK (k.trans h1) h2⟩

theorem dR_lt (c : Nat → Nat → Nat) (N k : Nat) (hN : N < 18446744073709551616) : dR c N k < 18446744073709551616 := by
  have := (dS_lt c N k hN).2
  unfold dR; split <;> omega
theorem dC_lt (c : Nat → Nat → Nat) (N k : Nat) : dC c N k < 18446744073709551616 := by
  cases k with
  | zero => rw [dC]; decide
  | succ k => rw [dC, or_bit _ _ (dD_lt _ _ _)]; exact Nat.mod_lt _ (by decide)

theorem first_any {c : Nat → Nat → Nat} {N : Nat} (hN : N < 18446744073709551616) {w : World} {v : Value} (h : Digs c N w v) (k : Nat) (hk : 1 ≤ k) (hk2 : k ≤ 100000) :
    Calls Tryz.prog 94 #[v, .int .i64 (k : Int)] w fun e w' => e = .returned (.tuple #[.int .u64 ((dC c N k : Nat) : Int), .int .u64 ((dR c N (k - 1) : Nat) : Int)]) ∧ Gr w w' := by
  obtain ⟨b1, b2, rfl, h⟩ := h
  exact first_of k hk hk2 _ (dD c N) (dR c N) (dC c N) (dD_lt c N) (fun i => dR_lt c N i hN) (dC_lt c N) rfl (fun i => by rw [dC]) (fun n w' hg => h n k w w' hk (Gr.refl w) hg)

set_option maxRecDepth 100000 in
theorem digitsOf_any (N : Nat) (fv : Value) (hf : ∃ F lb, fv = .func (.func F) #[] lb) (w : World) :
    Calls Tryz.prog 122 #[.int .u64 (N : Int), fv] w fun e w' => ∃ b1 b2, e = .returned (.func (.func 147) #[] #[.pointer (some ⟨b1, 0, none⟩), .pointer (some ⟨b2, 0, none⟩)]) ∧ w'.cell? ⟨b1, 0, none⟩ = some (.int .u64 (N : Int)) ∧ w'.cell? ⟨b2, 0, none⟩ = some fv ∧ Gr w w' := by
  obtain ⟨F, lb, rfl⟩ := hf
  go_enter Tryz.func122, Tryz.ntmps122
  go_wp2
  go_returns
  exact ⟨_, _, rfl, kl, kl, kr⟩

set_option maxRecDepth 100000 in
theorem quoDigits_any (N D : Nat) (hN : N < 18446744073709551616) (hD : D < 18446744073709551616) (w : World) :
    Calls Tryz.prog 93 #[.int .u64 (N : Int), .int .u64 (D : Int)] w fun e w' => ∃ v, e = .returned v ∧ Digs (fun _ _ => D) N w' v ∧ Gr w w' := by
  go_enter Tryz.func93, Tryz.ntmps93
  go_wp2_with (go_at_call 122; refine (digitsOf_any N _ ⟨_, _, rfl⟩ _).mono ?_; rintro e w1 ⟨b1, b2, rfl, c1, c2, hg_w1⟩; have c3 : w1.cell? ⟨w.heap.size, 0, none⟩ = some (.int .u64 (D : Int)) := kl)
  go_returns
  refine ⟨_, rfl, ⟨b1, b2, rfl, fun n K w' w'' hK h1 h2 => ?_⟩, kr⟩
  have d1 := h1.old c1
  have d2 := h1.old c2
  have d3 := h1.old c3
  exact quo_hands n K N D w'.heap.size b1 b2 w.heap.size hN hD hK (cell_size d1) (cell_size d2) (cell_size d3) (h2.old d1) (h2.old d2) (h2.old d3)

set_option maxRecDepth 100000 in
theorem rootDigits_any (N : Nat) (hN : N < 18446744073709551616) (w : World) :
    Calls Tryz.prog 119 #[.int .u64 (N : Int)] w fun e w' => ∃ v, e = .returned v ∧ Digs rootC N w' v ∧ Gr w w' := by
  go_enter Tryz.func119, Tryz.ntmps119
  go_wp2_with (go_at_call 122; refine (digitsOf_any N _ ⟨_, _, rfl⟩ _).mono ?_; rintro e w1 ⟨b1, b2, rfl, c1, c2, hg_w1⟩)
  go_returns
  refine ⟨_, rfl, ⟨b1, b2, rfl, fun n K w' w'' hK h1 h2 => ?_⟩, kr⟩
  have d1 := h1.old c1
  have d2 := h1.old c2
  exact root_hands n K N w'.heap.size b1 b2 hN hK (cell_size d1) (cell_size d2) (h2.old d1) (h2.old d2)

set_option maxRecDepth 100000 in
set_option maxHeartbeats 1000000 in
theorem cut_any (p mn mx md : Int) (k : Nat) (s e : Int) (hp0 : 0 ≤ p) (hp1 : p ≤ 60) (e0 : -50000 ≤ e) (e1 : e ≤ 50000) {c : Nat → Nat → Nat} {N : Nat} (hN : N < 18446744073709551616) {w : World} {v : Value} (h : Digs c N w v) (P : Nat) (hP : (P : Int) = p + 3) :
    Calls Tryz.prog 116 #[.agg #[.int .i64 p, .int .i64 mn, .int .i64 mx, .int .i64 md, .func (.func k) #[] #[]], .agg #[.int .i64 s, .int .i64 e], v] w fun x w' => x = .returned (.agg #[.int .i64 s, .int .i64 (e - (p + 2)), .int .i64 1, .int .u64 0, .int .u64 (((dC c N P : Nat) : Int)), .bool (decide (dR c N (P - 1) ≠ 0)), .int .i64 0]) ∧ Gr w w' := by
  have HF : Hid (∀ w', Gr w w' → Calls Tryz.prog 94 #[v, .int .i64 (P : Int)] w' fun e w'' => e = .returned (.tuple #[.int .u64 ((dC c N P : Nat) : Int), .int .u64 ((dR c N (P - 1) : Nat) : Int)]) ∧ Gr w' w'') := fun w' hg => first_any hN (h.gr hg) P (by omega) (by omega)
  have hd := dC_lt c N P
  have hr := dR_lt c N (P - 1) hN
  obtain ⟨b1, b2, rfl, _⟩ := h
  generalize dC c N P = C at *
  generalize dR c N (P - 1) = R at *
  have g1 : p + 3 = (P : Int) := hP.symm
  have g2 : (P : Int) - 1 = p + 2 := by omega
  have g3 : (P : Int) ≤ 63 := by omega
  obtain ⟨y, hy⟩ : ∃ y : Int, e - (p + 2) = y := ⟨_, rfl⟩
  rw [hy]
  clear hP
  have hb : ((R : Int) != 0) = decide (R ≠ 0) := by by_cases q : R = 0 <;> simp [q]
  generalize decide (R ≠ 0) = st at *
  go_enter Tryz.func116, Tryz.ntmps116
  go_wp2_with (go_at_call 94; refine (HF.out _ kr).mono ?_; rintro x w1 ⟨rfl, hg_w1⟩; have at0 : w1.cell? ⟨w.heap.size + 1, 0, none⟩ = some (.int .i64 s) := hg_w1.c; have atz0 : w1.frozen? ⟨w.heap.size + 1, 0, none⟩ = false := hg_w1.z; have at1 : w1.cell? ⟨w.heap.size + 1, 1, none⟩ = some (.int .i64 e) := hg_w1.c; have atz1 : w1.frozen? ⟨w.heap.size + 1, 1, none⟩ = false := hg_w1.z; have ar0 : w1.cell? ⟨w.heap.size + 1 + 1, 0, none⟩ = some (.int .i64 0) := hg_w1.c; have arz0 : w1.frozen? ⟨w.heap.size + 1 + 1, 0, none⟩ = false := hg_w1.z; have ar1 : w1.cell? ⟨w.heap.size + 1 + 1, 1, none⟩ = some (.int .i64 0) := hg_w1.c; have arz1 : w1.frozen? ⟨w.heap.size + 1 + 1, 1, none⟩ = false := hg_w1.z; have ar2 : w1.cell? ⟨w.heap.size + 1 + 1, 2, none⟩ = some (.int .i64 0) := hg_w1.c; have arz2 : w1.frozen? ⟨w.heap.size + 1 + 1, 2, none⟩ = false := hg_w1.z; have ar3 : w1.cell? ⟨w.heap.size + 1 + 1, 3, none⟩ = some (.int .u64 0) := hg_w1.c; have arz3 : w1.frozen? ⟨w.heap.size + 1 + 1, 3, none⟩ = false := hg_w1.z; have ar4 : w1.cell? ⟨w.heap.size + 1 + 1, 4, none⟩ = some (.int .u64 0) := hg_w1.c; have arz4 : w1.frozen? ⟨w.heap.size + 1 + 1, 4, none⟩ = false := hg_w1.z; have ar5 : w1.cell? ⟨w.heap.size + 1 + 1, 5, none⟩ = some (.bool false) := hg_w1.c; have arz5 : w1.frozen? ⟨w.heap.size + 1 + 1, 5, none⟩ = false := hg_w1.z; have ar6 : w1.cell? ⟨w.heap.size + 1 + 1, 6, none⟩ = some (.int .i64 0) := hg_w1.c; have arz6 : w1.frozen? ⟨w.heap.size + 1 + 1, 6, none⟩ = false := hg_w1.z)
  refine bodyPost_ret (v := .agg #[.int .i64 s, .int .i64 y, .int .i64 1, .int .u64 0, .int .u64 ((C : Int)), .bool st, .int .i64 0]) (by simp [results, Tryz.results116, go_sem, ar0, ar1, ar2, ar3, ar4, ar5, ar6, hb]) rfl ⟨rfl, ?_⟩
  exact kr
end Go.Proofs.YtkflpogmhailhaaGreatDoor
