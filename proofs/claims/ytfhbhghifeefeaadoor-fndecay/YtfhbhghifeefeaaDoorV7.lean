/- Variables that are rows of words: what the condition on memory gives, and how they read. -/
import Derived.Test.YtfhbhghifeefeaaDoorBase
import Derived.Test.YtfhbhghifeefeaaDoorRows
import Derived.ProofKit
import Derived.LaidMore
import Derived.OpenShut
import Derived.ChangeSame
import Derived.ChangeVars
import Derived.Stop.Joined
import Derived.Deep.Strs
set_option linter.unusedVariables false
namespace Go.Proofs.YtfhbhghifeefeaaDoor
open Go.ChangeShapes Go.WideShapes Go.ChangeAt Go.RowKit

theorem ownKn : ownKnob Tryd.prog.godebug = none := by kernel_rfl
theorem cellsU : Tryd.prog.cellsOf 22 = 1 := by kernel_rfl
abbrev rowD {H : Type} (ns : List Int) : DataW H := .agg (ns.map fun n => .lit (.int .u64 n))
abbrev rowC (ns : List Int) : List Value := ns.map fun n => .int .u64 n

theorem word_of_trod {H : Type} {enc : TypeId × Value → H} {w : World} {base : Nat} {sp : Nat → Bool} {held : Bool} {fuel : Nat} {c : Value} {y : DataW H × List MemPlace}
    (h : DataW.trod enc Tryd.prog w base sp held fuel 22 [c] = some y) : ∃ n, c = .int .u64 n ∧ y = (.lit (.int .u64 n), []) := by
  cases fuel with
  | zero => simp [DataW.trod] at h
  | succ fuel =>
    cases c <;> simp [DataW.trod, Tryd.underlying22] at h
    rename_i k' n
    obtain ⟨⟨rfl, _⟩, rfl⟩ := h
    exact ⟨n, rfl, rfl⟩

theorem cells_of_row {H : Type} {enc : TypeId × Value → H} {w : World} {base : Nat} {sp : Nat → Bool} {held : Bool} {fuel : Nat} {t : TypeId} {n : Nat} {cs : List Value} {ns : List Int} {p : List MemPlace}
    (ht : Tryd.prog.underlying t = some (.array n 22)) (hT : Tryd.prog.cellsOf t = n) (h : DataW.trod enc Tryd.prog w base sp held fuel t cs = some (rowD ns, p)) : cs = rowC ns := by
  obtain ⟨xs, m, _, hx, hl, hn, hel⟩ := DataW.trod_array ht h
  rw [hT] at hl
  rw [cellsU] at hel
  simp only [Prod.mk.injEq, DataW.agg.injEq] at hx
  have hx1 := hx.1
  have hlen : ns.length = n := by have := congrArg List.length hx1; simp at this; omega
  refine List.ext_getElem (by simp [hl, hlen]) fun i hi hi' => ?_
  have hin : i < n := by omega
  have e := hel i hin
  rw [Nat.mul_one, List.drop_eq_getElem_cons hi, List.take_succ_cons, List.take_zero] at e
  have hxi : i < xs.length := by omega
  rw [List.getElem?_eq_getElem hxi] at e
  obtain ⟨k, hk, hy⟩ := word_of_trod e
  have hm : (ns.map fun n => (DataW.lit (.int .u64 n) : DataW H))[i]? = (xs.map (·.1))[i]? := by rw [hx1]
  have hni : i < ns.length := by omega
  rw [List.getElem?_map, List.getElem?_map, List.getElem?_eq_getElem hni, List.getElem?_eq_getElem hxi, hy] at hm
  simp only [Option.map_some, Option.some.injEq, DataW.lit.injEq, Lit.int.injEq, true_and] at hm
  rw [hk, ← hm, List.getElem_map]

theorem heap_of_var {W : World} {name : String} {g : Nat} {cs : Array Value} (hg : Tryd.prog.globalNamed name = some g) (hv : W.var? Tryd.prog name = some cs) : ∃ t fr, W.heap[g]? = some (.cells cs t fr) := by
  simp only [World.var?, hg, Option.bind_some] at hv
  split at hv
  · rename_i c t fr e
    obtain rfl := Option.some.inj hv
    exact ⟨t, fr, e⟩
  · cases hv

theorem var_kept {W W' : World} {name : String} {g : Nat} {cs : Array Value} (hg : Tryd.prog.globalNamed name = some g) (hb : Below W.heap.size W W') (hv : W.var? Tryd.prog name = some cs) : W'.var? Tryd.prog name = some cs := by
  obtain ⟨t, fr, h⟩ := heap_of_var hg hv
  have hs : g < W.heap.size := by
    rcases Nat.lt_or_ge g W.heap.size with k | k
    · exact k
    · simp [k] at h
  simp only [World.var?, hg, Option.bind_some]
  rw [Below.block hb g hs, h]

/-- What the condition on memory says of its first variable, and of the others. -/
theorem laid_cons {name : String} {d : DataW Unit} {rest : List (String × DataW Unit)} {W : World} (h : ∃ ps, DataW.LaidVars Tryd.prog W ((name, d) :: rest) ps) :
    (∃ g t cs fuel p sp, Tryd.prog.globalNamed name = some g ∧ (Tryd.prog.globals[g]?).map (·.type) = some t ∧ W.var? Tryd.prog name = some cs ∧ DataW.trod (fun _ => ()) Tryd.prog W 0 sp false fuel t cs.toList = some (d, p)) ∧ ∃ ps, DataW.LaidVars Tryd.prog W rest ps := by
  obtain ⟨ps, g, t, cs, fuel, p, q, hg, ht, hvar, hd, hr, _⟩ := h
  exact ⟨⟨g, t, cs, fuel, p, _, hg, ht, hvar, hd⟩, q, hr⟩

theorem var_of_laid {name : String} {ns : List Int} {n g : Nat} {t : TypeId} {W : World} (hg : Tryd.prog.globalNamed name = some g) (ht : (Tryd.prog.globals[g]?).map (·.type) = some t) (hu : Tryd.prog.underlying t = some (.array n 22)) (hT : Tryd.prog.cellsOf t = n)
    (h : ∃ g t cs fuel p sp, Tryd.prog.globalNamed name = some g ∧ (Tryd.prog.globals[g]?).map (·.type) = some t ∧ W.var? Tryd.prog name = some cs ∧ DataW.trod (fun _ => ()) Tryd.prog W 0 sp false fuel t cs.toList = some (rowD ns, p)) : W.var? Tryd.prog name = some (rowC ns).toArray := by
  obtain ⟨g', t', cs, fuel, p, sp, hg', ht', hv, hd⟩ := h
  obtain rfl := Option.some.inj (hg.symm.trans hg')
  obtain rfl := Option.some.inj (ht.symm.trans ht')
  rw [hv]
  congr 1
  obtain ⟨l⟩ := cs
  have := cells_of_row hu hT hd
  simp only at this
  rw [this]
end Go.Proofs.YtfhbhghifeefeaaDoor
