import Derived.Test.YtnbbfeknbfohhaaGreatDoorA1
import Derived.Test.YtnbbfeknbfohhaaGreatDoorRows
import Derived.ProofKit
import Derived.LaidMore
import Derived.OpenShut
import Derived.ChangeSame
import Derived.ChangeVars
import Derived.Stop.Joined
import Derived.Deep.Strs
import Derived.Test.YtnbbfeknbfohhaaGreatDoorF0
set_option linter.unusedVariables false
set_option maxRecDepth 1000000
namespace Go.Proofs.YtnbbfeknbfohhaaGreatDoor
open Go.ChangeShapes Go.WideShapes Go.ChangeAt Go.RowKit
theorem aCe : ownKnob Tryz.prog.godebug = none := by kernel_rfl
theorem aBm : Tryz.prog.cellsOf 22 = 1 := by kernel_rfl
abbrev aBW {H : Type} (ns : List Int) : DataW H := .agg (ns.map fun n => .lit (.int .u64 n))
abbrev aBX (ns : List Int) : List Value := ns.map fun n => .int .u64 n
theorem CZ {H : Type} {enc : TypeId × Value → H} {w : World} {base : Nat} {sp : Nat → Bool} {held : Bool} {fuel : Nat} {c : Value} {y : DataW H × List MemPlace}
  (h : DataW.trod enc Tryz.prog w base sp held fuel 22 [c] = some y) : ∃ n, c = .int .u64 n ∧ y = (.lit (.int .u64 n), []) := by
 cases fuel with
 | zero => simp [DataW.trod] at h
 | succ fuel =>
  cases c <;> simp [DataW.trod, Tryz.underlying22] at h
  rename_i k' n
  obtain ⟨⟨rfl, _⟩, rfl⟩ := h
  exact ⟨n, rfl, rfl⟩
theorem cells_of_row {H : Type} {enc : TypeId × Value → H} {w : World} {base : Nat} {sp : Nat → Bool} {held : Bool} {fuel : Nat} {t : TypeId} {n : Nat} {cs : List Value} {ns : List Int} {p : List MemPlace}
  (ht : Tryz.prog.underlying t = some (.array n 22)) (hT : Tryz.prog.cellsOf t = n) (h : DataW.trod enc Tryz.prog w base sp held fuel t cs = some (aBW ns, p)) : cs = aBX ns := by
 obtain ⟨xs, m, _, hx, hl, hn, hel⟩ := DataW.trod_array ht h
 rw [hT] at hl
 rw [aBm] at hel
 simp only [Prod.mk.injEq, DataW.agg.injEq] at hx
 have hx1 := hx.1
 have hlen : ns.length = n := by have := congrArg List.length hx1; simp at this; omega
 refine List.ext_getElem (by simp [hl, hlen]) fun i hi hi' => ?_
 have hin : i < n := om
 have e := hel i hin
 rw [Nat.mul_one, List.drop_eq_getElem_cons hi, List.take_succ_cons, List.take_zero] at e
 have hxi : i < xs.length := om
 rw [List.getElem?_eq_getElem hxi] at e
 obtain ⟨k, hk, hy⟩ := CZ e
 have hm : (ns.map fun n => (DataW.lit (.int .u64 n) : DataW H))[i]? = (xs.map (·.1))[i]? := by rw [hx1]
 have hni : i < ns.length := om
 rw [List.getElem?_map, List.getElem?_map, List.getElem?_eq_getElem hni, List.getElem?_eq_getElem hxi, hy] at hm
 simp only [Option.map_some, Option.some.injEq, DataW.lit.injEq, Lit.int.injEq, true_and] at hm
 rw [hk, ← hm, List.getElem_map]
theorem GK {W : World} {name : String} {g : Nat} {cs : Array Value} (hg : Tryz.prog.globalNamed name = some g) (hv : W.var? Tryz.prog name = some cs) : ∃ t fr, W.heap[g]? = some (.cells cs t fr) := by
 simp only [World.var?, hg, Option.bind_some] at hv
 split at hv
 ·rename_i c t fr e
  obtain rfl := Option.some.inj hv
  exact ⟨t, fr, e⟩
 ·cases hv
theorem Sr {W W' : World} {name : String} {g : Nat} {cs : Array Value} (hg : Tryz.prog.globalNamed name = some g) (hb : Below W.heap.size W W') (hv : W.var? Tryz.prog name = some cs) : W'.var? Tryz.prog name = some cs := by
 obtain ⟨t, fr, h⟩ := GK hg hv
 have hs : g < W.heap.size := by
  rcases Nat.lt_or_ge g W.heap.size with k | k
  ·exact k
  ·simp [k] at h
 simp only [World.var?, hg, Option.bind_some]
 rw [Below.block hb g hs, h]
theorem Qm {name : String} {d : DataW Unit} {rest : List (String × DataW Unit)} {W : World} (h : ∃ ps, DataW.LaidVars Tryz.prog W ((name, d) :: rest) ps) :
  (∃ g t cs fuel p sp, Tryz.prog.globalNamed name = some g ∧ (Tryz.prog.globals[g]?).map (·.type) = some t ∧ W.var? Tryz.prog name = some cs ∧ DataW.trod (fun _ => ()) Tryz.prog W 0 sp false fuel t cs.toList = some (d, p)) ∧ ∃ ps, DataW.LaidVars Tryz.prog W rest ps := by
 obtain ⟨ps, g, t, cs, fuel, p, q, hg, ht, hvar, hd, hr, _⟩ := h
 exact ⟨⟨g, t, cs, fuel, p, _, hg, ht, hvar, hd⟩, q, hr⟩
theorem YP {name : String} {ns : List Int} {n g : Nat} {t : TypeId} {W : World} (hg : Tryz.prog.globalNamed name = some g) (ht : (Tryz.prog.globals[g]?).map (·.type) = some t) (hu : Tryz.prog.underlying t = some (.array n 22)) (hT : Tryz.prog.cellsOf t = n)
  (h : ∃ g t cs fuel p sp, Tryz.prog.globalNamed name = some g ∧ (Tryz.prog.globals[g]?).map (·.type) = some t ∧ W.var? Tryz.prog name = some cs ∧ DataW.trod (fun _ => ()) Tryz.prog W 0 sp false fuel t cs.toList = some (aBW ns, p)) : W.var? Tryz.prog name = some (aBX ns).toArray := by
 obtain ⟨g', t', cs, fuel, p, sp, hg', ht', hv, hd⟩ := h
 obtain rfl := Option.some.inj (hg.symm.trans hg')
 obtain rfl := Option.some.inj (ht.symm.trans ht')
 rw [hv]
 congr 1
 obtain ⟨l⟩ := cs
 have := cells_of_row hu hT hd
 simp only at this
 rw [this]
open Go.ChangeShapes Go.WideShapes Go.ChangeAt Go.RowKit
abbrev qc : String := "loop.example/s01330/impl.formats"
theorem gF : Tryz.prog.globalNamed qc = some 0 := by kernel_rfl
theorem tF : (Tryz.prog.globals[0]?).map (·.type) = some 143 := by kernel_rfl
theorem Yx : Tryz.prog.cellsOf 143 = 6 := by kernel_rfl
theorem aBo : Tryz.prog.cellsOf 105 = 3 := by kernel_rfl
theorem aBn : Tryz.prog.cellsOf 3 = 1 := by kernel_rfl
def pJ : Array Value := #[.int .i64 24, .int .i64 (-126), .int .i64 127, .int .i64 53, .int .i64 (-1022), .int .i64 1023]
theorem int_of_trod {H : Type} {enc : TypeId × Value → H} {P : Program} {w : World} {base : Nat} {sp : Nat → Bool} {held : Bool} {fuel : Nat} {t : TypeId} {k : IntKind} {c : Value} {y : DataW H × List MemPlace}
  (ht : P.underlying t = some (.int k)) (h : DataW.trod enc P w base sp held fuel t [c] = some y) : ∃ n, c = .int k n ∧ y = (.lit (.int k n), []) := by
 cases fuel with
 | zero => simp [DataW.trod] at h
 | succ fuel =>
  cases c <;> simp [DataW.trod, ht] at h
  rename_i k' n
  obtain ⟨⟨rfl, _⟩, rfl⟩ := h
  exact ⟨n, rfl, rfl⟩
theorem aDa {W : World} (h : ∃ g t cs fuel p sp, Tryz.prog.globalNamed qc = some g ∧ (Tryz.prog.globals[g]?).map (·.type) = some t ∧ W.var? Tryz.prog qc = some cs ∧ DataW.trod (fun _ => ()) Tryz.prog W 0 sp false fuel t cs.toList = some (Rows.laid_loop_example_s01330_impl_formats, p)) : W.var? Tryz.prog qc = some pJ := by
 obtain ⟨g, t, cs, fuel, p, sp, hg, ht, hvar, hd⟩ := h
 obtain rfl := Option.some.inj (gF.symm.trans hg)
 obtain rfl := Option.some.inj (tF.symm.trans ht)
 rw [hvar]
 congr 1
 obtain ⟨l⟩ := cs
 obtain ⟨xs, m, _, hx, hl, hn, hel⟩ := DataW.trod_array Tryz.underlying143 hd
 rw [Yx] at hl
 rw [aBo] at hel
 match l, hl with
 | [c0, c1, c2, c3, c4, c5], _ =>
  match xs, hn with
  | [x0, x1], _ =>
   have h0 := hel 0 de
   have h1 := hel 1 de
   obtain ⟨y0, y1, y2, m0, rfl, _, e0, e1, e2⟩ := Go.Deep.trod_struct3 Tryz.underlying105 (show DataW.trod _ Tryz.prog W 0 _ false m 105 [c0, c1, c2] = some x0 from h0)
   obtain ⟨y3, y4, y5, m1, rfl, _, e3, e4, e5⟩ := Go.Deep.trod_struct3 Tryz.underlying105 (show DataW.trod _ Tryz.prog W 0 _ false m 105 [c3, c4, c5] = some x1 from h1)
   dsimp only at e0 e1 e2 e3 e4 e5
   rw [aBn] at e0 e1 e2 e3 e4 e5
   obtain ⟨n0, rfl, rfl⟩ := int_of_trod Tryz.underlying3 (show DataW.trod _ Tryz.prog W 0 _ false m0 3 [c0] = some y0 from e0)
   obtain ⟨n1, rfl, rfl⟩ := int_of_trod Tryz.underlying3 (show DataW.trod _ Tryz.prog W 0 _ false m0 3 [c1] = some y1 from e1)
   obtain ⟨n2, rfl, rfl⟩ := int_of_trod Tryz.underlying3 (show DataW.trod _ Tryz.prog W 0 _ false m0 3 [c2] = some y2 from e2)
   obtain ⟨n3, rfl, rfl⟩ := int_of_trod Tryz.underlying3 (show DataW.trod _ Tryz.prog W 0 _ false m1 3 [c3] = some y3 from e3)
   obtain ⟨n4, rfl, rfl⟩ := int_of_trod Tryz.underlying3 (show DataW.trod _ Tryz.prog W 0 _ false m1 3 [c4] = some y4 from e4)
   obtain ⟨n5, rfl, rfl⟩ := int_of_trod Tryz.underlying3 (show DataW.trod _ Tryz.prog W 0 _ false m1 3 [c5] = some y5 from e5)
   simp [Rows.laid_loop_example_s01330_impl_formats] at hx
   obtain ⟨⟨⟨rfl, rfl, rfl⟩, ⟨rfl, rfl, rfl⟩⟩, _⟩ := hx
   rfl
theorem QT {W : World} (hv : W.var? Tryz.prog qc = some pJ) : Fm W :=
 ⟨World.var?_cell gF hv 0, World.var?_cell gF hv 1, World.var?_cell gF hv 2, World.var?_cell gF hv 3, World.var?_cell gF hv 4, World.var?_cell gF hv 5⟩
abbrev VB {H : Type} : DataW H := .agg [.agg [.lit (.int .i64 24), .lit (.int .i64 (-126)), .lit (.int .i64 127)], .agg [.lit (.int .i64 53), .lit (.int .i64 (-1022)), .lit (.int .i64 1023)]]
theorem reads_table {H : Type} (enc : TypeId × Value → H) (W : World) (sp : Nat → Bool) : DataW.trod enc Tryz.prog W 0 sp true 4 143 pJ.toList = some (VB, []) := by kernel_rfl
