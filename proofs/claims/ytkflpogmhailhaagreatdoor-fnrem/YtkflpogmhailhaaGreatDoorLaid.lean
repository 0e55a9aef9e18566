/- The table of formats: what the condition on memory gives the walks; how it reads behind them. -/
import Derived.Test.YtkflpogmhailhaaGreatDoorF2b
import Derived.Test.YtkflpogmhailhaaGreatDoorRows
import Derived.ProofKit
import Derived.LaidMore
import Derived.OpenShut
import Derived.ChangeSame
import Derived.ChangeVars
import Derived.Stop.Joined
import Derived.Deep.Strs
set_option linter.unusedVariables false
namespace Go.Proofs.YtkflpogmhailhaaGreatDoor
open Go.ChangeShapes Go.WideShapes Go.ChangeAt Go.RowKit

abbrev laidF : List (String × DataW Unit) := [("loop.example/s01330/impl.formats", Rows.laid_loop_example_s01330_impl_formats)]
theorem ownF : ownKnob Tryz.prog.godebug = none := by kernel_rfl
theorem gF : Tryz.prog.globalNamed "loop.example/s01330/impl.formats" = some 0 := by kernel_rfl
theorem tF : (Tryz.prog.globals[0]?).map (·.type) = some 101 := by kernel_rfl
theorem cellsFs : Tryz.prog.cellsOf 101 = 6 := by kernel_rfl
theorem cellsF : Tryz.prog.cellsOf 72 = 3 := by kernel_rfl
theorem cellsI : Tryz.prog.cellsOf 3 = 1 := by kernel_rfl

/-- The door's own heap meets the condition. -/
theorem door_met (os : Os) (args : Array Value) : laidMetH Tryz.prog laidF ((World.doorLaid Tryz.prog 16 os).forCall (fun _ _ => 0) ⟨#[], args, []⟩).memory :=
  laidMetH_of_parts3 (fuel := 8) (laidMet_of_run' 8 (by kernel_rfl) (by kernel_rfl)) (by kernel_rfl) (by kernel_rfl)

def cells6 : Array Value := #[.int .i64 24, .int .i64 (-126), .int .i64 127, .int .i64 53, .int .i64 (-1022), .int .i64 1023]

theorem int_of_trod {H : Type} {enc : TypeId × Value → H} {P : Program} {w : World} {base : Nat} {sp : Nat → Bool} {held : Bool} {fuel : Nat} {t : TypeId} {k : IntKind} {c : Value} {y : DataW H × List MemPlace}
    (ht : P.underlying t = some (.int k)) (h : DataW.trod enc P w base sp held fuel t [c] = some y) : ∃ n, c = .int k n ∧ y = (.lit (.int k n), []) := by
  cases fuel with
  | zero => simp [DataW.trod] at h
  | succ fuel =>
    cases c <;> simp [DataW.trod, ht] at h
    rename_i k' n
    obtain ⟨⟨rfl, _⟩, rfl⟩ := h
    exact ⟨n, rfl, rfl⟩

set_option maxRecDepth 100000 in
theorem cells_of_laid {W : World} (h : laidMetH Tryz.prog laidF W) : W.var? Tryz.prog "loop.example/s01330/impl.formats" = some cells6 := by
  rw [MakeChecks.laidMetH_plain _ _ _ (by kernel_rfl)] at h
  obtain ⟨ps, ⟨g, t, cs, fuel, p, q, hg, ht, hvar, hd, _, _⟩, _⟩ := h
  obtain rfl := Option.some.inj (gF.symm.trans hg)
  obtain rfl := Option.some.inj (tF.symm.trans ht)
  rw [hvar]
  congr 1
  obtain ⟨l⟩ := cs
  obtain ⟨xs, m, _, hx, hl, hn, hel⟩ := DataW.trod_array Tryz.underlying101 hd
  rw [cellsFs] at hl
  rw [cellsF] at hel
  match l, hl with
  | [c0, c1, c2, c3, c4, c5], _ =>
    match xs, hn with
    | [x0, x1], _ =>
      have h0 := hel 0 (by decide)
      have h1 := hel 1 (by decide)
      obtain ⟨y0, y1, y2, m0, rfl, _, e0, e1, e2⟩ := Go.Deep.trod_struct3 Tryz.underlying72 (show DataW.trod _ Tryz.prog W 0 _ false m 72 [c0, c1, c2] = some x0 from h0)
      obtain ⟨y3, y4, y5, m1, rfl, _, e3, e4, e5⟩ := Go.Deep.trod_struct3 Tryz.underlying72 (show DataW.trod _ Tryz.prog W 0 _ false m 72 [c3, c4, c5] = some x1 from h1)
      dsimp only at e0 e1 e2 e3 e4 e5
      rw [cellsI] at e0 e1 e2 e3 e4 e5
      obtain ⟨n0, rfl, rfl⟩ := int_of_trod Tryz.underlying3 (show DataW.trod _ Tryz.prog W 0 _ false m0 3 [c0] = some y0 from e0)
      obtain ⟨n1, rfl, rfl⟩ := int_of_trod Tryz.underlying3 (show DataW.trod _ Tryz.prog W 0 _ false m0 3 [c1] = some y1 from e1)
      obtain ⟨n2, rfl, rfl⟩ := int_of_trod Tryz.underlying3 (show DataW.trod _ Tryz.prog W 0 _ false m0 3 [c2] = some y2 from e2)
      obtain ⟨n3, rfl, rfl⟩ := int_of_trod Tryz.underlying3 (show DataW.trod _ Tryz.prog W 0 _ false m1 3 [c3] = some y3 from e3)
      obtain ⟨n4, rfl, rfl⟩ := int_of_trod Tryz.underlying3 (show DataW.trod _ Tryz.prog W 0 _ false m1 3 [c4] = some y4 from e4)
      obtain ⟨n5, rfl, rfl⟩ := int_of_trod Tryz.underlying3 (show DataW.trod _ Tryz.prog W 0 _ false m1 3 [c5] = some y5 from e5)
      simp [Rows.laid_loop_example_s01330_impl_formats] at hx
      obtain ⟨⟨⟨rfl, rfl, rfl⟩, ⟨rfl, rfl, rfl⟩⟩, _⟩ := hx
      rfl

theorem fm_of_laid {W : World} (h : laidMetH Tryz.prog laidF W) : Fm W := by
  have hv := cells_of_laid h
  exact ⟨World.var?_cell gF hv 0, World.var?_cell gF hv 1, World.var?_cell gF hv 2, World.var?_cell gF hv 3, World.var?_cell gF hv 4, World.var?_cell gF hv 5⟩

abbrev dataF {H : Type} : DataW H := .agg [.agg [.lit (.int .i64 24), .lit (.int .i64 (-126)), .lit (.int .i64 127)], .agg [.lit (.int .i64 53), .lit (.int .i64 (-1022)), .lit (.int .i64 1023)]]

theorem reads_table {H : Type} (enc : TypeId × Value → H) (W : World) (sp : Nat → Bool) : DataW.trod enc Tryz.prog W 0 sp true 4 101 cells6.toList = some (dataF, []) := by kernel_rfl

theorem var_below {W W' : World} (hb : Gb W W') (hv : W.var? Tryz.prog "loop.example/s01330/impl.formats" = some cells6) : W'.var? Tryz.prog "loop.example/s01330/impl.formats" = some cells6 := by
  have hsz := cell_size (World.var?_cell gF hv 0)
  simp only [World.var?, gF, Option.bind_some] at hv ⊢
  rw [Below.block hb 0 hsz]
  exact hv

/-- The variable reads behind the call as before it. -/
theorem vars_again {H : Type} (enc : TypeId × Value → H) {W W' : World} (hb : Gb W W') (hv : W.var? Tryz.prog "loop.example/s01330/impl.formats" = some cells6) (sp : Nat → Bool) :
    DataW.TrodVars enc Tryz.prog W' sp ["loop.example/s01330/impl.formats"] [dataF] (MemPlace.row ⟨0, 0, none⟩ cells6.size ++ [] ++ []) :=
  ⟨0, 101, cells6, 4, [], [], gF, tF, var_below hb hv, reads_table enc W' sp, rfl, rfl⟩

/-- What the reading of the variable gave. -/
theorem vars_opened {H : Type} {enc : TypeId × Value → H} {W : World} {gs : List (DataW H)} {q : List MemPlace} (hL : laidMetH Tryz.prog laidF W) (hV : DataW.TrodVars enc Tryz.prog W (fun _ => true) ["loop.example/s01330/impl.formats"] gs q) : gs = [dataF] := by
  obtain ⟨g, t, cs, fuel, d, p', rfl, hg, ht, hvar, hd, rfl⟩ := trodVars_one hV
  obtain rfl := Option.some.inj (gF.symm.trans hg)
  obtain rfl := Option.some.inj (tF.symm.trans ht)
  obtain rfl : cs = cells6 := Option.some.inj (hvar.symm.trans (cells_of_laid hL))
  obtain ⟨rfl, rfl⟩ := DataW.Trod.unique (v := .agg cells6) ⟨fuel, hd⟩ ⟨4, reads_table enc W _⟩
  rfl
end Go.Proofs.YtkflpogmhailhaaGreatDoor
