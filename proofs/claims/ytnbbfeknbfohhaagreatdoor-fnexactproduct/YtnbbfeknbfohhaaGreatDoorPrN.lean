import Derived.Test.YtnbbfeknbfohhaaGreatDoorJa
import Derived.Test.YtnbbfeknbfohhaaGreatDoorW6
import Derived.Test.YtnbbfeknbfohhaaGreatDoorL5d
import Derived.Test.YtnbbfeknbfohhaaGreatDoorF0
import Derived.Test.YtnbbfeknbfohhaaGreatDoorRows
import Derived.ProofKit
import Derived.LaidMore
import Derived.OpenShut
import Derived.ChangeSame
import Derived.ChangeVars
import Derived.Stop.Joined
import Derived.Deep.Strs
set_option linter.unusedVariables false
namespace Go.Proofs.YtnbbfeknbfohhaaGreatDoor
open Go.RowKit
open Classical in
noncomputable def tiW (a : Int) : Int := if h : ∃ Z fl, ToIntIs 1 0 1 a Z fl then Classical.choose h else 0
theorem tiW_eq {a Z fl : Int} (h : ToIntIs 1 0 1 a Z fl) : tiW a = Z := by
 have hex : ∃ Z fl, ToIntIs 1 0 1 a Z fl := ⟨Z, fl, h⟩
 unfold tiW; rw [dif_pos hex]; obtain ⟨fl', h'⟩ := Classical.choose_spec hex; exact (ToIntIs.one h' h).1
theorem tiW_s : TiS tiW := fun c hc w => (specToInt_ok f64 0 1 c (by decide) (by decide) hc.1 hc.2 hc.2 w).mono fun e w' ⟨Z, fl, hp, he, hg⟩ => ⟨fl, by rw [tiW_eq hp]; exact he, hg⟩
theorem tiW_i : TiI tiW := fun c hc w hw => by
 obtain ⟨x, hx⟩ := opd_ex f64 c hc.1 hc.2
 exact (implToInt_ok f64 0 1 (by decide) rfl hc.1 hc.2 hc.2 hx hw).mono fun e w' ⟨Z, fl, hp, he, hg⟩ => ⟨fl, by rw [tiW_eq (.inl ⟨_, _, _, _, _, _, x, f64, hc.2, by decide, by decide, hx, hp⟩)]; exact he, hg⟩
theorem intW_i : IntI opsW := fun n u h0 h1 hu w hw => by
 subst hu
 exact (implFromInt_ok f64 0 1 _ (by decide) rfl (Int.emod_nonneg _ (by decide)) (Int.emod_lt_of_pos _ (by decide)) w hw).mono fun e w' ⟨Z, fl, hp, he, hg⟩ => ⟨fl, by rw [show opsW.int n = Z from wInt_eq hp]; exact he, hg⟩
theorem lawProductF (k : Int) (a1 a2 : Option Addr) (n1 cap1 n2 cap2 : Nat) (f g : Nat → Int) {w : World} (hw : Fm w) (ha1 : ArgRow w .i64 a1 n1 f) (ha2 : ArgRow w .i64 a2 n2 g) (hn1 : n1 ≤ 1048576) (hn2 : n2 ≤ 1048576) :
  QB 5 #[.int .i64 k, .slice a1 n1 cap1, .slice a2 n2 cap2] w (.bool true) := lawProduct opsW_s opsW_i intW_i opsW_in tiW_s tiW_i k a1 a2 n1 cap1 n2 cap2 f g hw ha1 ha2 hn1 hn2
end Go.Proofs.YtnbbfeknbfohhaaGreatDoor
set_option maxRecDepth 1000000
namespace Go.Proofs.YtnbbfeknbfohhaaGreatDoor
open Go.ChangeShapes Go.WideShapes Go.ChangeAt Go.RowKit
abbrev laidF : List (String × DataW Unit) := [("loop.example/s01330/impl.formats", Rows.laid_loop_example_s01330_impl_formats)]
theorem ownF : ownKnob Tryz.prog.godebug = none := by kernel_rfl
theorem gF : Tryz.prog.globalNamed "loop.example/s01330/impl.formats" = some 0 := by kernel_rfl
theorem tF : (Tryz.prog.globals[0]?).map (·.type) = some 143 := by kernel_rfl
theorem cellsFs : Tryz.prog.cellsOf 143 = 6 := by kernel_rfl
theorem cellsF : Tryz.prog.cellsOf 105 = 3 := by kernel_rfl
theorem cellsI : Tryz.prog.cellsOf 3 = 1 := by kernel_rfl
theorem door_met (os : Os) (args : Array Value) : laidMetH Tryz.prog laidF ((World.doorLaid Tryz.prog 16 os).forCall (fun _ _ => 0) ⟨#[], args, []⟩).memory :=
 laidMetH_of_parts3 (fuel := 8) (laidMet_of_run' 8 (by kernel_rfl) (by kernel_rfl)) (by kernel_rfl) (by kernel_rfl)
def cells6 : Array Value := #[.int .i64 24, .int .i64 (-126), .int .i64 127, .int .i64 53, .int .i64 (-1022), .int .i64 1023]
theorem int_of_trod {H : Type} {enc : TypeId × Value → H} {P : Program} {w : World} {base : Nat} {sp : Nat → Bool} {held : Bool} {fuel : Nat} {t : TypeId} {k : IntKind} {c : Value} {y : DataW H × List MemPlace}
  (ht : P.underlying t = some (.int k)) (h : DataW.trod enc P w base sp held fuel t [c] = some y) : ∃ n, c = .int k n ∧ y = (.lit (.int k n), []) := by
 cases fuel with
 | zero => simp [DataW.trod] at h
 | succ fuel =>
  cases c <;> simp [DataW.trod, ht] at h
  rename_i k' n
  obtain ⟨⟨rfl, _⟩, rfl⟩ := h
  exact ⟨n, rfl, rfl⟩
theorem cells_of_laid {W : World} (h : laidMetH Tryz.prog laidF W) : W.var? Tryz.prog "loop.example/s01330/impl.formats" = some cells6 := by
 rw [MakeChecks.laidMetH_plain _ _ _ (by kernel_rfl)] at h
 obtain ⟨ps, ⟨g, t, cs, fuel, p, q, hg, ht, hvar, hd, _, _⟩, _⟩ := h
 obtain rfl := Option.some.inj (gF.symm.trans hg)
 obtain rfl := Option.some.inj (tF.symm.trans ht)
 rw [hvar]
 congr 1
 obtain ⟨l⟩ := cs
 obtain ⟨xs, m, _, hx, hl, hn, hel⟩ := DataW.trod_array Tryz.underlying143 hd
 rw [cellsFs] at hl
 rw [cellsF] at hel
 match l, hl with
 | [c0, c1, c2, c3, c4, c5], _ =>
  match xs, hn with
  | [x0, x1], _ =>
   have h0 := hel 0 (by decide)
   have h1 := hel 1 (by decide)
   obtain ⟨y0, y1, y2, m0, rfl, _, e0, e1, e2⟩ := Go.Deep.trod_struct3 Tryz.underlying105 (show DataW.trod _ Tryz.prog W 0 _ false m 105 [c0, c1, c2] = some x0 from h0)
   obtain ⟨y3, y4, y5, m1, rfl, _, e3, e4, e5⟩ := Go.Deep.trod_struct3 Tryz.underlying105 (show DataW.trod _ Tryz.prog W 0 _ false m 105 [c3, c4, c5] = some x1 from h1)
   dsimp only at e0 e1 e2 e3 e4 e5
   rw [cellsI] at e0 e1 e2 e3 e4 e5
   obtain ⟨n0, rfl, rfl⟩ := int_of_trod Tryz.underlying3 (show DataW.trod _ Tryz.prog W 0 _ false m0 3 [c0] = some y0 from e0)
   obtain ⟨n1, rfl, rfl⟩ := int_of_trod Tryz.underlying3 (show DataW.trod _ Tryz.prog W 0 _ false m0 3 [c1] = some y1 from e1)
   obtain ⟨n2, rfl, rfl⟩ := int_of_trod Tryz.underlying3 (show DataW.trod _ Tryz.prog W 0 _ false m0 3 [c2] = some y2 from e2)
   obtain ⟨n3, rfl, rfl⟩ := int_of_trod Tryz.underlying3 (show DataW.trod _ Tryz.prog W 0 _ false m1 3 [c3] = some y3 from e3)
   obtain ⟨n4, rfl, rfl⟩ := int_of_trod Tryz.underlying3 (show DataW.trod _ Tryz.prog W 0 _ false m1 3 [c4] = some y4 from e4)
   obtain ⟨n5, rfl, rfl⟩ := int_of_trod Tryz.underlying3 (show DataW.trod _ Tryz.prog W 0 _ false m1 3 [c5] = some y5 from e5)
   simp [Rows.laid_loop_example_s01330_impl_formats] at hx
   obtain ⟨⟨⟨rfl, rfl, rfl⟩, ⟨rfl, rfl, rfl⟩⟩, _⟩ := hx
   rfl
theorem fm_of_laid {W : World} (h : laidMetH Tryz.prog laidF W) : Fm W := by
 have hv := cells_of_laid h
 exact ⟨World.var?_cell gF hv 0, World.var?_cell gF hv 1, World.var?_cell gF hv 2, World.var?_cell gF hv 3, World.var?_cell gF hv 4, World.var?_cell gF hv 5⟩
abbrev dataF {H : Type} : DataW H := .agg [.agg [.lit (.int .i64 24), .lit (.int .i64 (-126)), .lit (.int .i64 127)], .agg [.lit (.int .i64 53), .lit (.int .i64 (-1022)), .lit (.int .i64 1023)]]
theorem reads_table {H : Type} (enc : TypeId × Value → H) (W : World) (sp : Nat → Bool) : DataW.trod enc Tryz.prog W 0 sp true 4 143 cells6.toList = some (dataF, []) := by kernel_rfl
theorem var_below {W W' : World} (hb : Gb W W') (hv : W.var? Tryz.prog "loop.example/s01330/impl.formats" = some cells6) : W'.var? Tryz.prog "loop.example/s01330/impl.formats" = some cells6 := by
 have hsz := cell_size (World.var?_cell gF hv 0)
 simp only [World.var?, gF, Option.bind_some] at hv ⊢
 rw [Below.block hb 0 hsz]
 exact hv
theorem vars_again {H : Type} (enc : TypeId × Value → H) {W W' : World} (hb : Gb W W') (hv : W.var? Tryz.prog "loop.example/s01330/impl.formats" = some cells6) (sp : Nat → Bool) :
  DataW.TrodVars enc Tryz.prog W' sp ["loop.example/s01330/impl.formats"] [dataF] (MemPlace.row ⟨0, 0, none⟩ cells6.size ++ [] ++ []) :=
 ⟨0, 143, cells6, 4, [], [], gF, tF, var_below hb hv, reads_table enc W' sp, rfl, rfl⟩
theorem vars_opened {H : Type} {enc : TypeId × Value → H} {W : World} {gs : List (DataW H)} {q : List MemPlace} (hL : laidMetH Tryz.prog laidF W) (hV : DataW.TrodVars enc Tryz.prog W (fun _ => true) ["loop.example/s01330/impl.formats"] gs q) : gs = [dataF] := by
 obtain ⟨g, t, cs, fuel, d, p', rfl, hg, ht, hvar, hd, rfl⟩ := trodVars_one hV
 obtain rfl := Option.some.inj (gF.symm.trans hg)
 obtain rfl := Option.some.inj (tF.symm.trans ht)
 obtain rfl : cs = cells6 := Option.some.inj (hvar.symm.trans (cells_of_laid hL))
 obtain ⟨rfl, rfl⟩ := DataW.Trod.unique (v := .agg cells6) ⟨fuel, hd⟩ ⟨4, reads_table enc W _⟩
 rfl
end Go.Proofs.YtnbbfeknbfohhaaGreatDoor
