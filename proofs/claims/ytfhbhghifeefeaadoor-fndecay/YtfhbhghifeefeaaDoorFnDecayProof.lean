/- The frame of the proof of FnDecay; the walk: lawFnDecay. -/
import Derived.Test.YtfhbhghifeefeaaDoorFD7
import Derived.Test.YtfhbhghifeefeaaDoorT7T
import Derived.Test.YtfhbhghifeefeaaDoorT7D
import Derived.Test.YtfhbhghifeefeaaDoorCards
import Derived.Test.YtfhbhghifeefeaaDoorTie
import Derived.WalkKit
import Derived.ProofKit
import Derived.OpenShut
import Derived.Lib.SmallJoins
import Derived.LaidMore
import Derived.Stop.Joined
import Derived.SevenTiedAt
namespace Go.Proofs.YtfhbhghifeefeaaDoor.fnDecay
open Go.ChangeShapes Go.WideShapes Go.ChangeAt Go.RowKit Go.Joins
set_option linter.unusedVariables false
theorem laidOut : laidOutB Tryd.prog = true := by kernel_rfl
set_option maxRecDepth 100000 in
theorem long0 (a0 a1 : Option Addr) (l0 c0 l1 c1 : Nat) (w : World) (h0 : (1048576 : Int) < (l0 : Int)) :
    Calls Tryd.prog 5 #[.slice a0 l0 c0, .slice a1 l1 c1] w fun e w' => e = .returned (.bool true) ∧ Below w.heap.size w w' := by
  go_enter Tryd.func5, Tryd.ntmps5
  go_wp2
  go_ret
  exact ⟨rfl, Below.refl _ _⟩
set_option maxRecDepth 100000 in
theorem long1 (a0 a1 : Option Addr) (l0 c0 l1 c1 : Nat) (w : World) (h0 : ¬ (1048576 : Int) < (l0 : Int)) (h1 : (1048576 : Int) < (l1 : Int)) :
    Calls Tryd.prog 5 #[.slice a0 l0 c0, .slice a1 l1 c1] w fun e w' => e = .returned (.bool true) ∧ Below w.heap.size w w' := by
  go_enter Tryd.func5, Tryd.ntmps5
  go_wp2
  go_ret
  exact ⟨rfl, Below.refl _ _⟩
theorem codeRow {w : World} {a : Option Addr} {len cap : Nat} (hl : len ≤ 1048576)
    (h : len = 0 ∨ ∃ (x : Addr) (zs : List Int), a = some x ∧ len ≤ zs.length ∧ (∀ i, i < zs.length → w.cell? (x.add i) = some (.int .u8 (zs.getD i 0))) ∧ ∀ n ∈ zs, (Lit.int .u8 n).wf = true) : CodeRow w a len := by
  refine ⟨hl, ?_⟩
  rcases h with e | ⟨x, zs, rfl, hz, hc, hw⟩
  · exact .inl e
  · rcases (show len = 0 ∨ 0 < len by omega) with e | hp
    · exact .inl e
    · obtain ⟨b, off, rfl, hcell⟩ := ints_at hc (by omega)
      refine .inr ⟨b, off, rfl, fun i hi => ⟨zs.getD i 0, ?_, ?_, hcell i (by omega)⟩⟩
      · rw [List.getD_eq_getElem?_getD]; exact (range_u8 hw i).1
      · rw [List.getD_eq_getElem?_getD]; exact (range_u8 hw i).2
theorem walk (a0 a1 : Option Addr) (l0 c0 l1 c1 : Nat) (w : World) (v0 : Tl w) (v1 : Dc w)
    (h0 : l0 = 0 ∨ ∃ (x : Addr) (zs : List Int), a0 = some x ∧ l0 ≤ zs.length ∧ (∀ i, i < zs.length → w.cell? (x.add i) = some (.int .u8 (zs.getD i 0))) ∧ ∀ n ∈ zs, (Lit.int .u8 n).wf = true)
    (h1 : l1 = 0 ∨ ∃ (x : Addr) (zs : List Int), a1 = some x ∧ l1 ≤ zs.length ∧ (∀ i, i < zs.length → w.cell? (x.add i) = some (.int .u8 (zs.getD i 0))) ∧ ∀ n ∈ zs, (Lit.int .u8 n).wf = true)
    : Calls Tryd.prog 5 #[.slice a0 l0 c0, .slice a1 l1 c1] w fun e w' => e = .returned (.bool true) ∧ Below w.heap.size w w' := by
  rcases (show 1048576 < l0 ∨ l0 ≤ 1048576 by omega) with k0 | k0
  · exact long0 a0 a1 l0 c0 l1 c1 w (by omega)
  rcases (show 1048576 < l1 ∨ l1 ≤ 1048576 by omega) with k1 | k1
  · exact long1 a0 a1 l0 c0 l1 c1 w (by omega) (by omega)
  exact lawFnDecay a0 a1 l0 c0 l1 c1 w (codeRow (cap := c0) k0 h0) (codeRow (cap := c1) k1 h1) v0 v1
abbrev laidX : List (String × DataW Unit) := [(nameT, Rows.laid_loop_example_s01330_impl_tails), (nameD, Rows.laid_loop_example_s01330_impl_decays)]
theorem door_met (os : Os) (args : Array Value) : laidMetH Tryd.prog laidX ((World.doorLaid Tryd.prog 16 os).forCall (fun _ _ => 0) ⟨#[], args, []⟩).memory :=
  laidMetH_of_parts3 (fuel := 8) (laidMet_of_run' 8 (by kernel_rfl) (by kernel_rfl)) (by kernel_rfl) (by kernel_rfl)
def VarsX (W : World) : Prop := W.var? Tryd.prog nameT = some tailC ∧ W.var? Tryd.prog nameD = some decayC
set_option maxRecDepth 100000 in
theorem vars_of_laid {W : World} (h : laidMetH Tryd.prog laidX W) : VarsX W := by
  rw [MakeChecks.laidMetH_plain _ _ _ (by kernel_rfl)] at h
  obtain ⟨ps, hl, _⟩ := h
  obtain ⟨x0, l0⟩ := laid_cons ⟨ps, hl⟩
  obtain ⟨x1, l1⟩ := laid_cons l0
  exact ⟨varT x0, varD x1⟩
theorem vars_again {H : Type} (enc : TypeId × Value → H) {W W' : World} (hb : Below W.heap.size W W') (hv : VarsX W) (sp : Nat → Bool) :
    ∃ q, DataW.TrodVars enc Tryd.prog W' sp [nameT, nameD] [rowD tailL, rowD decayL] q := by
  obtain ⟨h0, h1⟩ := hv
  exact ⟨_, ⟨_, 32, tailC, 4, [], _, gT, tT, var_kept gT hb h0, readsT enc W' sp, ⟨_, 35, decayC, 4, [], _, gD, tD, var_kept gD hb h1, readsD enc W' sp, rfl, rfl⟩, rfl⟩⟩
theorem vars_opened {H : Type} {enc : TypeId × Value → H} {W : World} {gs : List (DataW H)} {q : List MemPlace} (hv : VarsX W) (hV : DataW.TrodVars enc Tryd.prog W (fun _ => true) [nameT, nameD] gs q) : gs = [rowD tailL, rowD decayL] := by
  obtain ⟨h0, h1⟩ := hv
  obtain ⟨d0, gs0, rfl⟩ : ∃ d l, gs = d :: l := by cases gs <;> simp [DataW.TrodVars] at hV ⊢
  obtain ⟨a0, b0, c0, f0, p0, q0, e0, k0, m0, n0, hV, _⟩ := hV
  obtain rfl := Option.some.inj (gT.symm.trans e0)
  obtain rfl := Option.some.inj (tT.symm.trans k0)
  obtain rfl : c0 = tailC := Option.some.inj (m0.symm.trans h0)
  obtain ⟨rfl, rfl⟩ := DataW.Trod.unique (v := .agg tailC) ⟨f0, n0⟩ ⟨4, readsT enc W _⟩
  obtain ⟨d1, gs1, rfl⟩ : ∃ d l, gs0 = d :: l := by cases gs0 <;> simp [DataW.TrodVars] at hV ⊢
  obtain ⟨a1, b1, c1, f1, p1, q1, e1, k1, m1, n1, hV, _⟩ := hV
  obtain rfl := Option.some.inj (gD.symm.trans e1)
  obtain rfl := Option.some.inj (tD.symm.trans k1)
  obtain rfl : c1 = decayC := Option.some.inj (m1.symm.trans h1)
  obtain ⟨rfl, rfl⟩ := DataW.Trod.unique (v := .agg decayC) ⟨f1, n1⟩ ⟨4, readsD enc W _⟩
  cases gs1 <;> simp [DataW.TrodVars] at hV ⊢

set_option maxRecDepth 100000 in
theorem lifted (os : Os) (started : os.Started) (H : Type) (enc : TypeId × Value → H) :
    ReturnsInHanded {} Tryd.checked os 5 .any (fun w args => (Rows.fnDecaySpec.pre enc Tryd.prog Tryd.f5 [] false w args ∧ laidMetH Tryd.prog laidX w) ∧ sizedMet enc Tryd.prog Tryd.f5 (OpenSpec.ofChange Rows.fnDecaySpec) false w args)
      (Rows.fnDecaySpec.post enc Tryd.prog Tryd.f5 false true false false) := by
  refine returnsInHanded_of_change_and (C := Tryd.checked) (X := fun w _ => laidMetH Tryd.prog laidX w) (fun _ _ _ hh h => h.of_heap hh) ownKn started (by kernel_rfl) Tryd.func5
    (ChangeSpec.witness_shaped (enc := enc) (C := Tryd.checked) (os := os) (X := fun w _ => laidMetH Tryd.prog laidX w) false (World.doorLaid Tryd.prog 16 os) #[.slice none 0 0, .slice none 0 0] 8 rfl (World.shaped_of_RefB (by kernel_rfl) (by kernel_rfl)) (by kernel_rfl) (by kernel_rfl) (by kernel_rfl) (door_met os _)) ?_
  intro W base args ds gs before hval0 hW _ _ hL _
  have hval : ∀ (j : Nat) t v, Tryd.f5.params[j]? = some t → args[j]? = some v → Value.okWide Tryd.prog W .any base t v := hval0
  have hW' := hW
  obtain ⟨p, q, hA0, hV0, rfl, hfz, hnd⟩ := hW
  have hA : DataW.TrodAll enc Tryd.prog W 0 (fun _ => true) true Tryd.f5.params.toList args.toList ds p := hA0
  have hV : DataW.TrodVars enc Tryd.prog W (fun _ => true) [nameT, nameD] gs q := hV0
  rw [Tryd.params5] at hA hval
  obtain ⟨v0, vs0, d0, ds0, p0, q0, hargs, rfl, rfl, h0, r0⟩ := trodAll_cons hA
  obtain ⟨v1, vs1, d1, ds1, p1, q1, rfl, rfl, rfl, h1, r1⟩ := trodAll_cons r0
  obtain ⟨rfl, rfl, rfl⟩ := trodAll_nil r1
  obtain rfl : args = #[v0, v1] := by cases args; simp_all
  have hX := vars_of_laid hL
  obtain rfl := vars_opened hX hV
  obtain ⟨a0, len0, cap0, rfl⟩ := okWide_slice Tryd.underlying26 (hval 0 26 v0 rfl rfl)
  have k0 := h0
  have lt0 : ∀ x ∈ p0, x.block < W.heap.size := by obtain ⟨m, hm⟩ := k0; exact DataW.trod_lt m _ _ _ hm
  have w0 : len0 = 0 ∨ ∃ (x : Addr) (zs : List Int), a0 = some x ∧ len0 ≤ zs.length ∧ (∀ i, i < zs.length → W.cell? (x.add i) = some (.int .u8 (zs.getD i 0))) ∧ ∀ n ∈ zs, (Lit.int .u8 n).wf = true := by
    obtain ⟨fuel, hf⟩ := h0
    rcases open_ints Tryd.underlying26 Tryd.underlying5 (by kernel_rfl) hf with ⟨hcs, _⟩ | ⟨x, l, c, zs, hcs, _, hl, hm, hz, _, hcell, hwz⟩
    · simp [Value.cells] at hcs
      obtain ⟨rfl, rfl, rfl⟩ := hcs
      exact .inl rfl
    · simp [Value.cells] at hcs
      obtain ⟨rfl, rfl, rfl⟩ := hcs
      have hz' : zs.length = cap0 := by simpa using hz
      exact .inr ⟨x, zs, rfl, by omega, hcell, hwz⟩
  obtain ⟨a1, len1, cap1, rfl⟩ := okWide_slice Tryd.underlying26 (hval 1 26 v1 rfl rfl)
  have k1 := h1
  have lt1 : ∀ x ∈ p1, x.block < W.heap.size := by obtain ⟨m, hm⟩ := k1; exact DataW.trod_lt m _ _ _ hm
  have w1 : len1 = 0 ∨ ∃ (x : Addr) (zs : List Int), a1 = some x ∧ len1 ≤ zs.length ∧ (∀ i, i < zs.length → W.cell? (x.add i) = some (.int .u8 (zs.getD i 0))) ∧ ∀ n ∈ zs, (Lit.int .u8 n).wf = true := by
    obtain ⟨fuel, hf⟩ := h1
    rcases open_ints Tryd.underlying26 Tryd.underlying5 (by kernel_rfl) hf with ⟨hcs, _⟩ | ⟨x, l, c, zs, hcs, _, hl, hm, hz, _, hcell, hwz⟩
    · simp [Value.cells] at hcs
      obtain ⟨rfl, rfl, rfl⟩ := hcs
      exact .inl rfl
    · simp [Value.cells] at hcs
      obtain ⟨rfl, rfl, rfl⟩ := hcs
      have hz' : zs.length = cap1 := by simpa using hz
      exact .inr ⟨x, zs, rfl, by omega, hcell, hwz⟩
  clear hA0 hV0 hval0
  refine (walk a0 a1 len0 cap0 len1 cap1 W (tl_of_var hX.1) (dc_of_var hX.2) w0 w1).mono fun e W' ⟨he, hgb⟩ => ?_
  subst he
  obtain ⟨_, hq⟩ := vars_again enc hgb hX (fun b => decide (b < W.heap.size))
  exact ⟨_, rfl, _, _, _, [], _, _, hW', (trodAll_cons_mk (shut_bool Tryd.underlying4 _) trodAll_mk0), (trodAll_cons_mk (Below.trod laidOut (by kernel_rfl) (of_decide_eq_true (by kernel_rfl)) k0 hgb lt0) (trodAll_cons_mk (Below.trod laidOut (by kernel_rfl) (of_decide_eq_true (by kernel_rfl)) k1 hgb lt1) trodAll_mk0)), hq, Below.frame hgb _, fun h => by cases h⟩

theorem over : Rows.fnDecayRow.holds Tryd.pinned (OpenSpec.ofChange Rows.fnDecaySpec) :=
  OpenClaim.holds_of_wide 5 Tryd.f5 rfl rfl rfl rfl rfl rfl rfl ⟨rfl, rfl, rfl, rfl, rfl⟩ rfl rfl rfl rfl rfl (by kernel_rfl) Tryd.func5 (by kernel_rfl)
    (of_decide_eq_true (by kernel_rfl)) (by unfold Func.isWrapper; first | (rw [if_pos (by decide +kernel)]; kernel_rfl) | (rw [if_neg (by decide +kernel)]; exact ⟨rfl, rfl⟩))
    (fun os started H enc _ => lifted os started H enc)
end Go.Proofs.YtfhbhghifeefeaaDoor.fnDecay

namespace Go.Proofs.YtfhbhghifeefeaaDoor
open Go
theorem FnDecay_holds : Rows.FnDecayCardSaid :=
  Claim7.holds_tied_plain_at .later [] [.data, .data] true (true, "4cdb676ebbd38de5a24044eb8bdd7ee5b24f9cdef6e8b092783701295af17ed0") false
    fnDecay.over (fun _ h => by cases h) (by kernel_rfl) (fun _ h => by cases h) fnDecay_row_tie rfl ⟨rfl, rfl⟩ (by kernel_rfl) rfl
    (fun f fn hf hfn => by
      obtain rfl : f = 5 := Option.some.inj ((show Tryd.prog.funcNamed "loop.example/s01330/laws.FnDecay" = some 5 by kernel_rfl).symm.trans hf) |>.symm
      obtain rfl : fn = Tryd.f5 := (Option.some.inj (Tryd.func5.symm.trans hfn)).symm
      exact ⟨by kernel_rfl, fun j t ht => by
        rw [Tryd.params5] at ht
        have hm : t ∈ [26, 26] := by simpa using Array.mem_of_getElem? ht
        have hall : ([26, 26].all fun u => !Tryd.prog.wantsStandIn u) = true := by kernel_rfl
        exact (show Tryd.prog.wantsStandIn t = false by simpa using List.all_eq_true.1 hall t hm)⟩)
    (by kernel_rfl)
#print axioms FnDecay_holds
end Go.Proofs.YtfhbhghifeefeaaDoor
