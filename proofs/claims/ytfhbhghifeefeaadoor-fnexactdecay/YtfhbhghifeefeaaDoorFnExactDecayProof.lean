/- The frame of the proof of FnExactDecay; the walk: lawDecay. -/
import Derived.Test.YtfhbhghifeefeaaDoorD7
import Derived.Test.YtfhbhghifeefeaaDoorT7D
import Derived.Test.YtfhbhghifeefeaaDoorCards
import Derived.Test.YtfhbhghifeefeaaDoorTie
import Derived.WalkKit
import Derived.ProofKit
import Derived.OpenShut
import Derived.Lib.SmallJoins
import Derived.LaidMore
import Derived.Stop.Joined
import Derived.SevenTiedAt
namespace Go.Proofs.YtfhbhghifeefeaaDoor.fnExactDecay
open Go.ChangeShapes Go.WideShapes Go.ChangeAt Go.RowKit Go.Joins
set_option linter.unusedVariables false
abbrev laidX : List (String × DataW Unit) := [(nameD, Rows.laid_loop_example_s01330_impl_decays)]
theorem door_met (os : Os) (args : Array Value) : laidMetH Tryd.prog laidX ((World.doorLaid Tryd.prog 16 os).forCall (fun _ _ => 0) ⟨#[], args, []⟩).memory :=
  laidMetH_of_parts3 (fuel := 8) (laidMet_of_run' 8 (by kernel_rfl) (by kernel_rfl)) (by kernel_rfl) (by kernel_rfl)
def VarsX (W : World) : Prop := W.var? Tryd.prog nameD = some decayC
set_option maxRecDepth 100000 in
theorem vars_of_laid {W : World} (h : laidMetH Tryd.prog laidX W) : VarsX W := by
  rw [MakeChecks.laidMetH_plain _ _ _ (by kernel_rfl)] at h
  obtain ⟨ps, hl, _⟩ := h
  obtain ⟨x0, l0⟩ := laid_cons ⟨ps, hl⟩
  exact varD x0
theorem vars_again {H : Type} (enc : TypeId × Value → H) {W W' : World} (hb : Below W.heap.size W W') (hv : VarsX W) (sp : Nat → Bool) :
    ∃ q, DataW.TrodVars enc Tryd.prog W' sp [nameD] [rowD decayL] q := by
  have h0 : W.var? Tryd.prog nameD = some decayC := hv
  exact ⟨_, ⟨_, 35, decayC, 4, [], _, gD, tD, var_kept gD hb h0, readsD enc W' sp, rfl, rfl⟩⟩
theorem vars_opened {H : Type} {enc : TypeId × Value → H} {W : World} {gs : List (DataW H)} {q : List MemPlace} (hv : VarsX W) (hV : DataW.TrodVars enc Tryd.prog W (fun _ => true) [nameD] gs q) : gs = [rowD decayL] := by
  have h0 : W.var? Tryd.prog nameD = some decayC := hv
  obtain ⟨d0, gs0, rfl⟩ : ∃ d l, gs = d :: l := by cases gs <;> simp [DataW.TrodVars] at hV ⊢
  obtain ⟨a0, b0, c0, f0, p0, q0, e0, k0, m0, n0, hV, _⟩ := hV
  obtain rfl := Option.some.inj (gD.symm.trans e0)
  obtain rfl := Option.some.inj (tD.symm.trans k0)
  obtain rfl : c0 = decayC := Option.some.inj (m0.symm.trans h0)
  obtain ⟨rfl, rfl⟩ := DataW.Trod.unique (v := .agg decayC) ⟨f0, n0⟩ ⟨4, readsD enc W _⟩
  cases gs0 <;> simp [DataW.TrodVars] at hV ⊢

set_option maxRecDepth 100000 in
theorem lifted (os : Os) (started : os.Started) (H : Type) (enc : TypeId × Value → H) :
    ReturnsInHanded {} Tryd.checked os 4 .any (fun w args => (Rows.fnExactDecaySpec.pre enc Tryd.prog Tryd.f4 [] false w args ∧ laidMetH Tryd.prog laidX w) ∧ sizedMet enc Tryd.prog Tryd.f4 (OpenSpec.ofChange Rows.fnExactDecaySpec) false w args)
      (Rows.fnExactDecaySpec.post enc Tryd.prog Tryd.f4 false true false false) := by
  refine returnsInHanded_of_change_and (C := Tryd.checked) (X := fun w _ => laidMetH Tryd.prog laidX w) (fun _ _ _ hh h => h.of_heap hh) ownKn started (by kernel_rfl) Tryd.func4
    (ChangeSpec.witness_shaped (enc := enc) (C := Tryd.checked) (os := os) (X := fun w _ => laidMetH Tryd.prog laidX w) false (World.doorLaid Tryd.prog 16 os) #[.int .u64 0] 8 rfl (World.shaped_of_RefB (by kernel_rfl) (by kernel_rfl)) (by kernel_rfl) (by kernel_rfl) (by kernel_rfl) (door_met os _)) ?_
  intro W base args ds gs before hval0 hW _ _ hL _
  have hval : ∀ (j : Nat) t v, Tryd.f4.params[j]? = some t → args[j]? = some v → Value.okWide Tryd.prog W .any base t v := hval0
  have hW' := hW
  obtain ⟨p, q, hA0, hV0, rfl, hfz, hnd⟩ := hW
  have hA : DataW.TrodAll enc Tryd.prog W 0 (fun _ => true) true Tryd.f4.params.toList args.toList ds p := hA0
  have hV : DataW.TrodVars enc Tryd.prog W (fun _ => true) [nameD] gs q := hV0
  rw [Tryd.params4] at hA hval
  obtain ⟨v0, vs0, d0, ds0, p0, q0, hargs, rfl, rfl, h0, r0⟩ := trodAll_cons hA
  obtain ⟨rfl, rfl, rfl⟩ := trodAll_nil r0
  obtain rfl : args = #[v0] := by cases args; simp_all
  have hX := vars_of_laid hL
  obtain rfl := vars_opened hX hV
  obtain ⟨a0, rfl, rfl, rfl, w0⟩ := open_int Tryd.underlying22 (hval 0 22 v0 rfl rfl) h0
  have b0 := bounds_u64 w0
  clear hA0 hV0 hval0
  refine (lawDecay a0 (by omega) (by omega) (dc_of_var hX)).mono fun e W' ⟨he, hgb⟩ => ?_
  subst he
  obtain ⟨_, hq⟩ := vars_again enc hgb hX (fun b => decide (b < W.heap.size))
  exact ⟨_, rfl, _, _, _, [], _, _, hW', (trodAll_cons_mk (shut_bool Tryd.underlying4 _) trodAll_mk0), (trodAll_cons_mk (shut_int Tryd.underlying22 w0) trodAll_mk0), hq, Below.frame hgb _, fun h => by cases h⟩

theorem over : Rows.fnExactDecayRow.holds Tryd.pinned (OpenSpec.ofChange Rows.fnExactDecaySpec) :=
  OpenClaim.holds_of_wide 4 Tryd.f4 rfl rfl rfl rfl rfl rfl rfl ⟨rfl, rfl, rfl, rfl, rfl⟩ rfl rfl rfl rfl rfl (by kernel_rfl) Tryd.func4 (by kernel_rfl)
    (of_decide_eq_true (by kernel_rfl)) (by unfold Func.isWrapper; first | (rw [if_pos (by decide +kernel)]; kernel_rfl) | (rw [if_neg (by decide +kernel)]; exact ⟨rfl, rfl⟩))
    (fun os started H enc _ => lifted os started H enc)
end Go.Proofs.YtfhbhghifeefeaaDoor.fnExactDecay

namespace Go.Proofs.YtfhbhghifeefeaaDoor
open Go
theorem FnExactDecay_holds : Rows.FnExactDecayCardSaid :=
  Claim7.holds_tied_plain_at .later [] [.data] true (true, "4cdb676ebbd38de5a24044eb8bdd7ee5b24f9cdef6e8b092783701295af17ed0") false
    fnExactDecay.over (fun _ h => by cases h) (by kernel_rfl) (fun _ h => by cases h) fnExactDecay_row_tie rfl ⟨rfl, rfl⟩ (by kernel_rfl) rfl
    (fun f fn hf hfn => by
      obtain rfl : f = 4 := Option.some.inj ((show Tryd.prog.funcNamed "loop.example/s01330/laws.FnExactDecay" = some 4 by kernel_rfl).symm.trans hf) |>.symm
      obtain rfl : fn = Tryd.f4 := (Option.some.inj (Tryd.func4.symm.trans hfn)).symm
      exact ⟨by kernel_rfl, fun j t ht => by
        rw [Tryd.params4] at ht
        have hm : t ∈ [22] := by simpa using Array.mem_of_getElem? ht
        have hall : ([22].all fun u => !Tryd.prog.wantsStandIn u) = true := by kernel_rfl
        exact (show Tryd.prog.wantsStandIn t = false by simpa using List.all_eq_true.1 hall t hm)⟩)
    (by kernel_rfl)
#print axioms FnExactDecay_holds
end Go.Proofs.YtfhbhghifeefeaaDoor
