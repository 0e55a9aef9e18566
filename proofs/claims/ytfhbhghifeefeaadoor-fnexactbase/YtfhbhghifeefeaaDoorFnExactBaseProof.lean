/- The frame of the proof of FnExactBase; the walk: lawBase. -/
import Derived.Test.YtfhbhghifeefeaaDoorB7
import Derived.Test.YtfhbhghifeefeaaDoorT7T
import Derived.Test.YtfhbhghifeefeaaDoorCards
import Derived.Test.YtfhbhghifeefeaaDoorTie
import Derived.WalkKit
import Derived.ProofKit
import Derived.OpenShut
import Derived.Lib.SmallJoins
import Derived.LaidMore
import Derived.Stop.Joined
import Derived.SevenTiedAt
namespace Go.Proofs.YtfhbhghifeefeaaDoor.fnExactBase
open Go.ChangeShapes Go.WideShapes Go.ChangeAt Go.RowKit Go.Joins
set_option linter.unusedVariables false
abbrev laidX : List (String × DataW Unit) := [(nameT, Rows.laid_loop_example_s01330_impl_tails)]
theorem door_met (os : Os) (args : Array Value) : laidMetH Tryd.prog laidX ((World.doorLaid Tryd.prog 16 os).forCall (fun _ _ => 0) ⟨#[], args, []⟩).memory :=
  laidMetH_of_parts3 (fuel := 8) (laidMet_of_run' 8 (by kernel_rfl) (by kernel_rfl)) (by kernel_rfl) (by kernel_rfl)
def VarsX (W : World) : Prop := W.var? Tryd.prog nameT = some tailC
set_option maxRecDepth 100000 in
theorem vars_of_laid {W : World} (h : laidMetH Tryd.prog laidX W) : VarsX W := by
  rw [MakeChecks.laidMetH_plain _ _ _ (by kernel_rfl)] at h
  obtain ⟨ps, hl, _⟩ := h
  obtain ⟨x0, l0⟩ := laid_cons ⟨ps, hl⟩
  exact varT x0
theorem vars_again {H : Type} (enc : TypeId × Value → H) {W W' : World} (hb : Below W.heap.size W W') (hv : VarsX W) (sp : Nat → Bool) :
    ∃ q, DataW.TrodVars enc Tryd.prog W' sp [nameT] [rowD tailL] q := by
  have h0 : W.var? Tryd.prog nameT = some tailC := hv
  exact ⟨_, ⟨_, 32, tailC, 4, [], _, gT, tT, var_kept gT hb h0, readsT enc W' sp, rfl, rfl⟩⟩
theorem vars_opened {H : Type} {enc : TypeId × Value → H} {W : World} {gs : List (DataW H)} {q : List MemPlace} (hv : VarsX W) (hV : DataW.TrodVars enc Tryd.prog W (fun _ => true) [nameT] gs q) : gs = [rowD tailL] := by
  have h0 : W.var? Tryd.prog nameT = some tailC := hv
  obtain ⟨d0, gs0, rfl⟩ : ∃ d l, gs = d :: l := by cases gs <;> simp [DataW.TrodVars] at hV ⊢
  obtain ⟨a0, b0, c0, f0, p0, q0, e0, k0, m0, n0, hV, _⟩ := hV
  obtain rfl := Option.some.inj (gT.symm.trans e0)
  obtain rfl := Option.some.inj (tT.symm.trans k0)
  obtain rfl : c0 = tailC := Option.some.inj (m0.symm.trans h0)
  obtain ⟨rfl, rfl⟩ := DataW.Trod.unique (v := .agg tailC) ⟨f0, n0⟩ ⟨4, readsT enc W _⟩
  cases gs0 <;> simp [DataW.TrodVars] at hV ⊢

set_option maxRecDepth 100000 in
theorem lifted (os : Os) (started : os.Started) (H : Type) (enc : TypeId × Value → H) :
    ReturnsInHanded {} Tryd.checked os 3 .any (fun w args => (Rows.fnExactBaseSpec.pre enc Tryd.prog Tryd.f3 [] false w args ∧ laidMetH Tryd.prog laidX w) ∧ sizedMet enc Tryd.prog Tryd.f3 (OpenSpec.ofChange Rows.fnExactBaseSpec) false w args)
      (Rows.fnExactBaseSpec.post enc Tryd.prog Tryd.f3 false true false false) := by
  refine returnsInHanded_of_change_and (C := Tryd.checked) (X := fun w _ => laidMetH Tryd.prog laidX w) (fun _ _ _ hh h => h.of_heap hh) ownKn started (by kernel_rfl) Tryd.func3
    (ChangeSpec.witness_shaped (enc := enc) (C := Tryd.checked) (os := os) (X := fun w _ => laidMetH Tryd.prog laidX w) false (World.doorLaid Tryd.prog 16 os) #[.int .u64 0] 8 rfl (World.shaped_of_RefB (by kernel_rfl) (by kernel_rfl)) (by kernel_rfl) (by kernel_rfl) (by kernel_rfl) (door_met os _)) ?_
  intro W base args ds gs before hval0 hW _ _ hL _
  have hval : ∀ (j : Nat) t v, Tryd.f3.params[j]? = some t → args[j]? = some v → Value.okWide Tryd.prog W .any base t v := hval0
  have hW' := hW
  obtain ⟨p, q, hA0, hV0, rfl, hfz, hnd⟩ := hW
  have hA : DataW.TrodAll enc Tryd.prog W 0 (fun _ => true) true Tryd.f3.params.toList args.toList ds p := hA0
  have hV : DataW.TrodVars enc Tryd.prog W (fun _ => true) [nameT] gs q := hV0
  rw [Tryd.params3] at hA hval
  obtain ⟨v0, vs0, d0, ds0, p0, q0, hargs, rfl, rfl, h0, r0⟩ := trodAll_cons hA
  obtain ⟨rfl, rfl, rfl⟩ := trodAll_nil r0
  obtain rfl : args = #[v0] := by cases args; simp_all
  have hX := vars_of_laid hL
  obtain rfl := vars_opened hX hV
  obtain ⟨a0, rfl, rfl, rfl, w0⟩ := open_int Tryd.underlying22 (hval 0 22 v0 rfl rfl) h0
  have b0 := bounds_u64 w0
  clear hA0 hV0 hval0
  refine (lawBase a0 (by omega) (by omega) (tl_of_var hX)).mono fun e W' ⟨he, hgb⟩ => ?_
  subst he
  obtain ⟨_, hq⟩ := vars_again enc hgb hX (fun b => decide (b < W.heap.size))
  exact ⟨_, rfl, _, _, _, [], _, _, hW', (trodAll_cons_mk (shut_bool Tryd.underlying4 _) trodAll_mk0), (trodAll_cons_mk (shut_int Tryd.underlying22 w0) trodAll_mk0), hq, Below.frame hgb _, fun h => by cases h⟩

theorem over : Rows.fnExactBaseRow.holds Tryd.pinned (OpenSpec.ofChange Rows.fnExactBaseSpec) :=
  OpenClaim.holds_of_wide 3 Tryd.f3 rfl rfl rfl rfl rfl rfl rfl ⟨rfl, rfl, rfl, rfl, rfl⟩ rfl rfl rfl rfl rfl (by kernel_rfl) Tryd.func3 (by kernel_rfl)
    (of_decide_eq_true (by kernel_rfl)) (by unfold Func.isWrapper; first | (rw [if_pos (by decide +kernel)]; kernel_rfl) | (rw [if_neg (by decide +kernel)]; exact ⟨rfl, rfl⟩))
    (fun os started H enc _ => lifted os started H enc)
end Go.Proofs.YtfhbhghifeefeaaDoor.fnExactBase

namespace Go.Proofs.YtfhbhghifeefeaaDoor
open Go
theorem FnExactBase_holds : Rows.FnExactBaseCardSaid :=
  Claim7.holds_tied_plain_at .later [] [.data] true (true, "4cdb676ebbd38de5a24044eb8bdd7ee5b24f9cdef6e8b092783701295af17ed0") false
    fnExactBase.over (fun _ h => by cases h) (by kernel_rfl) (fun _ h => by cases h) fnExactBase_row_tie rfl ⟨rfl, rfl⟩ (by kernel_rfl) rfl
    (fun f fn hf hfn => by
      obtain rfl : f = 3 := Option.some.inj ((show Tryd.prog.funcNamed "loop.example/s01330/laws.FnExactBase" = some 3 by kernel_rfl).symm.trans hf) |>.symm
      obtain rfl : fn = Tryd.f3 := (Option.some.inj (Tryd.func3.symm.trans hfn)).symm
      exact ⟨by kernel_rfl, fun j t ht => by
        rw [Tryd.params3] at ht
        have hm : t ∈ [22] := by simpa using Array.mem_of_getElem? ht
        have hall : ([22].all fun u => !Tryd.prog.wantsStandIn u) = true := by kernel_rfl
        exact (show Tryd.prog.wantsStandIn t = false by simpa using List.all_eq_true.1 hall t hm)⟩)
    (by kernel_rfl)
#print axioms FnExactBase_holds
end Go.Proofs.YtfhbhghifeefeaaDoor
