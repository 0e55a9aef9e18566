/- The frame of the proof of FnExactSample; the walk: lawSample. -/
import Derived.Test.YtnbbfeknbfohhaaGreatDoorXX
import Derived.Test.YtnbbfeknbfohhaaGreatDoorY4
import Derived.Test.YtnbbfeknbfohhaaGreatDoorCards
import Derived.Test.YtnbbfeknbfohhaaGreatDoorTie
import Derived.WalkKit
import Derived.ProofKit
import Derived.OpenShut
import Derived.Lib.SmallJoins
import Derived.LaidMore
import Derived.Stop.Joined
import Derived.SevenTiedAt
import Derived.ChangeMaps5
namespace Go.Proofs.YtnbbfeknbfohhaaGreatDoor.fnExactSample
open Go.ChangeShapes Go.WideShapes Go.ChangeAt Go.RowKit Go.Joins
set_option linter.unusedVariables false
abbrev laidX : List (String × DataW Unit) := [(nameF, Rows.laid_loop_example_s01330_impl_formats), (nameT, Rows.laid_loop_example_s01330_impl_tails), (nameD, Rows.laid_loop_example_s01330_impl_decays)]
theorem door_met (os : Os) (args : Array Value) : laidMetH Tryz.prog laidX ((World.doorLaid Tryz.prog 16 os).forCall (fun _ _ => 0) ⟨#[], args, []⟩).memory :=
 laidMetH_of_parts3 (fuel := 8) (laidMet_of_run' 8 (by kernel_rfl) (by kernel_rfl)) (by kernel_rfl) (by kernel_rfl)
def VarsX (W : World) : Prop := W.var? Tryz.prog nameF = some cells6 ∧ W.var? Tryz.prog nameT = some tailC ∧ W.var? Tryz.prog nameD = some decayC
set_option maxRecDepth 100000 in
theorem vars_of_laid {W : World} (h : laidMetH Tryz.prog laidX W) : VarsX W := by
 rw [MakeChecks.laidMetH_plain _ _ _ (by kernel_rfl)] at h
 obtain ⟨ps, hl, _⟩ := h
 obtain ⟨x0, l0⟩ := laid_cons ⟨ps, hl⟩
 obtain ⟨x1, l1⟩ := laid_cons l0
 obtain ⟨x2, l2⟩ := laid_cons l1
 exact ⟨varF x0, varT x1, varD x2⟩
theorem vars_again {H : Type} (enc : TypeId × Value → H) {W W' : World} (hb : Below W.heap.size W W') (hv : VarsX W) (sp : Nat → Bool) :
  ∃ q, DataW.TrodVars enc Tryz.prog W' sp [nameF, nameT, nameD] [dataF, rowD tailL, rowD decayL] q := by
 obtain ⟨h0, h1, h2⟩ := hv
 exact ⟨_, ⟨_, 143, cells6, 4, [], _, gF, tF, var_kept gF hb h0, reads_table enc W' sp, ⟨_, 213, tailC, 4, [], _, gT, tT, var_kept gT hb h1, readsT enc W' sp, ⟨_, 214, decayC, 4, [], _, gD, tD, var_kept gD hb h2, readsD enc W' sp, rfl, rfl⟩, rfl⟩, rfl⟩⟩
theorem vars_opened {H : Type} {enc : TypeId × Value → H} {W : World} {gs : List (DataW H)} {q : List MemPlace} (hv : VarsX W) (hV : DataW.TrodVars enc Tryz.prog W (fun _ => true) [nameF, nameT, nameD] gs q) : gs = [dataF, rowD tailL, rowD decayL] := by
 obtain ⟨h0, h1, h2⟩ := hv
 obtain ⟨d0, gs0, rfl⟩ : ∃ d l, gs = d :: l := by cases gs <;> simp [DataW.TrodVars] at hV ⊢
 obtain ⟨a0, b0, c0, f0, p0, q0, e0, k0, m0, n0, hV, _⟩ := hV
 obtain rfl := Option.some.inj (gF.symm.trans e0)
 obtain rfl := Option.some.inj (tF.symm.trans k0)
 obtain rfl : c0 = cells6 := Option.some.inj (m0.symm.trans h0)
 obtain ⟨rfl, rfl⟩ := DataW.Trod.unique (v := .agg cells6) ⟨f0, n0⟩ ⟨4, reads_table enc W _⟩
 obtain ⟨d1, gs1, rfl⟩ : ∃ d l, gs0 = d :: l := by cases gs0 <;> simp [DataW.TrodVars] at hV ⊢
 obtain ⟨a1, b1, c1, f1, p1, q1, e1, k1, m1, n1, hV, _⟩ := hV
 obtain rfl := Option.some.inj (gT.symm.trans e1)
 obtain rfl := Option.some.inj (tT.symm.trans k1)
 obtain rfl : c1 = tailC := Option.some.inj (m1.symm.trans h1)
 obtain ⟨rfl, rfl⟩ := DataW.Trod.unique (v := .agg tailC) ⟨f1, n1⟩ ⟨4, readsT enc W _⟩
 obtain ⟨d2, gs2, rfl⟩ : ∃ d l, gs1 = d :: l := by cases gs1 <;> simp [DataW.TrodVars] at hV ⊢
 obtain ⟨a2, b2, c2, f2, p2, q2, e2, k2, m2, n2, hV, _⟩ := hV
 obtain rfl := Option.some.inj (gD.symm.trans e2)
 obtain rfl := Option.some.inj (tD.symm.trans k2)
 obtain rfl : c2 = decayC := Option.some.inj (m2.symm.trans h2)
 obtain ⟨rfl, rfl⟩ := DataW.Trod.unique (v := .agg decayC) ⟨f2, n2⟩ ⟨4, readsD enc W _⟩
 cases gs2 <;> simp [DataW.TrodVars] at hV ⊢

set_option maxRecDepth 100000 in
theorem lifted (os : Os) (started : os.Started) (H : Type) (enc : TypeId × Value → H) :
  ReturnsInHanded {} Tryz.checked os 3 .any (fun w args => (Rows.fnExactSampleSpec.pre enc Tryz.prog Tryz.f3 [] false w args ∧ laidMetH Tryz.prog laidX w) ∧ sizedMet enc Tryz.prog Tryz.f3 (OpenSpec.ofChange Rows.fnExactSampleSpec) false w args)
   (Rows.fnExactSampleSpec.post enc Tryz.prog Tryz.f3 false true false false) := by
 refine returnsInHanded_of_change_and (C := Tryz.checked) (X := fun w _ => laidMetH Tryz.prog laidX w) (fun _ _ _ hh h => h.of_heap hh) ownKn started (by kernel_rfl) Tryz.func3
  (ChangeSpec.witness_shaped (enc := enc) (C := Tryz.checked) (os := os) (X := fun w _ => laidMetH Tryz.prog laidX w) false (World.doorLaid Tryz.prog 16 os) #[.int .u64 0, .int .u64 0, .int .u64 0, .string ⟨#[]⟩] 8 rfl (World.shaped_of_RefB (by kernel_rfl) (by kernel_rfl)) (by kernel_rfl) (by kernel_rfl) (by kernel_rfl) (door_met os _)) ?_
 intro W base args ds gs before hval0 hW _ _ hL _
 have hval : ∀ (j : Nat) t v, Tryz.f3.params[j]? = some t → args[j]? = some v → Value.okWide Tryz.prog W .any base t v := hval0
 have hW' := hW
 obtain ⟨p, q, hA0, hV0, rfl, hfz, hnd⟩ := hW
 have hA : DataW.TrodAll enc Tryz.prog W 0 (fun _ => true) true Tryz.f3.params.toList args.toList ds p := hA0
 have hV : DataW.TrodVars enc Tryz.prog W (fun _ => true) [nameF, nameT, nameD] gs q := hV0
 rw [Tryz.params3] at hA hval
 obtain ⟨v0, vs0, d0, ds0, p0, q0, hargs, rfl, rfl, h0, r0⟩ := trodAll_cons hA
 obtain ⟨v1, vs1, d1, ds1, p1, q1, rfl, rfl, rfl, h1, r1⟩ := trodAll_cons r0
 obtain ⟨v2, vs2, d2, ds2, p2, q2, rfl, rfl, rfl, h2, r2⟩ := trodAll_cons r1
 obtain ⟨v3, vs3, d3, ds3, p3, q3, rfl, rfl, rfl, h3, r3⟩ := trodAll_cons r2
 obtain ⟨rfl, rfl, rfl⟩ := trodAll_nil r3
 obtain rfl : args = #[v0, v1, v2, v3] := by cases args; simp_all
 have hX := vars_of_laid hL
 obtain rfl := vars_opened hX hV
 obtain ⟨a0, rfl, rfl, rfl, w0⟩ := open_int Tryz.underlying22 (hval 0 22 v0 rfl rfl) h0
 have b0 := bounds_u64 w0
 obtain ⟨a1, rfl, rfl, rfl, w1⟩ := open_int Tryz.underlying22 (hval 1 22 v1 rfl rfl) h1
 have b1 := bounds_u64 w1
 obtain ⟨a2, rfl, rfl, rfl, w2⟩ := open_int Tryz.underlying22 (hval 2 22 v2 rfl rfl) h2
 have b2 := bounds_u64 w2
 obtain ⟨a3, rfl, rfl, rfl, w3⟩ := Go.ChangeMaps.open_string Tryz.underlying9 (hval 3 9 v3 rfl rfl) h3
 clear hA0 hV0 hval0
 refine (lawSample a0 a1 a2 a3 (by omega) (by omega) (by omega) (by omega) (by omega) (by omega) (fm_of_var hX.1) (tl_of_var hX.2.1) (dc_of_var hX.2.2)).mono fun e W' ⟨he, hgb⟩ => ?_
 subst he
 obtain ⟨_, hq⟩ := vars_again enc hgb hX (fun b => decide (b < W.heap.size))
 exact ⟨_, rfl, _, _, _, [], _, _, hW', (trodAll_cons_mk (shut_bool Tryz.underlying4 _) trodAll_mk0), (trodAll_cons_mk (shut_int Tryz.underlying22 w0) (trodAll_cons_mk (shut_int Tryz.underlying22 w1) (trodAll_cons_mk (shut_int Tryz.underlying22 w2) (trodAll_cons_mk (Go.ChangeMaps.shut_string Tryz.underlying9 w3) trodAll_mk0)))), hq, Below.frame hgb _, fun h => by cases h⟩

theorem over : Rows.fnExactSampleRow.holds Tryz.pinned (OpenSpec.ofChange Rows.fnExactSampleSpec) :=
 OpenClaim.holds_of_wide 3 Tryz.f3 rfl rfl rfl rfl rfl rfl rfl ⟨rfl, rfl, rfl, rfl, rfl⟩ rfl rfl rfl rfl rfl (by kernel_rfl) Tryz.func3 (by kernel_rfl)
  (of_decide_eq_true (by kernel_rfl)) (by unfold Func.isWrapper; first | (rw [if_pos (by decide +kernel)]; kernel_rfl) | (rw [if_neg (by decide +kernel)]; exact ⟨rfl, rfl⟩))
  (fun os started H enc _ => lifted os started H enc)
end Go.Proofs.YtnbbfeknbfohhaaGreatDoor.fnExactSample

namespace Go.Proofs.YtnbbfeknbfohhaaGreatDoor
open Go
theorem FnExactSample_holds : Rows.FnExactSampleCardSaid :=
 Claim7.holds_tied_plain_at .later [] [.wider, .data, .data] true (true, "2fc977627abd0f8c1933ea384f2eb73ae782045d09052f661ae5124887898203") false
  fnExactSample.over (fun _ h => by cases h) (by kernel_rfl) (fun _ h => by cases h) fnExactSample_row_tie rfl ⟨rfl, rfl⟩ (by kernel_rfl) rfl
  (fun f fn hf hfn => by
   obtain rfl : f = 3 := Option.some.inj ((show Tryz.prog.funcNamed "loop.example/s01330/laws.FnExactSample" = some 3 by kernel_rfl).symm.trans hf) |>.symm
   obtain rfl : fn = Tryz.f3 := (Option.some.inj (Tryz.func3.symm.trans hfn)).symm
   exact ⟨by kernel_rfl, fun j t ht => by
    rw [Tryz.params3] at ht
    have hm : t ∈ [22, 22, 22, 9] := by simpa using Array.mem_of_getElem? ht
    have hall : ([22, 22, 22, 9].all fun u => !Tryz.prog.wantsStandIn u) = true := by kernel_rfl
    exact (show Tryz.prog.wantsStandIn t = false by simpa using List.all_eq_true.1 hall t hm)⟩)
  (by kernel_rfl)
#print axioms FnExactSample_holds
end Go.Proofs.YtnbbfeknbfohhaaGreatDoor
