/- The frame of the proof of FnExactSubWide; the walk: lawSub. -/
import Derived.Test.YtmcbciaeibfgpaaSubLaw
import Derived.WalkKit
import Derived.ProofKit
import Derived.OpenShut
import Derived.Lib.SmallJoins
namespace Go.Proofs.Ytmcbciaeibfgpaa.fnExactSubWide
open Go.ChangeShapes Go.WideShapes Go.ChangeAt Go.RowKit Go.Joins
set_option linter.unusedVariables false
theorem own : ownKnob Try.prog.godebug = none := by kernel_rfl
theorem cells_wide : Try.prog.cellsOf 28 = 2 := by kernel_rfl
set_option maxRecDepth 100000 in
theorem lifted (os : Os) (started : os.Started) (H : Type) (enc : TypeId × Value → H) :
    ReturnsInHanded {} Try.checked os 8 .any (Rows.fnExactSubWideSpec.pre6 enc Try.prog Try.f8 Rows.fnExactSubWideRow.domain false) (Rows.fnExactSubWideSpec.post enc Try.prog Try.f8 false true false false) := by
  refine returnsInHanded_of_change (C := Try.checked) own started (by kernel_rfl) Try.func8
    (ChangeSpec.witness6 (enc := enc) (C := Try.checked) false ⟨#[], #[.agg #[.int .u64 0, .int .u64 0], .agg #[.int .u64 0, .int .u64 0]], []⟩ 8 (by kernel_rfl) (by kernel_rfl) (by kernel_rfl) (by kernel_rfl)) ?_
  intro W base args ds gs before hval0 hW hcnd _
  have hval : ∀ (j : Nat) t v, Try.f8.params[j]? = some t → args[j]? = some v → Value.okWide Try.prog W .any base t v := hval0
  have hW' := hW
  obtain ⟨p, q, hA0, hV, rfl, hfz, hnd⟩ := hW
  have hA : DataW.TrodAll enc Try.prog W 0 (fun _ => true) true Try.f8.params.toList args.toList ds p := hA0
  rw [Try.params8] at hA hval
  obtain ⟨v0, vs0, d0, ds0, p0, q0, hargs, rfl, rfl, h0, r0⟩ := trodAll_cons hA
  obtain ⟨v1, vs1, d1, ds1, p1, q1, rfl, rfl, rfl, h1, r1⟩ := trodAll_cons r0
  obtain ⟨rfl, rfl, rfl⟩ := trodAll_nil r1
  obtain rfl : args = #[v0, v1] := by cases args; simp_all
  obtain ⟨rfl, rfl⟩ := trodVars_none hV
  obtain ⟨c0x, c0y, y0x, y0y, m0, rfl, rfl, rfl, hy0x, hy0y⟩ := open_agg2 Try.underlying28 (by kernel_rfl) cells_wide (hval 0 28 v0 rfl rfl) h0
  obtain ⟨a0x, e0x, rfl, w0x⟩ := DataW.trod_int Try.underlying22 hy0x
  have b0x := bounds_u64 w0x
  obtain ⟨a0y, e0y, rfl, w0y⟩ := DataW.trod_int Try.underlying22 hy0y
  have b0y := bounds_u64 w0y
  simp at e0x e0y
  subst e0x e0y
  have reads0 : ∀ (W' : World) (sp : Nat → Bool), DataW.Trod enc Try.prog W' 0 sp true 28 (.agg #[.int .u64 a0x, .int .u64 a0y]) (.agg [.lit (.int .u64 a0x), .lit (.int .u64 a0y)]) [] := fun W' sp =>
    shut_agg2 (y0 := (.lit (.int .u64 a0x), [])) (y1 := (.lit (.int .u64 a0y), [])) Try.underlying28 (by kernel_rfl) cells_wide ⟨1, by simp [DataW.trod, Try.underlying22, w0x]⟩ ⟨1, by simp [DataW.trod, Try.underlying22, w0y]⟩
  obtain ⟨c1x, c1y, y1x, y1y, m1, rfl, rfl, rfl, hy1x, hy1y⟩ := open_agg2 Try.underlying28 (by kernel_rfl) cells_wide (hval 1 28 v1 rfl rfl) h1
  obtain ⟨a1x, e1x, rfl, w1x⟩ := DataW.trod_int Try.underlying22 hy1x
  have b1x := bounds_u64 w1x
  obtain ⟨a1y, e1y, rfl, w1y⟩ := DataW.trod_int Try.underlying22 hy1y
  have b1y := bounds_u64 w1y
  simp at e1x e1y
  subst e1x e1y
  have reads1 : ∀ (W' : World) (sp : Nat → Bool), DataW.Trod enc Try.prog W' 0 sp true 28 (.agg #[.int .u64 a1x, .int .u64 a1y]) (.agg [.lit (.int .u64 a1x), .lit (.int .u64 a1y)]) [] := fun W' sp =>
    shut_agg2 (y0 := (.lit (.int .u64 a1x), [])) (y1 := (.lit (.int .u64 a1y), [])) Try.underlying28 (by kernel_rfl) cells_wide ⟨1, by simp [DataW.trod, Try.underlying22, w1x]⟩ ⟨1, by simp [DataW.trod, Try.underlying22, w1y]⟩
  clear hA0 hval0
  simp only [List.append_nil] at hW'
  refine (lawSub a0x a0y a1x a1y (by omega) (by omega) (by omega) (by omega) (by omega) (by omega) (by omega) (by omega) W).mono fun e W' ⟨he, hgr⟩ => ?_
  have hg := hgr.grown
  subst he
  exact ⟨_, rfl, post_of_same (pa := []) (pv := []) hW' (fun _ _ _ => (trodAll_cons_mk (shut_bool Try.underlying4 _) trodAll_mk0)) (fun sp _ => (trodAll_cons_mk (reads0 _ sp) (trodAll_cons_mk (reads1 _ sp) trodAll_mk0))) (fun _ _ => rfl) rfl
    (hg.frame _) hg.2.1 (ok_one (by kernel_rfl) rfl (okWide_bool_mk Try.underlying4 _))⟩

theorem over : Rows.fnExactSubWideRow.holds Try.pinned (OpenSpec.ofChange Rows.fnExactSubWideSpec) :=
  OpenClaim.holds_of_wide 8 Try.f8 rfl rfl rfl rfl rfl rfl rfl ⟨rfl, rfl, rfl, rfl, rfl⟩ rfl rfl rfl rfl rfl (by kernel_rfl) Try.func8 (by kernel_rfl)
    (of_decide_eq_true (by kernel_rfl)) (by unfold Func.isWrapper; first | (rw [if_pos (by decide +kernel)]; kernel_rfl) | (rw [if_neg (by decide +kernel)]; exact ⟨rfl, rfl⟩))
    (fun os started H enc _ => lifted os started H enc)
end Go.Proofs.Ytmcbciaeibfgpaa.fnExactSubWide

namespace Go.Proofs.Ytmcbciaeibfgpaa
theorem FnExactSubWide_holds : Rows.FnExactSubWideSaid := fnExactSubWide.over
#print axioms FnExactSubWide_holds
end Go.Proofs.Ytmcbciaeibfgpaa
