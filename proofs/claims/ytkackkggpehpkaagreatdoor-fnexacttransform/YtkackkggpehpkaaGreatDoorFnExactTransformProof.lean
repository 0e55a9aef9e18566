/- The frame of the proof of FnExactTransform; the walk: lawTransformF. -/
import Derived.Test.YtkackkggpehpkaaGreatDoorX5
import Derived.Test.YtkackkggpehpkaaGreatDoorLaid
import Derived.Test.YtkackkggpehpkaaGreatDoorCards
import Derived.Test.YtkackkggpehpkaaGreatDoorTie
import Derived.WalkKit
import Derived.ProofKit
import Derived.OpenShut
import Derived.ShutString
import Derived.ChangeOld
import Derived.Below
import Derived.Lib.SmallJoins
import Derived.LaidMore
import Derived.Stop.Joined
import Derived.SevenTiedAt
namespace Go.Proofs.YtkackkggpehpkaaGreatDoor.fnExactTransform
open Go.ChangeShapes Go.WideShapes Go.ChangeAt Go.RowKit Go.Joins
set_option linter.unusedVariables false

theorem laidOut : laidOutB Tryz.prog = true := by kernel_rfl

set_option maxRecDepth 100000 in
/-- Longer than the bound: true at once. -/
theorem long_any (k : Int) (a : Option Addr) (len cap : Nat) (w : World) (h : (1048576 : Int) < (len : Int)) :
  Calls Tryz.prog 4 #[.int .i64 k, .slice a len cap] w fun e w' => e = .returned (.bool true) ∧ Gb w w' := by
 go_enter Tryz.func4, Tryz.ntmps4
 go_wp2
 go_ret
 exact ⟨rfl, Gb.refl _⟩

theorem walk (k : Int) (k0 : -9223372036854775808 ≤ k) (k1 : k < 9223372036854775808) (a : Option Addr) (len cap : Nat) (w : World) (hw : Fm w)
  (h : len = 0 ∨ ∃ (x : Addr) (zs : List Int), a = some x ∧ len ≤ zs.length ∧ (∀ i, i < zs.length → w.cell? (x.add i) = some (.int .u64 (zs.getD i 0))) ∧ ∀ n ∈ zs, (Lit.int .u64 n).wf = true) :
  Calls Tryz.prog 4 #[.int .i64 k, .slice a len cap] w fun e w' => e = .returned (.bool true) ∧ Gb w w' := by
 rcases (show len ≤ 1048576 ∨ 1048576 < len by omega) with hl | hl
 ·rcases (show len = 0 ∨ 0 < len by omega) with e | hp
  ·exact lawTransformF k k0 k1 a len cap (fun _ => 0) (fun _ => zero_wd) hw (.inl e) hl
  ·rcases h with e | ⟨x, zs, rfl, hz, hc, hwf⟩
   ·omega
   ·obtain ⟨b, off, rfl, hcell⟩ := ints_at hc (by omega)
    refine lawTransformF k k0 k1 _ len cap (fun i => zs.getD i 0) (fun j => ?_) hw (.inr ⟨b, off, rfl, fun i hi => hcell i (by omega)⟩) hl
    rw [List.getD_eq_getElem?_getD]
    have := range_u64 hwf j
    exact ⟨this.1, by omega⟩
 ·exact long_any k a len cap w (by omega)

set_option maxRecDepth 100000 in
theorem lifted (os : Os) (started : os.Started) (H : Type) (enc : TypeId × Value → H) :
  ReturnsInHanded {} Tryz.checked os 4 .any (fun w args => (Rows.fnExactTransformSpec.pre enc Tryz.prog Tryz.f4 [] false w args ∧ laidMetH Tryz.prog laidF w) ∧ sizedMet enc Tryz.prog Tryz.f4 (OpenSpec.ofChange Rows.fnExactTransformSpec) false w args)
   (Rows.fnExactTransformSpec.post enc Tryz.prog Tryz.f4 false true false false) := by
 refine returnsInHanded_of_change_and (C := Tryz.checked) (X := fun w _ => laidMetH Tryz.prog laidF w) (fun _ _ _ hh h => h.of_heap hh) ownF started (by kernel_rfl) Tryz.func4
  (ChangeSpec.witness_shaped (enc := enc) (C := Tryz.checked) (os := os) (X := fun w _ => laidMetH Tryz.prog laidF w) false (World.doorLaid Tryz.prog 16 os) #[.int .i64 0, .slice none 0 0] 8 rfl (World.shaped_of_RefB (by kernel_rfl) (by kernel_rfl)) (by kernel_rfl) (by kernel_rfl) (by kernel_rfl) (door_met os _)) ?_
 intro W base args ds gs before hval0 hW _ _ hL _
 have hval : ∀ (j : Nat) t v, Tryz.f4.params[j]? = some t → args[j]? = some v → Value.okWide Tryz.prog W .any base t v := hval0
 have hW' := hW
 obtain ⟨p, q, hA0, hV0, rfl, hfz, hnd⟩ := hW
 have hA : DataW.TrodAll enc Tryz.prog W 0 (fun _ => true) true Tryz.f4.params.toList args.toList ds p := hA0
 have hV : DataW.TrodVars enc Tryz.prog W (fun _ => true) ["loop.example/s01330/impl.formats"] gs q := hV0
 rw [Tryz.params4] at hA hval
 obtain ⟨v0, vs0, d0, ds0, p0, q0, hargs, rfl, rfl, h0, r0⟩ := trodAll_cons hA
 obtain ⟨v1, vs1, d1, ds1, p1, q1, rfl, rfl, rfl, h1, r1⟩ := trodAll_cons r0
 obtain ⟨rfl, rfl, rfl⟩ := trodAll_nil r1
 obtain rfl : args = #[v0, v1] := by cases args; simp_all
 obtain rfl := vars_opened hL hV
 obtain ⟨a0, rfl, rfl, rfl, w0⟩ := open_int Tryz.underlying3 (hval 0 3 v0 rfl rfl) h0
 have b0 := bounds_i64 w0
 obtain ⟨a1, len1, cap1, rfl⟩ := okWide_slice Tryz.underlying27 (hval 1 27 v1 rfl rfl)
 have k1 := h1
 have lt1 : ∀ x ∈ p1, x.block < W.heap.size := by obtain ⟨m, hm⟩ := k1; exact DataW.trod_lt m _ _ _ hm
 have w1 : len1 = 0 ∨ ∃ (x : Addr) (zs : List Int), a1 = some x ∧ len1 ≤ zs.length ∧ (∀ i, i < zs.length → W.cell? (x.add i) = some (.int .u64 (zs.getD i 0))) ∧ ∀ n ∈ zs, (Lit.int .u64 n).wf = true := by
  obtain ⟨fuel, hf⟩ := h1
  rcases open_ints Tryz.underlying27 Tryz.underlying49 (by kernel_rfl) hf with ⟨hcs, _⟩ | ⟨x, l, c, zs, hcs, _, hl, hm, hz, _, hcell, hwz⟩
  ·simp [Value.cells] at hcs
   obtain ⟨rfl, rfl, rfl⟩ := hcs
   exact .inl rfl
  ·simp [Value.cells] at hcs
   obtain ⟨rfl, rfl, rfl⟩ := hcs
   have hz' : zs.length = cap1 := by simpa using hz
   exact .inr ⟨x, zs, rfl, by omega, hcell, hwz⟩
 clear hA0 hV0 hval0
 refine (walk a0 (by omega) (by omega) a1 len1 cap1 W (fm_of_laid hL) w1).mono fun e W' ⟨he, hgb⟩ => ?_
 have bel : Below W.heap.size W W' := hgb
 subst he
 exact ⟨_, rfl, _, _, _, [], _, _, hW', (trodAll_cons_mk (shut_bool Tryz.underlying4 _) trodAll_mk0), (trodAll_cons_mk (shut_int Tryz.underlying3 w0) (trodAll_cons_mk (Below.trod laidOut (by kernel_rfl) (of_decide_eq_true (by kernel_rfl)) k1 bel lt1) trodAll_mk0)), vars_again enc hgb (cells_of_laid hL) _, Below.frame hgb _, fun h => by cases h⟩

theorem over : Rows.fnExactTransformRow.holds Tryz.pinned (OpenSpec.ofChange Rows.fnExactTransformSpec) :=
 OpenClaim.holds_of_wide 4 Tryz.f4 rfl rfl rfl rfl rfl rfl rfl ⟨rfl, rfl, rfl, rfl, rfl⟩ rfl rfl rfl rfl rfl (by kernel_rfl) Tryz.func4 (by kernel_rfl)
  (of_decide_eq_true (by kernel_rfl)) (by unfold Func.isWrapper; first | (rw [if_pos (by decide +kernel)]; kernel_rfl) | (rw [if_neg (by decide +kernel)]; exact ⟨rfl, rfl⟩))
  (fun os started H enc _ => lifted os started H enc)
end Go.Proofs.YtkackkggpehpkaaGreatDoor.fnExactTransform

namespace Go.Proofs.YtkackkggpehpkaaGreatDoor
open Go
theorem FnExactTransform_holds : Rows.FnExactTransformCardSaid :=
 Claim7.holds_tied_plain_at .later [] [.wider] true (true, "5ff07db8a322b6dd56bb4fa48dc00067d4e4efa01869340b0a3e594abca70dba") false
  fnExactTransform.over (fun _ h => by cases h) (by kernel_rfl) (fun _ h => by cases h) fnExactTransform_row_tie rfl ⟨rfl, rfl⟩ (by kernel_rfl) rfl
  (fun f fn hf hfn => by
   obtain rfl : f = 4 := Option.some.inj ((show Tryz.prog.funcNamed "loop.example/s01330/laws.FnExactTransform" = some 4 by kernel_rfl).symm.trans hf) |>.symm
   obtain rfl : fn = Tryz.f4 := (Option.some.inj (Tryz.func4.symm.trans hfn)).symm
   exact ⟨by kernel_rfl, fun j t ht => by
    rw [Tryz.params4] at ht
    have hm : t ∈ [3, 27] := by simpa using Array.mem_of_getElem? ht
    have hall : ([3, 27].all fun u => !Tryz.prog.wantsStandIn u) = true := by kernel_rfl
    exact (show Tryz.prog.wantsStandIn t = false by simpa using List.all_eq_true.1 hall t hm)⟩)
  (by kernel_rfl)
#print axioms FnExactTransform_holds
end Go.Proofs.YtkackkggpehpkaaGreatDoor
