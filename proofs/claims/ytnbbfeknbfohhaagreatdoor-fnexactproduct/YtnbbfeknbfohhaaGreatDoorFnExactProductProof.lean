import Derived.Test.YtnbbfeknbfohhaaGreatDoorPrN
import Derived.Test.YtnbbfeknbfohhaaGreatDoorCards
import Derived.Test.YtnbbfeknbfohhaaGreatDoorTie
import Derived.WalkKit
import Derived.ProofKit
import Derived.OpenShut
import Derived.ShutString
import Derived.ChangeOld
import Derived.Below
import Derived.Lib.SmallJoins
import Derived.LaidMore
import Derived.Stop.Joined
import Derived.SevenTiedAt
set_option maxRecDepth 1000000
namespace Go.Proofs.YtnbbfeknbfohhaaGreatDoor.fnExactProduct
open Go.ChangeShapes Go.WideShapes Go.ChangeAt Go.RowKit Go.Joins
set_option linter.unusedVariables false
theorem laidOut : laidOutB Tryz.prog = true := by kernel_rfl
theorem long1 (k : Int) (a1 a2 : Option Addr) (len1 cap1 len2 cap2 : Nat) (w : World) (h : (1048576 : Int) < (len1 : Int)) :
  QB 5 #[.int .i64 k, .slice a1 len1 cap1, .slice a2 len2 cap2] w (.bool true) := by
 go_enter Tryz.func5, Tryz.ntmps5
 go_wp2
 go_ret
 exact ⟨rfl, Gb.refl _⟩
theorem long2 (k : Int) (a1 a2 : Option Addr) (len1 cap1 len2 cap2 : Nat) (w : World) (h1 : ¬ (1048576 : Int) < (len1 : Int)) (h : (1048576 : Int) < (len2 : Int)) :
  QB 5 #[.int .i64 k, .slice a1 len1 cap1, .slice a2 len2 cap2] w (.bool true) := by
 go_enter Tryz.func5, Tryz.ntmps5
 go_wp2
 go_ret
 exact ⟨rfl, Gb.refl _⟩
theorem argRow {w : World} {a1 : Option Addr} {len1 : Nat} (h : len1 = 0 ∨ ∃ (x : Addr) (zs : List Int), a1 = some x ∧ len1 ≤ zs.length ∧ (∀ i, i < zs.length → w.cell? (x.add i) = some (.int .i64 (zs.getD i 0))) ∧ ∀ n ∈ zs, (Lit.int .i64 n).wf = true) : ∃ f, ArgRow w .i64 a1 len1 f := by
 rcases (show len1 = 0 ∨ 0 < len1 by omega) with e | hp
 ·exact ⟨fun _ => 0, .inl e⟩
 ·rcases h with e | ⟨x, zs, rfl, hz, hc, hwf⟩
  ·omega
  ·obtain ⟨b, off, rfl, hcell⟩ := ints_at hc (by omega)
   exact ⟨fun i => zs.getD i 0, .inr ⟨b, off, rfl, fun i hi => hcell i (by omega)⟩⟩
theorem walk (k : Int) (a1 a2 : Option Addr) (len1 cap1 len2 cap2 : Nat) (w : World) (hw : Fm w) (h1 : len1 = 0 ∨ ∃ (x : Addr) (zs : List Int), a1 = some x ∧ len1 ≤ zs.length ∧ (∀ i, i < zs.length → w.cell? (x.add i) = some (.int .i64 (zs.getD i 0))) ∧ ∀ n ∈ zs, (Lit.int .i64 n).wf = true) (h2 : len2 = 0 ∨ ∃ (x : Addr) (zs : List Int), a2 = some x ∧ len2 ≤ zs.length ∧ (∀ i, i < zs.length → w.cell? (x.add i) = some (.int .i64 (zs.getD i 0))) ∧ ∀ n ∈ zs, (Lit.int .i64 n).wf = true) :
  QB 5 #[.int .i64 k, .slice a1 len1 cap1, .slice a2 len2 cap2] w (.bool true) := by
 obtain ⟨f, hf⟩ := argRow h1
 obtain ⟨g, hg⟩ := argRow h2
 rcases (show len1 ≤ 1048576 ∨ 1048576 < len1 by omega) with hl | hl
 ·rcases (show len2 ≤ 1048576 ∨ 1048576 < len2 by omega) with hm | hm
  ·exact lawProductF k a1 a2 len1 cap1 len2 cap2 f g hw hf hg hl hm
  ·exact long2 k a1 a2 len1 cap1 len2 cap2 w (by omega) (by omega)
 ·exact long1 k a1 a2 len1 cap1 len2 cap2 w (by omega)
theorem lifted (os : Os) (started : os.Started) (H : Type) (enc : TypeId × Value → H) :
  ReturnsInHanded {} Tryz.checked os 5 .any (fun w args => (Rows.fnExactProductSpec.pre enc Tryz.prog Tryz.f5 [] false w args ∧ laidMetH Tryz.prog laidF w) ∧ sizedMet enc Tryz.prog Tryz.f5 (OpenSpec.ofChange Rows.fnExactProductSpec) false w args)
   (Rows.fnExactProductSpec.post enc Tryz.prog Tryz.f5 false true false false) := by
 refine returnsInHanded_of_change_and (C := Tryz.checked) (X := fun w _ => laidMetH Tryz.prog laidF w) (fun _ _ _ hh h => h.of_heap hh) ownF started (by kernel_rfl) Tryz.func5
  (ChangeSpec.witness_shaped (enc := enc) (C := Tryz.checked) (os := os) (X := fun w _ => laidMetH Tryz.prog laidF w) false (World.doorLaid Tryz.prog 16 os) #[.int .i64 0, .slice none 0 0, .slice none 0 0] 8 rfl (World.shaped_of_RefB (by kernel_rfl) (by kernel_rfl)) (by kernel_rfl) (by kernel_rfl) (by kernel_rfl) (door_met os _)) ?_
 intro W base args ds gs before hval0 hW _ _ hL _
 have hval : ∀ (j : Nat) t v, Tryz.f5.params[j]? = some t → args[j]? = some v → Value.okWide Tryz.prog W .any base t v := hval0
 have hW' := hW
 obtain ⟨p, q, hA0, hV0, rfl, hfz, hnd⟩ := hW
 have hA : DataW.TrodAll enc Tryz.prog W 0 (fun _ => true) true Tryz.f5.params.toList args.toList ds p := hA0
 have hV : DataW.TrodVars enc Tryz.prog W (fun _ => true) ["loop.example/s01330/impl.formats"] gs q := hV0
 rw [Tryz.params5] at hA hval
 obtain ⟨v0, vs0, d0, ds0, p0, q0, hargs, rfl, rfl, h0, r0⟩ := trodAll_cons hA
 obtain ⟨v1, vs1, d1, ds1, p1, q1, rfl, rfl, rfl, h1, r1⟩ := trodAll_cons r0
 obtain ⟨v2, vs2, d2, ds2, p2, q2, rfl, rfl, rfl, h2, r2⟩ := trodAll_cons r1
 obtain ⟨rfl, rfl, rfl⟩ := trodAll_nil r2
 obtain rfl : args = #[v0, v1, v2] := by cases args; simp_all
 obtain rfl := vars_opened hL hV
 obtain ⟨a0, rfl, rfl, rfl, w0⟩ := open_int Tryz.underlying3 (hval 0 3 v0 rfl rfl) h0
 have b0 := bounds_i64 w0
 obtain ⟨a1, len1, cap1, rfl⟩ := okWide_slice Tryz.underlying29 (hval 1 29 v1 rfl rfl)
 have k1 := h1
 have lt1 : ∀ x ∈ p1, x.block < W.heap.size := by obtain ⟨m, hm⟩ := k1; exact DataW.trod_lt m _ _ _ hm
 have w1 : len1 = 0 ∨ ∃ (x : Addr) (zs : List Int), a1 = some x ∧ len1 ≤ zs.length ∧ (∀ i, i < zs.length → W.cell? (x.add i) = some (.int .i64 (zs.getD i 0))) ∧ ∀ n ∈ zs, (Lit.int .i64 n).wf = true := by
  obtain ⟨fuel, hf⟩ := h1
  rcases open_ints Tryz.underlying29 Tryz.underlying3 (by kernel_rfl) hf with ⟨hcs, _⟩ | ⟨x, l, c, zs, hcs, _, hl, hm, hz, _, hcell, hwz⟩
  ·simp [Value.cells] at hcs
   obtain ⟨rfl, rfl, rfl⟩ := hcs
   exact .inl rfl
  ·simp [Value.cells] at hcs
   obtain ⟨rfl, rfl, rfl⟩ := hcs
   have hz' : zs.length = cap1 := by simpa using hz
   exact .inr ⟨x, zs, rfl, by omega, hcell, hwz⟩
 obtain ⟨a2, len2, cap2, rfl⟩ := okWide_slice Tryz.underlying29 (hval 2 29 v2 rfl rfl)
 have k2 := h2
 have lt2 : ∀ x ∈ p2, x.block < W.heap.size := by obtain ⟨m, hm⟩ := k2; exact DataW.trod_lt m _ _ _ hm
 have w2 : len2 = 0 ∨ ∃ (x : Addr) (zs : List Int), a2 = some x ∧ len2 ≤ zs.length ∧ (∀ i, i < zs.length → W.cell? (x.add i) = some (.int .i64 (zs.getD i 0))) ∧ ∀ n ∈ zs, (Lit.int .i64 n).wf = true := by
  obtain ⟨fuel, hf⟩ := h2
  rcases open_ints Tryz.underlying29 Tryz.underlying3 (by kernel_rfl) hf with ⟨hcs, _⟩ | ⟨x, l, c, zs, hcs, _, hl, hm, hz, _, hcell, hwz⟩
  ·simp [Value.cells] at hcs
   obtain ⟨rfl, rfl, rfl⟩ := hcs
   exact .inl rfl
  ·simp [Value.cells] at hcs
   obtain ⟨rfl, rfl, rfl⟩ := hcs
   have hz' : zs.length = cap2 := by simpa using hz
   exact .inr ⟨x, zs, rfl, by omega, hcell, hwz⟩
 clear hA0 hV0 hval0
 refine (walk a0 a1 a2 len1 cap1 len2 cap2 W (fm_of_laid hL) w1 w2).mono fun e W' ⟨he, hgb⟩ => ?_
 have bel : Below W.heap.size W W' := hgb
 subst he
 exact ⟨_, rfl, _, _, _, [], _, _, hW', (trodAll_cons_mk (shut_bool Tryz.underlying4 _) trodAll_mk0), (trodAll_cons_mk (shut_int Tryz.underlying3 w0) (trodAll_cons_mk (Below.trod laidOut (by kernel_rfl) (of_decide_eq_true (by kernel_rfl)) k1 bel lt1) (trodAll_cons_mk (Below.trod laidOut (by kernel_rfl) (of_decide_eq_true (by kernel_rfl)) k2 bel lt2) trodAll_mk0))), vars_again enc hgb (cells_of_laid hL) _, Below.frame hgb _, fun h => by cases h⟩
theorem over : Rows.fnExactProductRow.holds Tryz.pinned (OpenSpec.ofChange Rows.fnExactProductSpec) :=
 OpenClaim.holds_of_wide 5 Tryz.f5 rfl rfl rfl rfl rfl rfl rfl ⟨rfl, rfl, rfl, rfl, rfl⟩ rfl rfl rfl rfl rfl (by kernel_rfl) Tryz.func5 (by kernel_rfl)
  (of_decide_eq_true (by kernel_rfl)) (by unfold Func.isWrapper; first | (rw [if_pos (by decide +kernel)]; kernel_rfl) | (rw [if_neg (by decide +kernel)]; exact ⟨rfl, rfl⟩))
  (fun os started H enc _ => lifted os started H enc)
end Go.Proofs.YtnbbfeknbfohhaaGreatDoor.fnExactProduct
namespace Go.Proofs.YtnbbfeknbfohhaaGreatDoor
open Go
theorem FnExactProduct_holds : Rows.FnExactProductCardSaid :=
 Claim7.holds_tied_plain_at .later [] [.wider] true (true, "2fc977627abd0f8c1933ea384f2eb73ae782045d09052f661ae5124887898203") false
  fnExactProduct.over (fun _ h => by cases h) (by kernel_rfl) (fun _ h => by cases h) fnExactProduct_row_tie rfl ⟨rfl, rfl⟩ (by kernel_rfl) rfl
  (fun f fn hf hfn => by
   obtain rfl : f = 5 := Option.some.inj ((show Tryz.prog.funcNamed "loop.example/s01330/laws.FnExactProduct" = some 5 by kernel_rfl).symm.trans hf) |>.symm
   obtain rfl : fn = Tryz.f5 := (Option.some.inj (Tryz.func5.symm.trans hfn)).symm
   exact ⟨by kernel_rfl, fun j t ht => by
    rw [Tryz.params5] at ht
    have hm : t ∈ [3, 29] := by simpa using Array.mem_of_getElem? ht
    have hall : ([3, 29].all fun u => !Tryz.prog.wantsStandIn u) = true := by kernel_rfl
    exact (show Tryz.prog.wantsStandIn t = false by simpa using List.all_eq_true.1 hall t hm)⟩)
  (by kernel_rfl)
#print axioms FnExactProduct_holds
end Go.Proofs.YtnbbfeknbfohhaaGreatDoor
