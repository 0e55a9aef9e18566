import Derived.Test.YtmiekgjgpmfekaaGreatDoorEa
import Derived.Test.YtmiekgjgpmfekaaGreatDoorM4
import Derived.Test.YtmiekgjgpmfekaaGreatDoorLaid
import Derived.Test.YtmiekgjgpmfekaaGreatDoorCards
import Derived.Test.YtmiekgjgpmfekaaGreatDoorTie
import Derived.Lib.SmallJoins
import Derived.SevenTiedAt
set_option linter.all false
namespace Go.Proofs.YtmiekgjgpmfekaaGreatDoor
open Go.RowKit
theorem WA(k:Int)(k0:-9223372036854775808<=k)(k1:k<9223372036854775808){w:World}(hw:Fm w):
  QB 3 #[.int .i64 k] w (.bool true):=by
 obtain⟨SL⟩:=CY;have hch:Inhabited Ch:=⟨SL⟩;exact ZY vO yO jR k hw
end Go.Proofs.YtmiekgjgpmfekaaGreatDoor
set_option maxRecDepth 1000000
namespace Go.Proofs.YtmiekgjgpmfekaaGreatDoor.fnExactRoots
open Go.ChangeShapes Go.WideShapes Go.ChangeAt Go.RowKit Go.Joins
theorem lifted(os:Os)(started:os.Started)(H:Type)(enc:TypeId × Value->H):
  ReturnsInHanded {} Tryz.checked os 3 .any (fun w args=>(Rows.fnExactRootsSpec.pre enc Tryz.prog Tryz.f3 [] false w args/\laidMetH Tryz.prog nV w)/\sizedMet enc Tryz.prog Tryz.f3 (OpenSpec.ofChange Rows.fnExactRootsSpec) false w args)
   (Rows.fnExactRootsSpec.post enc Tryz.prog Tryz.f3 false true false false):=by
 refine returnsInHanded_of_change_and (C:=Tryz.checked) (X:=fun w _=>laidMetH Tryz.prog nV w) (fun _ _ _ hh h=>h.of_heap hh) aCm started (by kernel_rfl) Tryz.func3
  (ChangeSpec.witness_shaped (enc:=enc) (C:=Tryz.checked) (os:=os) (X:=fun w _=>laidMetH Tryz.prog nV w) false (World.doorLaid Tryz.prog 16 os) #[.int .i64 0] 8 rfl (World.shaped_of_RefB (by kernel_rfl) (by kernel_rfl)) (by kernel_rfl) (by kernel_rfl) (by kernel_rfl) (door_met os _)) ?_
 intro W base args ds gs before hval0 hW _ _ hL _;have hval:∀(j:Nat) t v,Tryz.f3.params[j]?=some t->args[j]?=some v->Value.okWide Tryz.prog W .any base t v:=hval0;have hW':=hW;obtain⟨p,q,hA0,hV0,rfl,hfz,hnd⟩:=hW;have hA:DataW.TrodAll enc Tryz.prog W 0 (fun _=>true) true Tryz.f3.params.toList args.toList ds p:=hA0;have hV:DataW.TrodVars enc Tryz.prog W (fun _=>true) ["loop.example/s01330/impl.formats"] gs q:=hV0;rw[Tryz.params3]at hA hval;obtain⟨v0,vs0,d0,ds0,p0,q0,hargs,rfl,rfl,h0,r0⟩:=trodAll_cons hA;obtain⟨rfl,rfl,rfl⟩:=trodAll_nil r0;obtain rfl:args=#[v0]:=by cases args;simp_all
 obtain rfl:=fQ hL hV;obtain⟨a0,rfl,rfl,rfl,w0⟩:=open_int Tryz.underlying3 (hval 0 3 v0 rfl rfl) h0;have b0:=bounds_i64 w0;clear hA0 hV0 hval0;refine(WA a0 om om (uw hL)).mono fun e W' ⟨he,hgb⟩=>?_;subst he;exact⟨_,rfl,_,_,_,[],_,_,hW',(trodAll_cons_mk (shut_bool Tryz.underlying4 _) trodAll_mk0),(trodAll_cons_mk (shut_int Tryz.underlying3 w0) trodAll_mk0),gu enc hgb (cells_of_laid hL) _,Below.frame hgb _,fun h=>by cases h⟩
theorem over:Rows.fnExactRootsRow.holds Tryz.pinned (OpenSpec.ofChange Rows.fnExactRootsSpec):=
 OpenClaim.holds_of_wide 3 Tryz.f3 rfl rfl rfl rfl rfl rfl rfl ⟨rfl,rfl,rfl,rfl,rfl⟩ rfl rfl rfl rfl rfl (by kernel_rfl) Tryz.func3 (by kernel_rfl)
  (of_decide_eq_true (by kernel_rfl)) (by unfold Func.isWrapper;first|(rw[if_pos (by decide+kernel)];kernel_rfl)|(rw[if_neg (by decide+kernel)];exact⟨rfl,rfl⟩))
  (fun os started H enc _=>lifted os started H enc)
end Go.Proofs.YtmiekgjgpmfekaaGreatDoor.fnExactRoots
namespace Go.Proofs.YtmiekgjgpmfekaaGreatDoor
open Go
theorem FnExactRoots_holds:Rows.FnExactRootsCardSaid:=
 Claim7.holds_tied_plain_at .later [] [.wider] true (true,"4a6e21431519bc8fa0358fc74cf5071266168f51db2d33ec99ab440d42f880d6") false
  fnExactRoots.over (fun _ h=>by cases h) (by kernel_rfl) (fun _ h=>by cases h) fnExactRoots_row_tie rfl ⟨rfl,rfl⟩ (by kernel_rfl) rfl
  (fun f fn hf hfn=>by
   obtain rfl:f=3:=Option.some.inj ((show Tryz.prog.funcNamed "loop.example/s01330/laws.FnExactRoots" =some 3 by kernel_rfl).symm.trans hf)|>.symm
   obtain rfl:fn=Tryz.f3:=(Option.some.inj (Tryz.func3.symm.trans hfn)).symm;exact⟨by kernel_rfl,fun j t ht=>by
    rw[Tryz.params3]at ht;have hm:t ∈ [3]:=by simpa using Array.mem_of_getElem? ht
    have hall:([3].all fun u=> !Tryz.prog.wantsStandIn u)=true:=by kernel_rfl
    exact(show Tryz.prog.wantsStandIn t=false by simpa using List.all_eq_true.1 hall t hm)⟩)
  (by kernel_rfl)
#print axioms FnExactRoots_holds
