import Derived.Test.YthoelefkjpjhfaaGreatDoorFrRb
import Derived.Test.YthoelefkjpjhfaaGreatDoorFrK4
namespace Go.Proofs.YthoelefkjpjhfaaGreatDoor
open Go
theorem FnExactRun_holds:Rows.FnExactRunCardSaid:=
 Claim7.holds_tied_plain_at .later [] [.data,.data,.data,.data,.wider,.data,.data,.pinned] true (true,"ac85cef615c1d0199250752e298a4d44823dbb4ed48c6ec56ece5792dffe9d0e") false
  fnExactRun.over (λ_ h=>by cases h) (by kernel_rfl) (λ_ h=>by cases h) fnExactRun_row_tie rfl ⟨rfl,rfl⟩ (by kernel_rfl) rfl
  (λf fn hf hfn=>by
   obtain rfl:f=3:=Option.some.inj ((show Tryz.prog.funcNamed "loop.example/s01330/laws.FnExactRun" =some 3 by kernel_rfl).symm.trans hf)|>.symm
   obtain rfl:fn=Tryz.f3:=(Option.some.inj (Tryz.func3.symm.trans hfn)).symm;exact⟨by kernel_rfl,λj t ht=>by
    rw[Tryz.params3]at ht;have hm:t ∈ [9]:=by simpa using Array.mem_of_getElem? ht
    have hall:([9].all λu=> !Tryz.prog.wantsStandIn u)=true:=by kernel_rfl
    exact(show Tryz.prog.wantsStandIn t=false by simpa using List.all_eq_true.1 hall t hm)⟩)
  fnExactRun.fkG
#print axioms FnExactRun_holds
