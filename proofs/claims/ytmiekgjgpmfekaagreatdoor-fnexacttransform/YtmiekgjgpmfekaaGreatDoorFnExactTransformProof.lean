import Derived.Test.YtmiekgjgpmfekaaGreatDoorEa
import Derived.Test.YtmiekgjgpmfekaaGreatDoorM4
import Derived.Test.YtmiekgjgpmfekaaGreatDoorLaid
import Derived.Test.YtmiekgjgpmfekaaGreatDoorCards
import Derived.Test.YtmiekgjgpmfekaaGreatDoorTie
import Derived.ShutString
import Derived.ChangeOld
import Derived.Below
import Derived.Lib.SmallJoins
import Derived.SevenTiedAt
set_option linter.all false
open Go.Proofs.Tryz
namespace Go.Proofs.YtmiekgjgpmfekaaGreatDoor
open Go.RowKit
theorem yw(k:Int)(k0:-9223372036854775808<=k)(k1:k<9223372036854775808)(a:Option Addr)(n cap:Nat)(cs:Nat->Int)(hcs:∀j,Wd (cs j)){w:World}(hw:Fm w)(ha:lQ w .u64 a n cs)(hn:n<=1048576):
  QB 4 #[.int .i64 k,.slice a n cap] w (.bool true):=by
 obtain⟨SL⟩:=CY;have hch:Inhabited Ch:=⟨SL⟩;exact JR vO yO jR k a n cap cs hcs hw ha hn
end Go.Proofs.YtmiekgjgpmfekaaGreatDoor
set_option maxRecDepth 1000000
namespace Go.Proofs.YtmiekgjgpmfekaaGreatDoor.fnExactTransform
open Go.ChangeShapes Go.WideShapes Go.ChangeAt Go.RowKit Go.Joins
theorem laidOut:laidOutB Tryz.prog=true:=by kernel_rfl
theorem Fh(k:Int)(a:Option Addr)(len cap:Nat)(w:World)(h:(1048576:Int)<(len:Int)):
  QB 4 #[.int .i64 k,.slice a len cap] w (.bool true):=by
 go_enter func4,ntmps4;go_wp2;go_ret;exact⟨rfl,Gb.refl _⟩
theorem walk(k:Int)(k0:-9223372036854775808<=k)(k1:k<9223372036854775808)(a:Option Addr)(len cap:Nat)(w:World)(hw:Fm w)
  (h:len=0\/∃(x:Addr) (zs:List Int),a=some x/\len<=zs.length/\(∀i,i<zs.length->w.cell? (x.add i)=some (.int .u64 (zs.getD i 0)))/\∀n ∈ zs,(Lit.int .u64 n).wf =true):
  QB 4 #[.int .i64 k,.slice a len cap] w (.bool true):=by
 rcases(show len<=1048576\/1048576<len by omega)with hl|hl
 ·rcases(show len=0\/0<len by omega)with e|hp
  ·exact yw k k0 k1 a len cap (fun _=>0) (fun _=>kG) hw (.inl e) hl
  ·rcases h with e|⟨x,zs,rfl,hz,hc,hwf⟩
   ·omega
   ·obtain⟨b,off,rfl,hcell⟩:=ints_at hc om;refine yw k k0 k1 _ len cap (fun i=>zs.getD i 0) (fun j=>?_) hw (.inr ⟨b,off,rfl,fun i hi=>hcell i om⟩) hl;rw[List.getD_eq_getElem?_getD];have:=range_u64 hwf j;exact⟨this.1,om⟩
 ·exact Fh k a len cap w om
theorem lifted(os:Os)(started:os.Started)(H:Type)(enc:TypeId × Value->H):
  ReturnsInHanded {} Tryz.checked os 4 .any (fun w args=>(Rows.fnExactTransformSpec.pre enc Tryz.prog Tryz.f4 [] false w args/\laidMetH Tryz.prog nV w)/\sizedMet enc Tryz.prog Tryz.f4 (OpenSpec.ofChange Rows.fnExactTransformSpec) false w args)
   (Rows.fnExactTransformSpec.post enc Tryz.prog Tryz.f4 false true false false):=by
 refine returnsInHanded_of_change_and (C:=Tryz.checked) (X:=fun w _=>laidMetH Tryz.prog nV w) (fun _ _ _ hh h=>h.of_heap hh) aCm started (by kernel_rfl) func4
  (ChangeSpec.witness_shaped (enc:=enc) (C:=Tryz.checked) (os:=os) (X:=fun w _=>laidMetH Tryz.prog nV w) false (World.doorLaid Tryz.prog 16 os) #[.int .i64 0,.slice none 0 0] 8 rfl (World.shaped_of_RefB (by kernel_rfl) (by kernel_rfl)) (by kernel_rfl) (by kernel_rfl) (by kernel_rfl) (door_met os _)) ?_
 intro W base args ds gs before hval0 hW _ _ hL _;have hval:∀(j:Nat) t v,Tryz.f4.params[j]?=some t->args[j]?=some v->Value.okWide Tryz.prog W .any base t v:=hval0;have hW':=hW;obtain⟨p,q,hA0,hV0,rfl,hfz,hnd⟩:=hW;have hA:DataW.TrodAll enc Tryz.prog W 0 (fun _=>true) true Tryz.f4.params.toList args.toList ds p:=hA0;have hV:DataW.TrodVars enc Tryz.prog W (fun _=>true) ["loop.example/s01330/impl.formats"] gs q:=hV0;rw[Tryz.params4]at hA hval;obtain⟨v0,vs0,d0,ds0,p0,q0,hargs,rfl,rfl,h0,r0⟩:=trodAll_cons hA;obtain⟨v1,vs1,d1,ds1,p1,q1,rfl,rfl,rfl,h1,r1⟩:=trodAll_cons r0;obtain⟨rfl,rfl,rfl⟩:=trodAll_nil r1;obtain rfl:args=#[v0,v1]:=by cases args;simp_all
 obtain rfl:=fQ hL hV;obtain⟨a0,rfl,rfl,rfl,w0⟩:=open_int Tryz.underlying3 (hval 0 3 v0 rfl rfl) h0;have b0:=bounds_i64 w0;obtain⟨a1,len1,cap1,rfl⟩:=okWide_slice Tryz.underlying27 (hval 1 27 v1 rfl rfl);have k1:=h1;have lt1:∀x ∈ p1,x.block<W.heap.size:=by obtain⟨m,hm⟩:=k1;exact DataW.trod_lt m _ _ _ hm
 have w1:len1=0\/∃(x:Addr) (zs:List Int),a1=some x/\len1<=zs.length/\(∀i,i<zs.length->W.cell? (x.add i)=some (.int .u64 (zs.getD i 0)))/\∀n ∈ zs,(Lit.int .u64 n).wf =true:=by
  obtain⟨fuel,hf⟩:=h1;rcases open_ints Tryz.underlying27 Tryz.underlying33 (by kernel_rfl) hf with⟨hcs,_⟩|⟨x,l,c,zs,hcs,_,hl,hm,hz,_,hcell,hwz⟩
  ·simp[Value.cells]at hcs;obtain⟨rfl,rfl,rfl⟩:=hcs;exact .inl rfl
  ·simp[Value.cells]at hcs;obtain⟨rfl,rfl,rfl⟩:=hcs;have hz':zs.length=cap1:=by simpa using hz
   exact .inr ⟨x,zs,rfl,om,hcell,hwz⟩
 clear hA0 hV0 hval0;refine(walk a0 om om a1 len1 cap1 W (uw hL) w1).mono fun e W' ⟨he,hgb⟩=>?_;have bel:Below W.heap.size W W':=hgb;subst he;exact⟨_,rfl,_,_,_,[],_,_,hW',(trodAll_cons_mk (shut_bool Tryz.underlying4 _) trodAll_mk0),(trodAll_cons_mk (shut_int Tryz.underlying3 w0) (trodAll_cons_mk (Below.trod laidOut (by kernel_rfl) (of_decide_eq_true (by kernel_rfl)) k1 bel lt1) trodAll_mk0)),gu enc hgb (cells_of_laid hL) _,Below.frame hgb _,fun h=>by cases h⟩
theorem over:Rows.fnExactTransformRow.holds Tryz.pinned (OpenSpec.ofChange Rows.fnExactTransformSpec):=
 OpenClaim.holds_of_wide 4 Tryz.f4 rfl rfl rfl rfl rfl rfl rfl ⟨rfl,rfl,rfl,rfl,rfl⟩ rfl rfl rfl rfl rfl (by kernel_rfl) func4 (by kernel_rfl)
  (of_decide_eq_true (by kernel_rfl)) (by unfold Func.isWrapper;first|(rw[if_pos (by decide+kernel)];kernel_rfl)|(rw[if_neg (by decide+kernel)];exact⟨rfl,rfl⟩))
  (fun os started H enc _=>lifted os started H enc)
end Go.Proofs.YtmiekgjgpmfekaaGreatDoor.fnExactTransform
namespace Go.Proofs.YtmiekgjgpmfekaaGreatDoor
open Go
theorem FnExactTransform_holds:Rows.FnExactTransformCardSaid:=
 Claim7.holds_tied_plain_at .later [] [.wider] true (true,"4a6e21431519bc8fa0358fc74cf5071266168f51db2d33ec99ab440d42f880d6") false
  fnExactTransform.over (fun _ h=>by cases h) (by kernel_rfl) (fun _ h=>by cases h) fnExactTransform_row_tie rfl ⟨rfl,rfl⟩ (by kernel_rfl) rfl
  (fun f fn hf hfn=>by
   obtain rfl:f=4:=Option.some.inj ((show Tryz.prog.funcNamed "loop.example/s01330/laws.FnExactTransform" =some 4 by kernel_rfl).symm.trans hf)|>.symm
   obtain rfl:fn=Tryz.f4:=(Option.some.inj (func4.symm.trans hfn)).symm;exact⟨by kernel_rfl,fun j t ht=>by
    rw[Tryz.params4]at ht;have hm:t ∈ [3,27]:=by simpa using Array.mem_of_getElem? ht
    have hall:([3,27].all fun u=> !Tryz.prog.wantsStandIn u)=true:=by kernel_rfl
    exact(show Tryz.prog.wantsStandIn t=false by simpa using List.all_eq_true.1 hall t hm)⟩)
  (by kernel_rfl)
#print axioms FnExactTransform_holds
