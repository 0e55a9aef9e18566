import Derived.Test.YtmiekgjgpmfekaaGreatDoorEa
import Derived.Test.YtmiekgjgpmfekaaGreatDoorM4
import Derived.Test.YtmiekgjgpmfekaaGreatDoorLaid
import Derived.Test.YtmiekgjgpmfekaaGreatDoorCards
import Derived.Test.YtmiekgjgpmfekaaGreatDoorTie
import Derived.ShutString
import Derived.ChangeOld
import Derived.Below
import Derived.Deep.SlicePairs
import Derived.Lib.SmallJoins
import Derived.SevenTiedAt
set_option linter.all false
open Go.Proofs.Tryz
namespace Go.Proofs.YtmiekgjgpmfekaaGreatDoor
open Go.RowKit
theorem NY(k:Int)(k0:-9223372036854775808<=k)(k1:k<9223372036854775808)(a:Option Addr)(n cap:Nat)(zs:Nat->Int × Int)(hcs:∀j,lX (zs j)){w:World}(hw:Fm w)(ha:XA w a n (flat zs))(hn:n<=1048576):
  QB 6 #[.int .i64 k,.slice a n cap] w (.bool true):=by
 obtain⟨SL⟩:=CY;have hch:Inhabited Ch:=⟨SL⟩;exact aCy vO yO jR k a n cap zs hcs hw ha hn
end Go.Proofs.YtmiekgjgpmfekaaGreatDoor
set_option maxRecDepth 1000000
namespace Go.Proofs.YtmiekgjgpmfekaaGreatDoor.fnExactBack
open Go.ChangeShapes Go.WideShapes Go.ChangeAt Go.RowKit Go.Joins
theorem laidOut:laidOutB Tryz.prog=true:=by kernel_rfl
theorem aBK(a:Option Addr)(n cap:Nat)(w:World)(h:1048576<n)(h':n<=9223372036854775807):QW 24 #[.slice a n cap,.int .i64 1048576] w (.int .i64 (-1)):=by
 have u:IntKind.i64.wrap (1048576-(n:Int))=1048576-(n:Int):=wi;have hl:1048576-(n:Int)<0:=om;go_enter func24,ntmps24;go_wp2;go_returns;exact⟨rfl,rfl⟩
theorem Fh(k:Int)(a:Option Addr)(len cap:Nat)(w:World)(h:1048576<len)(h':len<=9223372036854775807):
  QB 6 #[.int .i64 k,.slice a len cap] w (.bool true):=by
 have HS:KW 24 #[.slice a len cap,.int .i64 1048576] (.int .i64 (-1)):=fun w=>aBK a len cap w h h';go_enter func6,ntmps6;go_wp2_with (go_at_call 24;refine kw (HS _) ?_);go_ret;exact⟨rfl,Gb.refl _⟩
theorem walk(k:Int)(k0:-9223372036854775808<=k)(k1:k<9223372036854775808)(a:Option Addr)(len cap:Nat)(w:World)(hw:Fm w)
  (h:len=0\/len<=9223372036854775807/\∃(x:Addr) (v0 v1:Nat->Int),a=some x/\∀i,i<len->w.cell? (x.add (i*2))=some (.int .u64 (v0 i))/\w.cell? (x.add (i*2+1))=some (.int .u64 (v1 i))/\(Lit.int .u64 (v0 i)).wf =true/\(Lit.int .u64 (v1 i)).wf =true):
  QB 6 #[.int .i64 k,.slice a len cap] w (.bool true):=by
 rcases(show len=0\/0<len by omega)with e|hp
 ·exact NY k k0 k1 a len cap (fun _=>(0,0)) (fun _=>⟨kG,kG⟩) hw (.inl e) om
 ·rcases h with e|⟨hm,x,v0,v1,rfl,hc⟩
  ·omega
  ·rcases(show len<=1048576\/1048576<len by omega)with hl|hl
   ·have hz:∀i,i<len*2->w.cell? (x.add i)=some (.int .u64 (flat (fun j=>(v0 j,v1 j)) i)):=fun i hi=>by
     rcases(show i=i/2*2\/i=i/2*2+1 by omega)with e|e
     ·have:=(hc (i/2) om).1;rw[<-e]at this;rw[this];unfold flat;rw[if_pos (by omega)]
     ·have:=(hc (i/2) om).2.1;rw[<-e]at this;rw[this];unfold flat;rw[if_neg (by omega)]
    have hy:∀i,i<((List.range (len*2)).map (flat fun j=>(v0 j,v1 j))).length ->w.cell? (x.add i)=some (.int .u64 (((List.range (len*2)).map (flat fun j=>(v0 j,v1 j))).getD i 0)):=fun i hi=>by
     simp at hi;rw[hz i hi,List.getD_eq_getElem?_getD];simp[hi]
    obtain⟨b,off,rfl,hcell⟩:=ints_at hy (by simp;omega);refine NY k k0 k1 _ len cap (fun j=>if j<len then(v0 j,v1 j)else(0,0)) (fun j=>?_) hw (.inr ⟨b,off,rfl,fun i hi=>?_⟩) hl
    ·by_cases hj:j<len
     ·rw[if_pos hj];have a0:=bounds_u64 (hc j hj).2.2.1;have a1:=bounds_u64 (hc j hj).2.2.2;exact⟨⟨a0.1,by dsimp only;omega⟩,⟨a1.1,by dsimp only;omega⟩⟩
     ·rw[if_neg hj];exact⟨kG,kG⟩
    ·show _=_;rw[hcell i (by simpa using hi),List.getD_eq_getElem?_getD];have:i/2<len:=om;simp[hi,flat,this]
   ·exact Fh k _ len cap w hl hm
theorem lifted(os:Os)(started:os.Started)(H:Type)(enc:TypeId × Value->H):
  ReturnsInHanded {} Tryz.checked os 6 .any (fun w args=>(Rows.fnExactBackSpec.pre enc Tryz.prog Tryz.f6 [] false w args/\laidMetH Tryz.prog nV w)/\sizedMet enc Tryz.prog Tryz.f6 (OpenSpec.ofChange Rows.fnExactBackSpec) false w args)
   (Rows.fnExactBackSpec.post enc Tryz.prog Tryz.f6 false true false false):=by
 refine returnsInHanded_of_change_and (C:=Tryz.checked) (X:=fun w _=>laidMetH Tryz.prog nV w) (fun _ _ _ hh h=>h.of_heap hh) aCm started (by kernel_rfl) func6
  (ChangeSpec.witness_shaped (enc:=enc) (C:=Tryz.checked) (os:=os) (X:=fun w _=>laidMetH Tryz.prog nV w) false (World.doorLaid Tryz.prog 16 os) #[.int .i64 0,.slice none 0 0] 8 rfl (World.shaped_of_RefB (by kernel_rfl) (by kernel_rfl)) (by kernel_rfl) (by kernel_rfl) (by kernel_rfl) (door_met os _)) ?_
 intro W base args ds gs before hval0 hW _ _ hL _;have hval:∀(j:Nat) t v,Tryz.f6.params[j]?=some t->args[j]?=some v->Value.okWide Tryz.prog W .any base t v:=hval0;have hW':=hW;obtain⟨p,q,hA0,hV0,rfl,hfz,hnd⟩:=hW;have hA:DataW.TrodAll enc Tryz.prog W 0 (fun _=>true) true Tryz.f6.params.toList args.toList ds p:=hA0;have hV:DataW.TrodVars enc Tryz.prog W (fun _=>true) ["loop.example/s01330/impl.formats"] gs q:=hV0;rw[Tryz.params6]at hA hval;obtain⟨v0,vs0,d0,ds0,p0,q0,hargs,rfl,rfl,h0,r0⟩:=trodAll_cons hA;obtain⟨v1,vs1,d1,ds1,p1,q1,rfl,rfl,rfl,h1,r1⟩:=trodAll_cons r0;obtain⟨rfl,rfl,rfl⟩:=trodAll_nil r1;obtain rfl:args=#[v0,v1]:=by cases args;simp_all
 obtain rfl:=fQ hL hV;obtain⟨a0,rfl,rfl,rfl,w0⟩:=open_int Tryz.underlying3 (hval 0 3 v0 rfl rfl) h0;have b0:=bounds_i64 w0;obtain⟨a1,len1,cap1,rfl⟩:=okWide_slice Tryz.underlying39 (hval 1 39 v1 rfl rfl);have k1:=h1;have lt1:∀x ∈ p1,x.block<W.heap.size:=by obtain⟨m,hm⟩:=k1;exact DataW.trod_lt m _ _ _ hm
 have w1:len1=0\/len1<=9223372036854775807/\∃(x:Addr) (v0 v1:Nat->Int),a1=some x/\∀i,i<len1->W.cell? (x.add (i*2))=some (.int .u64 (v0 i))/\W.cell? (x.add (i*2+1))=some (.int .u64 (v1 i))/\(Lit.int .u64 (v0 i)).wf =true/\(Lit.int .u64 (v1 i)).wf =true:=by
  obtain⟨fuel,hf⟩:=h1;rcases Go.Deep.open_slice_pairs Tryz.underlying39 Tryz.underlying98 (by kernel_rfl) rfl rfl (by kernel_rfl) (by kernel_rfl) hf with⟨hcs,_⟩|⟨x,l,c,m,n,V0,V1,D0,D1,P0,P1,hcs,_,hl,hm,hmm,_,hx⟩
  ·simp[Value.cells]at hcs;obtain⟨rfl,rfl,rfl⟩:=hcs;exact .inl rfl
  ·simp[Value.cells]at hcs;obtain⟨rfl,rfl,rfl⟩:=hcs;have hm':cap1<=9223372036854775807:=hm;refine .inr ⟨om,x,fun i=>intOf (V0 i),fun i=>intOf (V1 i),rfl,fun i hi=>?_⟩;have hmc:m=cap1:=by simpa using hmm
   obtain⟨c0,c1,t0,t1⟩:=hx i om;obtain⟨z0,e0,_,y0⟩:=DataW.trod_int Tryz.underlying33 t0;obtain⟨z1,e1,_,y1⟩:=DataW.trod_int Tryz.underlying33 t1;simp at e0 e1;rw[e0]at c0;rw[e1]at c1;have i0:intOf (V0 i)=z0:=by rw[e0];rfl
   have i1:intOf (V1 i)=z1:=by rw[e1];rfl
   exact⟨c0.trans (by show some (Value.int .u64 z0)=some (Value.int .u64 (intOf (V0 i)));rw[i0]),c1.trans (by show some (Value.int .u64 z1)=some (Value.int .u64 (intOf (V1 i)));rw[i1]),by show(Lit.int .u64 (intOf (V0 i))).wf =true;rw[i0];exact y0,by show(Lit.int .u64 (intOf (V1 i))).wf =true;rw[i1];exact y1⟩
 clear hA0 hV0 hval0;refine(walk a0 om om a1 len1 cap1 W (uw hL) w1).mono fun e W' ⟨he,hgb⟩=>?_;have bel:Below W.heap.size W W':=hgb;subst he;exact⟨_,rfl,_,_,_,[],_,_,hW',(trodAll_cons_mk (shut_bool Tryz.underlying4 _) trodAll_mk0),(trodAll_cons_mk (shut_int Tryz.underlying3 w0) (trodAll_cons_mk (Below.trod laidOut (by kernel_rfl) (of_decide_eq_true (by kernel_rfl)) k1 bel lt1) trodAll_mk0)),gu enc hgb (cells_of_laid hL) _,Below.frame hgb _,fun h=>by cases h⟩
theorem over:Rows.fnExactBackRow.holds Tryz.pinned (OpenSpec.ofChange Rows.fnExactBackSpec):=
 OpenClaim.holds_of_wide 6 Tryz.f6 rfl rfl rfl rfl rfl rfl rfl ⟨rfl,rfl,rfl,rfl,rfl⟩ rfl rfl rfl rfl rfl (by kernel_rfl) func6 (by kernel_rfl)
  (of_decide_eq_true (by kernel_rfl)) (by unfold Func.isWrapper;first|(rw[if_pos (by decide+kernel)];kernel_rfl)|(rw[if_neg (by decide+kernel)];exact⟨rfl,rfl⟩))
  (fun os started H enc _=>lifted os started H enc)
end Go.Proofs.YtmiekgjgpmfekaaGreatDoor.fnExactBack
namespace Go.Proofs.YtmiekgjgpmfekaaGreatDoor
open Go
theorem FnExactBack_holds:Rows.FnExactBackCardSaid:=
 Claim7.holds_tied_plain_at .later [] [.wider] true (true,"4a6e21431519bc8fa0358fc74cf5071266168f51db2d33ec99ab440d42f880d6") false
  fnExactBack.over (fun _ h=>by cases h) (by kernel_rfl) (fun _ h=>by cases h) fnExactBack_row_tie rfl ⟨rfl,rfl⟩ (by kernel_rfl) rfl
  (fun f fn hf hfn=>by
   obtain rfl:f=6:=Option.some.inj ((show Tryz.prog.funcNamed "loop.example/s01330/laws.FnExactBack" =some 6 by kernel_rfl).symm.trans hf)|>.symm
   obtain rfl:fn=Tryz.f6:=(Option.some.inj (func6.symm.trans hfn)).symm;exact⟨by kernel_rfl,fun j t ht=>by
    rw[Tryz.params6]at ht;have hm:t ∈ [3,39]:=by simpa using Array.mem_of_getElem? ht
    have hall:([3,39].all fun u=> !Tryz.prog.wantsStandIn u)=true:=by kernel_rfl
    exact(show Tryz.prog.wantsStandIn t=false by simpa using List.all_eq_true.1 hall t hm)⟩)
  (by kernel_rfl)
#print axioms FnExactBack_holds
