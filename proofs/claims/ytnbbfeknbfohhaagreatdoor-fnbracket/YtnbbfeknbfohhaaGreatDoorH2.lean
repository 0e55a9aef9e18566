import Derived.Test.YtnbbfeknbfohhaaGreatDoorA1
import Derived.RangeFuncNested
import Derived.RangeFuncBound
import Derived.RangeFuncCalls
import Derived.RangeFuncLeaves
import Derived.Shelf.Abstract
import Derived.Shelf.RegionOpen
import Derived.OwnWalkIn
import Derived.TacticsInMore
import Derived.LoopNIn
import Derived.LoopIn
import Derived.Test.YtnbbfeknbfohhaaGreatDoorH1
import Derived.Test.YtnbbfeknbfohhaaGreatDoorA2
import Derived.Sort.LoopGhostIn
import Derived.Lib.BitFns
import Derived.Deep.Onto
import Derived.Test.YtnbbfeknbfohhaaGreatDoorA7
set_option linter.unusedVariables false
set_option linter.unusedSimpArgs false
open Go.Value renaming int → Y
open Go.IntKind renaming i64 → Z, u64 → O
open Go.Ending renaming returned → E
open Go.Proofs.Tryz
namespace Go.Proofs.YtnbbfeknbfohhaaGreatDoor
open Go.RowKit
structure Calm (B:Nat) (I:World→Prop):Prop where
 put:∀W l o o',I W→B≤l→W.heap[l]?=some o→o.isCells=false→o'.isCells=false→I (W.putObj l o')
 new:∀W o,I W→o.isCells=false→I (W.alloc o)
 cells:∀W c t,I W→I (W.alloc (.cells c t))
 drew:∀W,I W→I W.drew
theorem Calm.mono{B B':Nat}{I:World→Prop}(h:Calm B I)(hb:B≤B'):Calm B' I:=⟨fun W l o o' a b=>h.put W l o o' a (Nat.le_trans hb b),h.new,h.cells,h.drew⟩
theorem Calm.and{B:Nat}{I J:World→Prop}(h:Calm B I)(k:Calm B J):Calm B (fun W=>I W∧J W):=
 ⟨fun W l o o' a b c d e=>⟨h.put W l o o' a.1 b c d e,k.put W l o o' a.2 b c d e⟩,fun W o a b=>⟨h.new W o a.1 b,k.new W o a.2 b⟩,fun W c t a=>⟨h.cells W c t a.1,k.cells W c t a.2⟩,fun W a=>⟨h.drew W a.1,k.drew W a.2⟩⟩
theorem Gr.aBF{W w:World}(h:Gr W w)(o:Obj)(ho:o.isCells=false):Gr W (w.alloc o):=by
 refine⟨⟨World.keptBut_trans h.grown.1 (World.keptBut_alloc _ _ _),fun a=>?_,Nat.le_trans h.grown.2.2 (by simp)⟩,h.below.alloc h.below.size o⟩
 rw[←h.grown.2.1 a]
 by_cases e:a.block=w.heap.size
 ·have e1:(w.alloc o).heap[a.block]?=some o:=by rw[e];exact(MapKept.heap_alloc w _).1
  have e2:w.heap[a.block]?=none:=by rw[e];simp
  unfold World.frozen?
  rw[e1,e2]
  cases o<;>first|rfl|(simp[Obj.isCells]at ho)
 ·exact World.frozen?_alloc_old _ _ _ e
theorem Ar(B l:Nat)(o:Obj)(hl:l<B):Calm B (fun W=>W.heap[l]?=some o):=
  ⟨fun W k o1 o2 h hk hb _ _=>(World.putObj_heap_other om).trans h,
   fun W o1 h _=>(Below.heap_alloc W o1 l (Array.getElem?_eq_some_iff.1 h).1).trans h,
   fun W c t h=>(Below.heap_alloc W _ l (Array.getElem?_eq_some_iff.1 h).1).trans h,
   fun W h=>h⟩
theorem qY{W:World}{p:Addr}{v:Value}(o:Obj)(h:W.cell? p=some v):(W.alloc o).cell? p=some v:=by
 obtain⟨q,hq,hc⟩:=cells_of_cell h
 unfold World.cell? at h⊢
 rw[Below.heap_alloc W o _ (Array.getElem?_eq_some_iff.1 hq).1]
 exact h
theorem oO(B:Nat)(p:Addr)(v:Value):Calm B (fun W=>W.cell? p=some v):=
  ⟨fun W l o o' h _ hl ho _=>by
      have:=cells_of_cell h
      obtain⟨q,hq,hc⟩:=this
      have hne:p.block≠l:=by intro e;rw[e,hl]at hq;cases hq;rw[ho]at hc;cases hc
      unfold World.cell? at h⊢
      rw[World.putObj_heap_other (by omega)];exact h,
   fun W o h _=>qY o h,fun W c t h=>qY _ h,fun W h=>h⟩
def Hands(F:Fence)(n:Nat)(P:Program)(g:Nat)(lb:Array Value)(n₀ N:Nat)(encs:Nat→Array Value)(w:World):Prop:=
 ∀(l:Nat) (J:Nat→World→Prop) (Jx:World→Prop) (W:World),Below n₀ w W→(∀i,Calm W.heap.size (J i))→
  (∀i W1,i<N→J i W1→YieldAt F (n-1) P l (encs i) W1 fun e W'=>(i+1<N∧e=E (.bool true)∧J (i+1) W'∧Below n₀ W1 W')∨(i+1=N∧e=E (.bool false)∧Jx W'))→
  J 0 W→CallsIn F n P g (#[.func (.yield l) #[] #[]]++lb) W fun e W'=>(∃v,e=E v)∧Jx W'
def aAh(n₀ N id:Nat)(I:Nat→World→Prop)(Ix:World→Prop)(i:Nat)(W:World):Exit→Act→World→Prop
 | .normal,_,W'=>i+1<N∧KeepsOthers W W'∧Below n₀ W W'∧I (i+1) W'
 | .exit d,_,W'=>i+1=N∧d=id∧KeepsOthers W W'∧Ix W'
 | .ret,_,_=>False
 | .goto _,_,_=>False
 | .panic _,_,_=>False
 | .outgrown,_,_=>False
theorem xH{F:Fence}{n:Nat}{P:Program}{g:Operand}{ps:Array Tmp}{assign body:Code}{Q:Exit→Act→World→Prop}{a:Act}{w:World}
  (hro:F.round=none) (h1:1≤n) {gf:Nat} {lb:Array Value} (hg:a.eval g=.func (.func gf) #[] lb) (hFg:F.fn gf) (eg:∀args w,(callFunc gf args).run P w=.ok (.enter gf args) w)
  {n₀ N:Nat} {encs:Nat→Array Value} {w0:World} (hseq:Hands F (n-1) P gf lb n₀ N encs w0) (hn₀:n₀≤w.heap.size) (hb0:Below n₀ w0 w) (hps:∀i,(encs i).size =ps.size)
  (id:Nat) (I:Nat→World→Prop) (Ix:World→Prop) (hI:∀i,Calm w.heap.size (I i)) (hIx:Calm w.heap.size Ix) (h0:I 0 w) (a₁:Nat→Act)
  (hassign:∀(l i:Nat) (W:World) (K:Act→World→Prop),K (a₁ i) W→
   assign.wpIn (F.inRound l) (n-1-1) P (Exit.then K (fun _ _ _=>False)) {tmps:=(ps.zip (encs i)).foldl (fun t (p,v)=>t.setIfInBounds p v) a.tmps,defers:=[]} W)
  (hbody:∀(l i:Nat) (W:World),i<N→I i W→body.wpIn (F.inRound l) (n-1-1) P (aAh n₀ N id I Ix i W) (a₁ i) W)
  (hstop:∀(D:Nat) (W:World),w.heap.size≤D→Ix W→W.heap[D]?=some (.deferred (some []))→(Code.exit id).wpIn F n P Q {a with defers:={target:=.collected D,args:=#[]}::a.defers} W):
  (Code.rangeFunc g ps assign body).wpIn F n P Q a w:=by
 refine wpIn_rangeFunc (fun fn hfn=>?_)
 rw[hro]
 obtain⟨rc,hrc⟩:∃rc:LoopState→Option Code→Loop,rc=fun st pe=>{state:=st,pending:=pe,fn,tmps:=a.tmps,params:=ps,assign,body,defers:=w.heap.size}:=⟨_,rfl⟩
 obtain⟨w1,hw1⟩:∃w1,w1=(w.alloc (.deferred (some []))).alloc (.loop (rc .ready none)):=⟨_,rfl⟩
 have hs1:w1.heap.size=w.heap.size+1+1:=by rw[hw1];simp
 have hL:w1.heap[w.heap.size+1]?=some (.loop (rc .ready none)):=by
  rw[hw1];have:=World.alloc_heap_new (w.alloc (.deferred (some []))) (.loop (rc .ready none));rwa [World.size_alloc]at this
 have hD:w1.heap[w.heap.size]?=some (.deferred (some [])):=by rw[hw1];exact(Below.heap_alloc _ _ _ (by simp)).trans (World.alloc_heap_new w _)
 have hI1:I 0 w1:=by rw[hw1];exact(hI 0).new _ _ ((hI 0).new _ _ h0 rfl) rfl
 have hB1:Below n₀ w0 w1:=by
  rw[hw1];exact hb0.trans (((Below.refl n₀ w).alloc hn₀ _).alloc (by simp;omega) _)
 refine⟨w.heap.size+1,[{target:=.collected w.heap.size,args:=#[]}],w1,{target:=.fn (.func gf) lb,args:=#[.func (.yield (w.heap.size+1)) #[] #[]]},w1,gf,
  #[.func (.yield (w.heap.size+1)) #[] #[]]++lb,w1,?_,?_,?_,?_,fun _=>h1,?_⟩
 ·rw[hw1,hrc];exact run_enterLoop_outer _ _ _ _ _
 ·simp only[resolve,hg]
  simp[go_sem]
 ·intro f' hf';simp[Target.leads]at hf';subst hf';exact hFg
 ·simp[invoke,go_sem,eg]
 refine(hseq (w.heap.size+1) (fun i W=>I i W∧W.heap[w.heap.size+1]?=some (.loop (rc .ready none))∧W.heap[w.heap.size]?=some (.deferred (some [])))
  (fun W=>Ix W∧W.heap[w.heap.size+1]?=some (.loop (rc .done (some (.exit id))))∧W.heap[w.heap.size]?=some (.deferred (some []))) w1 hB1
  (fun i=>((hI i).mono om).and ((Ar _ _ _ om).and (Ar _ _ _ om))) ?_ ⟨hI1,hL,hD⟩).mono ?_
 ·rintro i W hi ⟨hIi,hl,hd⟩
  have hy:=run_yield (P:=P) (args:=encs i) hl (by rw[hrc];exact hps i)
  rw[hrc]at hy
  refine⟨fn,_,assign,body,hy,roundIn_of_wpIn hfn (hassign _ i W _ ⟨_,run_beginRound hl (by rw[hrc]),?_⟩)⟩
  obtain⟨V,hV⟩:∃V,V=W.putObj (w.heap.size+1) (.loop {rc .ready none with state:=.busy}):=⟨_,rfl⟩
  have hlt:=(Array.getElem?_eq_some_iff.1 hl).1
  have hl2:V.heap[w.heap.size+1]?=some (.loop {rc .ready none with state:=.busy}):=by rw[hV];exact World.putObj_heap_same hlt
  have hd2:V.heap[w.heap.size]?=some (.deferred (some [])):=by rw[hV];exact(World.putObj_heap_other om).trans hd
  have hBV:Below n₀ W V:=by rw[hV];exact belowK_b hn₀ _ _ _ _ om hl rfl rfl
  have hIV:I i V:=by rw[hV];exact(hI i).put _ _ _ _ hIi om hl rfl rfl
  rw[←hV]
  refine wpIn_mono (hbody _ i V hi hIV) ?_
  have fin:∀(j:Option Code) (X:World),KeepsOthers V X→X.heap[w.heap.size+1]?=some (.loop {rc .ready none with state:=.busy})∧
    (Instr.endRound (w.heap.size+1) j).run P X=.ok (.bool j.isNone) (X.putObj (w.heap.size+1) (.loop (rc (if j.isNone then .ready else .done) j)))∧
    (X.putObj (w.heap.size+1) (.loop (rc (if j.isNone then .ready else .done) j))).heap[w.heap.size+1]?=some (.loop (rc (if j.isNone then .ready else .done) j))∧
    (X.putObj (w.heap.size+1) (.loop (rc (if j.isNone then .ready else .done) j))).heap[w.heap.size]?=some (.deferred (some [])):=fun j X hk=>by
   have hl3:=hk.same _ _ hl2 rfl
   have he:=run_endRound (P:=P) j hl3
   have hd3:=hk.same _ _ hd2 rfl
   refine⟨hl3,?_,World.putObj_heap_same (Array.getElem?_eq_some_iff.1 hl3).1,(World.putObj_heap_other om).trans hd3⟩
   rw[hrc]at he⊢
   exact he
  intro e a3 X hp
  cases e with
  |normal=>
   obtain⟨hlt2,hk,hb,hi2⟩:=hp
   obtain⟨hl3,hr,hl4,hd4⟩:=fin none X hk
   exact⟨_,_,hr,.inl ⟨hlt2,rfl,⟨(hI _).put _ _ _ _ hi2 om hl3 rfl rfl,hl4,hd4⟩,(hBV.trans hb).trans (belowK_b hn₀ _ _ _ _ om hl3 rfl rfl)⟩⟩
  |exit d=>
   obtain⟨he,rfl,hk,hx⟩:=hp
   obtain⟨hl3,hr,hl4,hd4⟩:=fin (some (.exit d)) X hk
   exact⟨_,_,hr,.inr ⟨he,rfl,hIx.put _ _ _ _ hx om hl3 rfl rfl,hl4,hd4⟩⟩
  |ret=>exact hp.elim
  |goto t=>exact hp.elim
  |panic ch=>exact hp.elim
  |outgrown=>exact hp.elim
 ·rintro e X ⟨⟨v,rfl⟩,hx,hl,hd⟩
  have he:=run_endLoop (P:=P) hl (by rw[hrc];simp)
  rw[show(rc LoopState.done (some (Code.exit id))).pending =some (Code.exit id) by rw[hrc]]at he
  exact⟨some (.exit id),_,he,hstop _ _ (Nat.le_refl _) (hIx.put _ _ _ _ hx om hl rfl rfl) ((World.putObj_heap_other om).trans hd)⟩
set_option maxRecDepth 1000000
open Go.RowKit Go.Shelf
theorem MZ{P:Prop}(h:P:=by
 refine⟨fun h=>(by cases h),?_⟩
 refine hR.mono ?_
 rintro e W3 (⟨hlt,rfl,hJ3,hk3⟩|⟨heq,rfl,hJx3⟩)
 ·gi_wp2
  gi_roundg (N-(k+1))
  case rel=>
   obtain⟨n1,n2⟩:=HN.out
   have hs1:=HR2.out
   have hv1:=HV.out
   refine⟨k+1,hlt,rfl,?_,?_,?_,hJ3,hB.trans hk3⟩
   ·rw[←n1,hs1]
   ·rw[←n1,hs1];dsimp only;go_num
   ·rw[←n2,hv1];go_num
  case measure=>omega
 ·gi_wp2
  refine bodyPost_ret (results_none rfl _ _ _) rfl ?_
  exact⟨⟨_,rfl⟩,hJx3⟩):P:=h
attribute [local go_sem] Oper.semAt_some
theorem Dy(a b:Nat)(ha:a<18446744073709551616)(hb:b<18446744073709551616):bits .or O (a:Int) (b:Int)=((a|||b:Nat):Int)∧a|||b<18446744073709551616:=by
 have h:a|||b<2^64:=Nat.or_lt_two_pow (by simpa using ha) (by simpa using hb)
 exact⟨u64_or_nat a b ha hb,by simpa using h⟩
theorem VE(c:Nat→Nat→Nat)(N k:Nat)(hN:N<18446744073709551616):(dS c N k).1 <18446744073709551616∧(dS c N k).2 <18446744073709551616:=by
 induction k with
 |zero=>rw[dS];exact⟨by dsimp only;omega,hN⟩
 |succ k ih=>
  have hw:dW k<18446744073709551616:=by unfold dW;exact Nat.lt_of_le_of_lt (Nat.div_le_self _ _) de
  rw[dS]
  split
  ·exact⟨(Dy _ _ ih.1 hw).2,Nat.mod_lt _ de⟩
  ·exact⟨ih.1,Nat.mod_lt _ de⟩
theorem XF(B D:Nat)(b v:Int){w:World}(h:w.cell? ⟨B,0,none⟩=some (Y O (D:Int))):
  CT 242 #[Y O b,Y O v,.pointer (some ⟨B,0,none⟩)] w fun e w'=>e=E (Y O (D:Int))∧w'=w:=by
 go_enter func242,ntmps242
 go_wp2
 go_returns
 exact⟨rfl,rfl⟩
theorem TS(b v:Nat)(w:World):
  CT 243 #[Y O (b:Int),Y O (v:Int)] w fun e w'=>e=E (Y O ((aO b v:Nat):Int))∧w'=w:=by
 have e1:((aO b v:Nat):Int)=IntKind.u64.wrap (IntKind.u64.wrap (2*(b:Int))+(v:Int)):=by rw[IntKind.wrap_u64,IntKind.wrap_u64];unfold aO;omega
 go_enter func243,ntmps243
 go_wp2
 go_returns
 exact⟨by rw[e1];rfl,rfl⟩
theorem P5(n N Nn D n₀ B1 B2 B3:Nat)(hNn:Nn<18446744073709551616)(hD:D<18446744073709551616)(hN:1≤N)(b1:B1<n₀)(b2:B2<n₀)(b3:B3<n₀){w:World}(h1:w.cell? ⟨B1,0,none⟩=some (Y O (Nn:Int)))
  (h2:w.cell? ⟨B2,0,none⟩=some (.func (.func 242) #[] #[.pointer (some ⟨B3,0,none⟩)])) (h3:w.cell? ⟨B3,0,none⟩=some (Y O (D:Int))):
  Hands Fence.wide n Tryz.prog 248 #[.pointer (some ⟨B1,0,none⟩),.pointer (some ⟨B2,0,none⟩)] n₀ N (fun i=>#[Y O ((dD (fun _ _=>D) Nn i:Nat):Int),Y O ((dR (fun _ _=>D) Nn i:Nat):Int)]) w:=by
 intro l J Jx W hW hJ hY h0
 have c1:W.cell? ⟨B1,0,none⟩=some (Y O (Nn:Int)):=(hW.cell (p:=⟨B1,0,none⟩) b1).trans h1
 refine callsIn_of_wp func248 rfl trivial ?_ rfl
 simp only[ntmps248,List.size_toArray,List.length_cons,List.length_nil,Nat.reduceAdd,Nat.reduceSub,Array.replicate_succ,Array.replicate_zero,List.push_toArray,List.append_toArray,List.nil_append,List.cons_append]
 gi_wp2
 gi_loopg [4,5,6] N (fun m b lf v wr=>∃k:Nat,k<N∧m=N-k∧b=Y O ((dS (fun _ _=>D) Nn k).1 :Int)∧lf=Y O ((dS (fun _ _=>D) Nn k).2 :Int)∧v=Y O (dW k:Int)∧J k wr∧Below n₀ w wr)
 case atStart=>exact⟨0,om,rfl,by rw[dS];rfl,by rw[dS],by unfold dW;rfl,h0,hW⟩
 case round=>
  obtain⟨k,hk,rfl,rfl,rfl,rfl,hJk,hB⟩:=hrel
  have c2:wr.cell? ⟨B2,0,none⟩=some (.func (.func 242) #[] #[.pointer (some ⟨B3,0,none⟩)]):=(hB.cell (p:=⟨B2,0,none⟩) b2).trans h2
  have c3:wr.cell? ⟨B3,0,none⟩=some (Y O (D:Int)):=(hB.cell (p:=⟨B3,0,none⟩) b3).trans h3
  obtain⟨fn,tmps,assign,body,hy,hR⟩:=hY k wr hk hJk
  obtain⟨s1,s2⟩:=VE (fun _ _=>D) Nn k hNn
  have hs1:dS (fun _ _=>D) Nn (k+1)=if D≤(dS (fun _ _=>D) Nn k).2 then((dS (fun _ _=>D) Nn k).1 |||dW k,((dS (fun _ _=>D) Nn k).2 -D)*2%18446744073709551616)else((dS (fun _ _=>D) Nn k).1,(dS (fun _ _=>D) Nn k).2 *2%18446744073709551616):=by rw[dS]
  have hd:dD (fun _ _=>D) Nn k=if D≤(dS (fun _ _=>D) Nn k).2 then 1 else 0:=rfl
  have hr:dR (fun _ _=>D) Nn k=if D≤(dS (fun _ _=>D) Nn k).2 then(dS (fun _ _=>D) Nn k).2 -D else(dS (fun _ _=>D) Nn k).2 :=rfl
  have hw1:dW k<18446744073709551616:=by unfold dW;exact Nat.lt_of_le_of_lt (Nat.div_le_self _ _) de
  have hw2:dW (k+1)=dW k/2:=by unfold dW;rw[Nat.pow_succ,Nat.div_div_eq_div_mul]
  obtain⟨S1,hS1⟩:∃x,x=dS (fun _ _=>D) Nn (k+1):=⟨_,rfl⟩
  obtain⟨V1,hV1⟩:∃x,x=dW (k+1):=⟨_,rfl⟩
  rw[←hS1]at hs1
  rw[←hV1]at hw2
  have HN:Hid (S1=dS (fun _ _=>D) Nn (k+1)∧V1=dW (k+1)):=⟨hS1,hV1⟩
  have HV:Hid (V1=dW k/2):=hw2
  clear hS1 hV1 hw2
  generalize dS (fun _ _=>D) Nn k=st at*
  obtain⟨b,L⟩:=st
  dsimp only at*
  generalize dW k=v at*
  generalize dD (fun _ _=>D) Nn k=dd at*
  generalize dR (fun _ _=>D) Nn k=rr at*
  have HC:Hid (∀w,w.cell? ⟨B3,0,none⟩=some (Y O (D:Int))→CT 242 #[Y O (b:Int),Y O (v:Int),.pointer (some ⟨B3,0,none⟩)] w fun e w'=>e=E (Y O (D:Int))∧w'=w):=fun w h=>XF B3 D _ _ h
  by_cases hle:D≤L
  ·rw[if_pos hle]at hs1 hd hr
   subst hd
   have hle':(D:Int)≤(L:Int):=om
   obtain⟨o1,o2⟩:=Dy b v s1 hw1
   generalize b|||v=bv at*
   rw[show((1:Nat):Int)=1 from rfl]at hy
   have g1:(L:Int)-(D:Int)=(rr:Int):=om
   have HR2:Hid (S1=(bv,rr*2%18446744073709551616)):=by show _=_;rw[hs1,hr]
   have hrr:rr<18446744073709551616:=om
   clear hr hs1
   gi_wp2_with (refine⟨trivial,fun h=>(by cases h),?_⟩;refine(callsIn_wide.2 (HC.out _ c3)).mono ?_;rintro e wq ⟨rfl,hwq⟩;subst hwq)
   exact MZ
  ·rw[if_neg hle]at hs1 hd hr
   subst hd
   have hle':¬(D:Int)≤(L:Int):=om
   rw[show((0:Nat):Int)=0 from rfl]at hy
   subst hr
   have HR2:Hid (S1=(b,rr*2%18446744073709551616)):=hs1
   clear hs1
   gi_wp2_with (refine⟨trivial,fun h=>(by cases h),?_⟩;refine(callsIn_wide.2 (HC.out _ c3)).mono ?_;rintro e wq ⟨rfl,hwq⟩;subst hwq)
   exact MZ
theorem Jy(n N Nn n₀ B1 B2:Nat)(hNn:Nn<18446744073709551616)(hN:1≤N)(b1:B1<n₀)(b2:B2<n₀){w:World}(h1:w.cell? ⟨B1,0,none⟩=some (Y O (Nn:Int)))
  (h2:w.cell? ⟨B2,0,none⟩=some (.func (.func 243) #[] #[])):
  Hands Fence.wide n Tryz.prog 248 #[.pointer (some ⟨B1,0,none⟩),.pointer (some ⟨B2,0,none⟩)] n₀ N (fun i=>#[Y O ((dD aO Nn i:Nat):Int),Y O ((dR aO Nn i:Nat):Int)]) w:=by
 intro l J Jx W hW hJ hY h0
 have c1:W.cell? ⟨B1,0,none⟩=some (Y O (Nn:Int)):=(hW.cell (p:=⟨B1,0,none⟩) b1).trans h1
 refine callsIn_of_wp func248 rfl trivial ?_ rfl
 simp only[ntmps248,List.size_toArray,List.length_cons,List.length_nil,Nat.reduceAdd,Nat.reduceSub,Array.replicate_succ,Array.replicate_zero,List.push_toArray,List.append_toArray,List.nil_append,List.cons_append]
 gi_wp2
 gi_loopg [4,5,6] N (fun m b lf v wr=>∃k:Nat,k<N∧m=N-k∧b=Y O ((dS aO Nn k).1 :Int)∧lf=Y O ((dS aO Nn k).2 :Int)∧v=Y O (dW k:Int)∧J k wr∧Below n₀ w wr)
 case atStart=>exact⟨0,om,rfl,by rw[dS];rfl,by rw[dS],by unfold dW;rfl,h0,hW⟩
 case round=>
  obtain⟨k,hk,rfl,rfl,rfl,rfl,hJk,hB⟩:=hrel
  have c2:wr.cell? ⟨B2,0,none⟩=some (.func (.func 243) #[] #[]):=(hB.cell (p:=⟨B2,0,none⟩) b2).trans h2
  obtain⟨fn,tmps,assign,body,hy,hR⟩:=hY k wr hk hJk
  obtain⟨s1,s2⟩:=VE aO Nn k hNn
  have hs1:dS aO Nn (k+1)=if aO (dS aO Nn k).1 (dW k)≤(dS aO Nn k).2 then((dS aO Nn k).1 |||dW k,((dS aO Nn k).2 -aO (dS aO Nn k).1 (dW k))*2%18446744073709551616)else((dS aO Nn k).1,(dS aO Nn k).2 *2%18446744073709551616):=by rw[dS]
  have hd:dD aO Nn k=if aO (dS aO Nn k).1 (dW k)≤(dS aO Nn k).2 then 1 else 0:=rfl
  have hr:dR aO Nn k=if aO (dS aO Nn k).1 (dW k)≤(dS aO Nn k).2 then(dS aO Nn k).2 -aO (dS aO Nn k).1 (dW k)else(dS aO Nn k).2 :=rfl
  have hw1:dW k<18446744073709551616:=by unfold dW;exact Nat.lt_of_le_of_lt (Nat.div_le_self _ _) de
  have hw2:dW (k+1)=dW k/2:=by unfold dW;rw[Nat.pow_succ,Nat.div_div_eq_div_mul]
  obtain⟨S1,hS1⟩:∃x,x=dS aO Nn (k+1):=⟨_,rfl⟩
  obtain⟨V1,hV1⟩:∃x,x=dW (k+1):=⟨_,rfl⟩
  rw[←hS1]at hs1
  rw[←hV1]at hw2
  have HN:Hid (S1=dS aO Nn (k+1)∧V1=dW (k+1)):=⟨hS1,hV1⟩
  have HV:Hid (V1=dW k/2):=hw2
  clear hS1 hV1 hw2
  generalize dS aO Nn k=st at*
  obtain⟨b,L⟩:=st
  dsimp only at*
  generalize dW k=v at*
  generalize dD aO Nn k=dd at*
  generalize dR aO Nn k=rr at*
  have HC:Hid (∀w,CT 243 #[Y O (b:Int),Y O (v:Int)] w fun e w'=>e=E (Y O ((aO b v:Nat):Int))∧w'=w):=fun w=>TS b v w
  have hD:aO b v<18446744073709551616:=by unfold aO;exact Nat.mod_lt _ de
  generalize aO b v=D at*
  by_cases hle:D≤L
  ·rw[if_pos hle]at hs1 hd hr
   subst hd
   have hle':(D:Int)≤(L:Int):=om
   obtain⟨o1,o2⟩:=Dy b v s1 hw1
   generalize b|||v=bv at*
   rw[show((1:Nat):Int)=1 from rfl]at hy
   have g1:(L:Int)-(D:Int)=(rr:Int):=om
   have HR2:Hid (S1=(bv,rr*2%18446744073709551616)):=by show _=_;rw[hs1,hr]
   have hrr:rr<18446744073709551616:=om
   clear hr hs1
   gi_wp2_with (refine⟨trivial,fun h=>(by cases h),?_⟩;refine(callsIn_wide.2 (HC.out _)).mono ?_;rintro e wq ⟨rfl,hwq⟩;subst hwq)
   exact MZ
  ·rw[if_neg hle]at hs1 hd hr
   subst hd
   have hle':¬(D:Int)≤(L:Int):=om
   rw[show((0:Nat):Int)=0 from rfl]at hy
   subst hr
   have HR2:Hid (S1=(b,rr*2%18446744073709551616)):=hs1
   clear hs1
   gi_wp2_with (refine⟨trivial,fun h=>(by cases h),?_⟩;refine(callsIn_wide.2 (HC.out _)).mono ?_;rintro e wq ⟨rfl,hwq⟩;subst hwq)
   exact MZ
set_option maxHeartbeats 40000000
open Go.RowKit Go.Shelf
attribute [local go_sem] Oper.semAt_some
theorem aA8{W:World}{l:Nat}{o':Obj}{a:Addr}(ho:o'.isCells=false)(h:W.frozen? a=false):(W.putObj l o').frozen? a=false:=by
 by_cases e:a.block=l
 ·unfold World.frozen?
  by_cases hl:l<W.heap.size
  ·rw[e,World.putObj_heap_same hl]
   cases o'<;>first|rfl|(simp[Obj.isCells]at ho)
  ·rw[e,show(W.putObj l o').heap[l]?=none from Array.getElem?_eq_none (by simp;omega)]
 ·unfold World.frozen? at h⊢
  rw[World.putObj_heap_other (by omega)]
  exact h
theorem Gr.putObj{W w:World}(h:Gr W w){l:Nat}{o o':Obj}(hl:W.heap.size≤l)(ho:w.heap[l]?=some o)(hc:o.isCells=false)(hc':o'.isCells=false):Gr W (w.putObj l o'):=by
 refine⟨⟨World.keptBut.congr h.grown.1 rfl rfl (fun i hi=>World.putObj_heap_other om),fun a=>?_,Nat.le_trans h.grown.2.2 (by simp)⟩,?_⟩
 ·rw[←h.grown.2.1 a]
  by_cases e:a.block=l
  ·unfold World.frozen?
   rw[e,World.putObj_heap_same (Array.getElem?_eq_some_iff.1 ho).1,ho]
   cases o<;>cases o'<;>first|rfl|(simp[Obj.isCells]at hc hc')
  ·unfold World.frozen?
   rw[World.putObj_heap_other (by omega)]
 ·exact h.below.grown (grownBy_putObj' w l o') h.size (fun k e=>by cases e;exact hl)
theorem Ei(B:Nat)(p:Addr):Calm B (fun W=>W.frozen? p=false):=
  ⟨fun W l o o' h _ _ _ ho=>aA8 ho h,
   fun W o h ho=>by
     by_cases e:p.block=W.heap.size
     · unfold World.frozen?
       rw[show(W.alloc o).heap[p.block]?=some o by rw[e];exact(MapKept.heap_alloc W _).1]
       cases o<;>first|rfl|(simp[Obj.isCells]at ho)
     · exact(World.frozen?_alloc_old _ _ _ e).trans h,
   fun W c t h=>(frozen?_alloc_cells _ _ _ _).trans h,fun W h=>h⟩
theorem Ob(B:Nat)(w:World)(hB:w.heap.size≤B):Calm B (fun W=>Gr w W):=
 ⟨fun W l o o' h hl ho hc hc'=>h.putObj (Nat.le_trans hB hl) ho hc hc',fun W o h ho=>h.aBF o ho,fun W c t h=>h.alloc c t,fun W h=>h.drew⟩
theorem aAs{W:World}{b1 b2 b3:Nat}{x1 x2 x3:Value}(h1:W.cell? ⟨b1,0,none⟩=some x1)(h2:W.cell? ⟨b2,0,none⟩=some x2)(h3:W.cell? ⟨b3,0,none⟩=some x3)(n1:b1≠b2)(n2:b1≠b3)(n3:b2≠b3)(v1 v2 v3:Value):
  (((W.setCell ⟨b1,0,none⟩ v1).setCell ⟨b2,0,none⟩ v2).setCell ⟨b3,0,none⟩ v3).cell? ⟨b3,0,none⟩=some v3∧(((W.setCell ⟨b1,0,none⟩ v1).setCell ⟨b2,0,none⟩ v2).setCell ⟨b3,0,none⟩ v3).cell? ⟨b1,0,none⟩=some v1∧(((W.setCell ⟨b1,0,none⟩ v1).setCell ⟨b2,0,none⟩ v2).setCell ⟨b3,0,none⟩ v3).cell? ⟨b2,0,none⟩=some v2:=by
 have i1:(W.cell? ⟨b1,0,none⟩).isSome =true:=by rw[h1];rfl
 have i2:(W.cell? ⟨b2,0,none⟩).isSome =true:=by rw[h2];rfl
 have i3:(W.cell? ⟨b3,0,none⟩).isSome =true:=by rw[h3];rfl
 exact⟨dh (has_set (has_set i3)),bW (Ne.symm n2) (bW (Ne.symm n1) (dh i1)),bW (Ne.symm n3) (dh (has_set i2))⟩
theorem Va(N:Nat)(hN:1≤N)(hN2:N≤100000)(lb:Array Value)(dd rr cc:Nat→Nat)(hd:∀i,dd i≤1)(hr:∀i,rr i<18446744073709551616)(hc:∀i,cc i<18446744073709551616)(h0:cc 0=0)(hs:∀i,cc (i+1)=cc i*2%18446744073709551616|||dd i){w:World}
  (HH:∀n w',Gr w w'→Hands Fence.wide n Tryz.prog 248 lb w.heap.size N (fun i=>#[Y O ((dd i:Nat):Int),Y O ((rr i:Nat):Int)]) w'):
  QR 240 #[.func (.func 248) #[] lb,Y Z (N:Int)] w (.tuple #[Y O ((cc N:Nat):Int),Y O ((rr (N-1):Nat):Int)]):=by
 have HSS:Hid (∀i,cc (i+1)=cc i*2%18446744073709551616|||dd i):=hs
 clear hs
 refine(callsIn_wide (n:=3)).1 ?_
 refine callsIn_of_wp_marks func240 rfl trivial ?_ rfl
 simp only[ntmps240,List.size_toArray,List.length_cons,List.length_nil,Nat.reduceAdd,Nat.reduceSub,Array.replicate_succ,Array.replicate_zero,List.push_toArray,List.append_toArray,List.nil_append,List.cons_append]
 gi_wp2
 obtain⟨w3,hw3⟩:∃w3,w3=((w.alloc (.cells #[Y Z (N:Int)] 3)).alloc (.cells #[Y O 0] 22)).alloc (.cells #[Y O 0] 22):=⟨_,rfl⟩
 rw[←hw3]
 have hsz:w3.heap.size=w.heap.size+1+1+1:=by rw[hw3];simp
 have hg3:Gr w w3:=by rw[hw3];exact(((Gr.refl w).alloc _ _).alloc _ _).alloc _ _
 have n0:w3.cell? ⟨w.heap.size,0,none⟩=some (Y Z (N:Int)):=by rw[hw3];simp[go_sem]
 have n1:w3.frozen? ⟨w.heap.size,0,none⟩=false:=by rw[hw3];simp[go_sem]
 have n2:w3.cell? ⟨w.heap.size+1,0,none⟩=some (Y O 0):=by rw[hw3];simp[go_sem]
 have n3:w3.frozen? ⟨w.heap.size+1,0,none⟩=false:=by rw[hw3];simp[go_sem]
 have n4:w3.cell? ⟨w.heap.size+1+1,0,none⟩=some (Y O 0):=by rw[hw3];simp[go_sem]
 have n5:w3.frozen? ⟨w.heap.size+1+1,0,none⟩=false:=by rw[hw3];simp[go_sem]
 clear hw3
 refine xH (n₀:=w.heap.size) (N:=N) (gf:=248) (lb:=lb) rfl om rfl trivial (enters_of func248 (by kernel_rfl) rfl) (HH _ w3 hg3) om (Below.refl _ _) (fun _=>rfl) 0
  (fun i W=>(W.cell? ⟨w.heap.size,0,none⟩=some (Y Z ((N-i:Nat):Int))∧W.frozen? ⟨w.heap.size,0,none⟩=false)∧(W.cell? ⟨w.heap.size+1,0,none⟩=some (Y O (cc i:Int))∧W.frozen? ⟨w.heap.size+1,0,none⟩=false)∧(W.cell? ⟨w.heap.size+1+1,0,none⟩=some (Y O ((if i=0 then 0 else rr (i-1):Nat):Int))∧W.frozen? ⟨w.heap.size+1+1,0,none⟩=false)∧Gr w W)
  (fun W=>W.cell? ⟨w.heap.size+1,0,none⟩=some (Y O (cc N:Int))∧W.cell? ⟨w.heap.size+1+1,0,none⟩=some (Y O (rr (N-1):Int))∧Gr w W)
  (fun i=>((oO _ _ _).and (Ei _ _)).and (((oO _ _ _).and (Ei _ _)).and (((oO _ _ _).and (Ei _ _)).and (Ob _ _ om))))
  ((oO _ _ _).and ((oO _ _ _).and (Ob _ _ om)))
  ⟨⟨n0,n1⟩,⟨by rw[h0];exact n2,n3⟩,⟨n4,n5⟩,hg3⟩
  (fun i=>{tmps:=#[.func (.func 248) #[] lb,Y Z (N:Int),undef,.pointer (some ⟨w.heap.size,0,none⟩),Y O 0,Y O 0,.pointer (some ⟨w.heap.size+1,0,none⟩),.pointer (some ⟨w.heap.size+1+1,0,none⟩),Y O (dd i:Int),Y O (rr i:Int),.func (.func 248) #[] lb,Y O (dd i:Int),Y O (rr i:Int),undef,undef,undef,undef,undef,undef,undef,undef,undef,undef,undef],defers:=[]}) ?assign ?body ?stop
 case assign=>
  intro l i W K hK
  gi_wp2
  exact hK
 case body=>
  rintro l i W hi ⟨⟨m0,m1⟩,⟨m2,m3⟩,⟨m4,m5⟩,mg⟩
  have hsi:=HSS.out i
  obtain⟨o1,o2⟩:=Dy (cc i*2%18446744073709551616) (dd i) (Nat.mod_lt _ de) (by have:=hd i;omega)
  rw[←hsi]at o1
  have hci:=hc i
  have hri:=hr i
  have hdi:=hd i
  have hc1:=hc (i+1)
  have HS:Hid _:=hsi
  clear hsi o2
  have hsize:=mg.size
  have hq:IntKind.u64.wrap ((cc i:Int)*2)=((cc i*2%18446744073709551616:Nat):Int):=wu
  generalize cc i*2%18446744073709551616=q at*
  have kk:∀v1 v2 v3,KeepsOthers W (((W.setCell ⟨w.heap.size+1,0,none⟩ v1).setCell ⟨w.heap.size+1+1,0,none⟩ v2).setCell ⟨w.heap.size,0,none⟩ v3):=fun v1 v2 v3=>((KeepsOthers.setCell _ _ _).trans (KeepsOthers.setCell _ _ _)).trans (KeepsOthers.setCell _ _ _)
  have kb:∀v1 v2 v3,Below w.heap.size W (((W.setCell ⟨w.heap.size+1,0,none⟩ v1).setCell ⟨w.heap.size+1+1,0,none⟩ v2).setCell ⟨w.heap.size,0,none⟩ v3):=fun v1 v2 v3=>(((Below.refl _ W).setCell (p:=⟨w.heap.size+1,0,none⟩) (Nat.le_succ _) _).setCell (p:=⟨w.heap.size+1+1,0,none⟩) (by show _≤_+1+1;omega) _).setCell (p:=⟨w.heap.size,0,none⟩) (Nat.le_refl _) _
  have kg:∀v1 v2 v3,Gr w (((W.setCell ⟨w.heap.size+1,0,none⟩ v1).setCell ⟨w.heap.size+1+1,0,none⟩ v2).setCell ⟨w.heap.size,0,none⟩ v3):=fun v1 v2 v3=>((mg.setCell (a:=⟨w.heap.size+1,0,none⟩) (Nat.le_succ _) _).setCell (a:=⟨w.heap.size+1+1,0,none⟩) (by show _≤_+1+1;omega) _).setCell (a:=⟨w.heap.size,0,none⟩) (Nat.le_refl _) _
  have kc:∀v1 v2 v3,(((W.setCell ⟨w.heap.size+1,0,none⟩ v1).setCell ⟨w.heap.size+1+1,0,none⟩ v2).setCell ⟨w.heap.size,0,none⟩ v3).cell? ⟨w.heap.size,0,none⟩=some v3∧(((W.setCell ⟨w.heap.size+1,0,none⟩ v1).setCell ⟨w.heap.size+1+1,0,none⟩ v2).setCell ⟨w.heap.size,0,none⟩ v3).cell? ⟨w.heap.size+1,0,none⟩=some v1∧(((W.setCell ⟨w.heap.size+1,0,none⟩ v1).setCell ⟨w.heap.size+1+1,0,none⟩ v2).setCell ⟨w.heap.size,0,none⟩ v3).cell? ⟨w.heap.size+1+1,0,none⟩=some v2:=fun v1 v2 v3=>aAs m2 m4 m0 om om om v1 v2 v3
  have kf:∀v1 v2 v3 a,W.frozen? a=false→(((W.setCell ⟨w.heap.size+1,0,none⟩ v1).setCell ⟨w.heap.size+1+1,0,none⟩ v2).setCell ⟨w.heap.size,0,none⟩ v3).frozen? a=false:=fun v1 v2 v3 a h=>lX (lX (lX h))
  by_cases hlast:i+1<N
  ·have hnl:¬((N-i:Nat):Int)-1≤0:=om
   have hn1:((N-i:Nat):Int)-1=((N-(i+1):Nat):Int):=om
   have hn2:((N-i:Nat):Int)≤100000:=om
   have hn3:0≤((N-i:Nat):Int):=om
   generalize((N-i:Nat):Int)=ni at*
   gi_wp2
   obtain⟨k1,k2,k3⟩:=kc (Y O ((cc (i+1):Nat):Int)) (Y O ((rr i:Nat):Int)) (Y Z ((N-(i+1):Nat):Int))
   refine⟨hlast,kk _ _ _,kb _ _ _,⟨k1,kf _ _ _ _ m1⟩,⟨k2,kf _ _ _ _ m3⟩,⟨?_,kf _ _ _ _ m5⟩,kg _ _ _⟩
   rw[if_neg (show ¬i+1=0 by omega),show i+1-1=i by omega]
   exact k3
  ·have hnl:((N-i:Nat):Int)-1=0:=om
   have hn2:((N-i:Nat):Int)=1:=om
   rw[hn2]at m0
   gi_wp2
   have hiN:i+1=N:=om
   obtain⟨k1,k2,k3⟩:=kc (Y O ((cc (i+1):Nat):Int)) (Y O ((rr i:Nat):Int)) (Y Z 0)
   refine⟨hiN,rfl,kk _ _ _,?_,?_,kg _ _ _⟩
   ·rw[←hiN];exact k2
   ·rw[show N-1=i by omega];exact k3
 case stop=>
  rintro D W hD ⟨m2,m4,mg⟩ hK
  gi_wp2
  gi_region
  all_goals gi_wp2
  all_goals
   refine⟨by simp,.inl ⟨_,_,rfl,run_takeDeferred (w:=W.drew) hK,?_⟩⟩
   exact⟨.tuple #[Y O ((cc N:Nat):Int),Y O ((rr (N-1):Nat):Int)],by simp[results,Tryz.results240,go_sem],rfl,Gr.putObj mg.drew (by have:=hg3.size;omega) hK rfl rfl⟩
def wV(c:Nat→Nat→Nat)(N:Nat)(W:World)(v:Value):Prop:=
 ∃b1 b2:Nat,v=.func (.func 248) #[] #[.pointer (some ⟨b1,0,none⟩),.pointer (some ⟨b2,0,none⟩)]∧∀(n K:Nat) (w' w'':World),1≤K→Gr W w'→Gr w' w''→
  Hands Fence.wide n Tryz.prog 248 #[.pointer (some ⟨b1,0,none⟩),.pointer (some ⟨b2,0,none⟩)] w'.heap.size K (fun i=>#[Y O ((dD c N i:Nat):Int),Y O ((dR c N i:Nat):Int)]) w''
theorem wV.gr{c:Nat→Nat→Nat}{N:Nat}{W W':World}{v:Value}(h:wV c N W v)(k:Gr W W'):wV c N W' v:=by
 obtain⟨b1,b2,rfl,h⟩:=h
 exact⟨b1,b2,rfl,fun n K w' w'' hK h1 h2=>h n K w' w'' hK (k.trans h1) h2⟩
theorem ZY(c:Nat→Nat→Nat)(N k:Nat)(hN:N<18446744073709551616):dR c N k<18446744073709551616:=by
 have:=(VE c N k hN).2
 unfold dR;split<;>omega
theorem Z4(c:Nat→Nat→Nat)(N k:Nat):dC c N k<18446744073709551616:=by
 cases k with
 |zero=>rw[dC];decide
 |succ k=>rw[dC,or_bit _ _ (G9 _ _ _)];exact Nat.mod_lt _ de
theorem first_any{c:Nat→Nat→Nat}{N:Nat}(hN:N<18446744073709551616){w:World}{v:Value}(h:wV c N w v)(k:Nat)(hk:1≤k)(hk2:k≤100000):
  QR 240 #[v,Y Z (k:Int)] w (.tuple #[Y O ((dC c N k:Nat):Int),Y O ((dR c N (k-1):Nat):Int)]):=by
 obtain⟨b1,b2,rfl,h⟩:=h
 exact Va k hk hk2 _ (dD c N) (dR c N) (dC c N) (G9 c N) (fun i=>ZY c N i hN) (Z4 c N) rfl (fun i=>by rw[dC]) (fun n w' hg=>h n k w w' hk (Gr.refl w) hg)
theorem vK(N:Nat)(fv:Value)(hf:∃F lb,fv=.func (.func F) #[] lb)(w:World):
  CT 241 #[Y O (N:Int),fv] w fun e w'=>∃b1 b2,e=E (.func (.func 248) #[] #[.pointer (some ⟨b1,0,none⟩),.pointer (some ⟨b2,0,none⟩)])∧w'.cell? ⟨b1,0,none⟩=some (Y O (N:Int))∧w'.cell? ⟨b2,0,none⟩=some fv∧Gr w w':=by
 obtain⟨F,lb,rfl⟩:=hf
 go_enter func241,ntmps241
 go_wp2
 go_returns
 exact⟨_,_,rfl,kl,kl,kr⟩
theorem Bq(N D:Nat)(hN:N<18446744073709551616)(hD:D<18446744073709551616)(w:World):
  CT 222 #[Y O (N:Int),Y O (D:Int)] w fun e w'=>∃v,e=E v∧wV (fun _ _=>D) N w' v∧Gr w w':=by
 go_enter func222,ntmps222
 go_wp2_with (go_at_call 241;refine(vK N _ ⟨_,_,rfl⟩ _).mono ?_;rintro e w1 ⟨b1,b2,rfl,c1,c2,aj⟩;have c3:w1.cell? ⟨w.heap.size,0,none⟩=some (Y O (D:Int)):=kl)
 go_returns
 refine⟨_,rfl,⟨b1,b2,rfl,fun n K w' w'' hK h1 h2=>?_⟩,kr⟩
 have d1:=h1.old c1
 have d2:=h1.old c2
 have d3:=h1.old c3
 exact P5 n K N D w'.heap.size b1 b2 w.heap.size hN hD hK (au d1) (au d2) (au d3) (h2.old d1) (h2.old d2) (h2.old d3)
theorem zu(N:Nat)(hN:N<18446744073709551616)(w:World):
  CT 223 #[Y O (N:Int)] w fun e w'=>∃v,e=E v∧wV aO N w' v∧Gr w w':=by
 go_enter func223,ntmps223
 go_wp2_with (go_at_call 241;refine(vK N _ ⟨_,_,rfl⟩ _).mono ?_;rintro e w1 ⟨b1,b2,rfl,c1,c2,aj⟩)
 go_returns
 refine⟨_,rfl,⟨b1,b2,rfl,fun n K w' w'' hK h1 h2=>?_⟩,kr⟩
 have d1:=h1.old c1
 have d2:=h1.old c2
 exact Jy n K N w'.heap.size b1 b2 hN hK (au d1) (au d2) (h2.old d1) (h2.old d2)
theorem N8(p mn mx md:Int)(k:Nat)(s e:Int)(hp0:0≤p)(hp1:p≤60)(e0:-50000≤e)(e1:e≤50000){c:Nat→Nat→Nat}{N:Nat}(hN:N<18446744073709551616){w:World}{v:Value}(h:wV c N w v)(P:Nat)(hP:(P:Int)=p+3):
  QR 221 #[.agg #[Y Z p,Y Z mn,Y Z mx,Y Z md,.func (.func k) #[] #[]],.agg #[Y Z s,Y Z e],v] w (.agg #[Y Z s,Y Z (e-(p+2)),Y Z 1,Y O 0,Y O (((dC c N P:Nat):Int)),.bool (decide (dR c N (P-1)≠0)),Y Z 0]):=by
 have HF:Hid (∀w',Gr w w'→QR 240 #[v,Y Z (P:Int)] w' (.tuple #[Y O ((dC c N P:Nat):Int),Y O ((dR c N (P-1):Nat):Int)])):=fun w' hg=>first_any hN (h.gr hg) P om om
 have hd:=Z4 c N P
 have hr:=ZY c N (P-1) hN
 obtain⟨b1,b2,rfl,_⟩:=h
 generalize dC c N P=C at*
 generalize dR c N (P-1)=R at*
 have g1:p+3=(P:Int):=hP.symm
 have g2:(P:Int)-1=p+2:=om
 have g3:(P:Int)≤63:=om
 obtain⟨y,hy⟩:∃y:Int,e-(p+2)=y:=⟨_,rfl⟩
 rw[hy]
 clear hP
 have hb:((R:Int) != 0)=decide (R≠0):=by by_cases q:R=0<;>simp[q]
 generalize decide (R≠0)=st at*
 go_enter func221,ntmps221
 go_wp2_with (go_at_call 240;refine(HF.out _ kr).mono ?_;rintro x w1 ⟨rfl,aj⟩;obtain⟨at0,aFz,YF,aFy⟩:=aj.y2 (w.heap.size+1) 0 1 (Y Z s) (Y Z e);obtain⟨bG,bK,cO,bJ,iW,d_,ar3,dZ,lW,gV,mX,iM,mW,iK⟩:=aj.y7 (w.heap.size+1+1) 0 1 2 3 4 5 6 (Y Z 0) (Y Z 0) (Y Z 0) (Y O 0) (Y O 0) (.bool false) (Y Z 0))
 refine bodyPost_ret (v:=.agg #[Y Z s,Y Z y,Y Z 1,Y O 0,Y O ((C:Int)),.bool st,Y Z 0]) (by simp[results,Tryz.results221,go_sem,bG,cO,iW,ar3,lW,mX,mW,hb]) rfl ⟨rfl,?_⟩
 exact kr
