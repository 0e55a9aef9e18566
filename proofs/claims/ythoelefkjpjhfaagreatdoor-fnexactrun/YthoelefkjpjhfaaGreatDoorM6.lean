import Derived.Test.YthoelefkjpjhfaaGreatDoorM2
import Derived.Deep.Onto
set_option linter.all false
set_option maxRecDepth 1000000
set_option maxHeartbeats 40000000
open Option renaming none → E
open Go.Proofs.YthoelefkjpjhfaaGreatDoor renaming vU → J
open Go.Value renaming int → Z
open Go.Ending renaming returned → O
open Go.Proofs.Tryz
namespace Go.Proofs.YthoelefkjpjhfaaGreatDoor
attribute [local go_sem] aB dL
variable {w W W' w':ak}{v v2 x1 x2 x3:Value}{N n n' A l N' b1 b2 b3 base g c k b B R rn:Nat}{o' o:Obj}{a:Addr}
open Go.RowKit Go.Shelf
attribute [local go_sem] Oper.semAt_some
def aPa(ho:o'.isCells=false)(h:W.frozen? a=false):(W.putObj l o').frozen? a=false:=by
 by_cases e:a.block=l
 .unfold World.frozen?;by_cases hl:l<W.heap.size
  .rw[e,World.putObj_heap_same hl];cases o'<;>first|rfl|(simp[Obj.isCells]at ho)
  .rw[e,show(W.putObj l o').heap[l]?=E from Array.getElem?_eq_none (by simp;omega)]
 .unfold World.frozen? at h⊢
  rw[World.putObj_heap_other (by omega)];exact h
def Gr.putObj(h:Gr W w)(hl:W.heap.size<=l)(ho:w.heap[l]?=some o)(hc:o.isCells=false)(EK:o'.isCells=false):Gr W (w.putObj l o'):=by
 refine⟨⟨World.keptBut.congr h.grown.1 rfl rfl (λi hi=>World.putObj_heap_other om),λa=>?_,yI h.grown.2.2 (by simp)⟩,?_⟩
 .rw[<-h.grown.2.1 a];by_cases e:a.block=l
  .unfold World.frozen?;rw[e,World.putObj_heap_same (Ap.1 ho).1,ho];cases o<;>cases o'<;>first|rfl|(simp[Obj.isCells]at hc EK)
  .unfold World.frozen?;rw[World.putObj_heap_other (by omega)]
 .exact h.below.grown (grownBy_putObj' w l o') h.size (λk e=>by cases e;exact hl)
def VL(B:Nat)(p:Addr):Calm B (λW=>W.frozen? p=false):=
  ⟨λW l o o' h _ _ _ ho=>aPa ho h,
   λW o h ho=>by
     by_cases e:p.block=W.heap.size
     · unfold World.frozen?
       rw[show(W.alloc o).heap[p.block]?=some o by rw[e];exact(MapKept.heap_alloc W _).1];cases o<;>first|rfl|(simp[Obj.isCells]at ho)
     · exact(World.frozen?_alloc_old _ _ _ e).trans h,
   λW c t h=>(frozen?_alloc_cells _ _ _ _).trans h,λW h=>h⟩
def aC0(B:Nat)(w:ak)(hB:w.heap.size<=B):Calm B (λW=>Gr w W):=
 ⟨λW l o o' h hl ho hc EK=>h.putObj (yI hB hl) ho hc EK,λW o h ho=>h.aPN o ho,λW c t h=>h.alloc c t,λW h=>h.drew⟩
def aN2(h1:aB W b1 0 x1)(h2:aB W b2 0 x2)(h3:aB W b3 0 x3)(n1:b1≠b2)(n2:b1≠b3)(n3:b2≠b3)(v1 v2 v3:Value):
  aB (((W.setCell ⟨b1,0,E⟩ v1).setCell ⟨b2,0,E⟩ v2).setCell ⟨b3,0,E⟩ v3) b3 0 v3/\aB (((W.setCell ⟨b1,0,E⟩ v1).setCell ⟨b2,0,E⟩ v2).setCell ⟨b3,0,E⟩ v3) b1 0 v1/\aB (((W.setCell ⟨b1,0,E⟩ v1).setCell ⟨b2,0,E⟩ v2).setCell ⟨b3,0,E⟩ v3) b2 0 v2:=by
 have i1:(W.cell? ⟨b1,0,E⟩).isSome =true:=by rw[h1];rfl
 have i2:(W.cell? ⟨b2,0,E⟩).isSome =true:=by rw[h2];rfl
 have i3:(W.cell? ⟨b3,0,E⟩).isSome =true:=by rw[h3];rfl
 exact⟨dG (has_set (has_set i3)),aZ (Ne.symm n2) (aZ (Ne.symm n1) (dG i1)),aZ (Ne.symm n3) (dG (has_set i2))⟩
def aIz(N:Nat)(hN:1<=N)(hN2:N<=100000)(lb:Array Value)(dd rr cc:Nat->Nat)(hd:∀i,dd i<=1)(hr:∀i,rr i<18446744073709551616)(hc:∀i,cc i<18446744073709551616)(h0:cc 0=0)(hs:∀i,cc (i+1)=cc i*2%18446744073709551616|||dd i)
  (HH:∀n w',Gr w w'->Hands Fence.wide n prog 306 lb w.heap.size N (λi=>#[J ((dd i:Nat):Int),J ((rr i:Nat):Int)]) w'):
  QR 184 #[.func (.func 306) #[] lb,Z .i64 (N:Int)] w (.tuple #[J ((cc N:Nat):Int),J ((rr (N-1):Nat):Int)]):=by
 have HSS:Hid (∀i,cc (i+1)=cc i*2%18446744073709551616|||dd i):=hs;clear hs;refine(callsIn_wide (n:=3)).1 ?_;refine callsIn_of_wp_marks func184 rfl trivial ?_ rfl;simp only[ntmps184,List.size_toArray,List.length_cons,List.length_nil,Nat.reduceAdd,Nat.reduceSub,Array.replicate_succ,Array.replicate_zero,List.push_toArray,List.append_toArray,List.nil_append,List.cons_append]
 gi_wp2
 obtain⟨w3,hw3⟩:=x_n (((w.alloc (.cells #[Z .i64 (N:Int)] 3)).alloc (.cells #[J 0] 71)).alloc (.cells #[J 0] 71));rw[<-hw3];have qY:w3.heap.size=w.heap.size+1+1+1:=by rw[hw3];simp
 have uG:Gr w w3:=by rw[hw3];exact(((Gr.refl w).alloc _ _).alloc _ _).alloc _ _
 have n0:w3.cell? ⟨w.heap.size,0,E⟩=some (Z .i64 (N:Int)):=by rw[hw3];simp[go_sem]
 have n1:dL w3 w.heap.size 0:=by rw[hw3];simp[go_sem]
 have n2:w3.cell? ⟨w.heap.size+1,0,E⟩=some (J 0):=by rw[hw3];simp[go_sem]
 have n3:dL w3 (w.heap.size+1) 0:=by rw[hw3];simp[go_sem]
 have n4:w3.cell? ⟨w.heap.size+1+1,0,E⟩=some (J 0):=by rw[hw3];simp[go_sem]
 have n5:dL w3 (w.heap.size+1+1) 0:=by rw[hw3];simp[go_sem]
 clear hw3;refine KX (n₀:=w.heap.size) (N:=N) (gf:=306) (lb:=lb) rfl om rfl trivial (enters_of func306 (by kernel_rfl) rfl) (HH _ w3 uG) om (Below.refl _ _) (λ_=>rfl) 0
  (λi W=>(aB W w.heap.size 0 (Z .i64 ((N-i:Nat):Int))/\dL W w.heap.size 0)/\(aB W (w.heap.size+1) 0 (J (cc i:Int))/\dL W (w.heap.size+1) 0)/\(aB W (w.heap.size+1+1) 0 (J ((if i=0 then 0 else rr (i-1):Nat):Int))/\dL W (w.heap.size+1+1) 0)/\Gr w W)
  (λW=>aB W (w.heap.size+1) 0 (J (cc N:Int))/\aB W (w.heap.size+1+1) 0 (J (rr (N-1):Int))/\Gr w W)
  (λi=>((y9 _ _ _).and (VL _ _)).and (((y9 _ _ _).and (VL _ _)).and (((y9 _ _ _).and (VL _ _)).and (aC0 _ _ om))))
  ((y9 _ _ _).and ((y9 _ _ _).and (aC0 _ _ om)))
  ⟨⟨n0,n1⟩,⟨by rw[h0];exact n2,n3⟩,⟨n4,n5⟩,uG⟩
  (λi=>{tmps:=#[.func (.func 306) #[] lb,Z .i64 (N:Int),undef,.pointer (some ⟨w.heap.size,0,E⟩),J 0,J 0,.pointer (some ⟨w.heap.size+1,0,E⟩),.pointer (some ⟨w.heap.size+1+1,0,E⟩),J (dd i:Int),J (rr i:Int),.func (.func 306) #[] lb,J (dd i:Int),J (rr i:Int),undef,undef,undef,undef,undef,undef,undef,undef,undef,undef,undef],defers:=[]}) ?assign ?body ?stop
 case assign=>
  intro l i W K hK
  gi_wp2
  exact hK
 case body=>
  rintro l i W hi ⟨⟨m0,m1⟩,⟨m2,m3⟩,⟨m4,m5⟩,mg⟩;have hsi:=HSS i;obtain⟨o1,o2⟩:=UN (cc i*2%18446744073709551616) (dd i) (oN _ de) (by have:=hd i;omega);rw[<-hsi]at o1;have hci:=hc i;have hri:=hr i;have hdi:=hd i;have AA:=hc (i+1);have HS:Hid _:=hsi;clear hsi o2;have aUQ:=mg.size;have hq:IntKind.u64.wrap ((cc i:Int)*2)=((cc i*2%18446744073709551616:Nat):Int):=by rw[iT];omega
  generalize cc i*2%18446744073709551616=q at*
  have kk:∀v1 v2 v3,KeepsOthers W (((W.setCell ⟨w.heap.size+1,0,E⟩ v1).setCell ⟨w.heap.size+1+1,0,E⟩ v2).setCell ⟨w.heap.size,0,E⟩ v3):=λv1 v2 v3=>((KeepsOthers.setCell _ _ _).trans (KeepsOthers.setCell _ _ _)).trans (KeepsOthers.setCell _ _ _);have kb:∀v1 v2 v3,Below w.heap.size W (((W.setCell ⟨w.heap.size+1,0,E⟩ v1).setCell ⟨w.heap.size+1+1,0,E⟩ v2).setCell ⟨w.heap.size,0,E⟩ v3):=λv1 v2 v3=>(((Below.refl _ W).setCell (p:=⟨w.heap.size+1,0,E⟩) (Nat.le_succ _) _).setCell (p:=⟨w.heap.size+1+1,0,E⟩) (by show _<=_+1+1;omega) _).setCell (p:=⟨w.heap.size,0,E⟩) (dJ _) _;have kg:∀v1 v2 v3,Gr w (((W.setCell ⟨w.heap.size+1,0,E⟩ v1).setCell ⟨w.heap.size+1+1,0,E⟩ v2).setCell ⟨w.heap.size,0,E⟩ v3):=λv1 v2 v3=>((mg.setCell (a:=⟨w.heap.size+1,0,E⟩) (Nat.le_succ _) _).setCell (a:=⟨w.heap.size+1+1,0,E⟩) (by show _<=_+1+1;omega) _).setCell (a:=⟨w.heap.size,0,E⟩) (dJ _) _;have kc:∀v1 v2 v3,aB (((W.setCell ⟨w.heap.size+1,0,E⟩ v1).setCell ⟨w.heap.size+1+1,0,E⟩ v2).setCell ⟨w.heap.size,0,E⟩ v3) w.heap.size 0 v3/\aB (((W.setCell ⟨w.heap.size+1,0,E⟩ v1).setCell ⟨w.heap.size+1+1,0,E⟩ v2).setCell ⟨w.heap.size,0,E⟩ v3) (w.heap.size+1) 0 v1/\aB (((W.setCell ⟨w.heap.size+1,0,E⟩ v1).setCell ⟨w.heap.size+1+1,0,E⟩ v2).setCell ⟨w.heap.size,0,E⟩ v3) (w.heap.size+1+1) 0 v2:=λv1 v2 v3=>aN2 m2 m4 m0 om om om v1 v2 v3;have kf:∀v1 v2 v3 a,W.frozen? a=false->(((W.setCell ⟨w.heap.size+1,0,E⟩ v1).setCell ⟨w.heap.size+1+1,0,E⟩ v2).setCell ⟨w.heap.size,0,E⟩ v3).frozen? a=false:=λv1 v2 v3 a h=>bD (bD (bD h));by_cases DC:i+1<N
  .have hnl:¬((N-i:Nat):Int)-1<=0:=om;have hn1:((N-i:Nat):Int)-1=((N-(i+1):Nat):Int):=om;have hn2:((N-i:Nat):Int)<=100000:=om;have hn3:0<=((N-i:Nat):Int):=om;generalize((N-i:Nat):Int)=ni at*
   gi_wp2
   obtain⟨k1,k2,k3⟩:=kc (J ((cc (i+1):Nat):Int)) (J ((rr i:Nat):Int)) (Z .i64 ((N-(i+1):Nat):Int));refine⟨DC,kk _ _ _,kb _ _ _,⟨k1,kf _ _ _ _ m1⟩,⟨k2,kf _ _ _ _ m3⟩,⟨?_,kf _ _ _ _ m5⟩,kg _ _ _⟩;rw[aH (om:¬i+1=0),(om:i+1-1=i)];exact k3
  .have hnl:((N-i:Nat):Int)-1=0:=om;have hn2:((N-i:Nat):Int)=1:=om;rw[hn2]at m0
   gi_wp2
   have hiN:i+1=N:=om;obtain⟨k1,k2,k3⟩:=kc (J ((cc (i+1):Nat):Int)) (J ((rr i:Nat):Int)) (Z .i64 0);refine⟨hiN,rfl,kk _ _ _,?_,?_,kg _ _ _⟩
   .rw[<-hiN];exact k2
   .rw[(om:N-1=i)];exact k3
 case stop=>
  rintro D W hD ⟨m2,m4,mg⟩ hK
  gi_wp2
  gi_region
  all_goals gi_wp2
  all_goals
   refine⟨by simp,.inl ⟨_,_,rfl,run_takeDeferred (w:=W.drew) hK,?_⟩⟩;exact⟨.tuple #[J ((cc N:Nat):Int),J ((rr (N-1):Nat):Int)],by simp[results,results184,go_sem],rfl,Gr.putObj mg.drew (by have:=uG.size;omega) hK rfl rfl⟩
open Go.RowKit
def zU(c:Nat->Nat->Nat)(N:Nat)(W:ak)(v:Value):Prop:=
 ∃b1 b2:Nat,v=.func (.func 306) #[] #[.pointer (some ⟨b1,0,E⟩),.pointer (some ⟨b2,0,E⟩)]/\∀(n K:Nat) (w' bf:ak),1<=K->Gr W w'->Gr w' bf->
  Hands Fence.wide n prog 306 #[.pointer (some ⟨b1,0,E⟩),.pointer (some ⟨b2,0,E⟩)] w'.heap.size K (λi=>#[J ((dD c N i:Nat):Int),J ((dR c N i:Nat):Int)]) bf
def zU.gr{c:Nat->Nat->Nat}(h:zU c N W v)(k:Gr W W'):zU c N W' v:=by
 obtain⟨b1,b2,rfl,h⟩:=h;exact⟨b1,b2,rfl,λn K w' bf hK h1 h2=>h n K w' bf hK (k.trans h1) h2⟩
def aNw(c:Nat->Nat->Nat)(N k:Nat)(hN:aI N):dR c N k<18446744073709551616:=by
 have:=(aIM c N k hN).2;unfold dR;split<;>omega
def aNx(c:Nat->Nat->Nat)(N k:Nat):dC c N k<18446744073709551616:=by
 cases k with
 |zero=>rw[dC];decide
 |succ k=>rw[dC,or_bit _ _ (Y5 _ _ _)];exact oN _ de
def first_any{c:Nat->Nat->Nat}(hN:aI N)(h:zU c N w v)(k:Nat)(hk:1<=k)(m_:k<=100000):
  QR 184 #[v,Z .i64 (k:Int)] w (.tuple #[J ((dC c N k:Nat):Int),J ((dR c N (k-1):Nat):Int)]):=by
 obtain⟨b1,b2,rfl,h⟩:=h;exact aIz k hk m_ _ (dD c N) (dR c N) (dC c N) (Y5 c N) (λi=>aNw c N i hN) (aNx c N) rfl (λi=>by rw[dC]) (λn w' hg=>h n k w w' hk (Gr.refl w) hg)
def FX(N:Nat)(fv:Value)(hf:∃F lb,fv=.func (.func F) #[] lb)(w:ak):
  CT 249 #[J (N:Int),fv] w λe w'=>∃b1 b2,e=O (.func (.func 306) #[] #[.pointer (some ⟨b1,0,E⟩),.pointer (some ⟨b2,0,E⟩)])/\aB w' b1 0 (J (N:Int))/\aB w' b2 0 fv/\Gr w w':=by
 obtain⟨F,lb,rfl⟩:=hf;go_enter func249,ntmps249;go_wp2;go_returns;exact⟨_,_,rfl,kl,kl,kr⟩
def xQ(N D:Nat)(hN:aI N)(hD:aI D)(w:ak):
  CT 181 #[J (N:Int),J (D:Int)] w λe w'=>∃v,e=O v/\zU (λ_ _=>D) N w' v/\Gr w w':=by
 go_enter func181,ntmps181;go_wp2_with (go_at_call 249;refine(FX N _ ⟨_,_,rfl⟩ _).mono ?_;rintro e w1 ⟨b1,b2,rfl,c1,c2,au⟩;have c3:aB w1 w.heap.size 0 (J (D:Int)):=kl);go_returns;refine⟨_,rfl,⟨b1,b2,rfl,λn K w' bf hK h1 h2=>?_⟩,kr⟩;have d1:=h1.old c1;have d2:=h1.old c2;have d3:=h1.old c3;exact aEh n K N D w'.heap.size b1 b2 w.heap.size hN hD hK (aA d1) (aA d2) (aA d3) (h2.old d1) (h2.old d2) (h2.old d3)
def Oa(N:Nat)(hN:aI N)(w:ak):
  CT 183 #[J (N:Int)] w λe w'=>∃v,e=O v/\zU dB N w' v/\Gr w w':=by
 go_enter func183,ntmps183;go_wp2_with (go_at_call 249;refine(FX N _ ⟨_,_,rfl⟩ _).mono ?_;rintro e w1 ⟨b1,b2,rfl,c1,c2,au⟩);go_returns;refine⟨_,rfl,⟨b1,b2,rfl,λn K w' bf hK h1 h2=>?_⟩,kr⟩;have d1:=h1.old c1;have d2:=h1.old c2;exact aAM n K N w'.heap.size b1 b2 hN hK (aA d1) (aA d2) (h2.old d1) (h2.old d2)
def aCW(p mn mx md:Int)(k:Nat)(s e:Int)(hp0:0<=p)(hp1:p<=60)(e0:-50000<=e)(e1:e<=50000){c:Nat->Nat->Nat}(hN:aI N)(h:zU c N w v)(P:Nat)(hP:(P:Int)=p+3):
  QR 180 #[eu p mn mx md k,kV s e,v] w (bP s (e-(p+2)) 1 0 (((dC c N P:Nat):Int)) (decide (dR c N (P-1)≠0)) 0):=by
 have HF:Hid (∀w',Gr w w'->QR 184 #[v,Z .i64 (P:Int)] w' (.tuple #[J ((dC c N P:Nat):Int),J ((dR c N (P-1):Nat):Int)])):=λw' hg=>first_any hN (h.gr hg) P om om;have hd:=aNx c N P;have hr:=aNw c N (P-1) hN;obtain⟨b1,b2,rfl,_⟩:=h;generalize dC c N P=C at*
 generalize dR c N (P-1)=R at*
 have g1:p+3=(P:Int):=hP.symm;have g2:(P:Int)-1=p+2:=om;have g3:(P:Int)<=63:=om;obtain⟨y,hy⟩:=dP (e-(p+2):Int);rw[hy];clear hP;have hb:((R:Int) != 0)=decide (R≠0):=by by_cases q:R=0<;>simp[q]
 generalize decide (R≠0)=st at*
 go_enter func180,ntmps180;go_wp2_with (go_at_call 184;refine ku (HF _ kr) λw1 au=>?_;have:=au.Y21 w;have iy:=au.Y72 w);exact cO (by simp[results,results180,go_sem,iy,hb])
def aFL{P:Prop}(h:P:=by
 rintro e bf ⟨v',k,rfl,hb,hk,hg⟩;exact⟨v',k,rfl,hb,om,hg⟩):P:=h
def aPE(N i:Nat):dg N (i/32)/2^(i%32)%2=N/2^i%2:=by
 unfold dg;have e:N/2^i=N/4294967296^(i/32)/2^(i%32):=by
  rw[<-rU,LK,<-jY]
  congr 2
  omega
 rw[e];generalize N/4294967296^(i/32)=X;have hs:i%32<32:=oN _ de;generalize i%32=s at hs;have h1:4294967296=2^s*2^(32-s):=by rw[<-jY,(om:s+(32-s)=32)]
 rw[h1,Nat.mod_mul_right_div_self,(om:32-s=31-s+1),jE,dM,Nat.mod_mul_right_mod]
def SL(h:Big w v n N)(hn:n<=1000000)(i:Nat)(hi:i<=32000000):
  QW 154 #[v,Z .i64 (i:Int)] w (Z .u32 ((N/2^i%2:Nat):Int)):=by
 obtain⟨xk,hN,b,cap,rfl,l7,Dz,aW⟩:=h;obtain⟨q,hq⟩:=x_n (i/32);obtain⟨r,hr⟩:=x_n (i%32);have q1:(i:Int)/32=(q:Int):=om;have r1:(i:Int)%32=(r:Int):=om;have aVY:r<32:=om;have q2:Int.tdiv (i:Int) 32=(q:Int):=by rw[Int.tdiv_eq_ediv_of_nonneg (by omega)];exact q1
 have r2:Int.tmod (i:Int) 32=(r:Int):=by rw[Int.tmod_eq_emod_of_nonneg (by omega)];exact r1
 have hb:=aPE N i;rw[<-hq,<-hr]at hb;have HB:Hid _:=hb;clear hb;by_cases hl:q<n
 .have hc:aB w b q (Z .u32 (dg N q:Int)):=aW q hl;have hd:=l9 N q;have S_:¬(n:Int)<=(q:Int):=om;generalize dg N q=t at*
  have hsh:(t:Int)/2^r=((t/2^r:Nat):Int):=by push_cast;rfl
  have fJ:t/2^r<4294967296:=LJ (Nat.div_le_self _ _) hd;rw[<-HB.out];generalize t/2^r=u at*
  clear aW xk hN hq hr HB;go_enter func154,ntmps154;go_wp2;go_returns;refine⟨b_ (lu (Value.int IntKind.u32) ?_),rfl⟩;simp[go_sem]
 .have hz:N/2^i%2=0:=by
   rw[<-HB.out,sV hN (by omega)];simp
  rw[hz];have S_:(n:Int)<=(q:Int):=om;clear aW xk hN hq hr HB;go_enter func154,ntmps154;go_wp2;go_returns;exact⟨rfl,rfl⟩
def Own.gb(h:Own w base v n N)(k:Gb w w'):Own w' base v n N:=by
 obtain⟨⟨h1,h2⟩,h3⟩:=h;refine⟨⟨h1,?_⟩,h3⟩;rcases h2 with h2|⟨g,cap,cur,hv,hb,hh,hc,hm,hs,ht⟩
 .exact .inl h2
 .exact .inr ⟨g,cap,cur,hv,hb,(Below.block k g (Ap.1 hh).1).trans hh,hc,hm,hs,ht⟩
def aFt(n:Nat):(madeCells #[Value.int .u32 0] n).toList =ZU n 0:=by
 apply List.ext_getElem?;intro j;by_cases hj:j<n
 .rw[EP n 0 j hj];have e:dg 0 j=0:=by unfold dg;simp
  rw[e];simp[madeCells,hj,Nat.mod_one]
 .rw[List.getElem?_eq_none (by simp[size_madeCells];omega),List.getElem?_eq_none (by rw[zF];omega)]
def aHn(n:Nat)(hn:n<=1000000)(w:ak):
  ∃w',(Instr.makeSlice 93 (Z .i64 (n:Int)) (Z .i64 (n:Int))).run prog w=.ok (aF w.heap.size n n) w'/\Own w' w.heap.size (aF w.heap.size n n) n 0/\Gb w w':=by
 obtain⟨i0,hi,mD,jB,mG⟩:=info_parts Yo;obtain⟨w',h1,h2,h3⟩:=run_makeSlice_full (P:=prog) (w:=w) w.heap.size 93 155 i0 (Z .u32 0) 1 underlying93 hi mD jB .i64 .i64 n om (by rw[mG];omega) (by unfold maxLen;omega) (dJ _);refine⟨w',h1,⟨?_,by simp⟩,(Below.refl _ w).grown h3 (dJ _) (λk e=>by cases e)⟩;rw[<-aFt];have e:n*1=n:=kW n;rw[e]at h2;exact h2
def aIE(A B j:Nat)(hB:0<B)(R:Nat)(hR:R=A/2^(j+1)%B*2+A/2^j%2):
  (B<=R->R-B=A/2^j%B/\A/2^(j+1)/B*2^(j+1)+2^j=A/2^j/B*2^j)/\(R<B->R=A/2^j%B/\A/2^(j+1)/B*2^(j+1)=A/2^j/B*2^j):=by
 have e0:A/2^(j+1)=A/2^j/2:=by rw[jE,LK]
 rw[e0]at hR⊢
 generalize A/2^j=Y at*
 have h1:=Aj (Y/2) B;have h2:=oN (Y/2) hB;generalize Y/2/B=q at*
 generalize Y/2%B=r at*
 have h3:Y=B*(2*q)+R:=by
  have:B*(2*q)=2*(B*q):=by rw[Oy]
  omega
 have hp:2^(j+1)=2*2^j:=by rw[jE,dM]
 rw[hp];constructor
 .intro h;have h4:Y=B*(2*q+1)+(R-B):=by rw[h3,Fj,kW];omega
  have e1:Y/B=2*q+1:=by rw[h4,Nat.mul_add_div hB,xU (by omega)]
  have e2:Y%B=R-B:=by rw[h4,Nat.mul_add_mod,lQ (by omega)]
  refine⟨e2.symm,?_⟩;rw[e1,Ak,Nat.one_mul,<-kX,dM q 2]
 .intro h;have e1:Y/B=2*q:=by rw[h3,Nat.mul_add_div hB,xU h,Nat.add_zero]
  have e2:Y%B=R:=by rw[h3,Nat.mul_add_mod,lQ h]
  refine⟨e2.symm,?_⟩;rw[e1,<-kX,dM q 2]
def aKf(V j:Nat)(hV:V%2^(j+1)=0):dg V (j/32)+2^(j%32)<4294967296/\put V (j/32) (dg V (j/32)+2^(j%32))=V+2^j:=by
 have hs:j%32<32:=oN _ de;have hj:2^j=2^(j%32)*4294967296^(j/32):=by
  rw[<-rU,<-jY]
  congr 1
  omega
 have h1:=Oq V (j/32) (dg V (j/32)+2^(j%32));rw[Ak]at h1;refine⟨?_,om⟩;have h2:dg V (j/32)%2^(j%32+1)=0:=by
  have e1:2^(j+1)=4294967296^(j/32)*2^(j%32+1):=by rw[<-rU,<-jY];congr 1;omega
  have e2:V/4294967296^(j/32)%2^(j%32+1)=0:=by
   rw[e1]at hV;rw[<-Nat.mod_mul_right_div_self,hV,Nat.zero_div]
  unfold dg;have e3:4294967296=2^(j%32+1)*2^(31-j%32):=by rw[<-jY,(om:j%32+1+(31-j%32)=32)]
  generalize V/4294967296^(j/32)=Y at*
  rw[e3,Nat.mod_mul_right_mod];exact e2
 have h3:=l9 V (j/32);generalize j%32=s at*
 have e3:4294967296=2^(s+1)*2^(31-s):=by rw[<-jY,(om:s+1+(31-s)=32)]
 obtain⟨c,hc⟩:∃c,dg V (j/32)=2^(s+1)*c:=⟨_,(Nat.mul_div_cancel' (Nat.dvd_of_mod_eq_zero h2)).symm⟩;rw[hc]at h3⊢
 have hp:2^(s+1)=2*2^s:=by rw[jE,dM]
 have hp0:0<2^s:=iQ de;have fJ:c<2^(31-s):=by
  rw[e3]at h3;exact Nat.lt_of_mul_lt_mul_left h3
 have h4:2^(s+1)*(c+1)<=2^(s+1)*2^(31-s):=Fh _ fJ;rw[<-e3,Fj,kW]at h4;omega
def aEH(h:Big w v n N)(hn:n<=1000000)(h':Big w v2 n' N')(EH:n'<=1000000)(uz:N'<=N):
  CT 155 #[v,v2] w λe w'=>∃g c k,e=O (aF g k c)/\w.heap.size<=g/\Big w' (aF g k c) k (N-N')/\k<=n/\Gb w w':=by
 obtain⟨xk,hN,b,cap,rfl,l7,Dz,aW⟩:=h;obtain⟨YC,BD,b',cap',rfl,rD,Vp,iD⟩:=h';exact aEI hn hN EH BD aW l7 iD rD uz rfl
def aEO(h:Big w v n N)(hn:n<=1000000)(h':Big w v2 n' N')(EH:n'<=1000000):
  CT 227 #[v,v2] w λe w'=>∃g c k,e=O (aF g k c)/\w.heap.size<=g/\Big w' (aF g k c) k (N+N')/\k<=n+n'+1/\Gb w w':=by
 obtain⟨xk,hN,b,cap,rfl,l7,Dz,aW⟩:=h;obtain⟨YC,BD,b',cap',rfl,rD,Vp,iD⟩:=h';exact aEP hn hN EH BD aW l7 iD rD rfl
def Big.other{o:Nat}(v:Value)(h:Big w (aF g k c) k N)(lM:b≠g):Big (w.setCell ⟨b,o,E⟩ v) (aF g k c) k N:=by
 obtain⟨xk,hN,b1,cap,hv,l7,Dz,aW⟩:=h;cases hv;exact⟨xk,hN,_,_,rfl,l7,Dz,λj hj=>aZ lM (aW j hj)⟩
def aEN(h:Big w v n A)(hn:n<=100000)(h':Big w v2 n' B)(EH:n'<=100000)(hB:0<B):
  CT 153 #[v,v2] w λe w'=>∃q r k k',e=O (.tuple #[q,r])/\Big w' q k (A/B)/\Big w' r k' (A%B)/\k<=n/\k'<=n'+1/\Gb w w':=by
 have HA:Hid _:=h;have HB:Hid _:=h';obtain⟨xk,hN,b,cap,rfl,l7,Dz,aW⟩:=h;obtain⟨YC,BD,b',cap',rfl,rD,Vp,iD⟩:=h';have Vo:nb A<=32*n:=by
  rw[<-rU]at hN;exact vS hN
 obtain⟨w1,hmk,iG,dQ⟩:=aHn n om w;have HO:Hid _:=iG;have HG:Hid _:=dQ;have HN:Hid (nb A<=32*n/\A<4294967296^n/\B<4294967296^n'):=⟨Vo,hN,BD⟩;clear aW iD xk YC iG dQ Dz Vp hN BD;go_enter func153,ntmps153;go_wp2_with (go_at_call 221;refine(Ii (Big.gb HA.out (Gb.alloc HG.out _)) om).mono ?_;rintro e w' ⟨rfl,Bo⟩;subst Bo);go_loopw [7,8] (λr i wr=>∃k rn:Nat,k<=nb A/\i=Z .i64 ((k:Int)-1)/\Big wr r rn (A/2^k%B)/\Own wr w.heap.size (aF w.heap.size n n) n (A/2^k/B*2^k)/\Gb w wr) (λ_ i _=>(intOf i+1).toNat)
 case atStart=>
  have e0:A/2^nb A=0:=xU (Bc A);refine⟨nb A,0,dJ _,jS,?_,?_,Gb.alloc HG.out _⟩
  .rw[e0,Nat.zero_mod];exact⟨⟨de,.inl rfl⟩,(sQ w1 0).raw de⟩
  .rw[e0,Nat.zero_div,Nat.zero_mul];exact Own.alloc HO.out _
 case round=>
  obtain⟨k,rn,hk,rfl,hrb,iG,dQ⟩:=hrel;clear HO HG;have HO:Hid _:=iG;have HG:Hid _:=dQ;have HRB:Hid _:=hrb;have qY:=dQ.size;clear iG dQ hrb hmk;rcases jL k with rfl|jZ
  .have hl:¬((0:Nat):Int)-1≥0:=om;have HF:Hid (Raw wr (aF w.heap.size n n) n (A/B)):=by
    have h1:=HO.out;rw[wP,Nat.div_one,kW]at h1;exact Own.raw h1 (LJ (Nat.div_le_self _ _) HN.out.2.1)
   have HR:Hid (Big wr u7 rn (A%B)):=by
    have h1:=HRB.out;rw[wP,Nat.div_one]at h1;exact h1
   go_wp2_with (go_at_call 220;refine(o9 HF.out om).mono ?_;rintro e w' ⟨v'',k',rfl,hw,oz,EI⟩;subst hw);go_returns;exact⟨_,_,_,_,rfl,oz,HR.out,om,Nat.le_succ_of_le (Nm.le HR.out.1 (Nat.lt_trans (oN _ hB) HN.out.2.2)),HG.out⟩
  .obtain⟨j,rfl⟩:∃j,k=j+1:=⟨k-1,om⟩;have hjj:(((j+1:Nat):Int))-1=(j:Int):=om;have hjn:j<=3200000:=om;obtain⟨R,hR⟩:=x_n (A/2^(j+1)%B*2+A/2^j%2);have hst:=aIE A B j hB R hR;have aWh:A/2^j%2<2:=oN _ de;obtain⟨bit,hbt⟩:=x_n (A/2^j%2);obtain⟨r0,Qv⟩:=x_n (A/2^(j+1)%B);have aVZ:r0<B:=by rw[Qv];exact oN _ hB
   have hrn:rn<=n':=Nm.le HRB.out.1 (Nat.lt_trans (oN _ hB) HN.out.2.2);have ED:Hid (CT 150 #[u7,Z .i64 1] wr λe bf=>∃v' k,e=O v'/\Big bf v' k (r0*2)/\k<=200000/\Gb wr bf):=by
    have h1:=HRB.out;rw[<-Qv]at h1;refine(iM h1 om 1 om).mono ?_;exact aFL
   have Qr:Hid (∀w',Gb wr w'->QW 154 #[aF b n cap,Z .i64 (j:Int)] w' (Z .u32 (bit:Int))):=λw' hg=>by
    rw[hbt];exact SL (Big.gb HA.out (Gb.trans HG.out hg)) om j om
   have aSt:Hid (∀w',CT 132 #[J (bit:Int)] w' λe bf=>∃v' k,e=O v'/\Big bf v' k bit/\k<=200000/\Gb w' bf):=λw'=>by
    refine(iO bit om w').mono ?_;exact aFL
   have HAdd:Hid (∀w' v1 k1 v2 k2,Big w' v1 k1 (r0*2)->k1<=200000->Big w' v2 k2 bit->k2<=200000->CT 227 #[v1,v2] w' λe bf=>∃g c k,e=O (aF g k c)/\w'.heap.size<=g/\Big bf (aF g k c) k R/\k<=500000/\Gb w' bf):=λw' v1 k1 v2 k2 h1 g1 h2 g2=>by
    refine(aEO h1 om h2 om).mono ?_;rintro e bf ⟨g,c,k,rfl,fJ,hb,hk,hg⟩;exact⟨g,c,k,rfl,fJ,by rw[hR,<-Qv,<-hbt];exact hb,om,hg⟩
   have hbl:(bit:Int)<4294967296:=om;obtain⟨z,hz⟩:=x_n (jl R B);have IV:Hid (∀w' v1 k1,Big w' v1 k1 R->k1<=500000->Gb wr w'->QB 133 #[v1,aF b' n' cap'] w' (Z .i64 z)):=λw' v1 k1 h1 g1 hg=>by
    rw[hz];exact kM h1 om (Big.gb HB.out (Gb.trans HG.out hg)) om
   have HSt:Hid _:=hst;have HK:Hid (j+1<=nb A):=hk;clear hst hk hbt Qv hR Vo;have Qs:z=if R<B then-1 else if B<R then 1 else 0:=hz
   by_cases uz:B<=R
   .have mD:0<=z:=by rw[Qs];split<;>(try split)<;>omega
    have jB:z<=1:=by rw[Qs];split<;>(try split)<;>omega
    obtain⟨s1,s2⟩:=HSt.out.1 uz;have HSub:Hid (∀w' v1 k1,Big w' v1 k1 R->k1<=500000->Gb wr w'->CT 155 #[v1,aF b' n' cap'] w' λe bf=>∃g c k,e=O (aF g k c)/\w'.heap.size<=g/\Big bf (aF g k c) k (A/2^j%B)/\Gb w' bf):=λw' v1 k1 h1 g1 hg=>by
     refine(aEH h1 om (Big.gb HB.out (Gb.trans HG.out hg)) om uz).mono ?_;rintro e bf ⟨g,c,k,rfl,fJ,hb,hk,hg⟩;exact⟨g,c,k,rfl,fJ,by rw[<-s1];exact hb,hg⟩
    clear hz Qs;have hjq:Int.tdiv (j:Int) 32=((j/32:Nat):Int):=by rw[Int.tdiv_eq_ediv_of_nonneg (by omega)];omega
    have hjr:Int.tmod (j:Int) 32=((j%32:Nat):Int):=by rw[Int.tmod_eq_emod_of_nonneg (by omega)];omega
    have aRn:j/32<n:=by have:=HN.out.1;have:=HK.out;omega
    obtain⟨pb1,pb2⟩:=aKf (A/2^(j+1)/B*2^(j+1)) j (Nat.mul_mod_left _ _);rw[s2]at pb2;have LZ:=l9 (A/2^(j+1)/B*2^(j+1)) (j/32);have aU0:j%32<32:=oN _ de;have HOw:Hid (∀w',Gb wr w'->Own w' w.heap.size (aF w.heap.size n n) n (A/2^(j+1)/B*2^(j+1))):=λw' hg=>Own.gb HO.out hg;have HFin:Hid (∀w' d,Gb wr w'->d=((dg (A/2^(j+1)/B*2^(j+1)) (j/32)+2^(j%32):Nat):Int)->Own (w'.setCell ⟨w.heap.size,j/32,E⟩ (Z .u32 d)) w.heap.size (aF w.heap.size n n) n (A/2^j/B*2^j)):=λw' d hg hd=>by
     rw[<-pb2,hd];exact Own.store (HOw w' hg) (j/32) _ aRn pb1
    have HCl:Hid (∀w',Gb wr w'->aB w' w.heap.size (j/32) (Z .u32 (dg (A/2^(j+1)/B*2^(j+1)) (j/32):Int))/\dL w' w.heap.size (j/32)):=λw' hg=>Own.at (HOw w' hg) (j/32) aRn;have hpw:((2^(j%32):Nat):Int)=2^(j%32):=by push_cast;rfl
    have hp0:0<2^(j%32):=iQ de;generalize dg (A/2^(j+1)/B*2^(j+1)) (j/32)=dv at*
    generalize j/32=jq at*
    generalize j%32=jr at*
    clear pb2 s2 HSt;obtain⟨pw,aRg⟩:=x_n (2^jr);rw[<-aRg]at HFin pb1 hpw hp0;have hwr:IntKind.u32.wrap (1*2^jr)=(pw:Int):=by rw[<-hpw];rw[IntKind.wrap_u32];omega
    have aVW:IntKind.u32.wrap ((2:Int)^jr)=(pw:Int):=by rw[<-hpw];rw[IntKind.wrap_u32];omega
    have hwa:IntKind.u32.wrap ((dv:Int)+(pw:Int))=((dv+pw:Nat):Int):=by rw[IntKind.wrap_u32];omega
    clear hpw aRg;go_wp2_with (first|(go_at_call 150;refine ED.out.mono ?_;rintro e w2 ⟨v1,k1,rfl,iF,kF,su⟩)|(go_at_call 154;refine kw (Qr _ su) ?_)|(go_at_call 132;refine(aSt _).mono ?_;rintro e w4 ⟨v2,k2,rfl,mY,m_,uH⟩)|(go_at_call 227;refine(HAdd _ _ _ _ _ (Big.gb iF uH) kF mY m_).mono ?_;rintro e w5 ⟨g3,c3,k3,rfl,vk,nO,zu,uG⟩)|(go_at_call 133;refine(IV _ _ _ nO zu (Gb.trans (Gb.trans su uH) uG)).mono ?_;rintro e w6 ⟨rfl,Ro⟩;have hG4:=Gb.trans (Gb.trans (Gb.trans su uH) uG) Ro)|(go_at_call 155;refine(HSub _ _ _ (Big.gb nO Ro) zu hG4).mono ?_;rintro e w7 ⟨g4,c4,k4,rfl,GU,rE,hg5⟩;have hG5:=Gb.trans hG4 hg5;obtain⟨YI,hfz⟩:=HCl w7 hG5))
    have Dk:=aA (HCl wr (Gb.refl wr)).1;have hs4:=hG4.size;refine⟨⟨j,k4,by have:=HK.out;omega,rfl,Big.other _ rE om,HFin.out w7 _ hG5 (by push_cast;rfl),Gb.setCell (Gb.trans HG.out hG5) (dJ _) _⟩,?_⟩;simp[intOf]<;>omega
   .obtain rfl:z=-1:=by rw[Qs,aQ (by omega)]
    obtain⟨s1,s2⟩:=HSt.out.2 om;clear hz Qs;have ZE:Hid _:=s1;have HS2:Hid _:=s2;clear s1 s2;go_wp2_with (first|(go_at_call 150;refine ED.out.mono ?_;rintro e w2 ⟨v1,k1,rfl,iF,kF,su⟩)|(go_at_call 154;refine kw (Qr _ su) ?_)|(go_at_call 132;refine(aSt _).mono ?_;rintro e w4 ⟨v2,k2,rfl,mY,m_,uH⟩)|(go_at_call 227;refine(HAdd _ _ _ _ _ (Big.gb iF uH) kF mY m_).mono ?_;rintro e w5 ⟨g3,c3,k3,rfl,vk,nO,zu,uG⟩)|(go_at_call 133;refine(IV _ _ _ nO zu (Gb.trans (Gb.trans su uH) uG)).mono ?_;rintro e w6 ⟨rfl,Ro⟩;have hG4:=Gb.trans (Gb.trans (Gb.trans su uH) uG) Ro))
    refine⟨⟨j,k3,by have:=HK.out;omega,rfl,?_,?_,Gb.trans HG.out hG4⟩,?_⟩
    .rw[<-ZE.out];exact Big.gb nO Ro
    .rw[<-HS2.out];exact Own.gb HO.out hG4
    .simp[intOf]<;>omega
def aAL(hA:A<4294967296^n)(hR:R*R<=A)(hn:Nm rn R):rn<=n:=by
 refine Nm.le hn (LJ ?_ hA);rcases jL R with rfl|h
 .exact fV _
 .exact yI (Nat.le_mul_of_pos_left R h) hR
def aA9(h:Big w v n A)(hn:n<=1000):
  CT 151 #[v] w λe w'=>∃r k R,e=O r/\Big w' r k R/\k<=n/\sK A R/\Gb w w':=by
 have HA:Hid _:=h;obtain⟨xk,hN,b,cap,rfl,l7,Dz,aW⟩:=h;have Vo:nb A<=32*n:=by
  have h1:=hN;rw[<-rU]at h1;exact vS h1
 obtain⟨K,hK⟩:=x_n ((nb A+1)/2);have hq:Int.tdiv ((nb A:Int)+1) 2=(K:Int):=by rw[Int.tdiv_eq_ediv_of_nonneg (by omega)];omega
 have HN:Hid (A<4294967296^n):=hN;have HK:Hid (A<(0+2^(K+1))*(0+2^(K+1))):=by
  show _<_;have h1:=Bc A;rw[Nat.zero_add,<-jY];exact Ie h1 (pU de om)
 have hK2:K<=16001:=om;clear aW xk Dz hN hK;have aTM:(nb A:Int)<=32000:=om;go_enter func151,ntmps151;go_wp2_with (go_at_call 221;refine(Ii (Big.gb HA.out (Gb.alloc (Gb.refl w) _)) om).mono ?_;rintro e w' ⟨rfl,Bo⟩;subst Bo);go_loopw [3,4] (λr i wr=>∃k rn R:Nat,k<=K+1/\i=Z .i64 ((k:Int)-1)/\Big wr r rn R/\R*R<=A/\A<(R+2^k)*(R+2^k)/\Gb w wr) (λ_ i _=>(intOf i+1).toNat)
 case atStart=>
  exact⟨K+1,0,0,dJ _,jS,⟨⟨de,.inl rfl⟩,(sQ w 0).raw de⟩,fV _,HK.out,Gb.alloc (Gb.refl w) _⟩
 case round=>
  obtain⟨k,rn,R,hk,rfl,hrb,wz,tY,dQ⟩:=hrel;have HG:Hid _:=dQ;have HRB:Hid _:=hrb;have hrn:rn<=n:=aAL HN.out wz hrb.1;clear dQ hrb HK;rcases jL k with rfl|jZ
  .have hl:¬((0:Nat):Int)-1≥0:=om;have HF:Hid (sK A R):=⟨wz,by rw[wP]at tY;exact tY⟩;clear wz tY;go_wp2;go_returns;first|exact⟨_,_,_,rfl,HRB.out,hrn,HF.out,HG.out⟩|exact⟨_,rfl,_,_,HRB.out,hrn,HF.out,HG.out⟩|exact⟨_,rfl,_,HRB.out,hrn,HF.out,HG.out⟩|exact⟨_,rfl,_,⟨_,HRB.out,hrn,HF.out⟩,HG.out⟩|exact⟨_,rfl,_,⟨_,HRB.out,hrn,HF.out,HG.out⟩⟩|exact⟨_,rfl,⟨_,_,HRB.out,hrn,HF.out⟩,HG.out⟩|(trace_state;fail)
  .obtain⟨j,rfl⟩:∃j,k=j+1:=⟨k-1,om⟩;have hjj:(((j+1:Nat):Int))-1=(j:Int):=om;have hjn:j<=16001:=om;have hp:R+2^(j+1)=R+2^j+2^j:=by rw[jE];omega
   rw[hp]at tY;obtain⟨C,hC⟩:=x_n (R+2^j);have EF:Hid (∀w',CT 132 #[J 1] w' λe bf=>∃v' k,e=O v'/\Big bf v' k 1/\k<=2/\Gb w' bf):=λw'=>iO 1 om w';have ED:Hid (∀w' v1 k1,Big w' v1 k1 1->k1<=2->CT 150 #[v1,Z .i64 (j:Int)] w' λe bf=>∃v' k,e=O v'/\Big bf v' k (2^j)/\k<=1000/\Gb w' bf):=λw' v1 k1 h1 g1=>by
    refine(iM h1 om j om).mono ?_;rintro e bf ⟨v',k,rfl,hb,hk,hg⟩;exact⟨v',k,rfl,by rw[Nat.one_mul]at hb;exact hb,om,hg⟩
   have HAdd:Hid (∀w' v2 k2,Big w' v2 k2 (2^j)->k2<=1000->Gb wr w'->CT 227 #[u3,v2] w' λe bf=>∃v' k,e=O v'/\Big bf v' k C/\k<=3000/\Gb w' bf):=λw' v2 k2 h2 g2 hg=>by
    refine(Ik (Big.gb HRB.out hg) om h2 om).mono ?_;rintro e bf ⟨v',k,rfl,hb,hk,hg⟩;exact⟨v',k,rfl,by rw[hC];exact hb,om,hg⟩
   have HMul:Hid (∀w' v1 k1,Big w' v1 k1 C->k1<=3000->CT 152 #[v1,v1] w' λe bf=>∃v' k,e=O v'/\Big bf v' k (C*C)/\k<=6000/\Gb w' bf):=λw' v1 k1 h1 g1=>by
    refine(BX h1 om h1 om).mono ?_;exact aFL
   obtain⟨z,hz⟩:=x_n (jl (C*C) A);have IV:Hid (∀w' v1 k1,Big w' v1 k1 (C*C)->k1<=6000->Gb wr w'->QB 133 #[v1,aF b n cap] w' (Z .i64 z)):=λw' v1 k1 h1 g1 hg=>by
    rw[hz];exact kM h1 om (Big.gb HA.out (Gb.trans HG.out hg)) om
   have Qs:z=if C*C<A then-1 else if A<C*C then 1 else 0:=hz
   rw[<-hC]at tY;clear hz hp;have HR1:Hid (R*R<=A):=wz;have HR2:Hid (A<(C+2^j)*(C+2^j)):=tY;have HCC:Hid (C=R+2^j):=hC;have HKK:Hid (j+1<=K+1):=hk;clear wz tY hC hk Vo;by_cases uz:C*C<=A
   .have mD:z<=0:=by rw[Qs];split<;>(try split)<;>omega
    have jB:-1<=z:=by rw[Qs];split<;>(try split)<;>omega
    have HLE:Hid _:=uz;clear Qs uz;go_wp2_with (first|(go_at_call 132;refine(EF _).mono ?_;rintro e w2 ⟨v1,k1,rfl,iF,kF,su⟩)|(go_at_call 150;refine(ED _ _ _ iF kF).mono ?_;rintro e w3 ⟨v2,k2,rfl,mY,m_,uH⟩)|(go_at_call 227;refine(HAdd _ _ _ mY m_ (Gb.trans su uH)).mono ?_;rintro e w4 ⟨v3,k3,rfl,nO,zu,uG⟩)|(go_at_call 152;refine(HMul _ _ _ nO zu).mono ?_;rintro e w5 ⟨v4,k4,rfl,rE,wL,Ro⟩)|(go_at_call 133;refine(IV _ _ _ rE wL (Gb.trans (Gb.trans (Gb.trans su uH) uG) Ro)).mono ?_;rintro e w6 ⟨rfl,hg5⟩;have hG5:=Gb.trans (Gb.trans (Gb.trans (Gb.trans su uH) uG) Ro) hg5))
    refine⟨⟨j,k3,C,by have:=HKK.out;omega,rfl,Big.gb nO (Gb.trans Ro hg5),HLE.out,HR2.out,Gb.trans HG.out hG5⟩,?_⟩;simp[intOf]<;>omega
   .obtain rfl:z=1:=by rw[Qs,aH om,aQ (by omega)]
    have HLE:Hid (A<C*C):=by show _<_;omega
    clear Qs uz;go_wp2_with (first|(go_at_call 132;refine(EF _).mono ?_;rintro e w2 ⟨v1,k1,rfl,iF,kF,su⟩)|(go_at_call 150;refine(ED _ _ _ iF kF).mono ?_;rintro e w3 ⟨v2,k2,rfl,mY,m_,uH⟩)|(go_at_call 227;refine(HAdd _ _ _ mY m_ (Gb.trans su uH)).mono ?_;rintro e w4 ⟨v3,k3,rfl,nO,zu,uG⟩)|(go_at_call 152;refine(HMul _ _ _ nO zu).mono ?_;rintro e w5 ⟨v4,k4,rfl,rE,wL,Ro⟩)|(go_at_call 133;refine(IV _ _ _ rE wL (Gb.trans (Gb.trans (Gb.trans su uH) uG) Ro)).mono ?_;rintro e w6 ⟨rfl,hg5⟩;have hG5:=Gb.trans (Gb.trans (Gb.trans (Gb.trans su uH) uG) Ro) hg5))
    refine⟨⟨j,rn,R,by have:=HKK.out;omega,rfl,Big.gb HRB.out hG5,HR1.out,by rw[<-HCC.out];exact HLE.out,Gb.trans HG.out hG5⟩,?_⟩;simp[intOf]<;>omega
