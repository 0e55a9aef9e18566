import Derived.Test.YtnbbfeknbfohhaaGreatDoorA1
import Derived.Test.YtnbbfeknbfohhaaGreatDoorB0
import Derived.Test.YtnbbfeknbfohhaaGreatDoorC0
import Derived.Test.YtnbbfeknbfohhaaGreatDoorG3
set_option linter.unusedVariables false
namespace Go.Proofs.YtnbbfeknbfohhaaGreatDoor
open Go.RowKit
def or3(a b c:Int):Int:=if a≠0 then a else if b≠0 then b else c
set_option linter.unusedSimpArgs false
theorem xB(mode sign:Int)(lo:Nat):chosen mode sign lo 0=lo:=by
 unfold chosen up
 rw[if_neg (by simp)];rfl
theorem CV(k:Nat):((2^k:Nat):Int)=(2:Int)^k:=by push_cast;rfl
def VY(inf sg a:Int)(x:bI)(v:Int):Prop:=(x.s=0∧a=v∨x.s=1∧a=v+sg)∧0≤v∧v≤inf∧(x.c=0↔v=0)∧(x.c=2↔v=inf)
theorem C9{f p mx one inf sg nan a:Int}(h:aI f p mx one inf sg nan)(a0:0≤a){x:bI}(hx:bZ p mx one inf sg nan a x)(hc:x.c≤2):a<2*sg∧∃v,VY inf sg a x v∧(x.c=1→nM p mx one v x.e (x.M:Int))∧(x.c≠1→x.e=0∧x.M=0):=by
 have hb:=h.bounds
 rcases hx with⟨ha,v,hs,hv⟩|⟨_,rfl⟩
 ·refine⟨ha,v,?_⟩
  unfold VY
  rcases hv with⟨q,c,e,m⟩|⟨_,_,c,_⟩|⟨_,c,_⟩|⟨q,c,e,m⟩|⟨q0,q1,c,hn⟩
  ·exact⟨⟨om,om,om,om,om⟩,fun c'=>om,fun _=>⟨e,om⟩⟩
  ·exfalso;omega
  ·exfalso;omega
  ·exact⟨⟨om,om,om,om,om⟩,fun c'=>om,fun _=>⟨e,om⟩⟩
  ·exact⟨⟨om,om,om,om,om⟩,fun _=>hn,fun c'=>om⟩
 ·exfalso;dsimp only at hc;omega
theorem aH1{P:Int→Int→Prop}(one:∀Z fl Z' qA,P Z fl→P Z' qA→Z=Z'∧fl=qA)(ex:∃Z fl,P Z fl){S I:Nat}{args:Array Value}
  (hs:∀w,Calls Tryz.prog S args w fun e w'=>∃Z fl,P Z fl∧e=.returned (.agg #[.int .u64 Z,.int .i64 fl])∧Gb w w')
  (hi:∀w,Fm w→Calls Tryz.prog I args w fun e w'=>∃Z fl,P Z fl∧e=.returned (.agg #[.int .u64 Z,.int .i64 fl])∧Gr w w'):
  ∃Z fl:Int,P Z fl∧(∀w,Calls Tryz.prog S args w fun e w'=>e=.returned (.agg #[.int .u64 Z,.int .i64 fl])∧Gb w w')∧
   (∀w,Fm w→Calls Tryz.prog I args w fun e w'=>e=.returned (.agg #[.int .u64 Z,.int .i64 fl])∧Gr w w'):=by
 obtain⟨Z,fl,h⟩:=ex
 refine⟨Z,fl,h,fun w=>(hs w).mono ?_,fun w hw=>(hi w hw).mono ?_⟩
 ·rintro e w' ⟨Z',qA,h',rfl,hg⟩
  obtain⟨rfl,rfl⟩:=one _ _ _ _ h h'
  exact⟨rfl,hg⟩
 ·rintro e w' ⟨Z',qA,h',rfl,hg⟩
  obtain⟨rfl,rfl⟩:=one _ _ _ _ h h'
  exact⟨rfl,hg⟩
def aV(mode:Int)(x:bI):Nat:=chosen mode x.s (aT x.M x.e 0) (aG x.M x.e 0 false)
def mY(x:bI):Bool:=decide (0<aG x.M x.e 0 false)
def yL(mode:Int)(x:bI):bI:=if x.c=1∧x.e<0 then(if aV mode x=0 then⟨0,x.s,0,0⟩else⟨1,x.s,0,aV mode x⟩)else x
theorem pG(M:Nat)(e q:Int)(h:q≤e):aG M e q false=0:=by unfold aG;rw[if_pos h];rfl
theorem BX{x:bI}(h:0≤x.e):mY x=false:=by unfold mY;rw[pG _ _ _ h];rfl
theorem vU{mode:Int}{x:bI}(h:0≤x.e):aV mode x=x.M*2^x.e.toNat:=by
 unfold aV;rw[pG _ _ _ h,xB];unfold aT;rw[if_pos h,Int.sub_zero]
theorem Ou{mode:Int}{x:bI}{P:Nat}(h:x.e<0)(hM:x.M<2^(P+1)):aV mode x≤2^P:=by
 have h1:=(gZ mode x.s (aT x.M x.e 0) (aG x.M x.e 0 false)).2
 have h2:aT x.M x.e 0<2^P:=by
  unfold aT
  rw[if_neg om,Nat.div_lt_iff_lt_mul (Nat.pow_pos de),←Nat.pow_add]
  have:=aW (show P+1≤P+(0-x.e).toNat by omega)
  omega
 unfold aV
 omega
theorem EK{f p mx one inf sg nan:Int}(h:aI f p mx one inf sg nan)(s:Int)(M:Nat)(h0:0<M)(h1:(M:Int)≤2*one):
  ∃z,0<z∧z<inf∧∀mode,aH p (1-mx) mx one inf mode s M 0 false z 0:=by
 obtain⟨P,hP,aA6,hone⟩:=h.pow
 have hone':one=((2^P:Nat):Int):=by rw[CV];exact hone
 have hsucc:2^(P+1)=2*2^P:=by rw[Nat.pow_succ];omega
 have hb:=h.bounds
 have n0:=qL M h0
 have hM1:M≤2^(P+1):=om
 have hn:nb M≤P+2:=nT (by
  rw[show P+2=(P+1)+1 from rfl,Nat.pow_succ]
  have:=Nat.pow_pos (n:=P+1) (show 0<2 by decide)
  omega)
 obtain⟨q,hq⟩:∃q:Int,(nb M:Int)+0-1-p+1=q:=⟨_,rfl⟩
 have nI:aG M 0 q false=0:=by
  by_cases c:q≤0
  ·exact pG _ _ _ c
  ·have hq1:(q-0).toNat =1:=om
   have hM2:M=2^(P+1):=by
    rcases Nat.lt_or_ge M (2^(P+1))with d|d
    ·have:=nT d;omega
    ·omega
   unfold aG
   rw[if_neg c,hq1]
   exact D8 M 1 de (by rw[hM2,hsucc];omega)
 have hlo:aT M 0 q<2^(P+1):=kG M 0 q (P+1) om
 have hlo0:2^P≤aT M 0 q:=Ap M 0 q P h0 om
 refine⟨(aT M 0 q:Nat)+one*((nb M:Int)+0-1-(1-mx)),?_,?_,fun mode=>?_⟩
 ·have:=Int.mul_nonneg (show 0≤one by omega) (show 0≤(nb M:Int)+0-1-(1-mx) by omega)
  omega
 ·rcases h with⟨rfl,rfl,rfl,rfl,rfl,rfl,rfl⟩|⟨rfl,rfl,rfl,rfl,rfl,rfl,rfl⟩<;>omega
 ·refine⟨(nb M:Int)+0-1,(nb M:Int)+0-1,aT M 0 q,_,0,rfl,.inr ⟨om,rfl⟩,by rw[hq,nI],by rw[hq,xB],rfl,.inr (.inr ⟨om,?_,rfl,.inl ⟨rfl,rfl⟩⟩)⟩
  rcases h with⟨rfl,rfl,rfl,rfl,rfl,rfl,rfl⟩|⟨rfl,rfl,rfl,rfl,rfl,rfl,rfl⟩<;>omega
def l7(s:Int)(M:Nat):Int:=if s=1∧M≠0 then 18446744073709551616-(M:Int)else(M:Int)
theorem uX(kind s:Int):dX kind s<18446744073709551616:=by
 unfold dX
 repeat' split
 all_goals decide
theorem aHt(s:Int)(M:Nat)(h:M<18446744073709551616):0≤l7 s M∧l7 s M<18446744073709551616:=by unfold l7;split<;>omega
