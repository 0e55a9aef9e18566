import Derived.Test.YtmiekgjgpmfekaaGreatDoorQe
import Derived.Test.YtmiekgjgpmfekaaGreatDoorM9
import Derived.Test.YtmiekgjgpmfekaaGreatDoorK9
set_option linter.all false
set_option maxHeartbeats 40000000
open Bool renaming false → E, true → U
open Go.Proofs.YtmiekgjgpmfekaaGreatDoor renaming vI → J, vU → Y
open Go.Ending renaming returned → O
open Go.Value renaming bool → X, tuple → V
namespace Go.Proofs.YtmiekgjgpmfekaaGreatDoor
open Go.RowKit
variable{f p mx inf sg nan a mode Z fl kind Z' oQ s v:Int}{w:World}
def tw(kind s:Int)(N:Nat):Int × Bool:=if N<=bG kind s then(eG s N,U)else(eG s (bG kind s),E)
theorem jP(N:Nat)(h:N<18446744073709551616):IntKind.u64.wrap (-(N:Int))=eG 1 N:=by
 rw[IntKind.wrap_u64];unfold eG;by_cases c:N=0
 ·subst c;rfl
 ·rw[if_pos ⟨rfl,c⟩];omega
theorem oW(N:Nat):eG 0 N=(N:Int):=by unfold eG;rw[if_neg (by simp)]
theorem IK(s:Int)(hs:s=0\/s=1)(N:Nat)(hN:N<340282366920938463463374607431768211456)(w:World):
  QR 261 #[.agg #[.int .i32 (-2147483648),.int .i32 2147483647],J s,aG ((N/18446744073709551616:Nat):Int) ((N%18446744073709551616:Nat):Int)] w (V #[Y (tw 0 s N).1,X (tw 0 s N).2]):=by
 unfold tw;rcases hs with rfl|rfl
 ·have hm:bG 0 0=2147483647:=de;have he:eG 0 (bG 0 0)=2147483647:=by rw[hm];decide
  rw[he,hm];by_cases c:N/18446744073709551616=0
  ·by_cases c2:N<=2147483647
   ·rw[if_pos c2];have hl:N%18446744073709551616=N:=om;rw[hl,c];exact(oW N).symm ▸IQ _ _ rfl (decide_eq_false om) w
   ·rw[if_neg c2];exact Gn _ _ om (decide_eq_true om) w
  ·rw[if_neg (by omega)];exact Gm _ _ (by simp;omega) w
 ·have hm:bG 0 1=2147483648:=de;have he:eG 1 (bG 0 1)=18446744071562067968:=by rw[hm];decide
  rw[he,hm];by_cases c:N/18446744073709551616=0
  ·by_cases c2:N<=2147483648
   ·rw[if_pos c2];have hl:N%18446744073709551616=N:=om;rw[hl,c];exact IL _ _ _ rfl (decide_eq_false om) (jP N om) w
   ·rw[if_neg c2];exact Gj _ _ om (decide_eq_true om) w
  ·rw[if_neg (by omega)];exact Gi _ _ (by simp;omega) w
theorem sJ(s:Int)(hs:s=0\/s=1)(N:Nat)(hN:N<340282366920938463463374607431768211456)(w:World):
  QR 264 #[gQ (-9223372036854775808) 9223372036854775807,J s,aG ((N/18446744073709551616:Nat):Int) ((N%18446744073709551616:Nat):Int)] w (V #[Y (tw 1 s N).1,X (tw 1 s N).2]):=by
 unfold tw;rcases hs with rfl|rfl
 ·have hm:bG 1 0=9223372036854775807:=de;have he:eG 0 (bG 1 0)=9223372036854775807:=by rw[hm];decide
  rw[he,hm];by_cases c:N/18446744073709551616=0
  ·by_cases c2:N<=9223372036854775807
   ·rw[if_pos c2];have hl:N%18446744073709551616=N:=om;rw[hl,c];exact(oW N).symm ▸yR _ _ rfl (decide_eq_false om) w
   ·rw[if_neg c2];exact xA _ _ om (decide_eq_true om) w
  ·rw[if_neg (by omega)];exact xw _ _ (by simp;omega) w
 ·have hm:bG 1 1=9223372036854775808:=de;have he:eG 1 (bG 1 1)=9223372036854775808:=by rw[hm];decide
  rw[he,hm];by_cases c:N/18446744073709551616=0
  ·by_cases c2:N<=9223372036854775808
   ·rw[if_pos c2];have hl:N%18446744073709551616=N:=om;rw[hl,c];exact yQ _ _ _ rfl (decide_eq_false om) (jP N om) w
   ·rw[if_neg c2];exact xk _ _ om (decide_eq_true om) w
  ·rw[if_neg (by omega)];exact xg _ _ (by simp;omega) w
theorem IG(s:Int)(hs:s=0\/s=1)(N:Nat)(hN:N<340282366920938463463374607431768211456)(w:World):
  QR 266 #[.agg #[.int .u32 0,.int .u32 4294967295],J s,aG ((N/18446744073709551616:Nat):Int) ((N%18446744073709551616:Nat):Int)] w (V #[Y (tw 2 s N).1,X (tw 2 s N).2]):=by
 unfold tw;rcases hs with rfl|rfl
 ·have hm:bG 2 0=4294967295:=de;have he:eG 0 (bG 2 0)=4294967295:=by rw[hm];decide
  rw[he,hm];by_cases c:N/18446744073709551616=0
  ·by_cases c2:N<=4294967295
   ·rw[if_pos c2];have hl:N%18446744073709551616=N:=om;rw[hl,c];exact(oW N).symm ▸IJ _ _ rfl (decide_eq_false om) w
   ·rw[if_neg c2];exact Gg _ _ om (decide_eq_true om) w
  ·rw[if_neg (by omega)];exact Gf _ _ (by simp;omega) w
 ·have hm:bG 2 1=0:=de;have he:eG 1 (bG 2 1)=0:=by rw[hm];decide
  rw[he,hm];by_cases c:N/18446744073709551616=0
  ·by_cases c2:N<=0
   ·rw[if_pos c2];have hl:N%18446744073709551616=N:=om;rw[hl,c];exact II _ _ _ rfl (decide_eq_false om) (jP N om) w
   ·rw[if_neg c2];exact F9 _ _ om (decide_eq_true om) w
  ·rw[if_neg (by omega)];exact F8 _ _ (by simp;omega) w
theorem IB(s:Int)(hs:s=0\/s=1)(N:Nat)(hN:N<340282366920938463463374607431768211456)(w:World):
  QR 268 #[aG 0 18446744073709551615,J s,aG ((N/18446744073709551616:Nat):Int) ((N%18446744073709551616:Nat):Int)] w (V #[Y (tw 3 s N).1,X (tw 3 s N).2]):=by
 unfold tw;rcases hs with rfl|rfl
 ·have hm:bG 3 0=18446744073709551615:=de;have he:eG 0 (bG 3 0)=18446744073709551615:=by rw[hm];decide
  rw[he,hm];by_cases c:N/18446744073709551616=0
  ·by_cases c2:N<=18446744073709551615
   ·rw[if_pos c2];have hl:N%18446744073709551616=N:=om;rw[hl,c];exact(oW N).symm ▸IE _ _ rfl (decide_eq_false om) w
   ·rw[if_neg c2];exact F7 _ _ om (decide_eq_true om) w
  ·rw[if_neg (by omega)];exact F6 _ _ (by simp;omega) w
 ·have hm:bG 3 1=0:=de;have he:eG 1 (bG 3 1)=0:=by rw[hm];decide
  rw[he,hm];by_cases c:N/18446744073709551616=0
  ·by_cases c2:N<=0
   ·rw[if_pos c2];have hl:N%18446744073709551616=N:=om;rw[hl,c];exact IC _ _ _ rfl (decide_eq_false om) (jP N om) w
   ·rw[if_neg c2];exact FZ _ _ om (decide_eq_true om) w
  ·rw[if_neg (by omega)];exact FY _ _ (by simp;omega) w
def iY(mode kind:Int)(x:bZ)(Z fl:Int):Prop:=
 3<=x.c/\Z=eG 0 (bG kind 0)/\fl=1\/
 x.c<=1/\aN mode x<=bG kind x.s/\Z=eG x.s (aN mode x)/\fl=yE x\/
 x.c<=2/\(x.c=2\/bG kind x.s<aN mode x)/\Z=eG x.s (bG kind x.s)/\fl=1
def C9(f mode kind a:Int):Prop:=¬(0<=mode/\mode<=4)\/¬(0<=kind/\kind<=3)\/¬(f=0\/f=1)\/f=0/\4294967296<=a
def dw(f mode kind a Z fl:Int):Prop:=
 (∃p mx one inf sg nan x,aP f p mx one inf sg nan/\a<2*sg/\(0<=mode/\mode<=4)/\(0<=kind/\kind<=3)/\bP p mx one inf sg nan a x/\iY mode kind x Z fl)\/C9 f mode kind a/\Z=0/\fl=1
theorem iY.one{x:bZ}(hx:0<=x.c)(h:iY mode kind x Z fl)(h':iY mode kind x Z' oQ):Z=Z'/\fl=oQ:=by
 rcases h with⟨c,rfl,rfl⟩|⟨c,d,rfl,rfl⟩|⟨c,d,rfl,rfl⟩<;>rcases h' with⟨c',rfl,rfl⟩|⟨c',d',rfl,rfl⟩|⟨c',d',rfl,rfl⟩<;>first|exact⟨rfl,rfl⟩|(exfalso;omega)
theorem uQ{one:Int}(h:aP f p mx one inf sg nan)(ha:a<2*sg):¬(¬(f=0\/f=1)\/f=0/\4294967296<=a):=by
 rcases h with⟨rfl,rfl,rfl,rfl,rfl,rfl,rfl⟩|⟨rfl,rfl,rfl,rfl,rfl,rfl,rfl⟩<;>omega
theorem dw.one(h:dw f mode kind a Z fl)(h':dw f mode kind a Z' oQ):Z=Z'/\fl=oQ:=by
 rcases h with⟨p,mx,one,inf,sg,nan,x,hF,ha,hm,hk,hx,hp⟩|⟨hn,rfl,rfl⟩<;>
 rcases h' with⟨p',mx',one',inf',SS,nan',x',hF',ha',hm',hk',hx',hp'⟩|⟨hn',rfl,rfl⟩
 ·obtain⟨rfl,rfl,rfl,rfl,rfl,rfl⟩:=hF.one hF';obtain rfl:=hx.one hF hx';exact iY.one (bQ hF hx).1.c0 hp hp'
 ·have:=uQ hF ha;unfold C9 at hn';exfalso;rcases hn' with h|h|h<;>first|exact h hm|exact h hk|exact this h
 ·have:=uQ hF' ha';unfold C9 at hn;exfalso;rcases hn with h|h|h<;>first|exact h hm'|exact h hk'|exact this h
 ·exact⟨rfl,rfl⟩
theorem yS(f mode kind a:Int)(a0:0<=a)(a1:a<18446744073709551616):∃Z fl,dw f mode kind a Z fl:=by
 by_cases hn:C9 f mode kind a
 ·exact⟨_,_,.inr ⟨hn,rfl,rfl⟩⟩
 ·unfold C9 at hn;have hm:0<=mode/\mode<=4:=om;have hk:0<=kind/\kind<=3:=om;have hf:f=0\/f=1:=om;obtain⟨p,mx,one,inf,sg,nan,hF⟩:=iC f hf;have ha:a<2*sg:=by rcases hF with⟨rfl,rfl,rfl,rfl,rfl,rfl,rfl⟩|⟨rfl,rfl,rfl,rfl,rfl,rfl,rfl⟩<;>omega
  obtain⟨x,hx⟩:=fE hF a a0 a1;have c0:=(bQ hF hx).1.c0;have fin:∀Z fl,iY mode kind x Z fl->∃Z fl,dw f mode kind a Z fl:=fun Z fl h=>⟨Z,fl,.inl ⟨p,mx,one,inf,sg,nan,x,hF,ha,hm,hk,hx,h⟩⟩;by_cases c:3<=x.c
  ·exact fin _ _ (.inl ⟨c,rfl,rfl⟩)
  ·by_cases d:x.c=2\/bG kind x.s<aN mode x
   ·exact fin _ _ (.inr (.inr ⟨om,d,rfl,rfl⟩))
   ·exact fin _ _ (.inr (.inl ⟨om,om,rfl,rfl⟩))
theorem X5(M:Nat)(n:Nat)(hM:M<340282366920938463463374607431768211456)(hn:n<=128)(h:M*2^n<340282366920938463463374607431768211456)(w:World):
  QR 158 #[aG ((M/18446744073709551616:Nat):Int) ((M%18446744073709551616:Nat):Int),J n] w (aG ((M*2^n/18446744073709551616:Nat):Int) ((M*2^n%18446744073709551616:Nat):Int)):=by
 have e0:((M/18446744073709551616:Nat):Int)*18446744073709551616+((M%18446744073709551616:Nat):Int)=(M:Int):=om;have hk:(bnd (n:Int)).toNat =n:=by unfold bnd;rw[if_neg om,if_neg (by omega)];simp
 refine(lX _ _ (n:Int) om om om om w).mono ?_;rintro e w' ⟨rfl,hg⟩;refine⟨Ew ?_ ?_,hg⟩
 ·unfold lu;rw[hk,e0,cast_mul];omega
 ·unfold lq;rw[hk,e0,cast_mul];omega
theorem qA{one:Int}(hF:aP f p mx one inf sg nan)(mn mode:Int)(hm:0<=mode/\mode<=4)(k:Nat)(hk:qC mode k)(a0:0<=a){x:bZ}(hx:bP p mx one inf sg nan a x):
  ∃(os oe oc oh ol of:Int) (ot:Bool) (N:Nat),(∀w,Ud p mn mx mode k 91 x.s x.e x.c (((x.M/18446744073709551616:Nat):Int)) (((x.M%18446744073709551616:Nat):Int)) E 0 w os oe oc oh ol ot of)/\
   (∀w,Ij os oe oc oh ol ot of w ((N/18446744073709551616:Nat):Int) ((N%18446744073709551616:Nat):Int))/\N<340282366920938463463374607431768211456/\(os=0\/os=1)/\
   (3<=x.c/\os=0/\N=18446744073709551616\/x.c=2/\os=x.s/\N=18446744073709551616\/x.c<=1/\os=x.s/\of=yE x/\(N=aN mode x\/18446744073709551616<=N/\18446744073709551616<=aN mode x)):=by
 obtain⟨v1,v2,v3,v4,v5,v6⟩:=bQ hF hx;have hb:=hF.bounds;have xc0:=v1.c0;have Ui:=v1.c4;have zL:(18446744073709551616:Nat)/18446744073709551616=1/\(18446744073709551616:Nat)%18446744073709551616=0:=de;by_cases cn:3<=x.c
 ·refine⟨0,0,x.c,0,0,0,E,18446744073709551616,fun w=>iK p mn mx mode k _ _ _ _ _ _ _ _ _ _ _ _ _ x.c om cn w,fun w=>?_,de,.inl rfl,.inl ⟨cn,rfl,rfl⟩⟩;rw[zL.1,zL.2];exact uG 0 0 x.c 0 0 0 E (decide_eq_true om) w
 ·have comb:∀os oe oc oh ol ot of,(∀w,Ik p mn mx mode k x.s x.e x.c (((x.M/18446744073709551616:Nat):Int)) (((x.M%18446744073709551616:Nat):Int)) E 0 x.s x.e x.c (((x.M/18446744073709551616:Nat):Int)) (((x.M%18446744073709551616:Nat):Int)) E 0 w os oe oc oh ol ot of)->∀w,Ud p mn mx mode k 91 x.s x.e x.c (((x.M/18446744073709551616:Nat):Int)) (((x.M%18446744073709551616:Nat):Int)) E 0 w os oe oc oh ol ot of:=by
   intro os oe oc oh ol ot of h w;refine(nD p mn mx mode k _ _ _ _ _ _ _ _ _ _ _ _ x.c om om (fun a b c d e f g=>a=os/\b=oe/\c=oc/\d=oh/\e=ol/\f=ot/\g=of) (fun w=>(h w).mono (fun e w' ⟨h1,h2⟩=>⟨_,_,_,_,_,_,_,⟨rfl,rfl,rfl,rfl,rfl,rfl,rfl⟩,h1,h2⟩)) w).mono ?_;rintro e w' ⟨_,_,_,_,_,_,_,⟨rfl,rfl,rfl,rfl,rfl,rfl,rfl⟩,rfl,hg⟩;exact⟨rfl,hg⟩
  by_cases c2:x.c=2
  ·refine⟨x.s,x.e,x.c,_,_,0,E,18446744073709551616,comb _ _ _ _ _ _ _ (fun w=>qH p mn mx mode k _ _ _ _ _ _ _ _ _ _ _ _ (by simp[c2]) w),fun w=>?_,de,v1.jF,.inr (.inl ⟨c2,rfl,rfl⟩)⟩;rw[zL.1,zL.2];exact uG _ _ _ _ _ _ _ (decide_eq_true om) w
  ·by_cases hn:x.c=1/\x.e<0
   ·obtain⟨c,e⟩:=hn;have hl:=(jW hF hx mode c e).1;have HR:∀b:Bool,decide (0<aJ x.M x.e 0 E)=b->J4 k (0-x.e) x.s ((x.M/18446744073709551616:Nat):Int) ((x.M%18446744073709551616:Nat):Int) E ((aN mode x:Nat):Int) b:=fun b hb' w=>hb'▸mG mode k hk x.s v1.jF x.M om x.e 0 (0-x.e) E rfl om om (fun _=>rfl) (by
      have h1:=(fZ mode x.s (aW x.M x.e 0) (aJ x.M x.e 0 E)).1;unfold aN at hl;omega) w
    have hn:wrap64 (-x.e)=0-x.e:=by
     rw[show-x.e=0-x.e by omega];unfold wrap64;omega
    have ce:decide (0<=x.e)=E:=by simp;omega
    have hsz:∀fl w,QR 92 #[aU x.s 0 1 0 (((aN mode x:Nat):Int)) E fl] w (aG ((aN mode x/18446744073709551616:Nat):Int) ((aN mode x%18446744073709551616:Nat):Int)):=by
     intro fl w;have h0:=X5 (aN mode x) 0 om om om;rw[Nat.pow_zero,Nat.mul_one,show aN mode x/18446744073709551616=0 by omega,show aN mode x%18446744073709551616=aN mode x by omega]at h0;rw[show aN mode x/18446744073709551616=0 by omega,show aN mode x%18446744073709551616=aN mode x by omega];exact uF _ 0 1 _ _ fl 0 _ _ E de de (fun w=>h0 w) w
    by_cases hh:0<aJ x.M x.e 0 E
    ·refine⟨x.s,0,1,0,_,16,E,aN mode x,comb _ _ _ _ _ _ _ (fun w=>zY p mn mx mode k _ _ _ _ _ _ _ _ _ _ _ _ (0-x.e) _ c ce hn (HR U (by simp[hh])) w),hsz 16,om,v1.jF,.inr (.inr ⟨om,rfl,?_,.inl rfl⟩)⟩;unfold yE fD;rw[if_pos ⟨c,by simp[hh]⟩]
    ·refine⟨x.s,0,1,0,_,0,E,aN mode x,comb _ _ _ _ _ _ _ (fun w=>zZ p mn mx mode k _ _ _ _ _ _ _ _ _ _ _ _ (0-x.e) _ c ce hn (HR E (by simp[hh])) w),hsz 0,om,v1.jF,.inr (.inr ⟨om,rfl,?_,.inl rfl⟩)⟩;unfold yE fD;rw[if_neg (by simp[hh])]
   ·have he:0<=x.e:=by
     by_cases c:x.c=1
     ·omega
     ·obtain⟨_,v,_,_,hz⟩:=lW hF a0 hx om;have:=hz c;omega
    have hw:=jG (mode:=mode) he;obtain⟨n,hnn⟩:∃n:Nat,min x.e 64=(n:Int):=⟨(min x.e 64).toNat,om⟩;have CV:n<=64:=om;have hlt:x.M*2^n<340282366920938463463374607431768211456:=by
     have h1:=bT CV;have h2:x.M*2^n<=x.M*2^64:=Nat.mul_le_mul_left _ h1;have h3:(2:Nat)^64=18446744073709551616:=de;rw[h3]at h2;omega
    refine⟨x.s,x.e,x.c,_,_,0,E,x.M*2^n,comb _ _ _ _ _ _ _ (fun w=>?_),fun w=>uF _ _ _ _ _ _ (n:Int) _ _ _ (decide_eq_false om) hnn (fun w=>X5 x.M n om om hlt w) w,hlt,v1.jF,.inr (.inr ⟨om,rfl,(qF (a:=a) hF hn).symm,?_⟩)⟩
    ·by_cases c:x.c=1
     ·refine(z_ p mn mx mode k _ _ _ _ _ _ _ _ _ _ _ _ c (by simp;omega) w).mono ?_;rintro r w' ⟨rfl,hg⟩;exact⟨by rw[c],hg⟩
     ·exact qH p mn mx mode k _ _ _ _ _ _ _ _ _ _ _ _ (by simp[c]) w
    ·rw[hw];by_cases c64:x.e<=64
     ·left;rw[show x.e.toNat=n by omega]
     ·have hnE:n=64:=om;rcases Nat.eq_zero_or_pos x.M with m0|m0
      ·left;rw[m0];simp
      ·right;subst hnE;have h3:(2:Nat)^64=18446744073709551616:=de;have h1:=bT (show 64<=x.e.toNat by omega);have h2:x.M*2^64<=x.M*2^x.e.toNat:=Nat.mul_le_mul_left _ h1;rw[h3]at h2⊢
       omega
theorem nI{one:Int}(hF:aP f p mx one inf sg nan)(mode kind:Int)(hm:0<=mode/\mode<=4)(hkd:0<=kind/\kind<=3)(a0:0<=a)(a1:a<18446744073709551616)(ha:a<2*sg){x:bZ}(hx:bP p mx one inf sg nan a x)(hw:Fm w):
  CT 37 #[J f,J mode,J kind,Y a] w fun e w'=>∃Z fl,iY mode kind x Z fl/\e=O (aK Z fl)/\Gr w w':=by
 obtain⟨mn,fb,sp,hM,hmn,hfb⟩:=hF.m;obtain⟨k,hk⟩:=kH mode hm.1 hm.2;obtain⟨x',hx',HA⟩:=lI hF hM a a0 a1;obtain rfl:=hx.one hF hx';have xc0:=(bQ hF hx).1.c0;obtain⟨os,oe,oc,oh,ol,of,ot,N,HC,HZ,hN,hos,hcase⟩:=qA hF mn mode hm k hk a0 hx;have HS:Hid (∀w',Gr w w'->mZ f mode w' p mn mx k U):=fun w'' hg'=>eP hF hM mode k (fun w=>gW mode k hk w) (hw.gr hg');have qE:pW p mn mx a U:=fun w=>by
  have:=fits_any hM a a0 a1 w;rw[decide_eq_true ha]at this;exact this
 have hl0:=mM kind os;have fin:∀(q:Bool) (z:Int),tw kind os N=(z,q)->iY mode kind x z (if q then of else 1):=by
  intro q z htw;unfold tw at htw;by_cases c:N<=bG kind os
  ·rw[if_pos c]at htw;injection htw with h1 h2;subst h1 h2;rcases hcase with⟨_,_,rfl⟩|⟨_,_,rfl⟩|⟨c1,rfl,rfl,hw|⟨hw,_⟩⟩
   ·omega
   ·omega
   ·rw[hw]at c⊢
    exact .inr (.inl ⟨c1,c,rfl,rfl⟩)
   ·omega
  ·rw[if_neg c]at htw;injection htw with h1 h2;subst h1 h2;rcases hcase with⟨c3,rfl,rfl⟩|⟨c2,rfl,rfl⟩|⟨c1,rfl,rfl,hw|⟨_,hw⟩⟩
   ·exact .inl ⟨c3,rfl,rfl⟩
   ·exact .inr (.inr ⟨om,.inl c2,rfl,rfl⟩)
   ·exact .inr (.inr ⟨om,.inr om,rfl,rfl⟩)
   ·exact .inr (.inr ⟨om,.inr om,rfl,rfl⟩)
 obtain⟨⟨z,q⟩,htw⟩:∃r,tw kind os N=r:=⟨_,rfl⟩;have hO:=fin q z htw;rcases(show kind=0\/kind=1\/kind=2\/kind=3 by omega)with rfl|rfl|rfl|rfl
 ·have HT:KR 261 #[.agg #[.int .i32 (-2147483648),.int .i32 2147483647],J os,aG ((N/18446744073709551616:Nat):Int) ((N%18446744073709551616:Nat):Int)] (V #[Y z,X q]):=fun w=>by
   have:=IK os hos N hN w;rw[htw]at this;exact this
  cases hq:q
  ·refine(aF6 p mn mx mode f 0 a _ _ _ _ _ os oe oc oh ol of _ _ z _ ot q hq k HS (fun w=>rG w) qE HA HC HZ HT).mono ?_;rintro e w' ⟨rfl,hg⟩;rw[hq]at hO;exact⟨_,_,hO,rfl,hg⟩
  ·refine(aF2 p mn mx mode f 0 a _ _ _ _ _ os oe oc oh ol of _ _ z _ ot q hq k HS (fun w=>rG w) qE HA HC HZ HT).mono ?_;rintro e w' ⟨rfl,hg⟩;rw[hq]at hO;exact⟨_,_,hO,rfl,hg⟩
 ·have HT:KR 264 #[gQ (-9223372036854775808) 9223372036854775807,J os,aG ((N/18446744073709551616:Nat):Int) ((N%18446744073709551616:Nat):Int)] (V #[Y z,X q]):=fun w=>by
   have:=sJ os hos N hN w;rw[htw]at this;exact this
  cases hq:q
  ·refine(aF5 p mn mx mode f 1 a _ _ _ _ _ os oe oc oh ol of _ _ z _ ot q hq k HS (fun w=>kN w) qE HA HC HZ HT).mono ?_;rintro e w' ⟨rfl,hg⟩;rw[hq]at hO;exact⟨_,_,hO,rfl,hg⟩
  ·refine(aF1 p mn mx mode f 1 a _ _ _ _ _ os oe oc oh ol of _ _ z _ ot q hq k HS (fun w=>kN w) qE HA HC HZ HT).mono ?_;rintro e w' ⟨rfl,hg⟩;rw[hq]at hO;exact⟨_,_,hO,rfl,hg⟩
 ·have HT:KR 266 #[.agg #[.int .u32 0,.int .u32 4294967295],J os,aG ((N/18446744073709551616:Nat):Int) ((N%18446744073709551616:Nat):Int)] (V #[Y z,X q]):=fun w=>by
   have:=IG os hos N hN w;rw[htw]at this;exact this
  cases hq:q
  ·refine(aF4 p mn mx mode f 2 a _ _ _ _ _ os oe oc oh ol of _ _ z _ ot q hq k HS (fun w=>rF w) qE HA HC HZ HT).mono ?_;rintro e w' ⟨rfl,hg⟩;rw[hq]at hO;exact⟨_,_,hO,rfl,hg⟩
  ·refine(aF0 p mn mx mode f 2 a _ _ _ _ _ os oe oc oh ol of _ _ z _ ot q hq k HS (fun w=>rF w) qE HA HC HZ HT).mono ?_;rintro e w' ⟨rfl,hg⟩;rw[hq]at hO;exact⟨_,_,hO,rfl,hg⟩
 ·have HT:KR 268 #[aG 0 18446744073709551615,J os,aG ((N/18446744073709551616:Nat):Int) ((N%18446744073709551616:Nat):Int)] (V #[Y z,X q]):=fun w=>by
   have:=IB os hos N hN w;rw[htw]at this;exact this
  cases hq:q
  ·refine(aF3 p mn mx mode f 3 a _ _ _ _ _ os oe oc oh ol of _ _ z _ ot q hq k HS (fun w=>rE w) qE HA HC HZ HT).mono ?_;rintro e w' ⟨rfl,hg⟩;rw[hq]at hO;exact⟨_,_,hO,rfl,hg⟩
  ·refine(aFZ p mn mx mode f 3 a _ _ _ _ _ os oe oc oh ol of _ _ z _ ot q hq k HS (fun w=>rE w) qE HA HC HZ HT).mono ?_;rintro e w' ⟨rfl,hg⟩;rw[hq]at hO;exact⟨_,_,hO,rfl,hg⟩
theorem Nj(kind:Int):∃(kv:Value) (kb:Bool),(∀w,QR 87 #[J kind] w (V #[kv,X kb]))/\(0<=kind/\kind<=3->kb=U)/\(¬(0<=kind/\kind<=3)->kb=E/\kv=Value.nilIface):=by
 by_cases h:0<=kind/\kind<=3
 ·rcases(show kind=0\/kind=1\/kind=2\/kind=3 by omega)with rfl|rfl|rfl|rfl
  ·exact⟨_,U,rG,fun _=>rfl,fun h=>absurd om h⟩
  ·exact⟨_,U,kN,fun _=>rfl,fun h=>absurd om h⟩
  ·exact⟨_,U,rF,fun _=>rfl,fun h=>absurd om h⟩
  ·exact⟨_,U,rE,fun _=>rfl,fun h=>absurd om h⟩
 ·exact⟨_,E,AL kind h,fun h'=>absurd h' h,fun _=>⟨rfl,rfl⟩⟩
theorem qm(f mode kind a:Int)(a0:0<=a)(a1:a<18446744073709551616)(w:World)(hw:Fm w):
  CT 37 #[J f,J mode,J kind,Y a] w fun e w'=>∃Z fl,dw f mode kind a Z fl/\e=O (aK Z fl)/\Gr w w':=by
 obtain⟨kv,kb,HK,hk1,hk0⟩:=Nj kind;have bad:C9 f mode kind a->(pV f mode kind a w 0 1)->CT 37 #[J f,J mode,J kind,Y a] w fun e w'=>∃Z fl,dw f mode kind a Z fl/\e=O (aK Z fl)/\Gr w w':=fun hn h=>h.mono (fun e w' ⟨h1,h2⟩=>⟨0,1,.inr ⟨hn,rfl,rfl⟩,h1,h2⟩);by_cases hf:f=0\/f=1
 ·obtain⟨p,mx,one,inf,sg,nan,hF⟩:=iC f hf;obtain⟨mn,fb,sp,hM,hmn,hfb⟩:=hF.m;by_cases hm:0<=mode/\mode<=4
  ·obtain⟨k,hk⟩:=kH mode hm.1 hm.2;have HS:Hid (∀w',Gr w w'->mZ f mode w' p mn mx k U):=fun w'' hg'=>eP hF hM mode k (fun w=>gW mode k hk w) (hw.gr hg');by_cases hkd:0<=kind/\kind<=3
   ·obtain rfl:=hk1 hkd;by_cases ha:a<2*sg
    ·obtain⟨x,hx⟩:=fE hF a a0 a1;refine(nI hF mode kind hm hkd a0 a1 ha hx hw).mono ?_;rintro e w' ⟨Z,fl,h,rfl,hg⟩;exact⟨_,_,.inl ⟨p,mx,one,inf,sg,nan,x,hF,ha,hm,hkd,hx,h⟩,rfl,hg⟩
    ·refine bad (.inr (.inr (.inr ?_))) (aEm p mn mx mode f mode kind a k kv HS HK (fun w=>?_))
     ·rcases hF with⟨rfl,rfl,rfl,rfl,rfl,rfl,rfl⟩|⟨rfl,rfl,rfl,rfl,rfl,rfl,rfl⟩<;>omega
     ·have:=fits_any hM a a0 a1 w;rw[decide_eq_false ha]at this;exact this
   ·obtain⟨rfl,rfl⟩:=hk0 hkd;exact bad (.inr (.inl hkd)) (aEn p mn mx mode f mode kind a k HS HK)
  ·exact bad (.inl hm) (XH p mn mx mode f mode kind a kv kb (fun w'' hg'=>gK hF hM mode (fun w=>kD mode om w) (hw.gr hg')) HK)
 ·exact bad (.inr (.inr (.inl hf))) (XH _ _ _ _ f mode kind a kv kb (fun w'' hg'=>fU f mode hf (hw.gr hg')) HK)
theorem ou(s:Int)(hs:s=0\/s=1)(K:Nat)(hK:K<=1000000)(N:Nat)(hN:N<18446744073709551616)(b k c:Nat)(w:World)(hB:aC K w (aB b k c) N):
  rX s b k c w (eG s N):=by
 refine BP s (N:Int) _ ?_ b k c (fun w' hg=>?_)
 ·rcases hs with rfl|rfl
  ·exact .inr ⟨rfl,(oW N).symm⟩
  ·exact .inl ⟨rfl,by rw[Int.zero_sub];exact jP N hN,jP N hN⟩
 ·obtain⟨n,hn,hb⟩:=aC.gb hB hg;refine(yg hb om hN).mono ?_;rintro e w'' ⟨rfl,hg'⟩;exact⟨rfl,by first|exact hg'|(subst hg';exact Gb.refl _)⟩
theorem JO(kind:Int)(h:0<=kind/\kind<=3):(lD kind==0)=E:=by
 rcases(show kind=0\/kind=1\/kind=2\/kind=3 by omega)with rfl|rfl|rfl|rfl<;>decide
theorem aCl(kind:Int)(h:¬(0<=kind/\kind<=3)):lD kind=0:=by unfold lD;rw[if_neg om,if_neg (by omega)]
theorem pY(f mode kind a:Int)(a0:0<=a)(a1:a<18446744073709551616)(w:World):
  CT 63 #[J f,J mode,J kind,Y a] w fun e w'=>∃Z fl,dw f mode kind a Z fl/\e=O (aK Z fl)/\Gb w w':=by
 have bad:C9 f mode kind a->(rV f mode kind a w 0 1)->CT 63 #[J f,J mode,J kind,Y a] w fun e w'=>∃Z fl,dw f mode kind a Z fl/\e=O (aK Z fl)/\Gb w w':=fun hn h=>h.mono (fun e w' ⟨h1,h2⟩=>⟨0,1,.inr ⟨hn,rfl,rfl⟩,h1,h2⟩);by_cases hkd:0<=kind/\kind<=3
 ·have HK:kX kind (lD kind) (wP kind):=fun w=>jC kind w;have hB0:=JO kind hkd;by_cases hm:0<=mode/\mode<=4
  ·have HY:KW 82 #[J mode] (X U):=fun w=>jK mode U (by simp[hm]) w;by_cases hf:f=0\/f=1
   ·obtain⟨p,mx,one,inf,sg,nan,hF⟩:=iC f hf;by_cases ha:a<2*sg
    ·have qE:KW 117 #[J f,Y a] (X U):=fun w=>iW hF a a0 ha w;obtain⟨x,hx⟩:=fE hF a a0 a1;obtain⟨v1,v2,v3,v4,v5,v6⟩:=bQ hF hx;have xc0:=v1.c0;have Ui:=v1.c4;have HU:=ig hF a a0 ha hx;have HQ:∀(b:Bool),b=decide (3<=x.c)->bF x.c x.s x.e (((x.M:Nat):Int)) b:=fun b hb w=>fO _ _ _ _ b hb w;have fin:∀Z fl,iY mode kind x Z fl->(rV f mode kind a w Z fl)->CT 63 #[J f,J mode,J kind,Y a] w fun e w'=>∃Z fl,dw f mode kind a Z fl/\e=O (aK Z fl)/\Gb w w':=fun Z fl hp h=>h.mono (fun e w' ⟨h1,h2⟩=>⟨Z,fl,.inl ⟨p,mx,one,inf,sg,nan,x,hF,ha,hm,hkd,hx,hp⟩,h1,h2⟩);have HM:∀s,s=0\/s=1->Hid (∀w,CT 131 #[J kind,J s] w (qh 20 (bG kind s) w)):=fun s hs w=>sS kind s hs w;have HW:∀s,s=0\/s=1->Hid (∀b k c w,aC 20 w (aB b k c) (bG kind s)->rX s b k c w (eG s (bG kind s))):=fun s hs b k c w hB=>ou s hs 20 om _ (mM kind s) b k c w hB;by_cases cn:3<=x.c
     ·exact fin _ _ (.inl ⟨cn,rfl,rfl⟩) (Ec f mode kind a _ _ _ _ _ _ _ _ hB0 HK HY qE HU (HQ U (by simp[cn])) (HM 0 (.inl rfl)) (HW 0 (.inl rfl)) w)
     ·have hQ:=HQ E (by simp;omega);have hms:=HM x.s v1.jF;have hws:=HW x.s v1.jF;by_cases c2:x.c=2
      ·exact fin _ _ (.inr (.inr ⟨om,.inl c2,rfl,rfl⟩)) (Ed f mode kind a _ _ _ _ _ _ _ _ hB0 HK HY qE HU hQ c2 hms hws w)
      ·by_cases far:200<x.e
       ·refine fin _ _ (.inr (.inr ⟨om,.inr ?_,rfl,rfl⟩)) (Ee f mode kind a _ _ _ _ _ _ _ _ hB0 HK HY qE HU hQ c2 (decide_eq_true far) hms hws w);have hc1:x.c=1:=by
         rcases(show x.c=0\/x.c=1 by omega)with h|h
         ·obtain⟨_,v,_,_,hz⟩:=lW hF a0 hx om;have:=hz (by omega);omega
         ·exact h
        rw[jG (by omega)];have h1:=bT (show 64<=x.e.toNat by omega);have h3:(2:Nat)^64=18446744073709551616:=de;have h2:1*2^x.e.toNat<=x.M*2^x.e.toNat:=Nat.mul_le_mul_right _ (v1.fin hc1).1;have:=mM kind x.s;omega
       ·have HN:Hid (∀w,CT 123 #[eH x.c x.s x.e (((x.M:Nat):Int))] w fun e w'=>∃b k cc,aC 2 w' (aB b k cc) x.M/\e=O (.agg #[J x.s,aB b k cc,J x.e,X E])/\Gb w w'):=fun w=>kM _ _ _ x.M om w;have WX:Hid (∀b k c w,aC 2 w (aB b k c) x.M->CT 122 #[J mode,.agg #[J x.s,aB b k c,J x.e,X E]] w fun e w'=>∃b k c,aC 70005 w' (aB b k c) (aN mode x)/\e=O (V #[aB b k c,X (!fD x)])/\Gb w w'):=fun b k c w hB=>uU hF hx mode hm b k c w hB;have HC:Hid (∀v v' w,aC 70005 w v (aN mode x)->aC 20 w v' (bG kind x.s)->QB 102 #[v,v'] w (J (fH (aN mode x) (bG kind x.s)))):=fun v v' w ⟨n,h1,h2⟩ ⟨n',h1',h2'⟩=>gV h2 om h2' om;have hX:fD x=U->x.c=1:=by
         intro h;rcases(show x.c=0\/x.c=1 by omega)with hc|hc
         ·obtain⟨_,v,_,_,hz⟩:=lW hF a0 hx om;rw[vN (x:=x) (by have:=hz (by omega);omega)]at h;cases h
         ·exact hc
        by_cases hle:aN mode x<=bG kind x.s
        ·have hd:decide (fH (aN mode x) (bG kind x.s)<=0)=U:=decide_eq_true (by unfold fH;split<;>(try split)<;>omega);have HWw:Hid (∀b k c w,aC 70005 w (aB b k c) (aN mode x)->rX x.s b k c w (eG x.s (aN mode x))):=fun b k c w hB=>ou x.s v1.jF 70005 om _ (by have:=mM kind x.s;omega) b k c w hB;cases hxx:fD x
         ·refine fin _ _ (.inr (.inl ⟨om,hle,rfl,?_⟩)) (Ea f mode kind a _ _ _ _ _ _ _ _ _ x.M _ _ (by rw[hxx];rfl) hB0 HK HY qE HU hQ c2 (decide_eq_false far) HN WX hms HC hd HWw w);unfold yE;rw[hxx,if_neg (by simp)]
         ·refine fin _ _ (.inr (.inl ⟨om,hle,rfl,?_⟩)) (D_ f mode kind a _ _ _ _ _ _ _ _ _ x.M _ _ (by rw[hxx];rfl) hB0 HK HY qE HU hQ c2 (decide_eq_false far) HN WX hms HC hd HWw w);unfold yE;rw[hxx,if_pos ⟨hX hxx,rfl⟩]
        ·have hd:decide (fH (aN mode x) (bG kind x.s)<=0)=E:=decide_eq_false (by unfold fH;rw[if_neg om,if_pos (by omega)];omega);exact fin _ _ (.inr (.inr ⟨om,.inr om,rfl,rfl⟩)) (D9 f mode kind a _ _ _ _ _ _ _ _ _ x.M _ _ hB0 HK HY qE HU hQ c2 (decide_eq_false far) HN WX hms HC hd hws w)
    ·have hno:f=0/\4294967296<=a:=by rcases hF with⟨rfl,rfl,rfl,rfl,rfl,rfl,rfl⟩|⟨rfl,rfl,rfl,rfl,rfl,rfl,rfl⟩<;>omega
     exact bad (.inr (.inr (.inr hno))) (BI f mode kind a _ _ hB0 HK HY (fun w=>rD f a a0 (.inr hno) w) w)
   ·exact bad (.inr (.inr (.inl hf))) (BI f mode kind a _ _ hB0 HK HY (fun w=>rD f a a0 (.inl hf) w) w)
  ·exact bad (.inl hm) (LU f mode kind a _ _ hB0 HK (fun w=>jK mode E (by simp;omega) w) w)
 ·have hb:=aCl kind hkd;exact bad (.inr (.inl hkd)) (LV f mode kind a (wP kind) (fun w=>hb▸jC kind w) w)
theorem aEo(f mode kind a:Int)(a0:0<=a)(a1:a<18446744073709551616):
  ∃Z fl:Int,dw f mode kind a Z fl/\(∀w,rV f mode kind a w Z fl)/\
   (∀w,Fm w->pV f mode kind a w Z fl):=
 JM (fun _ _ _ _ h h'=>dw.one h h') (yS f mode kind a a0 a1) (pY f mode kind a a0 a1) (qm f mode kind a a0 a1)
theorem aDU{one:Int}(h:aP f p mx one inf sg nan)(hs:s=0\/s=1)(v0:0<=v)(v1:v<=inf):0<=sw s sg v/\sw s sg v<2*sg/\sw s sg v<18446744073709551616:=by
 have hb:=h.bounds;unfold sw;split<;>omega
theorem aBz{one:Int}(h:aP f p mx one inf sg nan)(hs:s=0\/s=1){y:bZ}(hy:bP p mx one inf sg nan (sw s sg 0) y):y.s=s/\y.e=0/\y.M=0/\y.c=0:=by
 have hb:=h.bounds;obtain⟨y1,y2⟩:=bP.bare h hs om om hy;rcases y2 with⟨_,v',hs',hv'⟩|⟨c,_⟩
 ·dsimp only at hs' hv';have:v'=0:=om;subst this;rcases hv' with⟨q,c,e,m⟩|⟨_,_,c,_⟩|⟨_,c,_⟩|⟨q,c,e,m⟩|⟨q0,q1,c,_⟩
  ·exact⟨y1,e,om,c⟩
  all_goals (exfalso;omega)
 ·exfalso;omega
theorem LZ{one:Int}(a0:0<=a)(a1:a<18446744073709551616)(hF:aP f p mx one inf sg nan){x:bZ}(hx:bP p mx one inf sg nan a x)(xc:x.c<=2)(hp:bW p (1-mx) mx one inf sg nan mode (nX mode x) Z 0):
  (0<=Z/\Z<2*sg/\Z<18446744073709551616)/\∃y,bP p mx one inf sg nan Z y/\y.c<=2/\y.s=x.s/\(x.c<=1->y.c<=1/\∀way,aN way y=aN mode x)/\yE y=0/\∀way,bW p (1-mx) mx one inf sg nan way (nX way y) Z 0:=by
 have hb:=hF.bounds;obtain⟨v1,v2,v3,v4,v5,v6⟩:=bQ hF hx;have hs:=v1.jF;have x0:=v1.c0;by_cases hn:x.c=1/\x.e<0
 ·obtain⟨c,e⟩:=hn;obtain⟨hl,hz0,hz1⟩:=jW hF hx mode c e;rcases Nat.eq_zero_or_pos (aN mode x)with h0|h0
  ·obtain⟨rfl,_⟩:=bW.one hp (hz0 h0);have hsw:=aDU hF hs (Int.le_refl 0) (show(0:Int)<=inf by omega);obtain⟨y,hy⟩:=fE hF _ hsw.1 hsw.2.2;obtain⟨q1,q2,q3,q4⟩:=aBz hF hs hy;have hny:¬(y.c=1/\y.e<0):=om;refine⟨hsw,y,hy,om,q1,fun _=>⟨om,fun way=>?_⟩,qF (a:=a) hF hny,fun way=>?_⟩
   ·rw[jG om,q3,h0,Nat.zero_mul]
   ·rw[jw hny];exact nZ hF hsw.1 hy om way
  ·obtain⟨z,hr,hpz⟩:=hz1 h0;obtain⟨rfl,_⟩:=bW.one hp hpz;obtain⟨z0,z1,hy'⟩:=Rn hF hs h0 om (hr mode);have hsw:=aDU hF hs (show 0<=z by omega) (show z<=inf by omega);obtain⟨y,hy⟩:=fE hF _ hsw.1 hsw.2.2;obtain⟨q1,q2,q3⟩:=hy' y hy;have hye:=(bQ hF hy).2.2.2.1;have hw:=fun way=>Xa (x:=y) om q3 way;refine⟨hsw,y,hy,om,q2,fun _=>⟨om,fun way=>(hw way).1⟩,?_,fun way=>?_⟩
   ·unfold yE;rw[(hw 0).2,if_neg (by simp)]
   ·by_cases hny:y.c=1/\y.e<0
    ·unfold nX;rw[if_pos hny,(hw way).1,if_neg om,q2];exact .inr (.inl ⟨rfl,z,hr way,rfl⟩)
    ·rw[jw hny];exact nZ hF hsw.1 hy om way
 ·rw[jw hn]at hp;obtain⟨rfl,_⟩:=bW.one hp (nZ hF a0 hx xc mode);obtain⟨ha,v,_,_,hzz⟩:=lW hF a0 hx xc;refine⟨⟨a0,ha,a1⟩,x,hx,xc,rfl,fun hc=>⟨hc,fun way=>?_⟩,qF (a:=Z) hF hn,fun way=>?_⟩
  ·have he:0<=x.e:=by
    rcases(show x.c=1\/x.c≠1 by omega)with k|k
    ·omega
    ·have:=hzz k;omega
   rw[jG he,jG he]
  ·rw[jw hn];exact nZ hF a0 hx xc way
theorem aEB{one:Int}(a0:0<=a)(a1:a<18446744073709551616)(hF:aP f p mx one inf sg nan){x:bZ}(hx:bP p mx one inf sg nan a x)(xc:x.c<=2)(hR:jl f mode a U Z fl)(hfl:fl≠1):
  (0<=Z/\Z<18446744073709551616)/\(∀way,0<=way->way<=4->jl f way Z U Z 0)/\∀kind I gl,dw f mode kind a I gl->gl≠1->dw f mode kind Z I 0/\gl=fl:=by
 rcases hR with⟨p',mx',one',inf',SS,nan',x',hF',hm,hx',hp⟩|⟨_,_,_,_,_,_,_,_,_,k⟩|⟨_,_,k⟩
 ·obtain⟨rfl,rfl,rfl,rfl,rfl,rfl⟩:=hF.one hF';obtain rfl:=hx.one hF hx';rcases hp with⟨c,_⟩|⟨_,hp,aGU⟩
  ·exfalso;omega
  ·rw[if_pos rfl]at aGU;obtain⟨hZ,y,hy,yc,ys,hM,hwf,hpk⟩:=LZ a0 a1 hF hx xc hp;refine⟨⟨hZ.1,hZ.2.2⟩,fun way w0 w4=>.inl ⟨p,mx,one,inf,sg,nan,y,hF,⟨w0,w4⟩,hy,.inr ⟨yc,hpk way,by rw[if_pos rfl,hwf]⟩⟩,fun kind I gl hT hgl=>?_⟩;rcases hT with⟨p',mx',one',inf',SS,nan',x',hF',ha',hm',hk',hx',hq⟩|⟨_,_,k⟩
   ·obtain⟨rfl,rfl,rfl,rfl,rfl,rfl⟩:=hF.one hF';obtain rfl:=hx.one hF hx';rcases hq with⟨_,_,k⟩|⟨c1,hle,rfl,rfl⟩|⟨_,_,_,k⟩
    ·exact absurd k hgl
    ·obtain⟨yc1,hMy⟩:=hM c1;refine⟨.inl ⟨p,mx,one,inf,sg,nan,y,hF,hZ.2.1,hm',hk',hy,.inr (.inl ⟨yc1,?_,?_,hwf.symm⟩)⟩,aGU.symm⟩
     ·rw[hMy mode,ys];exact hle
     ·rw[hMy mode,ys]
    ·exact absurd k hgl
   ·exact absurd k hgl
 ·exact absurd k hfl
 ·exact absurd k hfl
theorem aCL{P:Prop}(h:P:=by
 have hh:¬9223372036854775808<=a:=om;unfold cu d_;rw[if_neg (fun k=>hh k.2),if_neg (fun k=>hh k.2)];exact⟨rfl,om⟩):P:=h
theorem pR(x y:Int):(x==y)=decide (x=y):=by by_cases h:x=y<;>simp[h]
theorem aJf(a:Int)(a0:0<=a)(a1:a<18446744073709551616):∃s m:Int,(dZ 0 a=U->s=cu 0 a/\m=((d_ 0 a:Nat):Int))/\∀w,QR 260 #[.agg #[.int .i32 (-2147483648),.int .i32 2147483647],Y a] w (V #[J s,Y m,X (dZ 0 a)]):=by
 obtain⟨x,hx⟩:∃x,IntKind.i32.wrap a=x:=⟨_,rfl⟩;have hx':=hx;rw[IntKind.wrap_i32]at hx';have hft:dZ 0 a=decide (IntKind.u64.wrap x=a):=by
  unfold dZ;rw[IntKind.wrap_u64,decide_eq_decide];by_cases h:9223372036854775808<=a
  ·have e1:cu 0 a=1:=by unfold cu;rw[if_pos ⟨.inl rfl,h⟩]
   have e2:d_ 0 a=(18446744073709551616-a).toNat :=by unfold d_;rw[if_pos ⟨.inl rfl,h⟩]
   rw[e1,e2,show bG 0 1=2147483648 by decide];omega
  ·have e1:cu 0 a=0:=by unfold cu;rw[if_neg (fun k=>h k.2)]
   have e2:d_ 0 a=a.toNat:=by unfold d_;rw[if_neg (fun k=>h k.2)]
   rw[e1,e2,show bG 0 0=2147483647 by decide];omega
 have hd:=hft;rw[hd];by_cases c:x<0
 ·refine⟨1,IntKind.u64.wrap (-a),fun h=>?_,fun w=>NK a x _ _ _ hx c rfl (pR _ _) rfl w⟩;have:=of_decide_eq_true h;rw[IntKind.wrap_u64]at this;have hh:9223372036854775808<=a:=om;unfold cu d_;rw[if_pos ⟨.inl rfl,hh⟩,if_pos ⟨.inl rfl,hh⟩,IntKind.wrap_u64];exact⟨rfl,om⟩
 ·refine⟨0,a,fun h=>?_,fun w=>NJ a x _ _ hx om rfl (pR _ _) w⟩;have:=of_decide_eq_true h;rw[IntKind.wrap_u64]at this;exact aCL
theorem aFl(a:Int)(a0:0<=a)(a1:a<18446744073709551616):∃s m:Int,(dZ 1 a=U->s=cu 1 a/\m=((d_ 1 a:Nat):Int))/\∀w,QR 263 #[gQ (-9223372036854775808) 9223372036854775807,Y a] w (V #[J s,Y m,X (dZ 1 a)]):=by
 obtain⟨x,hx⟩:∃x,IntKind.i64.wrap a=x:=⟨_,rfl⟩;have hx':=hx;rw[IntKind.wrap_i64]at hx';have hft:dZ 1 a=decide (IntKind.u64.wrap x=a):=by
  unfold dZ;rw[IntKind.wrap_u64,decide_eq_decide];by_cases h:9223372036854775808<=a
  ·have e1:cu 1 a=1:=by unfold cu;rw[if_pos ⟨.inr rfl,h⟩]
   have e2:d_ 1 a=(18446744073709551616-a).toNat :=by unfold d_;rw[if_pos ⟨.inr rfl,h⟩]
   rw[e1,e2,show bG 1 1=9223372036854775808 by decide];omega
  ·have e1:cu 1 a=0:=by unfold cu;rw[if_neg (fun k=>h k.2)]
   have e2:d_ 1 a=a.toNat:=by unfold d_;rw[if_neg (fun k=>h k.2)]
   rw[e1,e2,show bG 1 0=9223372036854775807 by decide];omega
 have hd:=hft;rw[hd];by_cases c:x<0
 ·refine⟨1,IntKind.u64.wrap (-a),fun h=>?_,fun w=>BZ a x _ _ _ hx c rfl (pR _ _) rfl w⟩;have hh:9223372036854775808<=a:=om;unfold cu d_;rw[if_pos ⟨.inr rfl,hh⟩,if_pos ⟨.inr rfl,hh⟩,IntKind.wrap_u64];exact⟨rfl,om⟩
 ·refine⟨0,a,fun h=>?_,fun w=>BX a x _ _ hx om rfl (pR _ _) w⟩;exact aCL
theorem aJe(a:Int)(a0:0<=a)(a1:a<18446744073709551616):∃s m:Int,(dZ 2 a=U->s=cu 2 a/\m=((d_ 2 a:Nat):Int))/\∀w,QR 265 #[.agg #[.int .u32 0,.int .u32 4294967295],Y a] w (V #[J s,Y m,X (dZ 2 a)]):=by
 obtain⟨x,hx⟩:∃x,IntKind.u32.wrap a=x:=⟨_,rfl⟩;have hx':=hx;rw[IntKind.wrap_u32]at hx';have hsg:cu 2 a=0:=by unfold cu;rw[if_neg (by omega)]
 have hmg:d_ 2 a=a.toNat:=by unfold d_;rw[if_neg (by omega)]
 have hft:dZ 2 a=decide (IntKind.u64.wrap x=a):=by
  unfold dZ;rw[hsg,hmg];rw[IntKind.wrap_u64,decide_eq_decide,show bG 2 0=4294967295 by decide];omega
 rw[hft,hsg,hmg];exact⟨0,a,fun _=>⟨rfl,om⟩,fun w=>NI a x _ _ hx om rfl (pR _ _) w⟩
theorem aJd(a:Int)(a0:0<=a)(a1:a<18446744073709551616):∃s m:Int,(dZ 3 a=U->s=cu 3 a/\m=((d_ 3 a:Nat):Int))/\∀w,QR 267 #[aG 0 18446744073709551615,Y a] w (V #[J s,Y m,X (dZ 3 a)]):=by
 have hsg:cu 3 a=0:=by unfold cu;rw[if_neg (by omega)]
 have hmg:d_ 3 a=a.toNat:=by unfold d_;rw[if_neg (by omega)]
 have hft:dZ 3 a=U:=by
  unfold dZ;rw[hsg,hmg];rw[show bG 3 0=18446744073709551615 by decide];exact decide_eq_true om
 rw[hft,hsg,hmg];exact⟨0,a,fun _=>⟨rfl,om⟩,fun w=>NH a a0 (by rw[IntKind.wrap_u64];omega) w⟩
theorem tK(f mode kind a:Int)(a0:0<=a)(a1:a<18446744073709551616)(w:World)(hw:Fm w):
  CT 145 #[J f,J mode,J kind,Y a] w fun e w'=>∃Z fl,dU f mode kind a Z fl/\e=O (aK Z fl)/\Gr w w':=by
 have fin:∀Z,dU f mode kind a Z 1->(zQ f mode kind a w Z 1)->CT 145 #[J f,J mode,J kind,Y a] w fun e w'=>∃Z fl,dU f mode kind a Z fl/\e=O (aK Z fl)/\Gr w w':=fun Z hp h=>h.mono (fun e w' ⟨h1,h2⟩=>⟨Z,1,hp,h1,h2⟩);have kn:∃(kv:Value) (kb:Bool),∀w,QR 87 #[J kind] w (V #[kv,X kb]):=by
  by_cases hk:0<=kind/\kind<=3
  ·rcases(show kind=0\/kind=1\/kind=2\/kind=3 by omega)with rfl|rfl|rfl|rfl
   ·exact⟨_,_,rG⟩
   ·exact⟨_,_,kN⟩
   ·exact⟨_,_,rF⟩
   ·exact⟨_,_,rE⟩
  ·exact⟨_,_,fun w=>AL kind hk w⟩
 obtain⟨kv,kb,HKn⟩:=kn;by_cases hf:f=0\/f=1
 ·obtain⟨p,mx,one,inf,sg,nan,hF⟩:=iC f hf;obtain⟨mn,fb,sp,hM,hmn,hfb⟩:=hF.m;have HN:Gy p mn mx nan 1:=fun w=>dH hM w;by_cases hm:0<=mode/\mode<=4
  ·obtain⟨k,hk⟩:=kH mode hm.1 hm.2;have HS:Hid (∀w',Gr w w'->mZ f mode w' p mn mx k U):=fun w'' hg'=>eP hF hM mode k (fun w=>gW mode k hk w) (hw.gr hg');have bad:dZ kind a=E->dU f mode kind a nan 1:=fun h=>.inr (.inl ⟨p,mx,one,inf,sg,nan,hF,.inr h,rfl,rfl⟩);have HR:∀s m,s=cu kind a->m=((d_ kind a:Nat):Int)->Hid (∀w,CT 185 #[dP p mn mx mode k,J s,J 0,aG 0 m,X E] w fun e w'=>∃z fl,bW p (1-mx) mx one inf sg nan mode (ql kind a) z fl/\e=O (aK z fl)/\Gr w w'):=by
    intro s m hs hm' w;subst hs hm';have hlt:=vY kind a a0 a1;rcases Nat.eq_zero_or_pos (d_ kind a)with h0|h0
    ·have hs0:cu kind a=0:=by
      unfold d_ at h0;unfold cu;by_cases c:(kind=0\/kind=1)/\9223372036854775808<=a
      ·rw[if_pos c]at h0;exfalso;omega
      ·rw[if_neg c]
     rw[h0,hs0];refine(y8 hM mode k 0 0 E om om (sw 0 sg 0) (fun w=>jc hM 0 _ (.inl ⟨rfl,by simp[sw]⟩) w) w).mono ?_;rintro e w' ⟨rfl,hg⟩;refine⟨_,_,?_,rfl,hg⟩;unfold ql;rw[if_pos h0];exact .inl ⟨rfl,rfl,rfl⟩
    ·have:=qM hM mode mode k hk (cu kind a) (D8 kind a) 0 om om (d_ kind a) h0 om E (fun h=>by cases h) w;rw[show d_ kind a/18446744073709551616=0 by omega,show d_ kind a%18446744073709551616=d_ kind a by omega]at this;refine this.mono ?_;rintro e w' ⟨z,fl,hr,rfl,hg⟩;rw[hmn]at hr;refine⟨_,_,?_,rfl,hg⟩;unfold ql;rw[if_neg (by omega)];exact .inr (.inl ⟨rfl,z,hr,by rw[Ls]⟩)
   have ok:dZ kind a=U->(∃s m,(s=cu kind a/\m=((d_ kind a:Nat):Int))/\CT 145 #[J f,J mode,J kind,Y a] w fun e w'=>∃z fl,bW p (1-mx) mx one inf sg nan mode (ql kind a) z fl/\e=O (aK z fl)/\Gr w w')->CT 145 #[J f,J mode,J kind,Y a] w fun e w'=>∃Z fl,dU f mode kind a Z fl/\e=O (aK Z fl)/\Gr w w':=fun hq ⟨s,m,_,h⟩=>h.mono (fun e w' ⟨z,fl,h0,h1,h2⟩=>⟨z,fl,.inl ⟨p,mx,one,inf,sg,nan,hF,hm,hq,h0⟩,h1,h2⟩);by_cases hkd:0<=kind/\kind<=3
   ·rcases(show kind=0\/kind=1\/kind=2\/kind=3 by omega)with rfl|rfl|rfl|rfl
    ·obtain⟨s,m,he,HW⟩:=aJf a a0 a1;cases hq:dZ 0 a<;>rw[hq]at HW he
     ·exact fin nan (bad hq) (Wh p mn mx mode nan f mode 0 a s m k HS rG HW HN)
     ·exact ok hq ⟨s,m,he rfl,ZL p mn mx mode f mode 0 a s m k HS rG HW _ (HR s m (he rfl).1 (he rfl).2)⟩
    ·obtain⟨s,m,he,HW⟩:=aFl a a0 a1;cases hq:dZ 1 a<;>rw[hq]at HW he
     ·exact fin nan (bad hq) (H9 p mn mx mode nan f mode 1 a s m k HS kN HW HN)
     ·exact ok hq ⟨s,m,he rfl,ND p mn mx mode f mode 1 a s m k HS kN HW _ (HR s m (he rfl).1 (he rfl).2)⟩
    ·obtain⟨s,m,he,HW⟩:=aJe a a0 a1;cases hq:dZ 2 a<;>rw[hq]at HW he
     ·exact fin nan (bad hq) (V_ p mn mx mode nan f mode 2 a s m k HS rF HW HN)
     ·exact ok hq ⟨s,m,he rfl,ZK p mn mx mode f mode 2 a s m k HS rF HW _ (HR s m (he rfl).1 (he rfl).2)⟩
    ·obtain⟨s,m,he,HW⟩:=aJd a a0 a1;cases hq:dZ 3 a<;>rw[hq]at HW he
     ·exact fin nan (bad hq) (V9 p mn mx mode nan f mode 3 a s m k HS rE HW HN)
     ·exact ok hq ⟨s,m,he rfl,ZJ p mn mx mode f mode 3 a s m k HS rE HW _ (HR s m (he rfl).1 (he rfl).2)⟩
   ·exact fin nan (bad (by unfold dZ;exact decide_eq_false (fun h=>hkd h.1))) (ZM p mn mx mode nan f mode kind a k HS (fun w=>AL kind hkd w) HN)
  ·exact fin nan (.inr (.inl ⟨p,mx,one,inf,sg,nan,hF,.inl hm,rfl,rfl⟩)) (NG p mn mx mode nan f mode kind a kv kb (fun w'' hg'=>gK hF hM mode (fun w=>kD mode om w) (hw.gr hg')) HKn HN)
 ·exact fin _ (.inr (.inr ⟨hf,rfl,rfl⟩)) (NG _ _ _ _ _ f mode kind a kv kb (fun w'' hg'=>fU f mode hf (hw.gr hg')) HKn (fun w=>dH m64 w))
theorem aBX(f mode kind a:Int)(a0:0<=a)(a1:a<18446744073709551616):
  ∃Z fl:Int,dU f mode kind a Z fl/\(∀w,QB 36 #[J f,J mode,J kind,Y a] w (aK Z fl))/\
   (∀w,Fm w->zQ f mode kind a w Z fl):=
 JM (fun _ _ _ _ h h'=>dU.one h h') (Du f mode kind a) (g_ f mode kind a a0 a1) (tK f mode kind a a0 a1)
theorem LG{one:Int}(h:aP f p mx one inf sg nan)(mode a b:Int)(hm:0<=mode/\mode<=4)(a0:0<=a)(fa:a<2*sg)(b0:0<=b)(fb:b<2*sg){x y:bZ}(hx:bP p mx one inf sg nan a x)(hy:bP p mx one inf sg nan b y)(cx:x.c=1)(cy:y.c=1)(w:World):
  CT 45 #[J f,J mode,Y a,Y b] w fun e w'=>∃Z fl,oJ p (1-mx) mx one inf sg nan mode ⟨1,mulS x.s y.s,x.e-y.e-(p+4)-1,P_ p.toNat x.M y.M⟩ Z fl/\e=O (aK Z fl)/\Gb w w':=by
 obtain⟨v1,v2,v3,v4,v5,v6⟩:=bQ h hx;obtain⟨u1,u2,u3,u4,u5,u6⟩:=bQ h hy;have hb:=h.bounds;have hms:=Jk x.s y.s;obtain⟨hm1,hm2⟩:=MQ x.s y.s v1.jF u1.jF;have sa0:0<=x.s:=by have:=v1.jF;omega
 have sa1:x.s<=1:=by have:=v1.jF;omega
 have sb0:0<=y.s:=by have:=u1.jF;omega
 have sb1:y.s<=1:=by have:=u1.jF;omega
 have fx:x.c=1->_:=o_ h hx;have fy:y.c=1->_:=o_ h hy;have HF:fM f mode a b U:=fun w=>iU h mode a b hm.1 hm.2 a0 fa b0 fb w;have gJ:=ig h a a0 fa hx;have iJ:=ig h b b0 fb hy;have HQ:∀(z:bZ) (t:Bool),t=decide (3<=z.c)->bF z.c z.s z.e (((z.M:Nat):Int)) t:=fun z t ht w=>fO _ _ _ _ t ht w;have hQa:=HQ x E (by simp;omega);have hQb:=HQ y E (by simp;omega);obtain⟨Pn,hP,hP1,Nw,hA,hA2⟩:=fx cx;obtain⟨Pn',hP',_,_,hB,hB2⟩:=fy cy;obtain rfl:Pn=Pn':=om;have hB0:0<y.M:=Nat.lt_of_lt_of_le (Nat.pow_pos de) hB;obtain⟨r1,r2,r3,r4,r5,r6⟩:=Ai hP hP1 hA hB2 hB0 (x.e-y.e);rw[show p.toNat=Pn by omega];have e4:x.e-y.e-(((Pn+4:Nat)):Int)=x.e-y.e-(p+4):=om;refine SV f mode a b _ _ _ _ _ _ _ _ HF gJ iJ hQa hQb cx cy _ sa0 sa1 sb0 sb1 hm1 hm2 (x.e-y.e-(p+4)) (decide (x.M*2^(Pn+4)%y.M≠0)) (x.M*2^(Pn+4)/y.M) (fun w=>?_) _ (fun v w hB=>Af h mode hm.1 hm.2 ⟨1,mulS x.s y.s,x.e-y.e-(p+4)-1,P_ Pn x.M y.M⟩ rfl hms _ r3 (x.e-y.e-(p+4)) om om _ r4 (fun mn mx one inf mode z fl=>r6 _ _ _ _ _ _ _ _) 8 om v w hB) w;have hq:=oz h 1 x.s x.e 1 y.s y.e x.M y.M om om hB0 sa0 sa1 sb0 sb1 _ hm1 hm2 om om om om (Pn+4) om w;rw[e4]at hq;exact hq
