import Derived.Test.YtmiekgjgpmfekaaGreatDoorM5
set_option linter.all false
set_option maxHeartbeats 40000000
open Bool renaming false → Y
open Go.Proofs.YtmiekgjgpmfekaaGreatDoor renaming vI → J
namespace Go.Proofs.YtmiekgjgpmfekaaGreatDoor
open Go.RowKit
variable{f a p mx inf sg nan mode kind Z fl Z' pO:Int}{w:World}
def tw(kind s:Int)(N:Nat):Int × Bool:=if N<=bK kind s then(eP s N,true)else(eP s (bK kind s),Y)
theorem jW(N:Nat)(h:N<18446744073709551616):IntKind.u64.wrap (-(N:Int))=eP 1 N:=by
 rw[IntKind.wrap_u64];unfold eP;by_cases c:N=0
 ·subst c;rfl
 ·rw[if_pos ⟨rfl,c⟩];omega
theorem pV(N:Nat):eP 0 N=(N:Int):=by unfold eP;rw[if_neg (by simp)]
theorem Jk(s:Int)(hs:s=0\/s=1)(N:Nat)(hN:N<340282366920938463463374607431768211456)(w:World):
  QR 261 #[.agg #[.int .i32 (-2147483648),.int .i32 2147483647],J s,aG ((N/18446744073709551616:Nat):Int) ((N%18446744073709551616:Nat):Int)] w (.tuple #[.int .u64 (tw 0 s N).1,.bool (tw 0 s N).2]):=by
 unfold tw;rcases hs with rfl|rfl
 ·have hm:bK 0 0=2147483647:=de;have he:eP 0 (bK 0 0)=2147483647:=by rw[hm];decide
  rw[he,hm];by_cases c:N/18446744073709551616=0
  ·by_cases c2:N<=2147483647
   ·rw[if_pos c2];have hl:N%18446744073709551616=N:=om;rw[hl,c];exact(pV N).symm ▸Jm _ _ rfl (decide_eq_false om) w
   ·rw[if_neg c2];exact GR _ _ om (decide_eq_true om) w
  ·rw[if_neg (by omega)];exact GN _ _ (by simp;omega) w
 ·have hm:bK 0 1=2147483648:=de;have he:eP 1 (bK 0 1)=18446744071562067968:=by rw[hm];decide
  rw[he,hm];by_cases c:N/18446744073709551616=0
  ·by_cases c2:N<=2147483648
   ·rw[if_pos c2];have hl:N%18446744073709551616=N:=om;rw[hl,c];exact Jl _ _ _ rfl (decide_eq_false om) (jW N om) w
   ·rw[if_neg c2];exact GL _ _ om (decide_eq_true om) w
  ·rw[if_neg (by omega)];exact GK _ _ (by simp;omega) w
theorem t_(s:Int)(hs:s=0\/s=1)(N:Nat)(hN:N<340282366920938463463374607431768211456)(w:World):
  QR 264 #[gW (-9223372036854775808) 9223372036854775807,J s,aG ((N/18446744073709551616:Nat):Int) ((N%18446744073709551616:Nat):Int)] w (.tuple #[.int .u64 (tw 1 s N).1,.bool (tw 1 s N).2]):=by
 unfold tw;rcases hs with rfl|rfl
 ·have hm:bK 1 0=9223372036854775807:=de;have he:eP 0 (bK 1 0)=9223372036854775807:=by rw[hm];decide
  rw[he,hm];by_cases c:N/18446744073709551616=0
  ·by_cases c2:N<=9223372036854775807
   ·rw[if_pos c2];have hl:N%18446744073709551616=N:=om;rw[hl,c];exact(pV N).symm ▸zF _ _ rfl (decide_eq_false om) w
   ·rw[if_neg c2];exact yj _ _ om (decide_eq_true om) w
  ·rw[if_neg (by omega)];exact yg _ _ (by simp;omega) w
 ·have hm:bK 1 1=9223372036854775808:=de;have he:eP 1 (bK 1 1)=9223372036854775808:=by rw[hm];decide
  rw[he,hm];by_cases c:N/18446744073709551616=0
  ·by_cases c2:N<=9223372036854775808
   ·rw[if_pos c2];have hl:N%18446744073709551616=N:=om;rw[hl,c];exact zD _ _ _ rfl (decide_eq_false om) (jW N om) w
   ·rw[if_neg c2];exact xZ _ _ om (decide_eq_true om) w
  ·rw[if_neg (by omega)];exact xY _ _ (by simp;omega) w
theorem Jh(s:Int)(hs:s=0\/s=1)(N:Nat)(hN:N<340282366920938463463374607431768211456)(w:World):
  QR 266 #[.agg #[.int .u32 0,.int .u32 4294967295],J s,aG ((N/18446744073709551616:Nat):Int) ((N%18446744073709551616:Nat):Int)] w (.tuple #[.int .u64 (tw 2 s N).1,.bool (tw 2 s N).2]):=by
 unfold tw;rcases hs with rfl|rfl
 ·have hm:bK 2 0=4294967295:=de;have he:eP 0 (bK 2 0)=4294967295:=by rw[hm];decide
  rw[he,hm];by_cases c:N/18446744073709551616=0
  ·by_cases c2:N<=4294967295
   ·rw[if_pos c2];have hl:N%18446744073709551616=N:=om;rw[hl,c];exact(pV N).symm ▸Jj _ _ rfl (decide_eq_false om) w
   ·rw[if_neg c2];exact GI _ _ om (decide_eq_true om) w
  ·rw[if_neg (by omega)];exact GH _ _ (by simp;omega) w
 ·have hm:bK 2 1=0:=de;have he:eP 1 (bK 2 1)=0:=by rw[hm];decide
  rw[he,hm];by_cases c:N/18446744073709551616=0
  ·by_cases c2:N<=0
   ·rw[if_pos c2];have hl:N%18446744073709551616=N:=om;rw[hl,c];exact Ji _ _ _ rfl (decide_eq_false om) (jW N om) w
   ·rw[if_neg c2];exact Gz _ _ om (decide_eq_true om) w
  ·rw[if_neg (by omega)];exact Gy _ _ (by simp;omega) w
theorem Je(s:Int)(hs:s=0\/s=1)(N:Nat)(hN:N<340282366920938463463374607431768211456)(w:World):
  QR 268 #[aG 0 18446744073709551615,J s,aG ((N/18446744073709551616:Nat):Int) ((N%18446744073709551616:Nat):Int)] w (.tuple #[.int .u64 (tw 3 s N).1,.bool (tw 3 s N).2]):=by
 unfold tw;rcases hs with rfl|rfl
 ·have hm:bK 3 0=18446744073709551615:=de;have he:eP 0 (bK 3 0)=18446744073709551615:=by rw[hm];decide
  rw[he,hm];by_cases c:N/18446744073709551616=0
  ·by_cases c2:N<=18446744073709551615
   ·rw[if_pos c2];have hl:N%18446744073709551616=N:=om;rw[hl,c];exact(pV N).symm ▸Jg _ _ rfl (decide_eq_false om) w
   ·rw[if_neg c2];exact Gx _ _ om (decide_eq_true om) w
  ·rw[if_neg (by omega)];exact Gw _ _ (by simp;omega) w
 ·have hm:bK 3 1=0:=de;have he:eP 1 (bK 3 1)=0:=by rw[hm];decide
  rw[he,hm];by_cases c:N/18446744073709551616=0
  ·by_cases c2:N<=0
   ·rw[if_pos c2];have hl:N%18446744073709551616=N:=om;rw[hl,c];exact Jf _ _ _ rfl (decide_eq_false om) (jW N om) w
   ·rw[if_neg c2];exact Gv _ _ om (decide_eq_true om) w
  ·rw[if_neg (by omega)];exact Gu _ _ (by simp;omega) w
def jg(mode kind:Int)(x:cu)(Z fl:Int):Prop:=
 3<=x.c/\Z=eP 0 (bK kind 0)/\fl=1\/
 x.c<=1/\aN mode x<=bK kind x.s/\Z=eP x.s (aN mode x)/\fl=zi x\/
 x.c<=2/\(x.c=2\/bK kind x.s<aN mode x)/\Z=eP x.s (bK kind x.s)/\fl=1
def DI(f mode kind a:Int):Prop:=¬(0<=mode/\mode<=4)\/¬(0<=kind/\kind<=3)\/¬(f=0\/f=1)\/f=0/\4294967296<=a
def dA(f mode kind a Z fl:Int):Prop:=
 (∃p mx one inf sg nan x,aQ f p mx one inf sg nan/\a<2*sg/\(0<=mode/\mode<=4)/\(0<=kind/\kind<=3)/\bQ p mx one inf sg nan a x/\jg mode kind x Z fl)\/DI f mode kind a/\Z=0/\fl=1
theorem jg.one{x:cu}(hx:0<=x.c)(h:jg mode kind x Z fl)(h':jg mode kind x Z' pO):Z=Z'/\fl=pO:=by
 rcases h with⟨c,rfl,rfl⟩|⟨c,d,rfl,rfl⟩|⟨c,d,rfl,rfl⟩<;>rcases h' with⟨c',rfl,rfl⟩|⟨c',d',rfl,rfl⟩|⟨c',d',rfl,rfl⟩<;>first|exact⟨rfl,rfl⟩|(exfalso;omega)
theorem vV{one:Int}(h:aQ f p mx one inf sg nan)(ha:a<2*sg):¬(¬(f=0\/f=1)\/f=0/\4294967296<=a):=by
 rcases h with⟨rfl,rfl,rfl,rfl,rfl,rfl,rfl⟩|⟨rfl,rfl,rfl,rfl,rfl,rfl,rfl⟩<;>omega
theorem dA.one(h:dA f mode kind a Z fl)(h':dA f mode kind a Z' pO):Z=Z'/\fl=pO:=by
 rcases h with⟨p,mx,one,inf,sg,nan,x,hF,ha,hm,hk,hx,hp⟩|⟨hn,rfl,rfl⟩<;>
 rcases h' with⟨p',mx',one',inf',Ua,nan',x',hF',ha',hm',hk',hx',hp'⟩|⟨hn',rfl,rfl⟩
 ·obtain⟨rfl,rfl,rfl,rfl,rfl,rfl⟩:=hF.one hF';obtain rfl:=hx.one hF hx';exact jg.one (bT hF hx).1.c0 hp hp'
 ·have:=vV hF ha;unfold DI at hn';exfalso;rcases hn' with h|h|h<;>first|exact h hm|exact h hk|exact this h
 ·have:=vV hF' ha';unfold DI at hn;exfalso;rcases hn with h|h|h<;>first|exact h hm'|exact h hk'|exact this h
 ·exact⟨rfl,rfl⟩
theorem zG(f mode kind a:Int)(a0:0<=a)(a1:a<18446744073709551616):∃Z fl,dA f mode kind a Z fl:=by
 by_cases hn:DI f mode kind a
 ·exact⟨_,_,.inr ⟨hn,rfl,rfl⟩⟩
 ·unfold DI at hn;have hm:0<=mode/\mode<=4:=om;have hk:0<=kind/\kind<=3:=om;have hf:f=0\/f=1:=om;obtain⟨p,mx,one,inf,sg,nan,hF⟩:=iG f hf;have ha:a<2*sg:=by rcases hF with⟨rfl,rfl,rfl,rfl,rfl,rfl,rfl⟩|⟨rfl,rfl,rfl,rfl,rfl,rfl,rfl⟩<;>omega
  obtain⟨x,hx⟩:=fG hF a a0 a1;have c0:=(bT hF hx).1.c0;have fin:∀Z fl,jg mode kind x Z fl->∃Z fl,dA f mode kind a Z fl:=fun Z fl h=>⟨Z,fl,.inl ⟨p,mx,one,inf,sg,nan,x,hF,ha,hm,hk,hx,h⟩⟩;by_cases c:3<=x.c
  ·exact fin _ _ (.inl ⟨c,rfl,rfl⟩)
  ·by_cases d:x.c=2\/bK kind x.s<aN mode x
   ·exact fin _ _ (.inr (.inr ⟨om,d,rfl,rfl⟩))
   ·exact fin _ _ (.inr (.inl ⟨om,om,rfl,rfl⟩))
theorem YR(M:Nat)(n:Nat)(hM:M<340282366920938463463374607431768211456)(hn:n<=128)(h:M*2^n<340282366920938463463374607431768211456)(w:World):
  QR 158 #[aG ((M/18446744073709551616:Nat):Int) ((M%18446744073709551616:Nat):Int),J n] w (aG ((M*2^n/18446744073709551616:Nat):Int) ((M*2^n%18446744073709551616:Nat):Int)):=by
 have e0:((M/18446744073709551616:Nat):Int)*18446744073709551616+((M%18446744073709551616:Nat):Int)=(M:Int):=om;have hk:(bnd (n:Int)).toNat =n:=by unfold bnd;rw[if_neg om,if_neg (by omega)];simp
 refine(mW _ _ (n:Int) om om om om w).mono ?_;rintro e w' ⟨rfl,hg⟩;refine⟨EW ?_ ?_,hg⟩
 ·unfold lU;rw[hk,e0,cast_mul];omega
 ·unfold lT;rw[hk,e0,cast_mul];omega
theorem qV{one:Int}(hF:aQ f p mx one inf sg nan)(mn mode:Int)(hm:0<=mode/\mode<=4)(k:Nat)(hk:qX mode k)(a0:0<=a){x:cu}(hx:bQ p mx one inf sg nan a x):
  ∃(os oe oc oh ol of:Int) (ot:Bool) (N:Nat),(∀w,U0 p mn mx mode k 91 x.s x.e x.c (((x.M/18446744073709551616:Nat):Int)) (((x.M%18446744073709551616:Nat):Int)) Y 0 w os oe oc oh ol ot of)/\
   (∀w,IY os oe oc oh ol ot of w ((N/18446744073709551616:Nat):Int) ((N%18446744073709551616:Nat):Int))/\N<340282366920938463463374607431768211456/\(os=0\/os=1)/\
   (3<=x.c/\os=0/\N=18446744073709551616\/x.c=2/\os=x.s/\N=18446744073709551616\/x.c<=1/\os=x.s/\of=zi x/\(N=aN mode x\/18446744073709551616<=N/\18446744073709551616<=aN mode x)):=by
 obtain⟨v1,v2,v3,v4,v5,v6⟩:=bT hF hx;have hb:=hF.bounds;have xc0:=v1.c0;have U8:=v1.c4;have Ak:(18446744073709551616:Nat)/18446744073709551616=1/\(18446744073709551616:Nat)%18446744073709551616=0:=de;by_cases cn:3<=x.c
 ·refine⟨0,0,x.c,0,0,0,Y,18446744073709551616,fun w=>iR p mn mx mode k _ _ _ _ _ _ _ _ _ _ _ _ _ x.c om cn w,fun w=>?_,de,.inl rfl,.inl ⟨cn,rfl,rfl⟩⟩;rw[Ak.1,Ak.2];exact vG 0 0 x.c 0 0 0 Y (decide_eq_true om) w
 ·have comb:∀os oe oc oh ol ot of,(∀w,IZ p mn mx mode k x.s x.e x.c (((x.M/18446744073709551616:Nat):Int)) (((x.M%18446744073709551616:Nat):Int)) Y 0 x.s x.e x.c (((x.M/18446744073709551616:Nat):Int)) (((x.M%18446744073709551616:Nat):Int)) Y 0 w os oe oc oh ol ot of)->∀w,U0 p mn mx mode k 91 x.s x.e x.c (((x.M/18446744073709551616:Nat):Int)) (((x.M%18446744073709551616:Nat):Int)) Y 0 w os oe oc oh ol ot of:=by
   intro os oe oc oh ol ot of h w;refine(nU p mn mx mode k _ _ _ _ _ _ _ _ _ _ _ _ x.c om om (fun a b c d e f g=>a=os/\b=oe/\c=oc/\d=oh/\e=ol/\f=ot/\g=of) (fun w=>(h w).mono (fun e w' ⟨h1,h2⟩=>⟨_,_,_,_,_,_,_,⟨rfl,rfl,rfl,rfl,rfl,rfl,rfl⟩,h1,h2⟩)) w).mono ?_;rintro e w' ⟨_,_,_,_,_,_,_,⟨rfl,rfl,rfl,rfl,rfl,rfl,rfl⟩,rfl,hg⟩;exact⟨rfl,hg⟩
  by_cases c2:x.c=2
  ·refine⟨x.s,x.e,x.c,_,_,0,Y,18446744073709551616,comb _ _ _ _ _ _ _ (fun w=>rE p mn mx mode k _ _ _ _ _ _ _ _ _ _ _ _ (by simp[c2]) w),fun w=>?_,de,v1.jL,.inr (.inl ⟨c2,rfl,rfl⟩)⟩;rw[Ak.1,Ak.2];exact vG _ _ _ _ _ _ _ (decide_eq_true om) w
  ·by_cases hn:x.c=1/\x.e<0
   ·obtain⟨c,e⟩:=hn;have hl:=(kM hF hx mode c e).1;have HR:∀b:Bool,decide (0<aJ x.M x.e 0 Y)=b->Gm k (0-x.e) x.s ((x.M/18446744073709551616:Nat):Int) ((x.M%18446744073709551616:Nat):Int) Y ((aN mode x:Nat):Int) b:=fun b hb' w=>hb'▸nH mode k hk x.s v1.jL x.M om x.e 0 (0-x.e) Y rfl om om (fun _=>rfl) (by
      have h1:=(f_ mode x.s (aZ x.M x.e 0) (aJ x.M x.e 0 Y)).1;unfold aN at hl;omega) w
    have hn:wrap64 (-x.e)=0-x.e:=by
     rw[show-x.e=0-x.e by omega];unfold wrap64;omega
    have ce:decide (0<=x.e)=Y:=by simp;omega
    have hsz:∀fl w,QR 92 #[aV x.s 0 1 0 (((aN mode x:Nat):Int)) Y fl] w (aG ((aN mode x/18446744073709551616:Nat):Int) ((aN mode x%18446744073709551616:Nat):Int)):=by
     intro fl w;have h0:=YR (aN mode x) 0 om om om;rw[Nat.pow_zero,Nat.mul_one,show aN mode x/18446744073709551616=0 by omega,show aN mode x%18446744073709551616=aN mode x by omega]at h0;rw[show aN mode x/18446744073709551616=0 by omega,show aN mode x%18446744073709551616=aN mode x by omega];exact vF _ 0 1 _ _ fl 0 _ _ Y de de (fun w=>h0 w) w
    by_cases hh:0<aJ x.M x.e 0 Y
    ·refine⟨x.s,0,1,0,_,16,Y,aN mode x,comb _ _ _ _ _ _ _ (fun w=>AV p mn mx mode k _ _ _ _ _ _ _ _ _ _ _ _ (0-x.e) _ c ce hn (HR true (by simp[hh])) w),hsz 16,om,v1.jL,.inr (.inr ⟨om,rfl,?_,.inl rfl⟩)⟩;unfold zi fF;rw[if_pos ⟨c,by simp[hh]⟩]
    ·refine⟨x.s,0,1,0,_,0,Y,aN mode x,comb _ _ _ _ _ _ _ (fun w=>AX p mn mx mode k _ _ _ _ _ _ _ _ _ _ _ _ (0-x.e) _ c ce hn (HR Y (by simp[hh])) w),hsz 0,om,v1.jL,.inr (.inr ⟨om,rfl,?_,.inl rfl⟩)⟩;unfold zi fF;rw[if_neg (by simp[hh])]
   ·have he:0<=x.e:=by
     by_cases c:x.c=1
     ·omega
     ·obtain⟨_,v,_,_,hz⟩:=mV hF a0 hx om;have:=hz c;omega
    have hw:=jM (mode:=mode) he;obtain⟨n,hnn⟩:∃n:Nat,min x.e 64=(n:Int):=⟨(min x.e 64).toNat,om⟩;have Dw:n<=64:=om;have hlt:x.M*2^n<340282366920938463463374607431768211456:=by
     have h1:=bV Dw;have h2:x.M*2^n<=x.M*2^64:=Nat.mul_le_mul_left _ h1;have h3:(2:Nat)^64=18446744073709551616:=de;rw[h3]at h2;omega
    refine⟨x.s,x.e,x.c,_,_,0,Y,x.M*2^n,comb _ _ _ _ _ _ _ (fun w=>?_),fun w=>vF _ _ _ _ _ _ (n:Int) _ _ _ (decide_eq_false om) hnn (fun w=>YR x.M n om om hlt w) w,hlt,v1.jL,.inr (.inr ⟨om,rfl,(rC (a:=a) hF hn).symm,?_⟩)⟩
    ·by_cases c:x.c=1
     ·refine(AY p mn mx mode k _ _ _ _ _ _ _ _ _ _ _ _ c (by simp;omega) w).mono ?_;rintro r w' ⟨rfl,hg⟩;exact⟨by rw[c],hg⟩
     ·exact rE p mn mx mode k _ _ _ _ _ _ _ _ _ _ _ _ (by simp[c]) w
    ·rw[hw];by_cases c64:x.e<=64
     ·left;rw[show x.e.toNat=n by omega]
     ·have hnE:n=64:=om;rcases Nat.eq_zero_or_pos x.M with m0|m0
      ·left;rw[m0];simp
      ·right;subst hnE;have h3:(2:Nat)^64=18446744073709551616:=de;have h1:=bV (show 64<=x.e.toNat by omega);have h2:x.M*2^64<=x.M*2^x.e.toNat:=Nat.mul_le_mul_left _ h1;rw[h3]at h2⊢
       omega
theorem nZ{one:Int}(hF:aQ f p mx one inf sg nan)(mode kind:Int)(hm:0<=mode/\mode<=4)(hkd:0<=kind/\kind<=3)(a0:0<=a)(a1:a<18446744073709551616)(ha:a<2*sg){x:cu}(hx:bQ p mx one inf sg nan a x)(hw:Fm w):
  CT 37 #[J f,J mode,J kind,.int .u64 a] w fun e w'=>∃Z fl,jg mode kind x Z fl/\e=.returned (aK Z fl)/\Gr w w':=by
 obtain⟨mn,fb,sp,hM,hmn,hfb⟩:=hF.m;obtain⟨k,hk⟩:=lq mode hm.1 hm.2;obtain⟨x',hx',HA⟩:=l9 hF hM a a0 a1;obtain rfl:=hx.one hF hx';have xc0:=(bT hF hx).1.c0;obtain⟨os,oe,oc,oh,ol,of,ot,N,HC,HZ,hN,hos,hcase⟩:=qV hF mn mode hm k hk a0 hx;have HS:Hid (∀w',Gr w w'->nP f mode w' p mn mx k true):=fun w'' hg'=>eY hF hM mode k (fun w=>gZ mode k hk w) (hw.gr hg');have qY:qF p mn mx a true:=fun w=>by
  have:=fits_any hM a a0 a1 w;rw[decide_eq_true ha]at this;exact this
 have hl0:=nJ kind os;have fin:∀(q:Bool) (z:Int),tw kind os N=(z,q)->jg mode kind x z (if q then of else 1):=by
  intro q z htw;unfold tw at htw;by_cases c:N<=bK kind os
  ·rw[if_pos c]at htw;injection htw with h1 h2;subst h1 h2;rcases hcase with⟨_,_,rfl⟩|⟨_,_,rfl⟩|⟨c1,rfl,rfl,hw|⟨hw,_⟩⟩
   ·omega
   ·omega
   ·rw[hw]at c⊢
    exact .inr (.inl ⟨c1,c,rfl,rfl⟩)
   ·omega
  ·rw[if_neg c]at htw;injection htw with h1 h2;subst h1 h2;rcases hcase with⟨c3,rfl,rfl⟩|⟨c2,rfl,rfl⟩|⟨c1,rfl,rfl,hw|⟨_,hw⟩⟩
   ·exact .inl ⟨c3,rfl,rfl⟩
   ·exact .inr (.inr ⟨om,.inl c2,rfl,rfl⟩)
   ·exact .inr (.inr ⟨om,.inr om,rfl,rfl⟩)
   ·exact .inr (.inr ⟨om,.inr om,rfl,rfl⟩)
 obtain⟨⟨z,q⟩,htw⟩:∃r,tw kind os N=r:=⟨_,rfl⟩;have hO:=fin q z htw;rcases(show kind=0\/kind=1\/kind=2\/kind=3 by omega)with rfl|rfl|rfl|rfl
 ·have HT:KR 261 #[.agg #[.int .i32 (-2147483648),.int .i32 2147483647],J os,aG ((N/18446744073709551616:Nat):Int) ((N%18446744073709551616:Nat):Int)] (.tuple #[.int .u64 z,.bool q]):=fun w=>by
   have:=Jk os hos N hN w;rw[htw]at this;exact this
  cases hq:q
  ·refine(aHd p mn mx mode f 0 a _ _ _ _ _ os oe oc oh ol of _ _ z _ ot q hq k HS (fun w=>sF w) qY HA HC HZ HT).mono ?_;rintro e w' ⟨rfl,hg⟩;rw[hq]at hO;exact⟨_,_,hO,rfl,hg⟩
  ·refine(aG9 p mn mx mode f 0 a _ _ _ _ _ os oe oc oh ol of _ _ z _ ot q hq k HS (fun w=>sF w) qY HA HC HZ HT).mono ?_;rintro e w' ⟨rfl,hg⟩;rw[hq]at hO;exact⟨_,_,hO,rfl,hg⟩
 ·have HT:KR 264 #[gW (-9223372036854775808) 9223372036854775807,J os,aG ((N/18446744073709551616:Nat):Int) ((N%18446744073709551616:Nat):Int)] (.tuple #[.int .u64 z,.bool q]):=fun w=>by
   have:=t_ os hos N hN w;rw[htw]at this;exact this
  cases hq:q
  ·refine(aHc p mn mx mode f 1 a _ _ _ _ _ os oe oc oh ol of _ _ z _ ot q hq k HS (fun w=>lD w) qY HA HC HZ HT).mono ?_;rintro e w' ⟨rfl,hg⟩;rw[hq]at hO;exact⟨_,_,hO,rfl,hg⟩
  ·refine(aG8 p mn mx mode f 1 a _ _ _ _ _ os oe oc oh ol of _ _ z _ ot q hq k HS (fun w=>lD w) qY HA HC HZ HT).mono ?_;rintro e w' ⟨rfl,hg⟩;rw[hq]at hO;exact⟨_,_,hO,rfl,hg⟩
 ·have HT:KR 266 #[.agg #[.int .u32 0,.int .u32 4294967295],J os,aG ((N/18446744073709551616:Nat):Int) ((N%18446744073709551616:Nat):Int)] (.tuple #[.int .u64 z,.bool q]):=fun w=>by
   have:=Jh os hos N hN w;rw[htw]at this;exact this
  cases hq:q
  ·refine(aHb p mn mx mode f 2 a _ _ _ _ _ os oe oc oh ol of _ _ z _ ot q hq k HS (fun w=>sD w) qY HA HC HZ HT).mono ?_;rintro e w' ⟨rfl,hg⟩;rw[hq]at hO;exact⟨_,_,hO,rfl,hg⟩
  ·refine(aG7 p mn mx mode f 2 a _ _ _ _ _ os oe oc oh ol of _ _ z _ ot q hq k HS (fun w=>sD w) qY HA HC HZ HT).mono ?_;rintro e w' ⟨rfl,hg⟩;rw[hq]at hO;exact⟨_,_,hO,rfl,hg⟩
 ·have HT:KR 268 #[aG 0 18446744073709551615,J os,aG ((N/18446744073709551616:Nat):Int) ((N%18446744073709551616:Nat):Int)] (.tuple #[.int .u64 z,.bool q]):=fun w=>by
   have:=Je os hos N hN w;rw[htw]at this;exact this
  cases hq:q
  ·refine(aHa p mn mx mode f 3 a _ _ _ _ _ os oe oc oh ol of _ _ z _ ot q hq k HS (fun w=>su w) qY HA HC HZ HT).mono ?_;rintro e w' ⟨rfl,hg⟩;rw[hq]at hO;exact⟨_,_,hO,rfl,hg⟩
  ·refine(aG6 p mn mx mode f 3 a _ _ _ _ _ os oe oc oh ol of _ _ z _ ot q hq k HS (fun w=>su w) qY HA HC HZ HT).mono ?_;rintro e w' ⟨rfl,hg⟩;rw[hq]at hO;exact⟨_,_,hO,rfl,hg⟩
theorem N_(kind:Int):∃(kv:Value) (kb:Bool),(∀w,QR 87 #[J kind] w (.tuple #[kv,.bool kb]))/\(0<=kind/\kind<=3->kb=true)/\(¬(0<=kind/\kind<=3)->kb=Y/\kv=Value.nilIface):=by
 by_cases h:0<=kind/\kind<=3
 ·rcases(show kind=0\/kind=1\/kind=2\/kind=3 by omega)with rfl|rfl|rfl|rfl
  ·exact⟨_,true,sF,fun _=>rfl,fun h=>absurd om h⟩
  ·exact⟨_,true,lD,fun _=>rfl,fun h=>absurd om h⟩
  ·exact⟨_,true,sD,fun _=>rfl,fun h=>absurd om h⟩
  ·exact⟨_,true,su,fun _=>rfl,fun h=>absurd om h⟩
 ·exact⟨_,Y,BF kind h,fun h'=>absurd h' h,fun _=>⟨rfl,rfl⟩⟩
theorem qQ(f mode kind a:Int)(a0:0<=a)(a1:a<18446744073709551616)(w:World)(hw:Fm w):
  CT 37 #[J f,J mode,J kind,.int .u64 a] w fun e w'=>∃Z fl,dA f mode kind a Z fl/\e=.returned (aK Z fl)/\Gr w w':=by
 obtain⟨kv,kb,HK,hk1,hk0⟩:=N_ kind;have bad:DI f mode kind a->(qE f mode kind a w 0 1)->CT 37 #[J f,J mode,J kind,.int .u64 a] w fun e w'=>∃Z fl,dA f mode kind a Z fl/\e=.returned (aK Z fl)/\Gr w w':=fun hn h=>h.mono (fun e w' ⟨h1,h2⟩=>⟨0,1,.inr ⟨hn,rfl,rfl⟩,h1,h2⟩);by_cases hf:f=0\/f=1
 ·obtain⟨p,mx,one,inf,sg,nan,hF⟩:=iG f hf;obtain⟨mn,fb,sp,hM,hmn,hfb⟩:=hF.m;by_cases hm:0<=mode/\mode<=4
  ·obtain⟨k,hk⟩:=lq mode hm.1 hm.2;have HS:Hid (∀w',Gr w w'->nP f mode w' p mn mx k true):=fun w'' hg'=>eY hF hM mode k (fun w=>gZ mode k hk w) (hw.gr hg');by_cases hkd:0<=kind/\kind<=3
   ·obtain rfl:=hk1 hkd;by_cases ha:a<2*sg
    ·obtain⟨x,hx⟩:=fG hF a a0 a1;refine(nZ hF mode kind hm hkd a0 a1 ha hx hw).mono ?_;rintro e w' ⟨Z,fl,h,rfl,hg⟩;exact⟨_,_,.inl ⟨p,mx,one,inf,sg,nan,x,hF,ha,hm,hkd,hx,h⟩,rfl,hg⟩
    ·refine bad (.inr (.inr (.inr ?_))) (aFq p mn mx mode f mode kind a k kv HS HK (fun w=>?_))
     ·rcases hF with⟨rfl,rfl,rfl,rfl,rfl,rfl,rfl⟩|⟨rfl,rfl,rfl,rfl,rfl,rfl,rfl⟩<;>omega
     ·have:=fits_any hM a a0 a1 w;rw[decide_eq_false ha]at this;exact this
   ·obtain⟨rfl,rfl⟩:=hk0 hkd;exact bad (.inr (.inl hkd)) (aFr p mn mx mode f mode kind a k HS HK)
  ·exact bad (.inl hm) (Yz p mn mx mode f mode kind a kv kb (fun w'' hg'=>gV hF hM mode (fun w=>kV mode om w) (hw.gr hg')) HK)
 ·exact bad (.inr (.inr (.inl hf))) (Yz _ _ _ _ f mode kind a kv kb (fun w'' hg'=>fV f mode hf (hw.gr hg')) HK)
theorem oU(s:Int)(hs:s=0\/s=1)(K:Nat)(hK:K<=1000000)(N:Nat)(hN:N<18446744073709551616)(b k c:Nat)(w:World)(hB:aF K w (aB b k c) N):
  tq s b k c w (eP s N):=by
 refine CQ s (N:Int) _ ?_ b k c (fun w' hg=>?_)
 ·rcases hs with rfl|rfl
  ·exact .inr ⟨rfl,(pV N).symm⟩
  ·exact .inl ⟨rfl,by rw[Int.zero_sub];exact jW N hN,jW N hN⟩
 ·obtain⟨n,hn,hb⟩:=aF.gb hB hg;refine(yR hb om hN).mono ?_;rintro e w'' ⟨rfl,hg'⟩;exact⟨rfl,by first|exact hg'|(subst hg';exact Gb.refl _)⟩
theorem KE(kind:Int)(h:0<=kind/\kind<=3):(lW kind==0)=Y:=by
 rcases(show kind=0\/kind=1\/kind=2\/kind=3 by omega)with rfl|rfl|rfl|rfl<;>decide
theorem aDc(kind:Int)(h:¬(0<=kind/\kind<=3)):lW kind=0:=by unfold lW;rw[if_neg om,if_neg (by omega)]
theorem qI(f mode kind a:Int)(a0:0<=a)(a1:a<18446744073709551616)(w:World):
  CT 63 #[J f,J mode,J kind,.int .u64 a] w fun e w'=>∃Z fl,dA f mode kind a Z fl/\e=.returned (aK Z fl)/\Gb w w':=by
 have bad:DI f mode kind a->(sW f mode kind a w 0 1)->CT 63 #[J f,J mode,J kind,.int .u64 a] w fun e w'=>∃Z fl,dA f mode kind a Z fl/\e=.returned (aK Z fl)/\Gb w w':=fun hn h=>h.mono (fun e w' ⟨h1,h2⟩=>⟨0,1,.inr ⟨hn,rfl,rfl⟩,h1,h2⟩);by_cases hkd:0<=kind/\kind<=3
 ·have HK:lM kind (lW kind) (xJ kind):=fun w=>jH kind w;have hB0:=KE kind hkd;by_cases hm:0<=mode/\mode<=4
  ·have HY:KW 82 #[J mode] (.bool true):=fun w=>jS mode true (by simp[hm]) w;by_cases hf:f=0\/f=1
   ·obtain⟨p,mx,one,inf,sg,nan,hF⟩:=iG f hf;by_cases ha:a<2*sg
    ·have qY:KW 117 #[J f,.int .u64 a] (.bool true):=fun w=>jf hF a a0 ha w;obtain⟨x,hx⟩:=fG hF a a0 a1;obtain⟨v1,v2,v3,v4,v5,v6⟩:=bT hF hx;have xc0:=v1.c0;have U8:=v1.c4;have HU:=iC hF a a0 ha hx;have HQ:∀(b:Bool),b=decide (3<=x.c)->bI x.c x.s x.e (((x.M:Nat):Int)) b:=fun b hb w=>fU _ _ _ _ b hb w;have fin:∀Z fl,jg mode kind x Z fl->(sW f mode kind a w Z fl)->CT 63 #[J f,J mode,J kind,.int .u64 a] w fun e w'=>∃Z fl,dA f mode kind a Z fl/\e=.returned (aK Z fl)/\Gb w w':=fun Z fl hp h=>h.mono (fun e w' ⟨h1,h2⟩=>⟨Z,fl,.inl ⟨p,mx,one,inf,sg,nan,x,hF,ha,hm,hkd,hx,hp⟩,h1,h2⟩);have HM:∀s,s=0\/s=1->Hid (∀w,CT 131 #[J kind,J s] w (qK 20 (bK kind s) w)):=fun s hs w=>uq kind s hs w;have HW:∀s,s=0\/s=1->Hid (∀b k c w,aF 20 w (aB b k c) (bK kind s)->tq s b k c w (eP s (bK kind s))):=fun s hs b k c w hB=>oU s hs 20 om _ (nJ kind s) b k c w hB;by_cases cn:3<=x.c
     ·exact fin _ _ (.inl ⟨cn,rfl,rfl⟩) (EF f mode kind a _ _ _ _ _ _ _ _ hB0 HK HY qY HU (HQ true (by simp[cn])) (HM 0 (.inl rfl)) (HW 0 (.inl rfl)) w)
     ·have hQ:=HQ Y (by simp;omega);have hms:=HM x.s v1.jL;have hws:=HW x.s v1.jL;by_cases c2:x.c=2
      ·exact fin _ _ (.inr (.inr ⟨om,.inl c2,rfl,rfl⟩)) (EG f mode kind a _ _ _ _ _ _ _ _ hB0 HK HY qY HU hQ c2 hms hws w)
      ·by_cases far:200<x.e
       ·refine fin _ _ (.inr (.inr ⟨om,.inr ?_,rfl,rfl⟩)) (EH f mode kind a _ _ _ _ _ _ _ _ hB0 HK HY qY HU hQ c2 (decide_eq_true far) hms hws w);have hc1:x.c=1:=by
         rcases(show x.c=0\/x.c=1 by omega)with h|h
         ·obtain⟨_,v,_,_,hz⟩:=mV hF a0 hx om;have:=hz (by omega);omega
         ·exact h
        rw[jM (by omega)];have h1:=bV (show 64<=x.e.toNat by omega);have h3:(2:Nat)^64=18446744073709551616:=de;have h2:1*2^x.e.toNat<=x.M*2^x.e.toNat:=Nat.mul_le_mul_right _ (v1.fin hc1).1;have:=nJ kind x.s;omega
       ·have HN:Hid (∀w,CT 123 #[eX x.c x.s x.e (((x.M:Nat):Int))] w fun e w'=>∃b k cc,aF 2 w' (aB b k cc) x.M/\e=.returned (.agg #[J x.s,aB b k cc,J x.e,.bool Y])/\Gb w w'):=fun w=>lC _ _ _ x.M om w;have XP:Hid (∀b k c w,aF 2 w (aB b k c) x.M->CT 122 #[J mode,.agg #[J x.s,aB b k c,J x.e,.bool Y]] w fun e w'=>∃b k c,aF 70005 w' (aB b k c) (aN mode x)/\e=.returned (.tuple #[aB b k c,.bool (!fF x)])/\Gb w w'):=fun b k c w hB=>vY hF hx mode hm b k c w hB;have HC:Hid (∀v v' w,aF 70005 w v (aN mode x)->aF 20 w v' (bK kind x.s)->QB 102 #[v,v'] w (J (fK (aN mode x) (bK kind x.s)))):=fun v v' w ⟨n,h1,h2⟩ ⟨n',h1',h2'⟩=>gY h2 om h2' om;have hX:fF x=true->x.c=1:=by
         intro h;rcases(show x.c=0\/x.c=1 by omega)with hc|hc
         ·obtain⟨_,v,_,_,hz⟩:=mV hF a0 hx om;rw[wM (x:=x) (by have:=hz (by omega);omega)]at h;cases h
         ·exact hc
        by_cases hle:aN mode x<=bK kind x.s
        ·have hd:decide (fK (aN mode x) (bK kind x.s)<=0)=true:=decide_eq_true (by unfold fK;split<;>(try split)<;>omega);have HWw:Hid (∀b k c w,aF 70005 w (aB b k c) (aN mode x)->tq x.s b k c w (eP x.s (aN mode x))):=fun b k c w hB=>oU x.s v1.jL 70005 om _ (by have:=nJ kind x.s;omega) b k c w hB;cases hxx:fF x
         ·refine fin _ _ (.inr (.inl ⟨om,hle,rfl,?_⟩)) (ED f mode kind a _ _ _ _ _ _ _ _ _ x.M _ _ (by rw[hxx];rfl) hB0 HK HY qY HU hQ c2 (decide_eq_false far) HN XP hms HC hd HWw w);unfold zi;rw[hxx,if_neg (by simp)]
         ·refine fin _ _ (.inr (.inl ⟨om,hle,rfl,?_⟩)) (EC f mode kind a _ _ _ _ _ _ _ _ _ x.M _ _ (by rw[hxx];rfl) hB0 HK HY qY HU hQ c2 (decide_eq_false far) HN XP hms HC hd HWw w);unfold zi;rw[hxx,if_pos ⟨hX hxx,rfl⟩]
        ·have hd:decide (fK (aN mode x) (bK kind x.s)<=0)=Y:=decide_eq_false (by unfold fK;rw[if_neg om,if_pos (by omega)];omega);exact fin _ _ (.inr (.inr ⟨om,.inr om,rfl,rfl⟩)) (Ez f mode kind a _ _ _ _ _ _ _ _ _ x.M _ _ hB0 HK HY qY HU hQ c2 (decide_eq_false far) HN XP hms HC hd hws w)
    ·have hno:f=0/\4294967296<=a:=by rcases hF with⟨rfl,rfl,rfl,rfl,rfl,rfl,rfl⟩|⟨rfl,rfl,rfl,rfl,rfl,rfl,rfl⟩<;>omega
     exact bad (.inr (.inr (.inr hno))) (Cm f mode kind a _ _ hB0 HK HY (fun w=>r_ f a a0 (.inr hno) w) w)
   ·exact bad (.inr (.inr (.inl hf))) (Cm f mode kind a _ _ hB0 HK HY (fun w=>r_ f a a0 (.inl hf) w) w)
  ·exact bad (.inl hm) (MZ f mode kind a _ _ hB0 HK (fun w=>jS mode Y (by simp;omega) w) w)
 ·have hb:=aDc kind hkd;exact bad (.inr (.inl hkd)) (M_ f mode kind a (xJ kind) (fun w=>hb▸jH kind w) w)
theorem aFs(f mode kind a:Int)(a0:0<=a)(a1:a<18446744073709551616):
  ∃Z fl:Int,dA f mode kind a Z fl/\(∀w,sW f mode kind a w Z fl)/\
   (∀w,Fm w->qE f mode kind a w Z fl):=
 KD (fun _ _ _ _ h h'=>dA.one h h') (zG f mode kind a a0 a1) (qI f mode kind a a0 a1) (qQ f mode kind a a0 a1)
