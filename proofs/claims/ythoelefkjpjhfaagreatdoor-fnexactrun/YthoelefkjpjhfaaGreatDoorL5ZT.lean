import Derived.Test.YthoelefkjpjhfaaGreatDoorK7
set_option linter.all false
set_option maxHeartbeats 40000000
open Bool renaming false → Y
open Go.Proofs.YthoelefkjpjhfaaGreatDoor renaming vI → J
namespace Go.Proofs.YthoelefkjpjhfaaGreatDoor
open Go.RowKit
variable{f a p mx aI sg nan aj aF Z fl Z' oP:Int}{w:World}
def tw(aF s:Int)(N:Nat):Int × Bool:=if N<=fH aF s then(kV s N,true)else(kV s (fH aF s),Y)
def vH(N:Nat)(h:aG N):IntKind.u64.wrap (-(N:Int))=kV 1 N:=by
 rw[IntKind.wrap_u64];unfold kV;by_cases c:N=0
 .subst c;rfl
 .rw[if_pos ⟨rfl,c⟩];omega
def Dj(N:Nat):kV 0 N=(N:Int):=by unfold kV;rw[if_neg (by simp)]
def Ro(s:Int)(hs:s=0\/s=1)(N:Nat)(hN:N<340282366920938463463374607431768211456)(w:World):
  QR 354 #[.agg #[.int .i32 (-2147483648),.int .i32 2147483647],J s,aN ((N/18446744073709551616:Nat):Int) ((N%18446744073709551616:Nat):Int)] w (.tuple #[.int .u64 (tw 0 s N).1,.bool (tw 0 s N).2]):=by
 unfold tw;rcases hs with rfl|rfl
 .have hm:fH 0 0=2147483647:=de;have he:kV 0 (fH 0 0)=2147483647:=by rw[hm];decide
  rw[he,hm];by_cases c:N/18446744073709551616=0
  .by_cases c2:N<=2147483647
   .rw[if_pos c2];have hl:N%18446744073709551616=N:=om;rw[hl,c];exact(Dj N).symm ▸Ru _ _ rfl (decide_eq_false om) w
   .rw[if_neg c2];exact OZ _ _ om (decide_eq_true om) w
  .rw[if_neg (by omega)];exact OY _ _ jl w
 .have hm:fH 0 1=2147483648:=de;have he:kV 1 (fH 0 1)=18446744071562067968:=by rw[hm];decide
  rw[he,hm];by_cases c:N/18446744073709551616=0
  .by_cases c2:N<=2147483648
   .rw[if_pos c2];have hl:N%18446744073709551616=N:=om;rw[hl,c];exact Rq _ _ _ rfl (decide_eq_false om) (vH N om) w
   .rw[if_neg c2];exact OX _ _ om (decide_eq_true om) w
  .rw[if_neg (by omega)];exact OW _ _ jl w
def Rj(s:Int)(hs:s=0\/s=1)(N:Nat)(hN:N<340282366920938463463374607431768211456)(w:World):
  QR 357 #[jI (-9223372036854775808) 9223372036854775807,J s,aN ((N/18446744073709551616:Nat):Int) ((N%18446744073709551616:Nat):Int)] w (.tuple #[.int .u64 (tw 1 s N).1,.bool (tw 1 s N).2]):=by
 unfold tw;rcases hs with rfl|rfl
 .have hm:fH 1 0=9223372036854775807:=de;have he:kV 0 (fH 1 0)=9223372036854775807:=by rw[hm];decide
  rw[he,hm];by_cases c:N/18446744073709551616=0
  .by_cases c2:N<=9223372036854775807
   .rw[if_pos c2];have hl:N%18446744073709551616=N:=om;rw[hl,c];exact(Dj N).symm ▸Rl _ _ rfl (decide_eq_false om) w
   .rw[if_neg c2];exact OV _ _ om (decide_eq_true om) w
  .rw[if_neg (by omega)];exact OU _ _ jl w
 .have hm:fH 1 1=9223372036854775808:=de;have he:kV 1 (fH 1 1)=9223372036854775808:=by rw[hm];decide
  rw[he,hm];by_cases c:N/18446744073709551616=0
  .by_cases c2:N<=9223372036854775808
   .rw[if_pos c2];have hl:N%18446744073709551616=N:=om;rw[hl,c];exact Rk _ _ _ rfl (decide_eq_false om) (vH N om) w
   .rw[if_neg c2];exact OT _ _ om (decide_eq_true om) w
  .rw[if_neg (by omega)];exact OQ _ _ jl w
def Rf(s:Int)(hs:s=0\/s=1)(N:Nat)(hN:N<340282366920938463463374607431768211456)(w:World):
  QR 359 #[.agg #[.int .u32 0,.int .u32 4294967295],J s,aN ((N/18446744073709551616:Nat):Int) ((N%18446744073709551616:Nat):Int)] w (.tuple #[.int .u64 (tw 2 s N).1,.bool (tw 2 s N).2]):=by
 unfold tw;rcases hs with rfl|rfl
 .have hm:fH 2 0=4294967295:=de;have he:kV 0 (fH 2 0)=4294967295:=by rw[hm];decide
  rw[he,hm];by_cases c:N/18446744073709551616=0
  .by_cases c2:N<=4294967295
   .rw[if_pos c2];have hl:N%18446744073709551616=N:=om;rw[hl,c];exact(Dj N).symm ▸Ri _ _ rfl (decide_eq_false om) w
   .rw[if_neg c2];exact OO _ _ om (decide_eq_true om) w
  .rw[if_neg (by omega)];exact OM _ _ jl w
 .have hm:fH 2 1=0:=de;have he:kV 1 (fH 2 1)=0:=by rw[hm];decide
  rw[he,hm];by_cases c:N/18446744073709551616=0
  .by_cases c2:N<=0
   .rw[if_pos c2];have hl:N%18446744073709551616=N:=om;rw[hl,c];exact Rh _ _ _ rfl (decide_eq_false om) (vH N om) w
   .rw[if_neg c2];exact OL _ _ om (decide_eq_true om) w
  .rw[if_neg (by omega)];exact OJ _ _ jl w
def Q8(s:Int)(hs:s=0\/s=1)(N:Nat)(hN:N<340282366920938463463374607431768211456)(w:World):
  QR 361 #[aN 0 18446744073709551615,J s,aN ((N/18446744073709551616:Nat):Int) ((N%18446744073709551616:Nat):Int)] w (.tuple #[.int .u64 (tw 3 s N).1,.bool (tw 3 s N).2]):=by
 unfold tw;rcases hs with rfl|rfl
 .have hm:fH 3 0=18446744073709551615:=de;have he:kV 0 (fH 3 0)=18446744073709551615:=by rw[hm];decide
  rw[he,hm];by_cases c:N/18446744073709551616=0
  .by_cases c2:N<=18446744073709551615
   .rw[if_pos c2];have hl:N%18446744073709551616=N:=om;rw[hl,c];exact(Dj N).symm ▸Q_ _ _ rfl (decide_eq_false om) w
   .rw[if_neg c2];exact OI _ _ om (decide_eq_true om) w
  .rw[if_neg (by omega)];exact OH _ _ jl w
 .have hm:fH 3 1=0:=de;have he:kV 1 (fH 3 1)=0:=by rw[hm];decide
  rw[he,hm];by_cases c:N/18446744073709551616=0
  .by_cases c2:N<=0
   .rw[if_pos c2];have hl:N%18446744073709551616=N:=om;rw[hl,c];exact Q9 _ _ _ rfl (decide_eq_false om) (vH N om) w
   .rw[if_neg c2];exact OG _ _ om (decide_eq_true om) w
  .rw[if_neg (by omega)];exact OE _ _ jl w
def vw(aj aF:Int)(x:dM)(Z fl:Int):Prop:=
 3<=x.c/\Z=kV 0 (fH aF 0)/\fl=1\/
 x.c<=1/\bV aj x<=fH aF x.s/\Z=kV x.s (bV aj x)/\fl=Jo x\/
 x.c<=2/\(x.c=2\/fH aF x.s<bV aj x)/\Z=kV x.s (fH aF x.s)/\fl=1
def XZ(f aj aF a:Int):Prop:=¬(0<=aj/\aj<=4)\/¬(0<=aF/\aF<=3)\/¬(f=0\/f=1)\/f=0/\4294967296<=a
def fU(f aj aF a Z fl:Int):Prop:=
 (∃p mx one aI sg nan x,bD f p mx one aI sg nan/\a<2*sg/\(0<=aj/\aj<=4)/\(0<=aF/\aF<=3)/\dF p mx one aI sg nan a x/\vw aj aF x Z fl)\/XZ f aj aF a/\Z=0/\fl=1
def vw.one{x:dM}(hx:0<=x.c)(h:vw aj aF x Z fl)(h':vw aj aF x Z' oP):Z=Z'/\fl=oP:=by
 rcases h with⟨c,rfl,rfl⟩|⟨c,d,rfl,rfl⟩|⟨c,d,rfl,rfl⟩<;>rcases h' with⟨c',rfl,rfl⟩|⟨c',d',rfl,rfl⟩|⟨c',d',rfl,rfl⟩<;>first|exact⟨rfl,rfl⟩|(exfalso;omega)
def V6{one:Int}(h:bD f p mx one aI sg nan)(ha:a<2*sg):¬(¬(f=0\/f=1)\/f=0/\4294967296<=a):=by
 rcases h with⟨rfl,rfl,rfl,rfl,rfl,rfl,rfl⟩|⟨rfl,rfl,rfl,rfl,rfl,rfl,rfl⟩<;>omega
def fU.one(h:fU f aj aF a Z fl)(h':fU f aj aF a Z' oP):Z=Z'/\fl=oP:=by
 rcases h with⟨p,mx,one,aI,sg,nan,x,hF,ha,hm,hk,hx,hp⟩|⟨hn,rfl,rfl⟩<;>
 rcases h' with⟨p',wS,pX,ql,EM,pY,x',mG,ha',I_,C_,Nq,Qs⟩|⟨C9,rfl,rfl⟩
 .obtain⟨rfl,rfl,rfl,rfl,rfl,rfl⟩:=hF.one mG;obtain rfl:=hx.one hF Nq;exact vw.one (bK hF hx).1.c0 hp Qs
 .have:=V6 hF ha;unfold XZ at C9;exfalso;rcases C9 with h|h|h<;>first|exact h hm|exact h hk|exact this h
 .have:=V6 mG ha';unfold XZ at hn;exfalso;rcases hn with h|h|h<;>first|exact h I_|exact h C_|exact this h
 .exact⟨rfl,rfl⟩
def Dp(f aj aF a:Int)(a0:0<=a)(a1:aG a):∃Z fl,fU f aj aF a Z fl:=by
 by_cases hn:XZ f aj aF a
 .exact⟨_,_,.inr ⟨hn,rfl,rfl⟩⟩
 .unfold XZ at hn;have hm:0<=aj/\aj<=4:=om;have hk:0<=aF/\aF<=3:=om;have hf:f=0\/f=1:=om;obtain⟨p,mx,one,aI,sg,nan,hF⟩:=eX f hf;have ha:a<2*sg:=by rcases hF with⟨rfl,rfl,rfl,rfl,rfl,rfl,rfl⟩|⟨rfl,rfl,rfl,rfl,rfl,rfl,rfl⟩<;>omega
  obtain⟨x,hx⟩:=eu hF a a0 a1;have c0:=(bK hF hx).1.c0;have fin:∀Z fl,vw aj aF x Z fl->∃Z fl,fU f aj aF a Z fl:=λZ fl h=>⟨Z,fl,.inl ⟨p,mx,one,aI,sg,nan,x,hF,ha,hm,hk,hx,h⟩⟩;by_cases c:3<=x.c
  .exact fin _ _ (.inl ⟨c,rfl,rfl⟩)
  .by_cases d:x.c=2\/fH aF x.s<bV aj x
   .exact fin _ _ (.inr (.inr ⟨om,d,rfl,rfl⟩))
   .exact fin _ _ (.inr (.inl ⟨om,om,rfl,rfl⟩))
def aOx(M:Nat)(n:Nat)(hM:M<340282366920938463463374607431768211456)(hn:n<=128)(h:M*2^n<340282366920938463463374607431768211456)(w:World):
  QR 256 #[aN ((M/18446744073709551616:Nat):Int) ((M%18446744073709551616:Nat):Int),J n] w (aN ((M*2^n/18446744073709551616:Nat):Int) ((M*2^n%18446744073709551616:Nat):Int)):=by
 have e0:((M/18446744073709551616:Nat):Int)*18446744073709551616+((M%18446744073709551616:Nat):Int)=(M:Int):=om;have hk:(bnd (n:Int)).toNat =n:=by unfold bnd;rw[if_neg om,if_neg (by omega)];simp
 refine(uQ _ _ (n:Int) om om om om w).mono ?_;rintro e w' ⟨rfl,hg⟩;refine⟨P6 ?_ ?_,hg⟩
 .unfold qO;rw[hk,e0,cast_mul];omega
 .unfold qN;rw[hk,e0,cast_mul];omega
def PG{one:Int}(hF:bD f p mx one aI sg nan)(mn aj:Int)(hm:0<=aj/\aj<=4)(k:Nat)(hk:xU aj k)(a0:0<=a){x:dM}(hx:dF p mx one aI sg nan a x):
  ∃(os oe oc oh ol of:Int) (ot:Bool) (N:Nat),(∀w,QR 173 #[dN p mn mx aj k,.func (.func 188) #[] #[],aU x.s x.e x.c (((x.M/18446744073709551616:Nat):Int)) (((x.M%18446744073709551616:Nat):Int)) Y 0,aU x.s x.e x.c (((x.M/18446744073709551616:Nat):Int)) (((x.M%18446744073709551616:Nat):Int)) Y 0] w (aU os oe oc oh ol ot of))/\
   (∀w,QR 189 #[aU os oe oc oh ol ot of] w (aN ((N/18446744073709551616:Nat):Int) ((N%18446744073709551616:Nat):Int)))/\N<340282366920938463463374607431768211456/\(os=0\/os=1)/\
   (3<=x.c/\os=0/\N=18446744073709551616\/x.c=2/\os=x.s/\N=18446744073709551616\/x.c<=1/\os=x.s/\of=Jo x/\(N=bV aj x\/18446744073709551616<=N/\18446744073709551616<=bV aj x)):=by
 obtain⟨v1,v2,v3,v4,v5,v6⟩:=bK hF hx;have hb:=hF.bounds;have xc0:=v1.c0;have xc4:=v1.c4;have aJ3:(18446744073709551616:Nat)/18446744073709551616=1/\(18446744073709551616:Nat)%18446744073709551616=0:=de;by_cases cn:3<=x.c
 .refine⟨0,0,x.c,0,0,0,Y,18446744073709551616,λw=>jG p mn mx aj k _ _ _ _ _ _ _ _ _ _ _ _ _ x.c om cn w,λw=>?_,de,.inl rfl,.inl ⟨cn,rfl,rfl⟩⟩;rw[aJ3.1,aJ3.2];exact Vb 0 0 x.c 0 0 0 Y (decide_eq_true om) w
 .have comb:∀os oe oc oh ol ot of,(∀w,XU p mn mx aj k x.s x.e x.c (((x.M/18446744073709551616:Nat):Int)) (((x.M%18446744073709551616:Nat):Int)) Y 0 x.s x.e x.c (((x.M/18446744073709551616:Nat):Int)) (((x.M%18446744073709551616:Nat):Int)) Y 0 w os oe oc oh ol ot of)->∀w,QR 173 #[dN p mn mx aj k,.func (.func 188) #[] #[],aU x.s x.e x.c (((x.M/18446744073709551616:Nat):Int)) (((x.M%18446744073709551616:Nat):Int)) Y 0,aU x.s x.e x.c (((x.M/18446744073709551616:Nat):Int)) (((x.M%18446744073709551616:Nat):Int)) Y 0] w (aU os oe oc oh ol ot of):=by
   intro os oe oc oh ol ot of h w;refine(yt p mn mx aj k _ _ _ _ _ _ _ _ _ _ _ _ x.c om om (λa b c d e f g=>a=os/\b=oe/\c=oc/\d=oh/\e=ol/\f=ot/\g=of) (λw=>(h w).mono (λe w' ⟨h1,h2⟩=>⟨_,_,_,_,_,_,_,⟨rfl,rfl,rfl,rfl,rfl,rfl,rfl⟩,h1,h2⟩)) w).mono ?_;rintro e w' ⟨_,_,_,_,_,_,_,⟨rfl,rfl,rfl,rfl,rfl,rfl,rfl⟩,rfl,hg⟩;exact⟨rfl,hg⟩
  by_cases c2:x.c=2
  .refine⟨x.s,x.e,x.c,_,_,0,Y,18446744073709551616,comb _ _ _ _ _ _ _ (λw=>EU p mn mx aj k _ _ _ _ _ _ _ _ _ _ _ _ (by simp[c2]) w),λw=>?_,de,v1.jM,.inr (.inl ⟨c2,rfl,rfl⟩)⟩;rw[aJ3.1,aJ3.2];exact Vb _ _ _ _ _ _ _ (decide_eq_true om) w
  .by_cases hn:x.c=1/\x.e<0
   .obtain⟨c,e⟩:=hn;have hl:=(pK hF hx aj c e).1;have HR:∀b:Bool,decide (0<bg x.M x.e 0 Y)=b->Jj k (0-x.e) x.s ((x.M/18446744073709551616:Nat):Int) ((x.M%18446744073709551616:Nat):Int) Y ((bV aj x:Nat):Int) b:=λb AV w=>AV▸uw aj k hk x.s v1.jM x.M om x.e 0 (0-x.e) Y rfl om om (λ_=>rfl) (by
      have h1:=(kQ aj x.s (dw x.M x.e 0) (bg x.M x.e 0 Y)).1;unfold bV at hl;omega) w
    have hn:wrap64 (-x.e)=0-x.e:=by
     rw[(om:-x.e=0-x.e)];unfold wrap64;omega
    have ce:decide (0<=x.e)=Y:=jl;have uF:∀fl w,QR 189 #[aU x.s 0 1 0 (((bV aj x:Nat):Int)) Y fl] w (aN ((bV aj x/18446744073709551616:Nat):Int) ((bV aj x%18446744073709551616:Nat):Int)):=by
     intro fl w;have h0:=aOx (bV aj x) 0 om om om;rw[Nat.pow_zero,Nat.mul_one,(om:bV aj x/18446744073709551616=0),(om:bV aj x%18446744073709551616=bV aj x)]at h0;rw[(om:bV aj x/18446744073709551616=0),(om:bV aj x%18446744073709551616=bV aj x)];exact Va _ 0 1 _ _ fl 0 _ _ Y de de (λw=>h0 w) w
    by_cases hh:0<bg x.M x.e 0 Y
    .refine⟨x.s,0,1,0,_,16,Y,bV aj x,comb _ _ _ _ _ _ _ (λw=>PV p mn mx aj k _ _ _ _ _ _ _ _ _ _ _ _ (0-x.e) _ c ce hn (HR true (by simp[hh])) w),uF 16,om,v1.jM,.inr (.inr ⟨om,rfl,?_,.inl rfl⟩)⟩;unfold Jo iY;rw[if_pos ⟨c,by simp[hh]⟩]
    .refine⟨x.s,0,1,0,_,0,Y,bV aj x,comb _ _ _ _ _ _ _ (λw=>PW p mn mx aj k _ _ _ _ _ _ _ _ _ _ _ _ (0-x.e) _ c ce hn (HR Y (by simp[hh])) w),uF 0,om,v1.jM,.inr (.inr ⟨om,rfl,?_,.inl rfl⟩)⟩;unfold Jo iY;rw[if_neg (by simp[hh])]
   .have he:0<=x.e:=by
     by_cases c:x.c=1
     .omega
     .obtain⟨_,v,_,_,hz⟩:=xw hF a0 hx om;have:=hz c;omega
    have hw:=sD (aj:=aj) he;obtain⟨n,hnn⟩:∃n:Nat,min x.e 64=(n:Int):=⟨(min x.e 64).toNat,om⟩;have aNj:n<=64:=om;have fF:x.M*2^n<340282366920938463463374607431768211456:=by
     have h1:=fZ aNj;have h2:x.M*2^n<=x.M*2^64:=Nat.mul_le_mul_left _ h1;have h3:(2:Nat)^64=18446744073709551616:=de;rw[h3]at h2;omega
    refine⟨x.s,x.e,x.c,_,_,0,Y,x.M*2^n,comb _ _ _ _ _ _ _ (λw=>?_),λw=>Va _ _ _ _ _ _ (n:Int) _ _ _ (decide_eq_false om) hnn (λw=>aOx x.M n om om fF w) w,fF,v1.jM,.inr (.inr ⟨om,rfl,(yL (a:=a) hF hn).symm,?_⟩)⟩
    .by_cases c:x.c=1
     .refine(PX p mn mx aj k _ _ _ _ _ _ _ _ _ _ _ _ c jl w).mono ?_;rintro r w' ⟨rfl,hg⟩;exact⟨by rw[c],hg⟩
     .exact EU p mn mx aj k _ _ _ _ _ _ _ _ _ _ _ _ (by simp[c]) w
    .rw[hw];by_cases c64:x.e<=64
     .left;rw[(om:x.e.toNat=n)]
     .have hnE:n=64:=om;rcases Nat.eq_zero_or_pos x.M with m0|m0
      .left;rw[m0];simp
      .right;subst hnE;have h3:(2:Nat)^64=18446744073709551616:=de;have h1:=fZ (om:64<=x.e.toNat);have h2:x.M*2^64<=x.M*2^x.e.toNat:=Nat.mul_le_mul_left _ h1;rw[h3]at h2⊢
       omega
def S9{one:Int}(hF:bD f p mx one aI sg nan)(aj aF:Int)(hm:0<=aj/\aj<=4)(Py:0<=aF/\aF<=3)(a0:0<=a)(a1:aG a)(ha:a<2*sg){x:dM}(hx:dF p mx one aI sg nan a x)(hw:Fm w):
  CT 94 #[J f,J aj,J aF,.int .u64 a] w λe w'=>∃Z fl,vw aj aF x Z fl/\e=.returned (aP Z fl)/\Gr w w':=by
 obtain⟨mn,fb,sp,hM,zU,PD⟩:=hF.m;obtain⟨k,hk⟩:=kW aj hm.1 hm.2;obtain⟨x',Nq,HA⟩:=jf hF hM a a0 a1;obtain rfl:=hx.one hF Nq;have xc0:=(bK hF hx).1.c0;obtain⟨os,oe,oc,oh,ol,of,ot,N,HC,HZ,hN,hos,Qw⟩:=PG hF mn aj hm k hk a0 hx;have HS:Hid (∀w',Gr w w'->rV f aj w' p mn mx k true):=λaT dL=>dV hF hM aj k (λw=>gW aj k hk w) (hw.gr dL);have yK:F9 p mn mx a true:=λw=>by
  have:=fits_any hM a a0 a1 w;rw[decide_eq_true ha]at this;exact this
 have Z4:=DT aF os;have fin:∀(q:Bool) (z:Int),tw aF os N=(z,q)->vw aj aF x z (if q then of else 1):=by
  intro q z htw;unfold tw at htw;by_cases c:N<=fH aF os
  .rw[if_pos c]at htw;injection htw with h1 h2;subst h1 h2;rcases Qw with⟨_,_,rfl⟩|⟨_,_,rfl⟩|⟨c1,rfl,rfl,hw|⟨hw,_⟩⟩
   .omega
   .omega
   .rw[hw]at c⊢
    exact .inr (.inl ⟨c1,c,rfl,rfl⟩)
   .omega
  .rw[if_neg c]at htw;injection htw with h1 h2;subst h1 h2;rcases Qw with⟨c3,rfl,rfl⟩|⟨c2,rfl,rfl⟩|⟨c1,rfl,rfl,hw|⟨_,hw⟩⟩
   .exact .inl ⟨c3,rfl,rfl⟩
   .exact .inr (.inr ⟨om,.inl c2,rfl,rfl⟩)
   .exact .inr (.inr ⟨om,.inr om,rfl,rfl⟩)
   .exact .inr (.inr ⟨om,.inr om,rfl,rfl⟩)
 obtain⟨⟨z,q⟩,htw⟩:∃r,tw aF os N=r:=⟨_,rfl⟩;have hO:=fin q z htw;rcases(om:aF=0\/aF=1\/aF=2\/aF=3)with rfl|rfl|rfl|rfl
 .have HT:KR 354 #[.agg #[.int .i32 (-2147483648),.int .i32 2147483647],J os,aN ((N/18446744073709551616:Nat):Int) ((N%18446744073709551616:Nat):Int)] (.tuple #[.int .u64 z,.bool q]):=λw=>by
   have:=Ro os hos N hN w;rw[htw]at this;exact this
  cases hq:q
  .refine(aOu p mn mx aj f 0 a _ _ _ _ _ os oe oc oh ol of _ _ z _ ot q hq k HS (λw=>tH w) yK HA HC HZ HT).mono ?_;rintro e w' ⟨rfl,hg⟩;rw[hq]at hO;exact⟨_,_,hO,rfl,hg⟩
  .refine(aOp p mn mx aj f 0 a _ _ _ _ _ os oe oc oh ol of _ _ z _ ot q hq k HS (λw=>tH w) yK HA HC HZ HT).mono ?_;rintro e w' ⟨rfl,hg⟩;rw[hq]at hO;exact⟨_,_,hO,rfl,hg⟩
 .have HT:KR 357 #[jI (-9223372036854775808) 9223372036854775807,J os,aN ((N/18446744073709551616:Nat):Int) ((N%18446744073709551616:Nat):Int)] (.tuple #[.int .u64 z,.bool q]):=λw=>by
   have:=Rj os hos N hN w;rw[htw]at this;exact this
  cases hq:q
  .refine(aOt p mn mx aj f 1 a _ _ _ _ _ os oe oc oh ol of _ _ z _ ot q hq k HS (λw=>tu w) yK HA HC HZ HT).mono ?_;rintro e w' ⟨rfl,hg⟩;rw[hq]at hO;exact⟨_,_,hO,rfl,hg⟩
  .refine(aOo p mn mx aj f 1 a _ _ _ _ _ os oe oc oh ol of _ _ z _ ot q hq k HS (λw=>tu w) yK HA HC HZ HT).mono ?_;rintro e w' ⟨rfl,hg⟩;rw[hq]at hO;exact⟨_,_,hO,rfl,hg⟩
 .have HT:KR 359 #[.agg #[.int .u32 0,.int .u32 4294967295],J os,aN ((N/18446744073709551616:Nat):Int) ((N%18446744073709551616:Nat):Int)] (.tuple #[.int .u64 z,.bool q]):=λw=>by
   have:=Rf os hos N hN w;rw[htw]at this;exact this
  cases hq:q
  .refine(aOs p mn mx aj f 2 a _ _ _ _ _ os oe oc oh ol of _ _ z _ ot q hq k HS (λw=>tq w) yK HA HC HZ HT).mono ?_;rintro e w' ⟨rfl,hg⟩;rw[hq]at hO;exact⟨_,_,hO,rfl,hg⟩
  .refine(aOn p mn mx aj f 2 a _ _ _ _ _ os oe oc oh ol of _ _ z _ ot q hq k HS (λw=>tq w) yK HA HC HZ HT).mono ?_;rintro e w' ⟨rfl,hg⟩;rw[hq]at hO;exact⟨_,_,hO,rfl,hg⟩
 .have HT:KR 361 #[aN 0 18446744073709551615,J os,aN ((N/18446744073709551616:Nat):Int) ((N%18446744073709551616:Nat):Int)] (.tuple #[.int .u64 z,.bool q]):=λw=>by
   have:=Q8 os hos N hN w;rw[htw]at this;exact this
  cases hq:q
  .refine(aOr p mn mx aj f 3 a _ _ _ _ _ os oe oc oh ol of _ _ z _ ot q hq k HS (λw=>sZ w) yK HA HC HZ HT).mono ?_;rintro e w' ⟨rfl,hg⟩;rw[hq]at hO;exact⟨_,_,hO,rfl,hg⟩
  .refine(aOm p mn mx aj f 3 a _ _ _ _ _ os oe oc oh ol of _ _ z _ ot q hq k HS (λw=>sZ w) yK HA HC HZ HT).mono ?_;rintro e w' ⟨rfl,hg⟩;rw[hq]at hO;exact⟨_,_,hO,rfl,hg⟩
def WC(aF:Int):∃(kv:Value) (kb:Bool),(∀w,QR 186 #[J aF] w (.tuple #[kv,.bool kb]))/\(0<=aF/\aF<=3->kb=true)/\(¬(0<=aF/\aF<=3)->kb=Y/\kv=Value.nilIface):=by
 by_cases h:0<=aF/\aF<=3
 .rcases(om:aF=0\/aF=1\/aF=2\/aF=3)with rfl|rfl|rfl|rfl
  .exact⟨_,true,tH,λ_=>rfl,λh=>absurd om h⟩
  .exact⟨_,true,tu,λ_=>rfl,λh=>absurd om h⟩
  .exact⟨_,true,tq,λ_=>rfl,λh=>absurd om h⟩
  .exact⟨_,true,sZ,λ_=>rfl,λh=>absurd om h⟩
 .exact⟨_,Y,zS aF h,λh'=>absurd h' h,λ_=>⟨rfl,rfl⟩⟩
def qJ(f aj aF a:Int)(a0:0<=a)(a1:aG a)(w:World)(hw:Fm w):
  CT 94 #[J f,J aj,J aF,.int .u64 a] w λe w'=>∃Z fl,fU f aj aF a Z fl/\e=.returned (aP Z fl)/\Gr w w':=by
 obtain⟨kv,kb,HK,jB,hk0⟩:=WC aF;have bad:XZ f aj aF a->(wM f aj aF a w 0 1)->CT 94 #[J f,J aj,J aF,.int .u64 a] w λe w'=>∃Z fl,fU f aj aF a Z fl/\e=.returned (aP Z fl)/\Gr w w':=λhn h=>h.mono (λe w' ⟨h1,h2⟩=>⟨0,1,.inr ⟨hn,rfl,rfl⟩,h1,h2⟩);by_cases hf:f=0\/f=1
 .obtain⟨p,mx,one,aI,sg,nan,hF⟩:=eX f hf;obtain⟨mn,fb,sp,hM,zU,PD⟩:=hF.m;by_cases hm:0<=aj/\aj<=4
  .obtain⟨k,hk⟩:=kW aj hm.1 hm.2;have HS:Hid (∀w',Gr w w'->rV f aj w' p mn mx k true):=λaT dL=>dV hF hM aj k (λw=>gW aj k hk w) (hw.gr dL);by_cases Py:0<=aF/\aF<=3
   .obtain rfl:=jB Py;by_cases ha:a<2*sg
    .obtain⟨x,hx⟩:=eu hF a a0 a1;refine(S9 hF aj aF hm Py a0 a1 ha hx hw).mono ?_;rintro e w' ⟨Z,fl,h,rfl,hg⟩;exact⟨_,_,.inl ⟨p,mx,one,aI,sg,nan,x,hF,ha,hm,Py,hx,h⟩,rfl,hg⟩
    .refine bad (.inr (.inr (.inr ?_))) (aMg p mn mx aj f aj aF a k kv HS HK (λw=>?_))
     .rcases hF with⟨rfl,rfl,rfl,rfl,rfl,rfl,rfl⟩|⟨rfl,rfl,rfl,rfl,rfl,rfl,rfl⟩<;>omega
     .have:=fits_any hM a a0 a1 w;rw[decide_eq_false ha]at this;exact this
   .obtain⟨rfl,rfl⟩:=hk0 Py;exact bad (.inr (.inl Py)) (aMh p mn mx aj f aj aF a k HS HK)
  .exact bad (.inl hm) (aER p mn mx aj f aj aF a kv kb (λaT dL=>gJ hF hM aj (λw=>jR aj om w) (hw.gr dL)) HK)
 .exact bad (.inr (.inr (.inl hf))) (aER _ _ _ _ f aj aF a kv kb (λaT dL=>dP f aj hf (hw.gr dL)) HK)
def MZ(s:Int)(hs:s=0\/s=1)(K:Nat)(hK:K<=1000000)(N:Nat)(hN:aG N)(b k c:Nat)(w:World)(hB:aH K w (aC b k c) N):
  BD s b k c w (kV s N):=by
 refine Wv s (N:Int) _ ?_ b k c (λw' hg=>?_)
 .rcases hs with rfl|rfl
  .exact .inr ⟨rfl,(Dj N).symm⟩
  .exact .inl ⟨rfl,by rw[Int.zero_sub];exact vH N hN,vH N hN⟩
 .obtain⟨n,hn,hb⟩:=aH.gb hB hg;refine(Na hb om hN).mono ?_;rintro e aT ⟨rfl,dL⟩;exact⟨rfl,by first|exact dL|(subst dL;exact Gb.refl _)⟩
def aJ2(aF:Int)(h:0<=aF/\aF<=3):(rQ aF==0)=Y:=by
 rcases(om:aF=0\/aF=1\/aF=2\/aF=3)with rfl|rfl|rfl|rfl<;>decide
def aJ1(aF:Int)(h:¬(0<=aF/\aF<=3)):rQ aF=0:=by unfold rQ;rw[if_neg om,if_neg (by omega)]
def qF(f aj aF a:Int)(a0:0<=a)(a1:aG a)(w:World):
  CT 69 #[J f,J aj,J aF,.int .u64 a] w λe w'=>∃Z fl,fU f aj aF a Z fl/\e=.returned (aP Z fl)/\Gb w w':=by
 have bad:XZ f aj aF a->(yx f aj aF a w 0 1)->CT 69 #[J f,J aj,J aF,.int .u64 a] w λe w'=>∃Z fl,fU f aj aF a Z fl/\e=.returned (aP Z fl)/\Gb w w':=λhn h=>h.mono (λe w' ⟨h1,h2⟩=>⟨0,1,.inr ⟨hn,rfl,rfl⟩,h1,h2⟩);by_cases Py:0<=aF/\aF<=3
 .have HK:pI aF (rQ aF) (BL aF):=λw=>qj aF w;have zY:=aJ2 aF Py;by_cases hm:0<=aj/\aj<=4
  .have HY:lV aj true:=λw=>l7 aj true (by simp[hm]) w;by_cases hf:f=0\/f=1
   .obtain⟨p,mx,one,aI,sg,nan,hF⟩:=eX f hf;by_cases ha:a<2*sg
    .have yK:dZ f a true:=λw=>fO hF a a0 ha w;obtain⟨x,hx⟩:=eu hF a a0 a1;obtain⟨v1,v2,v3,v4,v5,v6⟩:=bK hF hx;have xc0:=v1.c0;have xc4:=v1.c4;have HU:=iH hF a a0 ha hx;have HQ:∀(b:Bool),b=decide (3<=x.c)->bQ x.c x.s x.e (((x.M:Nat):Int)) b:=λb hb w=>iF _ _ _ _ b hb w;have fin:∀Z fl,vw aj aF x Z fl->(yx f aj aF a w Z fl)->CT 69 #[J f,J aj,J aF,.int .u64 a] w λe w'=>∃Z fl,fU f aj aF a Z fl/\e=.returned (aP Z fl)/\Gb w w':=λZ fl hp h=>h.mono (λe w' ⟨h1,h2⟩=>⟨Z,fl,.inl ⟨p,mx,one,aI,sg,nan,x,hF,ha,hm,Py,hx,hp⟩,h1,h2⟩);have HM:∀s,s=0\/s=1->Hid (∀w,CT 134 #[J aF,J s] w (sV 20 (fH aF s) w)):=λs hs w=>M_ aF s hs w;have HW:∀s,s=0\/s=1->Hid (∀b k c w,aH 20 w (aC b k c) (fH aF s)->BD s b k c w (kV s (fH aF s))):=λs hs b k c w hB=>MZ s hs 20 om _ (DT aF s) b k c w hB;by_cases cn:3<=x.c
     .exact fin _ _ (.inl ⟨cn,rfl,rfl⟩) (YP f aj aF a _ _ _ _ _ _ _ _ zY HK HY yK HU (HQ true (by simp[cn])) (HM 0 (.inl rfl)) (HW 0 (.inl rfl)) w)
     .have hQ:=HQ Y jl;have I9:=HM x.s v1.jM;have hws:=HW x.s v1.jM;by_cases c2:x.c=2
      .exact fin _ _ (.inr (.inr ⟨om,.inl c2,rfl,rfl⟩)) (YQ f aj aF a _ _ _ _ _ _ _ _ zY HK HY yK HU hQ c2 I9 hws w)
      .by_cases far:200<x.e
       .refine fin _ _ (.inr (.inr ⟨om,.inr ?_,rfl,rfl⟩)) (YR f aj aF a _ _ _ _ _ _ _ _ zY HK HY yK HU hQ c2 (decide_eq_true far) I9 hws w);have yI:x.c=1:=by
         rcases(om:x.c=0\/x.c=1)with h|h
         .obtain⟨_,v,_,_,hz⟩:=xw hF a0 hx om;have:=hz (by omega);omega
         .exact h
        rw[sD (by omega)];have h1:=fZ (om:64<=x.e.toNat);have h3:(2:Nat)^64=18446744073709551616:=de;have h2:1*2^x.e.toNat<=x.M*2^x.e.toNat:=Nat.mul_le_mul_right _ (v1.fin yI).1;have:=DT aF x.s;omega
       .have HN:Hid (∀w,CT 144 #[d_ x.c x.s x.e (((x.M:Nat):Int))] w λe w'=>∃b k cc,aH 2 w' (aC b k cc) x.M/\e=.returned (.agg #[J x.s,aC b k cc,J x.e,.bool Y])/\Gb w w'):=λw=>lY _ _ _ x.M om w;have HWh:Hid (∀b k c w,aH 2 w (aC b k c) x.M->CT 157 #[J aj,.agg #[J x.s,aC b k c,J x.e,.bool Y]] w λe w'=>∃b k c,aH 70005 w' (aC b k c) (bV aj x)/\e=.returned (.tuple #[aC b k c,.bool (!iY x)])/\Gb w w'):=λb k c w hB=>IZ hF hx aj hm b k c w hB;have HC:Hid (∀v v' w,aH 70005 w v (bV aj x)->aH 20 w v' (fH aF x.s)->QB 133 #[v,v'] w (J (iK (bV aj x) (fH aF x.s)))):=λv v' w ⟨n,h1,h2⟩ ⟨n',h1',h2'⟩=>jD h2 om h2' om;have hX:iY x=true->x.c=1:=by
         intro h;rcases(om:x.c=0\/x.c=1)with hc|hc
         .obtain⟨_,v,_,_,hz⟩:=xw hF a0 hx om;rw[ET (x:=x) (by have:=hz (by omega);omega)]at h;cases h
         .exact hc
        by_cases rG:bV aj x<=fH aF x.s
        .have hd:decide (iK (bV aj x) (fH aF x.s)<=0)=true:=decide_eq_true (by unfold iK;split<;>(try split)<;>omega);have HWw:Hid (∀b k c w,aH 70005 w (aC b k c) (bV aj x)->BD x.s b k c w (kV x.s (bV aj x))):=λb k c w hB=>MZ x.s v1.jM 70005 om _ (by have:=DT aF x.s;omega) b k c w hB;cases hxx:iY x
         .refine fin _ _ (.inr (.inl ⟨om,rG,rfl,?_⟩)) (YO f aj aF a _ _ _ _ _ _ _ _ _ x.M _ _ (by rw[hxx];rfl) zY HK HY yK HU hQ c2 (decide_eq_false far) HN HWh I9 HC hd HWw w);unfold Jo;rw[hxx,if_neg (by simp)]
         .refine fin _ _ (.inr (.inl ⟨om,rG,rfl,?_⟩)) (YN f aj aF a _ _ _ _ _ _ _ _ _ x.M _ _ (by rw[hxx];rfl) zY HK HY yK HU hQ c2 (decide_eq_false far) HN HWh I9 HC hd HWw w);unfold Jo;rw[hxx,if_pos ⟨hX hxx,rfl⟩]
        .have hd:decide (iK (bV aj x) (fH aF x.s)<=0)=Y:=decide_eq_false (by unfold iK;rw[if_neg om,if_pos (by omega)];omega);exact fin _ _ (.inr (.inr ⟨om,.inr om,rfl,rfl⟩)) (YM f aj aF a _ _ _ _ _ _ _ _ _ x.M _ _ zY HK HY yK HU hQ c2 (decide_eq_false far) HN HWh I9 HC hd hws w)
    .have zT:f=0/\4294967296<=a:=by rcases hF with⟨rfl,rfl,rfl,rfl,rfl,rfl,rfl⟩|⟨rfl,rfl,rfl,rfl,rfl,rfl,rfl⟩<;>omega
     exact bad (.inr (.inr (.inr zT))) (Gz f aj aF a _ _ zY HK HY (λw=>iV f a a0 (.inr zT) w) w)
   .exact bad (.inr (.inr (.inl hf))) (Gz f aj aF a _ _ zY HK HY (λw=>iV f a a0 (.inl hf) w) w)
  .exact bad (.inl hm) (Vl f aj aF a _ _ zY HK (λw=>l7 aj Y jl w) w)
 .have hb:=aJ1 aF Py;exact bad (.inr (.inl Py)) (Vm f aj aF a (BL aF) (λw=>hb▸qj aF w) w)
def Yz(f aj aF a:Int)(a0:0<=a)(a1:aG a):
  ∃Z fl:Int,fU f aj aF a Z fl/\(∀w,yx f aj aF a w Z fl)/\
   (∀w,Fm w->wM f aj aF a w Z fl):=
 Es (λ_ _ _ _ h h'=>fU.one h h') (Dp f aj aF a a0 a1) (qF f aj aF a a0 a1) (qJ f aj aF a a0 a1)
