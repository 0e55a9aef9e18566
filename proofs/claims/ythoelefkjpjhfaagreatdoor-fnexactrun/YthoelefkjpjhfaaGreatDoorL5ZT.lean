import Derived.Test.YthoelefkjpjhfaaGreatDoorK7
set_option linter.all false
set_option maxHeartbeats 40000000
open Bool renaming false → Y
open Go.Proofs.YthoelefkjpjhfaaGreatDoor renaming vI → J
namespace Go.Proofs.YthoelefkjpjhfaaGreatDoor
open Go.RowKit
variable {f a p mx aN sg nan aj aG Z fl Z' qQ:Int}{w:ak}
def tw(aG s:Int)(N:Nat):Int × Bool:=if N<=gu aG s then(mO s N,true)else(mO s (gu aG s),Y)
def yA(N:Nat)(h:aI N):IntKind.u64.wrap (-(N:Int))=mO 1 N:=by
 rw[iT];unfold mO;by_cases c:N=0
 .subst c;rfl
 .rw[aQ ⟨rfl,c⟩];omega
def EN(N:Nat):mO 0 N=(N:Int):=by unfold mO;rw[aH (by simp)]
def Uj(s:Int)(hs:s=0\/s=1)(N:Nat)(hN:N<340282366920938463463374607431768211456)(w:ak):
  QR 354 #[.agg #[.int .i32 (-2147483648),.int .i32 2147483647],J s,aS ((N/18446744073709551616:Nat):Int) ((N%18446744073709551616:Nat):Int)] w (.tuple #[.int .u64 (tw 0 s N).1,.bool (tw 0 s N).2]):=by
 unfold tw;rcases hs with rfl|rfl
 .have hm:gu 0 0=2147483647:=de;have he:mO 0 (gu 0 0)=2147483647:=by rw[hm];decide
  rw[he,hm];by_cases c:N/18446744073709551616=0
  .by_cases c2:N<=2147483647
   .rw[aQ c2];have hl:N%18446744073709551616=N:=om;rw[hl,c];exact(EN N).symm ▸Ul _ _ rfl (gV om) w
   .rw[aH c2];exact QU _ _ om (h_ om) w
  .rw[aH (by omega)];exact QT _ _ jA w
 .have hm:gu 0 1=2147483648:=de;have he:mO 1 (gu 0 1)=18446744071562067968:=by rw[hm];decide
  rw[he,hm];by_cases c:N/18446744073709551616=0
  .by_cases c2:N<=2147483648
   .rw[aQ c2];have hl:N%18446744073709551616=N:=om;rw[hl,c];exact Uk _ _ _ rfl (gV om) (yA N om) w
   .rw[aH c2];exact QS _ _ om (h_ om) w
  .rw[aH (by omega)];exact QO _ _ jA w
def Ug(s:Int)(hs:s=0\/s=1)(N:Nat)(hN:N<340282366920938463463374607431768211456)(w:ak):
  QR 357 #[kV (-9223372036854775808) 9223372036854775807,J s,aS ((N/18446744073709551616:Nat):Int) ((N%18446744073709551616:Nat):Int)] w (.tuple #[.int .u64 (tw 1 s N).1,.bool (tw 1 s N).2]):=by
 unfold tw;rcases hs with rfl|rfl
 .have hm:gu 1 0=9223372036854775807:=de;have he:mO 0 (gu 1 0)=9223372036854775807:=by rw[hm];decide
  rw[he,hm];by_cases c:N/18446744073709551616=0
  .by_cases c2:N<=9223372036854775807
   .rw[aQ c2];have hl:N%18446744073709551616=N:=om;rw[hl,c];exact(EN N).symm ▸Ui _ _ rfl (gV om) w
   .rw[aH c2];exact QN _ _ om (h_ om) w
  .rw[aH (by omega)];exact QM _ _ jA w
 .have hm:gu 1 1=9223372036854775808:=de;have he:mO 1 (gu 1 1)=9223372036854775808:=by rw[hm];decide
  rw[he,hm];by_cases c:N/18446744073709551616=0
  .by_cases c2:N<=9223372036854775808
   .rw[aQ c2];have hl:N%18446744073709551616=N:=om;rw[hl,c];exact Uh _ _ _ rfl (gV om) (yA N om) w
   .rw[aH c2];exact QL _ _ om (h_ om) w
  .rw[aH (by omega)];exact QK _ _ jA w
def Ud(s:Int)(hs:s=0\/s=1)(N:Nat)(hN:N<340282366920938463463374607431768211456)(w:ak):
  QR 359 #[.agg #[.int .u32 0,.int .u32 4294967295],J s,aS ((N/18446744073709551616:Nat):Int) ((N%18446744073709551616:Nat):Int)] w (.tuple #[.int .u64 (tw 2 s N).1,.bool (tw 2 s N).2]):=by
 unfold tw;rcases hs with rfl|rfl
 .have hm:gu 2 0=4294967295:=de;have he:mO 0 (gu 2 0)=4294967295:=by rw[hm];decide
  rw[he,hm];by_cases c:N/18446744073709551616=0
  .by_cases c2:N<=4294967295
   .rw[aQ c2];have hl:N%18446744073709551616=N:=om;rw[hl,c];exact(EN N).symm ▸Uf _ _ rfl (gV om) w
   .rw[aH c2];exact QJ _ _ om (h_ om) w
  .rw[aH (by omega)];exact QI _ _ jA w
 .have hm:gu 2 1=0:=de;have he:mO 1 (gu 2 1)=0:=by rw[hm];decide
  rw[he,hm];by_cases c:N/18446744073709551616=0
  .by_cases c2:N<=0
   .rw[aQ c2];have hl:N%18446744073709551616=N:=om;rw[hl,c];exact Ue _ _ _ rfl (gV om) (yA N om) w
   .rw[aH c2];exact QH _ _ om (h_ om) w
  .rw[aH (by omega)];exact QG _ _ jA w
def Ua(s:Int)(hs:s=0\/s=1)(N:Nat)(hN:N<340282366920938463463374607431768211456)(w:ak):
  QR 361 #[aS 0 18446744073709551615,J s,aS ((N/18446744073709551616:Nat):Int) ((N%18446744073709551616:Nat):Int)] w (.tuple #[.int .u64 (tw 3 s N).1,.bool (tw 3 s N).2]):=by
 unfold tw;rcases hs with rfl|rfl
 .have hm:gu 3 0=18446744073709551615:=de;have he:mO 0 (gu 3 0)=18446744073709551615:=by rw[hm];decide
  rw[he,hm];by_cases c:N/18446744073709551616=0
  .by_cases c2:N<=18446744073709551615
   .rw[aQ c2];have hl:N%18446744073709551616=N:=om;rw[hl,c];exact(EN N).symm ▸Uc _ _ rfl (gV om) w
   .rw[aH c2];exact QF _ _ om (h_ om) w
  .rw[aH (by omega)];exact QE _ _ jA w
 .have hm:gu 3 1=0:=de;have he:mO 1 (gu 3 1)=0:=by rw[hm];decide
  rw[he,hm];by_cases c:N/18446744073709551616=0
  .by_cases c2:N<=0
   .rw[aQ c2];have hl:N%18446744073709551616=N:=om;rw[hl,c];exact Ub _ _ _ rfl (gV om) (yA N om) w
   .rw[aH c2];exact QD _ _ om (h_ om) w
  .rw[aH (by omega)];exact QC _ _ jA w
def yj(aj aG:Int)(x:d_)(Z fl:Int):Prop:=
 3<=x.c/\Z=mO 0 (gu aG 0)/\fl=1\/
 x.c<=1/\cu aj x<=gu aG x.s/\Z=mO x.s (cu aj x)/\fl=KY x\/
 x.c<=2/\(x.c=2\/gu aG x.s<cu aj x)/\Z=mO x.s (gu aG x.s)/\fl=1
def ZA(f aj aG a:Int):Prop:=¬(0<=aj/\aj<=4)\/¬(0<=aG/\aG<=3)\/¬(f=0\/f=1)\/f=0/\4294967296<=a
def gU(f aj aG a Z fl:Int):Prop:=
 (∃p mx one aN sg nan x,bI f p mx one aN sg nan/\a<2*sg/\(0<=aj/\aj<=4)/\(0<=aG/\aG<=3)/\dO p mx one aN sg nan a x/\yj aj aG x Z fl)\/ZA f aj aG a/\Z=0/\fl=1
def yj.one{x:d_}(hx:0<=x.c)(h:yj aj aG x Z fl)(h':yj aj aG x Z' qQ):Z=Z'/\fl=qQ:=by
 rcases h with⟨c,rfl,rfl⟩|⟨c,d,rfl,rfl⟩|⟨c,d,rfl,rfl⟩<;>rcases h' with⟨c',rfl,rfl⟩|⟨c',d',rfl,rfl⟩|⟨c',d',rfl,rfl⟩<;>first|exact⟨rfl,rfl⟩|(exfalso;omega)
def X6{one:Int}(h:bI f p mx one aN sg nan)(ha:a<2*sg):¬(¬(f=0\/f=1)\/f=0/\4294967296<=a):=by
 rcases h with⟨rfl,rfl,rfl,rfl,rfl,rfl,rfl⟩|⟨rfl,rfl,rfl,rfl,rfl,rfl,rfl⟩<;>omega
def gU.one(h:gU f aj aG a Z fl)(h':gU f aj aG a Z' qQ):Z=Z'/\fl=qQ:=by
 rcases h with⟨p,mx,one,aN,sg,nan,x,hF,ha,hm,hk,hx,hp⟩|⟨hn,rfl,rfl⟩<;>
 rcases h' with⟨p',zq,rX,r_,GK,rY,x',oC,ha',KD,EI,O8,SY⟩|⟨EH,rfl,rfl⟩
 .obtain⟨rfl,rfl,rfl,rfl,rfl,rfl⟩:=hF.one oC;obtain rfl:=hx.one hF O8;exact yj.one (bU hF hx).1.c0 hp SY
 .have:=X6 hF ha;unfold ZA at EH;exfalso;rcases EH with h|h|h<;>first|exact h hm|exact h hk|exact this h
 .have:=X6 oC ha';unfold ZA at hn;exfalso;rcases hn with h|h|h<;>first|exact h KD|exact h EI|exact this h
 .exact⟨rfl,rfl⟩
def ES(f aj aG a:Int)(a0:0<=a)(a1:aI a):∃Z fl,gU f aj aG a Z fl:=by
 by_cases hn:ZA f aj aG a
 .exact⟨_,_,.inr ⟨hn,rfl,rfl⟩⟩
 .unfold ZA at hn;have hm:0<=aj/\aj<=4:=om;have hk:0<=aG/\aG<=3:=om;have hf:f=0\/f=1:=om;obtain⟨p,mx,one,aN,sg,nan,hF⟩:=fQ f hf;have ha:a<2*sg:=by rcases hF with⟨rfl,rfl,rfl,rfl,rfl,rfl,rfl⟩|⟨rfl,rfl,rfl,rfl,rfl,rfl,rfl⟩<;>omega
  obtain⟨x,hx⟩:=fH hF a a0 a1;have c0:=(bU hF hx).1.c0;have fin:∀Z fl,yj aj aG x Z fl->∃Z fl,gU f aj aG a Z fl:=λZ fl h=>⟨Z,fl,.inl ⟨p,mx,one,aN,sg,nan,x,hF,ha,hm,hk,hx,h⟩⟩;by_cases c:3<=x.c
  .exact fin _ _ (.inl ⟨c,rfl,rfl⟩)
  .by_cases d:x.c=2\/gu aG x.s<cu aj x
   .exact fin _ _ (.inr (.inr ⟨om,d,rfl,rfl⟩))
   .exact fin _ _ (.inr (.inl ⟨om,om,rfl,rfl⟩))
def aQi(M:Nat)(n:Nat)(hM:M<340282366920938463463374607431768211456)(hn:n<=128)(h:M*2^n<340282366920938463463374607431768211456)(w:ak):
  QR 256 #[iK M,J n] w (iK (M*2^n)):=by
 have e0:((M/18446744073709551616:Nat):Int)*18446744073709551616+((M%18446744073709551616:Nat):Int)=(M:Int):=om;have hk:(bnd (n:Int)).toNat =n:=by unfold bnd;rw[aH om,aH (by omega)];simp
 refine(xJ _ _ (n:Int) om om om om w).mono ?_;rintro e w' ⟨rfl,hg⟩;refine⟨Si ?_ ?_,hg⟩
 .unfold tu;rw[hk,e0,cast_mul];omega
 .unfold tq;rw[hk,e0,cast_mul];omega
def Rz{one:Int}(hF:bI f p mx one aN sg nan)(mn aj:Int)(hm:0<=aj/\aj<=4)(k:Nat)(hk:zT aj k)(a0:0<=a){x:d_}(hx:dO p mx one aN sg nan a x):
  ∃(os oe oc oh ol of:Int) (ot:Bool) (N:Nat),(∀w,QR 173 #[eu p mn mx aj k,.func (.func 188) #[] #[],bP x.s x.e x.c (((x.M/18446744073709551616:Nat):Int)) (((x.M%18446744073709551616:Nat):Int)) Y 0,bP x.s x.e x.c (((x.M/18446744073709551616:Nat):Int)) (((x.M%18446744073709551616:Nat):Int)) Y 0] w (bP os oe oc oh ol ot of))/\
   (∀w,QR 189 #[bP os oe oc oh ol ot of] w (aS ((N/18446744073709551616:Nat):Int) ((N%18446744073709551616:Nat):Int)))/\N<340282366920938463463374607431768211456/\(os=0\/os=1)/\
   (3<=x.c/\os=0/\N=18446744073709551616\/x.c=2/\os=x.s/\N=18446744073709551616\/x.c<=1/\os=x.s/\of=KY x/\(N=cu aj x\/18446744073709551616<=N/\18446744073709551616<=cu aj x)):=by
 obtain⟨v1,v2,v3,v4,v5,v6⟩:=bU hF hx;have hb:=hF.bounds;have xc0:=v1.c0;have xc4:=v1.c4;have aLx:(18446744073709551616:Nat)/18446744073709551616=1/\(18446744073709551616:Nat)%18446744073709551616=0:=de;by_cases cn:3<=x.c
 .refine⟨0,0,x.c,0,0,0,Y,18446744073709551616,λw=>kS p mn mx aj k _ _ _ _ _ _ _ _ _ _ _ _ _ x.c om cn w,λw=>?_,de,.inl rfl,.inl ⟨cn,rfl,rfl⟩⟩;rw[aLx.1,aLx.2];exact Xf 0 0 x.c 0 0 0 Y (h_ om) w
 .have comb:∀os oe oc oh ol ot of,(∀w,Zw p mn mx aj k x.s x.e x.c (((x.M/18446744073709551616:Nat):Int)) (((x.M%18446744073709551616:Nat):Int)) Y 0 x.s x.e x.c (((x.M/18446744073709551616:Nat):Int)) (((x.M%18446744073709551616:Nat):Int)) Y 0 w os oe oc oh ol ot of)->∀w,QR 173 #[eu p mn mx aj k,.func (.func 188) #[] #[],bP x.s x.e x.c (((x.M/18446744073709551616:Nat):Int)) (((x.M%18446744073709551616:Nat):Int)) Y 0,bP x.s x.e x.c (((x.M/18446744073709551616:Nat):Int)) (((x.M%18446744073709551616:Nat):Int)) Y 0] w (bP os oe oc oh ol ot of):=by
   intro os oe oc oh ol ot of h w;refine(z_ p mn mx aj k _ _ _ _ _ _ _ _ _ _ _ _ x.c om om (λa b c d e f g=>a=os/\b=oe/\c=oc/\d=oh/\e=ol/\f=ot/\g=of) (λw=>(h w).mono (λe w' ⟨h1,h2⟩=>⟨_,_,_,_,_,_,_,⟨rfl,rfl,rfl,rfl,rfl,rfl,rfl⟩,h1,h2⟩)) w).mono ?_;rintro e w' ⟨_,_,_,_,_,_,_,⟨rfl,rfl,rfl,rfl,rfl,rfl,rfl⟩,rfl,hg⟩;exact⟨rfl,hg⟩
  by_cases c2:x.c=2
  .refine⟨x.s,x.e,x.c,_,_,0,Y,18446744073709551616,comb _ _ _ _ _ _ _ (λw=>GZ p mn mx aj k _ _ _ _ _ _ _ _ _ _ _ _ (by simp[c2]) w),λw=>?_,de,v1.lD,.inr (.inl ⟨c2,rfl,rfl⟩)⟩;rw[aLx.1,aLx.2];exact Xf _ _ _ _ _ _ _ (h_ om) w
  .by_cases hn:x.c=1/\x.e<0
   .obtain⟨c,e⟩:=hn;have hl:=(rO hF hx aj c e).1;have HR:∀b:Bool,decide (0<bH x.M x.e 0 Y)=b->KQ k (0-x.e) x.s ((x.M/18446744073709551616:Nat):Int) ((x.M%18446744073709551616:Nat):Int) Y ((cu aj x:Nat):Int) b:=λb Dq w=>Dq▸wW aj k hk x.s v1.lD x.M om x.e 0 (0-x.e) Y rfl om om (λ_=>rfl) (by
      have h1:=(mF aj x.s (dH x.M x.e 0) (bH x.M x.e 0 Y)).1;unfold cu at hl;omega) w
    have hn:wrap64 (-x.e)=0-x.e:=by
     rw[(om:-x.e=0-x.e)];unfold wrap64;omega
    have ce:decide (0<=x.e)=Y:=jA;have qY:∀fl w,QR 189 #[bP x.s 0 1 0 (((cu aj x:Nat):Int)) Y fl] w (aS ((cu aj x/18446744073709551616:Nat):Int) ((cu aj x%18446744073709551616:Nat):Int)):=by
     intro fl w;have h0:=aQi (cu aj x) 0 om om om;unfold iK at h0;rw[wP,kW,(om:cu aj x/18446744073709551616=0),(om:cu aj x%18446744073709551616=cu aj x)]at h0;rw[(om:cu aj x/18446744073709551616=0),(om:cu aj x%18446744073709551616=cu aj x)];exact Xe _ 0 1 _ _ fl 0 _ _ Y de de (λw=>h0 w) w
    by_cases hh:0<bH x.M x.e 0 Y
    .refine⟨x.s,0,1,0,_,16,Y,cu aj x,comb _ _ _ _ _ _ _ (λw=>RS p mn mx aj k _ _ _ _ _ _ _ _ _ _ _ _ (0-x.e) _ c ce hn (HR true (by simp[hh])) w),qY 16,om,v1.lD,.inr (.inr ⟨om,rfl,?_,.inl rfl⟩)⟩;unfold KY jJ;rw[aQ ⟨c,by simp[hh]⟩]
    .refine⟨x.s,0,1,0,_,0,Y,cu aj x,comb _ _ _ _ _ _ _ (λw=>RU p mn mx aj k _ _ _ _ _ _ _ _ _ _ _ _ (0-x.e) _ c ce hn (HR Y (by simp[hh])) w),qY 0,om,v1.lD,.inr (.inr ⟨om,rfl,?_,.inl rfl⟩)⟩;unfold KY jJ;rw[aH (by simp[hh])]
   .have he:0<=x.e:=by
     by_cases c:x.c=1
     .omega
     .obtain⟨_,v,_,_,hz⟩:=zD hF a0 hx om;have:=hz c;omega
    have hw:=uY (aj:=aj) he;obtain⟨n,hnn⟩:∃n:Nat,min x.e 64=(n:Int):=⟨(min x.e 64).toNat,om⟩;have aOW:n<=64:=om;have fJ:x.M*2^n<340282366920938463463374607431768211456:=by
     have h1:=gZ aOW;have h2:x.M*2^n<=x.M*2^64:=Fh _ h1;have h3:(2:Nat)^64=18446744073709551616:=de;rw[h3]at h2;omega
    refine⟨x.s,x.e,x.c,_,_,0,Y,x.M*2^n,comb _ _ _ _ _ _ _ (λw=>?_),λw=>Xe _ _ _ _ _ _ (n:Int) _ _ _ (gV om) hnn (λw=>aQi x.M n om om fJ w) w,fJ,v1.lD,.inr (.inr ⟨om,rfl,(AO (a:=a) hF hn).symm,?_⟩)⟩
    .by_cases c:x.c=1
     .refine(RV p mn mx aj k _ _ _ _ _ _ _ _ _ _ _ _ c jA w).mono ?_;rintro r w' ⟨rfl,hg⟩;exact⟨by rw[c],hg⟩
     .exact GZ p mn mx aj k _ _ _ _ _ _ _ _ _ _ _ _ (by simp[c]) w
    .rw[hw];by_cases c64:x.e<=64
     .left;rw[(om:x.e.toNat=n)]
     .have hnE:n=64:=om;rcases jL x.M with m0|m0
      .left;rw[m0];simp
      .right;subst hnE;have h3:(2:Nat)^64=18446744073709551616:=de;have h1:=gZ (om:64<=x.e.toNat);have h2:x.M*2^64<=x.M*2^x.e.toNat:=Fh _ h1;rw[h3]at h2⊢
       omega
def Vj{one:Int}(hF:bI f p mx one aN sg nan)(aj aG:Int)(hm:0<=aj/\aj<=4)(Rl:0<=aG/\aG<=3)(a0:0<=a)(a1:aI a)(ha:a<2*sg){x:d_}(hx:dO p mx one aN sg nan a x)(hw:Fm w):
  CT 94 #[J f,J aj,J aG,.int .u64 a] w λe w'=>∃Z fl,yj aj aG x Z fl/\e=.returned (aU Z fl)/\Gr w w':=by
 obtain⟨mn,fb,sp,hM,Ce,Ru⟩:=hF.m;obtain⟨k,hk⟩:=mP aj hm.1 hm.2;obtain⟨x',O8,HA⟩:=jP hF hM a a0 a1;obtain rfl:=hx.one hF O8;have xc0:=(bU hF hx).1.c0;obtain⟨os,oe,oc,oh,ol,of,ot,N,HC,HZ,hN,hos,Td⟩:=Rz hF mn aj hm k hk a0 hx;have HS:Hid (∀w',Gr w w'->uO f aj w' p mn mx k true):=λbf dY=>eX hF hM aj k (λw=>iI aj k hk w) (hw.gr dY);have AL:IQ p mn mx a true:=λw=>by
  have:=fits_any hM a a0 a1 w;rw[h_ ha]at this;exact this
 have hl0:=Fq aG os;have fin:∀(q:Bool) (z:Int),tw aG os N=(z,q)->yj aj aG x z (if q then of else 1):=by
  intro q z htw;unfold tw at htw;by_cases c:N<=gu aG os
  .rw[aQ c]at htw;injection htw with h1 h2;subst h1 h2;rcases Td with⟨_,_,rfl⟩|⟨_,_,rfl⟩|⟨c1,rfl,rfl,hw|⟨hw,_⟩⟩
   .omega
   .omega
   .rw[hw]at c⊢
    exact .inr (.inl ⟨c1,c,rfl,rfl⟩)
   .omega
  .rw[aH c]at htw;injection htw with h1 h2;subst h1 h2;rcases Td with⟨c3,rfl,rfl⟩|⟨c2,rfl,rfl⟩|⟨c1,rfl,rfl,hw|⟨_,hw⟩⟩
   .exact .inl ⟨c3,rfl,rfl⟩
   .exact .inr (.inr ⟨om,.inl c2,rfl,rfl⟩)
   .exact .inr (.inr ⟨om,.inr om,rfl,rfl⟩)
   .exact .inr (.inr ⟨om,.inr om,rfl,rfl⟩)
 obtain⟨⟨z,q⟩,htw⟩:∃r,tw aG os N=r:=⟨_,rfl⟩;have hO:=fin q z htw;rcases(om:aG=0\/aG=1\/aG=2\/aG=3)with rfl|rfl|rfl|rfl
 .have HT:KR 354 #[.agg #[.int .i32 (-2147483648),.int .i32 2147483647],J os,iK N] (.tuple #[.int .u64 z,.bool q]):=λw=>by
   have:=Uj os hos N hN w;rw[htw]at this;exact this
  cases hq:q
  .refine(aQf p mn mx aj f 0 a _ _ _ _ _ os oe oc oh ol of _ _ z _ ot q hq k HS (λw=>vY w) AL HA HC HZ HT).mono ?_;rintro e w' ⟨rfl,hg⟩;rw[hq]at hO;exact⟨_,_,hO,rfl,hg⟩
  .refine(aQa p mn mx aj f 0 a _ _ _ _ _ os oe oc oh ol of _ _ z _ ot q hq k HS (λw=>vY w) AL HA HC HZ HT).mono ?_;rintro e w' ⟨rfl,hg⟩;rw[hq]at hO;exact⟨_,_,hO,rfl,hg⟩
 .have HT:KR 357 #[kV (-9223372036854775808) 9223372036854775807,J os,iK N] (.tuple #[.int .u64 z,.bool q]):=λw=>by
   have:=Ug os hos N hN w;rw[htw]at this;exact this
  cases hq:q
  .refine(aQe p mn mx aj f 1 a _ _ _ _ _ os oe oc oh ol of _ _ z _ ot q hq k HS (λw=>vX w) AL HA HC HZ HT).mono ?_;rintro e w' ⟨rfl,hg⟩;rw[hq]at hO;exact⟨_,_,hO,rfl,hg⟩
  .refine(aP9 p mn mx aj f 1 a _ _ _ _ _ os oe oc oh ol of _ _ z _ ot q hq k HS (λw=>vX w) AL HA HC HZ HT).mono ?_;rintro e w' ⟨rfl,hg⟩;rw[hq]at hO;exact⟨_,_,hO,rfl,hg⟩
 .have HT:KR 359 #[.agg #[.int .u32 0,.int .u32 4294967295],J os,iK N] (.tuple #[.int .u64 z,.bool q]):=λw=>by
   have:=Ud os hos N hN w;rw[htw]at this;exact this
  cases hq:q
  .refine(aQd p mn mx aj f 2 a _ _ _ _ _ os oe oc oh ol of _ _ z _ ot q hq k HS (λw=>vW w) AL HA HC HZ HT).mono ?_;rintro e w' ⟨rfl,hg⟩;rw[hq]at hO;exact⟨_,_,hO,rfl,hg⟩
  .refine(aP8 p mn mx aj f 2 a _ _ _ _ _ os oe oc oh ol of _ _ z _ ot q hq k HS (λw=>vW w) AL HA HC HZ HT).mono ?_;rintro e w' ⟨rfl,hg⟩;rw[hq]at hO;exact⟨_,_,hO,rfl,hg⟩
 .have HT:KR 361 #[aS 0 18446744073709551615,J os,iK N] (.tuple #[.int .u64 z,.bool q]):=λw=>by
   have:=Ua os hos N hN w;rw[htw]at this;exact this
  cases hq:q
  .refine(aQc p mn mx aj f 3 a _ _ _ _ _ os oe oc oh ol of _ _ z _ ot q hq k HS (λw=>vV w) AL HA HC HZ HT).mono ?_;rintro e w' ⟨rfl,hg⟩;rw[hq]at hO;exact⟨_,_,hO,rfl,hg⟩
  .refine(aP7 p mn mx aj f 3 a _ _ _ _ _ os oe oc oh ol of _ _ z _ ot q hq k HS (λw=>vV w) AL HA HC HZ HT).mono ?_;rintro e w' ⟨rfl,hg⟩;rw[hq]at hO;exact⟨_,_,hO,rfl,hg⟩
def Yl(aG:Int):∃(kv:Value) (kb:Bool),(∀w,QR 186 #[J aG] w (.tuple #[kv,.bool kb]))/\(0<=aG/\aG<=3->kb=true)/\(¬(0<=aG/\aG<=3)->kb=Y/\kv=Value.nilIface):=by
 by_cases h:0<=aG/\aG<=3
 .rcases(om:aG=0\/aG=1\/aG=2\/aG=3)with rfl|rfl|rfl|rfl
  .exact⟨_,true,vY,λ_=>rfl,λh=>bG om h⟩
  .exact⟨_,true,vX,λ_=>rfl,λh=>bG om h⟩
  .exact⟨_,true,vW,λ_=>rfl,λh=>bG om h⟩
  .exact⟨_,true,vV,λ_=>rfl,λh=>bG om h⟩
 .exact⟨_,Y,B_ aG h,λh'=>bG h' h,λ_=>⟨rfl,rfl⟩⟩
def sU(f aj aG a:Int)(a0:0<=a)(a1:aI a)(w:ak)(hw:Fm w):
  CT 94 #[J f,J aj,J aG,.int .u64 a] w λe w'=>∃Z fl,gU f aj aG a Z fl/\e=.returned (aU Z fl)/\Gr w w':=by
 obtain⟨kv,kb,HK,kF,hk0⟩:=Yl aG;have bad:ZA f aj aG a->(zk f aj aG a w 0 1)->CT 94 #[J f,J aj,J aG,.int .u64 a] w λe w'=>∃Z fl,gU f aj aG a Z fl/\e=.returned (aU Z fl)/\Gr w w':=λhn h=>h.mono (λe w' ⟨h1,h2⟩=>⟨0,1,.inr ⟨hn,rfl,rfl⟩,h1,h2⟩);by_cases hf:f=0\/f=1
 .obtain⟨p,mx,one,aN,sg,nan,hF⟩:=fQ f hf;obtain⟨mn,fb,sp,hM,Ce,Ru⟩:=hF.m;by_cases hm:0<=aj/\aj<=4
  .obtain⟨k,hk⟩:=mP aj hm.1 hm.2;have HS:Hid (∀w',Gr w w'->uO f aj w' p mn mx k true):=λbf dY=>eX hF hM aj k (λw=>iI aj k hk w) (hw.gr dY);by_cases Rl:0<=aG/\aG<=3
   .obtain rfl:=kF Rl;by_cases ha:a<2*sg
    .obtain⟨x,hx⟩:=fH hF a a0 a1;refine(Vj hF aj aG hm Rl a0 a1 ha hx hw).mono ?_;rintro e w' ⟨Z,fl,h,rfl,hg⟩;exact⟨_,_,.inl ⟨p,mx,one,aN,sg,nan,x,hF,ha,hm,Rl,hx,h⟩,rfl,hg⟩
    .refine bad (.inr (.inr (.inr ?_))) (aNQ p mn mx aj f aj aG a k kv HS HK (λw=>?_))
     .rcases hF with⟨rfl,rfl,rfl,rfl,rfl,rfl,rfl⟩|⟨rfl,rfl,rfl,rfl,rfl,rfl,rfl⟩<;>omega
     .have:=fits_any hM a a0 a1 w;rw[gV ha]at this;exact this
   .obtain⟨rfl,rfl⟩:=hk0 Rl;exact bad (.inr (.inl Rl)) (aNR p mn mx aj f aj aG a k HS HK)
  .exact bad (.inl hm) (aGi p mn mx aj f aj aG a kv kb (λbf dY=>iC hF hM aj (λw=>lG aj om w) (hw.gr dY)) HK)
 .exact bad (.inr (.inr (.inl hf))) (aGi _ _ _ _ f aj aG a kv kb (λbf dY=>eG f aj hf (hw.gr dY)) HK)
def OW(s:Int)(hs:s=0\/s=1)(K:Nat)(hK:K<=1000000)(N:Nat)(hN:aI N)(b k c:Nat)(w:ak)(hB:aK K w (aF b k c) N):
  DR s b k c w (mO s N):=by
 refine Yg s (N:Int) _ ?_ b k c (λw' hg=>?_)
 .rcases hs with rfl|rfl
  .exact .inr ⟨rfl,(EN N).symm⟩
  .exact .inl ⟨rfl,by rw[Int.zero_sub];exact yA N hN,yA N hN⟩
 .obtain⟨n,hn,hb⟩:=aK.gb hB hg;refine(OY hb om hN).mono ?_;rintro e bf ⟨rfl,dY⟩;exact⟨rfl,by first|exact dY|(subst dY;exact Gb.refl _)⟩
def aLw(aG:Int)(h:0<=aG/\aG<=3):(uM aG==0)=Y:=by
 rcases(om:aG=0\/aG=1\/aG=2\/aG=3)with rfl|rfl|rfl|rfl<;>decide
def aLv(aG:Int)(h:¬(0<=aG/\aG<=3)):uM aG=0:=by unfold uM;rw[aH om,aH (by omega)]
def sO(f aj aG a:Int)(a0:0<=a)(a1:aI a)(w:ak):
  CT 69 #[J f,J aj,J aG,.int .u64 a] w λe w'=>∃Z fl,gU f aj aG a Z fl/\e=.returned (aU Z fl)/\Gb w w':=by
 have bad:ZA f aj aG a->(Ae f aj aG a w 0 1)->CT 69 #[J f,J aj,J aG,.int .u64 a] w λe w'=>∃Z fl,gU f aj aG a Z fl/\e=.returned (aU Z fl)/\Gb w w':=λhn h=>h.mono (λe w' ⟨h1,h2⟩=>⟨0,1,.inr ⟨hn,rfl,rfl⟩,h1,h2⟩);by_cases Rl:0<=aG/\aG<=3
 .have HK:rG aG (uM aG) (DZ aG):=λw=>rZ aG w;have Cm:=aLw aG Rl;by_cases hm:0<=aj/\aj<=4
  .have HY:nV aj true:=λw=>n_ aj true (by simp[hm]) w;by_cases hf:f=0\/f=1
   .obtain⟨p,mx,one,aN,sg,nan,hF⟩:=fQ f hf;by_cases ha:a<2*sg
    .have AL:fF f a true:=λw=>gJ hF a a0 ha w;obtain⟨x,hx⟩:=fH hF a a0 a1;obtain⟨v1,v2,v3,v4,v5,v6⟩:=bU hF hx;have xc0:=v1.c0;have xc4:=v1.c4;have HU:=ji hF a a0 ha hx;have HQ:∀(b:Bool),b=decide (3<=x.c)->bY x.c x.s x.e (((x.M:Nat):Int)) b:=λb hb w=>jf _ _ _ _ b hb w;have fin:∀Z fl,yj aj aG x Z fl->(Ae f aj aG a w Z fl)->CT 69 #[J f,J aj,J aG,.int .u64 a] w λe w'=>∃Z fl,gU f aj aG a Z fl/\e=.returned (aU Z fl)/\Gb w w':=λZ fl hp h=>h.mono (λe w' ⟨h1,h2⟩=>⟨Z,fl,.inl ⟨p,mx,one,aN,sg,nan,x,hF,ha,hm,Rl,hx,hp⟩,h1,h2⟩);have HM:∀s,s=0\/s=1->Hid (∀w,CT 134 #[J aG,J s] w (vO 20 (gu aG s) w)):=λs hs w=>OX aG s hs w;have HW:∀s,s=0\/s=1->Hid (∀b k c w,aK 20 w (aF b k c) (gu aG s)->DR s b k c w (mO s (gu aG s))):=λs hs b k c w hB=>OW s hs 20 om _ (Fq aG s) b k c w hB;by_cases cn:3<=x.c
     .exact fin _ _ (.inl ⟨cn,rfl,rfl⟩) (aAy f aj aG a _ _ _ _ _ _ _ _ Cm HK HY AL HU (HQ true (by simp[cn])) (HM 0 (.inl rfl)) (HW 0 (.inl rfl)) w)
     .have hQ:=HQ Y jA;have KC:=HM x.s v1.lD;have hws:=HW x.s v1.lD;by_cases c2:x.c=2
      .exact fin _ _ (.inr (.inr ⟨om,.inl c2,rfl,rfl⟩)) (aAz f aj aG a _ _ _ _ _ _ _ _ Cm HK HY AL HU hQ c2 KC hws w)
      .by_cases far:200<x.e
       .refine fin _ _ (.inr (.inr ⟨om,.inr ?_,rfl,rfl⟩)) (aAA f aj aG a _ _ _ _ _ _ _ _ Cm HK HY AL HU hQ c2 (h_ far) KC hws w);have AA:x.c=1:=by
         rcases(om:x.c=0\/x.c=1)with h|h
         .obtain⟨_,v,_,_,hz⟩:=zD hF a0 hx om;have:=hz (by omega);omega
         .exact h
        rw[uY (by omega)];have h1:=gZ (om:64<=x.e.toNat);have h3:(2:Nat)^64=18446744073709551616:=de;have h2:1*2^x.e.toNat<=x.M*2^x.e.toNat:=Nat.mul_le_mul_right _ (v1.fin AA).1;have:=Fq aG x.s;omega
       .have HN:Hid (∀w,CT 144 #[fG x.c x.s x.e (((x.M:Nat):Int))] w λe w'=>∃b k cc,aK 2 w' (aF b k cc) x.M/\e=.returned (.agg #[J x.s,aF b k cc,J x.e,.bool Y])/\Gb w w'):=λw=>nY _ _ _ x.M om w;have HWh:Hid (∀b k c w,aK 2 w (aF b k c) x.M->CT 157 #[J aj,.agg #[J x.s,aF b k c,J x.e,.bool Y]] w λe w'=>∃b k c,aK 70005 w' (aF b k c) (cu aj x)/\e=.returned (.tuple #[aF b k c,.bool (!jJ x)])/\Gb w w'):=λb k c w hB=>Kv hF hx aj hm b k c w hB;have HC:Hid (∀v v' w,aK 70005 w v (cu aj x)->aK 20 w v' (gu aG x.s)->QB 133 #[v,v'] w (J (jl (cu aj x) (gu aG x.s)))):=λv v' w ⟨n,h1,h2⟩ ⟨n',h1',h2'⟩=>kM h2 om h2' om;have hX:jJ x=true->x.c=1:=by
         intro h;rcases(om:x.c=0\/x.c=1)with hc|hc
         .obtain⟨_,v,_,_,hz⟩:=zD hF a0 hx om;rw[GY (x:=x) (by have:=hz (by omega);omega)]at h;cases h
         .exact hc
        by_cases uz:cu aj x<=gu aG x.s
        .have hd:decide (jl (cu aj x) (gu aG x.s)<=0)=true:=h_ (by unfold jl;split<;>(try split)<;>omega);have HWw:Hid (∀b k c w,aK 70005 w (aF b k c) (cu aj x)->DR x.s b k c w (mO x.s (cu aj x))):=λb k c w hB=>OW x.s v1.lD 70005 om _ (by have:=Fq aG x.s;omega) b k c w hB;cases hxx:jJ x
         .refine fin _ _ (.inr (.inl ⟨om,uz,rfl,?_⟩)) (aAx f aj aG a _ _ _ _ _ _ _ _ _ x.M _ _ (by rw[hxx];rfl) Cm HK HY AL HU hQ c2 (gV far) HN HWh KC HC hd HWw w);unfold KY;rw[hxx,aH (by simp)]
         .refine fin _ _ (.inr (.inl ⟨om,uz,rfl,?_⟩)) (aAw f aj aG a _ _ _ _ _ _ _ _ _ x.M _ _ (by rw[hxx];rfl) Cm HK HY AL HU hQ c2 (gV far) HN HWh KC HC hd HWw w);unfold KY;rw[hxx,aQ ⟨hX hxx,rfl⟩]
        .have hd:decide (jl (cu aj x) (gu aG x.s)<=0)=Y:=gV (by unfold jl;rw[aH om,aQ (by omega)];omega);exact fin _ _ (.inr (.inr ⟨om,.inr om,rfl,rfl⟩)) (aAv f aj aG a _ _ _ _ _ _ _ _ _ x.M _ _ Cm HK HY AL HU hQ c2 (gV far) HN HWh KC HC hd hws w)
    .have Cc:f=0/\4294967296<=a:=by rcases hF with⟨rfl,rfl,rfl,rfl,rfl,rfl,rfl⟩|⟨rfl,rfl,rfl,rfl,rfl,rfl,rfl⟩<;>omega
     exact bad (.inr (.inr (.inr Cc))) (Jd f aj aG a _ _ Cm HK HY (λw=>jH f a a0 (.inr Cc) w) w)
   .exact bad (.inr (.inr (.inl hf))) (Jd f aj aG a _ _ Cm HK HY (λw=>jH f a a0 (.inl hf) w) w)
  .exact bad (.inl hm) (Xn f aj aG a _ _ Cm HK (λw=>n_ aj Y jA w) w)
 .have hb:=aLv aG Rl;exact bad (.inr (.inl Rl)) (Xo f aj aG a (DZ aG) (λw=>hb▸rZ aG w) w)
def aAh(f aj aG a:Int)(a0:0<=a)(a1:aI a):
  ∃Z fl:Int,gU f aj aG a Z fl/\(∀w,Ae f aj aG a w Z fl)/\
   (∀w,Fm w->zk f aj aG a w Z fl):=
 Gj (λ_ _ _ _ h h'=>gU.one h h') (ES f aj aG a a0 a1) (sO f aj aG a a0 a1) (sU f aj aG a a0 a1)
