import Derived.Test.YthoelefkjpjhfaaGreatDoorK7
import Derived.Test.YthoelefkjpjhfaaGreatDoorK8
set_option linter.all false
open Bool renaming false → X
open Go.Proofs.YthoelefkjpjhfaaGreatDoor renaming vI → J, vU → Y
open Go.Ending renaming returned → O
open Go.Proofs.Tryz
namespace Go.Proofs.YthoelefkjpjhfaaGreatDoor
open Go.RowKit
variable {p f mx one aN sg nan a mn fb sp b s t:Int}{A B C Pn L k:Nat}{w:ak}
def aHw(md:Int):(Q9 md).s =0\/(Q9 md).s =1:=by
 unfold Q9;dsimp only;split
 .exact .inr rfl
 .exact .inl rfl
def aCf(md:Int)(x y:d_)(hx:x.s=0\/x.s=1)(hy:y.s=0\/y.s=1):((zI md x y).c =0\/(zI md x y).c =1)/\((zI md x y).s =0\/(zI md x y).s =1):=by
 unfold zI;split
 .exact⟨.inr rfl,hx⟩
 .split
  .exact⟨.inl rfl,aHw md⟩
  .split
   .exact⟨.inr rfl,hx⟩
   .exact⟨.inr rfl,hy⟩
def sum_any(p mn mx md:Int)(k:Nat)(x y:d_)(hx:VO x)(hy:VO y)(h2:max x.c y.c<3)(w:ak):
  CT 82 #[eu p mn mx md k,iP x.s x.e x.c x.M X 0,iP y.s y.e y.c y.M X 0] w λe w'=>∃os oe oc oh ol ot,rF (kJ md x y) os oe oc oh ol ot/\e=O (bP os oe oc oh ol ot 0)/\Gr w w':=by
 have c0:=hx.c0;have d0:=hy.c0;unfold kJ;rw[aH (om:¬3<=max x.c y.c)];by_cases c1:y.c<x.c
 .rw[aQ c1];refine(aNU p mn mx md k _ _ _ _ _ _ _ _ _ _ _ _ c1 w).mono ?_;rintro r w' ⟨rfl,hg⟩;exact⟨_,_,_,_,_,_,hx.same,rfl,hg⟩
 .rw[aH c1];by_cases c2:x.c<y.c
  .rw[aQ c2];refine(sum_lt p mn mx md k _ _ _ _ _ _ _ _ _ _ _ _ c2 w).mono ?_;rintro r w' ⟨rfl,hg⟩;exact⟨_,_,_,_,_,_,hy.same,rfl,hg⟩
  .rw[aH c2];by_cases c3:x.c=1
   .rw[aQ c3];refine(aJC p mn mx md k _ _ _ _ _ _ _ _ _ _ _ _ c3 om (λos oe oc oh ol ot=>rF (zI md x y) os oe oc oh ol ot) (λw=>?_) w).mono (λe w' h=>h);refine(total_any p mn mx md k x y hx hy c3 om w).mono ?_;rintro r w' ⟨c,s,e,M,st,hsm,rfl,hg⟩;obtain⟨t1,t2⟩:=aCf md x y hx.lD hy.lD;have tc:=hsm.1;exact⟨_,_,_,_,_,_,⟨M,rfl,rfl,hsm,om,om,λhc=>by rw[<-hsm.2.1 hc];exact t2⟩,rfl,hg⟩
   .rw[aH c3];by_cases c4:x.s=y.s
    .rw[aQ c4];refine(aNT p mn mx md k _ _ _ _ _ _ _ _ _ _ _ _ om (by simp[c3]) c4 w).mono ?_;rintro r w' ⟨rfl,hg⟩;exact⟨_,_,_,_,_,_,hx.same,rfl,hg⟩
    .rw[aH c4];by_cases c5:x.c=2
     .rw[aQ c5];refine(aJD p mn mx md k _ _ _ _ _ _ _ _ _ _ _ _ c5 om (by simp[c4]) w).mono ?_;rintro r w' ⟨rfl,hg⟩;exact⟨_,_,_,_,_,_,⟨0,rfl,rfl,⟨rfl,λ_=>rfl,(λh=>by cases h)⟩,(om:(0:Int)<=4),(om:(4:Int)<=4),λ_=>.inl rfl⟩,rfl,hg⟩
     .rw[aH c5];refine(sum_nil p mn mx md k _ _ _ _ _ _ _ _ _ _ _ _ om om (by simp[c4]) _ _ _ _ _ _ (λw=>J_ p mn mx md k w) w).mono ?_;rintro r w' ⟨rfl,hg⟩;exact⟨_,_,_,_,_,_,⟨0,rfl,rfl,X8 md,om,om,λ_=>aHw md⟩,rfl,hg⟩
def VO.turn{x:d_}(h:VO x):VO (zW x):=⟨h.c0,h.c4,by have:=h.lD;unfold zW;dsimp only;omega,h.fin,h.nil,h.e0,h.e1⟩
def qo(md:Int)(x y:d_)(h:3<=max x.c y.c):kJ md x y=⟨max x.c y.c,0,0,0⟩:=by unfold kJ;rw[aQ h]
def Aa(p mn mx md:Int)(k:Nat)(x y:d_)(hx:VO x)(hy:VO y)(w:ak):
  CT 173 #[eu p mn mx md k,.func (.func 82) #[] #[],iP x.s x.e x.c x.M X 0,iP y.s y.e y.c y.M X 0] w λe w'=>∃os oe oc oh ol ot,rF (kJ md x y) os oe oc oh ol ot/\e=O (bP os oe oc oh ol ot 0)/\Gr w w':=by
 by_cases h:3<=max x.c y.c
 .refine(kS p mn mx md k _ _ _ _ _ _ _ _ _ _ _ _ 82 _ rfl h w).mono ?_;rintro r w' ⟨rfl,hg⟩;have:=hx.c4;have:=hy.c4;rw[qo md x y h];exact⟨_,_,_,_,_,_,Ya _ h om,rfl,hg⟩
 .exact Y8 p mn mx md k _ _ _ _ _ _ _ _ _ _ _ _ _ rfl om _ (λw=>sum_any p mn mx md k x y hx hy om w) w
def aFX{P:Prop}(h:P:=by
 rintro e bf ⟨rfl,dY⟩;exact⟨_,_,.inr (.inr ⟨hf,rfl,rfl⟩),rfl,dY⟩):P:=h
def Yu(f aj a b:Int)(a0:0<=a)(a1:aI a)(b0:0<=b)(b1:aI b)(w:ak)(hw:Fm w):
  CT 26 #[J f,J aj,Y a,Y b] w λe w'=>∃Z fl,um kJ f aj a b Z fl/\e=O (aU Z fl)/\Gr w w':=by
 refine aBu f aj a b (um kJ f aj a b) (λw' hg=>?_);have Bo:=hw.gr hg;by_cases hf:f=0\/f=1
 .obtain⟨p,mx,one,aN,sg,nan,hF⟩:=fQ f hf;obtain⟨mn,fb,sp,hM,Ce,Ru⟩:=hF.m;by_cases hm:0<=aj/\aj<=4
  .obtain⟨k,hk⟩:=mP aj hm.1 hm.2;obtain⟨x,hx,HA⟩:=jP hF hM a a0 a1;obtain⟨y,hy,HB⟩:=jP hF hM b b0 b1;obtain⟨v1,v2,v3,v4,v5,v6⟩:=bU hF hx;obtain⟨u1,u2,u3,u4,u5,u6⟩:=bU hF hy;refine(VN p mn mx aj f k 82 a b _ _ _ _ _ _ _ _ _ _ _ _ (λbf dY=>eX hF hM aj k (λw=>iI aj k hk w) (Bo.gr dY)) HA HB (rF (kJ aj x y)) (λw=>Aa p mn mx aj k x y v1 u1 w) (cZ p mn mx one aN sg nan aj (kJ aj x y)) (λos oe oc oh ol ot w hq=>qB hM aj k hk _ os oe oc oh ol ot hq w)).mono ?_;rintro e bf ⟨Z,fl,hp,rfl,dY⟩;rw[Ce]at hp;exact⟨_,_,.inl ⟨p,mx,one,aN,sg,nan,x,y,hF,hm,hx,hy,hp⟩,rfl,dY⟩
  .refine(lV p mn mx aj nan f aj a b (λbf dY=>iC hF hM aj (λw=>lG aj om w) (Bo.gr dY)) (λw=>dF hM w) 82).mono ?_;rintro e bf ⟨rfl,dY⟩;exact⟨_,_,.inr (.inl ⟨p,mx,one,aN,sg,nan,hF,om,rfl,rfl⟩),rfl,dY⟩
 .refine(lV _ _ _ _ _ f aj a b (λbf dY=>eG f aj hf (Bo.gr dY)) (λw=>dF m64 w) 82).mono ?_;exact aFX
def aMv{P:Prop}(h:P:=by
 split
 .exact⟨by dsimp only;omega,by dsimp only;omega⟩
 .split
  .exact⟨by dsimp only;omega,by dsimp only;omega⟩
  .split
   .exact⟨by dsimp only;omega,by dsimp only;omega⟩
   .exact⟨by dsimp only;omega,by dsimp only;omega⟩):P:=h
def aAN(p:Nat)(A B:Nat):Nat:=2*(A*2^(p+4)/B)+w_ (decide (A*2^(p+4)%B≠0))
def divO(p aj:Int)(x y:d_):d_:=
 if 3<=max x.c y.c then⟨max x.c y.c,0,0,0⟩
 else if x.c=y.c/\x.c≠1 then⟨4,0,0,0⟩
 else if x.c=2 then⟨2,mulS x.s y.s,0,0⟩
 else if x.c=1/\y.c=0 then⟨5,mulS x.s y.s,0,0⟩
 else if x.c=1/\y.c=1 then⟨1,mulS x.s y.s,x.e-y.e-(p+4)-1,aAN p.toNat x.M y.M⟩
 else⟨0,mulS x.s y.s,0,0⟩
def FW(p aj:Int)(x y:d_)(h:3<=max x.c y.c):divO p aj x y=⟨max x.c y.c,0,0,0⟩:=by unfold divO;rw[aQ h]
def aPl(p aj:Int)(x y:d_)(hx:VO x)(hy:VO y):0<=(divO p aj x y).c /\(divO p aj x y).c <=5:=by
 have:=hx.c0;have:=hx.c4;have:=hy.c0;have:=hy.c4;unfold divO;split
 .dsimp only;omega
 .split
  .exact⟨by dsimp only;omega,by dsimp only;omega⟩
  .exact aMv
def U6(s t:Int):mulS s t=0\/mulS s t=1:=by unfold mulS;split<;>simp
def Yb(s t:Int)(hs:s=0\/s=1)(ht:t=0\/t=1):(s+t).tmod 2=mulS s t/\(s+t)%2=mulS s t:=by
 rcases hs with rfl|rfl<;>rcases ht with rfl|rfl<;>decide
def Hr(hP:(Pn:Int)=p)(ZL:1<=Pn)(hA:2^(Pn-1)<=A)(hB:B<2^Pn)(Cm:0<B)(e:Int):
  0<A*2^(Pn+2)/B/\p+2<=(nb (A*2^(Pn+2)/B):Int)/\0<A*2^(Pn+4)/B/\p+2<=(nb (A*2^(Pn+4)/B):Int)/\
  (∀s mn mx one aN aj z fl,bM p mn mx one aN aj s (A*2^(Pn+2)/B) (e-(p+2)) (decide (A*2^(Pn+2)%B≠0)) z fl↔bM p mn mx one aN aj s (aAN Pn A B) (e-(p+4)-1) X z fl)/\
  (∀s mn mx one aN aj z fl,bM p mn mx one aN aj s (A*2^(Pn+4)/B) (e-(p+4)) (decide (A*2^(Pn+4)%B≠0)) z fl↔bM p mn mx one aN aj s (aAN Pn A B) (e-(p+4)-1) X z fl):=by
 have h1:2^(Pn+1)*B<=A*2^(Pn+2):=by
  have a1:2^(Pn+1)*B<=2^(Pn+1)*2^Pn:=Fh _ (Nat.le_of_lt hB);have a2:2^(Pn-1)*2^(Pn+2)<=A*2^(Pn+2):=Nat.mul_le_mul_right _ hA;rw[<-jY]at a1 a2;rw[(om:Pn-1+(Pn+2)=Pn+1+Pn)]at a2;omega
 have h2:2^(Pn+1)*B<=A*2^(Pn+4):=yI h1 (Fh _ (pU de om));have n1:=aCq A B (Pn+2) (Pn+1) Cm h1;have n2:=aCq A B (Pn+4) (Pn+1) Cm h2;have p1:0<A*2^(Pn+2)/B:=by
  rcases jL (A*2^(Pn+2)/B)with c|c
  .rw[c,MJ]at n1;omega
  .exact c
 have p2:0<A*2^(Pn+4)/B:=by
  rcases jL (A*2^(Pn+4)/B)with c|c
  .rw[c,MJ]at n2;omega
  .exact c
 obtain⟨c1,c2⟩:=aJ9 A B (Pn+2) 2 Cm;refine⟨p1,om,p2,om,λs mn mx one aN aj z fl=>?_,λs mn mx one aN aj z fl=>?_⟩
 .have h:=bM.cut (p:=p) (mn:=mn) (mx:=mx) (one:=one) (aN:=aN) (aj:=aj) (aP:=s) (m:=A*2^(Pn+2+2)/B) (e:=e-(p+4)) (z:=z) (fl:=fl) 2 (decide (A*2^(Pn+2+2)%B≠0)) (by rw[c1];exact p1) om (by rw[c1];omega) (decide (A*2^(Pn+2)%B≠0)) c2.symm;rw[c1,(om:e-(p+4)+((2:Nat):Int)=e-(p+2))]at h;exact h
 .exact bM.rest _ p2 om om
def aCa{P:Prop}(h:P:=by
 rintro r w' ⟨rfl,hg⟩;exact⟨_,_,_,_,_,_,_,mV.nan p 4 om om,rfl,hg⟩):P:=h
def aBv(n:Int):bits .and .i64 n 1=n%2:=by
 have h1:(BitVec.ofInt 64 1).toNat =2^1-1:=de;have h2:(BitVec.ofInt 64 n&&&BitVec.ofInt 64 1).toNat =(n%((2^64:Nat):Int)).toNat %2^1:=by
  rw[BitVec.toNat_and,BitVec.toNat_ofInt,h1,Nat.and_two_pow_sub_one_eq_mod]
 show IntKind.i64.wrap ((BitVec.ofInt 64 n&&&BitVec.ofInt 64 1).toNat :Nat)=n%2;rw[h2,dI];omega
def iH:Nat->Nat
 |0=>0
 |m+1=>if(iH m+1)*(iH m+1)<=m+1 then iH m+1 else iH m
def Xu(m:Nat):sK m (iH m):=by
 induction m with
 |zero=>exact⟨fV _,de⟩
 |succ m ih=>
  obtain⟨h1,h2⟩:=ih;rw[iH];split
  .rename_i h
   refine⟨h,?_⟩;have:(iH m+1)*(iH m+1)+(iH m+1)+(iH m+1)+1=(iH m+1+1)*(iH m+1+1):=by
    simp only[Ak,Fj];omega
   omega
  .rename_i h
   exact⟨om,om⟩
def oZ(p e:Int):Nat:=if(e-(p+8))%2=0 then p.toNat+8 else p.toNat+9
def sqM(P A:Nat):Nat:=2*iH (A*2^P)+w_ (decide (iH (A*2^P)*iH (A*2^P)≠A*2^P))
def qV(p aj:Int)(x y:d_):d_:=
 if 3<=x.c then⟨x.c,0,0,0⟩
 else if x.c=0 then⟨0,x.s,0,0⟩
 else if x.s=1 then⟨4,0,0,0⟩
 else if x.c=2 then⟨2,0,0,0⟩
 else⟨1,0,(x.e-oZ p x.e)/2-1,sqM (oZ p x.e) x.M⟩
def aJH(p aj:Int)(x y:d_)(hx:VO x)(hy:VO y):0<=(qV p aj x y).c /\(qV p aj x y).c <=5:=by
 have:=hx.c0;have:=hx.c4;unfold qV;split
 .dsimp only;omega
 .exact aMv
def aGX(h:sK A C)(hA:2^(2*k)<=A):2^k<=C:=by
 have h1:2^k*2^k<(C+1)*(C+1):=by
  rw[<-jY,(om:k+k=2*k)];exact LJ hA h.2
 have:=tK h1;omega
def N9(hP:(Pn:Int)=p)(ZL:1<=Pn)(Vw:Pn<=53)(hA:2^(Pn-1)<=A)(hA2:A<2^Pn)(e hi hq:Int)(od:Nat)(hhi:e+(p-1)=hi)(hod:hi%2=(od:Int))(hhq:hi/2=hq):
  ∃(C:Nat) (st:Bool),C=dC dB (A*2^(61-Pn+od)) (Pn+3)/\st=decide (dR dB (A*2^(61-Pn+od)) (Pn+2)≠0)/\0<C/\aI C/\p+2<=(nb C:Int)/\0<iH (A*2^oZ p e)/\p+2<=(nb (iH (A*2^oZ p e)):Int)/\
  (∀s mn mx one aN aj z fl,bM p mn mx one aN aj s C (hq-(p+2)) st z fl↔bM p mn mx one aN aj s (sqM (oZ p e) A) ((e-oZ p e)/2-1) X z fl)/\
  (∀s mn mx one aN aj z fl,bM p mn mx one aN aj s (iH (A*2^oZ p e)) ((e-oZ p e)/2) (decide (iH (A*2^oZ p e)*iH (A*2^oZ p e)≠A*2^oZ p e)) z fl↔bM p mn mx one aN aj s (sqM (oZ p e) A) ((e-oZ p e)/2-1) X z fl):=by
 have aTJ:od<=1:=om;obtain⟨t,O_,hPl,het⟩:∃t:Nat,1<=t/\oZ p e=Pn+5+od+2*t/\(e-oZ p e)/2+(t:Int)=hq-(p+2):=by
  unfold oZ;by_cases c:(e-(p+8))%2=0
  .rw[aQ c];exact⟨1,om,om,om⟩
  .rw[aH c];exact⟨2,om,om,om⟩
 obtain⟨q1,q2,q3⟩:=N_ A Pn od ZL Vw aTJ hA2;have hr:=Xu (A*2^oZ p e);have e1:A*2^oZ p e=A*2^(Pn+5+od)*2^(2*t):=by rw[hPl,jY,kX]
 have tY:=hr;rw[e1]at tY;rw[<-e1]at tY;obtain⟨C,hC⟩:=x_n (dC dB (A*2^(61-Pn+od)) (Pn+3));rw[<-hC]at q1 q2 q3;have sc:iH (A*2^oZ p e)/2^t=C/\(decide (iH (A*2^oZ p e)%2^t≠0)||decide (iH (A*2^oZ p e)*iH (A*2^oZ p e)≠A*2^(Pn+5+od)*2^(2*t)))=decide (C*C≠A*2^(Pn+5+od)):=by
  refine sK.scale t q1 ?_;rw[<-e1];exact hr
 rw[<-e1]at sc;obtain⟨s1,s2⟩:=sc;have aH7:2^(Pn+2)<=C:=by
  refine aGX q1 ?_;have a1:2^(Pn-1)*2^(Pn+5+od)<=A*2^(Pn+5+od):=Nat.mul_le_mul_right _ hA;rw[<-jY]at a1;exact yI (pU de om) a1
 have hnC:=zY aH7;have hC0:0<C:=Ie (iQ de) aH7;have hCr:C<=iH (A*2^oZ p e):=by rw[<-s1];exact Nat.div_le_self _ _
 have hnr:=zY (yI aH7 hCr);refine⟨C,_,hC,rfl,hC0,q3,om,om,om,λs mn mx one aN aj z fl=>?_,λs mn mx one aN aj z fl=>?_⟩
 .have h:=bM.cut (p:=p) (mn:=mn) (mx:=mx) (one:=one) (aN:=aN) (aj:=aj) (aP:=s) (m:=iH (A*2^oZ p e)) (e:=(e-oZ p e)/2) (z:=z) (fl:=fl) t (decide (iH (A*2^oZ p e)*iH (A*2^oZ p e)≠A*2^oZ p e)) (by rw[s1];exact hC0) om (by rw[s1];omega) (decide (dR dB (A*2^(61-Pn+od)) (Pn+2)≠0)) (by rw[s2,decide_eq_decide];exact q2);rw[s1,het]at h;exact h
 .exact bM.rest _ om om om
def NH(hF:bI f p mx one aN sg nan)(hM:zo p mn mx fb sp one aN sg nan)(md:Int)(k:Nat){x y:d_}(hx:dO p mx one aN sg nan a x)(h3:x.c<3)(w:ak):
  CT 88 #[eu p mn mx md k,iP x.s x.e x.c x.M X 0,iP y.s y.e y.c y.M X 0] w λe w'=>∃os oe oc oh ol ot of,mV p (qV p md x y) os oe oc oh ol ot of/\e=O (bP os oe oc oh ol ot of)/\Gr w w':=by
 obtain⟨v1,v2,v3,v4,v5,v6⟩:=bU hF hx;have hpb:24<=p/\p<=53:=by have:=hF.bounds;omega
 have Ru:fb=p-1:=by rcases hM with h|h<;>omega
 have c0:=v1.c0;have lD:=v1.lD;unfold qV;rw[aH (om:¬3<=x.c)];by_cases cz:x.c=0
 .rw[aQ cz];have hM0:x.M=0:=v3 om;rw[cz,hM0];refine(K_ p mn mx md k _ _ 0 _ _ _ _ _ _ _ _ _ w).mono ?_;rintro r w' ⟨rfl,hg⟩;exact⟨_,_,_,_,_,_,_,mV.flat p _ _ _ 0 _ rfl om om om (λ_=>⟨rfl,lD⟩),rfl,hg⟩
 .rw[aH cz];by_cases cs:x.s=1
  .rw[aQ cs,cs];rcases(om:x.c=1\/x.c=2)with c|c
   .rw[c];refine(Le p mn mx md k 0 _ 0 _ _ _ _ _ _ _ _ _ w).mono ?_;exact aCa
   .rw[c];refine(Ld p mn mx md k 0 _ 0 _ _ _ _ _ _ _ _ _ w).mono ?_;exact aCa
  .rw[aH cs];have s0:x.s=0:=om;rw[s0];by_cases ci:x.c=2
   .rw[aQ ci,ci];have hM0:x.M=0:=v3 om;rw[hM0];refine(NG p mn mx md k 0 _ 0 _ _ _ _ _ _ _ _ _ w).mono ?_;rintro r w' ⟨rfl,hg⟩;exact⟨_,_,_,_,_,_,_,mV.flat p _ _ _ 2 _ rfl om om om (λ_=>⟨rfl,.inl rfl⟩),rfl,hg⟩
   .have c1:x.c=1:=om;rw[aH ci,c1];obtain⟨Pn,hP,ZL,Vw,hA,hA2⟩:=sS hF hx c1;obtain⟨od,hod⟩:∃od:Nat,(x.e+(p-1))%2=(od:Int):=⟨((x.e+(p-1))%2).toNat,om⟩;obtain⟨C,st,hC,hst,r1,r2,r3,r4,r5,r6,r7⟩:=N9 hP ZL Vw hA hA2 x.e _ _ od rfl hod rfl;have hN:x.M*2^(61-Pn+od)<18446744073709551616:=by
     have h1:x.M*2^(61-Pn+od)<2^Pn*2^(61-Pn+od):=Nat.mul_lt_mul_of_pos_right hA2 (iQ de);rw[<-jY]at h1;have h2:2^(Pn+(61-Pn+od))<=2^62:=pU de om;have h3:2^62<18446744073709551616:=de;omega
    have hwr:IntKind.u64.wrap (((x.M%18446744073709551616:Nat):Int)*2^((61-p+od:Int)).toNat)=((x.M*2^(61-Pn+od):Nat):Int):=by
     rw[lQ om,(om:((61-p+od:Int)).toNat =61-Pn+od),iT];rw[FI,FH];have:=hN;rw[show((x.M:Int)*((2:Nat):Int)^(61-Pn+od))=((x.M*2^(61-Pn+od):Nat):Int) by rw[FI,FH]];rw[show((x.M:Int)*2^(61-Pn+od))=((x.M*2^(61-Pn+od):Nat):Int) by rw[FI,FH];rfl];omega
    refine(ND p mn mx md k x.e _ _ _ _ _ _ _ _ _ fb (x.e+(p-1)) od (61-p) (61-p+od) ((x.e+(p-1))/2) (x.M*2^(61-Pn+od)) hN om om om om (by rw[Ru,dI];omega) (by rw[aBv];exact hod) (by rw[Ru,dI];omega) (by rw[dI];omega) om om hwr rfl om om om om (λw=>xZ hM w) 0 ((x.e+(p-1))/2-(p+2)) 1 0 _ _ (λw v hd=>aCW p mn mx md k 0 ((x.e+(p-1))/2) om om om om hN hd (Pn+3) om) w).mono ?_;rintro r w' ⟨rfl,hg⟩;refine⟨_,_,_,_,_,_,_,.inl ⟨C,?_,?_,rfl,rfl,(om:(0:Int)<=1),(om:(1:Int)<=4),λ_=>⟨rfl,.inl rfl⟩,λ_=>⟨r1,om,λ_=>r3,om,om,λmn mx one aN aj z fl=>?_⟩⟩,rfl,hg⟩
    .rw[xU r2];rfl
    .rw[lQ r2,hC]
    .rw[show Pn+3-1=Pn+2 from rfl,<-hst];exact r6 _ _ _ _ _ _ _ _
def Xb(h:bI f p mx one aN sg nan)(aj a b:Int)(hm:0<=aj/\aj<=4)(a0:0<=a)(fa:a<2*sg)(b0:0<=b)(fb:b<2*sg){x y:d_}(hx:dO p mx one aN sg nan a x)(hy:dO p mx one aN sg nan b y)(cx:x.c=1)(cy:y.c=1)(w:ak):
  CT 66 #[J f,J aj,Y a,Y b] w λe w'=>∃Z fl,qK p (1-mx) mx one aN sg nan aj ⟨1,mulS x.s y.s,x.e-y.e-(p+4)-1,aAN p.toNat x.M y.M⟩ Z fl/\e=O (aU Z fl)/\Gb w w':=by
 obtain⟨v1,v2,v3,v4,v5,v6⟩:=bU h hx;obtain⟨u1,u2,u3,u4,u5,u6⟩:=bU h hy;have hb:=h.bounds;have KC:=U6 x.s y.s;obtain⟨Dp,LY⟩:=Yb x.s y.s v1.lD u1.lD;have sa0:0<=x.s:=by have:=v1.lD;omega
 have sa1:x.s<=1:=by have:=v1.lD;omega
 have sb0:0<=y.s:=by have:=u1.lD;omega
 have sb1:y.s<=1:=by have:=u1.lD;omega
 have fx:x.c=1->_:=sS h hx;have fy:y.c=1->_:=sS h hy;have HF:dU f aj a b true:=λw=>kZ h aj a b hm.1 hm.2 a0 fa b0 fb w;have fM:=ji h a a0 fa hx;have gK:=ji h b b0 fb hy;have HQ:∀(z:d_) (t:Bool),t=decide (3<=z.c)->bY z.c z.s z.e (((z.M:Nat):Int)) t:=λz t ht w=>jf _ _ _ _ t ht w;have qP:=HQ x X jA;have vw:=HQ y X jA;obtain⟨Pn,hP,ZL,Vw,hA,hA2⟩:=fx cx;obtain⟨Pn',hP',_,_,hB,hB2⟩:=fy cy;obtain rfl:Pn=Pn':=om;have Cm:0<y.M:=Ie (iQ de) hB;obtain⟨r1,r2,r3,r4,r5,r6⟩:=Hr hP ZL hA hB2 Cm (x.e-y.e);rw[(om:p.toNat=Pn)];have e4:x.e-y.e-(((Pn+4:Nat)):Int)=x.e-y.e-(p+4):=om;refine aCn f aj a b _ _ _ _ _ _ _ _ HF fM gK qP vw cx cy _ sa0 sa1 sb0 sb1 Dp LY (x.e-y.e-(p+4)) (decide (x.M*2^(Pn+4)%y.M≠0)) (x.M*2^(Pn+4)/y.M) (λw=>?_) _ (λv w hB=>Hl h aj hm.1 hm.2 ⟨1,mulS x.s y.s,x.e-y.e-(p+4)-1,aAN Pn x.M y.M⟩ rfl KC _ r3 (x.e-y.e-(p+4)) om om _ r4 (λmn mx one aN aj z fl=>r6 _ _ _ _ _ _ _ _) 8 om v w hB) w;have hq:=Bg h 1 x.s x.e 1 y.s y.e x.M y.M om om Cm sa0 sa1 sb0 sb1 _ Dp LY om om om om (Pn+4) om w;rw[e4]at hq;exact hq
def pR(x y:d_):Nat:=x.M*2^(x.e-min x.e y.e).toNat
def qw(x y:d_):Nat:=y.M*2^(y.e-min x.e y.e).toNat
def Df(p aj:Int)(x y:d_):d_:=
 if 3<=max x.c y.c then⟨max x.c y.c,0,0,0⟩
 else if x.c=2\/y.c=0 then⟨4,0,0,0⟩
 else if x.c=0\/y.c=2 then x
 else if rV (pR x y) (qw x y)=0 then⟨0,x.s,0,0⟩
 else⟨1,if qW (pR x y) (qw x y)then 1-x.s else x.s,min x.e y.e,rV (pR x y) (qw x y)⟩
def E5(p aj:Int)(x y:d_)(h:3<=max x.c y.c):Df p aj x y=⟨max x.c y.c,0,0,0⟩:=by unfold Df;rw[aQ h]
def aOa(p aj:Int)(x y:d_)(hx:VO x)(hy:VO y):0<=(Df p aj x y).c /\(Df p aj x y).c <=5:=by
 have:=hx.c0;have:=hx.c4;have:=hy.c0;have:=hy.c4;unfold Df;split
 .dsimp only;omega
 .split
  .exact⟨by dsimp only;omega,by dsimp only;omega⟩
  .split
   .omega
   .split
    .exact⟨by dsimp only;omega,by dsimp only;omega⟩
    .exact⟨by dsimp only;omega,by dsimp only;omega⟩
def Zm(C:Nat)(hC:aI C):bits .and .u64 (C:Int) 1=((C%2:Nat):Int):=by
 have h:=bits_and_u64_nat C 1 hC de;rw[Nat.and_one_is_mod]at h;exact h
def Zl(C:Nat)(hC:aI C):bits .and .u64 (C:Int) 2=((C/2%2*2:Nat):Int):=by
 have h:=bits_and_u64_nat C 2 hC de;have h1:C&&&2=C/2%2*2:=by
  have e1:(C&&&2)%2^2=C%2^2&&&2%2^2:=Nat.and_mod_two_pow;have e2:C&&&2<=2:=Nat.and_le_right;rw[lQ (om:C&&&2<2^2)]at e1;rw[e1];have e3:C%2^2=0\/C%2^2=1\/C%2^2=2\/C%2^2=3:=om;rcases e3 with c|c|c|c<;>rw[c]
  .rw[(om:C/2%2=0)];rfl
  .rw[(om:C/2%2=0)];rfl
  .rw[(om:C/2%2=1)];rfl
  .rw[(om:C/2%2=1)];rfl
 rw[h1]at h;exact h
def aQ4(F:Nat):F%18446744073709551616%2=F%2/\F%18446744073709551616/2%2=F/2%2:=⟨om,om⟩
def Hq(p mn mx md:Int)(k:Nat)(sx ex sy ey:Int)(A B:Nat)(hA1:A<9007199254740992)(hB1:B<9007199254740992)(Cm:0<B)(hAB:A<2*B)(lD:sx=0\/sx=1)(e0:-2000<=ex)(e1:ex<=2000)(f0:-2000<=ey)(f1:ey<=2000)(P:Nat)(hP:ex-ey+2=((P+1:Nat):Int))(w:ak):
  Gs p mn mx md k sx ex 1 0 ((A:Int)) X 0 sy ey 1 0 ((B:Int)) X 0 w ((if DK (A*2^P/B) (A*2^P%B)then 1-sx else sx)) (ey-1) 1 0 (((FY (A*2^P/B) (A*2^P%B) B:Nat):Int)) X 0:=by
 obtain⟨d1,d2⟩:=Ol A B P hAB om;have hL:A*2^P%B<B:=oN _ Cm;obtain⟨m1,m2⟩:=aQ4 (A*2^P/B);have hC:A*2^P/B%18446744073709551616<18446744073709551616:=oN _ de;have HF:Hid (∀w v,zU (λ_ _=>B) A w v->QR 184 #[v,J ((P+1:Nat):Int)] w (.tuple #[Y ((A*2^P/B%18446744073709551616:Nat):Int),Y ((A*2^P%B:Nat):Int)])):=λw v hd=>by
  have h:=first_any om hd (P+1) om om;rw[d2,show P+1-1=P from rfl,d1]at h;exact h
 unfold FY DK;rw[<-m1,<-m2];generalize A*2^P/B%18446744073709551616=C at*
 generalize A*2^P%B=L at*
 have a2:=Zl C hC;have a1:=Zm C hC;have hod:∀t:Bool,t=decide (C/2%2=1)->(((C/2%2*2:Nat):Int) != 0)=t:=λt ht=>by
  rw[ht];have h2:C/2%2=0\/C/2%2=1:=om;rcases h2 with h|h<;>simp[h]
 have hha:∀t:Bool,t=decide (C%2=1)->(((C%2:Nat):Int) != 0)=t:=λt ht=>by
  rw[ht];have h2:C%2=0\/C%2=1:=om;rcases h2 with h|h<;>simp[h]
 have hlb:((L:Int) != 0)=decide (L≠0):=by by_cases h:L=0<;>simp[h]
 have HE:∀(o h l U:Bool),U=(h&&(o||l))->KW 185 #[.bool X,.bool o,.bool h,.bool l] (.bool U):=λo h l U hU w=>by
  have:=uw X o h l w;rw[show ru 0 X o h l=U from by rw[hU];cases o<;>cases h<;>cases l<;>rfl]at this;exact this
 by_cases hU:C%2=1/\(C/2%2=1\/L≠0)
 .rw[h_ hU,aQ rfl,aQ rfl];have hx:=aFl sx 1 lD (.inr rfl);rw[show mulS sx 1=1-sx from by rcases lD with rfl|rfl<;>decide]at hx;exact UF p mn mx md k sx ex 0 sy ey 0 X X A B om om om om om om (P+1) hP om C L hC om _ _ _ _ _ a2 a1 (hod _ rfl) (hha _ rfl) hlb _ hx HF (HE _ _ _ _ (by simp[hU])) w
 .rw[gV hU,aH de,aH (by decide)];by_cases hh:C%2=1
  .rw[aQ hh];exact Oh p mn mx md k sx ex 0 sy ey 0 X X A B om om om om om om (P+1) hP om C L hC om _ _ _ _ a2 a1 (hod _ rfl) (hha true (by simp[hh])) hlb HF (HE _ _ _ _ (by
    have h1:¬(C/2%2=1\/L≠0):=λc=>hU ⟨hh,c⟩;have h2:¬C/2%2=1:=λc=>h1 (.inl c);have h3:¬L≠0:=λc=>h1 (.inr c);simp[h2,h3])) w
  .rw[aH hh];exact Og p mn mx md k sx ex 0 sy ey 0 X X A B om om om om om om (P+1) hP om C L hC om _ _ _ _ a2 a1 (hod _ rfl) (hha X (by simp[hh])) hlb HF (HE _ _ _ _ rfl) w
def aLd(h:L<B):FY C L B<=B:=by
 unfold FY;split
 .omega
 .split<;>omega
def aE7(h:L<B)(h0:FY C L B=0):DK C L=X:=by
 unfold FY at h0;cases hd:DK C L
 .rfl
 .rw[hd,aQ rfl]at h0;omega
def Q7(hF:bI f p mx one aN sg nan)(mn md:Int)(k:Nat){x y:d_}(hx:dO p mx one aN sg nan a x)(hy:dO p mx one aN sg nan b y)(h3:max x.c y.c<3)(w:ak):
  CT 90 #[eu p mn mx md k,bP x.s x.e x.c (((x.M/18446744073709551616:Nat):Int)) (((x.M%18446744073709551616:Nat):Int)) X 0,bP y.s y.e y.c (((y.M/18446744073709551616:Nat):Int)) (((y.M%18446744073709551616:Nat):Int)) X 0] w λe w'=>∃os oe oc oh ol ot of,mV p (Df p md x y) os oe oc oh ol ot of/\e=O (bP os oe oc oh ol ot of)/\Gr w w':=by
 obtain⟨v1,v2,v3,v4,v5,v6⟩:=bU hF hx;obtain⟨u1,u2,u3,u4,u5,u6⟩:=bU hF hy;have hpb:24<=p/\p<=53:=by have:=hF.bounds;omega
 have c0:=v1.c0;have d0:=u1.c0;have lD:=v1.lD;have Ph:=mV.self p v1;unfold Df;rw[aH (om:¬3<=max x.c y.c)];by_cases c2:x.c=2
 .rw[aQ (.inl c2),c2];refine(Oj p mn mx md k _ _ 0 _ _ _ _ _ _ _ _ _ w).mono ?_;exact aCa
 .by_cases cy0:y.c=0
  .rw[aQ (.inr cy0),cy0];refine(Oi p mn mx md k _ _ _ _ _ _ _ 0 _ _ _ _ (by simp[c2]) w).mono ?_;exact aCa
  .rw[aH (om:¬(x.c=2\/y.c=0))];by_cases cx0:x.c=0
   .rw[aQ (.inl cx0)];rw[cx0]at Ph⊢
    refine(Oe p mn mx md k _ _ 0 _ _ _ _ _ _ _ _ _ (by simp[cy0]) w).mono ?_;rintro r w' ⟨rfl,hg⟩;exact⟨_,_,_,_,_,_,_,Ph,rfl,hg⟩
   .have cx:x.c=1:=om;by_cases cy2:y.c=2
    .rw[aQ (.inr cy2),cy2];rw[cx]at Ph⊢
     refine(Q5 p mn mx md k _ _ 0 _ _ _ _ 0 _ _ _ _ w).mono ?_;rintro r w' ⟨rfl,hg⟩;exact⟨_,_,_,_,_,_,_,Ph,rfl,hg⟩
    .have cy:y.c=1:=om;rw[aH (om:¬(x.c=0\/y.c=2))];obtain⟨Pn,hP,ZL,Vw,hA,hA2⟩:=sS hF hx cx;obtain⟨Pn',hP',_,_,hB,hB2⟩:=sS hF hy cy;obtain rfl:Pn=Pn':=om;have hA0:0<x.M:=Ie (iQ de) hA;have Cm:0<y.M:=Ie (iQ de) hB;have hAB:x.M<2*y.M:=by
      have:2^Pn=2*2^(Pn-1):=by rw[<-Nat.pow_succ',(om:(Pn-1).succ =Pn)]
      omega
     rw[cx]at Ph;by_cases hn:x.e-y.e+2<1
     .have hX:pR x y=x.M:=by unfold pR;rw[(om:(x.e-min x.e y.e).toNat =0),wP,kW]
      have hD:2*x.M<qw x y:=by
       unfold qw;have:2^2<=2^(y.e-min x.e y.e).toNat :=pU de om;have h4:y.M*4<=y.M*2^(y.e-min x.e y.e).toNat :=Fh _ this;omega
      obtain⟨r1,r2⟩:=aG6 _ _ hD;rw[hX,r1,r2,aH om,aH de,(om:min x.e y.e=x.e),cx,cy];refine(QZ p mn mx md k _ _ 0 _ _ _ _ 0 _ _ _ _ om om om om hn w).mono ?_;rintro r w' ⟨rfl,hg⟩;refine⟨_,_,_,_,_,_,_,?_,rfl,hg⟩;obtain⟨xc,xs,xe,xM⟩:=x;dsimp only at*
      rw[cx]at Ph;exact Ph
     .obtain⟨P,hP2⟩:∃P:Nat,x.e-y.e+2=((P+1:Nat):Int):=⟨(x.e-y.e+1).toNat,om⟩;have hL:x.M*2^P%y.M<y.M:=oN _ Cm;have key:DK (x.M*2^P/y.M) (x.M*2^P%y.M)=qW (pR x y) (qw x y)/\(FY (x.M*2^P/y.M) (x.M*2^P%y.M) y.M=0↔rV (pR x y) (qw x y)=0)/\
        (0<rV (pR x y) (qw x y)->∀s mn mx one aN aj z fl,bM p mn mx one aN aj s (FY (x.M*2^P/y.M) (x.M*2^P%y.M) y.M) (y.e-1) X z fl↔bM p mn mx one aN aj s (rV (pR x y) (qw x y)) (min x.e y.e) X z fl):=by
       by_cases hge:y.e<=x.e
       .have e1:qw x y=y.M:=by unfold qw;rw[(om:(y.e-min x.e y.e).toNat =0),wP,kW]
        have e2:x.M*2^P=2*pR x y:=by
         unfold pR;rw[(om:P=(x.e-min x.e y.e).toNat +1),jE,<-kX,dM]
        obtain⟨k1,k2⟩:=aN9 (pR x y) y.M Cm;rw[e1,e2];refine⟨k1,by rw[k2];omega,λjZ s mn mx one aN aj z fl=>?_⟩;rw[k2,(om:min x.e y.e=y.e)];have:=bM.scale (p:=p) (mn:=mn) (mx:=mx) (one:=one) (aN:=aN) (aj:=aj) (aP:=s) (M:=rV (pR x y) y.M) (e:=y.e) (z:=z) (fl:=fl) 1 jZ;rw[Nat.pow_one,dM]at this;exact this
       .have e1:qw x y=2*y.M:=by unfold qw;rw[(om:(y.e-min x.e y.e).toNat =1),Nat.pow_one,dM]
        have e2:pR x y=x.M:=by unfold pR;rw[(om:(x.e-min x.e y.e).toNat =0),wP,kW]
        have e3:x.M*2^P=x.M:=by rw[(om:P=0),wP,kW]
        obtain⟨k1,k2⟩:=aN8 x.M y.M Cm hAB;rw[e1,e2,e3];refine⟨k1,by rw[k2],λjZ s mn mx one aN aj z fl=>?_⟩;rw[k2,(om:min x.e y.e=y.e-1)]
      obtain⟨ku,kz,kr⟩:=key;have uz:=aLd (C:=x.M*2^P/y.M) hL;rw[(om:x.M/18446744073709551616=0),(om:x.M%18446744073709551616=x.M),(om:y.M/18446744073709551616=0),(om:y.M%18446744073709551616=y.M),cx,cy];refine(Hq p mn mx md k x.s x.e y.s y.e x.M y.M v2 u2 Cm hAB lD v4 v5 u4 u5 P hP2 w).mono ?_;rintro r w' ⟨rfl,hg⟩;by_cases hz:rV (pR x y) (qw x y)=0
      .rw[aQ hz];have LZ:=kz.2 hz;have hdu:=aE7 hL LZ;refine⟨_,_,_,_,_,_,_,.inr (.inr ⟨rfl,rfl,rfl,by rw[LZ];rfl,by rw[hdu];rfl,?_,rfl,om,om⟩),rfl,hg⟩;rw[hdu,aH (by decide)];exact lD
      .rw[aH hz];refine⟨_,_,_,_,_,_,_,.inl ⟨FY (x.M*2^P/y.M) (x.M*2^P%y.M) y.M,?_,?_,rfl,rfl,(om:(0:Int)<=1),(om:(1:Int)<=4),λ_=>⟨by rw[ku],?_⟩,λ_=>⟨om,om,(λt=>by cases t),om,om,λmn mx one aN aj z fl=>?_⟩⟩,rfl,hg⟩
       .rw[xU (by omega)];rfl
       .rw[lQ (a:=FY (x.M*2^P/y.M) (x.M*2^P%y.M) y.M) (by omega)]
       .split
        .omega
        .exact lD
       .exact kr om _ _ _ _ _ _ _ _
set_option maxRecDepth 1000000
set_option maxHeartbeats 40000000
def aMs{P:Prop}(h:P:=by
 rintro e bf ⟨Z,fl,hp,rfl,dY⟩;rw[Ce]at hp;exact⟨_,_,.inl ⟨p,mx,one,aN,sg,nan,x,y,hF,om,hx,hy,hp⟩,rfl,dY⟩):P:=h
def aMt{P:Prop}(h:P:=by
 obtain⟨Z,fl,hp⟩:=BQ p (1-mx) mx one aN sg nan 0 _ r1 r2;exact⟨Z,fl,.inl ⟨p,mx,one,aN,sg,nan,x,y,hF,om,hx,hy,hp⟩⟩):P:=h
def aMu{P:Prop}(h:P:=by
 refine(kS p mn mx 0 k _ _ _ _ _ _ _ _ _ _ _ _ _ (max x.c y.c) rfl cn w).mono ?_;rintro e w' ⟨rfl,hg⟩;refine⟨_,_,_,_,_,_,_,⟨?_,rfl⟩,rfl,hg⟩;rw[hp];have:=v1.c4;have:=u1.c4;exact aGF _ om om):P:=h
def lC(l:Bool)(x y:d_):d_:=
 if 3<=max x.c y.c then⟨max x.c y.c,0,0,0⟩else if l then(if qO x y<=0 then x else y)else(if 0<=qO x y then x else y)
def aCs(l:Bool)(x y:d_)(hx:VO x)(hy:VO y):0<=(lC l x y).c /\(lC l x y).c <=4:=by
 have:=hx.c0;have:=hx.c4;have:=hy.c0;have:=hy.c4;unfold lC
 repeat' split
 all_goals ((try dsimp only);omega)
def aGF(m:Int)(h3:3<=m)(h4:m<=4):rF ⟨m,0,0,0⟩ 0 0 m 0 0 X:=⟨0,by simp,by simp,Same.self ⟨m,0,0,0⟩ (λc=>by dsimp only at c;omega),om,om,λc=>om⟩
def ZR(hs:s=0\/s=1)(ht:t=0\/t=1):IntKind.i64.wrap (t-s)=t-s:=by
 rcases hs with rfl|rfl<;>rcases ht with rfl|rfl<;>decide+kernel
def EY(l:Bool)(f a b:Int)(a0:0<=a)(a1:aI a)(b0:0<=b)(b1:aI b)(w:ak):
  CT 158 #[J f,Y a,Y b,.bool l] w λe w'=>∃Z fl,um (λ_=>lC l) f 0 a b Z fl/\e=O (aU Z fl)/\Gr w w':=by
 by_cases hf:f=0\/f=1
 .obtain⟨p,mx,one,aN,sg,nan,hF⟩:=fQ f hf;obtain⟨x,hx⟩:=fH hF a a0 a1;obtain⟨y,hy⟩:=fH hF b b0 b1;obtain⟨v1,v2,v3,v4,v5,v6⟩:=bU hF hx;obtain⟨u1,u2,u3,u4,u5,u6⟩:=bU hF hy;have xc0:=v1.c0;have xc4:=v1.c4;have yc0:=u1.c0;have yc4:=u1.c4;have fin:∀Z fl,cZ p (1-mx) mx one aN sg nan 0 (lC l x y) Z fl->(Qg f a b l w Z fl)->CT 158 #[J f,Y a,Y b,.bool l] w λe w'=>∃Z fl,um (λ_=>lC l) f 0 a b Z fl/\e=O (aU Z fl)/\Gr w w':=λZ fl hp h=>h.mono (λe w' ⟨h1,h2⟩=>⟨Z,fl,.inl ⟨p,mx,one,aN,sg,nan,x,y,hF,om,hx,hy,hp⟩,h1,h2⟩);by_cases fa:a<2*sg
  .by_cases fb:b<2*sg
   .have Qp:fF f a true:=λw=>gJ hF a a0 fa w;have TN:fF f b true:=λw=>gJ hF b b0 fb w;have fM:=ji hF a a0 fa hx;have gK:=ji hF b b0 fb hy;have HQ:∀(z:d_) (t:Bool),t=decide (3<=z.c)->bY z.c z.s z.e (((z.M:Nat):Int)) t:=λz t ht w=>jf _ _ _ _ t ht w;by_cases cn:3<=max x.c y.c
    .have hp:lC l x y=⟨max x.c y.c,0,0,0⟩:=by unfold lC;rw[aQ cn]
     refine fin nan (if(decide (x.c=4)||decide (y.c=4))then 1 else 0) ?_ (aDG f a b _ _ _ _ _ _ _ _ nan _ l (decide (3<=x.c)) (decide (3<=y.c)) _ jA (decide (x.c=4)) (decide (y.c=4)) (bq _ _) (bq _ _) rfl Qp TN fM gK (HQ x _ rfl) (HQ y _ rfl) (λw=>nZ hF _ _ rfl w) w);rw[hp];refine qC _ _ ?_ om om;rw[<-Bool.decide_or,decide_eq_decide];omega
    .have qP:=HQ x X jA;have vw:=HQ y X jA;have HO:KW 159 #[J f,Y a,Y b] (J (aA2 x y)):=λw=>Kw hF a0 b0 hx hy om om w;obtain⟨v,u,⟨ha,v0,v1',va,vb⟩,⟨hb,u0,u1',ua,ub⟩,hl⟩:=XT hF a0 b0 hx hy (om:x.c<=2) (om:y.c<=2);have px:=qA hF a0 hx (om:x.c<=2) 0;have py:=qA hF b0 hy (om:y.c<=2) 0;have x01:=v1.lD;have y01:=u1.lD;have qZ:=MP v u
     --where the order is 0,the words are the same
     have heq:qO x y=0->a=b:=by
      intro h;unfold qO at h;rw[hl]at h;by_cases c:x.s=y.s
      .rw[aH (by simp[c])]at h;have hc:mM v u=0:=by split at h<;>omega
       have:v=u:=by
        unfold mM at hc;split at hc
        .omega
        .split at hc<;>omega
       omega
      .rw[aQ c]at h;omega
     have hpk:∀q:Bool,decide (qO x y<=0)=q->∃z,((q==l)=true/\z=a\/(q==l)=X/\z=b)/\cZ p (1-mx) mx one aN sg nan 0 (lC l x y) z 0:=by
      intro q hq;unfold lC;rw[aH cn];by_cases c:qO x y<=0
      .rw[h_ c]at hq;subst hq;cases l
       .refine⟨b,.inr ⟨rfl,rfl⟩,?_⟩;rw[aH (by decide)];by_cases c':0<=qO x y
        .rw[aQ c',<-heq (by omega)];exact px
        .rw[aH c'];exact py
       .refine⟨a,.inl ⟨rfl,rfl⟩,?_⟩;rw[aQ rfl,aQ c];exact px
      .rw[gV c]at hq;subst hq;cases l
       .refine⟨a,.inl ⟨rfl,rfl⟩,?_⟩;rw[aH de,aQ (by omega)];exact px
       .refine⟨b,.inr ⟨rfl,rfl⟩,?_⟩;rw[aQ rfl,aH c];exact py
     obtain⟨z,hz,hp⟩:=hpk _ rfl;refine fin z 0 hp ?_;unfold aA2 at HO;by_cases c:max x.c y.c=0
     .rw[aQ c]at HO;have hlz:Q_ x y=0:=by rw[hl,xB (by omega)]
      by_cases cs:x.s=y.s
      .have:qO x y=0:=by unfold qO;rw[aH (by simp[cs]),hlz];split<;>rfl
       rw[this]at hz;exact NS f a b _ _ _ _ _ _ _ _ 0 l true rfl (by simp[cs]) rfl z hz Qp TN fM gK qP vw HO w
      .have:qO x y=y.s-x.s:=by unfold qO;rw[aQ cs]
       rw[this]at hz;exact Xq f a b _ _ _ _ _ _ _ _ 0 l _ rfl (by simp[cs]) _ (ZR x01 y01) rfl z hz Qp TN fM gK qP vw HO w
     .rw[aH c]at HO;by_cases c0:qO x y=0
      .have cs:x.s=y.s:=by
        rcases(om:x.s=y.s\/x.s≠y.s)with h|h
        .exact h
        .unfold qO at c0;rw[aQ h]at c0;omega
       rw[c0]at hz HO;exact NS f a b _ _ _ _ _ _ _ _ 0 l true rfl (by simp[cs]) rfl z hz Qp TN fM gK qP vw HO w
      .exact aDF f a b _ _ _ _ _ _ _ _ (qO x y) l _ (by simp[c0]) rfl z hz Qp TN fM gK qP vw HO w
   .refine fin nan 1 ?_ (aAD f a b nan 1 l (λw=>gJ hF a a0 fa w) (λw=>jH f b b0 (.inr (U4 hF b1 om)) w) (λw=>dA hF w) w);have:=jM hF hy (by omega);subst this;unfold lC;rw[if_pos (by dsimp only;omega)];exact jI (by dsimp only;omega)
  .refine fin nan 1 ?_ (NT f a b nan 1 l (λw=>jH f a a0 (.inr (U4 hF a1 om)) w) (λw=>dA hF w) w);have:=jM hF hx (by omega);subst this;unfold lC;rw[if_pos (by dsimp only;omega)];exact jI (by dsimp only;omega)
 .refine(NT f a b _ 1 l (λw=>jH f a a0 (.inl hf) w) (λw=>nK f hf w) w).mono ?_;rintro e w' ⟨rfl,hg⟩;exact⟨_,_,.inr (.inr ⟨hf,rfl,rfl⟩),rfl,hg⟩
def O4(f a b:Int)(R:Int->Int->Prop)(HC:Hid (∀w',Gr w w'->CT 81 #[J f,J 0,.func (.func 97) #[] #[],Y a,Y b] w' (yG R w'))):
  CT 39 #[J f,Y a,Y b] w (yG R w):=by
 go_enter func39,ntmps39;go_wp2_with (go_at_call 81;refine(HC _ Gr.g).mono ?_;rintro e w1 ⟨z,fl,hr,rfl,au⟩;have iy:=au.bK w);refine gY (v:=aU z fl) (by simp[results,results39,go_sem,iy]) rfl ⟨z,fl,hr,rfl,?_⟩;exact Gr.g
def NK(f a b:Int)(R:Int->Int->Prop)(HC:Hid (∀w,CT 158 #[J f,Y a,Y b,.bool true] w (yG R w)))(w:ak):
  CT 72 #[J f,Y a,Y b] w (E8 R w):=by
 go_enter func72,ntmps72;go_wp2_with (go_at_call 158;refine(HC _).mono ?_;rintro e w1 ⟨z,fl,hr,rfl,au⟩;have iy:=au.bK w);refine gY (v:=aU z fl) (by simp[results,results72,go_sem,iy]) rfl ⟨z,fl,hr,rfl,?_⟩;exact Gb.g
def LP(f a b:Int)(a0:0<=a)(a1:aI a)(b0:0<=b)(b1:aI b)(w:ak)(hw:Fm w):
  CT 39 #[J f,Y a,Y b] w λe w'=>∃Z fl,um (λ_=>lC true) f 0 a b Z fl/\e=O (aU Z fl)/\Gr w w':=by
 refine O4 f a b (um (λ_=>lC true) f 0 a b) (λw' hg=>?_);have Bo:=hw.gr hg;by_cases hf:f=0\/f=1
 .obtain⟨p,mx,one,aN,sg,nan,hF⟩:=fQ f hf;obtain⟨mn,fb,sp,hM,Ce,Ru⟩:=hF.m;obtain⟨k,hk⟩:=mP 0 om om;obtain⟨x,hx,HA⟩:=jP hF hM a a0 a1;obtain⟨y,hy,HB⟩:=jP hF hM b b0 b1;obtain⟨v1,v2,v3,v4,v5,v6⟩:=bU hF hx;obtain⟨u1,u2,u3,u4,u5,u6⟩:=bU hF hy;refine(zi p mn mx 0 f k 97 a b _ _ _ _ _ _ _ _ _ _ _ _ (λbf dY=>eX hF hM 0 k (λw=>iI 0 k hk w) (Bo.gr dY)) HA HB (λos oe oc oh ol ot of=>rF (lC true x y) os oe oc oh ol ot/\of=0) (λw=>?_) (cZ p mn mx one aN sg nan 0 (lC true x y)) (λos oe oc oh ol ot of w hq=>by obtain⟨hq,rfl⟩:=hq;exact qB hM 0 k hk _ os oe oc oh ol ot hq w)).mono ?_
  .by_cases cn:3<=max x.c y.c
   .have hp:lC true x y=⟨max x.c y.c,0,0,0⟩:=by unfold lC;rw[aQ cn]
    exact aMu
   .have hO:KR 190 #[iP x.s x.e x.c x.M X 0,iP y.s y.e y.c y.M X 0] (J (qO x y)):=λw=>Hw x y v1 u1 om om w;refine IE p mn mx 0 k _ _ _ _ _ _ _ _ _ _ _ _ (max x.c y.c) rfl om _ (λw=>?_) w;unfold lC;rw[aH cn,aQ rfl];by_cases c:qO x y<=0
    .rw[aQ c];refine(aA8 p mn mx 0 k _ _ _ _ _ _ _ _ _ _ _ _ _ (h_ c) hO w).mono ?_;rintro e w' ⟨rfl,hg⟩;exact⟨_,_,_,_,_,_,_,⟨v1.same,rfl⟩,rfl,hg⟩
    .rw[aH c];refine(aA7 p mn mx 0 k _ _ _ _ _ _ _ _ _ _ _ _ _ (gV c) hO w).mono ?_;rintro e w' ⟨rfl,hg⟩;exact⟨_,_,_,_,_,_,_,⟨u1.same,rfl⟩,rfl,hg⟩
  .exact aMs
 .refine(lV _ _ _ _ _ f 0 a b (λbf dY=>eG f 0 hf (Bo.gr dY)) (λw=>dF m64 w) 97).mono ?_;exact aFX
def aHD(f a b:Int)(a0:0<=a)(a1:aI a)(b0:0<=b)(b1:aI b):
  ∃Z fl:Int,um (λ_=>lC true) f 0 a b Z fl/\(∀w,QB 72 #[J f,Y a,Y b] w (aU Z fl))/\
   (∀w,Fm w->QR 39 #[J f,Y a,Y b] w (aU Z fl)):=by
 refine Gj (λ_ _ _ _ h h'=>um.one h h') ?_ (λw=>NK f a b _ (λw=>EY true f a b a0 a1 b0 b1 w) w) (LP f a b a0 a1 b0 b1);by_cases hf:f=0\/f=1
 .obtain⟨p,mx,one,aN,sg,nan,hF⟩:=fQ f hf;obtain⟨x,hx⟩:=fH hF a a0 a1;obtain⟨y,hy⟩:=fH hF b b0 b1;obtain⟨r1,r2⟩:=aCs true x y (bU hF hx).1 (bU hF hy).1;exact aMt
 .exact⟨_,_,.inr (.inr ⟨hf,rfl,rfl⟩)⟩
def O5(f a b:Int)(R:Int->Int->Prop)(HC:Hid (∀w',Gr w w'->CT 81 #[J f,J 0,.func (.func 98) #[] #[],Y a,Y b] w' (yG R w'))):
  CT 40 #[J f,Y a,Y b] w (yG R w):=by
 go_enter func40,ntmps40;go_wp2_with (go_at_call 81;refine(HC _ Gr.g).mono ?_;rintro e w1 ⟨z,fl,hr,rfl,au⟩;have iy:=au.bK w);refine gY (v:=aU z fl) (by simp[results,results40,go_sem,iy]) rfl ⟨z,fl,hr,rfl,?_⟩;exact Gr.g
def NM(f a b:Int)(R:Int->Int->Prop)(HC:Hid (∀w,CT 158 #[J f,Y a,Y b,.bool X] w (yG R w)))(w:ak):
  CT 73 #[J f,Y a,Y b] w (E8 R w):=by
 go_enter func73,ntmps73;go_wp2_with (go_at_call 158;refine(HC _).mono ?_;rintro e w1 ⟨z,fl,hr,rfl,au⟩;have iy:=au.bK w);refine gY (v:=aU z fl) (by simp[results,results73,go_sem,iy]) rfl ⟨z,fl,hr,rfl,?_⟩;exact Gb.g
def LQ(f a b:Int)(a0:0<=a)(a1:aI a)(b0:0<=b)(b1:aI b)(w:ak)(hw:Fm w):
  CT 40 #[J f,Y a,Y b] w λe w'=>∃Z fl,um (λ_=>lC X) f 0 a b Z fl/\e=O (aU Z fl)/\Gr w w':=by
 refine O5 f a b (um (λ_=>lC X) f 0 a b) (λw' hg=>?_);have Bo:=hw.gr hg;by_cases hf:f=0\/f=1
 .obtain⟨p,mx,one,aN,sg,nan,hF⟩:=fQ f hf;obtain⟨mn,fb,sp,hM,Ce,Ru⟩:=hF.m;obtain⟨k,hk⟩:=mP 0 om om;obtain⟨x,hx,HA⟩:=jP hF hM a a0 a1;obtain⟨y,hy,HB⟩:=jP hF hM b b0 b1;obtain⟨v1,v2,v3,v4,v5,v6⟩:=bU hF hx;obtain⟨u1,u2,u3,u4,u5,u6⟩:=bU hF hy;refine(zi p mn mx 0 f k 98 a b _ _ _ _ _ _ _ _ _ _ _ _ (λbf dY=>eX hF hM 0 k (λw=>iI 0 k hk w) (Bo.gr dY)) HA HB (λos oe oc oh ol ot of=>rF (lC X x y) os oe oc oh ol ot/\of=0) (λw=>?_) (cZ p mn mx one aN sg nan 0 (lC X x y)) (λos oe oc oh ol ot of w hq=>by obtain⟨hq,rfl⟩:=hq;exact qB hM 0 k hk _ os oe oc oh ol ot hq w)).mono ?_
  .by_cases cn:3<=max x.c y.c
   .have hp:lC X x y=⟨max x.c y.c,0,0,0⟩:=by unfold lC;rw[aQ cn]
    exact aMu
   .have hO:KR 190 #[iP x.s x.e x.c x.M X 0,iP y.s y.e y.c y.M X 0] (J (qO x y)):=λw=>Hw x y v1 u1 om om w;refine Gf p mn mx 0 k _ _ _ _ _ _ _ _ _ _ _ _ (max x.c y.c) rfl om _ (λw=>?_) w;unfold lC;rw[aH cn,aH (by decide)];by_cases c:0<=qO x y
    .rw[aQ c];refine(YM p mn mx 0 k _ _ _ _ _ _ _ _ _ _ _ _ _ (h_ c) hO w).mono ?_;rintro e w' ⟨rfl,hg⟩;exact⟨_,_,_,_,_,_,_,⟨v1.same,rfl⟩,rfl,hg⟩
    .rw[aH c];refine(YL p mn mx 0 k _ _ _ _ _ _ _ _ _ _ _ _ _ (gV c) hO w).mono ?_;rintro e w' ⟨rfl,hg⟩;exact⟨_,_,_,_,_,_,_,⟨u1.same,rfl⟩,rfl,hg⟩
  .exact aMs
 .refine(lV _ _ _ _ _ f 0 a b (λbf dY=>eG f 0 hf (Bo.gr dY)) (λw=>dF m64 w) 98).mono ?_;exact aFX
def aHE(f a b:Int)(a0:0<=a)(a1:aI a)(b0:0<=b)(b1:aI b):
  ∃Z fl:Int,um (λ_=>lC X) f 0 a b Z fl/\(∀w,QB 73 #[J f,Y a,Y b] w (aU Z fl))/\
   (∀w,Fm w->QR 40 #[J f,Y a,Y b] w (aU Z fl)):=by
 refine Gj (λ_ _ _ _ h h'=>um.one h h') ?_ (λw=>NM f a b _ (λw=>EY X f a b a0 a1 b0 b1 w) w) (LQ f a b a0 a1 b0 b1);by_cases hf:f=0\/f=1
 .obtain⟨p,mx,one,aN,sg,nan,hF⟩:=fQ f hf;obtain⟨x,hx⟩:=fH hF a a0 a1;obtain⟨y,hy⟩:=fH hF b b0 b1;obtain⟨r1,r2⟩:=aCs X x y (bU hF hx).1 (bU hF hy).1;exact aMt
 .exact⟨_,_,.inr (.inr ⟨hf,rfl,rfl⟩)⟩
def Lu(f a b:Int)(s:Bool)(a0:0<=a)(a1:aI a)(b0:0<=b)(b1:aI b)(w:ak):
  CT 74 #[J f,Y a,Y b,.bool s] w λe w'=>∃r fl,DW f a b s r fl/\e=O (.tuple #[J r,J fl])/\Gr w w':=by
 by_cases hf:f=0\/f=1
 .obtain⟨p,mx,one,aN,sg,nan,hF⟩:=fQ f hf;obtain⟨x,hx⟩:=fH hF a a0 a1;obtain⟨y,hy⟩:=fH hF b b0 b1;obtain⟨v1,v2,v3,v4,v5,v6⟩:=bU hF hx;obtain⟨u1,u2,u3,u4,u5,u6⟩:=bU hF hy;have xc0:=v1.c0;have xc4:=v1.c4;have yc0:=u1.c0;have yc4:=u1.c4;have fin:∀r fl,GH x y s r fl->(QR 74 #[J f,Y a,Y b,.bool s] w (.tuple #[J r,J fl]))->CT 74 #[J f,Y a,Y b,.bool s] w λe w'=>∃r fl,DW f a b s r fl/\e=O (.tuple #[J r,J fl])/\Gr w w':=λr fl hc h=>h.mono (λe w' ⟨h1,h2⟩=>⟨r,fl,.inl ⟨p,mx,one,aN,sg,nan,x,y,hF,hx,hy,hc⟩,h1,h2⟩);by_cases fa:a<2*sg
  .by_cases fb:b<2*sg
   .have Qp:fF f a true:=λw=>gJ hF a a0 fa w;have TN:fF f b true:=λw=>gJ hF b b0 fb w;have fM:=ji hF a a0 fa hx;have gK:=ji hF b b0 fb hy;have HQ:∀(z:d_) (t:Bool),t=decide (3<=z.c)->bY z.c z.s z.e (((z.M:Nat):Int)) t:=λz t ht w=>jf _ _ _ _ t ht w;by_cases cn:3<=max x.c y.c
    .refine fin 2 (if s||decide (x.c=4)||decide (y.c=4)then 1 else 0) ?_ (aGR f a b _ _ _ _ _ _ _ _ _ s (decide (3<=x.c)) (decide (3<=y.c)) jA (decide (x.c=4)) (decide (y.c=4)) (bq _ _) (bq _ _) rfl Qp TN fM gK (HQ x _ rfl) (HQ y _ rfl) w);unfold GH;by_cases c4:max x.c y.c=4
     .refine .inl ⟨c4,rfl,?_⟩;rw[aQ];have:x.c=4\/y.c=4:=om;simp only[Bool.or_eq_true,decide_eq_true_eq];omega
     .have e1:decide (x.c=4)=X:=jA;have e2:decide (y.c=4)=X:=jA;rw[e1,e2];cases s
      .exact .inr (.inr (.inl ⟨om,rfl,rfl,rfl⟩))
      .exact .inr (.inl ⟨om,rfl,rfl,rfl⟩)
    .refine fin (aA2 x y) 0 ?_ (aGQ f a b _ _ _ _ _ _ _ _ _ s Qp TN fM gK (HQ x X jA) (HQ y X jA) (λw=>Kw hF a0 b0 hx hy om om w) w);unfold GH aA2;by_cases c:max x.c y.c=0
     .rw[aQ c];exact .inr (.inr (.inr (.inl ⟨c,rfl,rfl⟩)))
     .rw[aH c];exact .inr (.inr (.inr (.inr ⟨om,rfl,rfl⟩)))
   .refine fin 2 1 (.inl ⟨?_,rfl,rfl⟩) (aD2 f a b s (λw=>gJ hF a a0 fa w) (λw=>jH f b b0 (.inr (U4 hF b1 om)) w) w);have:=jM hF hy (by omega);subst this;dsimp only at*;omega
  .refine fin 2 1 (.inl ⟨?_,rfl,rfl⟩) (R_ f a b s (λw=>jH f a a0 (.inr (U4 hF a1 om)) w) w);have:=jM hF hx (by omega);subst this;dsimp only at*;omega
 .refine(R_ f a b s (λw=>jH f a a0 (.inl hf) w) w).mono ?_;rintro e w' ⟨rfl,hg⟩;exact⟨2,1,.inr ⟨hf,rfl,rfl⟩,rfl,hg⟩
def VK(f a b:Int)(s:Bool)(a0:0<=a)(a1:aI a)(b0:0<=b)(b1:aI b):
  ∃r fl:Int,DW f a b s r fl/\(∀w,QR 74 #[J f,Y a,Y b,.bool s] w (.tuple #[J r,J fl]))/\
   (∀w,Fm w->QR 101 #[J f,Y a,Y b,.bool s] w (.tuple #[J r,J fl])):=by
 have hex:∃r fl:Int,DW f a b s r fl:=by
  by_cases hf:f=0\/f=1
  .obtain⟨p,mx,one,aN,sg,nan,hF⟩:=fQ f hf;obtain⟨x,hx⟩:=fH hF a a0 a1;obtain⟨y,hy⟩:=fH hF b b0 b1;obtain⟨r,fl,h⟩:=GH.ex x y (bU hF hx).1 (bU hF hy).1 s;exact⟨r,fl,.inl ⟨p,mx,one,aN,sg,nan,x,y,hF,hx,hy,h⟩⟩
  .exact⟨2,1,.inr ⟨hf,rfl,rfl⟩⟩
 obtain⟨r,fl,h⟩:=hex;refine⟨r,fl,h,λw=>(Lu f a b s a0 a1 b0 b1 w).mono ?_,λw hw=>(LV f a b s a0 a1 b0 b1 w hw).mono ?_⟩
 .rintro e w' ⟨r',qQ,h',rfl,hg⟩;obtain⟨rfl,rfl⟩:=DW.one h h';exact⟨rfl,hg⟩
 .rintro e w' ⟨r',qQ,h',rfl,hg⟩;obtain⟨rfl,rfl⟩:=DW.one h h';exact⟨rfl,hg⟩
