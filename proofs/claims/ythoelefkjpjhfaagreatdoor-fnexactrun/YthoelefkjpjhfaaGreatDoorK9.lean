import Derived.Test.YthoelefkjpjhfaaGreatDoorK7
import Derived.Test.YthoelefkjpjhfaaGreatDoorK8
import Derived.Test.YthoelefkjpjhfaaGreatDoorM3
set_option linter.all false
open Bool renaming false → X
open Go.Proofs.YthoelefkjpjhfaaGreatDoor renaming vI → J, vU → Y
open Go.Ending renaming returned → O
open Go.Proofs.Tryz
namespace Go.Proofs.YthoelefkjpjhfaaGreatDoor
open Go.RowKit
variable{p f mx one aI sg nan a mn fb sp b s t:Int}{A B C Pn L k:Nat}{w:World}
def aF8(md:Int):(Pg md).s =0\/(Pg md).s =1:=by
 unfold Pg;dsimp only;split
 .exact .inr rfl
 .exact .inl rfl
def aAS(md:Int)(x y:dM)(hx:x.s=0\/x.s=1)(hy:y.s=0\/y.s=1):((xC md x y).c =0\/(xC md x y).c =1)/\((xC md x y).s =0\/(xC md x y).s =1):=by
 unfold xC;split
 .exact⟨.inr rfl,hx⟩
 .split
  .exact⟨.inl rfl,aF8 md⟩
  .split
   .exact⟨.inr rfl,hx⟩
   .exact⟨.inr rfl,hy⟩
def sum_any(p mn mx md:Int)(k:Nat)(x y:dM)(hx:VO x)(hy:VO y)(h2:max x.c y.c<3)(w:World):
  CT 82 #[dN p mn mx md k,aU x.s x.e x.c (((x.M/18446744073709551616:Nat):Int)) (((x.M%18446744073709551616:Nat):Int)) X 0,aU y.s y.e y.c (((y.M/18446744073709551616:Nat):Int)) (((y.M%18446744073709551616:Nat):Int)) X 0] w λe w'=>∃os oe oc oh ol ot,pG (jy md x y) os oe oc oh ol ot/\e=O (aU os oe oc oh ol ot 0)/\Gr w w':=by
 have c0:=hx.c0;have d0:=hy.c0;unfold jy;rw[if_neg (om:¬3<=max x.c y.c)];by_cases c1:y.c<x.c
 .rw[if_pos c1];refine(aMk p mn mx md k _ _ _ _ _ _ _ _ _ _ _ _ c1 w).mono ?_;rintro r w' ⟨rfl,hg⟩;exact⟨_,_,_,_,_,_,hx.same,rfl,hg⟩
 .rw[if_neg c1];by_cases c2:x.c<y.c
  .rw[if_pos c2];refine(sum_lt p mn mx md k _ _ _ _ _ _ _ _ _ _ _ _ c2 w).mono ?_;rintro r w' ⟨rfl,hg⟩;exact⟨_,_,_,_,_,_,hy.same,rfl,hg⟩
  .rw[if_neg c2];by_cases c3:x.c=1
   .rw[if_pos c3];refine(aIc p mn mx md k _ _ _ _ _ _ _ _ _ _ _ _ c3 om (λos oe oc oh ol ot=>pG (xC md x y) os oe oc oh ol ot) (λw=>?_) w).mono (λe w' h=>h);refine(total_any p mn mx md k x y hx hy c3 om w).mono ?_;rintro r w' ⟨c,s,e,M,st,hsm,rfl,hg⟩;obtain⟨t1,t2⟩:=aAS md x y hx.jM hy.jM;have tc:=hsm.1;exact⟨_,_,_,_,_,_,⟨M,rfl,rfl,hsm,om,om,λhc=>by rw[<-hsm.2.1 hc];exact t2⟩,rfl,hg⟩
   .rw[if_neg c3];by_cases c4:x.s=y.s
    .rw[if_pos c4];refine(aMj p mn mx md k _ _ _ _ _ _ _ _ _ _ _ _ om (by simp[c3]) c4 w).mono ?_;rintro r w' ⟨rfl,hg⟩;exact⟨_,_,_,_,_,_,hx.same,rfl,hg⟩
    .rw[if_neg c4];by_cases c5:x.c=2
     .rw[if_pos c5];refine(aId p mn mx md k _ _ _ _ _ _ _ _ _ _ _ _ c5 om (by simp[c4]) w).mono ?_;rintro r w' ⟨rfl,hg⟩;exact⟨_,_,_,_,_,_,⟨0,rfl,rfl,⟨rfl,λ_=>rfl,(λh=>by cases h)⟩,(om:(0:Int)<=4),(om:(4:Int)<=4),λ_=>.inl rfl⟩,rfl,hg⟩
     .rw[if_neg c5];refine(sum_nil p mn mx md k _ _ _ _ _ _ _ _ _ _ _ _ om om (by simp[c4]) _ _ _ _ _ _ (λw=>IU p mn mx md k w) w).mono ?_;rintro r w' ⟨rfl,hg⟩;exact⟨_,_,_,_,_,_,⟨0,rfl,rfl,V8 md,om,om,λ_=>aF8 md⟩,rfl,hg⟩
def VO.turn{x:dM}(h:VO x):VO (xY x):=⟨h.c0,h.c4,by have:=h.jM;unfold xY;dsimp only;omega,h.fin,h.nil,h.e0,h.e1⟩
def n_(md:Int)(x y:dM)(h:3<=max x.c y.c):jy md x y=⟨max x.c y.c,0,0,0⟩:=by unfold jy;rw[if_pos h]
def yu(p mn mx md:Int)(k:Nat)(x y:dM)(hx:VO x)(hy:VO y)(w:World):
  CT 173 #[dN p mn mx md k,.func (.func 82) #[] #[],aU x.s x.e x.c (((x.M/18446744073709551616:Nat):Int)) (((x.M%18446744073709551616:Nat):Int)) X 0,aU y.s y.e y.c (((y.M/18446744073709551616:Nat):Int)) (((y.M%18446744073709551616:Nat):Int)) X 0] w λe w'=>∃os oe oc oh ol ot,pG (jy md x y) os oe oc oh ol ot/\e=O (aU os oe oc oh ol ot 0)/\Gr w w':=by
 by_cases h:3<=max x.c y.c
 .refine(jG p mn mx md k _ _ _ _ _ _ _ _ _ _ _ _ 82 _ rfl h w).mono ?_;rintro r w' ⟨rfl,hg⟩;have:=hx.c4;have:=hy.c4;rw[n_ md x y h];exact⟨_,_,_,_,_,_,Wh _ h om,rfl,hg⟩
 .exact Xu p mn mx md k _ _ _ _ _ _ _ _ _ _ _ _ _ rfl om _ (λw=>sum_any p mn mx md k x y hx hy om w) w
def aEw{P:Prop}(h:P:=by
 rintro e aT ⟨rfl,dL⟩;exact⟨_,_,.inr (.inr ⟨hf,rfl,rfl⟩),rfl,dL⟩):P:=h
def WO(f aj a b:Int)(a0:0<=a)(a1:aG a)(b0:0<=b)(b1:aG b)(w:World)(hw:Fm w):
  CT 26 #[J f,J aj,Y a,Y b] w λe w'=>∃Z fl,qZ jy f aj a b Z fl/\e=O (aP Z fl)/\Gr w w':=by
 refine ZR f aj a b (qZ jy f aj a b) (λw' hg=>?_);have y8:=hw.gr hg;by_cases hf:f=0\/f=1
 .obtain⟨p,mx,one,aI,sg,nan,hF⟩:=eX f hf;obtain⟨mn,fb,sp,hM,zU,PD⟩:=hF.m;by_cases hm:0<=aj/\aj<=4
  .obtain⟨k,hk⟩:=kW aj hm.1 hm.2;obtain⟨x,hx,HA⟩:=jf hF hM a a0 a1;obtain⟨y,hy,HB⟩:=jf hF hM b b0 b1;obtain⟨v1,v2,v3,v4,v5,v6⟩:=bK hF hx;obtain⟨u1,u2,u3,u4,u5,u6⟩:=bK hF hy;refine(TS p mn mx aj f k 82 a b _ _ _ _ _ _ _ _ _ _ _ _ (λaT dL=>dV hF hM aj k (λw=>gW aj k hk w) (y8.gr dL)) HA HB (pG (jy aj x y)) (λw=>yu p mn mx aj k x y v1 u1 w) (bY p mn mx one aI sg nan aj (jy aj x y)) (λos oe oc oh ol ot w hq=>oz hM aj k hk _ os oe oc oh ol ot hq w)).mono ?_;rintro e aT ⟨Z,fl,hp,rfl,dL⟩;rw[zU]at hp;exact⟨_,_,.inl ⟨p,mx,one,aI,sg,nan,x,y,hF,hm,hx,hy,hp⟩,rfl,dL⟩
  .refine(j_ p mn mx aj nan f aj a b (λaT dL=>gJ hF hM aj (λw=>jR aj om w) (y8.gr dL)) (λw=>dh hM w) 82).mono ?_;rintro e aT ⟨rfl,dL⟩;exact⟨_,_,.inr (.inl ⟨p,mx,one,aI,sg,nan,hF,om,rfl,rfl⟩),rfl,dL⟩
 .refine(j_ _ _ _ _ _ f aj a b (λaT dL=>dP f aj hf (y8.gr dL)) (λw=>dh m64 w) 82).mono ?_;exact aEw
def aKY{P:Prop}(h:P:=by
 split
 .exact⟨by dsimp only;omega,by dsimp only;omega⟩
 .split
  .exact⟨by dsimp only;omega,by dsimp only;omega⟩
  .split
   .exact⟨by dsimp only;omega,by dsimp only;omega⟩
   .exact⟨by dsimp only;omega,by dsimp only;omega⟩):P:=h
def Y8(p:Nat)(A B:Nat):Nat:=2*(A*2^(p+4)/B)+uy (decide (A*2^(p+4)%B≠0))
def divO(p aj:Int)(x y:dM):dM:=
 if 3<=max x.c y.c then⟨max x.c y.c,0,0,0⟩
 else if x.c=y.c/\x.c≠1 then⟨4,0,0,0⟩
 else if x.c=2 then⟨2,mulS x.s y.s,0,0⟩
 else if x.c=1/\y.c=0 then⟨5,mulS x.s y.s,0,0⟩
 else if x.c=1/\y.c=1 then⟨1,mulS x.s y.s,x.e-y.e-(p+4)-1,Y8 p.toNat x.M y.M⟩
 else⟨0,mulS x.s y.s,0,0⟩
def Ec(p aj:Int)(x y:dM)(h:3<=max x.c y.c):divO p aj x y=⟨max x.c y.c,0,0,0⟩:=by unfold divO;rw[if_pos h]
def aNE(p aj:Int)(x y:dM)(hx:VO x)(hy:VO y):0<=(divO p aj x y).c /\(divO p aj x y).c <=5:=by
 have:=hx.c0;have:=hx.c4;have:=hy.c0;have:=hy.c4;unfold divO;split
 .dsimp only;omega
 .split
  .exact⟨by dsimp only;omega,by dsimp only;omega⟩
  .exact aKY
def SG(s t:Int):mulS s t=0\/mulS s t=1:=by unfold mulS;split<;>simp
def Wi(s t:Int)(hs:s=0\/s=1)(ht:t=0\/t=1):(s+t).tmod 2=mulS s t/\(s+t)%2=mulS s t:=by
 rcases hs with rfl|rfl<;>rcases ht with rfl|rfl<;>decide
def Fa(hP:(Pn:Int)=p)(X9:1<=Pn)(hA:2^(Pn-1)<=A)(hB:B<2^Pn)(zY:0<B)(e:Int):
  0<A*2^(Pn+2)/B/\p+2<=(nb (A*2^(Pn+2)/B):Int)/\0<A*2^(Pn+4)/B/\p+2<=(nb (A*2^(Pn+4)/B):Int)/\
  (∀s mn mx one aI aj z fl,bH p mn mx one aI aj s (A*2^(Pn+2)/B) (e-(p+2)) (decide (A*2^(Pn+2)%B≠0)) z fl↔bH p mn mx one aI aj s (Y8 Pn A B) (e-(p+4)-1) X z fl)/\
  (∀s mn mx one aI aj z fl,bH p mn mx one aI aj s (A*2^(Pn+4)/B) (e-(p+4)) (decide (A*2^(Pn+4)%B≠0)) z fl↔bH p mn mx one aI aj s (Y8 Pn A B) (e-(p+4)-1) X z fl):=by
 have h1:2^(Pn+1)*B<=A*2^(Pn+2):=by
  have a1:2^(Pn+1)*B<=2^(Pn+1)*2^Pn:=Nat.mul_le_mul_left _ (Nat.le_of_lt hB);have a2:2^(Pn-1)*2^(Pn+2)<=A*2^(Pn+2):=Nat.mul_le_mul_right _ hA;rw[<-Nat.pow_add]at a1 a2;rw[(om:Pn-1+(Pn+2)=Pn+1+Pn)]at a2;omega
 have h2:2^(Pn+1)*B<=A*2^(Pn+4):=Nat.le_trans h1 (Nat.mul_le_mul_left _ (Nat.pow_le_pow_right de om));have n1:=aA0 A B (Pn+2) (Pn+1) zY h1;have n2:=aA0 A B (Pn+4) (Pn+1) zY h2;have p1:0<A*2^(Pn+2)/B:=by
  rcases Nat.eq_zero_or_pos (A*2^(Pn+2)/B)with c|c
  .rw[c,J4]at n1;omega
  .exact c
 have p2:0<A*2^(Pn+4)/B:=by
  rcases Nat.eq_zero_or_pos (A*2^(Pn+4)/B)with c|c
  .rw[c,J4]at n2;omega
  .exact c
 obtain⟨c1,c2⟩:=aIK A B (Pn+2) 2 zY;refine⟨p1,om,p2,om,λs mn mx one aI aj z fl=>?_,λs mn mx one aI aj z fl=>?_⟩
 .have h:=bH.cut (p:=p) (mn:=mn) (mx:=mx) (one:=one) (aI:=aI) (aj:=aj) (aJ:=s) (m:=A*2^(Pn+2+2)/B) (e:=e-(p+4)) (z:=z) (fl:=fl) 2 (decide (A*2^(Pn+2+2)%B≠0)) (by rw[c1];exact p1) om (by rw[c1];omega) (decide (A*2^(Pn+2)%B≠0)) c2.symm;rw[c1,(om:e-(p+4)+((2:Nat):Int)=e-(p+2))]at h;exact h
 .exact bH.rest _ p2 om om
def aAN{P:Prop}(h:P:=by
 rintro r w' ⟨rfl,hg⟩;exact⟨_,_,_,_,_,_,_,kZ.nan p 4 om om,rfl,hg⟩):P:=h
def ZT(n:Int):bits .and .i64 n 1=n%2:=by
 have h1:(BitVec.ofInt 64 1).toNat =2^1-1:=de;have h2:(BitVec.ofInt 64 n&&&BitVec.ofInt 64 1).toNat =(n%((2^64:Nat):Int)).toNat %2^1:=by
  rw[BitVec.toNat_and,BitVec.toNat_ofInt,h1,Nat.and_two_pow_sub_one_eq_mod]
 show IntKind.i64.wrap ((BitVec.ofInt 64 n&&&BitVec.ofInt 64 1).toNat :Nat)=n%2;rw[h2,IntKind.wrap_i64];omega
def gV:Nat->Nat
 |0=>0
 |m+1=>if(gV m+1)*(gV m+1)<=m+1 then gV m+1 else gV m
def Vs(m:Nat):qC m (gV m):=by
 induction m with
 |zero=>exact⟨Nat.zero_le _,de⟩
 |succ m ih=>
  obtain⟨h1,h2⟩:=ih;rw[gV];split
  .rename_i h
   refine⟨h,?_⟩;have:(gV m+1)*(gV m+1)+(gV m+1)+(gV m+1)+1=(gV m+1+1)*(gV m+1+1):=by
    simp only[Nat.add_mul,Nat.mul_add];omega
   omega
  .rename_i h
   exact⟨om,om⟩
def nH(p e:Int):Nat:=if(e-(p+8))%2=0 then p.toNat+8 else p.toNat+9
def sqM(P A:Nat):Nat:=2*gV (A*2^P)+uy (decide (gV (A*2^P)*gV (A*2^P)≠A*2^P))
def oW(p aj:Int)(x y:dM):dM:=
 if 3<=x.c then⟨x.c,0,0,0⟩
 else if x.c=0 then⟨0,x.s,0,0⟩
 else if x.s=1 then⟨4,0,0,0⟩
 else if x.c=2 then⟨2,0,0,0⟩
 else⟨1,0,(x.e-nH p x.e)/2-1,sqM (nH p x.e) x.M⟩
def aIh(p aj:Int)(x y:dM)(hx:VO x)(hy:VO y):0<=(oW p aj x y).c /\(oW p aj x y).c <=5:=by
 have:=hx.c0;have:=hx.c4;unfold oW;split
 .dsimp only;omega
 .exact aKY
def aFx(h:qC A C)(hA:2^(2*k)<=A):2^k<=C:=by
 have h1:2^k*2^k<(C+1)*(C+1):=by
  rw[<-Nat.pow_add,(om:k+k=2*k)];exact Nat.lt_of_le_of_lt hA h.2
 have:=qQ h1;omega
def LK(hP:(Pn:Int)=p)(X9:1<=Pn)(Tz:Pn<=53)(hA:2^(Pn-1)<=A)(hA2:A<2^Pn)(e hi hq:Int)(od:Nat)(hhi:e+(p-1)=hi)(hod:hi%2=(od:Int))(hhq:hi/2=hq):
  ∃(C:Nat) (st:Bool),C=dC cZ (A*2^(61-Pn+od)) (Pn+3)/\st=decide (dR cZ (A*2^(61-Pn+od)) (Pn+2)≠0)/\0<C/\aG C/\p+2<=(nb C:Int)/\0<gV (A*2^nH p e)/\p+2<=(nb (gV (A*2^nH p e)):Int)/\
  (∀s mn mx one aI aj z fl,bH p mn mx one aI aj s C (hq-(p+2)) st z fl↔bH p mn mx one aI aj s (sqM (nH p e) A) ((e-nH p e)/2-1) X z fl)/\
  (∀s mn mx one aI aj z fl,bH p mn mx one aI aj s (gV (A*2^nH p e)) ((e-nH p e)/2) (decide (gV (A*2^nH p e)*gV (A*2^nH p e)≠A*2^nH p e)) z fl↔bH p mn mx one aI aj s (sqM (nH p e) A) ((e-nH p e)/2-1) X z fl):=by
 have aR5:od<=1:=om;obtain⟨t,ht1,hPl,het⟩:∃t:Nat,1<=t/\nH p e=Pn+5+od+2*t/\(e-nH p e)/2+(t:Int)=hq-(p+2):=by
  unfold nH;by_cases c:(e-(p+8))%2=0
  .rw[if_pos c];exact⟨1,om,om,om⟩
  .rw[if_neg c];exact⟨2,om,om,om⟩
 obtain⟨q1,q2,q3⟩:=LP A Pn od X9 Tz aR5 hA2;have hr:=Vs (A*2^nH p e);have e1:A*2^nH p e=A*2^(Pn+5+od)*2^(2*t):=by rw[hPl,Nat.pow_add,Nat.mul_assoc]
 have qU:=hr;rw[e1]at qU;rw[<-e1]at qU;obtain⟨C,hC⟩:=x_n (dC cZ (A*2^(61-Pn+od)) (Pn+3));rw[<-hC]at q1 q2 q3;have sc:gV (A*2^nH p e)/2^t=C/\(decide (gV (A*2^nH p e)%2^t≠0)||decide (gV (A*2^nH p e)*gV (A*2^nH p e)≠A*2^(Pn+5+od)*2^(2*t)))=decide (C*C≠A*2^(Pn+5+od)):=by
  refine qC.scale t q1 ?_;rw[<-e1];exact hr
 rw[<-e1]at sc;obtain⟨s1,s2⟩:=sc;have aGJ:2^(Pn+2)<=C:=by
  refine aFx q1 ?_;have a1:2^(Pn-1)*2^(Pn+5+od)<=A*2^(Pn+5+od):=Nat.mul_le_mul_right _ hA;rw[<-Nat.pow_add]at a1;exact Nat.le_trans (Nat.pow_le_pow_right de om) a1
 have hnC:=yg aGJ;have hC0:0<C:=Nat.lt_of_lt_of_le (Nat.pow_pos de) aGJ;have hCr:C<=gV (A*2^nH p e):=by rw[<-s1];exact Nat.div_le_self _ _
 have hnr:=yg (Nat.le_trans aGJ hCr);refine⟨C,_,hC,rfl,hC0,q3,om,om,om,λs mn mx one aI aj z fl=>?_,λs mn mx one aI aj z fl=>?_⟩
 .have h:=bH.cut (p:=p) (mn:=mn) (mx:=mx) (one:=one) (aI:=aI) (aj:=aj) (aJ:=s) (m:=gV (A*2^nH p e)) (e:=(e-nH p e)/2) (z:=z) (fl:=fl) t (decide (gV (A*2^nH p e)*gV (A*2^nH p e)≠A*2^nH p e)) (by rw[s1];exact hC0) om (by rw[s1];omega) (decide (dR cZ (A*2^(61-Pn+od)) (Pn+2)≠0)) (by rw[s2,decide_eq_decide];exact q2);rw[s1,het]at h;exact h
 .exact bH.rest _ om om om
def KX(hF:bD f p mx one aI sg nan)(hM:wQ p mn mx fb sp one aI sg nan)(md:Int)(k:Nat){x y:dM}(hx:dF p mx one aI sg nan a x)(h3:x.c<3)(w:World):
  CT 88 #[dN p mn mx md k,aU x.s x.e x.c (((x.M/18446744073709551616:Nat):Int)) (((x.M%18446744073709551616:Nat):Int)) X 0,aU y.s y.e y.c (((y.M/18446744073709551616:Nat):Int)) (((y.M%18446744073709551616:Nat):Int)) X 0] w λe w'=>∃os oe oc oh ol ot of,kZ p (oW p md x y) os oe oc oh ol ot of/\e=O (aU os oe oc oh ol ot of)/\Gr w w':=by
 obtain⟨v1,v2,v3,v4,v5,v6⟩:=bK hF hx;have hpb:24<=p/\p<=53:=by have:=hF.bounds;omega
 have PD:fb=p-1:=by rcases hM with h|h<;>omega
 have c0:=v1.c0;have jM:=v1.jM;unfold oW;rw[if_neg (om:¬3<=x.c)];by_cases cz:x.c=0
 .rw[if_pos cz];have hM0:x.M=0:=v3 om;rw[cz,hM0];refine(Jq p mn mx md k _ _ 0 _ _ _ _ _ _ _ _ _ w).mono ?_;rintro r w' ⟨rfl,hg⟩;exact⟨_,_,_,_,_,_,_,kZ.flat p _ _ _ 0 _ rfl om om om (λ_=>⟨rfl,jM⟩),rfl,hg⟩
 .rw[if_neg cz];by_cases cs:x.s=1
  .rw[if_pos cs,cs];rcases(om:x.c=1\/x.c=2)with c|c
   .rw[c];refine(Js p mn mx md k 0 _ 0 _ _ _ _ _ _ _ _ _ w).mono ?_;exact aAN
   .rw[c];refine(Jr p mn mx md k 0 _ 0 _ _ _ _ _ _ _ _ _ w).mono ?_;exact aAN
  .rw[if_neg cs];have s0:x.s=0:=om;rw[s0];by_cases ci:x.c=2
   .rw[if_pos ci,ci];have hM0:x.M=0:=v3 om;rw[hM0];refine(KU p mn mx md k 0 _ 0 _ _ _ _ _ _ _ _ _ w).mono ?_;rintro r w' ⟨rfl,hg⟩;exact⟨_,_,_,_,_,_,_,kZ.flat p _ _ _ 2 _ rfl om om om (λ_=>⟨rfl,.inl rfl⟩),rfl,hg⟩
   .have c1:x.c=1:=om;rw[if_neg ci,c1];obtain⟨Pn,hP,X9,Tz,hA,hA2⟩:=qH hF hx c1;obtain⟨od,hod⟩:∃od:Nat,(x.e+(p-1))%2=(od:Int):=⟨((x.e+(p-1))%2).toNat,om⟩;obtain⟨C,st,hC,hst,r1,r2,r3,r4,r5,r6,r7⟩:=LK hP X9 Tz hA hA2 x.e _ _ od rfl hod rfl;have hN:x.M*2^(61-Pn+od)<18446744073709551616:=by
     have h1:x.M*2^(61-Pn+od)<2^Pn*2^(61-Pn+od):=Nat.mul_lt_mul_of_pos_right hA2 (Nat.pow_pos de);rw[<-Nat.pow_add]at h1;have h2:2^(Pn+(61-Pn+od))<=2^62:=Nat.pow_le_pow_right de om;have h3:2^62<18446744073709551616:=de;omega
    have hwr:IntKind.u64.wrap (((x.M%18446744073709551616:Nat):Int)*2^((61-p+od:Int)).toNat)=((x.M*2^(61-Pn+od):Nat):Int):=by
     rw[Nat.mod_eq_of_lt om,(om:((61-p+od:Int)).toNat =61-Pn+od),IntKind.wrap_u64];rw[Int.natCast_mul,Int.natCast_pow];have:=hN;rw[show((x.M:Int)*((2:Nat):Int)^(61-Pn+od))=((x.M*2^(61-Pn+od):Nat):Int) by rw[Int.natCast_mul,Int.natCast_pow]];rw[show((x.M:Int)*2^(61-Pn+od))=((x.M*2^(61-Pn+od):Nat):Int) by rw[Int.natCast_mul,Int.natCast_pow];rfl];omega
    refine(KT p mn mx md k x.e _ _ _ _ _ _ _ _ _ fb (x.e+(p-1)) od (61-p) (61-p+od) ((x.e+(p-1))/2) (x.M*2^(61-Pn+od)) hN om om om om (by rw[PD,IntKind.wrap_i64];omega) (by rw[ZT];exact hod) (by rw[PD,IntKind.wrap_i64];omega) (by rw[IntKind.wrap_i64];omega) om om hwr rfl om om om om (λw=>vk hM w) 0 ((x.e+(p-1))/2-(p+2)) 1 0 _ _ (λw v hd=>aBw p mn mx md k 0 ((x.e+(p-1))/2) om om om om hN hd (Pn+3) om) w).mono ?_;rintro r w' ⟨rfl,hg⟩;refine⟨_,_,_,_,_,_,_,.inl ⟨C,?_,?_,rfl,rfl,(om:(0:Int)<=1),(om:(1:Int)<=4),λ_=>⟨rfl,.inl rfl⟩,λ_=>⟨r1,om,λ_=>r3,om,om,λmn mx one aI aj z fl=>?_⟩⟩,rfl,hg⟩
    .rw[Nat.div_eq_of_lt r2];rfl
    .rw[Nat.mod_eq_of_lt r2,hC]
    .rw[show Pn+3-1=Pn+2 from rfl,<-hst];exact r6 _ _ _ _ _ _ _ _
def U8(h:bD f p mx one aI sg nan)(aj a b:Int)(hm:0<=aj/\aj<=4)(a0:0<=a)(fa:a<2*sg)(b0:0<=b)(fb:b<2*sg){x y:dM}(hx:dF p mx one aI sg nan a x)(hy:dF p mx one aI sg nan b y)(cx:x.c=1)(cy:y.c=1)(w:World):
  CT 66 #[J f,J aj,Y a,Y b] w λe w'=>∃Z fl,oK p (1-mx) mx one aI sg nan aj ⟨1,mulS x.s y.s,x.e-y.e-(p+4)-1,Y8 p.toNat x.M y.M⟩ Z fl/\e=O (aP Z fl)/\Gb w w':=by
 obtain⟨v1,v2,v3,v4,v5,v6⟩:=bK h hx;obtain⟨u1,u2,u3,u4,u5,u6⟩:=bK h hy;have hb:=h.bounds;have I9:=SG x.s y.s;obtain⟨AU,JI⟩:=Wi x.s y.s v1.jM u1.jM;have sa0:0<=x.s:=by have:=v1.jM;omega
 have sa1:x.s<=1:=by have:=v1.jM;omega
 have sb0:0<=y.s:=by have:=u1.jM;omega
 have sb1:y.s<=1:=by have:=u1.jM;omega
 have fx:x.c=1->_:=qH h hx;have fy:y.c=1->_:=qH h hy;have HF:dG f aj a b true:=λw=>jK h aj a b hm.1 hm.2 a0 fa b0 fb w;have eH:=iH h a a0 fa hx;have fP:=iH h b b0 fb hy;have HQ:∀(z:dM) (t:Bool),t=decide (3<=z.c)->bQ z.c z.s z.e (((z.M:Nat):Int)) t:=λz t ht w=>iF _ _ _ _ t ht w;have oO:=HQ x X jl;have sH:=HQ y X jl;obtain⟨Pn,hP,X9,Tz,hA,hA2⟩:=fx cx;obtain⟨Pn',hP',_,_,hB,hB2⟩:=fy cy;obtain rfl:Pn=Pn':=om;have zY:0<y.M:=Nat.lt_of_lt_of_le (Nat.pow_pos de) hB;obtain⟨r1,r2,r3,r4,r5,r6⟩:=Fa hP X9 hA hB2 zY (x.e-y.e);rw[(om:p.toNat=Pn)];have e4:x.e-y.e-(((Pn+4:Nat)):Int)=x.e-y.e-(p+4):=om;refine aAY f aj a b _ _ _ _ _ _ _ _ HF eH fP oO sH cx cy _ sa0 sa1 sb0 sb1 AU JI (x.e-y.e-(p+4)) (decide (x.M*2^(Pn+4)%y.M≠0)) (x.M*2^(Pn+4)/y.M) (λw=>?_) _ (λv w hB=>E5 h aj hm.1 hm.2 ⟨1,mulS x.s y.s,x.e-y.e-(p+4)-1,Y8 Pn x.M y.M⟩ rfl I9 _ r3 (x.e-y.e-(p+4)) om om _ r4 (λmn mx one aI aj z fl=>r6 _ _ _ _ _ _ _ _) 8 om v w hB) w;have hq:=yZ h 1 x.s x.e 1 y.s y.e x.M y.M om om zY sa0 sa1 sb0 sb1 _ AU JI om om om om (Pn+4) om w;rw[e4]at hq;exact hq
def nR(x y:dM):Nat:=x.M*2^(x.e-min x.e y.e).toNat
def og(x y:dM):Nat:=y.M*2^(y.e-min x.e y.e).toNat
def AA(p aj:Int)(x y:dM):dM:=
 if 3<=max x.c y.c then⟨max x.c y.c,0,0,0⟩
 else if x.c=2\/y.c=0 then⟨4,0,0,0⟩
 else if x.c=0\/y.c=2 then x
 else if pV (nR x y) (og x y)=0 then⟨0,x.s,0,0⟩
 else⟨1,if oZ (nR x y) (og x y)then 1-x.s else x.s,min x.e y.e,pV (nR x y) (og x y)⟩
def Dx(p aj:Int)(x y:dM)(h:3<=max x.c y.c):AA p aj x y=⟨max x.c y.c,0,0,0⟩:=by unfold AA;rw[if_pos h]
def aMz(p aj:Int)(x y:dM)(hx:VO x)(hy:VO y):0<=(AA p aj x y).c /\(AA p aj x y).c <=5:=by
 have:=hx.c0;have:=hx.c4;have:=hy.c0;have:=hy.c4;unfold AA;split
 .dsimp only;omega
 .split
  .exact⟨by dsimp only;omega,by dsimp only;omega⟩
  .split
   .omega
   .split
    .exact⟨by dsimp only;omega,by dsimp only;omega⟩
    .exact⟨by dsimp only;omega,by dsimp only;omega⟩
def XJ(C:Nat)(hC:aG C):bits .and .u64 (C:Int) 1=((C%2:Nat):Int):=by
 have h:=bits_and_u64_nat C 1 hC de;rw[Nat.and_one_is_mod]at h;exact h
def XI(C:Nat)(hC:aG C):bits .and .u64 (C:Int) 2=((C/2%2*2:Nat):Int):=by
 have h:=bits_and_u64_nat C 2 hC de;have h1:C&&&2=C/2%2*2:=by
  have e1:(C&&&2)%2^2=C%2^2&&&2%2^2:=Nat.and_mod_two_pow;have e2:C&&&2<=2:=Nat.and_le_right;rw[Nat.mod_eq_of_lt (om:C&&&2<2^2)]at e1;rw[e1];have e3:C%2^2=0\/C%2^2=1\/C%2^2=2\/C%2^2=3:=om;rcases e3 with c|c|c|c<;>rw[c]
  .rw[(om:C/2%2=0)];rfl
  .rw[(om:C/2%2=0)];rfl
  .rw[(om:C/2%2=1)];rfl
  .rw[(om:C/2%2=1)];rfl
 rw[h1]at h;exact h
def aPk(F:Nat):F%18446744073709551616%2=F%2/\F%18446744073709551616/2%2=F/2%2:=⟨om,om⟩
def E_(p mn mx md:Int)(k:Nat)(sx ex sy ey:Int)(A B:Nat)(hA1:A<9007199254740992)(hB1:B<9007199254740992)(zY:0<B)(hAB:A<2*B)(jM:sx=0\/sx=1)(e0:-2000<=ex)(e1:ex<=2000)(f0:-2000<=ey)(f1:ey<=2000)(P:Nat)(hP:ex-ey+2=((P+1:Nat):Int))(w:World):
  Ey p mn mx md k sx ex 1 0 ((A:Int)) X 0 sy ey 1 0 ((B:Int)) X 0 w ((if Bq (A*2^P/B) (A*2^P%B)then 1-sx else sx)) (ey-1) 1 0 (((Ee (A*2^P/B) (A*2^P%B) B:Nat):Int)) X 0:=by
 obtain⟨d1,d2⟩:=L8 A B P hAB om;have hL:A*2^P%B<B:=Nat.mod_lt _ zY;obtain⟨m1,m2⟩:=aPk (A*2^P/B);have hC:A*2^P/B%18446744073709551616<18446744073709551616:=Nat.mod_lt _ de;have HF:Hid (∀w v,xW (λ_ _=>B) A w v->QR 184 #[v,J ((P+1:Nat):Int)] w (.tuple #[Y ((A*2^P/B%18446744073709551616:Nat):Int),Y ((A*2^P%B:Nat):Int)])):=λw v hd=>by
  have h:=first_any om hd (P+1) om om;rw[d2,show P+1-1=P from rfl,d1]at h;exact h
 unfold Ee Bq;rw[<-m1,<-m2];generalize A*2^P/B%18446744073709551616=C at*
 generalize A*2^P%B=L at*
 have a2:=XI C hC;have a1:=XJ C hC;have hod:∀t:Bool,t=decide (C/2%2=1)->(((C/2%2*2:Nat):Int) != 0)=t:=λt ht=>by
  rw[ht];have h2:C/2%2=0\/C/2%2=1:=om;rcases h2 with h|h<;>simp[h]
 have hha:∀t:Bool,t=decide (C%2=1)->(((C%2:Nat):Int) != 0)=t:=λt ht=>by
  rw[ht];have h2:C%2=0\/C%2=1:=om;rcases h2 with h|h<;>simp[h]
 have hlb:((L:Int) != 0)=decide (L≠0):=by by_cases h:L=0<;>simp[h]
 have HE:∀(o h l U:Bool),U=(h&&(o||l))->KW 185 #[.bool X,.bool o,.bool h,.bool l] (.bool U):=λo h l U hU w=>by
  have:=rE X o h l w;rw[show ru 0 X o h l=U from by rw[hU];cases o<;>cases h<;>cases l<;>rfl]at this;exact this
 by_cases hU:C%2=1/\(C/2%2=1\/L≠0)
 .rw[decide_eq_true hU,if_pos rfl,if_pos rfl];have hx:=aDX sx 1 jM (.inr rfl);rw[show mulS sx 1=1-sx from by rcases jM with rfl|rfl<;>decide]at hx;exact RV p mn mx md k sx ex 0 sy ey 0 X X A B om om om om om om (P+1) hP om C L hC om _ _ _ _ _ a2 a1 (hod _ rfl) (hha _ rfl) hlb _ hx HF (HE _ _ _ _ (by simp[hU])) w
 .rw[decide_eq_false hU,if_neg de,if_neg (by decide)];by_cases hh:C%2=1
  .rw[if_pos hh];exact LY p mn mx md k sx ex 0 sy ey 0 X X A B om om om om om om (P+1) hP om C L hC om _ _ _ _ a2 a1 (hod _ rfl) (hha true (by simp[hh])) hlb HF (HE _ _ _ _ (by
    have h1:¬(C/2%2=1\/L≠0):=λc=>hU ⟨hh,c⟩;have h2:¬C/2%2=1:=λc=>h1 (.inl c);have h3:¬L≠0:=λc=>h1 (.inr c);simp[h2,h3])) w
  .rw[if_neg hh];exact LX p mn mx md k sx ex 0 sy ey 0 X X A B om om om om om om (P+1) hP om C L hC om _ _ _ _ a2 a1 (hod _ rfl) (hha X (by simp[hh])) hlb HF (HE _ _ _ _ rfl) w
def aJJ(h:L<B):Ee C L B<=B:=by
 unfold Ee;split
 .omega
 .split<;>omega
def aDJ(h:L<B)(h0:Ee C L B=0):Bq C L=X:=by
 unfold Ee at h0;cases hd:Bq C L
 .rfl
 .rw[hd,if_pos rfl]at h0;omega
def O9(hF:bD f p mx one aI sg nan)(mn md:Int)(k:Nat){x y:dM}(hx:dF p mx one aI sg nan a x)(hy:dF p mx one aI sg nan b y)(h3:max x.c y.c<3)(w:World):
  CT 90 #[dN p mn mx md k,aU x.s x.e x.c (((x.M/18446744073709551616:Nat):Int)) (((x.M%18446744073709551616:Nat):Int)) X 0,aU y.s y.e y.c (((y.M/18446744073709551616:Nat):Int)) (((y.M%18446744073709551616:Nat):Int)) X 0] w λe w'=>∃os oe oc oh ol ot of,kZ p (AA p md x y) os oe oc oh ol ot of/\e=O (aU os oe oc oh ol ot of)/\Gr w w':=by
 obtain⟨v1,v2,v3,v4,v5,v6⟩:=bK hF hx;obtain⟨u1,u2,u3,u4,u5,u6⟩:=bK hF hy;have hpb:24<=p/\p<=53:=by have:=hF.bounds;omega
 have c0:=v1.c0;have d0:=u1.c0;have jM:=v1.jM;have Ns:=kZ.self p v1;unfold AA;rw[if_neg (om:¬3<=max x.c y.c)];by_cases c2:x.c=2
 .rw[if_pos (.inl c2),c2];refine(L6 p mn mx md k _ _ 0 _ _ _ _ _ _ _ _ _ w).mono ?_;exact aAN
 .by_cases cy0:y.c=0
  .rw[if_pos (.inr cy0),cy0];refine(LZ p mn mx md k _ _ _ _ _ _ _ 0 _ _ _ _ (by simp[c2]) w).mono ?_;exact aAN
  .rw[if_neg (om:¬(x.c=2\/y.c=0))];by_cases cx0:x.c=0
   .rw[if_pos (.inl cx0)];rw[cx0]at Ns⊢
    refine(LW p mn mx md k _ _ 0 _ _ _ _ _ _ _ _ _ (by simp[cy0]) w).mono ?_;rintro r w' ⟨rfl,hg⟩;exact⟨_,_,_,_,_,_,_,Ns,rfl,hg⟩
   .have cx:x.c=1:=om;by_cases cy2:y.c=2
    .rw[if_pos (.inr cy2),cy2];rw[cx]at Ns⊢
     refine(O8 p mn mx md k _ _ 0 _ _ _ _ 0 _ _ _ _ w).mono ?_;rintro r w' ⟨rfl,hg⟩;exact⟨_,_,_,_,_,_,_,Ns,rfl,hg⟩
    .have cy:y.c=1:=om;rw[if_neg (om:¬(x.c=0\/y.c=2))];obtain⟨Pn,hP,X9,Tz,hA,hA2⟩:=qH hF hx cx;obtain⟨Pn',hP',_,_,hB,hB2⟩:=qH hF hy cy;obtain rfl:Pn=Pn':=om;have hA0:0<x.M:=Nat.lt_of_lt_of_le (Nat.pow_pos de) hA;have zY:0<y.M:=Nat.lt_of_lt_of_le (Nat.pow_pos de) hB;have hAB:x.M<2*y.M:=by
      have:2^Pn=2*2^(Pn-1):=by rw[<-Nat.pow_succ',(om:(Pn-1).succ =Pn)]
      omega
     rw[cx]at Ns;by_cases hn:x.e-y.e+2<1
     .have hX:nR x y=x.M:=by unfold nR;rw[(om:(x.e-min x.e y.e).toNat =0),Nat.pow_zero,Nat.mul_one]
      have hD:2*x.M<og x y:=by
       unfold og;have:2^2<=2^(y.e-min x.e y.e).toNat :=Nat.pow_le_pow_right de om;have h4:y.M*4<=y.M*2^(y.e-min x.e y.e).toNat :=Nat.mul_le_mul_left _ this;omega
      obtain⟨r1,r2⟩:=aFG _ _ hD;rw[hX,r1,r2,if_neg om,if_neg de,(om:min x.e y.e=x.e),cx,cy];refine(O6 p mn mx md k _ _ 0 _ _ _ _ 0 _ _ _ _ om om om om hn w).mono ?_;rintro r w' ⟨rfl,hg⟩;refine⟨_,_,_,_,_,_,_,?_,rfl,hg⟩;obtain⟨xc,xs,xe,xM⟩:=x;dsimp only at*
      rw[cx]at Ns;exact Ns
     .obtain⟨P,hP2⟩:∃P:Nat,x.e-y.e+2=((P+1:Nat):Int):=⟨(x.e-y.e+1).toNat,om⟩;have hL:x.M*2^P%y.M<y.M:=Nat.mod_lt _ zY;have key:Bq (x.M*2^P/y.M) (x.M*2^P%y.M)=oZ (nR x y) (og x y)/\(Ee (x.M*2^P/y.M) (x.M*2^P%y.M) y.M=0↔pV (nR x y) (og x y)=0)/\
        (0<pV (nR x y) (og x y)->∀s mn mx one aI aj z fl,bH p mn mx one aI aj s (Ee (x.M*2^P/y.M) (x.M*2^P%y.M) y.M) (y.e-1) X z fl↔bH p mn mx one aI aj s (pV (nR x y) (og x y)) (min x.e y.e) X z fl):=by
       by_cases hge:y.e<=x.e
       .have e1:og x y=y.M:=by unfold og;rw[(om:(y.e-min x.e y.e).toNat =0),Nat.pow_zero,Nat.mul_one]
        have e2:x.M*2^P=2*nR x y:=by
         unfold nR;rw[(om:P=(x.e-min x.e y.e).toNat +1),Nat.pow_succ,<-Nat.mul_assoc,Nat.mul_comm]
        obtain⟨k1,k2⟩:=aMy (nR x y) y.M zY;rw[e1,e2];refine⟨k1,by rw[k2];omega,λjm s mn mx one aI aj z fl=>?_⟩;rw[k2,(om:min x.e y.e=y.e)];have:=bH.scale (p:=p) (mn:=mn) (mx:=mx) (one:=one) (aI:=aI) (aj:=aj) (aJ:=s) (M:=pV (nR x y) y.M) (e:=y.e) (z:=z) (fl:=fl) 1 jm;rw[Nat.pow_one,Nat.mul_comm]at this;exact this
       .have e1:og x y=2*y.M:=by unfold og;rw[(om:(y.e-min x.e y.e).toNat =1),Nat.pow_one,Nat.mul_comm]
        have e2:nR x y=x.M:=by unfold nR;rw[(om:(x.e-min x.e y.e).toNat =0),Nat.pow_zero,Nat.mul_one]
        have e3:x.M*2^P=x.M:=by rw[(om:P=0),Nat.pow_zero,Nat.mul_one]
        obtain⟨k1,k2⟩:=aMx x.M y.M zY hAB;rw[e1,e2,e3];refine⟨k1,by rw[k2],λjm s mn mx one aI aj z fl=>?_⟩;rw[k2,(om:min x.e y.e=y.e-1)]
      obtain⟨ku,kz,kr⟩:=key;have rG:=aJJ (C:=x.M*2^P/y.M) hL;rw[(om:x.M/18446744073709551616=0),(om:x.M%18446744073709551616=x.M),(om:y.M/18446744073709551616=0),(om:y.M%18446744073709551616=y.M),cx,cy];refine(E_ p mn mx md k x.s x.e y.s y.e x.M y.M v2 u2 zY hAB jM v4 v5 u4 u5 P hP2 w).mono ?_;rintro r w' ⟨rfl,hg⟩;by_cases hz:pV (nR x y) (og x y)=0
      .rw[if_pos hz];have JJ:=kz.2 hz;have hdu:=aDJ hL JJ;refine⟨_,_,_,_,_,_,_,.inr (.inr ⟨rfl,rfl,rfl,by rw[JJ];rfl,by rw[hdu];rfl,?_,rfl,om,om⟩),rfl,hg⟩;rw[hdu,if_neg (by decide)];exact jM
      .rw[if_neg hz];refine⟨_,_,_,_,_,_,_,.inl ⟨Ee (x.M*2^P/y.M) (x.M*2^P%y.M) y.M,?_,?_,rfl,rfl,(om:(0:Int)<=1),(om:(1:Int)<=4),λ_=>⟨by rw[ku],?_⟩,λ_=>⟨om,om,(λt=>by cases t),om,om,λmn mx one aI aj z fl=>?_⟩⟩,rfl,hg⟩
       .rw[Nat.div_eq_of_lt (by omega)];rfl
       .rw[Nat.mod_eq_of_lt (a:=Ee (x.M*2^P/y.M) (x.M*2^P%y.M) y.M) (by omega)]
       .split
        .omega
        .exact jM
       .exact kr om _ _ _ _ _ _ _ _
set_option maxRecDepth 1000000
set_option maxHeartbeats 40000000
def aKV{P:Prop}(h:P:=by
 rintro e aT ⟨Z,fl,hp,rfl,dL⟩;rw[zU]at hp;exact⟨_,_,.inl ⟨p,mx,one,aI,sg,nan,x,y,hF,om,hx,hy,hp⟩,rfl,dL⟩):P:=h
def aKW{P:Prop}(h:P:=by
 obtain⟨Z,fl,hp⟩:=zL p (1-mx) mx one aI sg nan 0 _ r1 r2;exact⟨Z,fl,.inl ⟨p,mx,one,aI,sg,nan,x,y,hF,om,hx,hy,hp⟩⟩):P:=h
def aKX{P:Prop}(h:P:=by
 refine(jG p mn mx 0 k _ _ _ _ _ _ _ _ _ _ _ _ _ (max x.c y.c) rfl cn w).mono ?_;rintro e w' ⟨rfl,hg⟩;refine⟨_,_,_,_,_,_,_,⟨?_,rfl⟩,rfl,hg⟩;rw[hp];have:=v1.c4;have:=u1.c4;exact aFe _ om om):P:=h
def jL(l:Bool)(x y:dM):dM:=
 if 3<=max x.c y.c then⟨max x.c y.c,0,0,0⟩else if l then(if oN x y<=0 then x else y)else(if 0<=oN x y then x else y)
def aA2(l:Bool)(x y:dM)(hx:VO x)(hy:VO y):0<=(jL l x y).c /\(jL l x y).c <=4:=by
 have:=hx.c0;have:=hx.c4;have:=hy.c0;have:=hy.c4;unfold jL
 repeat' split
 all_goals ((try dsimp only);omega)
def aFe(m:Int)(h3:3<=m)(h4:m<=4):pG ⟨m,0,0,0⟩ 0 0 m 0 0 X:=⟨0,by simp,by simp,Same.self ⟨m,0,0,0⟩ (λc=>by dsimp only at c;omega),om,om,λc=>om⟩
def Yd(hs:s=0\/s=1)(ht:t=0\/t=1):IntKind.i64.wrap (t-s)=t-s:=by
 rcases hs with rfl|rfl<;>rcases ht with rfl|rfl<;>decide+kernel
def Dv(l:Bool)(f a b:Int)(a0:0<=a)(a1:aG a)(b0:0<=b)(b1:aG b)(w:World):
  CT 158 #[J f,Y a,Y b,.bool l] w λe w'=>∃Z fl,qZ (λ_=>jL l) f 0 a b Z fl/\e=O (aP Z fl)/\Gr w w':=by
 by_cases hf:f=0\/f=1
 .obtain⟨p,mx,one,aI,sg,nan,hF⟩:=eX f hf;obtain⟨x,hx⟩:=eu hF a a0 a1;obtain⟨y,hy⟩:=eu hF b b0 b1;obtain⟨v1,v2,v3,v4,v5,v6⟩:=bK hF hx;obtain⟨u1,u2,u3,u4,u5,u6⟩:=bK hF hy;have xc0:=v1.c0;have xc4:=v1.c4;have yc0:=u1.c0;have yc4:=u1.c4;have fin:∀Z fl,bY p (1-mx) mx one aI sg nan 0 (jL l x y) Z fl->(Oi f a b l w Z fl)->CT 158 #[J f,Y a,Y b,.bool l] w λe w'=>∃Z fl,qZ (λ_=>jL l) f 0 a b Z fl/\e=O (aP Z fl)/\Gr w w':=λZ fl hp h=>h.mono (λe w' ⟨h1,h2⟩=>⟨Z,fl,.inl ⟨p,mx,one,aI,sg,nan,x,y,hF,om,hx,hy,hp⟩,h1,h2⟩);by_cases fa:a<2*sg
  .by_cases fb:b<2*sg
   .have Oq:dZ f a true:=λw=>fO hF a a0 fa w;have QN:dZ f b true:=λw=>fO hF b b0 fb w;have eH:=iH hF a a0 fa hx;have fP:=iH hF b b0 fb hy;have HQ:∀(z:dM) (t:Bool),t=decide (3<=z.c)->bQ z.c z.s z.e (((z.M:Nat):Int)) t:=λz t ht w=>iF _ _ _ _ t ht w;by_cases cn:3<=max x.c y.c
    .have hp:jL l x y=⟨max x.c y.c,0,0,0⟩:=by unfold jL;rw[if_pos cn]
     refine fin nan (if(decide (x.c=4)||decide (y.c=4))then 1 else 0) ?_ (aCh f a b _ _ _ _ _ _ _ _ nan _ l (decide (3<=x.c)) (decide (3<=y.c)) _ jl (decide (x.c=4)) (decide (y.c=4)) (bq _ _) (bq _ _) rfl Oq QN eH fP (HQ x _ rfl) (HQ y _ rfl) (λw=>lZ hF _ _ rfl w) w);rw[hp];refine oC _ _ ?_ om om;rw[<-Bool.decide_or,decide_eq_decide];omega
    .have oO:=HQ x X jl;have sH:=HQ y X jl;have HO:KW 159 #[J f,Y a,Y b] (J (Zm x y)):=λw=>I4 hF a0 b0 hx hy om om w;obtain⟨v,u,⟨ha,v0,v1',va,vb⟩,⟨hb,u0,u1',ua,ub⟩,hl⟩:=VT hF a0 b0 hx hy (om:x.c<=2) (om:y.c<=2);have px:=ou hF a0 hx (om:x.c<=2) 0;have py:=ou hF b0 hy (om:y.c<=2) 0;have x01:=v1.jM;have y01:=u1.jM;have o9:=J8 v u
     --where the order is 0,the words are the same
     have heq:oN x y=0->a=b:=by
      intro h;unfold oN at h;rw[hl]at h;by_cases c:x.s=y.s
      .rw[if_neg (by simp[c])]at h;have hc:kU v u=0:=by split at h<;>omega
       have:v=u:=by
        unfold kU at hc;split at hc
        .omega
        .split at hc<;>omega
       omega
      .rw[if_pos c]at h;omega
     have hpk:∀q:Bool,decide (oN x y<=0)=q->∃z,((q==l)=true/\z=a\/(q==l)=X/\z=b)/\bY p (1-mx) mx one aI sg nan 0 (jL l x y) z 0:=by
      intro q hq;unfold jL;rw[if_neg cn];by_cases c:oN x y<=0
      .rw[decide_eq_true c]at hq;subst hq;cases l
       .refine⟨b,.inr ⟨rfl,rfl⟩,?_⟩;rw[if_neg (by decide)];by_cases c':0<=oN x y
        .rw[if_pos c',<-heq (by omega)];exact px
        .rw[if_neg c'];exact py
       .refine⟨a,.inl ⟨rfl,rfl⟩,?_⟩;rw[if_pos rfl,if_pos c];exact px
      .rw[decide_eq_false c]at hq;subst hq;cases l
       .refine⟨a,.inl ⟨rfl,rfl⟩,?_⟩;rw[if_neg de,if_pos (by omega)];exact px
       .refine⟨b,.inr ⟨rfl,rfl⟩,?_⟩;rw[if_pos rfl,if_neg c];exact py
     obtain⟨z,hz,hp⟩:=hpk _ rfl;refine fin z 0 hp ?_;unfold Zm at HO;by_cases c:max x.c y.c=0
     .rw[if_pos c]at HO;have hlz:Ph x y=0:=by rw[hl,uJ (by omega)]
      by_cases cs:x.s=y.s
      .have:oN x y=0:=by unfold oN;rw[if_neg (by simp[cs]),hlz];split<;>rfl
       rw[this]at hz;exact Lp f a b _ _ _ _ _ _ _ _ 0 l true rfl (by simp[cs]) rfl z hz Oq QN eH fP oO sH HO w
      .have:oN x y=y.s-x.s:=by unfold oN;rw[if_pos cs]
       rw[this]at hz;exact Vp f a b _ _ _ _ _ _ _ _ 0 l _ rfl (by simp[cs]) _ (Yd x01 y01) rfl z hz Oq QN eH fP oO sH HO w
     .rw[if_neg c]at HO;by_cases c0:oN x y=0
      .have cs:x.s=y.s:=by
        rcases(om:x.s=y.s\/x.s≠y.s)with h|h
        .exact h
        .unfold oN at c0;rw[if_pos h]at c0;omega
       rw[c0]at hz HO;exact Lp f a b _ _ _ _ _ _ _ _ 0 l true rfl (by simp[cs]) rfl z hz Oq QN eH fP oO sH HO w
      .exact aCg f a b _ _ _ _ _ _ _ _ (oN x y) l _ (by simp[c0]) rfl z hz Oq QN eH fP oO sH HO w
   .refine fin nan 1 ?_ (YU f a b nan 1 l (λw=>fO hF a a0 fa w) (λw=>iV f b b0 (.inr (SC hF b1 om)) w) (λw=>cO hF w) w);have:=jd hF hy (by omega);subst this;unfold jL;rw[if_pos (by dsimp only;omega)];exact iW (by dsimp only;omega)
  .refine fin nan 1 ?_ (Ls f a b nan 1 l (λw=>iV f a a0 (.inr (SC hF a1 om)) w) (λw=>cO hF w) w);have:=jd hF hx (by omega);subst this;unfold jL;rw[if_pos (by dsimp only;omega)];exact iW (by dsimp only;omega)
 .refine(Ls f a b _ 1 l (λw=>iV f a a0 (.inl hf) w) (λw=>lN f hf w) w).mono ?_;rintro e w' ⟨rfl,hg⟩;exact⟨_,_,.inr (.inr ⟨hf,rfl,rfl⟩),rfl,hg⟩
def Nj(f a b:Int)(R:Int->Int->Prop)(HC:Hid (∀w',Gr w w'->CT 81 #[J f,J 0,.func (.func 97) #[] #[],Y a,Y b] w' (vS R w'))):
  CT 39 #[J f,Y a,Y b] w (vS R w):=by
 go_enter func39,ntmps39;go_wp2_with (go_at_call 81;refine(HC _ Gr.g).mono ?_;rintro e w1 ⟨z,fl,hr,rfl,ak⟩;have gG:=ak.bG w);refine bodyPost_ret (v:=aP z fl) (by simp[results,Tryz.results39,go_sem,gG]) rfl ⟨z,fl,hr,rfl,?_⟩;exact Gr.g
def K_(f a b:Int)(R:Int->Int->Prop)(HC:Hid (∀w,CT 158 #[J f,Y a,Y b,.bool true] w (vS R w)))(w:World):
  CT 72 #[J f,Y a,Y b] w (Dy R w):=by
 go_enter func72,ntmps72;go_wp2_with (go_at_call 158;refine(HC _).mono ?_;rintro e w1 ⟨z,fl,hr,rfl,ak⟩;have gG:=ak.bG w);refine bodyPost_ret (v:=aP z fl) (by simp[results,Tryz.results72,go_sem,gG]) rfl ⟨z,fl,hr,rfl,?_⟩;exact Gb.g
def JC(f a b:Int)(a0:0<=a)(a1:aG a)(b0:0<=b)(b1:aG b)(w:World)(hw:Fm w):
  CT 39 #[J f,Y a,Y b] w λe w'=>∃Z fl,qZ (λ_=>jL true) f 0 a b Z fl/\e=O (aP Z fl)/\Gr w w':=by
 refine Nj f a b (qZ (λ_=>jL true) f 0 a b) (λw' hg=>?_);have y8:=hw.gr hg;by_cases hf:f=0\/f=1
 .obtain⟨p,mx,one,aI,sg,nan,hF⟩:=eX f hf;obtain⟨mn,fb,sp,hM,zU,PD⟩:=hF.m;obtain⟨k,hk⟩:=kW 0 om om;obtain⟨x,hx,HA⟩:=jf hF hM a a0 a1;obtain⟨y,hy,HB⟩:=jf hF hM b b0 b1;obtain⟨v1,v2,v3,v4,v5,v6⟩:=bK hF hx;obtain⟨u1,u2,u3,u4,u5,u6⟩:=bK hF hy;refine(wL p mn mx 0 f k 97 a b _ _ _ _ _ _ _ _ _ _ _ _ (λaT dL=>dV hF hM 0 k (λw=>gW 0 k hk w) (y8.gr dL)) HA HB (λos oe oc oh ol ot of=>pG (jL true x y) os oe oc oh ol ot/\of=0) (λw=>?_) (bY p mn mx one aI sg nan 0 (jL true x y)) (λos oe oc oh ol ot of w hq=>by obtain⟨hq,rfl⟩:=hq;exact oz hM 0 k hk _ os oe oc oh ol ot hq w)).mono ?_
  .by_cases cn:3<=max x.c y.c
   .have hp:jL true x y=⟨max x.c y.c,0,0,0⟩:=by unfold jL;rw[if_pos cn]
    exact aKX
   .have hO:KR 190 #[aU x.s x.e x.c (((x.M/18446744073709551616:Nat):Int)) (((x.M%18446744073709551616:Nat):Int)) X 0,aU y.s y.e y.c (((y.M/18446744073709551616:Nat):Int)) (((y.M%18446744073709551616:Nat):Int)) X 0] (J (oN x y)):=λw=>Fg x y v1 u1 om om w;refine FX p mn mx 0 k _ _ _ _ _ _ _ _ _ _ _ _ (max x.c y.c) rfl om _ (λw=>?_) w;unfold jL;rw[if_neg cn,if_pos rfl];by_cases c:oN x y<=0
    .rw[if_pos c];refine(Zu p mn mx 0 k _ _ _ _ _ _ _ _ _ _ _ _ _ (decide_eq_true c) hO w).mono ?_;rintro e w' ⟨rfl,hg⟩;exact⟨_,_,_,_,_,_,_,⟨v1.same,rfl⟩,rfl,hg⟩
    .rw[if_neg c];refine(Zt p mn mx 0 k _ _ _ _ _ _ _ _ _ _ _ _ _ (decide_eq_false c) hO w).mono ?_;rintro e w' ⟨rfl,hg⟩;exact⟨_,_,_,_,_,_,_,⟨u1.same,rfl⟩,rfl,hg⟩
  .exact aKV
 .refine(j_ _ _ _ _ _ f 0 a b (λaT dL=>dP f 0 hf (y8.gr dL)) (λw=>dh m64 w) 97).mono ?_;exact aEw
def aGf(f a b:Int)(a0:0<=a)(a1:aG a)(b0:0<=b)(b1:aG b):
  ∃Z fl:Int,qZ (λ_=>jL true) f 0 a b Z fl/\(∀w,QB 72 #[J f,Y a,Y b] w (aP Z fl))/\
   (∀w,Fm w->QR 39 #[J f,Y a,Y b] w (aP Z fl)):=by
 refine Es (λ_ _ _ _ h h'=>qZ.one h h') ?_ (λw=>K_ f a b _ (λw=>Dv true f a b a0 a1 b0 b1 w) w) (JC f a b a0 a1 b0 b1);by_cases hf:f=0\/f=1
 .obtain⟨p,mx,one,aI,sg,nan,hF⟩:=eX f hf;obtain⟨x,hx⟩:=eu hF a a0 a1;obtain⟨y,hy⟩:=eu hF b b0 b1;obtain⟨r1,r2⟩:=aA2 true x y (bK hF hx).1 (bK hF hy).1;exact aKW
 .exact⟨_,_,.inr (.inr ⟨hf,rfl,rfl⟩)⟩
def Nk(f a b:Int)(R:Int->Int->Prop)(HC:Hid (∀w',Gr w w'->CT 81 #[J f,J 0,.func (.func 98) #[] #[],Y a,Y b] w' (vS R w'))):
  CT 40 #[J f,Y a,Y b] w (vS R w):=by
 go_enter func40,ntmps40;go_wp2_with (go_at_call 81;refine(HC _ Gr.g).mono ?_;rintro e w1 ⟨z,fl,hr,rfl,ak⟩;have gG:=ak.bG w);refine bodyPost_ret (v:=aP z fl) (by simp[results,Tryz.results40,go_sem,gG]) rfl ⟨z,fl,hr,rfl,?_⟩;exact Gr.g
def Ld(f a b:Int)(R:Int->Int->Prop)(HC:Hid (∀w,CT 158 #[J f,Y a,Y b,.bool X] w (vS R w)))(w:World):
  CT 73 #[J f,Y a,Y b] w (Dy R w):=by
 go_enter func73,ntmps73;go_wp2_with (go_at_call 158;refine(HC _).mono ?_;rintro e w1 ⟨z,fl,hr,rfl,ak⟩;have gG:=ak.bG w);refine bodyPost_ret (v:=aP z fl) (by simp[results,Tryz.results73,go_sem,gG]) rfl ⟨z,fl,hr,rfl,?_⟩;exact Gb.g
def JD(f a b:Int)(a0:0<=a)(a1:aG a)(b0:0<=b)(b1:aG b)(w:World)(hw:Fm w):
  CT 40 #[J f,Y a,Y b] w λe w'=>∃Z fl,qZ (λ_=>jL X) f 0 a b Z fl/\e=O (aP Z fl)/\Gr w w':=by
 refine Nk f a b (qZ (λ_=>jL X) f 0 a b) (λw' hg=>?_);have y8:=hw.gr hg;by_cases hf:f=0\/f=1
 .obtain⟨p,mx,one,aI,sg,nan,hF⟩:=eX f hf;obtain⟨mn,fb,sp,hM,zU,PD⟩:=hF.m;obtain⟨k,hk⟩:=kW 0 om om;obtain⟨x,hx,HA⟩:=jf hF hM a a0 a1;obtain⟨y,hy,HB⟩:=jf hF hM b b0 b1;obtain⟨v1,v2,v3,v4,v5,v6⟩:=bK hF hx;obtain⟨u1,u2,u3,u4,u5,u6⟩:=bK hF hy;refine(wL p mn mx 0 f k 98 a b _ _ _ _ _ _ _ _ _ _ _ _ (λaT dL=>dV hF hM 0 k (λw=>gW 0 k hk w) (y8.gr dL)) HA HB (λos oe oc oh ol ot of=>pG (jL X x y) os oe oc oh ol ot/\of=0) (λw=>?_) (bY p mn mx one aI sg nan 0 (jL X x y)) (λos oe oc oh ol ot of w hq=>by obtain⟨hq,rfl⟩:=hq;exact oz hM 0 k hk _ os oe oc oh ol ot hq w)).mono ?_
  .by_cases cn:3<=max x.c y.c
   .have hp:jL X x y=⟨max x.c y.c,0,0,0⟩:=by unfold jL;rw[if_pos cn]
    exact aKX
   .have hO:KR 190 #[aU x.s x.e x.c (((x.M/18446744073709551616:Nat):Int)) (((x.M%18446744073709551616:Nat):Int)) X 0,aU y.s y.e y.c (((y.M/18446744073709551616:Nat):Int)) (((y.M%18446744073709551616:Nat):Int)) X 0] (J (oN x y)):=λw=>Fg x y v1 u1 om om w;refine En p mn mx 0 k _ _ _ _ _ _ _ _ _ _ _ _ (max x.c y.c) rfl om _ (λw=>?_) w;unfold jL;rw[if_neg cn,if_neg (by decide)];by_cases c:0<=oN x y
    .rw[if_pos c];refine(Xc p mn mx 0 k _ _ _ _ _ _ _ _ _ _ _ _ _ (decide_eq_true c) hO w).mono ?_;rintro e w' ⟨rfl,hg⟩;exact⟨_,_,_,_,_,_,_,⟨v1.same,rfl⟩,rfl,hg⟩
    .rw[if_neg c];refine(Xb p mn mx 0 k _ _ _ _ _ _ _ _ _ _ _ _ _ (decide_eq_false c) hO w).mono ?_;rintro e w' ⟨rfl,hg⟩;exact⟨_,_,_,_,_,_,_,⟨u1.same,rfl⟩,rfl,hg⟩
  .exact aKV
 .refine(j_ _ _ _ _ _ f 0 a b (λaT dL=>dP f 0 hf (y8.gr dL)) (λw=>dh m64 w) 98).mono ?_;exact aEw
def aGg(f a b:Int)(a0:0<=a)(a1:aG a)(b0:0<=b)(b1:aG b):
  ∃Z fl:Int,qZ (λ_=>jL X) f 0 a b Z fl/\(∀w,QB 73 #[J f,Y a,Y b] w (aP Z fl))/\
   (∀w,Fm w->QR 40 #[J f,Y a,Y b] w (aP Z fl)):=by
 refine Es (λ_ _ _ _ h h'=>qZ.one h h') ?_ (λw=>Ld f a b _ (λw=>Dv X f a b a0 a1 b0 b1 w) w) (JD f a b a0 a1 b0 b1);by_cases hf:f=0\/f=1
 .obtain⟨p,mx,one,aI,sg,nan,hF⟩:=eX f hf;obtain⟨x,hx⟩:=eu hF a a0 a1;obtain⟨y,hy⟩:=eu hF b b0 b1;obtain⟨r1,r2⟩:=aA2 X x y (bK hF hx).1 (bK hF hy).1;exact aKW
 .exact⟨_,_,.inr (.inr ⟨hf,rfl,rfl⟩)⟩
def Jy(f a b:Int)(s:Bool)(a0:0<=a)(a1:aG a)(b0:0<=b)(b1:aG b)(w:World):
  CT 74 #[J f,Y a,Y b,.bool s] w λe w'=>∃r fl,BJ f a b s r fl/\e=O (.tuple #[J r,J fl])/\Gr w w':=by
 by_cases hf:f=0\/f=1
 .obtain⟨p,mx,one,aI,sg,nan,hF⟩:=eX f hf;obtain⟨x,hx⟩:=eu hF a a0 a1;obtain⟨y,hy⟩:=eu hF b b0 b1;obtain⟨v1,v2,v3,v4,v5,v6⟩:=bK hF hx;obtain⟨u1,u2,u3,u4,u5,u6⟩:=bK hF hy;have xc0:=v1.c0;have xc4:=v1.c4;have yc0:=u1.c0;have yc4:=u1.c4;have fin:∀r fl,EK x y s r fl->(QR 74 #[J f,Y a,Y b,.bool s] w (.tuple #[J r,J fl]))->CT 74 #[J f,Y a,Y b,.bool s] w λe w'=>∃r fl,BJ f a b s r fl/\e=O (.tuple #[J r,J fl])/\Gr w w':=λr fl hc h=>h.mono (λe w' ⟨h1,h2⟩=>⟨r,fl,.inl ⟨p,mx,one,aI,sg,nan,x,y,hF,hx,hy,hc⟩,h1,h2⟩);by_cases fa:a<2*sg
  .by_cases fb:b<2*sg
   .have Oq:dZ f a true:=λw=>fO hF a a0 fa w;have QN:dZ f b true:=λw=>fO hF b b0 fb w;have eH:=iH hF a a0 fa hx;have fP:=iH hF b b0 fb hy;have HQ:∀(z:dM) (t:Bool),t=decide (3<=z.c)->bQ z.c z.s z.e (((z.M:Nat):Int)) t:=λz t ht w=>iF _ _ _ _ t ht w;by_cases cn:3<=max x.c y.c
    .refine fin 2 (if s||decide (x.c=4)||decide (y.c=4)then 1 else 0) ?_ (aFr f a b _ _ _ _ _ _ _ _ _ s (decide (3<=x.c)) (decide (3<=y.c)) jl (decide (x.c=4)) (decide (y.c=4)) (bq _ _) (bq _ _) rfl Oq QN eH fP (HQ x _ rfl) (HQ y _ rfl) w);unfold EK;by_cases c4:max x.c y.c=4
     .refine .inl ⟨c4,rfl,?_⟩;rw[if_pos];have:x.c=4\/y.c=4:=om;simp only[Bool.or_eq_true,decide_eq_true_eq];omega
     .have e1:decide (x.c=4)=X:=jl;have e2:decide (y.c=4)=X:=jl;rw[e1,e2];cases s
      .exact .inr (.inr (.inl ⟨om,rfl,rfl,rfl⟩))
      .exact .inr (.inl ⟨om,rfl,rfl,rfl⟩)
    .refine fin (Zm x y) 0 ?_ (aFq f a b _ _ _ _ _ _ _ _ _ s Oq QN eH fP (HQ x X jl) (HQ y X jl) (λw=>I4 hF a0 b0 hx hy om om w) w);unfold EK Zm;by_cases c:max x.c y.c=0
     .rw[if_pos c];exact .inr (.inr (.inr (.inl ⟨c,rfl,rfl⟩)))
     .rw[if_neg c];exact .inr (.inr (.inr (.inr ⟨om,rfl,rfl⟩)))
   .refine fin 2 1 (.inl ⟨?_,rfl,rfl⟩) (aCD f a b s (λw=>fO hF a a0 fa w) (λw=>iV f b b0 (.inr (SC hF b1 om)) w) w);have:=jd hF hy (by omega);subst this;dsimp only at*;omega
  .refine fin 2 1 (.inl ⟨?_,rfl,rfl⟩) (P5 f a b s (λw=>iV f a a0 (.inr (SC hF a1 om)) w) w);have:=jd hF hx (by omega);subst this;dsimp only at*;omega
 .refine(P5 f a b s (λw=>iV f a a0 (.inl hf) w) w).mono ?_;rintro e w' ⟨rfl,hg⟩;exact⟨2,1,.inr ⟨hf,rfl,rfl⟩,rfl,hg⟩
def TQ(f a b:Int)(s:Bool)(a0:0<=a)(a1:aG a)(b0:0<=b)(b1:aG b):
  ∃r fl:Int,BJ f a b s r fl/\(∀w,QR 74 #[J f,Y a,Y b,.bool s] w (.tuple #[J r,J fl]))/\
   (∀w,Fm w->QR 101 #[J f,Y a,Y b,.bool s] w (.tuple #[J r,J fl])):=by
 have hex:∃r fl:Int,BJ f a b s r fl:=by
  by_cases hf:f=0\/f=1
  .obtain⟨p,mx,one,aI,sg,nan,hF⟩:=eX f hf;obtain⟨x,hx⟩:=eu hF a a0 a1;obtain⟨y,hy⟩:=eu hF b b0 b1;obtain⟨r,fl,h⟩:=EK.ex x y (bK hF hx).1 (bK hF hy).1 s;exact⟨r,fl,.inl ⟨p,mx,one,aI,sg,nan,x,y,hF,hx,hy,h⟩⟩
  .exact⟨2,1,.inr ⟨hf,rfl,rfl⟩⟩
 obtain⟨r,fl,h⟩:=hex;refine⟨r,fl,h,λw=>(Jy f a b s a0 a1 b0 b1 w).mono ?_,λw hw=>(JF f a b s a0 a1 b0 b1 w hw).mono ?_⟩
 .rintro e w' ⟨r',oP,h',rfl,hg⟩;obtain⟨rfl,rfl⟩:=BJ.one h h';exact⟨rfl,hg⟩
 .rintro e w' ⟨r',oP,h',rfl,hg⟩;obtain⟨rfl,rfl⟩:=BJ.one h h';exact⟨rfl,hg⟩
