import Derived.Test.YtmiekgjgpmfekaaGreatDoorK7
import Derived.Test.YtmiekgjgpmfekaaGreatDoorK8
import Derived.Test.YtmiekgjgpmfekaaGreatDoorM5
import Derived.Test.YtmiekgjgpmfekaaGreatDoorM3
set_option linter.all false
namespace Go.Proofs.YtmiekgjgpmfekaaGreatDoor
open Go.RowKit
variable{p f mx one inf sg nan mn fb sp a:Int}{A Pn B k C:Nat}
theorem YX(md:Int):(CU md).s =0\/(CU md).s =1:=by
 unfold CU;dsimp only;split
 ·exact .inr rfl
 ·exact .inl rfl
theorem SB(md:Int)(x y:bZ)(hx:x.s=0\/x.s=1)(hy:y.s=0\/y.s=1):((qG md x y).c =0\/(qG md x y).c =1)/\((qG md x y).s =0\/(qG md x y).s =1):=by
 unfold qG;split
 ·exact⟨.inr rfl,hx⟩
 ·split
  ·exact⟨.inl rfl,YX md⟩
  ·split
   ·exact⟨.inr rfl,hx⟩
   ·exact⟨.inr rfl,hy⟩
theorem sum_any(p mn mx md:Int)(k:Nat)(x y:bZ)(hx:VO x)(hy:VO y)(h2:max x.c y.c<3)(w:World):
  CT 209 #[dP p mn mx md k,aU x.s x.e x.c (((x.M/18446744073709551616:Nat):Int)) (((x.M%18446744073709551616:Nat):Int)) false 0,aU y.s y.e y.c (((y.M/18446744073709551616:Nat):Int)) (((y.M%18446744073709551616:Nat):Int)) false 0] w fun e w'=>∃os oe oc oh ol ot,pU (gI md x y) os oe oc oh ol ot/\e=.returned (aU os oe oc oh ol ot 0)/\Gr w w':=by
 have c0:=hx.c0;have d0:=hy.c0;unfold gI;rw[if_neg (show ¬3<=max x.c y.c by omega)];by_cases c1:y.c<x.c
 ·rw[if_pos c1];refine(aEr p mn mx md k _ _ _ _ _ _ _ _ _ _ _ _ c1 w).mono ?_;rintro r w' ⟨rfl,hg⟩;exact⟨_,_,_,_,_,_,hx.same,rfl,hg⟩
 ·rw[if_neg c1];by_cases c2:x.c<y.c
  ·rw[if_pos c2];refine(sum_lt p mn mx md k _ _ _ _ _ _ _ _ _ _ _ _ c2 w).mono ?_;rintro r w' ⟨rfl,hg⟩;exact⟨_,_,_,_,_,_,hy.same,rfl,hg⟩
  ·rw[if_neg c2];by_cases c3:x.c=1
   ·rw[if_pos c3];refine(aAZ p mn mx md k _ _ _ _ _ _ _ _ _ _ _ _ c3 om (fun os oe oc oh ol ot=>pU (qG md x y) os oe oc oh ol ot) (fun w=>?_) w).mono (fun e w' h=>h);refine(total_any p mn mx md k x y hx hy c3 om w).mono ?_;rintro r w' ⟨c,s,e,M,st,hsm,rfl,hg⟩;obtain⟨t1,t2⟩:=SB md x y hx.jF hy.jF;have tc:=hsm.1;exact⟨_,_,_,_,_,_,⟨M,rfl,rfl,hsm,om,om,fun hc=>by rw[<-hsm.2.1 hc];exact t2⟩,rfl,hg⟩
   ·rw[if_neg c3];by_cases c4:x.s=y.s
    ·rw[if_pos c4];refine(aEq p mn mx md k _ _ _ _ _ _ _ _ _ _ _ _ om (by simp[c3]) c4 w).mono ?_;rintro r w' ⟨rfl,hg⟩;exact⟨_,_,_,_,_,_,hx.same,rfl,hg⟩
    ·rw[if_neg c4];by_cases c5:x.c=2
     ·rw[if_pos c5];refine(aA0 p mn mx md k _ _ _ _ _ _ _ _ _ _ _ _ c5 om (by simp[c4]) w).mono ?_;rintro r w' ⟨rfl,hg⟩;exact⟨_,_,_,_,_,_,⟨0,rfl,rfl,⟨rfl,fun _=>rfl,(fun h=>by cases h)⟩,(show(0:Int)<=4 by omega),(show(4:Int)<=4 by omega),fun _=>.inl rfl⟩,rfl,hg⟩
     ·rw[if_neg c5];refine(sum_nil p mn mx md k _ _ _ _ _ _ _ _ _ _ _ _ om om (by simp[c4]) _ _ _ _ _ _ (fun w=>BL p mn mx md k w) w).mono ?_;rintro r w' ⟨rfl,hg⟩;exact⟨_,_,_,_,_,_,⟨0,rfl,rfl,MN md,om,om,fun _=>YX md⟩,rfl,hg⟩
theorem VO.turn{x:bZ}(h:VO x):VO (jQ x):=⟨h.c0,h.c4,by have:=h.jF;unfold jQ;dsimp only;omega,h.fin,h.nil,h.e0,h.e1⟩
theorem qJ(md:Int)(x y:bZ)(h:3<=max x.c y.c):gI md x y=⟨max x.c y.c,0,0,0⟩:=by unfold gI;rw[if_pos h]
theorem CX(p mn mx md:Int)(k:Nat)(x y:bZ)(hx:VO x)(hy:VO y)(w:World):
  CT 90 #[dP p mn mx md k,.func (.func 209) #[] #[],aU x.s x.e x.c (((x.M/18446744073709551616:Nat):Int)) (((x.M%18446744073709551616:Nat):Int)) false 0,aU y.s y.e y.c (((y.M/18446744073709551616:Nat):Int)) (((y.M%18446744073709551616:Nat):Int)) false 0] w fun e w'=>∃os oe oc oh ol ot,pU (gI md x y) os oe oc oh ol ot/\e=.returned (aU os oe oc oh ol ot 0)/\Gr w w':=by
 by_cases h:3<=max x.c y.c
 ·refine(iK p mn mx md k _ _ _ _ _ _ _ _ _ _ _ _ 209 _ rfl h w).mono ?_;rintro r w' ⟨rfl,hg⟩;have:=hx.c4;have:=hy.c4;rw[qJ md x y h];exact⟨_,_,_,_,_,_,MP _ h om,rfl,hg⟩
 ·exact NV p mn mx md k _ _ _ _ _ _ _ _ _ _ _ _ _ rfl om _ (fun w=>sum_any p mn mx md k x y hx hy om w) w
theorem Nq(f mode a b:Int)(a0:0<=a)(a1:a<18446744073709551616)(b0:0<=b)(b1:b<18446744073709551616)(w:World)(hw:Fm w):
  CT 186 #[.int .i64 f,.int .i64 mode,.int .u64 a,.int .u64 b] w fun e w'=>∃Z fl,pX gI f mode a b Z fl/\e=.returned (aK Z fl)/\Gr w w':=by
 refine Q8 f mode a b (pX gI f mode a b) (fun w' hg=>?_);have hw':=hw.gr hg;by_cases hf:f=0\/f=1
 ·obtain⟨p,mx,one,inf,sg,nan,hF⟩:=iC f hf;obtain⟨mn,fb,sp,hM,hmn,hfb⟩:=hF.m;by_cases hm:0<=mode/\mode<=4
  ·obtain⟨k,hk⟩:=kH mode hm.1 hm.2;obtain⟨x,hx,HA⟩:=lI hF hM a a0 a1;obtain⟨y,hy,HB⟩:=lI hF hM b b0 b1;obtain⟨v1,v2,v3,v4,v5,v6⟩:=bQ hF hx;obtain⟨u1,u2,u3,u4,u5,u6⟩:=bQ hF hy;refine(JK p mn mx mode f k 209 a b _ _ _ _ _ _ _ _ _ _ _ _ (fun w'' hg'=>eP hF hM mode k (fun w=>gW mode k hk w) (hw'.gr hg')) HA HB (pU (gI mode x y)) (fun w=>CX p mn mx mode k x y v1 u1 w) (bW p mn mx one inf sg nan mode (gI mode x y)) (fun os oe oc oh ol ot w hq=>uI hM mode k hk _ os oe oc oh ol ot hq w)).mono ?_;rintro e w'' ⟨Z,fl,hp,rfl,hg'⟩;rw[hmn]at hp;exact⟨_,_,.inl ⟨p,mx,one,inf,sg,nan,x,y,hF,hm,hx,hy,hp⟩,rfl,hg'⟩
  ·refine(jV p mn mx mode nan f mode a b (fun w'' hg'=>gK hF hM mode (fun w=>kD mode om w) (hw'.gr hg')) (fun w=>dH hM w) 209).mono ?_;rintro e w'' ⟨rfl,hg'⟩;exact⟨_,_,.inr (.inl ⟨p,mx,one,inf,sg,nan,hF,om,rfl,rfl⟩),rfl,hg'⟩
 ·refine(jV _ _ _ _ _ f mode a b (fun w'' hg'=>fU f mode hf (hw'.gr hg')) (fun w=>dH m64 w) 209).mono ?_;rintro e w'' ⟨rfl,hg'⟩;exact⟨_,_,.inr (.inr ⟨hf,rfl,rfl⟩),rfl,hg'⟩
theorem aDh{P:Prop}(h:P:=by
 split
 ·exact⟨by dsimp only;omega,by dsimp only;omega⟩
 ·split
  ·exact⟨by dsimp only;omega,by dsimp only;omega⟩
  ·split
   ·exact⟨by dsimp only;omega,by dsimp only;omega⟩
   ·exact⟨by dsimp only;omega,by dsimp only;omega⟩):P:=h
def P_(p:Nat)(A B:Nat):Nat:=2*(A*2^(p+4)/B)+n_ (decide (A*2^(p+4)%B≠0))
def divO(p mode:Int)(x y:bZ):bZ:=
 if 3<=max x.c y.c then⟨max x.c y.c,0,0,0⟩
 else if x.c=y.c/\x.c≠1 then⟨4,0,0,0⟩
 else if x.c=2 then⟨2,mulS x.s y.s,0,0⟩
 else if x.c=1/\y.c=0 then⟨5,mulS x.s y.s,0,0⟩
 else if x.c=1/\y.c=1 then⟨1,mulS x.s y.s,x.e-y.e-(p+4)-1,P_ p.toNat x.M y.M⟩
 else⟨0,mulS x.s y.s,0,0⟩
theorem zF(p mode:Int)(x y:bZ)(h:3<=max x.c y.c):divO p mode x y=⟨max x.c y.c,0,0,0⟩:=by unfold divO;rw[if_pos h]
theorem aFr(p mode:Int)(x y:bZ)(hx:VO x)(hy:VO y):0<=(divO p mode x y).c /\(divO p mode x y).c <=5:=by
 have:=hx.c0;have:=hx.c4;have:=hy.c0;have:=hy.c4;unfold divO;split
 ·dsimp only;omega
 ·split
  ·exact⟨by dsimp only;omega,by dsimp only;omega⟩
  ·exact aDh
theorem Jk(s t:Int):mulS s t=0\/mulS s t=1:=by unfold mulS;split<;>simp
theorem MQ(s t:Int)(hs:s=0\/s=1)(ht:t=0\/t=1):(s+t).tmod 2=mulS s t/\(s+t)%2=mulS s t:=by
 rcases hs with rfl|rfl<;>rcases ht with rfl|rfl<;>decide
theorem Ai(hP:(Pn:Int)=p)(hP1:1<=Pn)(hA:2^(Pn-1)<=A)(hB:B<2^Pn)(hB0:0<B)(e:Int):
  0<A*2^(Pn+2)/B/\p+2<=(nb (A*2^(Pn+2)/B):Int)/\0<A*2^(Pn+4)/B/\p+2<=(nb (A*2^(Pn+4)/B):Int)/\
  (∀s mn mx one inf mode z fl,aO p mn mx one inf mode s (A*2^(Pn+2)/B) (e-(p+2)) (decide (A*2^(Pn+2)%B≠0)) z fl↔aO p mn mx one inf mode s (P_ Pn A B) (e-(p+4)-1) false z fl)/\
  (∀s mn mx one inf mode z fl,aO p mn mx one inf mode s (A*2^(Pn+4)/B) (e-(p+4)) (decide (A*2^(Pn+4)%B≠0)) z fl↔aO p mn mx one inf mode s (P_ Pn A B) (e-(p+4)-1) false z fl):=by
 have h1:2^(Pn+1)*B<=A*2^(Pn+2):=by
  have a1:2^(Pn+1)*B<=2^(Pn+1)*2^Pn:=Nat.mul_le_mul_left _ (Nat.le_of_lt hB);have a2:2^(Pn-1)*2^(Pn+2)<=A*2^(Pn+2):=Nat.mul_le_mul_right _ hA;rw[<-Nat.pow_add]at a1 a2;rw[show Pn-1+(Pn+2)=Pn+1+Pn by omega]at a2;omega
 have h2:2^(Pn+1)*B<=A*2^(Pn+4):=Nat.le_trans h1 (Nat.mul_le_mul_left _ (Nat.pow_le_pow_right de om));have n1:=SY A B (Pn+2) (Pn+1) hB0 h1;have n2:=SY A B (Pn+4) (Pn+1) hB0 h2;have p1:0<A*2^(Pn+2)/B:=by
  rcases Nat.eq_zero_or_pos (A*2^(Pn+2)/B)with c|c
  ·rw[c,Dn]at n1;omega
  ·exact c
 have p2:0<A*2^(Pn+4)/B:=by
  rcases Nat.eq_zero_or_pos (A*2^(Pn+4)/B)with c|c
  ·rw[c,Dn]at n2;omega
  ·exact c
 obtain⟨c1,c2⟩:=aBo A B (Pn+2) 2 hB0;refine⟨p1,om,p2,om,fun s mn mx one inf mode z fl=>?_,fun s mn mx one inf mode z fl=>?_⟩
 ·have h:=aO.cut (p:=p) (mn:=mn) (mx:=mx) (one:=one) (inf:=inf) (mode:=mode) (sign:=s) (m:=A*2^(Pn+2+2)/B) (e:=e-(p+4)) (z:=z) (fl:=fl) 2 (decide (A*2^(Pn+2+2)%B≠0)) (by rw[c1];exact p1) om (by rw[c1];omega) (decide (A*2^(Pn+2)%B≠0)) c2.symm;rw[c1,show e-(p+4)+((2:Nat):Int)=e-(p+2) by omega]at h;exact h
 ·exact aO.rest _ p2 om om
theorem Q9(n:Int):bits .and .i64 n 1=n%2:=by
 have h1:(BitVec.ofInt 64 1).toNat =2^1-1:=de;have h2:(BitVec.ofInt 64 n&&&BitVec.ofInt 64 1).toNat =(n%((2^64:Nat):Int)).toNat %2^1:=by
  rw[BitVec.toNat_and,BitVec.toNat_ofInt,h1,Nat.and_two_pow_sub_one_eq_mod]
 show IntKind.i64.wrap ((BitVec.ofInt 64 n&&&BitVec.ofInt 64 1).toNat :Nat)=n%2;rw[h2,IntKind.wrap_i64];omega
def eY:Nat->Nat
 |0=>0
 |m+1=>if(eY m+1)*(eY m+1)<=m+1 then eY m+1 else eY m
theorem Es(m:Nat):lT m (eY m):=by
 induction m with
 |zero=>exact⟨Nat.zero_le _,de⟩
 |succ m ih=>
  obtain⟨h1,h2⟩:=ih;rw[eY];split
  ·rename_i h
   refine⟨h,?_⟩;have:(eY m+1)*(eY m+1)+(eY m+1)+(eY m+1)+1=(eY m+1+1)*(eY m+1+1):=by
    simp only[Nat.add_mul,Nat.mul_add];omega
   omega
  ·rename_i h
   exact⟨om,om⟩
def jd(p e:Int):Nat:=if(e-(p+8))%2=0 then p.toNat+8 else p.toNat+9
def sqM(P A:Nat):Nat:=2*eY (A*2^P)+n_ (decide (eY (A*2^P)*eY (A*2^P)≠A*2^P))
def kC(p mode:Int)(x y:bZ):bZ:=
 if 3<=x.c then⟨x.c,0,0,0⟩
 else if x.c=0 then⟨0,x.s,0,0⟩
 else if x.s=1 then⟨4,0,0,0⟩
 else if x.c=2 then⟨2,0,0,0⟩
 else⟨1,0,(x.e-jd p x.e)/2-1,sqM (jd p x.e) x.M⟩
theorem aA4(p mode:Int)(x y:bZ)(hx:VO x)(hy:VO y):0<=(kC p mode x y).c /\(kC p mode x y).c <=5:=by
 have:=hx.c0;have:=hx.c4;unfold kC;split
 ·dsimp only;omega
 ·exact aDh
theorem Yo(h:lT A C)(hA:2^(2*k)<=A):2^k<=C:=by
 have h1:2^k*2^k<(C+1)*(C+1):=by
  rw[<-Nat.pow_add,show k+k=2*k by omega];exact Nat.lt_of_le_of_lt hA h.2
 have:=mJ h1;omega
theorem Eo(hP:(Pn:Int)=p)(hP1:1<=Pn)(Nw:Pn<=53)(hA:2^(Pn-1)<=A)(hA2:A<2^Pn)(e hi hq:Int)(od:Nat)(hhi:e+(p-1)=hi)(hod:hi%2=(od:Int))(hhq:hi/2=hq):
  ∃(C:Nat) (st:Bool),C=dC bH (A*2^(61-Pn+od)) (Pn+3)/\st=decide (dR bH (A*2^(61-Pn+od)) (Pn+2)≠0)/\0<C/\C<18446744073709551616/\p+2<=(nb C:Int)/\0<eY (A*2^jd p e)/\p+2<=(nb (eY (A*2^jd p e)):Int)/\
  (∀s mn mx one inf mode z fl,aO p mn mx one inf mode s C (hq-(p+2)) st z fl↔aO p mn mx one inf mode s (sqM (jd p e) A) ((e-jd p e)/2-1) false z fl)/\
  (∀s mn mx one inf mode z fl,aO p mn mx one inf mode s (eY (A*2^jd p e)) ((e-jd p e)/2) (decide (eY (A*2^jd p e)*eY (A*2^jd p e)≠A*2^jd p e)) z fl↔aO p mn mx one inf mode s (sqM (jd p e) A) ((e-jd p e)/2-1) false z fl):=by
 have aIM:od<=1:=om;obtain⟨t,ht1,hPl,het⟩:∃t:Nat,1<=t/\jd p e=Pn+5+od+2*t/\(e-jd p e)/2+(t:Int)=hq-(p+2):=by
  unfold jd;by_cases c:(e-(p+8))%2=0
  ·rw[if_pos c];exact⟨1,om,om,om⟩
  ·rw[if_neg c];exact⟨2,om,om,om⟩
 obtain⟨q1,q2,q3⟩:=Ep A Pn od hP1 Nw aIM hA2;have hr:=Es (A*2^jd p e);have e1:A*2^jd p e=A*2^(Pn+5+od)*2^(2*t):=by rw[hPl,Nat.pow_add,Nat.mul_assoc]
 have hr2:=hr;rw[e1]at hr2;rw[<-e1]at hr2;obtain⟨C,hC⟩:∃C,C=dC bH (A*2^(61-Pn+od)) (Pn+3):=⟨_,rfl⟩;rw[<-hC]at q1 q2 q3;have sc:eY (A*2^jd p e)/2^t=C/\(decide (eY (A*2^jd p e)%2^t≠0)||decide (eY (A*2^jd p e)*eY (A*2^jd p e)≠A*2^(Pn+5+od)*2^(2*t)))=decide (C*C≠A*2^(Pn+5+od)):=by
  refine lT.scale t q1 ?_;rw[<-e1];exact hr
 rw[<-e1]at sc;obtain⟨s1,s2⟩:=sc;have hlow:2^(Pn+2)<=C:=by
  refine Yo q1 ?_;have a1:2^(Pn-1)*2^(Pn+5+od)<=A*2^(Pn+5+od):=Nat.mul_le_mul_right _ hA;rw[<-Nat.pow_add]at a1;exact Nat.le_trans (Nat.pow_le_pow_right de om) a1
 have hnC:=pq hlow;have hC0:0<C:=Nat.lt_of_lt_of_le (Nat.pow_pos de) hlow;have hCr:C<=eY (A*2^jd p e):=by rw[<-s1];exact Nat.div_le_self _ _
 have hnr:=pq (Nat.le_trans hlow hCr);refine⟨C,_,hC,rfl,hC0,q3,om,om,om,fun s mn mx one inf mode z fl=>?_,fun s mn mx one inf mode z fl=>?_⟩
 ·have h:=aO.cut (p:=p) (mn:=mn) (mx:=mx) (one:=one) (inf:=inf) (mode:=mode) (sign:=s) (m:=eY (A*2^jd p e)) (e:=(e-jd p e)/2) (z:=z) (fl:=fl) t (decide (eY (A*2^jd p e)*eY (A*2^jd p e)≠A*2^jd p e)) (by rw[s1];exact hC0) om (by rw[s1];omega) (decide (dR bH (A*2^(61-Pn+od)) (Pn+2)≠0)) (by rw[s2,decide_eq_decide];exact q2);rw[s1,het]at h;exact h
 ·exact aO.rest _ om om om
theorem D5(hF:aP f p mx one inf sg nan)(hM:rZ p mn mx fb sp one inf sg nan)(md:Int)(k:Nat){x y:bZ}(hx:bP p mx one inf sg nan a x)(h3:x.c<3)(w:World):
  CT 221 #[dP p mn mx md k,aU x.s x.e x.c (((x.M/18446744073709551616:Nat):Int)) (((x.M%18446744073709551616:Nat):Int)) false 0,aU y.s y.e y.c (((y.M/18446744073709551616:Nat):Int)) (((y.M%18446744073709551616:Nat):Int)) false 0] w fun e w'=>∃os oe oc oh ol ot of,jT p (kC p md x y) os oe oc oh ol ot of/\e=.returned (aU os oe oc oh ol ot of)/\Gr w w':=by
 obtain⟨v1,v2,v3,v4,v5,v6⟩:=bQ hF hx;have hpb:24<=p/\p<=53:=by have:=hF.bounds;omega
 have hfb:fb=p-1:=by rcases hM with h|h<;>omega
 have c0:=v1.c0;have jF:=v1.jF;unfold kC;rw[if_neg (show ¬3<=x.c by omega)];by_cases cz:x.c=0
 ·rw[if_pos cz];have hM0:x.M=0:=v3 om;rw[cz,hM0];refine(Cm p mn mx md k _ _ 0 _ _ _ _ _ _ _ _ _ w).mono ?_;rintro r w' ⟨rfl,hg⟩;exact⟨_,_,_,_,_,_,_,jT.flat p _ _ _ 0 _ rfl om om om (fun _=>⟨rfl,jF⟩),rfl,hg⟩
 ·rw[if_neg cz];by_cases cs:x.s=1
  ·rw[if_pos cs,cs];rcases(show x.c=1\/x.c=2 by omega)with c|c
   ·rw[c];refine(CG p mn mx md k 0 _ 0 _ _ _ _ _ _ _ _ _ w).mono ?_;rintro r w' ⟨rfl,hg⟩;exact⟨_,_,_,_,_,_,_,jT.nan p 4 om om,rfl,hg⟩
   ·rw[c];refine(CB p mn mx md k 0 _ 0 _ _ _ _ _ _ _ _ _ w).mono ?_;rintro r w' ⟨rfl,hg⟩;exact⟨_,_,_,_,_,_,_,jT.nan p 4 om om,rfl,hg⟩
  ·rw[if_neg cs];have s0:x.s=0:=om;rw[s0];by_cases ci:x.c=2
   ·rw[if_pos ci,ci];have hM0:x.M=0:=v3 om;rw[hM0];refine(DZ p mn mx md k 0 _ 0 _ _ _ _ _ _ _ _ _ w).mono ?_;rintro r w' ⟨rfl,hg⟩;exact⟨_,_,_,_,_,_,_,jT.flat p _ _ _ 2 _ rfl om om om (fun _=>⟨rfl,.inl rfl⟩),rfl,hg⟩
   ·have c1:x.c=1:=om;rw[if_neg ci,c1];obtain⟨Pn,hP,hP1,Nw,hA,hA2⟩:=o_ hF hx c1;obtain⟨od,hod⟩:∃od:Nat,(x.e+(p-1))%2=(od:Int):=⟨((x.e+(p-1))%2).toNat,om⟩;obtain⟨C,st,hC,hst,r1,r2,r3,r4,r5,r6,r7⟩:=Eo hP hP1 Nw hA hA2 x.e _ _ od rfl hod rfl;have hN:x.M*2^(61-Pn+od)<18446744073709551616:=by
     have h1:x.M*2^(61-Pn+od)<2^Pn*2^(61-Pn+od):=Nat.mul_lt_mul_of_pos_right hA2 (Nat.pow_pos de);rw[<-Nat.pow_add]at h1;have h2:2^(Pn+(61-Pn+od))<=2^62:=Nat.pow_le_pow_right de om;have h3:2^62<18446744073709551616:=de;omega
    have hwr:IntKind.u64.wrap (((x.M%18446744073709551616:Nat):Int)*2^((61-p+od:Int)).toNat)=((x.M*2^(61-Pn+od):Nat):Int):=by
     rw[Nat.mod_eq_of_lt om,show((61-p+od:Int)).toNat =61-Pn+od by omega,IntKind.wrap_u64];rw[Int.natCast_mul,Int.natCast_pow];have:=hN;rw[show((x.M:Int)*((2:Nat):Int)^(61-Pn+od))=((x.M*2^(61-Pn+od):Nat):Int) by rw[Int.natCast_mul,Int.natCast_pow]];rw[show((x.M:Int)*2^(61-Pn+od))=((x.M*2^(61-Pn+od):Nat):Int) by rw[Int.natCast_mul,Int.natCast_pow];rfl];omega
    refine(DY p mn mx md k x.e _ _ _ _ _ _ _ _ _ fb (x.e+(p-1)) od (61-p) (61-p+od) ((x.e+(p-1))/2) (x.M*2^(61-Pn+od)) hN om om om om (by rw[hfb,IntKind.wrap_i64];omega) (by rw[Q9];exact hod) (by rw[hfb,IntKind.wrap_i64];omega) (by rw[IntKind.wrap_i64];omega) om om hwr rfl om om om om (fun w=>qw hM w) 0 ((x.e+(p-1))/2-(p+2)) 1 0 _ _ (fun w v hd=>TS p mn mx md k 0 ((x.e+(p-1))/2) om om om om hN hd (Pn+3) om) w).mono ?_;rintro r w' ⟨rfl,hg⟩;refine⟨_,_,_,_,_,_,_,.inl ⟨C,?_,?_,rfl,rfl,(show(0:Int)<=1 by omega),(show(1:Int)<=4 by omega),fun _=>⟨rfl,.inl rfl⟩,fun _=>⟨r1,om,fun _=>r3,om,om,fun mn mx one inf mode z fl=>?_⟩⟩,rfl,hg⟩
    ·rw[Nat.div_eq_of_lt r2];rfl
    ·rw[Nat.mod_eq_of_lt r2,hC]
    ·rw[show Pn+3-1=Pn+2 from rfl,<-hst];exact r6 _ _ _ _ _ _ _ _
