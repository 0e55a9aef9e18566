import Derived.Test.YtmiekgjgpmfekaaGreatDoorK6
import Derived.Test.YtmiekgjgpmfekaaGreatDoorM8
set_option linter.all false
set_option maxRecDepth 1000000
set_option maxHeartbeats 40000000
open Bool renaming false → X
open Go.Proofs.YtmiekgjgpmfekaaGreatDoor renaming vI → J, vU → Y
open Go.Ending renaming returned → O
open Go.Proofs.Tryz
namespace Go.Proofs.YtmiekgjgpmfekaaGreatDoor
open Go.RowKit
variable{w:World}{f a p mx inf sg nan mode fl Z Z' oQ:Int}{ex:Bool}
theorem aC7{P:Prop}(h:P:=by
 refine bodyPost_ret (v:=aU os oe oc oh ol ot of) (by simp[results,Tryz.results90,go_sem,fP]) rfl ⟨os,oe,oc,oh,ol,ot,of,hq,rfl,?_⟩;exact Gr.g):P:=h
attribute [local go_sem] bK
theorem AX(p mn mx md:Int)(k:Nat)(sx ex cx xh xl sy ey cy yh yl:Int)(tx ty:Bool)(m:Int)(hm:max cx cy=m)(h3:m<3)(Q:Int->Int->Int->Int->Int->Bool->Int->Prop)(HO:Hid (∀w,CT 222 #[dP p mn mx md k,aU sx ex cx xh xl tx 0,aU sy ey cy yh yl ty 0] w fun e w'=>∃os oe oc oh ol ot of,Q os oe oc oh ol ot of/\e=O (aU os oe oc oh ol ot of)/\Gr w w'))(w:World):
  CT 90 #[dP p mn mx md k,.func (.func 222) #[] #[],aU sx ex cx xh xl tx 0,aU sy ey cy yh yl ty 0] w fun e w'=>∃os oe oc oh ol ot of,Q os oe oc oh ol ot of/\e=O (aU os oe oc oh ol ot of)/\Gr w w':=by
 go_enter func90,ntmps90;go_wp2_with (go_at_call 222;refine(HO _).mono ?_;rintro e w1 ⟨os,oe,oc,oh,ol,ot,of,hq,rfl,ak⟩;have fP:=ak.mX w);exact aC7
theorem yt(p mn mx md:Int)(k:Nat)(sx ex cx xh xl sy ey cy yh yl:Int)(tx ty:Bool)(m:Int)(hm:max cx cy=m)(h3:m<3)(Q:Int->Int->Int->Int->Int->Bool->Int->Prop)(HO:Hid (∀w,CT 221 #[dP p mn mx md k,aU sx ex cx xh xl tx 0,aU sy ey cy yh yl ty 0] w fun e w'=>∃os oe oc oh ol ot of,Q os oe oc oh ol ot of/\e=O (aU os oe oc oh ol ot of)/\Gr w w'))(w:World):
  CT 90 #[dP p mn mx md k,.func (.func 221) #[] #[],aU sx ex cx xh xl tx 0,aU sy ey cy yh yl ty 0] w fun e w'=>∃os oe oc oh ol ot of,Q os oe oc oh ol ot of/\e=O (aU os oe oc oh ol ot of)/\Gr w w':=by
 go_enter func90,ntmps90;go_wp2_with (go_at_call 221;refine(HO _).mono ?_;rintro e w1 ⟨os,oe,oc,oh,ol,ot,of,hq,rfl,ak⟩;have fP:=ak.mX w);exact aC7
theorem Q7(f mode a b:Int)(R:Int->Int->Prop)(HC:Hid (∀w',Gr w w'->CT 133 #[J f,J mode,.func (.func 222) #[] #[],Y a,Y b] w' (zW R w'))):
  CT 206 #[J f,J mode,Y a,Y b] w (zW R w):=by
 go_enter func206,ntmps206;go_wp2_with (go_at_call 133;refine(HC _ Gr.g).mono ?_;rintro e w1 ⟨z,fl,hr,rfl,ak⟩;have fP:=ak.aZ w);refine bodyPost_ret (v:=aK z fl) (by simp[results,Tryz.results206,go_sem,fP]) rfl ⟨z,fl,hr,rfl,?_⟩;exact Gr.g
theorem Nl(f mode a:Int)(R:Int->Int->Prop)(HC:Hid (∀w',Gr w w'->CT 133 #[J f,J mode,.func (.func 221) #[] #[],Y a,Y a] w' (zW R w'))):
  CT 205 #[J f,J mode,Y a] w (zW R w):=by
 go_enter func205,ntmps205;go_wp2_with (go_at_call 133;refine(HC _ Gr.g).mono ?_;rintro e w1 ⟨z,fl,hr,rfl,ak⟩;have fP:=ak.aZ w);refine bodyPost_ret (v:=aK z fl) (by simp[results,Tryz.results205,go_sem,fP]) rfl ⟨z,fl,hr,rfl,?_⟩;exact Gr.g
theorem aC8{P:Prop}(h:P:=by
 subst c;go_enter func91,ntmps91;go_wp2_with (go_at_call 157;refine ku (HR _) fun w1 ak=>?_;have:=ak.Cb w;have fP:=ak.mX w;have hz1:=au fP.1);exact bI (by simp[results,Tryz.results91,go_sem,fP])):P:=h
theorem qH(p mn mx md:Int)(k:Nat)(sx ex cx xh xl sy ey cy yh yl:Int)(tx ty:Bool)(c:(cx != 1)=true)(w:World):
  Ik p mn mx md k sx ex cx xh xl tx 0 sy ey cy yh yl ty 0 w sx ex cx xh xl tx 0:=by
 go_enter func91,ntmps91;go_wp2;go_returns;exact⟨rfl,Gr.g⟩
theorem z_(p mn mx md:Int)(k:Nat)(sx ex cx xh xl sy ey cy yh yl:Int)(tx ty:Bool)(c:cx=1)(c2:decide (0<=ex)=true)(w:World):
  Ik p mn mx md k sx ex cx xh xl tx 0 sy ey cy yh yl ty 0 w sx ex 1 xh xl tx 0:=by
 subst c;go_enter func91,ntmps91;go_wp2;go_returns;exact⟨rfl,Gr.g⟩
theorem zY(p mn mx md:Int)(k:Nat)(sx ex cx xh xl sy ey cy yh yl:Int)(tx ty:Bool)(dr m:Int)(c:cx=1)(c2:decide (0<=ex)=X)(hn:wrap64 (-ex)=dr)(HR:J4 k dr sx xh xl X m true)(w:World):
  Ik p mn mx md k sx ex cx xh xl tx 0 sy ey cy yh yl ty 0 w sx 0 1 0 m tx 16:=by
 exact aC8
theorem zZ(p mn mx md:Int)(k:Nat)(sx ex cx xh xl sy ey cy yh yl:Int)(tx ty:Bool)(dr m:Int)(c:cx=1)(c2:decide (0<=ex)=X)(hn:wrap64 (-ex)=dr)(HR:J4 k dr sx xh xl X m X)(w:World):
  Ik p mn mx md k sx ex cx xh xl tx 0 sy ey cy yh yl ty 0 w sx 0 1 0 m tx 0:=by
 exact aC8
theorem Yr(f mode a:Int)(R:Int->Int->Prop)(HC:Hid (∀w',Gr w w'->CT 133 #[J f,J mode,.func (.func 91) #[] #[],Y a,Y a] w' (zW R w'))):
  CT 65 #[J f,J mode,Y a,.bool true] w (zW R w):=by
 go_enter func65,ntmps65;go_upto_region 2 with(go_at_call 133;refine(HC _ Gr.g).mono ?_;rintro e w1 ⟨z,fl,hr,rfl,ak⟩;have fP:=ak.aZ w;have hz1:=au fP.1);obtain⟨w2,hw2⟩:∃w2,w1.alloc (.cells #[Y z,J fl] 56)=w2:=⟨_,rfl⟩;have aA:Gr w1 w2:=by rw[<-hw2];exact(Gr.refl _).alloc _ _
 have x0:w2.cell? ⟨w1.heap.size,0,none⟩=some (Y z):=by rw[<-hw2];simp[go_sem]
 have x1:w2.cell? ⟨w1.heap.size,1,none⟩=some (J fl):=by rw[<-hw2];simp[go_sem]
 have xz1:bK w2 w1.heap.size 1:=by rw[<-hw2];simp[go_sem]
 have hz2:w1.heap.size<w2.heap.size:=by rw[<-hw2];simp
 rw[hw2];clear hw2;have jk:=aA.aZ w;have hgw:Gr w w2:=Gr.g;go_wp2;refine bodyPost_ret (v:=aK z fl) (by simp[results,Tryz.results65,go_sem,jk]) rfl ⟨z,fl,hr,rfl,?_⟩;exact Gr.g
theorem Yt(f mode a:Int)(R:Int->Int->Prop)(G:Int->Int)(hG:Hid (∀z fl,R z fl->bits .andNot .i64 fl 16=G fl))(HC:Hid (∀w',Gr w w'->CT 133 #[J f,J mode,.func (.func 91) #[] #[],Y a,Y a] w' (zW R w'))):
  CT 65 #[J f,J mode,Y a,.bool X] w fun e w'=>∃z fl,R z fl/\e=O (aK z (G fl))/\Gr w w':=by
 go_enter func65,ntmps65;go_upto_region 2 with(go_at_call 133;refine(HC _ Gr.g).mono ?_;rintro e w1 ⟨z,fl,hr,rfl,ak⟩;have fP:=ak.aZ w;have hz1:=au fP.1;have hand:=hG.out z fl hr);obtain⟨w2,hw2⟩:∃w2,w1.alloc (.cells #[Y z,J fl] 56)=w2:=⟨_,rfl⟩;have aA:Gr w1 w2:=by rw[<-hw2];exact(Gr.refl _).alloc _ _
 have x0:w2.cell? ⟨w1.heap.size,0,none⟩=some (Y z):=by rw[<-hw2];simp[go_sem]
 have x1:w2.cell? ⟨w1.heap.size,1,none⟩=some (J fl):=by rw[<-hw2];simp[go_sem]
 have xz1:bK w2 w1.heap.size 1:=by rw[<-hw2];simp[go_sem]
 have hz2:w1.heap.size<w2.heap.size:=by rw[<-hw2];simp
 rw[hw2];clear hw2;have jk:=aA.aZ w;have hgw:Gr w w2:=Gr.g;go_wp2;refine bodyPost_ret (v:=aK z (G fl)) (by simp[results,Tryz.results65,go_sem,jk]) rfl ⟨z,fl,hr,rfl,?_⟩;exact Gr.g
def yE(x:bZ):Int:=if x.c=1/\fD x=true then 16 else 0
def FT(p mx one inf sg nan mode:Int)(x:bZ)(ex:Bool)(Z fl:Int):Prop:=
 3<=x.c/\Z=nan/\fl=(if x.c=4 then 1 else 0)\/x.c<=2/\bW p (1-mx) mx one inf sg nan mode (nX mode x) Z 0/\fl=(if ex then yE x else 0)
def jl(f mode a:Int)(ex:Bool)(Z fl:Int):Prop:=
 (∃p mx one inf sg nan x,aP f p mx one inf sg nan/\(0<=mode/\mode<=4)/\bP p mx one inf sg nan a x/\FT p mx one inf sg nan mode x ex Z fl)\/
 (∃p mx one inf sg nan,aP f p mx one inf sg nan/\(mode<0\/4<mode)/\Z=nan/\fl=1)\/
 (¬(f=0\/f=1)/\Z=9221120237041090560/\fl=1)
theorem jl.one(h:jl f mode a ex Z fl)(h':jl f mode a ex Z' oQ):Z=Z'/\fl=oQ:=by
 rcases h with⟨p,mx,one,inf,sg,nan,x,hF,hm,hx,hp⟩|⟨p,mx,one,inf,sg,nan,hF,hm,rfl,rfl⟩|⟨hF,rfl,rfl⟩<;>
 rcases h' with⟨p',mx',one',inf',SS,nan',x',hF',hm',hx',hp'⟩|⟨p',mx',one',inf',SS,nan',hF',hm',rfl,rfl⟩|⟨hF',rfl,rfl⟩
 ·obtain⟨rfl,rfl,rfl,rfl,rfl,rfl⟩:=hF.one hF';obtain rfl:=hx.one hF hx';rcases hp with⟨c,rfl,rfl⟩|⟨c,hp,rfl⟩<;>rcases hp' with⟨c',rfl,rfl⟩|⟨c',hp',rfl⟩
  ·exact⟨rfl,rfl⟩
  ·exfalso;omega
  ·exfalso;omega
  ·exact⟨(bW.one hp hp').1,rfl⟩
 ·exfalso;omega
 ·exact absurd hF.yes.symm (by simp[hF'])
 ·exfalso;omega
 ·obtain⟨rfl,rfl,rfl,rfl,rfl,rfl⟩:=hF.one hF';exact⟨rfl,rfl⟩
 ·exact absurd hF.yes.symm (by simp[hF'])
 ·exact absurd hF'.yes.symm (by simp[hF])
 ·exact absurd hF'.yes.symm (by simp[hF])
 ·exact⟨rfl,rfl⟩
theorem jw{x:bZ}(h:¬(x.c=1/\x.e<0)):nX mode x=x:=by unfold nX;rw[if_neg h]
theorem qF{one a:Int}(hF:aP f p mx one inf sg nan){x:bZ}(h:¬(x.c=1/\x.e<0)):yE x=0:=by
 unfold yE;by_cases c:x.c=1
 ·rw[vN (x:=x) om,if_neg (by simp)]
 ·rw[if_neg (fun h=>c h.1)]
theorem OQ(x:bZ):yE x=0\/yE x=16:=by unfold yE;split<;>simp
theorem aEZ(x:bZ):bits .or .i64 0 (yE x)=yE x:=by rcases OQ x with h|h<;>rw[h]<;>decide+kernel
theorem jW{one:Int}(hF:aP f p mx one inf sg nan){x:bZ}(hx:bP p mx one inf sg nan a x)(mode:Int)(c:x.c=1)(e:x.e<0):
  ((aN mode x:Nat):Int)<=one/\(aN mode x=0->bW p (1-mx) mx one inf sg nan mode (nX mode x) (sw x.s sg 0) 0)/\
  (0<aN mode x->∃z,(∀md,aO p (1-mx) mx one inf md x.s (aN mode x) 0 X z 0)/\bW p (1-mx) mx one inf sg nan mode (nX mode x) (sw x.s sg z) 0):=by
 obtain⟨P,hP,aBW,hone⟩:=hF.pow;have hone':one=((2^P:Nat):Int):=by rw[wH];exact hone
 have hM:x.M<2^(P+1):=by
  have hb:=hF.bounds;rcases hx with⟨_,hu⟩|⟨_,rfl⟩
  ·obtain⟨h1,h2,h3,h4,h5,h6,h7,h8,h9⟩:=jg hF hu;rw[Nat.pow_succ];omega
  ·cases c
 have hl:=Uk (mode:=mode) e hM;have hw:nX mode x=if aN mode x=0 then⟨0,x.s,0,0⟩else⟨1,x.s,0,aN mode x⟩:=by unfold nX;rw[if_pos ⟨c,e⟩]
 refine⟨om,fun h0=>?_,fun h0=>?_⟩
 ·rw[hw,if_pos h0];exact .inl ⟨rfl,rfl,rfl⟩
 ·obtain⟨z,z0,z1,hz⟩:=KD hF x.s (aN mode x) h0 om;refine⟨z,hz,?_⟩;rw[hw,if_neg (by omega)];exact .inr (.inl ⟨rfl,z,hz mode,rfl⟩)
theorem UE(m:Int)(h3:3<=m)(h4:m<=4):pU ⟨m,0,0,0⟩ 0 0 m 0 0 X:=⟨0,by simp,by simp,Same.self ⟨m,0,0,0⟩ (fun c=>by dsimp only at c;omega),om,om,fun c=>om⟩
theorem Gw{one:Int}(hF:aP f p mx one inf sg nan)(mode:Int)(hm:0<=mode/\mode<=4)(a0:0<=a)(a1:a<18446744073709551616){x:bZ}(hx:bP p mx one inf sg nan a x)(hw:Fm w):
  CT 133 #[J f,J mode,.func (.func 91) #[] #[],Y a,Y a] w fun e w'=>∃z fl,FT p mx one inf sg nan mode x true z fl/\e=O (aK z fl)/\Gr w w':=by
 obtain⟨mn,fb,sp,hM,hmn,hfb⟩:=hF.m;obtain⟨k,hk⟩:=kH mode hm.1 hm.2;obtain⟨x',hx',HA⟩:=lI hF hM a a0 a1;obtain rfl:=hx.one hF hx';obtain⟨v1,v2,v3,v4,v5,v6⟩:=bQ hF hx;have hb:=hF.bounds;have xc0:=v1.c0;have Ui:=v1.c4;refine FH p mn mx mode f k 91 a a _ _ _ _ _ _ _ _ _ _ _ _ (fun w'' hg'=>eP hF hM mode k (fun w=>gW mode k hk w) (hw.gr hg')) HA HA
  (fun os oe oc oh ol ot of=>3<=x.c/\pU ⟨x.c,0,0,0⟩ os oe oc oh ol ot/\of=0\/x.c<=2/\¬(x.c=1/\x.e<0)/\pU x os oe oc oh ol ot/\of=0\/(x.c=1/\x.e<0)/\os=x.s/\oe=0/\oc=1/\oh=0/\ol=((aN mode x:Nat):Int)/\ot=X/\of=yE x)
  (fun w=>?_) _ (fun os oe oc oh ol ot of w hq=>?_)
 ·by_cases cn:3<=x.c
  ·refine(iK p mn mx mode k _ _ _ _ _ _ _ _ _ _ _ _ _ x.c om cn w).mono ?_;rintro e w' ⟨rfl,hg⟩;exact⟨_,_,_,_,_,_,_,.inl ⟨cn,UE _ cn Ui,rfl⟩,rfl,hg⟩
  ·refine nD p mn mx mode k _ _ _ _ _ _ _ _ _ _ _ _ x.c om om _ (fun w=>?_) w;by_cases c:x.c=1
   ·by_cases e:x.e<0
    ·have hl:=(jW hF hx mode c e).1;have HR:∀b:Bool,decide (0<aJ x.M x.e 0 X)=b->J4 k (0-x.e) x.s ((x.M/18446744073709551616:Nat):Int) ((x.M%18446744073709551616:Nat):Int) X ((aN mode x:Nat):Int) b:=fun b hb' w=>hb'▸mG mode k hk x.s v1.jF x.M om x.e 0 (0-x.e) X rfl om om (fun _=>rfl) (by
       have h1:=(fZ mode x.s (aW x.M x.e 0) (aJ x.M x.e 0 X)).1;unfold aN at hl;omega) w
     have hn:wrap64 (-x.e)=0-x.e:=by
      rw[show-x.e=0-x.e by omega];unfold wrap64;omega
     have ce:decide (0<=x.e)=X:=by simp;omega
     by_cases hh:0<aJ x.M x.e 0 X
     ·refine(zY p mn mx mode k _ _ _ _ _ _ _ _ _ _ _ _ (0-x.e) _ c ce hn (HR true (by simp[hh])) w).mono ?_;rintro r w' ⟨rfl,hg⟩;exact⟨_,_,_,_,_,_,_,.inr (.inr ⟨⟨c,e⟩,rfl,rfl,rfl,rfl,rfl,rfl,by unfold yE fD;rw[if_pos ⟨c,by simp[hh]⟩]⟩),rfl,hg⟩
     ·refine(zZ p mn mx mode k _ _ _ _ _ _ _ _ _ _ _ _ (0-x.e) _ c ce hn (HR X (by simp[hh])) w).mono ?_;rintro r w' ⟨rfl,hg⟩;exact⟨_,_,_,_,_,_,_,.inr (.inr ⟨⟨c,e⟩,rfl,rfl,rfl,rfl,rfl,rfl,by unfold yE fD;rw[if_neg (by simp[hh])]⟩),rfl,hg⟩
    ·refine(z_ p mn mx mode k _ _ _ _ _ _ _ _ _ _ _ _ c (by simp;omega) w).mono ?_;rintro r w' ⟨rfl,hg⟩;exact⟨_,_,_,_,_,_,_,.inr (.inl ⟨om,fun h=>e h.2,c▸v1.same,rfl⟩),rfl,hg⟩
   ·refine(qH p mn mx mode k _ _ _ _ _ _ _ _ _ _ _ _ (by simp[c]) w).mono ?_;rintro r w' ⟨rfl,hg⟩;exact⟨_,_,_,_,_,_,_,.inr (.inl ⟨om,fun h=>c h.1,v1.same,rfl⟩),rfl,hg⟩
 ·rcases hq with⟨cn,hs,rfl⟩|⟨c2,hn,hs,rfl⟩|⟨⟨c,e⟩,rfl,rfl,rfl,rfl,rfl,rfl,rfl⟩
  ·refine(uI hM mode k hk _ os oe oc oh ol ot hs w).mono ?_;rintro r w' ⟨Z,fl,hp,rfl,hg⟩;refine⟨Z,fl,.inl ⟨cn,?_⟩,rfl,hg⟩;rcases hp with⟨d,_⟩|⟨d,_⟩|⟨d,_⟩|⟨d,rfl,rfl⟩|⟨d,rfl,rfl⟩<;>dsimp only at d
   ·omega
   ·omega
   ·omega
   ·exact⟨rfl,by rw[if_neg (by omega)]⟩
   ·exact⟨rfl,by rw[if_pos d]⟩
  ·refine(uI hM mode k hk _ os oe oc oh ol ot hs w).mono ?_;rintro r w' ⟨Z,fl,hp,rfl,hg⟩;rw[hmn]at hp;obtain⟨rfl,rfl⟩:=bW.one hp (nZ hF a0 hx c2 mode);refine⟨_,_,.inr ⟨c2,?_,?_⟩,rfl,hg⟩
   ·rw[jw hn];exact hp
   ·rw[qF (a:=Z) hF hn];rfl
  ·obtain⟨hl,hz0,hz1⟩:=jW hF hx mode c e;refine(Td p mn mx mode k x.s 0 0 ((aN mode x:Nat):Int) X (yE x) (fun z fl=>bW p (1-mx) mx one inf sg nan mode (nX mode x) z 0/\fl=0) (fun _=>yE x) (fun z fl h=>by rw[h.2];exact aEZ x) (fun w=>?_) w).mono ?_
   ·rcases Nat.eq_zero_or_pos (aN mode x)with h0|h0
    ·rw[h0];refine(y8 hM mode k x.s 0 X om om (sw x.s sg 0) (fun w=>jc hM x.s _ ?_ w) w).mono ?_
     ·rcases v1.jF with h|h<;>rw[h]
      ·exact .inl ⟨rfl,by simp[sw]⟩
      ·exact .inr ⟨rfl,by simp[sw]⟩
     ·rintro r w' ⟨rfl,hg⟩;exact⟨_,_,⟨hz0 h0,rfl⟩,rfl,hg⟩
    ·obtain⟨z,hr,hp⟩:=hz1 h0;have:=qM hM mode mode k hk x.s v1.jF 0 om om (aN mode x) h0 om X (fun h=>by cases h) w;rw[show aN mode x/18446744073709551616=0 by omega,show aN mode x%18446744073709551616=aN mode x by omega]at this;refine this.mono ?_;rintro r w' ⟨z',fl,hr',rfl,hg⟩;rw[hmn]at hr';obtain⟨rfl,rfl⟩:=aO.one hr' (hr mode);exact⟨_,_,⟨by rw[Ls];exact hp,rfl⟩,rfl,hg⟩
   ·rintro r w' ⟨z,fl,⟨hp,rfl⟩,rfl,hg⟩;exact⟨_,_,.inr ⟨om,hp,by rw[if_pos rfl]⟩,rfl,hg⟩
theorem aAy(h:fl=0\/fl=1\/fl=16):bits .andNot .i64 fl 16=if fl=16 then 0 else fl:=by rcases h with rfl|rfl|rfl<;>decide+kernel
theorem rH(f mode a:Int)(ex:Bool)(a0:0<=a)(a1:a<18446744073709551616)(w:World)(hw:Fm w):
  CT 65 #[J f,J mode,Y a,.bool ex] w fun e w'=>∃Z fl,jl f mode a ex Z fl/\e=O (aK Z fl)/\Gr w w':=by
 have bad:∀(nan:Int),jl f mode a ex nan 1->(∀w',Gr w w'->QR 133 #[J f,J mode,.func (.func 91) #[] #[],Y a,Y a] w' (aK nan 1))->CT 65 #[J f,J mode,Y a,.bool ex] w fun e w'=>∃Z fl,jl f mode a ex Z fl/\e=O (aK Z fl)/\Gr w w':=by
  intro nan hR HC;have OL:Hid (∀w',Gr w w'->CT 133 #[J f,J mode,.func (.func 91) #[] #[],Y a,Y a] w' fun e w''=>∃z fl,(z=nan/\fl=1)/\e=O (aK z fl)/\Gr w' w''):=fun w' hg=>(HC w' hg).mono (fun e w'' ⟨h1,h2⟩=>⟨nan,1,⟨rfl,rfl⟩,h1,h2⟩);cases ex
  ·refine(Yt f mode a _ (fun _=>1) (fun z fl h=>by rw[h.2];decide+kernel) OL).mono ?_;rintro e w' ⟨z,fl,⟨rfl,rfl⟩,rfl,hg⟩;exact⟨_,_,hR,rfl,hg⟩
  ·refine(Yr f mode a _ OL).mono ?_;rintro e w' ⟨z,fl,⟨rfl,rfl⟩,rfl,hg⟩;exact⟨_,_,hR,rfl,hg⟩
 by_cases hf:f=0\/f=1
 ·obtain⟨p,mx,one,inf,sg,nan,hF⟩:=iC f hf;obtain⟨mn,fb,sp,hM,hmn,hfb⟩:=hF.m;by_cases hm:0<=mode/\mode<=4
  ·obtain⟨x,hx⟩:=fE hF a a0 a1;have HC:Hid (∀w',Gr w w'->CT 133 #[J f,J mode,.func (.func 91) #[] #[],Y a,Y a] w' fun e w''=>∃z fl,FT p mx one inf sg nan mode x true z fl/\e=O (aK z fl)/\Gr w' w''):=fun w' hg=>Gw hF mode hm a0 a1 hx (hw.gr hg);have hfl:∀z fl,FT p mx one inf sg nan mode x true z fl->fl=0\/fl=1\/fl=16:=by
    rintro z fl (⟨_,_,rfl⟩|⟨_,_,rfl⟩)
    ·split<;>simp
    ·rw[if_pos rfl];rcases OQ x with h|h<;>simp[h]
   cases ex
   ·refine(Yt f mode a _ (fun fl=>if fl=16 then 0 else fl) (fun z fl h=>aAy (hfl z fl h)) HC).mono ?_;rintro e w' ⟨z,fl,h,rfl,hg⟩;refine⟨_,_,.inl ⟨p,mx,one,inf,sg,nan,x,hF,hm,hx,?_⟩,rfl,hg⟩;rcases h with⟨c,rfl,rfl⟩|⟨c,hp,rfl⟩
    ·exact .inl ⟨c,rfl,by split<;>simp⟩
    ·refine .inr ⟨c,hp,?_⟩;rw[if_pos rfl];rcases OQ x with h|h<;>simp[h]
   ·refine(Yr f mode a _ HC).mono ?_;rintro e w' ⟨z,fl,h,rfl,hg⟩;exact⟨_,_,.inl ⟨p,mx,one,inf,sg,nan,x,hF,hm,hx,h⟩,rfl,hg⟩
  ·exact bad nan (.inr (.inl ⟨p,mx,one,inf,sg,nan,hF,om,rfl,rfl⟩)) (fun w' hg=>jV p mn mx mode nan f mode a a (fun w'' hg'=>gK hF hM mode (fun w=>kD mode om w) (hw.gr (hg.trans hg'))) (fun w=>dH hM w) 91)
 ·exact bad _ (.inr (.inr ⟨hf,rfl,rfl⟩)) (fun w' hg=>jV _ _ _ _ _ f mode a a (fun w'' hg'=>fU f mode hf (hw.gr (hg.trans hg'))) (fun w=>dH m64 w) 91)
theorem uU{one:Int}(hF:aP f p mx one inf sg nan){x:bZ}(hx:bP p mx one inf sg nan a x)(mode:Int)(hm:0<=mode/\mode<=4)(b k c:Nat)(w:World)(hB:aC 2 w (aB b k c) x.M):
  CT 122 #[J mode,.agg #[J x.s,aB b k c,J x.e,.bool X]] w fun e w'=>∃b k c,aC 70005 w' (aB b k c) (aN mode x)/\e=O (.tuple #[aB b k c,.bool (!fD x)])/\Gb w w':=by
 obtain⟨v1,v2,v3,v4,v5,v6⟩:=bQ hF hx;refine Jq mode x.s x.e x.M (aW x.M x.e 0) (aN mode x) ((aJ x.M x.e 0 X:Nat):Int) (!fD x) ?_ _ w (fun w' hg=>?_) (fun v' w' hb=>?_) b k c rfl
 ·unfold fD;rcases Nat.eq_zero_or_pos (aJ x.M x.e 0 X)with h|h
  ·rw[h];rfl
  ·rw[decide_eq_true h];simp;omega
 ·obtain⟨n,hn,hb⟩:=aC.gb hB hg;refine(Az hb om x.s x.e 0 X om om om om).mono ?_;rintro r w'' ⟨v',k',rfl,hb',hk',hg'⟩;obtain⟨b',c',rfl,_⟩:=hb'.shape;exact⟨b',k',c',⟨k',om,hb'⟩,rfl,hg'⟩
 ·obtain⟨n,hn,hb⟩:=hb;exact dV ((zo hb om mode x.s (aJ x.M x.e 0 X) hm.1 hm.2 v1.jF (fG _ _ _ _)).mono (fun e w' ⟨v,k,c1,c2,c3,c4⟩=>⟨v,k,c1,c2,om,c4⟩))
theorem qL(f mode a:Int)(ex:Bool)(a0:0<=a)(a1:a<18446744073709551616)(w:World):
  CT 58 #[J f,J mode,Y a,.bool ex] w fun e w'=>∃Z fl,jl f mode a ex Z fl/\e=O (aK Z fl)/\Gb w w':=by
 by_cases hf:f=0\/f=1
 ·obtain⟨p,mx,one,inf,sg,nan,hF⟩:=iC f hf;by_cases hm:0<=mode/\mode<=4
  ·obtain⟨x,hx⟩:=fE hF a a0 a1;obtain⟨v1,v2,v3,v4,v5,v6⟩:=bQ hF hx;have xc0:=v1.c0;have Ui:=v1.c4;have fin:∀Z fl,FT p mx one inf sg nan mode x ex Z fl->(xP f mode a ex w Z fl)->CT 58 #[J f,J mode,Y a,.bool ex] w fun e w'=>∃Z fl,jl f mode a ex Z fl/\e=O (aK Z fl)/\Gb w w':=fun Z fl hp h=>h.mono (fun e w' ⟨h1,h2⟩=>⟨Z,fl,.inl ⟨p,mx,one,inf,sg,nan,x,hF,hm,hx,hp⟩,h1,h2⟩);by_cases fa:a<2*sg
   ·have qE:kW f mode a true:=fun w=>iU hF mode a a hm.1 hm.2 a0 fa a0 fa w;have HU:=ig hF a a0 fa hx;have HQ:∀(b:Bool),b=decide (3<=x.c)->bF x.c x.s x.e (((x.M:Nat):Int)) b:=fun b hb w=>fO _ _ _ _ b hb w;by_cases cn:3<=x.c
    ·refine fin nan (if decide (x.c=4)then 1 else 0) (.inl ⟨cn,rfl,by simp⟩) (UK f mode a _ _ _ _ nan _ (decide (x.c=4)) ex qE HU (HQ true (by simp[cn])) (bq _ _) (fun w=>lJ hF _ _ rfl w) w)
    ·have hQ:=HQ X (by simp;omega);by_cases hn:x.c=1/\x.e<0
     ·obtain⟨c,e⟩:=hn;obtain⟨hl,hz0,hz1⟩:=jW hF hx mode c e;have hb:=hF.bounds;have HN:Hid (∀w,CT 123 #[eH x.c x.s x.e (((x.M:Nat):Int))] w fun e w'=>∃b k cc,aC 2 w' (aB b k cc) x.M/\e=O (.agg #[J x.s,aB b k cc,J x.e,.bool X])/\Gb w w'):=fun w=>kM _ _ _ x.M om w;have HW:Hid (∀b k c w,aC 2 w (aB b k c) x.M->CT 122 #[J mode,.agg #[J x.s,aB b k c,J x.e,.bool X]] w fun e w'=>∃b k c,aC 70005 w' (aB b k c) (aN mode x)/\e=O (.tuple #[aB b k c,.bool (!fD x)])/\Gb w w'):=fun b k c w hB=>uU hF hx mode hm b k c w hB;have HZ:m_ f x.s (sw x.s sg 0) 0:=fun w=>iy hF x.s v1.jF w;have ce:decide (0<=x.e)=X:=by simp;omega
      have hfl:∀b:Bool,fD x=b->yE x=if b then 16 else 0:=by
       intro b hb';unfold yE;rw[hb'];cases b
       ·rw[if_neg (by simp)];rfl
       ·rw[if_pos ⟨c,rfl⟩];rfl
      rcases Nat.eq_zero_or_pos (aN mode x)with h0|h0
      ·have hp:=hz0 h0;cases ex
       ·exact fin _ 0 (.inr ⟨om,hp,rfl⟩) (Ye f mode a _ _ _ _ _ x.M (aN mode x) X (!fD x) rfl h0 qE HU hQ c ce HN HW HZ w)
       ·cases hb':fD x
        ·refine fin _ 0 (.inr ⟨om,hp,by rw[if_pos rfl,hfl _ hb'];rfl⟩) (Yd f mode a _ _ _ _ _ x.M (aN mode x) true (!fD x) ⟨rfl,by rw[hb'];rfl⟩ h0 qE HU hQ c ce HN HW HZ w)
        ·refine fin _ 16 (.inr ⟨om,hp,by rw[if_pos rfl,hfl _ hb'];rfl⟩) (Yc f mode a _ _ _ _ _ x.M (aN mode x) true (!fD x) ⟨rfl,by rw[hb'];rfl⟩ h0 qE HU hQ c ce HN HW HZ w)
      ·obtain⟨z,hr,hp⟩:=hz1 h0;have HR:Hid (∀v w,aC 70005 w v (aN mode x)->QB 85 #[J f,J 0,.agg #[J x.s,v,J 0,.bool X]] w (aK (sw x.s sg z) 0)):=fun v w hB=>(mF hF 0 om om ⟨1,x.s,0,aN mode x⟩ rfl v1.jF h0 (by dsimp only;omega) (by dsimp only;omega) 70005 om v w hB).mono (by
         rintro e w' ⟨Z,fl,hpk,rfl,hg⟩;rcases hpk with⟨d,_⟩|⟨d,z',hz',rfl⟩|⟨d,_⟩|⟨d,_⟩|⟨d,_⟩<;>dsimp only at d
         ·omega
         ·obtain⟨rfl,rfl⟩:=aO.one hz' (hr 0);exact⟨rfl,hg⟩
         ·omega
         ·omega
         ·omega)
       cases ex
       ·exact fin _ 0 (.inr ⟨om,hp,rfl⟩) (Yb f mode a _ _ _ _ _ _ x.M (aN mode x) X (!fD x) rfl h0 qE HU hQ c ce HN HW HZ HR w)
       ·cases hb':fD x
        ·refine fin _ 0 (.inr ⟨om,hp,by rw[if_pos rfl,hfl _ hb'];rfl⟩) (Ya f mode a _ _ _ _ _ _ x.M (aN mode x) true (!fD x) ⟨rfl,by rw[hb'];rfl⟩ h0 qE HU hQ c ce HN HW HZ HR w)
        ·refine fin _ 16 (.inr ⟨om,hp,by rw[if_pos rfl,hfl _ hb'];rfl⟩) (X_ f mode a _ _ _ _ _ _ x.M (aN mode x) true (!fD x) ⟨rfl,by rw[hb'];rfl⟩ h0 qE HU hQ c ce HN HW HZ HR w)
     ·have hp:FT p mx one inf sg nan mode x ex a 0:=.inr ⟨om,by rw[jw hn];exact nZ hF a0 hx om mode,by rw[qF (a:=a) hF hn];split<;>rfl⟩;by_cases c:x.c=1
      ·exact fin a 0 hp (aBb f mode a _ _ _ _ ex qE HU hQ c (by simp;omega) w)
      ·exact fin a 0 hp (aBd f mode a _ _ _ _ ex qE HU hQ c w)
   ·refine fin nan 1 ?_ (Ae f mode a nan 1 ex (fun w=>eu f mode a a a0 a1 a0 a1 (qQ hF a1 a1 om) w) (fun w=>dI hF w) w);have:=qO hF hx (by omega);subst this;exact .inl ⟨de,rfl,rfl⟩
  ·refine(Ae f mode a nan 1 ex (fun w=>eu f mode a a a0 a1 a0 a1 (.inl om) w) (fun w=>dI hF w) w).mono ?_;rintro e w' ⟨rfl,hg⟩;exact⟨_,_,.inr (.inl ⟨p,mx,one,inf,sg,nan,hF,om,rfl,rfl⟩),rfl,hg⟩
 ·refine(Ae f mode a _ 1 ex (fun w=>eu f mode a a a0 a1 a0 a1 (.inr (.inl hf)) w) (fun w=>oC f hf w) w).mono ?_;rintro e w' ⟨rfl,hg⟩;exact⟨_,_,.inr (.inr ⟨hf,rfl,rfl⟩),rfl,hg⟩
theorem I8(f mode a:Int)(ex:Bool)(a0:0<=a)(a1:a<18446744073709551616):∃Z fl,jl f mode a ex Z fl:=by
 by_cases hf:f=0\/f=1
 ·obtain⟨p,mx,one,inf,sg,nan,hF⟩:=iC f hf;by_cases hm:0<=mode/\mode<=4
  ·obtain⟨x,hx⟩:=fE hF a a0 a1;have v1:=(bQ hF hx).1;have:=v1.c0;have fin:∀Z fl,FT p mx one inf sg nan mode x ex Z fl->∃Z fl,jl f mode a ex Z fl:=fun Z fl h=>⟨Z,fl,.inl ⟨p,mx,one,inf,sg,nan,x,hF,hm,hx,h⟩⟩;by_cases cn:3<=x.c
   ·exact fin _ _ (.inl ⟨cn,rfl,rfl⟩)
   ·by_cases hn:x.c=1/\x.e<0
    ·obtain⟨_,h0,h1⟩:=jW hF hx mode hn.1 hn.2;rcases Nat.eq_zero_or_pos (aN mode x)with h|h
     ·exact fin _ _ (.inr ⟨om,h0 h,rfl⟩)
     ·obtain⟨z,_,hp⟩:=h1 h;exact fin _ _ (.inr ⟨om,hp,rfl⟩)
    ·exact fin a _ (.inr ⟨om,by rw[jw hn];exact nZ hF a0 hx om mode,rfl⟩)
  ·exact⟨_,_,.inr (.inl ⟨p,mx,one,inf,sg,nan,hF,om,rfl,rfl⟩)⟩
 ·exact⟨_,_,.inr (.inr ⟨hf,rfl,rfl⟩)⟩
theorem aFQ(f mode a:Int)(ex:Bool)(a0:0<=a)(a1:a<18446744073709551616):
  ∃Z fl:Int,jl f mode a ex Z fl/\(∀w,xP f mode a ex w Z fl)/\
   (∀w,Fm w->QR 65 #[J f,J mode,Y a,.bool ex] w (aK Z fl)):=
 JM (fun _ _ _ _ h h'=>jl.one h h') (I8 f mode a ex a0 a1) (qL f mode a ex a0 a1) (rH f mode a ex a0 a1)
