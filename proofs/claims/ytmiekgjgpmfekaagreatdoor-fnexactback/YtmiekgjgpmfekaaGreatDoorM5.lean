import Derived.Test.YtmiekgjgpmfekaaGreatDoorK6
import Derived.Test.YtmiekgjgpmfekaaGreatDoorM8
set_option linter.all false
set_option maxRecDepth 1000000
set_option maxHeartbeats 40000000
open Bool renaming false → X
open Go.Proofs.YtmiekgjgpmfekaaGreatDoor renaming vI → J, vU → Y
open Go.Ending renaming returned → O
open Go.Proofs.Tryz
namespace Go.Proofs.YtmiekgjgpmfekaaGreatDoor
open Go.RowKit
variable{w:World}{f a p mx inf sg nan mode fl Z Z' pO:Int}{ex:Bool}
theorem aDV{P:Prop}(h:P:=by
 refine bodyPost_ret (v:=aV os oe oc oh ol ot of) (by simp[results,Tryz.results90,go_sem,fP]) rfl ⟨os,oe,oc,oh,ol,ot,of,hq,rfl,?_⟩;exact Gr.g):P:=h
attribute [local go_sem] bG
theorem BK(p mn mx md:Int)(k:Nat)(sx ex cx xh xl sy ey cy yh yl:Int)(tx ty:Bool)(m:Int)(hm:max cx cy=m)(h3:m<3)(Q:Int->Int->Int->Int->Int->Bool->Int->Prop)(HO:Hid (∀w,CT 222 #[dP p mn mx md k,aV sx ex cx xh xl tx 0,aV sy ey cy yh yl ty 0] w fun e w'=>∃os oe oc oh ol ot of,Q os oe oc oh ol ot of/\e=O (aV os oe oc oh ol ot of)/\Gr w w'))(w:World):
  CT 90 #[dP p mn mx md k,.func (.func 222) #[] #[],aV sx ex cx xh xl tx 0,aV sy ey cy yh yl ty 0] w fun e w'=>∃os oe oc oh ol ot of,Q os oe oc oh ol ot of/\e=O (aV os oe oc oh ol ot of)/\Gr w w':=by
 go_enter func90,ntmps90;go_wp2_with (go_at_call 222;refine(HO _).mono ?_;rintro e w1 ⟨os,oe,oc,oh,ol,ot,of,hq,rfl,ak⟩;have fP:=ak.nO w);exact aDV
theorem yU(p mn mx md:Int)(k:Nat)(sx ex cx xh xl sy ey cy yh yl:Int)(tx ty:Bool)(m:Int)(hm:max cx cy=m)(h3:m<3)(Q:Int->Int->Int->Int->Int->Bool->Int->Prop)(HO:Hid (∀w,CT 221 #[dP p mn mx md k,aV sx ex cx xh xl tx 0,aV sy ey cy yh yl ty 0] w fun e w'=>∃os oe oc oh ol ot of,Q os oe oc oh ol ot of/\e=O (aV os oe oc oh ol ot of)/\Gr w w'))(w:World):
  CT 90 #[dP p mn mx md k,.func (.func 221) #[] #[],aV sx ex cx xh xl tx 0,aV sy ey cy yh yl ty 0] w fun e w'=>∃os oe oc oh ol ot of,Q os oe oc oh ol ot of/\e=O (aV os oe oc oh ol ot of)/\Gr w w':=by
 go_enter func90,ntmps90;go_wp2_with (go_at_call 221;refine(HO _).mono ?_;rintro e w1 ⟨os,oe,oc,oh,ol,ot,of,hq,rfl,ak⟩;have fP:=ak.nO w);exact aDV
theorem Sl(f mode a b:Int)(R:Int->Int->Prop)(HC:Hid (∀w',Gr w w'->CT 133 #[J f,J mode,.func (.func 222) #[] #[],Y a,Y b] w' (AP R w'))):
  CT 206 #[J f,J mode,Y a,Y b] w (AP R w):=by
 go_enter func206,ntmps206;go_wp2_with (go_at_call 133;refine(HC _ Gr.g).mono ?_;rintro e w1 ⟨z,fl,hr,rfl,ak⟩;have fP:=ak.aW w);refine bodyPost_ret (v:=aK z fl) (by simp[results,Tryz.results206,go_sem,fP]) rfl ⟨z,fl,hr,rfl,?_⟩;exact Gr.g
theorem Ob(f mode a:Int)(R:Int->Int->Prop)(HC:Hid (∀w',Gr w w'->CT 133 #[J f,J mode,.func (.func 221) #[] #[],Y a,Y a] w' (AP R w'))):
  CT 205 #[J f,J mode,Y a] w (AP R w):=by
 go_enter func205,ntmps205;go_wp2_with (go_at_call 133;refine(HC _ Gr.g).mono ?_;rintro e w1 ⟨z,fl,hr,rfl,ak⟩;have fP:=ak.aW w);refine bodyPost_ret (v:=aK z fl) (by simp[results,Tryz.results205,go_sem,fP]) rfl ⟨z,fl,hr,rfl,?_⟩;exact Gr.g
theorem aDW{P:Prop}(h:P:=by
 subst c;go_enter func91,ntmps91;go_wp2_with (go_at_call 157;refine ku (HR _) fun w1 ak=>?_;have:=ak.C9 w;have fP:=ak.nO w;have hz1:=au fP.1);exact bH (by simp[results,Tryz.results91,go_sem,fP])):P:=h
theorem rE(p mn mx md:Int)(k:Nat)(sx ex cx xh xl sy ey cy yh yl:Int)(tx ty:Bool)(c:(cx != 1)=true)(w:World):
  IZ p mn mx md k sx ex cx xh xl tx 0 sy ey cy yh yl ty 0 w sx ex cx xh xl tx 0:=by
 go_enter func91,ntmps91;go_wp2;go_returns;exact⟨rfl,Gr.g⟩
theorem AY(p mn mx md:Int)(k:Nat)(sx ex cx xh xl sy ey cy yh yl:Int)(tx ty:Bool)(c:cx=1)(c2:decide (0<=ex)=true)(w:World):
  IZ p mn mx md k sx ex cx xh xl tx 0 sy ey cy yh yl ty 0 w sx ex 1 xh xl tx 0:=by
 subst c;go_enter func91,ntmps91;go_wp2;go_returns;exact⟨rfl,Gr.g⟩
theorem AV(p mn mx md:Int)(k:Nat)(sx ex cx xh xl sy ey cy yh yl:Int)(tx ty:Bool)(dr m:Int)(c:cx=1)(c2:decide (0<=ex)=X)(hn:wrap64 (-ex)=dr)(HR:Gm k dr sx xh xl X m true)(w:World):
  IZ p mn mx md k sx ex cx xh xl tx 0 sy ey cy yh yl ty 0 w sx 0 1 0 m tx 16:=by
 exact aDW
theorem AX(p mn mx md:Int)(k:Nat)(sx ex cx xh xl sy ey cy yh yl:Int)(tx ty:Bool)(dr m:Int)(c:cx=1)(c2:decide (0<=ex)=X)(hn:wrap64 (-ex)=dr)(HR:KR 157 #[.func (.func k) #[] #[],J dr,J sx,aG xh xl,.bool X] (.tuple #[Y m,.bool X]))(w:World):
  IZ p mn mx md k sx ex cx xh xl tx 0 sy ey cy yh yl ty 0 w sx 0 1 0 m tx 0:=by
 exact aDW
theorem Zf(f mode a:Int)(R:Int->Int->Prop)(HC:Hid (∀w',Gr w w'->CT 133 #[J f,J mode,.func (.func 91) #[] #[],Y a,Y a] w' (AP R w'))):
  CT 65 #[J f,J mode,Y a,.bool true] w (AP R w):=by
 go_enter func65,ntmps65;go_upto_region 2 with(go_at_call 133;refine(HC _ Gr.g).mono ?_;rintro e w1 ⟨z,fl,hr,rfl,ak⟩;have fP:=ak.aW w;have hz1:=au fP.1);obtain⟨w2,hw2⟩:∃w2,w1.alloc (.cells #[Y z,J fl] 56)=w2:=⟨_,rfl⟩;have aA:Gr w1 w2:=by rw[<-hw2];exact(Gr.refl _).alloc _ _
 have x0:w2.cell? ⟨w1.heap.size,0,none⟩=some (Y z):=by rw[<-hw2];simp[go_sem]
 have x1:w2.cell? ⟨w1.heap.size,1,none⟩=some (J fl):=by rw[<-hw2];simp[go_sem]
 have XB:bG w2 w1.heap.size 1:=by rw[<-hw2];simp[go_sem]
 have hz2:w1.heap.size<w2.heap.size:=by rw[<-hw2];simp
 rw[hw2];clear hw2;have jy:=aA.aW w;have hgw:Gr w w2:=Gr.g;go_wp2;refine bodyPost_ret (v:=aK z fl) (by simp[results,Tryz.results65,go_sem,jy]) rfl ⟨z,fl,hr,rfl,?_⟩;exact Gr.g
theorem Zg(f mode a:Int)(R:Int->Int->Prop)(G:Int->Int)(hG:Hid (∀z fl,R z fl->bits .andNot .i64 fl 16=G fl))(HC:Hid (∀w',Gr w w'->CT 133 #[J f,J mode,.func (.func 91) #[] #[],Y a,Y a] w' (AP R w'))):
  CT 65 #[J f,J mode,Y a,.bool X] w fun e w'=>∃z fl,R z fl/\e=O (aK z (G fl))/\Gr w w':=by
 go_enter func65,ntmps65;go_upto_region 2 with(go_at_call 133;refine(HC _ Gr.g).mono ?_;rintro e w1 ⟨z,fl,hr,rfl,ak⟩;have fP:=ak.aW w;have hz1:=au fP.1;have hand:=hG.out z fl hr);obtain⟨w2,hw2⟩:∃w2,w1.alloc (.cells #[Y z,J fl] 56)=w2:=⟨_,rfl⟩;have aA:Gr w1 w2:=by rw[<-hw2];exact(Gr.refl _).alloc _ _
 have x0:w2.cell? ⟨w1.heap.size,0,none⟩=some (Y z):=by rw[<-hw2];simp[go_sem]
 have x1:w2.cell? ⟨w1.heap.size,1,none⟩=some (J fl):=by rw[<-hw2];simp[go_sem]
 have XB:bG w2 w1.heap.size 1:=by rw[<-hw2];simp[go_sem]
 have hz2:w1.heap.size<w2.heap.size:=by rw[<-hw2];simp
 rw[hw2];clear hw2;have jy:=aA.aW w;have hgw:Gr w w2:=Gr.g;go_wp2;refine bodyPost_ret (v:=aK z (G fl)) (by simp[results,Tryz.results65,go_sem,jy]) rfl ⟨z,fl,hr,rfl,?_⟩;exact Gr.g
def zi(x:cu):Int:=if x.c=1/\fF x=true then 16 else 0
def Gj(p mx one inf sg nan mode:Int)(x:cu)(ex:Bool)(Z fl:Int):Prop:=
 3<=x.c/\Z=nan/\fl=(if x.c=4 then 1 else 0)\/x.c<=2/\b_ p (1-mx) mx one inf sg nan mode (oJ mode x) Z 0/\fl=(if ex then zi x else 0)
def jA(f mode a:Int)(ex:Bool)(Z fl:Int):Prop:=
 (∃p mx one inf sg nan x,aQ f p mx one inf sg nan/\(0<=mode/\mode<=4)/\bQ p mx one inf sg nan a x/\Gj p mx one inf sg nan mode x ex Z fl)\/
 (∃p mx one inf sg nan,aQ f p mx one inf sg nan/\(mode<0\/4<mode)/\Z=nan/\fl=1)\/
 (¬(f=0\/f=1)/\Z=9221120237041090560/\fl=1)
theorem jA.one(h:jA f mode a ex Z fl)(h':jA f mode a ex Z' pO):Z=Z'/\fl=pO:=by
 rcases h with⟨p,mx,one,inf,sg,nan,x,hF,hm,hx,hp⟩|⟨p,mx,one,inf,sg,nan,hF,hm,rfl,rfl⟩|⟨hF,rfl,rfl⟩<;>
 rcases h' with⟨p',mx',one',inf',Ua,nan',x',hF',hm',hx',hp'⟩|⟨p',mx',one',inf',Ua,nan',hF',hm',rfl,rfl⟩|⟨hF',rfl,rfl⟩
 ·obtain⟨rfl,rfl,rfl,rfl,rfl,rfl⟩:=hF.one hF';obtain rfl:=hx.one hF hx';rcases hp with⟨c,rfl,rfl⟩|⟨c,hp,rfl⟩<;>rcases hp' with⟨c',rfl,rfl⟩|⟨c',hp',rfl⟩
  ·exact⟨rfl,rfl⟩
  ·exfalso;omega
  ·exfalso;omega
  ·exact⟨(b_.one hp hp').1,rfl⟩
 ·exfalso;omega
 ·exact absurd hF.yes.symm (by simp[hF'])
 ·exfalso;omega
 ·obtain⟨rfl,rfl,rfl,rfl,rfl,rfl⟩:=hF.one hF';exact⟨rfl,rfl⟩
 ·exact absurd hF.yes.symm (by simp[hF'])
 ·exact absurd hF'.yes.symm (by simp[hF])
 ·exact absurd hF'.yes.symm (by simp[hF])
 ·exact⟨rfl,rfl⟩
theorem jD{x:cu}(h:¬(x.c=1/\x.e<0)):oJ mode x=x:=by unfold oJ;rw[if_neg h]
theorem rC{one a:Int}(hF:aQ f p mx one inf sg nan){x:cu}(h:¬(x.c=1/\x.e<0)):zi x=0:=by
 unfold zi;by_cases c:x.c=1
 ·rw[wM (x:=x) om,if_neg (by simp)]
 ·rw[if_neg (fun h=>c h.1)]
theorem PV(x:cu):zi x=0\/zi x=16:=by unfold zi;split<;>simp
theorem aF3(x:cu):bits .or .i64 0 (zi x)=zi x:=by rcases PV x with h|h<;>rw[h]<;>decide+kernel
theorem kM{one:Int}(hF:aQ f p mx one inf sg nan){x:cu}(hx:bQ p mx one inf sg nan a x)(mode:Int)(c:x.c=1)(e:x.e<0):
  ((aN mode x:Nat):Int)<=one/\(aN mode x=0->b_ p (1-mx) mx one inf sg nan mode (oJ mode x) (sw x.s sg 0) 0)/\
  (0<aN mode x->∃z,(∀md,aP p (1-mx) mx one inf md x.s (aN mode x) 0 X z 0)/\b_ p (1-mx) mx one inf sg nan mode (oJ mode x) (sw x.s sg z) 0):=by
 obtain⟨P,hP,aCN,hone⟩:=hF.pow;have hone':one=((2^P:Nat):Int):=by rw[xC];exact hone
 have hM:x.M<2^(P+1):=by
  have hb:=hF.bounds;rcases hx with⟨_,hu⟩|⟨_,rfl⟩
  ·obtain⟨h1,h2,h3,h4,h5,h6,h7,h8,h9⟩:=jo hF hu;rw[Nat.pow_succ];omega
  ·cases c
 have hl:=U_ (mode:=mode) e hM;have hw:oJ mode x=if aN mode x=0 then⟨0,x.s,0,0⟩else⟨1,x.s,0,aN mode x⟩:=by unfold oJ;rw[if_pos ⟨c,e⟩]
 refine⟨om,fun h0=>?_,fun h0=>?_⟩
 ·rw[hw,if_pos h0];exact .inl ⟨rfl,rfl,rfl⟩
 ·obtain⟨z,z0,z1,hz⟩:=Lu hF x.s (aN mode x) h0 om;refine⟨z,hz,?_⟩;rw[hw,if_neg (by omega)];exact .inr (.inl ⟨rfl,z,hz mode,rfl⟩)
theorem Vs(m:Int)(h3:3<=m)(h4:m<=4):qC ⟨m,0,0,0⟩ 0 0 m 0 0 X:=⟨0,by simp,by simp,Same.self ⟨m,0,0,0⟩ (fun c=>by dsimp only at c;omega),om,om,fun c=>om⟩
theorem Hl{one:Int}(hF:aQ f p mx one inf sg nan)(mode:Int)(hm:0<=mode/\mode<=4)(a0:0<=a)(a1:a<18446744073709551616){x:cu}(hx:bQ p mx one inf sg nan a x)(hw:Fm w):
  CT 133 #[J f,J mode,.func (.func 91) #[] #[],Y a,Y a] w fun e w'=>∃z fl,Gj p mx one inf sg nan mode x true z fl/\e=O (aK z fl)/\Gr w w':=by
 obtain⟨mn,fb,sp,hM,hmn,hfb⟩:=hF.m;obtain⟨k,hk⟩:=lq mode hm.1 hm.2;obtain⟨x',hx',HA⟩:=l9 hF hM a a0 a1;obtain rfl:=hx.one hF hx';obtain⟨v1,v2,v3,v4,v5,v6⟩:=bT hF hx;have hb:=hF.bounds;have xc0:=v1.c0;have U8:=v1.c4;refine F6 p mn mx mode f k 91 a a _ _ _ _ _ _ _ _ _ _ _ _ (fun w'' hg'=>eY hF hM mode k (fun w=>gZ mode k hk w) (hw.gr hg')) HA HA
  (fun os oe oc oh ol ot of=>3<=x.c/\qC ⟨x.c,0,0,0⟩ os oe oc oh ol ot/\of=0\/x.c<=2/\¬(x.c=1/\x.e<0)/\qC x os oe oc oh ol ot/\of=0\/(x.c=1/\x.e<0)/\os=x.s/\oe=0/\oc=1/\oh=0/\ol=((aN mode x:Nat):Int)/\ot=X/\of=zi x)
  (fun w=>?_) _ (fun os oe oc oh ol ot of w hq=>?_)
 ·by_cases cn:3<=x.c
  ·refine(iR p mn mx mode k _ _ _ _ _ _ _ _ _ _ _ _ _ x.c om cn w).mono ?_;rintro e w' ⟨rfl,hg⟩;exact⟨_,_,_,_,_,_,_,.inl ⟨cn,Vs _ cn U8,rfl⟩,rfl,hg⟩
  ·refine nU p mn mx mode k _ _ _ _ _ _ _ _ _ _ _ _ x.c om om _ (fun w=>?_) w;by_cases c:x.c=1
   ·by_cases e:x.e<0
    ·have hl:=(kM hF hx mode c e).1;have HR:∀b:Bool,decide (0<aJ x.M x.e 0 X)=b->Gm k (0-x.e) x.s ((x.M/18446744073709551616:Nat):Int) ((x.M%18446744073709551616:Nat):Int) X ((aN mode x:Nat):Int) b:=fun b hb' w=>hb'▸nH mode k hk x.s v1.jL x.M om x.e 0 (0-x.e) X rfl om om (fun _=>rfl) (by
       have h1:=(f_ mode x.s (aZ x.M x.e 0) (aJ x.M x.e 0 X)).1;unfold aN at hl;omega) w
     have hn:wrap64 (-x.e)=0-x.e:=by
      rw[show-x.e=0-x.e by omega];unfold wrap64;omega
     have ce:decide (0<=x.e)=X:=by simp;omega
     by_cases hh:0<aJ x.M x.e 0 X
     ·refine(AV p mn mx mode k _ _ _ _ _ _ _ _ _ _ _ _ (0-x.e) _ c ce hn (HR true (by simp[hh])) w).mono ?_;rintro r w' ⟨rfl,hg⟩;exact⟨_,_,_,_,_,_,_,.inr (.inr ⟨⟨c,e⟩,rfl,rfl,rfl,rfl,rfl,rfl,by unfold zi fF;rw[if_pos ⟨c,by simp[hh]⟩]⟩),rfl,hg⟩
     ·refine(AX p mn mx mode k _ _ _ _ _ _ _ _ _ _ _ _ (0-x.e) _ c ce hn (HR X (by simp[hh])) w).mono ?_;rintro r w' ⟨rfl,hg⟩;exact⟨_,_,_,_,_,_,_,.inr (.inr ⟨⟨c,e⟩,rfl,rfl,rfl,rfl,rfl,rfl,by unfold zi fF;rw[if_neg (by simp[hh])]⟩),rfl,hg⟩
    ·refine(AY p mn mx mode k _ _ _ _ _ _ _ _ _ _ _ _ c (by simp;omega) w).mono ?_;rintro r w' ⟨rfl,hg⟩;exact⟨_,_,_,_,_,_,_,.inr (.inl ⟨om,fun h=>e h.2,c▸v1.same,rfl⟩),rfl,hg⟩
   ·refine(rE p mn mx mode k _ _ _ _ _ _ _ _ _ _ _ _ (by simp[c]) w).mono ?_;rintro r w' ⟨rfl,hg⟩;exact⟨_,_,_,_,_,_,_,.inr (.inl ⟨om,fun h=>c h.1,v1.same,rfl⟩),rfl,hg⟩
 ·rcases hq with⟨cn,hs,rfl⟩|⟨c2,hn,hs,rfl⟩|⟨⟨c,e⟩,rfl,rfl,rfl,rfl,rfl,rfl,rfl⟩
  ·refine(vJ hM mode k hk _ os oe oc oh ol ot hs w).mono ?_;rintro r w' ⟨Z,fl,hp,rfl,hg⟩;refine⟨Z,fl,.inl ⟨cn,?_⟩,rfl,hg⟩;rcases hp with⟨d,_⟩|⟨d,_⟩|⟨d,_⟩|⟨d,rfl,rfl⟩|⟨d,rfl,rfl⟩<;>dsimp only at d
   ·omega
   ·omega
   ·omega
   ·exact⟨rfl,by rw[if_neg (by omega)]⟩
   ·exact⟨rfl,by rw[if_pos d]⟩
  ·refine(vJ hM mode k hk _ os oe oc oh ol ot hs w).mono ?_;rintro r w' ⟨Z,fl,hp,rfl,hg⟩;rw[hmn]at hp;obtain⟨rfl,rfl⟩:=b_.one hp (oL hF a0 hx c2 mode);refine⟨_,_,.inr ⟨c2,?_,?_⟩,rfl,hg⟩
   ·rw[jD hn];exact hp
   ·rw[rC (a:=Z) hF hn];rfl
  ·obtain⟨hl,hz0,hz1⟩:=kM hF hx mode c e;refine(Uh p mn mx mode k x.s 0 0 ((aN mode x:Nat):Int) X (zi x) (fun z fl=>b_ p (1-mx) mx one inf sg nan mode (oJ mode x) z 0/\fl=0) (fun _=>zi x) (fun z fl h=>by rw[h.2];exact aF3 x) (fun w=>?_) w).mono ?_
   ·rcases Nat.eq_zero_or_pos (aN mode x)with h0|h0
    ·rw[h0];refine(zO hM mode k x.s 0 X om om (sw x.s sg 0) (fun w=>jh hM x.s _ ?_ w) w).mono ?_
     ·rcases v1.jL with h|h<;>rw[h]
      ·exact .inl ⟨rfl,by simp[sw]⟩
      ·exact .inr ⟨rfl,by simp[sw]⟩
     ·rintro r w' ⟨rfl,hg⟩;exact⟨_,_,⟨hz0 h0,rfl⟩,rfl,hg⟩
    ·obtain⟨z,hr,hp⟩:=hz1 h0;have:=rJ hM mode mode k hk x.s v1.jL 0 om om (aN mode x) h0 om X (fun h=>by cases h) w;rw[show aN mode x/18446744073709551616=0 by omega,show aN mode x%18446744073709551616=aN mode x by omega]at this;refine this.mono ?_;rintro r w' ⟨z',fl,hr',rfl,hg⟩;rw[hmn]at hr';obtain⟨rfl,rfl⟩:=aP.one hr' (hr mode);exact⟨_,_,⟨by rw[MI];exact hp,rfl⟩,rfl,hg⟩
   ·rintro r w' ⟨z,fl,⟨hp,rfl⟩,rfl,hg⟩;exact⟨_,_,.inr ⟨om,hp,by rw[if_pos rfl]⟩,rfl,hg⟩
theorem aBh(h:fl=0\/fl=1\/fl=16):bits .andNot .i64 fl 16=if fl=16 then 0 else fl:=by rcases h with rfl|rfl|rfl<;>decide+kernel
theorem sG(f mode a:Int)(ex:Bool)(a0:0<=a)(a1:a<18446744073709551616)(w:World)(hw:Fm w):
  CT 65 #[J f,J mode,Y a,.bool ex] w fun e w'=>∃Z fl,jA f mode a ex Z fl/\e=O (aK Z fl)/\Gr w w':=by
 have bad:∀(nan:Int),jA f mode a ex nan 1->(∀w',Gr w w'->QR 133 #[J f,J mode,.func (.func 91) #[] #[],Y a,Y a] w' (aK nan 1))->CT 65 #[J f,J mode,Y a,.bool ex] w fun e w'=>∃Z fl,jA f mode a ex Z fl/\e=O (aK Z fl)/\Gr w w':=by
  intro nan hR HC;have PO:Hid (∀w',Gr w w'->CT 133 #[J f,J mode,.func (.func 91) #[] #[],Y a,Y a] w' fun e w''=>∃z fl,(z=nan/\fl=1)/\e=O (aK z fl)/\Gr w' w''):=fun w' hg=>(HC w' hg).mono (fun e w'' ⟨h1,h2⟩=>⟨nan,1,⟨rfl,rfl⟩,h1,h2⟩);cases ex
  ·refine(Zg f mode a _ (fun _=>1) (fun z fl h=>by rw[h.2];decide+kernel) PO).mono ?_;rintro e w' ⟨z,fl,⟨rfl,rfl⟩,rfl,hg⟩;exact⟨_,_,hR,rfl,hg⟩
  ·refine(Zf f mode a _ PO).mono ?_;rintro e w' ⟨z,fl,⟨rfl,rfl⟩,rfl,hg⟩;exact⟨_,_,hR,rfl,hg⟩
 by_cases hf:f=0\/f=1
 ·obtain⟨p,mx,one,inf,sg,nan,hF⟩:=iG f hf;obtain⟨mn,fb,sp,hM,hmn,hfb⟩:=hF.m;by_cases hm:0<=mode/\mode<=4
  ·obtain⟨x,hx⟩:=fG hF a a0 a1;have HC:Hid (∀w',Gr w w'->CT 133 #[J f,J mode,.func (.func 91) #[] #[],Y a,Y a] w' fun e w''=>∃z fl,Gj p mx one inf sg nan mode x true z fl/\e=O (aK z fl)/\Gr w' w''):=fun w' hg=>Hl hF mode hm a0 a1 hx (hw.gr hg);have hfl:∀z fl,Gj p mx one inf sg nan mode x true z fl->fl=0\/fl=1\/fl=16:=by
    rintro z fl (⟨_,_,rfl⟩|⟨_,_,rfl⟩)
    ·split<;>simp
    ·rw[if_pos rfl];rcases PV x with h|h<;>simp[h]
   cases ex
   ·refine(Zg f mode a _ (fun fl=>if fl=16 then 0 else fl) (fun z fl h=>aBh (hfl z fl h)) HC).mono ?_;rintro e w' ⟨z,fl,h,rfl,hg⟩;refine⟨_,_,.inl ⟨p,mx,one,inf,sg,nan,x,hF,hm,hx,?_⟩,rfl,hg⟩;rcases h with⟨c,rfl,rfl⟩|⟨c,hp,rfl⟩
    ·exact .inl ⟨c,rfl,by split<;>simp⟩
    ·refine .inr ⟨c,hp,?_⟩;rw[if_pos rfl];rcases PV x with h|h<;>simp[h]
   ·refine(Zf f mode a _ HC).mono ?_;rintro e w' ⟨z,fl,h,rfl,hg⟩;exact⟨_,_,.inl ⟨p,mx,one,inf,sg,nan,x,hF,hm,hx,h⟩,rfl,hg⟩
  ·exact bad nan (.inr (.inl ⟨p,mx,one,inf,sg,nan,hF,om,rfl,rfl⟩)) (fun w' hg=>kK p mn mx mode nan f mode a a (fun w'' hg'=>gV hF hM mode (fun w=>kV mode om w) (hw.gr (hg.trans hg'))) (fun w=>dI hM w) 91)
 ·exact bad _ (.inr (.inr ⟨hf,rfl,rfl⟩)) (fun w' hg=>kK _ _ _ _ _ f mode a a (fun w'' hg'=>fV f mode hf (hw.gr (hg.trans hg'))) (fun w=>dI m64 w) 91)
theorem vY{one:Int}(hF:aQ f p mx one inf sg nan){x:cu}(hx:bQ p mx one inf sg nan a x)(mode:Int)(hm:0<=mode/\mode<=4)(b k c:Nat)(w:World)(hB:aF 2 w (aB b k c) x.M):
  CT 122 #[J mode,.agg #[J x.s,aB b k c,J x.e,.bool X]] w fun e w'=>∃b k c,aF 70005 w' (aB b k c) (aN mode x)/\e=O (.tuple #[aB b k c,.bool (!fF x)])/\Gb w w':=by
 obtain⟨v1,v2,v3,v4,v5,v6⟩:=bT hF hx;refine JV mode x.s x.e x.M (aZ x.M x.e 0) (aN mode x) ((aJ x.M x.e 0 X:Nat):Int) (!fF x) ?_ _ w (fun w' hg=>?_) (fun v' w' hb=>?_) b k c rfl
 ·unfold fF;rcases Nat.eq_zero_or_pos (aJ x.M x.e 0 X)with h|h
  ·rw[h];rfl
  ·rw[decide_eq_true h];simp;omega
 ·obtain⟨n,hn,hb⟩:=aF.gb hB hg;refine(BA hb om x.s x.e 0 X om om om om).mono ?_;rintro r w'' ⟨v',k',rfl,hb',hk',hg'⟩;obtain⟨b',c',rfl,_⟩:=hb'.shape;exact⟨b',k',c',⟨k',om,hb'⟩,rfl,hg'⟩
 ·obtain⟨n,hn,hb⟩:=hb;exact dV ((zX hb om mode x.s (aJ x.M x.e 0 X) hm.1 hm.2 v1.jL (fJ _ _ _ _)).mono (fun e w' ⟨v,k,c1,c2,c3,c4⟩=>⟨v,k,c1,c2,om,c4⟩))
theorem rH(f mode a:Int)(ex:Bool)(a0:0<=a)(a1:a<18446744073709551616)(w:World):
  CT 58 #[J f,J mode,Y a,.bool ex] w fun e w'=>∃Z fl,jA f mode a ex Z fl/\e=O (aK Z fl)/\Gb w w':=by
 by_cases hf:f=0\/f=1
 ·obtain⟨p,mx,one,inf,sg,nan,hF⟩:=iG f hf;by_cases hm:0<=mode/\mode<=4
  ·obtain⟨x,hx⟩:=fG hF a a0 a1;obtain⟨v1,v2,v3,v4,v5,v6⟩:=bT hF hx;have xc0:=v1.c0;have U8:=v1.c4;have fin:∀Z fl,Gj p mx one inf sg nan mode x ex Z fl->(yH f mode a ex w Z fl)->CT 58 #[J f,J mode,Y a,.bool ex] w fun e w'=>∃Z fl,jA f mode a ex Z fl/\e=O (aK Z fl)/\Gb w w':=fun Z fl hp h=>h.mono (fun e w' ⟨h1,h2⟩=>⟨Z,fl,.inl ⟨p,mx,one,inf,sg,nan,x,hF,hm,hx,hp⟩,h1,h2⟩);by_cases fa:a<2*sg
   ·have qY:lK f mode a true:=fun w=>jd hF mode a a hm.1 hm.2 a0 fa a0 fa w;have HU:=iC hF a a0 fa hx;have HQ:∀(b:Bool),b=decide (3<=x.c)->bI x.c x.s x.e (((x.M:Nat):Int)) b:=fun b hb w=>fU _ _ _ _ b hb w;by_cases cn:3<=x.c
    ·refine fin nan (if decide (x.c=4)then 1 else 0) (.inl ⟨cn,rfl,by simp⟩) (Vy f mode a _ _ _ _ nan _ (decide (x.c=4)) ex qY HU (HQ true (by simp[cn])) (bq _ _) (fun w=>mD hF _ _ rfl w) w)
    ·have hQ:=HQ X (by simp;omega);by_cases hn:x.c=1/\x.e<0
     ·obtain⟨c,e⟩:=hn;obtain⟨hl,hz0,hz1⟩:=kM hF hx mode c e;have hb:=hF.bounds;have HN:Hid (∀w,CT 123 #[eX x.c x.s x.e (((x.M:Nat):Int))] w fun e w'=>∃b k cc,aF 2 w' (aB b k cc) x.M/\e=O (.agg #[J x.s,aB b k cc,J x.e,.bool X])/\Gb w w'):=fun w=>lC _ _ _ x.M om w;have HW:Hid (∀b k c w,aF 2 w (aB b k c) x.M->CT 122 #[J mode,.agg #[J x.s,aB b k c,J x.e,.bool X]] w fun e w'=>∃b k c,aF 70005 w' (aB b k c) (aN mode x)/\e=O (.tuple #[aB b k c,.bool (!fF x)])/\Gb w w'):=fun b k c w hB=>vY hF hx mode hm b k c w hB;have HZ:nR f x.s (sw x.s sg 0) 0:=fun w=>iF hF x.s v1.jL w;have ce:decide (0<=x.e)=X:=by simp;omega
      have hfl:∀b:Bool,fF x=b->zi x=if b then 16 else 0:=by
       intro b hb';unfold zi;rw[hb'];cases b
       ·rw[if_neg (by simp)];rfl
       ·rw[if_pos ⟨c,rfl⟩];rfl
      rcases Nat.eq_zero_or_pos (aN mode x)with h0|h0
      ·have hp:=hz0 h0;cases ex
       ·exact fin _ 0 (.inr ⟨om,hp,rfl⟩) (Y3 f mode a _ _ _ _ _ x.M (aN mode x) X (!fF x) rfl h0 qY HU hQ c ce HN HW HZ w)
       ·cases hb':fF x
        ·refine fin _ 0 (.inr ⟨om,hp,by rw[if_pos rfl,hfl _ hb'];rfl⟩) (YZ f mode a _ _ _ _ _ x.M (aN mode x) true (!fF x) ⟨rfl,by rw[hb'];rfl⟩ h0 qY HU hQ c ce HN HW HZ w)
        ·refine fin _ 16 (.inr ⟨om,hp,by rw[if_pos rfl,hfl _ hb'];rfl⟩) (YX f mode a _ _ _ _ _ x.M (aN mode x) true (!fF x) ⟨rfl,by rw[hb'];rfl⟩ h0 qY HU hQ c ce HN HW HZ w)
      ·obtain⟨z,hr,hp⟩:=hz1 h0;have HR:Hid (∀v w,aF 70005 w v (aN mode x)->QB 85 #[J f,J 0,.agg #[J x.s,v,J 0,.bool X]] w (aK (sw x.s sg z) 0)):=fun v w hB=>(nG hF 0 om om ⟨1,x.s,0,aN mode x⟩ rfl v1.jL h0 (by dsimp only;omega) (by dsimp only;omega) 70005 om v w hB).mono (by
         rintro e w' ⟨Z,fl,hpk,rfl,hg⟩;rcases hpk with⟨d,_⟩|⟨d,z',hz',rfl⟩|⟨d,_⟩|⟨d,_⟩|⟨d,_⟩<;>dsimp only at d
         ·omega
         ·obtain⟨rfl,rfl⟩:=aP.one hz' (hr 0);exact⟨rfl,hg⟩
         ·omega
         ·omega
         ·omega)
       cases ex
       ·exact fin _ 0 (.inr ⟨om,hp,rfl⟩) (YW f mode a _ _ _ _ _ _ x.M (aN mode x) X (!fF x) rfl h0 qY HU hQ c ce HN HW HZ HR w)
       ·cases hb':fF x
        ·refine fin _ 0 (.inr ⟨om,hp,by rw[if_pos rfl,hfl _ hb'];rfl⟩) (YV f mode a _ _ _ _ _ _ x.M (aN mode x) true (!fF x) ⟨rfl,by rw[hb'];rfl⟩ h0 qY HU hQ c ce HN HW HZ HR w)
        ·refine fin _ 16 (.inr ⟨om,hp,by rw[if_pos rfl,hfl _ hb'];rfl⟩) (YU f mode a _ _ _ _ _ _ x.M (aN mode x) true (!fF x) ⟨rfl,by rw[hb'];rfl⟩ h0 qY HU hQ c ce HN HW HZ HR w)
     ·have hp:Gj p mx one inf sg nan mode x ex a 0:=.inr ⟨om,by rw[jD hn];exact oL hF a0 hx om mode,by rw[rC (a:=a) hF hn];split<;>rfl⟩;by_cases c:x.c=1
      ·exact fin a 0 hp (aBX f mode a _ _ _ _ ex qY HU hQ c (by simp;omega) w)
      ·exact fin a 0 hp (aBY f mode a _ _ _ _ ex qY HU hQ c w)
   ·refine fin nan 1 ?_ (A_ f mode a nan 1 ex (fun w=>eH f mode a a a0 a1 a0 a1 (rP hF a1 a1 om) w) (fun w=>dJ hF w) w);have:=rM hF hx (by omega);subst this;exact .inl ⟨de,rfl,rfl⟩
  ·refine(A_ f mode a nan 1 ex (fun w=>eH f mode a a a0 a1 a0 a1 (.inl om) w) (fun w=>dJ hF w) w).mono ?_;rintro e w' ⟨rfl,hg⟩;exact⟨_,_,.inr (.inl ⟨p,mx,one,inf,sg,nan,hF,om,rfl,rfl⟩),rfl,hg⟩
 ·refine(A_ f mode a _ 1 ex (fun w=>eH f mode a a a0 a1 a0 a1 (.inr (.inl hf)) w) (fun w=>oW f hf w) w).mono ?_;rintro e w' ⟨rfl,hg⟩;exact⟨_,_,.inr (.inr ⟨hf,rfl,rfl⟩),rfl,hg⟩
theorem Jw(f mode a:Int)(ex:Bool)(a0:0<=a)(a1:a<18446744073709551616):∃Z fl,jA f mode a ex Z fl:=by
 by_cases hf:f=0\/f=1
 ·obtain⟨p,mx,one,inf,sg,nan,hF⟩:=iG f hf;by_cases hm:0<=mode/\mode<=4
  ·obtain⟨x,hx⟩:=fG hF a a0 a1;have v1:=(bT hF hx).1;have:=v1.c0;have fin:∀Z fl,Gj p mx one inf sg nan mode x ex Z fl->∃Z fl,jA f mode a ex Z fl:=fun Z fl h=>⟨Z,fl,.inl ⟨p,mx,one,inf,sg,nan,x,hF,hm,hx,h⟩⟩;by_cases cn:3<=x.c
   ·exact fin _ _ (.inl ⟨cn,rfl,rfl⟩)
   ·by_cases hn:x.c=1/\x.e<0
    ·obtain⟨_,h0,h1⟩:=kM hF hx mode hn.1 hn.2;rcases Nat.eq_zero_or_pos (aN mode x)with h|h
     ·exact fin _ _ (.inr ⟨om,h0 h,rfl⟩)
     ·obtain⟨z,_,hp⟩:=h1 h;exact fin _ _ (.inr ⟨om,hp,rfl⟩)
    ·exact fin a _ (.inr ⟨om,by rw[jD hn];exact oL hF a0 hx om mode,rfl⟩)
  ·exact⟨_,_,.inr (.inl ⟨p,mx,one,inf,sg,nan,hF,om,rfl,rfl⟩)⟩
 ·exact⟨_,_,.inr (.inr ⟨hf,rfl,rfl⟩)⟩
theorem aGV(f mode a:Int)(ex:Bool)(a0:0<=a)(a1:a<18446744073709551616):
  ∃Z fl:Int,jA f mode a ex Z fl/\(∀w,yH f mode a ex w Z fl)/\
   (∀w,Fm w->QR 65 #[J f,J mode,Y a,.bool ex] w (aK Z fl)):=
 KD (fun _ _ _ _ h h'=>jA.one h h') (Jw f mode a ex a0 a1) (rH f mode a ex a0 a1) (sG f mode a ex a0 a1)
