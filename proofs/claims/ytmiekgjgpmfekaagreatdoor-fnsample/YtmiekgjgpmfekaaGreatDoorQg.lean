import Derived.Test.YtmiekgjgpmfekaaGreatDoorM4
import Derived.Test.YtmiekgjgpmfekaaGreatDoorQf
import Derived.Test.YtmiekgjgpmfekaaGreatDoorQd
set_option linter.all false
open Go.Proofs.YtmiekgjgpmfekaaGreatDoor renaming vU → J
open Go.Ending renaming returned → Y
open Go.Proofs.Tryz
namespace Go.Proofs.YtmiekgjgpmfekaaGreatDoor
open Go.RowKit
variable{a fl Z b mode s z kind n mu inv scale p mx one inf sg nan e t k j x T:Int}{w:World}{M:Nat}{ex:Bool}
theorem u_:aP 1 53 1023 4503599627370496 9218868437227405312 9223372036854775808 9221120237041090560:=.inr ⟨rfl,rfl,rfl,rfl,rfl,rfl,rfl⟩
theorem fmt7(h:aP 1 p mx one inf sg nan):p=53/\mx=1023/\one=4503599627370496/\inf=9218868437227405312/\sg=9223372036854775808/\nan=9221120237041090560:=h.one u_
abbrev aCp(a:Int)(x:bZ):Prop:=bP 53 1023 4503599627370496 9218868437227405312 9223372036854775808 9221120237041090560 a x
abbrev aEg(mode:Int)(x:bZ)(Z fl:Int):Prop:=bW 53 (1-1023) 1023 4503599627370496 9218868437227405312 9223372036854775808 9221120237041090560 mode x Z fl
theorem Yl{b:Bool}(hr:aO 53 (1-1023) 1023 4503599627370496 9218868437227405312 mode s M e b z fl):0<=z/\z<=9218868437227405312:=by
 obtain⟨top,E,r,r2,hf,h1,h2,h3,h4,h5,h6⟩:=hr;have hov:gu 9218868437227405312 mode s=9218868437227405312\/gu 9218868437227405312 mode s=9218868437227405312-1:=by unfold gu;split<;>simp
 rcases h6 with⟨_,rfl,_⟩|⟨_,_,rfl,_⟩|⟨_,h7,rfl,_⟩<;>omega
theorem Aj{o:bZ}(h:aEg mode o Z fl):Wo Z/\(9223372036854775808<=Z->Z%9223372036854775808<=9218868437227405312)/\(o.s=1->o.c<=2->9223372036854775808<=Z):=by
 have hsw:∀z,0<=z->z<=9218868437227405312->Wo (sw o.s 9223372036854775808 z)/\(9223372036854775808<=sw o.s 9223372036854775808 z->sw o.s 9223372036854775808 z%9223372036854775808<=9218868437227405312)/\(o.s=1->o.c<=2->9223372036854775808<=sw o.s 9223372036854775808 z):=by
  intro z z0 z1;unfold sw Wo;split<;>omega
 rcases h with⟨_,rfl,_⟩|⟨_,z,hz,rfl⟩|⟨_,rfl,_⟩|⟨c,rfl,_⟩|⟨c,rfl,_⟩
 ·exact hsw 0 om om
 ·have:=Yl hz;exact hsw z this.1 this.2
 ·exact hsw _ om om
 ·exact⟨Wo.c _,om,om⟩
 ·exact⟨Wo.c _,om,om⟩
section
variable [Inhabited Ch]
def o7:O7:=⟨fun n=>pick (dU 1 0 1 (n%18446744073709551616)),fun a b=>pick (pX wM 1 0 a b),fun a b=>pick (pX oq 1 0 a b),fun a=>pick (jl 1 4 a false),fun a=>pick (dw 1 2 3 a),fun a=>pick (dw 1 0 1 a)⟩
theorem Tf{R:Int->bZ->bZ->bZ}(h:pX R 1 0 a b Z fl):∃x y,aCp a x/\aCp b y/\aEg 0 (R 0 x y) Z fl:=by
 rcases h with⟨p,mx,one,inf,sg,nan,x,y,hF,hm,hx,hy,hp⟩|⟨p,mx,one,inf,sg,nan,hF,hm,rfl,rfl⟩|⟨hF,_⟩
 ·obtain⟨rfl,rfl,rfl,rfl,rfl,rfl⟩:=fmt7 hF;exact⟨x,y,hx,hy,hp⟩
 ·omega
 ·omega
theorem XQ(ha:Wo a)(hb:Wo b):∃Z fl,pX wM 1 0 a b Z fl:=by obtain⟨Z,fl,h,_⟩:=qK 1 0 a b ha.1 ha.2 hb.1 hb.2;exact⟨Z,fl,h⟩
theorem Y4(ha:Wo a)(hb:Wo b):∃Z fl,pX oq 1 0 a b Z fl:=by obtain⟨Z,fl,h,_⟩:=qU 1 0 a b ha.1 ha.2 hb.1 hb.2;exact⟨Z,fl,h⟩
theorem DI(s:Int)(M:Nat)(h:M<18446744073709551616):Wo (eG s M):=by unfold eG Wo;split<;>omega
theorem Tt(kind s:Int):bG kind s<18446744073709551616:=by unfold bG;(repeat' split)<;>omega
theorem SC(h:dw 1 mode kind a Z fl):Wo Z:=by
 rcases h with⟨p,mx,one,inf,sg,nan,x,hF,ha,hm,hk,hx,hp⟩|⟨_,rfl,_⟩
 ·have hm:=Tt kind x.s;rcases hp with⟨_,rfl,_⟩|⟨_,c,rfl,_⟩|⟨_,_,rfl,_⟩
  ·exact DI _ _ (Tt kind 0)
  ·exact DI _ _ om
  ·exact DI _ _ hm
 ·exact Wo.c 0
theorem aEC(h:jl 1 mode a ex Z fl):Wo Z:=by
 rcases h with⟨p,mx,one,inf,sg,nan,x,hF,hm,hx,hp⟩|⟨p,mx,one,inf,sg,nan,hF,hm,rfl,rfl⟩|⟨_,rfl,_⟩
 ·obtain⟨rfl,rfl,rfl,rfl,rfl,rfl⟩:=fmt7 hF;rcases hp with⟨_,rfl,_⟩|⟨_,hp,_⟩
  ·exact Wo.c _
  ·exact(Aj hp).1
 ·obtain⟨rfl,rfl,rfl,rfl,rfl,rfl⟩:=fmt7 hF;exact Wo.c _
 ·exact Wo.c _
theorem ZN(h:dU 1 mode kind a Z fl):Wo Z:=by
 rcases h with⟨p,mx,one,inf,sg,nan,hF,hm,hk,hp⟩|⟨p,mx,one,inf,sg,nan,hF,hm,rfl,rfl⟩|⟨_,rfl,_⟩
 ·obtain⟨rfl,rfl,rfl,rfl,rfl,rfl⟩:=fmt7 hF;exact(Aj hp).1
 ·obtain⟨rfl,rfl,rfl,rfl,rfl,rfl⟩:=fmt7 hF;exact Wo.c _
 ·exact Wo.c _
theorem Jg(h:pX wM 1 0 a b Z fl):o7.sub a b=Z:=jJ pX.one h
theorem Aq(h:pX oq 1 0 a b Z fl):o7.mul a b=Z:=jJ pX.one h
theorem uP(h:dU 1 0 1 (n%18446744073709551616) Z fl):o7.int n=Z:=jJ dU.one h
theorem Dk(h:jl 1 4 a false Z fl):o7.iT a=Z:=jJ jl.one h
theorem Jh(h:dw 1 2 3 a Z fl):o7.fix a=Z:=jJ dw.one h
theorem EI(h:dw 1 0 1 a Z fl):o7.whole a=Z:=jJ dw.one h
theorem GX:o7.In where
 int n:=by obtain⟨Z,fl,h⟩:=Du 1 0 1 (n%18446744073709551616);rw[uP h];exact ZN h
 sub ha hb:=by obtain⟨Z,fl,h⟩:=XQ ha hb;obtain⟨x,y,_,_,hp⟩:=Tf h;rw[Jg h];exact(Aj hp).1
 aF8 ha hb:=by obtain⟨Z,fl,h⟩:=XQ ha hb;obtain⟨x,y,_,_,hp⟩:=Tf h;rw[Jg h];exact(Aj hp).2.1
 mul ha hb:=by obtain⟨Z,fl,h⟩:=Y4 ha hb;obtain⟨x,y,_,_,hp⟩:=Tf h;rw[Aq h];exact(Aj hp).1
 iT ha:=by obtain⟨Z,fl,h⟩:=I8 1 4 _ false ha.1 ha.2;rw[Dk h];exact aEC h
 fix ha:=by obtain⟨Z,fl,h⟩:=yS 1 2 3 _ ha.1 ha.2;rw[Jh h];exact SC h
 whole ha:=by obtain⟨Z,fl,h⟩:=yS 1 0 1 _ ha.1 ha.2;rw[EI h];exact SC h
theorem vW(s k:Int)(hs:s=0\/s=1)(k0:-1022<=k)(k1:k<=1023):aCp (sw s 9223372036854775808 (4503599627370496*(k+1023))) ⟨1,s,k-52,4503599627370496⟩:=by
 refine .inl ⟨by unfold sw;split<;>omega,4503599627370496*(k+1023),?_,.inr (.inr (.inr (.inr ⟨om,om,rfl,0,4503599627370496,k-52,.inr ⟨om,om,om⟩,by dsimp only;decide,by dsimp only;omega,by dsimp only;decide,by dsimp only;decide⟩)))⟩;rcases hs with rfl|rfl
 ·exact .inl ⟨rfl,by unfold sw;rw[if_neg (by decide)],by unfold sw;rw[if_neg (by decide)];omega⟩
 ·exact .inr ⟨rfl,by unfold sw;rw[if_pos rfl];omega,by unfold sw;rw[if_pos rfl];omega⟩
theorem Ar(hs:s=0\/s=1)(ht:t=0\/t=1)(k0:-1022<=k)(k1:k<=1023)(j0:-1022<=j)(j1:j<=1023)(ha:a=sw s 9223372036854775808 (4503599627370496*(k+1023)))(hb:b=sw t 9223372036854775808 (4503599627370496*(j+1023)))
  (hr:aO 53 (1-1023) 1023 4503599627370496 9218868437227405312 0 (mulS s t) 20282409603651670423947251286016 (k-52+(j-52)) false z 0):o7.mul a b=sw (mulS s t) 9223372036854775808 z:=by
 refine Aq (fl:=0) (.inl ⟨53,1023,4503599627370496,9218868437227405312,9223372036854775808,9221120237041090560,⟨1,s,k-52,4503599627370496⟩,⟨1,t,j-52,4503599627370496⟩,u_,⟨de,de⟩,ha▸vW s k hs k0 k1,hb▸vW t j ht j0 j1,?_⟩);have e:oq 0 ⟨1,s,k-52,4503599627370496⟩ ⟨1,t,j-52,4503599627370496⟩=⟨1,mulS s t,k-52+(j-52),20282409603651670423947251286016⟩:=by
  unfold oq dO;dsimp only
  rw[if_neg de,if_neg de,if_neg de,if_neg (by decide)]
 rw[e];exact .inr (.inl ⟨rfl,z,hr,rfl⟩)
theorem wF(hk:dZ kind n=true)(hM:d_ kind n=M)(hs:cu kind n=s)(h0:M≠0)(hr:aO 53 (1-1023) 1023 4503599627370496 9218868437227405312 0 s M 0 false z 0):dU 1 0 kind n (sw s 9223372036854775808 z) 0:=by
 refine .inl ⟨53,1023,4503599627370496,9218868437227405312,9223372036854775808,9221120237041090560,u_,⟨de,de⟩,hk,?_⟩;have hi:ql kind n=⟨1,s,0,M⟩:=by unfold ql;rw[hM,hs,if_neg h0]
 rw[hi];exact .inr (.inl ⟨rfl,z,hr,rfl⟩)
theorem aIA:o7.int (-2199023255552)=14015202040376983552:=uP (n:=-2199023255552) (wF (M:=2199023255552) (s:=1) (z:=4791830003522207744) de de de de ⟨41,41,4503599627370496,4503599627370496,0,de,.inr ⟨de,rfl⟩,de,de,de,.inr (.inr ⟨de,de,de,.inl ⟨rfl,rfl⟩⟩)⟩)
theorem i41:o7.int (2199023255552)=4791830003522207744:=uP (n:=2199023255552) (wF (M:=2199023255552) (s:=0) (z:=4791830003522207744) de de de de ⟨41,41,4503599627370496,4503599627370496,0,de,.inr ⟨de,rfl⟩,de,de,de,.inr (.inr ⟨de,de,de,.inl ⟨rfl,rfl⟩⟩)⟩)
theorem i1:o7.int (1)=4607182418800017408:=uP (n:=1) (wF (M:=1) (s:=0) (z:=4607182418800017408) de de de de ⟨0,0,4503599627370496,4503599627370496,0,de,.inr ⟨de,rfl⟩,de,de,de,.inr (.inr ⟨de,de,de,.inl ⟨rfl,rfl⟩⟩)⟩)
theorem i2:o7.int (2)=4611686018427387904:=uP (n:=2) (wF (M:=2) (s:=0) (z:=4611686018427387904) de de de de ⟨1,1,4503599627370496,4503599627370496,0,de,.inr ⟨de,rfl⟩,de,de,de,.inr (.inr ⟨de,de,de,.inl ⟨rfl,rfl⟩⟩)⟩)
theorem i0:o7.int 0=0:=uP (n:=0) (fl:=0) (.inl ⟨53,1023,4503599627370496,9218868437227405312,9223372036854775808,9221120237041090560,u_,⟨de,de⟩,de,.inl ⟨rfl,rfl,rfl⟩⟩)
theorem f32:dU 1 0 3 4294967296 c32 0:=wF (M:=4294967296) (s:=0) de de de de ⟨32,32,4503599627370496,4503599627370496,0,de,.inr ⟨de,rfl⟩,de,de,de,.inr (.inr ⟨de,de,de,.inl ⟨rfl,rfl⟩⟩)⟩
theorem f63:dU 1 0 3 9223372036854775808 c63 0:=wF (M:=9223372036854775808) (s:=0) de de de de ⟨63,63,4503599627370496,4503599627370496,0,de,.inr ⟨de,rfl⟩,de,de,de,.inr (.inr ⟨de,de,de,.inl ⟨rfl,rfl⟩⟩)⟩
theorem aIx:o7.mul 14015202040376983552 qo=14010698440749613056:=Ar (s:=1) (t:=0) (k:=41) (j:=-1) (z:=4787326403894837248) de de de de de de de de ⟨40,40,4503599627370496,4503599627370496,0,de,.inr ⟨de,rfl⟩,de,de,de,.inr (.inr ⟨de,de,de,.inl ⟨rfl,rfl⟩⟩)⟩
theorem m41:o7.mul 4791830003522207744 qo=4787326403894837248:=Ar (s:=0) (t:=0) (k:=41) (j:=-1) (z:=4787326403894837248) de de de de de de de de ⟨40,40,4503599627370496,4503599627370496,0,de,.inr ⟨de,rfl⟩,de,de,de,.inr (.inr ⟨de,de,de,.inl ⟨rfl,rfl⟩⟩)⟩
theorem m1:o7.mul 4607182418800017408 qo=4602678819172646912:=Ar (s:=0) (t:=0) (k:=0) (j:=-1) (z:=4602678819172646912) de de de de de de de de ⟨-1,-1,4503599627370496,4503599627370496,0,de,.inr ⟨de,rfl⟩,de,de,de,.inr (.inr ⟨de,de,de,.inl ⟨rfl,rfl⟩⟩)⟩
theorem m2:o7.mul 4611686018427387904 qo=4607182418800017408:=Ar (s:=0) (t:=0) (k:=1) (j:=-1) (z:=4607182418800017408) de de de de de de de de ⟨0,0,4503599627370496,4503599627370496,0,de,.inr ⟨de,rfl⟩,de,de,de,.inr (.inr ⟨de,de,de,.inl ⟨rfl,rfl⟩⟩)⟩
theorem mh:o7.mul 4602678819172646912 qo=4598175219545276416:=Ar (s:=0) (t:=0) (k:=-1) (j:=-1) (z:=4598175219545276416) de de de de de de de de ⟨-2,-2,4503599627370496,4503599627370496,0,de,.inr ⟨de,rfl⟩,de,de,de,.inr (.inr ⟨de,de,de,.inl ⟨rfl,rfl⟩⟩)⟩
theorem mq:o7.mul 4598175219545276416 qo=4593671619917905920:=Ar (s:=0) (t:=0) (k:=-2) (j:=-1) (z:=4593671619917905920) de de de de de de de de ⟨-3,-3,4503599627370496,4503599627370496,0,de,.inr ⟨de,rfl⟩,de,de,de,.inr (.inr ⟨de,de,de,.inl ⟨rfl,rfl⟩⟩)⟩
theorem m0:o7.mul 0 qo=0:=by
 refine Aq (fl:=0) (.inl ⟨53,1023,4503599627370496,9218868437227405312,9223372036854775808,9221120237041090560,⟨0,0,0,0⟩,⟨1,0,-1-52,4503599627370496⟩,u_,⟨de,de⟩,.inl ⟨de,0,.inl ⟨rfl,rfl,de⟩,.inl ⟨rfl,rfl,rfl,rfl⟩⟩,(show sw 0 9223372036854775808 (4503599627370496*(-1+1023))=qo by decide)▸vW 0 (-1) de de de,?_⟩);exact .inl ⟨rfl,rfl,rfl⟩
theorem aGq(hx:Wo x)(h0:9223372036854775808<=x)(h1:x%9223372036854775808<=9218868437227405312):o7.fix (o7.mul x c32)=0:=by
 have Tj:∀{a:Int} {y:bZ},9223372036854775808<=a->a%9223372036854775808<=9218868437227405312->a<18446744073709551616->aCp a y->y.s=1/\y.c<=2:=by
  intro a y a0 a1 a2 hy;rcases hy with⟨_,v,hs,hv⟩|⟨c,_⟩
  ·rcases hs with⟨_,_,c⟩|⟨hs,rfl,_⟩
   ·omega
   ·refine⟨hs,?_⟩;rcases hv with⟨_,c,_⟩|⟨c,_⟩|⟨c,_⟩|⟨_,c,_⟩|⟨_,_,c,_⟩<;>omega
  ·omega
 obtain⟨Z,fl,h⟩:=Y4 hx (Wo.c c32);rw[Aq h];obtain⟨u,v,hu,hv,hp⟩:=Tf h;obtain rfl:=hv.one u_ (vW 0 32 de de de);obtain⟨us,uc⟩:=Tj h0 h1 hx.2 hu;have u0:=(bQ u_ hu).1.c0;obtain⟨p1,p2,p3⟩:=Aj hp;have hpo:(oq 0 u ⟨1,0,32-52,4503599627370496⟩).s =1/\(oq 0 u ⟨1,0,32-52,4503599627370496⟩).c <=2:=by
  unfold oq dO;have hm:mulS u.s 0=1:=by rw[us];decide
  dsimp only
  rw[if_neg om,if_neg om,hm]
  (repeat' split)<;>exact⟨rfl,by dsimp only;omega⟩
 have hZ:=p3 hpo.1 hpo.2;obtain⟨T,f,hT⟩:=yS 1 2 3 Z p1.1 p1.2;rw[Jh hT];rcases hT with⟨p,mx,one,inf,sg,nan,y,hF,hlt,hm,hk,hy,ho⟩|⟨_,rfl,_⟩
 ·obtain⟨rfl,rfl,rfl,rfl,rfl,rfl⟩:=fmt7 hF;obtain⟨ys,yc⟩:=Tj hZ (p2 hZ) p1.2 hy;have hmk:bG 3 y.s=0:=by rw[ys];decide
  have hw:∀M:Nat,M=0->eG y.s M=0:=by intro M hM;subst hM;unfold eG;simp
  rcases ho with⟨c,_⟩|⟨_,c,rfl,_⟩|⟨_,_,rfl,_⟩
  ·omega
  ·exact hw _ om
  ·exact hw _ hmk
 ·rfl
theorem aAJ(ha:Wo a)(h0:a%9223372036854775808<=4787326403894837248)(h:dw 1 2 1 (o7.iT a) T fl):o7.whole (o7.iT a)=T:=by
 obtain⟨Z,f1,hZ⟩:=I8 1 4 a false ha.1 ha.2;rw[Dk hZ]at h⊢
 rcases hZ with⟨p,mx,one,inf,sg,nan,x,hF,hm,hx,hp⟩|⟨p,mx,one,inf,sg,nan,hF,hm,_⟩|⟨c,_⟩
 ·obtain⟨rfl,rfl,rfl,rfl,rfl,rfl⟩:=fmt7 hF;have xc:x.c<=1:=by
   rcases hx with⟨_,v,hs,hv⟩|⟨c,_⟩
   ·have hvl:v<=4787326403894837248:=by rcases hs with⟨_,rfl,_⟩|⟨_,rfl,_⟩<;>have:=ha.1<;>have:=ha.2<;>omega
    rcases hv with⟨_,c,_⟩|⟨c,_⟩|⟨c,_⟩|⟨c,_⟩|⟨_,_,c,_⟩<;>omega
   ·have:=ha.2;omega
  rcases hp with⟨c,_⟩|⟨_,hp,_⟩
  ·omega
  obtain⟨⟨z0,z1,z2⟩,y,hy,yc,ys,hw,_⟩:=LZ ha.1 ha.2 u_ hx om hp;have hw':=(hw xc).2;rcases h with⟨p,mx,one,inf,sg,nan,y',hF',hlt,hm',hk,hy',ho⟩|⟨c,_⟩
  ·obtain⟨rfl,rfl,rfl,rfl,rfl,rfl⟩:=fmt7 hF';obtain rfl:=hy.one u_ hy';refine EI (fl:=fl) (.inl ⟨_,_,_,_,_,_,y,u_,hlt,⟨de,de⟩,hk,hy,?_⟩);unfold iY at ho⊢
   rw[hw' 2]at ho;rw[hw' 0];exact ho
  ·unfold C9 at c;omega
 ·omega
 ·omega
end
set_option maxRecDepth 1000000
theorem aCK{P:Prop}(h:P:=by
 rcases hv with⟨_,c,_⟩|⟨_,_,c,_⟩|⟨_,c,_⟩|⟨_,c,_⟩|⟨_,_,c,_⟩<;>omega):P:=h
section
variable [Inhabited Ch]
theorem Iy(n:Int)(n0:-9223372036854775808<=n)(n1:n<=9223372036854775807)(w:World):
  QB 40 #[.int .i64 n] w (J (o7.int n)):=by
 have hf:=nC;have hw:IntKind.u64.wrap n=n%18446744073709551616:=IntKind.wrap_u64 n;have HA:Hid (∀w,CT 36 #[.int .i64 1,.int .i64 0,.int .i64 1,J (n%18446744073709551616)] w fun e w'=>∃fl:Int,e=Y (aK (o7.int n) fl)/\Gb w w'):=fun w=>(g_ 1 0 1 _ (Int.emod_nonneg _ de) (Int.emod_lt_of_pos _ de) w).mono fun e w' ⟨Z,fl,hp,he,hg⟩=>⟨fl,by rw[uP hp];exact he,hg⟩;generalize o7.int n=z at*
 generalize n%18446744073709551616=u at*
 go_enter func40,ntmps40;go_wp2_with (go_at_call 36;refine(HA _).mono ?_;rintro e w1 ⟨fl,rfl,ak⟩);go_returns;exact⟨rfl,kg⟩
theorem aBE(ha:Wo a)(hb:Wo b)(w:World):
  QB 59 #[J a,J b] w (J (o7.sub a b)):=by
 have hf:=nC;have HA:Hid (∀w,CT 124 #[.int .i64 1,.int .i64 0,J a,J b] w fun e w'=>∃fl:Int,e=Y (aK (o7.sub a b) fl)/\Gb w w'):=fun w=>(BF 1 0 a b ha.1 ha.2 hb.1 hb.2 w).mono fun e w' ⟨Z,fl,hp,he,hg⟩=>⟨fl,by rw[Jg hp];exact he,hg⟩;generalize o7.sub a b=z at*
 clear ha hb;go_enter func59,ntmps59;go_wp2_with (go_at_call 124;refine(HA _).mono ?_;rintro e w1 ⟨fl,rfl,ak⟩);go_returns;exact⟨rfl,kg⟩
theorem SE(ha:Wo a)(hb:Wo b)(w:World):
  QB 42 #[J a,J b] w (J (o7.mul a b)):=by
 have hf:=nC;have HA:Hid (∀w,CT 104 #[.int .i64 1,.int .i64 0,J a,J b] w fun e w'=>∃fl:Int,e=Y (aK (o7.mul a b) fl)/\Gb w w'):=fun w=>(BG 1 0 a b ha.1 ha.2 hb.1 hb.2 w).mono fun e w' ⟨Z,fl,hp,he,hg⟩=>⟨fl,by rw[Aq hp];exact he,hg⟩;generalize o7.mul a b=z at*
 clear ha hb;go_enter func42,ntmps42;go_wp2_with (go_at_call 104;refine(HA _).mono ?_;rintro e w1 ⟨fl,rfl,ak⟩);go_returns;exact⟨rfl,kg⟩
theorem aG7(w:World):CT 45 #[.int .i64 1,.int .i64 0,J 4607182418800017408,J 4611686018427387904] w fun e w'=>∃fl:Int,e=Y (aK qo fl)/\Gb w w':=by
 refine(LG u_ 0 4607182418800017408 4611686018427387904 ⟨de,de⟩ de de de de (x:=⟨1,0,0-52,4503599627370496⟩) (y:=⟨1,0,1-52,4503599627370496⟩) (vW 0 0 de de de) (vW 0 1 de de de) rfl rfl w).mono ?_;rintro e w' ⟨Z,fl,hp,he,hg⟩;refine⟨fl,?_,hg⟩;have h1:oJ 53 (1-1023) 1023 4503599627370496 9218868437227405312 9223372036854775808 9221120237041090560 0 ⟨1,0,-59,288230376151711744⟩ qo 0:=.inl (.inr (.inl ⟨rfl,4602678819172646912,⟨-1,-1,4503599627370496,4503599627370496,0,de,.inr ⟨de,rfl⟩,de,de,de,.inr (.inr ⟨de,de,de,.inl ⟨rfl,rfl⟩⟩)⟩,rfl⟩));have h2:=(oJ.one hp h1).1;rw[he,h2]
theorem ZG(w:World):QB 44 #[] w (J qo):=by
 have hf:=nC;have H1:KB 40 #[.int .i64 1] (J 4607182418800017408):=fun w=>by have:=Iy 1 de de w;rw[i1]at this;exact this
 have H2:KB 40 #[.int .i64 2] (J 4611686018427387904):=fun w=>by have:=Iy 2 de de w;rw[i2]at this;exact this
 have HA:Hid _:=aG7;go_enter func44,ntmps44;go_wp2_with (first
  |(go_at_call 40;first|(with_reducible refine ku (H1.out _) fun w1 ak=>?_)|(with_reducible refine ku (H2.out _) fun w2 aA=>?_))
  |(go_at_call 45;refine(HA _).mono ?_;rintro e w3 ⟨fl,rfl,aF⟩))
 go_returns;exact⟨rfl,kg⟩
theorem aFY(ha:Wo a):∃c s x g:Int,Unp a c s/\bC 1 a c s x g:=by
 have h0:=ha.1;have h1:=ha.2;obtain⟨x,hx⟩:=fE u_ a h0 h1;refine⟨x.c,x.s,x.e,((x.M:Nat):Int),?_,ig u_ a h0 om hx⟩;rcases hx with⟨_,v,hs,hv⟩|⟨c,_⟩
 ·have hva:v=a%9223372036854775808:=om;refine⟨om,?_,?_,om⟩
  ·exact aCK
  ·exact aCK
 ·omega
theorem aIt:o7.S where
 word:=fun n n0 n1 w=>Iy n n0 n1 w
 minus:=fun a b ha hb w=>aBE ha hb w
 times:=fun a b ha hb w=>SE ha hb w
 half:=ZG
 ZP:=fun w=>(g_ 1 0 3 _ de de w).mono fun e w' ⟨Z,fl,hp,he,hg⟩=>⟨fl,by rw[<-(dU.one hp f32).1];exact he,hg⟩
 ZO:=fun w=>(g_ 1 0 3 _ de de w).mono fun e w' ⟨Z,fl,hp,he,hg⟩=>⟨fl,by rw[<-(dU.one hp f63).1];exact he,hg⟩
 unp:=aFY
 order:=fun a b ha hb w=>Jr 1 a b _ _ 9223372036854775808 _ (fun w=>iV u_ w) de rfl rfl rfl w
 iT:=fun a ha w=>(qL 1 4 a false ha.1 ha.2 w).mono fun e w' ⟨Z,fl,hp,he,hg⟩=>⟨fl,by rw[Dk hp];exact he,hg⟩
 fix:=fun a ha w=>(pY 1 2 3 a ha.1 ha.2 w).mono fun e w' ⟨Z,fl,hp,he,hg⟩=>⟨fl,by rw[Jh hp];exact he,hg⟩
 whole:=fun a ha w=>(pY 1 0 1 a ha.1 ha.2 w).mono fun e w' ⟨Z,fl,hp,he,hg⟩=>⟨fl,by rw[EI hp];exact he,hg⟩
 k1:=by rw[aIA];exact aIx
 k2:=by rw[i41];exact m41
 k3:=by rw[i1];exact m1
 k4:=by rw[i2];exact m2
 k5:=by rw[i0];exact m0
 k6:=mh
 k7:=mq
 neg:=aGq
theorem aAI(n:Int)(n0:-9223372036854775808<=n)(n1:n<=9223372036854775807)(hw:Fm w):
  QR 139 #[.int .i64 n] w (J (o7.int n)):=by
 have hf:=nC;have hwr:IntKind.u64.wrap n=n%18446744073709551616:=IntKind.wrap_u64 n;have HA:Hid (CT 145 #[.int .i64 1,.int .i64 0,.int .i64 1,J (n%18446744073709551616)] w fun e w'=>∃fl:Int,e=Y (aK (o7.int n) fl)/\Gr w w'):=(tK 1 0 1 _ (Int.emod_nonneg _ de) (Int.emod_lt_of_pos _ de) w hw).mono fun e w' ⟨Z,fl,hp,he,hg⟩=>⟨fl,by rw[uP hp];exact he,hg⟩;generalize o7.int n=z at*
 generalize n%18446744073709551616=u at*
 clear hw;go_enter func139,ntmps139;go_wp2_with (go_at_call 145;refine HA.out.mono ?_;rintro e w1 ⟨fl,rfl,ak⟩);go_returns;exact⟨rfl,kr⟩
theorem Y5(ha:Wo a)(hb:Wo b)(hw:Fm w):
  QR 66 #[J a,J b] w (J (o7.sub a b)):=by
 have hf:=nC;have HA:Hid (CT 134 #[.int .i64 1,.int .i64 0,J a,J b] w fun e w'=>∃fl:Int,e=Y (aK (o7.sub a b) fl)/\Gr w w'):=(BQ 1 0 a b ha.1 ha.2 hb.1 hb.2 w hw).mono fun e w' ⟨Z,fl,hp,he,hg⟩=>⟨fl,by rw[Jg hp];exact he,hg⟩;generalize o7.sub a b=z at*
 clear ha hb hw;go_enter func66,ntmps66;go_wp2_with (go_at_call 134;refine HA.out.mono ?_;rintro e w1 ⟨fl,rfl,ak⟩);go_returns;exact⟨rfl,kr⟩
theorem XI(ha:Wo a)(hb:Wo b)(hw:Fm w):
  QR 67 #[J a,J b] w (J (o7.mul a b)):=by
 have hf:=nC;have HA:Hid (CT 135 #[.int .i64 1,.int .i64 0,J a,J b] w fun e w'=>∃fl:Int,e=Y (aK (o7.mul a b) fl)/\Gr w w'):=(BR 1 0 a b ha.1 ha.2 hb.1 hb.2 w hw).mono fun e w' ⟨Z,fl,hp,he,hg⟩=>⟨fl,by rw[Aq hp];exact he,hg⟩;generalize o7.mul a b=z at*
 clear ha hb hw;go_enter func67,ntmps67;go_wp2_with (go_at_call 135;refine HA.out.mono ?_;rintro e w1 ⟨fl,rfl,ak⟩);go_returns;exact⟨rfl,kr⟩
theorem aFp(ha:Wo a)(hw:Fm w):
  QR 68 #[J a] w (J (o7.fix a)):=by
 have hf:=nC;have HA:Hid (CT 37 #[.int .i64 1,.int .i64 2,.int .i64 3,J a] w fun e w'=>∃fl:Int,e=Y (aK (o7.fix a) fl)/\Gr w w'):=(qm 1 2 3 a ha.1 ha.2 w hw).mono fun e w' ⟨Z,fl,hp,he,hg⟩=>⟨fl,by rw[Jh hp];exact he,hg⟩;generalize o7.fix a=z at*
 clear ha hw;go_enter func68,ntmps68;go_wp2_with (go_at_call 37;refine HA.out.mono ?_;rintro e w1 ⟨fl,rfl,ak⟩);go_returns;exact⟨rfl,kr⟩
theorem aIu:o7.I where
 word:=fun n n0 n1 w hw=>aAI n n0 n1 hw
 minus:=fun a b ha hb w hw=>Y5 ha hb hw
 times:=fun a b ha hb w hw=>XI ha hb hw
 fix:=fun a ha w hw=>aFp ha hw
 iT:=fun a ha w hw=>(rH 1 4 a false ha.1 ha.2 w hw).mono fun e w' ⟨Z,fl,hp,he,hg⟩=>⟨fl,by rw[Dk hp];exact he,hg⟩
 whole:=fun a ha h0 w hw=>(qm 1 2 1 (o7.iT a) (GX.iT ha).1 (GX.iT ha).2 w hw).mono fun e w' ⟨Z,fl,hp,he,hg⟩=>⟨fl,by rw[aAJ ha h0 hp];exact he,hg⟩
theorem X8{o:O7}(H:o.S)(HI:o.In)(hm:Wo mu)(hi:Wo inv)(hs:Wo scale)(s:ByteArray)(hz:s.size<=1048576)(w:World):
  CT 21 #[J mu,J inv,J scale,.string s] w fun e w'=>∃r,o.iD mu inv scale s r/\e=Y (tY r)/\Gb w w':=by
 by_cases c:s.size<=20000/\isC mu inv scale=true
 ·exact(I4 H HI hm hi hs s c.1 c.2 w).mono fun e w' ⟨r,h1,h2,h3⟩=>⟨r,by unfold O7.iD;rw[if_pos c];exact h1,h2,h3⟩
 ·exact(LP H HI hm hi hs s hz c w).mono fun e w' ⟨h1,h2⟩=>⟨_,by unfold O7.iD;rw[if_neg c],h1,h2⟩
theorem X9{o:O7}(H:o.I)(HI:o.In)(hm:Wo mu)(hi:Wo inv)(hs:Wo scale)(s:ByteArray)(hz:s.size<=1048576)(hw:Fm w)(hT:Tl w)(hD:Dc w):
  CT 22 #[J mu,J inv,J scale,.string s] w fun e w'=>∃r,o.iD mu inv scale s r/\e=Y (tY r)/\Gr w w':=by
 by_cases c:s.size<=20000/\isC mu inv scale=true
 ·exact(I5 H HI hm hi hs s c.1 c.2 hw hT hD).mono fun e w' ⟨r,h1,h2,h3⟩=>⟨r,by unfold O7.iD;rw[if_pos c];exact h1,h2,h3⟩
 ·exact(LQ hm hi hs s hz c hw).mono fun e w' ⟨h1,h2⟩=>⟨_,by unfold O7.iD;rw[if_neg c],h1,h2⟩
end
