import Derived.Test.YtmiekgjgpmfekaaGreatDoorK4
import Derived.Test.YtmiekgjgpmfekaaGreatDoorM2
set_option linter.all false
open Bool renaming false → O
open Go.Proofs.YtmiekgjgpmfekaaGreatDoor renaming vI → J
open Go.Ending renaming returned → Y
open Go.Proofs.Tryz
namespace Go.Proofs.YtmiekgjgpmfekaaGreatDoor
open Go.RowKit
attribute [local go_sem] aj bK
variable{p mx inf sg f mode a b mn Z fl Z' oQ v p' mx' one' inf' SS nan' fb sp m e g v' e' g' u:Int}{w:World}{K M k P:Nat}
theorem FK{v:Value}(h:aC K w v M)(hK:K<=100000):nb M<=3200000:=by
 obtain⟨n,hn,hb⟩:=h;have h1:=hb.1.1;rw[<-lH]at h1;have:=og h1;omega
theorem mF{one nan:Int}(h:aP f p mx one inf sg nan)(mode:Int)(m0:0<=mode)(m1:mode<=4)(o:bZ)(ho:o.c=1)(hs:o.s=0\/o.s=1)(hM:0<o.M)(e0:-5000<=o.e)(e1:o.e<=5000)(K:Nat)(hK:K<=100000)(v:Value)(w:World)(hB:aC K w v o.M):
  CT 85 #[J f,J mode,.agg #[J o.s,v,J o.e,.bool O]] w fun e w'=>∃z fl,bW p (1-mx) mx one inf sg nan mode o z fl/\e=Y (aK z fl)/\Gb w w':=by
 have hn:=FK hB hK;obtain⟨n,hn',hb⟩:=hB;refine(mQ h hb om hM hn mode o.s o.e O m0 m1 hs om om (fun c=>by cases c)).mono ?_;rintro x w' ⟨z,fl,hr,z0,z1,rfl,hg⟩;exact⟨_,_,.inr (.inl ⟨ho,z,hr,rfl⟩),rfl,hg⟩
def pX(R:Int->bZ->bZ->bZ)(f mode a b Z fl:Int):Prop:=
 (∃p mx one inf sg nan x y,aP f p mx one inf sg nan/\(0<=mode/\mode<=4)/\bP p mx one inf sg nan a x/\bP p mx one inf sg nan b y/\bW p (1-mx) mx one inf sg nan mode (R mode x y) Z fl)\/
 (∃p mx one inf sg nan,aP f p mx one inf sg nan/\(mode<0\/4<mode)/\Z=nan/\fl=1)\/
 (¬(f=0\/f=1)/\Z=9221120237041090560/\fl=1)
theorem iC(f:Int)(h:f=0\/f=1):∃p mx one inf sg nan,aP f p mx one inf sg nan:=by
 rcases h with rfl|rfl
 ·exact⟨_,_,_,_,_,_,.inl ⟨rfl,rfl,rfl,rfl,rfl,rfl,rfl⟩⟩
 ·exact⟨_,_,_,_,_,_,.inr ⟨rfl,rfl,rfl,rfl,rfl,rfl,rfl⟩⟩
theorem aP.one{one nan:Int}(h:aP f p mx one inf sg nan)(h':aP f p' mx' one' inf' SS nan'):p=p'/\mx=mx'/\one=one'/\inf=inf'/\sg=SS/\nan=nan':=by
 rcases h with⟨rfl,rfl,rfl,rfl,rfl,rfl,rfl⟩|⟨rfl,rfl,rfl,rfl,rfl,rfl,rfl⟩<;>rcases h' with⟨e,rfl,rfl,rfl,rfl,rfl,rfl⟩|⟨e,rfl,rfl,rfl,rfl,rfl,rfl⟩
 ·exact⟨rfl,rfl,rfl,rfl,rfl,rfl⟩
 ·cases e
 ·cases e
 ·exact⟨rfl,rfl,rfl,rfl,rfl,rfl⟩
theorem pX.one{R:Int->bZ->bZ->bZ}(h:pX R f mode a b Z fl)(h':pX R f mode a b Z' oQ):Z=Z'/\fl=oQ:=by
 rcases h with⟨p,mx,one,inf,sg,nan,x,y,hF,hm,hx,hy,hp⟩|⟨p,mx,one,inf,sg,nan,hF,hm,rfl,rfl⟩|⟨hF,rfl,rfl⟩<;>
 rcases h' with⟨p',mx',one',inf',SS,nan',x',y',hF',hm',hx',hy',hp'⟩|⟨p',mx',one',inf',SS,nan',hF',hm',rfl,rfl⟩|⟨hF',rfl,rfl⟩
 ·obtain⟨rfl,rfl,rfl,rfl,rfl,rfl⟩:=hF.one hF';obtain rfl:=hx.one hF hx';obtain rfl:=hy.one hF hy';exact bW.one hp hp'
 ·exfalso;omega
 ·exact absurd hF.yes.symm (by simp[hF'])
 ·exfalso;omega
 ·obtain⟨rfl,rfl,rfl,rfl,rfl,rfl⟩:=hF.one hF';exact⟨rfl,rfl⟩
 ·exact absurd hF.yes.symm (by simp[hF'])
 ·exact absurd hF'.yes.symm (by simp[hF])
 ·exact absurd hF'.yes.symm (by simp[hF])
 ·exact⟨rfl,rfl⟩
theorem Ja(p mn mx one inf sg nan mode:Int)(o:bZ)(c0:0<=o.c)(c4:o.c<=4):∃Z fl,bW p mn mx one inf sg nan mode o Z fl:=by
 rcases(show o.c=0\/o.c=1\/o.c=2\/o.c=3\/o.c=4 by omega)with c|c|c|c|c
 ·exact⟨_,_,.inl ⟨c,rfl,rfl⟩⟩
 ·obtain⟨z,fl,hr⟩:=Ym p mn mx one inf mode o.s o.M o.e O;exact⟨_,_,.inr (.inl ⟨c,z,hr,rfl⟩)⟩
 ·exact⟨_,_,.inr (.inr (.inl ⟨c,rfl,rfl⟩))⟩
 ·exact⟨_,_,.inr (.inr (.inr (.inl ⟨c,rfl,rfl⟩)))⟩
 ·exact⟨_,_,.inr (.inr (.inr (.inr ⟨c,rfl,rfl⟩)))⟩
theorem fE{one nan:Int}(h:aP f p mx one inf sg nan)(a:Int)(a0:0<=a)(a1:a<18446744073709551616):∃x,bP p mx one inf sg nan a x:=by
 obtain⟨mn,fb,sp,hm,_,_⟩:=h.m;obtain⟨x,hx,_⟩:=lI h hm a a0 a1;exact⟨x,hx⟩
theorem JL(R:Int->bZ->bZ->bZ)(S I:Nat)(hR:∀mode x y,VO x->VO y->nb x.M<=53->nb y.M<=53->-2000<=x.e->x.e<=2000->-2000<=y.e->y.e<=2000->0<=(R mode x y).c /\(R mode x y).c <=4)(f mode a b:Int)(a0:0<=a)(a1:a<18446744073709551616)(b0:0<=b)(b1:b<18446744073709551616)
  (hs:∀w,Calls Tryz.prog S #[J f,J mode,.int .u64 a,.int .u64 b] w fun e w'=>∃Z fl,pX R f mode a b Z fl/\e=Y (aK Z fl)/\Gb w w')
  (hi:∀w,Fm w->Calls Tryz.prog I #[J f,J mode,.int .u64 a,.int .u64 b] w fun e w'=>∃Z fl,pX R f mode a b Z fl/\e=Y (aK Z fl)/\Gr w w'):
  ∃Z fl:Int,pX R f mode a b Z fl/\(∀w,Calls Tryz.prog S #[J f,J mode,.int .u64 a,.int .u64 b] w fun e w'=>e=Y (aK Z fl)/\Gb w w')/\
   (∀w,Fm w->Calls Tryz.prog I #[J f,J mode,.int .u64 a,.int .u64 b] w fun e w'=>e=Y (aK Z fl)/\Gr w w'):=by
 have hex:∃Z fl:Int,pX R f mode a b Z fl:=by
  by_cases hf:f=0\/f=1
  ·obtain⟨p,mx,one,inf,sg,nan,hF⟩:=iC f hf;by_cases hm:0<=mode/\mode<=4
   ·obtain⟨x,hx⟩:=fE hF a a0 a1;obtain⟨y,hy⟩:=fE hF b b0 b1;obtain⟨v1,v2,v3,v4,v5,v6⟩:=bQ hF hx;obtain⟨u1,u2,u3,u4,u5,u6⟩:=bQ hF hy;obtain⟨r1,r2⟩:=hR mode x y v1 u1 v6 u6 v4 v5 u4 u5;obtain⟨Z,fl,hp⟩:=Ja p (1-mx) mx one inf sg nan mode _ r1 r2;exact⟨Z,fl,.inl ⟨p,mx,one,inf,sg,nan,x,y,hF,hm,hx,hy,hp⟩⟩
   ·exact⟨_,_,.inr (.inl ⟨p,mx,one,inf,sg,nan,hF,om,rfl,rfl⟩)⟩
  ·exact⟨_,_,.inr (.inr ⟨hf,rfl,rfl⟩)⟩
 obtain⟨Z,fl,h⟩:=hex;refine⟨Z,fl,h,fun w=>(hs w).mono ?_,fun w hw=>(hi w hw).mono ?_⟩
 ·rintro e w' ⟨Z',oQ,h',rfl,hg⟩;obtain⟨rfl,rfl⟩:=pX.one h h';exact⟨rfl,hg⟩
 ·rintro e w' ⟨Z',oQ,h',rfl,hg⟩;obtain⟨rfl,rfl⟩:=pX.one h h';exact⟨rfl,hg⟩
theorem ig{one nan:Int}(h:aP f p mx one inf sg nan)(a:Int)(a0:0<=a)(a1:a<2*sg){x:bZ}(hx:bP p mx one inf sg nan a x):Hid (∀w,QR 57 #[J f,.int .u64 a] w (eH x.c x.s x.e (((x.M:Nat):Int)))):=fun w=>by
 rcases hx with⟨_,hu⟩|⟨c,_⟩
 ·refine(D6 h a a0 a1 w).mono ?_;rintro e w' ⟨c,s,x',g,hu',rfl,hg⟩;obtain⟨rfl,rfl,rfl,rfl⟩:=dY.one h hu hu';exact⟨rfl,hg⟩
 ·exfalso;omega
theorem qO{one nan:Int}(h:aP f p mx one inf sg nan){x:bZ}(hx:bP p mx one inf sg nan a x)(hw:2*sg<=a):x=⟨4,0,0,0⟩:=by
 rcases hx with⟨c,_⟩|⟨_,rfl⟩
 ·exfalso;omega
 ·rfl
theorem qQ{one nan:Int}(h:aP f p mx one inf sg nan)(a1:a<18446744073709551616)(b1:b<18446744073709551616)(hn:2*sg<=a\/2*sg<=b):aAD f mode a b:=by
 unfold aAD;rcases h with⟨rfl,rfl,rfl,rfl,rfl,rfl,rfl⟩|⟨rfl,rfl,rfl,rfl,rfl,rfl,rfl⟩
 ·rcases hn with h|h
  ·exact .inr (.inr (.inl ⟨rfl,om⟩))
  ·exact .inr (.inr (.inr ⟨rfl,om⟩))
 ·exfalso;omega
theorem l9{one nan:Int}{o:bZ}(ho:o.c=4):bW p mn mx one inf sg nan mode o nan 1:=.inr (.inr (.inr (.inr ⟨ho,rfl,rfl⟩)))
theorem uT{one nan:Int}(m:Int)(t:Bool)(h:t=decide (m=4))(h3:3<=m)(h4:m<=4):bW p mn mx one inf sg nan mode ⟨m,0,0,0⟩ nan (if t then 1 else 0):=by
 by_cases c:m=4
 ·rw[h,decide_eq_true c];exact .inr (.inr (.inr (.inr ⟨c,rfl,rfl⟩)))
 ·rw[h,decide_eq_false c];exact .inr (.inr (.inr (.inl ⟨by dsimp only;omega,rfl,rfl⟩)))
theorem bq(c k:Int):(c==k)=decide (c=k):=by by_cases h:c=k<;>simp[h]
structure aEe (p mn mx md:Int) (k:Nat) (w wx:World) (sx ax Ah Al sy ay Bh Bl:Int):Prop where
 g:Gr w wx:=by exact kr
 s0:aj wx w.heap.size 0 (J p):=by exact kl
 s1:aj wx w.heap.size 1 (J mn):=by exact kl
 s2:aj wx w.heap.size 2 (J mx):=by exact kl
 s3:aj wx w.heap.size 3 (J md):=by exact kl
 s4:aj wx w.heap.size 4 (.func (.func k) #[] #[]):=by exact kl
 x0:aj wx (w.heap.size+1) 0 (J sx):=by exact kl
 xz0:bK wx (w.heap.size+1) 0:=by exact kl
 x1:aj wx (w.heap.size+1) 1 (J ax):=by exact kl
 xz1:bK wx (w.heap.size+1) 1:=by exact kl
 x2:aj wx (w.heap.size+1) 2 (J 1):=by exact kl
 xz2:bK wx (w.heap.size+1) 2:=by exact kl
 x3:aj wx (w.heap.size+1) 3 (.int .u64 Ah):=by exact kl
 xz3:bK wx (w.heap.size+1) 3:=by exact kl
 x4:aj wx (w.heap.size+1) 4 (.int .u64 Al):=by exact kl
 xz4:bK wx (w.heap.size+1) 4:=by exact kl
 x5:aj wx (w.heap.size+1) 5 (.bool O):=by exact kl
 xz5:bK wx (w.heap.size+1) 5:=by exact kl
 x6:aj wx (w.heap.size+1) 6 (J 0):=by exact kl
 xz6:bK wx (w.heap.size+1) 6:=by exact kl
 y0:aj wx (w.heap.size+1+1) 0 (J sy):=by exact kl
 yz0:bK wx (w.heap.size+1+1) 0:=by exact kl
 y1:aj wx (w.heap.size+1+1) 1 (J ay):=by exact kl
 yz1:bK wx (w.heap.size+1+1) 1:=by exact kl
 y2:aj wx (w.heap.size+1+1) 2 (J 1):=by exact kl
 yz2:bK wx (w.heap.size+1+1) 2:=by exact kl
 y3:aj wx (w.heap.size+1+1) 3 (.int .u64 Bh):=by exact kl
 yz3:bK wx (w.heap.size+1+1) 3:=by exact kl
 y4:aj wx (w.heap.size+1+1) 4 (.int .u64 Bl):=by exact kl
 yz4:bK wx (w.heap.size+1+1) 4:=by exact kl
 y5:aj wx (w.heap.size+1+1) 5 (.bool O):=by exact kl
 yz5:bK wx (w.heap.size+1+1) 5:=by exact kl
 y6:aj wx (w.heap.size+1+1) 6 (J 0):=by exact kl
 yz6:bK wx (w.heap.size+1+1) 6:=by exact kl
 r0:aj wx (w.heap.size+1+1+1) 0 (J 0):=by exact kl
 rz0:bK wx (w.heap.size+1+1+1) 0:=by exact kl
 r1:aj wx (w.heap.size+1+1+1) 1 (J 0):=by exact kl
 rz1:bK wx (w.heap.size+1+1+1) 1:=by exact kl
 r2:aj wx (w.heap.size+1+1+1) 2 (J 0):=by exact kl
 rz2:bK wx (w.heap.size+1+1+1) 2:=by exact kl
 r3:aj wx (w.heap.size+1+1+1) 3 (.int .u64 0):=by exact kl
 rz3:bK wx (w.heap.size+1+1+1) 3:=by exact kl
 r4:aj wx (w.heap.size+1+1+1) 4 (.int .u64 0):=by exact kl
 rz4:bK wx (w.heap.size+1+1+1) 4:=by exact kl
 r5:aj wx (w.heap.size+1+1+1) 5 (.bool O):=by exact kl
 rz5:bK wx (w.heap.size+1+1+1) 5:=by exact kl
 r6:aj wx (w.heap.size+1+1+1) 6 (J 0):=by exact kl
 rz6:bK wx (w.heap.size+1+1+1) 6:=by exact kl
set_option maxRecDepth 1000000
set_option maxHeartbeats 40000000
theorem Fh(p mn mx md:Int)(k:Nat)(sx ex cx xh xl sy ey cy yh yl:Int)(tx ty:Bool)(z:Int)(hz:bits .xor .i64 sy 1=z)(Q:Int->Int->Int->Int->Int->Bool->Prop)(HT:Hid (∀w,CT 209 #[dP p mn mx md k,aU sx ex cx xh xl tx 0,aU z ey cy yh yl ty 0] w fun e w'=>∃os oe oc oh ol ot,Q os oe oc oh ol ot/\e=Y (aU os oe oc oh ol ot 0)/\Gr w w'))(w:World):
  CT 180 #[dP p mn mx md k,aU sx ex cx xh xl tx 0,aU sy ey cy yh yl ty 0] w fun e w'=>∃os oe oc oh ol ot,Q os oe oc oh ol ot/\e=Y (aU os oe oc oh ol ot 0)/\Gr w w':=by
 go_enter func180,ntmps180;go_wp2_with (go_at_call 209;refine(HT _).mono ?_;rintro e w1 ⟨os,oe,oc,oh,ol,ot,hq,rfl,ak⟩;have fP:=ak.mX w);refine bodyPost_ret (v:=aU os oe oc oh ol ot 0) (by simp[results,Tryz.results180,go_sem,fP]) rfl ⟨os,oe,oc,oh,ol,ot,hq,rfl,?_⟩;exact Gr.g
theorem yu(p mn mx md:Int)(k:Nat)(sx ex cx xh xl sy ey cy yh yl:Int)(tx ty:Bool)(m:Int)(hm:max cx cy=m)(h3:m<3)(Q:Int->Int->Int->Int->Int->Bool->Prop)(HO:Hid (∀w,CT 180 #[dP p mn mx md k,aU sx ex cx xh xl tx 0,aU sy ey cy yh yl ty 0] w fun e w'=>∃os oe oc oh ol ot,Q os oe oc oh ol ot/\e=Y (aU os oe oc oh ol ot 0)/\Gr w w'))(w:World):
  CT 90 #[dP p mn mx md k,.func (.func 180) #[] #[],aU sx ex cx xh xl tx 0,aU sy ey cy yh yl ty 0] w fun e w'=>∃os oe oc oh ol ot,Q os oe oc oh ol ot/\e=Y (aU os oe oc oh ol ot 0)/\Gr w w':=by
 go_enter func90,ntmps90;go_wp2_with (go_at_call 180;refine(HO _).mono ?_;rintro e w1 ⟨os,oe,oc,oh,ol,ot,hq,rfl,ak⟩;have fP:=ak.mX w);refine bodyPost_ret (v:=aU os oe oc oh ol ot 0) (by simp[results,Tryz.results90,go_sem,fP]) rfl ⟨os,oe,oc,oh,ol,ot,hq,rfl,?_⟩;exact Gr.g
theorem QZ(f mode a b:Int)(R:Int->Int->Prop)(HC:Hid (∀w',Gr w w'->CT 133 #[J f,J mode,.func (.func 180) #[] #[],.int .u64 a,.int .u64 b] w' (zW R w'))):
  CT 134 #[J f,J mode,.int .u64 a,.int .u64 b] w (zW R w):=by
 go_enter func134,ntmps134;go_wp2_with (go_at_call 133;refine(HC _ Gr.g).mono ?_;rintro e w1 ⟨z,fl,hr,rfl,ak⟩;have fP:=ak.aZ w);refine bodyPost_ret (v:=aK z fl) (by simp[results,Tryz.results134,go_sem,fP]) rfl ⟨z,fl,hr,rfl,?_⟩;exact Gr.g
def oJ(p mn mx one inf sg nan mode:Int)(o:bZ)(Z fl:Int):Prop:=bW p mn mx one inf sg nan mode o Z fl\/o.c=5/\Z=sw o.s sg inf/\fl=2
theorem bW.c4{one nan:Int}{o:bZ}(h:bW p mn mx one inf sg nan mode o Z fl):o.c<=4:=by
 rcases h with⟨h,_⟩|⟨h,_⟩|⟨h,_⟩|⟨h,_⟩|⟨h,_⟩<;>omega
theorem oJ.one{one nan:Int}{o:bZ}(h:oJ p mn mx one inf sg nan mode o Z fl)(h':oJ p mn mx one inf sg nan mode o Z' oQ):Z=Z'/\fl=oQ:=by
 rcases h with h|⟨c,rfl,rfl⟩<;>rcases h' with h'|⟨c',rfl,rfl⟩
 ·exact bW.one h h'
 ·have:=h.c4;exfalso;omega
 ·have:=h'.c4;exfalso;omega
 ·exact⟨rfl,rfl⟩
def lS(R:Int->Int->bZ->bZ->bZ)(f mode a b Z fl:Int):Prop:=
 (∃p mx one inf sg nan x y,aP f p mx one inf sg nan/\(0<=mode/\mode<=4)/\bP p mx one inf sg nan a x/\bP p mx one inf sg nan b y/\oJ p (1-mx) mx one inf sg nan mode (R p mode x y) Z fl)\/
 (∃p mx one inf sg nan,aP f p mx one inf sg nan/\(mode<0\/4<mode)/\Z=nan/\fl=1)\/
 (¬(f=0\/f=1)/\Z=9221120237041090560/\fl=1)
theorem lS.one{R:Int->Int->bZ->bZ->bZ}(h:lS R f mode a b Z fl)(h':lS R f mode a b Z' oQ):Z=Z'/\fl=oQ:=by
 rcases h with⟨p,mx,one,inf,sg,nan,x,y,hF,hm,hx,hy,hp⟩|⟨p,mx,one,inf,sg,nan,hF,hm,rfl,rfl⟩|⟨hF,rfl,rfl⟩<;>
 rcases h' with⟨p',mx',one',inf',SS,nan',x',y',hF',hm',hx',hy',hp'⟩|⟨p',mx',one',inf',SS,nan',hF',hm',rfl,rfl⟩|⟨hF',rfl,rfl⟩
 ·obtain⟨rfl,rfl,rfl,rfl,rfl,rfl⟩:=hF.one hF';obtain rfl:=hx.one hF hx';obtain rfl:=hy.one hF hy';exact oJ.one hp hp'
 ·exfalso;omega
 ·exact absurd hF.yes.symm (by simp[hF'])
 ·exfalso;omega
 ·obtain⟨rfl,rfl,rfl,rfl,rfl,rfl⟩:=hF.one hF';exact⟨rfl,rfl⟩
 ·exact absurd hF.yes.symm (by simp[hF'])
 ·exact absurd hF'.yes.symm (by simp[hF])
 ·exact absurd hF'.yes.symm (by simp[hF])
 ·exact⟨rfl,rfl⟩
theorem N8(R:Int->Int->bZ->bZ->bZ)(S I:Nat)(args:Array Value)(hR:∀p mode x y,VO x->VO y->0<=(R p mode x y).c /\(R p mode x y).c <=5)(f mode a b:Int)(a0:0<=a)(a1:a<18446744073709551616)(b0:0<=b)(b1:b<18446744073709551616)
  (hs:∀w,Calls Tryz.prog S args w fun e w'=>∃Z fl,lS R f mode a b Z fl/\e=Y (aK Z fl)/\Gb w w')
  (hi:∀w,Fm w->Calls Tryz.prog I args w fun e w'=>∃Z fl,lS R f mode a b Z fl/\e=Y (aK Z fl)/\Gr w w'):
  ∃Z fl:Int,lS R f mode a b Z fl/\(∀w,Calls Tryz.prog S args w fun e w'=>e=Y (aK Z fl)/\Gb w w')/\
   (∀w,Fm w->Calls Tryz.prog I args w fun e w'=>e=Y (aK Z fl)/\Gr w w'):=by
 have hex:∃Z fl:Int,lS R f mode a b Z fl:=by
  by_cases hf:f=0\/f=1
  ·obtain⟨p,mx,one,inf,sg,nan,hF⟩:=iC f hf;by_cases hm:0<=mode/\mode<=4
   ·obtain⟨x,hx⟩:=fE hF a a0 a1;obtain⟨y,hy⟩:=fE hF b b0 b1;obtain⟨r1,r2⟩:=hR p mode x y (bQ hF hx).1 (bQ hF hy).1;by_cases h5:(R p mode x y).c =5
    ·exact⟨_,_,.inl ⟨p,mx,one,inf,sg,nan,x,y,hF,hm,hx,hy,.inr ⟨h5,rfl,rfl⟩⟩⟩
    ·obtain⟨Z,fl,hp⟩:=Ja p (1-mx) mx one inf sg nan mode _ r1 om;exact⟨Z,fl,.inl ⟨p,mx,one,inf,sg,nan,x,y,hF,hm,hx,hy,.inl hp⟩⟩
   ·exact⟨_,_,.inr (.inl ⟨p,mx,one,inf,sg,nan,hF,om,rfl,rfl⟩)⟩
  ·exact⟨_,_,.inr (.inr ⟨hf,rfl,rfl⟩)⟩
 obtain⟨Z,fl,h⟩:=hex;refine⟨Z,fl,h,fun w=>(hs w).mono ?_,fun w hw=>(hi w hw).mono ?_⟩
 ·rintro e w' ⟨Z',oQ,h',rfl,hg⟩;obtain⟨rfl,rfl⟩:=lS.one h h';exact⟨rfl,hg⟩
 ·rintro e w' ⟨Z',oQ,h',rfl,hg⟩;obtain⟨rfl,rfl⟩:=lS.one h h';exact⟨rfl,hg⟩
def jT(p:Int)(o:bZ)(os oe oc oh ol:Int)(ot:Bool)(of:Int):Prop:=
 (∃M:Nat,oh=((M/18446744073709551616:Nat):Int)/\ol=((M%18446744073709551616:Nat):Int)/\of=0/\o.c=oc/\0<=oc/\oc<=4/\(oc<=2->o.s=os/\(os=0\/os=1))/\
  (oc=1->0<M/\M<340282366920938463463374607431768211456/\(ot=true->p+2<=(nb M:Int))/\-100000<=oe/\oe<=100000/\∀mn mx one inf mode z fl,aO p mn mx one inf mode os M oe ot z fl↔aO p mn mx one inf mode os o.M o.e O z fl))\/
 (o.c=5/\oc=2/\o.s=os/\(os=0\/os=1)/\of=2)\/
 (o.c=0/\oc=1/\oh=0/\ol=0/\o.s=os/\(os=0\/os=1)/\of=0/\-100000<=oe/\oe<=100000)
theorem jT.nan(p m:Int)(h0:3<=m)(h1:m<=4):jT p ⟨m,0,0,0⟩ 0 0 m 0 0 O 0:=
 .inl ⟨0,rfl,rfl,rfl,rfl,om,h1,fun c=>⟨rfl,.inl rfl⟩,fun c=>om⟩
theorem jT.flat(p:Int)(o:bZ)(os oe oc:Int)(ot:Bool)(hc:o.c=oc)(c0:0<=oc)(c4:oc<=4)(c1:oc≠1)(hs:oc<=2->o.s=os/\(os=0\/os=1)):jT p o os oe oc 0 0 ot 0:=
 .inl ⟨0,rfl,rfl,rfl,hc,c0,c4,hs,fun c=>absurd c c1⟩
theorem jT.self(p:Int){x:bZ}(h:VO x):jT p x x.s x.e x.c ((x.M/18446744073709551616:Nat):Int) ((x.M%18446744073709551616:Nat):Int) O 0:=
 .inl ⟨x.M,rfl,rfl,rfl,rfl,h.c0,h.c4,fun _=>⟨rfl,h.jF⟩,fun c=>by
  obtain⟨a,b⟩:=h.fin c;have:=h.e0;have:=h.e1;exact⟨a,S_ _ b,(fun t=>by cases t),om,om,fun _ _ _ _ _ _ _=>Iff.rfl⟩⟩
theorem GU{one nan:Int}(hm:rZ p mn mx fb sp one inf sg nan)(md:Int)(k:Nat)(hk:qC md k)(o:bZ)(os oe oc oh ol:Int)(ot:Bool)(of:Int)(h:jT p o os oe oc oh ol ot of)(w:World):
  CT 179 #[dP p mn mx md k,aU os oe oc oh ol ot of] w fun e w'=>∃z fl,oJ p mn mx one inf sg nan md o z fl/\e=Y (aK z fl)/\Gr w w':=by
 have hp:p<=53/\0<=p:=by rcases hm with h|h<;>omega
 rcases h with⟨M,rfl,rfl,rfl,hc,c0,c4,hs,h1⟩|⟨hc,rfl,hs,V6,rfl⟩|⟨hc,rfl,rfl,rfl,hs,V6,rfl,e0,e1⟩
 ·rcases(show oc=0\/oc=1\/oc=2\/oc=3\/oc=4 by omega)with rfl|rfl|rfl|rfl|rfl
  ·obtain⟨s1,s2⟩:=hs om;refine(YP p mn mx md k os oe _ _ ot (sw os sg 0) (fun w=>jc hm os _ ?_ w) w).mono ?_
   ·rcases s2 with rfl|rfl
    ·exact .inl ⟨rfl,by simp[sw]⟩
    ·exact .inr ⟨rfl,by simp[sw]⟩
   ·rintro r w' ⟨rfl,hg⟩;exact⟨_,_,.inl (.inl ⟨hc,by rw[s1],rfl⟩),rfl,hg⟩
  ·obtain⟨s1,s2⟩:=hs om;obtain⟨m0,m1,m2,e0,e1,m3⟩:=h1 rfl;refine(Qp p mn mx md k os oe _ _ ot (fun z fl=>∃z0,aO p mn mx one inf md os M oe ot z0 fl/\z=sw os sg z0) (fun z fl ⟨_,h,_⟩=>h.fl) (fun w=>?_) w).mono ?_
   ·refine(qM hm md md k hk os s2 oe e0 e1 M m0 m1 ot m2 w).mono ?_;rintro r w' ⟨z,fl,hr,rfl,hg⟩;exact⟨_,_,⟨z,hr,Ls _ _ _⟩,rfl,hg⟩
   ·rintro r w' ⟨z,fl,⟨z0,hr,rfl⟩,rfl,hg⟩;refine⟨_,_,.inl (.inr (.inl ⟨hc,z0,?_,by rw[s1]⟩)),rfl,hg⟩;rw[s1];exact(m3 mn mx one inf md z0 fl).1 hr
  ·obtain⟨s1,s2⟩:=hs om;refine(YO p mn mx md k os oe _ _ ot (sw os sg inf) (fun w=>jM hm os _ ?_ w) w).mono ?_
   ·rcases s2 with rfl|rfl
    ·exact .inl ⟨rfl,by simp[sw]⟩
    ·exact .inr ⟨rfl,by simp[sw];omega⟩
   ·rintro r w' ⟨rfl,hg⟩;exact⟨_,_,.inl (.inr (.inr (.inl ⟨hc,by rw[s1],rfl⟩))),rfl,hg⟩
  ·refine(YN p mn mx md k os oe _ _ ot nan (fun w=>Dp hm w) w).mono ?_;rintro r w' ⟨rfl,hg⟩;exact⟨_,_,.inl (.inr (.inr (.inr (.inl ⟨hc,rfl,rfl⟩)))),rfl,hg⟩
  ·refine(YM p mn mx md k os oe _ _ ot nan (fun w=>dH hm w) w).mono ?_;rintro r w' ⟨rfl,hg⟩;exact⟨_,_,.inl (.inr (.inr (.inr (.inr ⟨hc,rfl,rfl⟩)))),rfl,hg⟩
 ·refine(Tc p mn mx md k os oe _ _ ot 2 (sw os sg inf) (fun w=>jM hm os _ ?_ w) w).mono ?_
  ·rcases V6 with rfl|rfl
   ·exact .inl ⟨rfl,by simp[sw]⟩
   ·exact .inr ⟨rfl,by simp[sw];omega⟩
  ·rintro r w' ⟨rfl,hg⟩;exact⟨_,_,.inr ⟨hc,by rw[hs],rfl⟩,rfl,hg⟩
 ·refine(Qp p mn mx md k os oe _ _ ot (fun z fl=>z=sw os sg 0/\fl=0) (fun z fl h=>.inl h.2) (fun w=>?_) w).mono ?_
  ·refine(y8 hm md k os oe ot om om (sw os sg 0) (fun w=>jc hm os _ ?_ w) w).mono ?_
   ·rcases V6 with rfl|rfl
    ·exact .inl ⟨rfl,by simp[sw]⟩
    ·exact .inr ⟨rfl,by simp[sw]⟩
   ·rintro r w' ⟨rfl,hg⟩;exact⟨_,_,⟨rfl,rfl⟩,rfl,hg⟩
  ·rintro r w' ⟨z,fl,⟨rfl,rfl⟩,rfl,hg⟩;exact⟨_,_,.inl (.inl ⟨hc,by rw[hs],rfl⟩),rfl,hg⟩
theorem o_{one nan:Int}(h:aP f p mx one inf sg nan){x:bZ}(hx:bP p mx one inf sg nan a x)(hc:x.c=1):∃P:Nat,(P:Int)=p/\1<=P/\P<=53/\2^(P-1)<=x.M/\x.M<2^P:=by
 rcases hx with⟨_,hu⟩|⟨_,rfl⟩
 ·obtain⟨h1,h2,h3,h4,h5,h6,h7,h8,h9⟩:=jg h hu;have h10:=h8 hc;rcases h with⟨rfl,rfl,rfl,rfl,rfl,rfl,rfl⟩|⟨rfl,rfl,rfl,rfl,rfl,rfl,rfl⟩
  ·have q1:2^(24-1)=8388608:=de;have q2:2^24=16777216:=de;exact⟨24,rfl,de,de,om,om⟩
  ·have q1:2^(53-1)=4503599627370496:=de;have q2:2^53=9007199254740992:=de;exact⟨53,rfl,de,de,om,om⟩
 ·cases hc
theorem Af{one nan:Int}(h:aP f p mx one inf sg nan)(mode:Int)(m0:0<=mode)(m1:mode<=4)(o:bZ)(ho:o.c=1)(hs:o.s=0\/o.s=1)(m:Nat)(hM:0<m)(e:Int)(e0:-5000<=e)(e1:e<=5000)(t:Bool)(hn:p+2<=(nb m:Int))(heq:∀mn mx one inf mode z fl,aO p mn mx one inf mode o.s m e t z fl↔aO p mn mx one inf mode o.s o.M o.e O z fl)(K:Nat)(hK:K<=100000)(v:Value)(w:World)(hB:aC K w v m):
  CT 85 #[J f,J mode,.agg #[J o.s,v,J e,.bool t]] w fun x w'=>∃z fl,oJ p (1-mx) mx one inf sg nan mode o z fl/\x=Y (aK z fl)/\Gb w w':=by
 have hnb:=FK hB hK;obtain⟨n,hn',hb⟩:=hB;refine(mQ h hb om hM hnb mode o.s e t m0 m1 hs om om (fun c=>om)).mono ?_;rintro x w' ⟨z,fl,hr,z0,z1,rfl,hg⟩;exact⟨_,_,.inl (.inr (.inl ⟨ho,z,(heq _ _ _ _ _ _ _).1 hr,rfl⟩)),rfl,hg⟩
theorem aDl{P:Prop}(h:P:=by
 exact⟨⟨om,om,om,om,om⟩,fun c'=>om,fun _=>⟨e,om⟩⟩):P:=h
def Y9(x y:bZ):Int:=or3 (qB x.c y.c) (qB x.e y.e) (qB (x.M:Int) (y.M:Int))
def aKa(x y:bZ):Int:=if x.s≠y.s then y.s-x.s else if x.s=1 then-Y9 x y else Y9 x y
theorem MI{a b:Nat}(h:a<=b):(2:Int)^a<=2^b:=by
 have:=bT h;have e1:((2^a:Nat):Int)<=((2^b:Nat):Int):=om;rw[jR,jR]at e1;exact e1
theorem Ji{one:Int}(o0:0<one)(hm:one<=m)(hg:m*2^k<2*one):k=0:=by
 rcases Nat.eq_zero_or_pos k with c|c
 ·exact c
 ·exfalso;have h2:=MI (show 1<=k by omega);rw[Int.pow_one]at h2;have:=Int.mul_le_mul_of_nonneg_left h2 (show 0<=m by omega);omega
theorem GZ{one:Int}(o0:0<one)(v0:0<v)(h:v<v')(hn:jE p mx one v e g)(hn':jE p mx one v' e' g'):e<e'\/e=e'/\g<g':=by
 obtain⟨k,m,e0,hm,hg,he,h1,h2⟩:=hn;obtain⟨k',m',e0',hm',hg',he',h1',h2'⟩:=hn';have hr0:=Int.emod_nonneg v (show one≠0 by omega);have aKp:=Int.emod_nonneg v' (show one≠0 by omega);have hr1:=Int.emod_lt_of_pos v o0;have hr1':=Int.emod_lt_of_pos v' o0;rcases hm with⟨c,rfl,rfl⟩|⟨c,rfl,rfl⟩
 ·rcases hm' with⟨c',rfl,rfl⟩|⟨c',rfl,rfl⟩
  ·rcases Nat.lt_trichotomy k k' with d|d|d
   ·exfalso;have a1:=MI (show k+1<=k' by omega);have a2:=Int.mul_le_mul_of_nonneg_left a1 (show 0<=m' by omega);rw[Int.pow_succ,<-Int.mul_assoc]at a2;have a3:=Int.mul_le_mul_of_nonneg_right (show m<=m' by omega) (show(0:Int)<=2^k from Int.le_of_lt (Int.pow_pos de));omega
   ·subst d;have a3:=Int.mul_lt_mul_of_pos_right h (show(0:Int)<2^k from Int.pow_pos de);exact .inr ⟨om,om⟩
   ·exact .inl om
  ·have k1:1<=k:=by
    rcases Nat.eq_zero_or_pos k with d|d
    ·subst d;rw[Int.pow_zero]at hg;omega
    ·exact d
   have hk':=Ji o0 (show one<=v'%one+one by omega) om (k:=k');have:=Int.le_ediv_of_mul_le o0 (show 1*one<=v' by omega);exact .inl om
 ·rcases hm' with⟨c',rfl,rfl⟩|⟨c',rfl,rfl⟩
  ·exfalso;omega
  ·have hk:=Ji o0 (show one<=v%one+one by omega) om (k:=k);have hk':=Ji o0 (show one<=v'%one+one by omega) om (k:=k');subst hk hk';rw[Int.pow_zero,Int.mul_one]at hg hg';have d1:=Int.ediv_le_ediv o0 (show v<=v' by omega);have m1:=Int.ediv_mul_add_emod v one;have m2:=Int.ediv_mul_add_emod v' one;by_cases q:v/one=v'/one
   ·rw[q]at m1 he;exact .inr ⟨om,om⟩
   ·exact .inl om
def A_(inf sg a:Int)(x:bZ)(v:Int):Prop:=(x.s=0/\a=v\/x.s=1/\a=v+sg)/\0<=v/\v<=inf/\(x.c=0↔v=0)/\(x.c=2↔v=inf)
theorem lW{one nan:Int}(h:aP f p mx one inf sg nan)(a0:0<=a){x:bZ}(hx:bP p mx one inf sg nan a x)(hc:x.c<=2):a<2*sg/\∃v,A_ inf sg a x v/\(x.c=1->jE p mx one v x.e (x.M:Int))/\(x.c≠1->x.e=0/\x.M=0):=by
 have hb:=h.bounds;rcases hx with⟨ha,v,hs,hv⟩|⟨_,rfl⟩
 ·refine⟨ha,v,?_⟩;unfold A_;rcases hv with⟨q,c,e,m⟩|⟨_,_,c,_⟩|⟨_,c,_⟩|⟨q,c,e,m⟩|⟨q0,q1,c,hn⟩
  ·exact aDl
  ·exfalso;omega
  ·exfalso;omega
  ·exact aDl
  ·exact⟨⟨om,om,om,om,om⟩,fun _=>hn,fun c'=>om⟩
 ·exfalso;dsimp only at hc;omega
theorem Y8{one nan:Int}(h:aP f p mx one inf sg nan){x y:bZ}(hx:A_ inf sg a x v)(hy:A_ inf sg b y u)(x0:0<=x.c)(y0:0<=y.c)(xc:x.c<=2)(yc:y.c<=2)
  (nx:x.c=1->jE p mx one v x.e (x.M:Int)) (zx:x.c≠1->x.e=0/\x.M=0) (ny:y.c=1->jE p mx one u y.e (y.M:Int)) (zy:y.c≠1->y.e=0/\y.M=0):Y9 x y=qB v u:=by
 obtain⟨s1,v0,v1,a1,a2⟩:=hx;obtain⟨t1,u0,u1,b1,b2⟩:=hy;have hb:=h.bounds;unfold Y9 or3;rcases Int.lt_trichotomy x.c y.c with c|c|c
 ·rw[zH c,if_pos de,zH (by omega)]
 ·rw[sW c,if_neg (by decide)];by_cases c1:x.c=1
  ·have n1:=nx c1;have n2:=ny om;rcases Int.lt_trichotomy v u with d|d|d
   ·rw[zH d];rcases GZ om om d n1 n2 with e|⟨e,e'⟩
    ·rw[zH e,if_pos (by decide)]
    ·rw[sW e,if_neg de,zH e']
   ·subst d;obtain⟨e,e'⟩:=jE.one om om n1 n2;rw[sW e,if_neg de,sW e',AY]
   ·rw[zI d];rcases GZ om om d n2 n1 with e|⟨e,e'⟩
    ·rw[zI e,if_pos (by decide)]
    ·rw[sW e.symm,if_neg de,zI e']
  ·obtain⟨e1,e2⟩:=zx c1;obtain⟨e3,e4⟩:=zy om;rw[e1,e2,e3,e4,AY,if_neg de,AY,sW (by omega)]
 ·rw[zI c,if_pos de,zI (by omega)]
theorem aGn{one nan:Int}(h:aP f p mx one inf sg nan)(a0:0<=a)(b0:0<=b){x y:bZ}(hx:bP p mx one inf sg nan a x)(hy:bP p mx one inf sg nan b y)(xc:x.c<=2)(yc:y.c<=2):
  ∃v u,A_ inf sg a x v/\A_ inf sg b y u/\Y9 x y=qB v u:=by
 obtain⟨_,v,w1,n1,z1⟩:=lW h a0 hx xc;obtain⟨_,u,w2,n2,z2⟩:=lW h b0 hy yc;exact⟨v,u,w1,w2,Y8 h w1 w2 (bQ h hx).1.c0 (bQ h hy).1.c0 xc yc n1 z1 n2 z2⟩
theorem JE{one nan:Int}(h:aP f p mx one inf sg nan):∃P:Nat,p=P+1/\one=((2^P:Nat):Int)/\P<=52:=by
 rcases h with h|h
 ·exact⟨23,om,by rw[h.2.2.2.1];decide,om⟩
 ·exact⟨52,om,by rw[h.2.2.2.1];decide,om⟩
theorem YS{one nan:Int}(h:aP f p mx one inf sg nan){u:bZ}(hu:bP p mx one inf sg nan v u)(l:Nat)(E:Int)(hE:1-mx<=E)(hl:(l:Int)<=2*one)(hb:E=1-mx\/one<=(l:Int))(hv:v=(l:Int)+one*(E-(1-mx)))(v1:v<inf):
  u.s=0/\(u.c=0\/u.c=1)/\nv u.M u.e=nv l (E-p+1):=by
 obtain⟨P,hp,ho,hP⟩:=JE h;have hb':=h.bounds;have hk0:0<=one*(E-(1-mx)):=Int.mul_nonneg om om;rcases hu with⟨_,v',hs,hv'⟩|⟨c,_⟩
 ·have hs':u.s=0/\v'=v:=om;refine⟨hs'.1,?_⟩;rw[hs'.2]at hv';rcases hv' with⟨e0,c0,_,hM⟩|⟨_,_,c0,_⟩|⟨_,c0,_⟩|⟨_,c0,_⟩|⟨v0,_,c0,hn⟩
  ·refine⟨.inl c0,?_⟩;have hl0:l=0:=om;have hM0:u.M=0:=om;rw[hl0,hM0];unfold nv;simp
  ·exfalso;omega
  ·exfalso;omega
  ·exfalso;omega
  ·refine⟨.inr c0,?_⟩;obtain⟨_,_,n0,_⟩:=BM h v0 v1 hn;obtain⟨k,m,e0,hm,hg,he,_,_⟩:=hn;obtain⟨m0,hsv⟩:=aAH l P hp ho hE hl hb hv om hm;have hM:u.M=m.toNat*2^k:=by
    have h1:((u.M:Nat):Int)=((m.toNat*2^k:Nat):Int):=by
     rw[hg,Int.natCast_mul,Int.toNat_of_nonneg m0,Int.natCast_pow];rfl
    exact Int.ofNat.inj h1
   rw[hM,he,zk _ _ _ (by omega)];exact hsv
 ·exfalso;omega
theorem aDk{P:Prop}(h:P:=by
 rcases h with⟨rfl,rfl,rfl,rfl,rfl,rfl,rfl⟩|⟨rfl,rfl,rfl,rfl,rfl,rfl,rfl⟩<;>omega):P:=h
def aN(mode:Int)(x:bZ):Nat:=chosen mode x.s (aW x.M x.e 0) (aJ x.M x.e 0 O)
def fD(x:bZ):Bool:=decide (0<aJ x.M x.e 0 O)
def nX(mode:Int)(x:bZ):bZ:=if x.c=1/\x.e<0 then(if aN mode x=0 then⟨0,x.s,0,0⟩else⟨1,x.s,0,aN mode x⟩)else x
theorem sU(M:Nat)(e q:Int)(h:q<=e):aJ M e q O=0:=by unfold aJ;rw[if_pos h];rfl
theorem vN{x:bZ}(h:0<=x.e):fD x=O:=by unfold fD;rw[sU _ _ _ h];rfl
theorem jG{x:bZ}(h:0<=x.e):aN mode x=x.M*2^x.e.toNat:=by
 unfold aN;rw[sU _ _ _ h,iM];unfold aW;rw[if_pos h,Int.sub_zero]
theorem Uk{x:bZ}(h:x.e<0)(hM:x.M<2^(P+1)):aN mode x<=2^P:=by
 have h1:=(fZ mode x.s (aW x.M x.e 0) (aJ x.M x.e 0 O)).2;have h2:aW x.M x.e 0<2^P:=by
  unfold aW;rw[if_neg om,Nat.div_lt_iff_lt_mul (Nat.pow_pos de),<-Nat.pow_add];have:=bT (show P+1<=P+(0-x.e).toNat by omega);omega
 unfold aN;omega
theorem KD{one nan:Int}(h:aP f p mx one inf sg nan)(s:Int)(M:Nat)(h0:0<M)(h1:(M:Int)<=2*one):
  ∃z,0<z/\z<inf/\∀mode,aO p (1-mx) mx one inf mode s M 0 O z 0:=by
 obtain⟨P,hP,aBW,hone⟩:=h.pow;have hone':one=((2^P:Nat):Int):=by rw[wH];exact hone
 have hsucc:2^(P+1)=2*2^P:=by rw[Nat.pow_succ];omega
 have hb:=h.bounds;have n0:=sO M h0;have hM1:M<=2^(P+1):=om;have hn:nb M<=P+2:=og (by
  rw[show P+2=(P+1)+1 from rfl,Nat.pow_succ];have:=Nat.pow_pos (n:=P+1) (show 0<2 by decide);omega)
 obtain⟨q,hq⟩:∃q:Int,(nb M:Int)+0-1-p+1=q:=⟨_,rfl⟩;have pG:aJ M 0 q O=0:=by
  by_cases c:q<=0
  ·exact sU _ _ _ c
  ·have hq1:(q-0).toNat =1:=om;have hM2:M=2^(P+1):=by
    rcases Nat.lt_or_ge M (2^(P+1))with d|d
    ·have:=og d;omega
    ·omega
   unfold aJ;rw[if_neg c,hq1];exact zq M 1 de (by rw[hM2,hsucc];omega)
 have hlo:aW M 0 q<2^(P+1):=iH M 0 q (P+1) om;have hlo0:2^P<=aW M 0 q:=rP M 0 q P h0 om;refine⟨(aW M 0 q:Nat)+one*((nb M:Int)+0-1-(1-mx)),?_,?_,fun mode=>?_⟩
 ·have:=Int.mul_nonneg (show 0<=one by omega) (show 0<=(nb M:Int)+0-1-(1-mx) by omega);omega
 ·exact aDk
 ·refine⟨(nb M:Int)+0-1,(nb M:Int)+0-1,aW M 0 q,_,0,rfl,.inr ⟨om,rfl⟩,by rw[hq,pG],by rw[hq,iM],rfl,.inr (.inr ⟨om,?_,rfl,.inl ⟨rfl,rfl⟩⟩)⟩;exact aDk
def eG(s:Int)(M:Nat):Int:=if s=1/\M≠0 then 18446744073709551616-(M:Int)else(M:Int)
theorem mM(kind s:Int):bG kind s<18446744073709551616:=by
 unfold bG
 repeat' split
 all_goals decide
theorem aFV(s:Int)(M:Nat)(h:M<18446744073709551616):0<=eG s M/\eG s M<18446744073709551616:=by unfold eG;split<;>omega
