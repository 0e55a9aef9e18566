import Derived.Test.YthoelefkjpjhfaaGreatDoorK4
import Derived.Test.YthoelefkjpjhfaaGreatDoorM2
set_option linter.all false
open Bool renaming false → V, true → U
open Go.Proofs.YthoelefkjpjhfaaGreatDoor renaming vI → J
open Go.Value renaming int → Y
open Go.IntKind renaming u64 → O
open Go.Ending renaming returned → X
open Go.Proofs.Tryz
namespace Go.Proofs.YthoelefkjpjhfaaGreatDoor
open Go.RowKit
attribute [local go_sem] aB dL
variable {p mx aN sg f aj a b Z fl mn Z' qQ v p' zq rX r_ GK rY fb sp m e g v' e' g' u t:Int}{w:ak}{K M k P:Nat}
def aIY{v:Value}(h:aK K w v M)(hK:K<=100000):nb M<=3200000:=by
 obtain⟨n,hn,hb⟩:=h;have h1:=hb.1.1;rw[<-rU]at h1;have:=vS h1;omega
def oL{one nan:Int}(h:bI f p mx one aN sg nan)(aj:Int)(m0:0<=aj)(m1:aj<=4)(o:d_)(ho:o.c=1)(hs:o.s=0\/o.s=1)(hM:0<o.M)(e0:-5000<=o.e)(e1:o.e<=5000)(K:Nat)(hK:K<=100000)(v:Value)(w:ak)(hB:aK K w v o.M):
  CT 138 #[J f,J aj,.agg #[J o.s,v,J o.e,.bool V]] w λe w'=>∃z fl,cZ p (1-mx) mx one aN sg nan aj o z fl/\e=X (aU z fl)/\Gb w w':=by
 have hn:=aIY hB hK;obtain⟨n,EH,hb⟩:=hB;refine(Ky h hb om hM hn aj o.s o.e V m0 m1 hs om om (λc=>by cases c)).mono ?_;rintro x w' ⟨z,fl,hr,z0,z1,rfl,hg⟩;exact⟨_,_,.inr (.inl ⟨ho,z,hr,rfl⟩),rfl,hg⟩
def um(R:Int->d_->d_->d_)(f aj a b Z fl:Int):Prop:=
 (∃p mx one aN sg nan x y,bI f p mx one aN sg nan/\(0<=aj/\aj<=4)/\dO p mx one aN sg nan a x/\dO p mx one aN sg nan b y/\cZ p (1-mx) mx one aN sg nan aj (R aj x y) Z fl)\/
 (∃p mx one aN sg nan,bI f p mx one aN sg nan/\(aj<0\/4<aj)/\Z=nan/\fl=1)\/
 (¬(f=0\/f=1)/\Z=9221120237041090560/\fl=1)
def fQ(f:Int)(h:f=0\/f=1):∃p mx one aN sg nan,bI f p mx one aN sg nan:=by
 rcases h with rfl|rfl
 .exact⟨_,_,_,_,_,_,.inl ⟨rfl,rfl,rfl,rfl,rfl,rfl,rfl⟩⟩
 .exact⟨_,_,_,_,_,_,.inr ⟨rfl,rfl,rfl,rfl,rfl,rfl,rfl⟩⟩
def bI.one{one nan:Int}(h:bI f p mx one aN sg nan)(h':bI f p' zq rX r_ GK rY):p=p'/\mx=zq/\one=rX/\aN=r_/\sg=GK/\nan=rY:=by
 rcases h with⟨rfl,rfl,rfl,rfl,rfl,rfl,rfl⟩|⟨rfl,rfl,rfl,rfl,rfl,rfl,rfl⟩<;>rcases h' with⟨e,rfl,rfl,rfl,rfl,rfl,rfl⟩|⟨e,rfl,rfl,rfl,rfl,rfl,rfl⟩
 .exact⟨rfl,rfl,rfl,rfl,rfl,rfl⟩
 .cases e
 .cases e
 .exact⟨rfl,rfl,rfl,rfl,rfl,rfl⟩
def um.one{R:Int->d_->d_->d_}(h:um R f aj a b Z fl)(h':um R f aj a b Z' qQ):Z=Z'/\fl=qQ:=by
 rcases h with⟨p,mx,one,aN,sg,nan,x,y,hF,hm,hx,hy,hp⟩|⟨p,mx,one,aN,sg,nan,hF,hm,rfl,rfl⟩|⟨hF,rfl,rfl⟩<;>
 rcases h' with⟨p',zq,rX,r_,GK,rY,x',y',oC,KD,O8,ZI,SY⟩|⟨p',zq,rX,r_,GK,rY,oC,KD,rfl,rfl⟩|⟨oC,rfl,rfl⟩
 .obtain⟨rfl,rfl,rfl,rfl,rfl,rfl⟩:=hF.one oC;obtain rfl:=hx.one hF O8;obtain rfl:=hy.one hF ZI;exact cZ.one hp SY
 .exfalso;omega
 .exact bG hF.yes.symm (by simp[oC])
 .exfalso;omega
 .obtain⟨rfl,rfl,rfl,rfl,rfl,rfl⟩:=hF.one oC;exact⟨rfl,rfl⟩
 .exact bG hF.yes.symm (by simp[oC])
 .exact bG oC.yes.symm (by simp[hF])
 .exact bG oC.yes.symm (by simp[hF])
 .exact⟨rfl,rfl⟩
def BQ(p mn mx one aN sg nan aj:Int)(o:d_)(c0:0<=o.c)(c4:o.c<=4):∃Z fl,cZ p mn mx one aN sg nan aj o Z fl:=by
 rcases(om:o.c=0\/o.c=1\/o.c=2\/o.c=3\/o.c=4)with c|c|c|c|c
 .exact⟨_,_,.inl ⟨c,rfl,rfl⟩⟩
 .obtain⟨z,fl,hr⟩:=aGW p mn mx one aN aj o.s o.M o.e V;exact⟨_,_,.inr (.inl ⟨c,z,hr,rfl⟩)⟩
 .exact⟨_,_,.inr (.inr (.inl ⟨c,rfl,rfl⟩))⟩
 .exact⟨_,_,.inr (.inr (.inr (.inl ⟨c,rfl,rfl⟩)))⟩
 .exact⟨_,_,.inr (.inr (.inr (.inr ⟨c,rfl,rfl⟩)))⟩
def fH{one nan:Int}(h:bI f p mx one aN sg nan)(a:Int)(a0:0<=a)(a1:aI a):∃x,dO p mx one aN sg nan a x:=by
 obtain⟨mn,fb,sp,hm,_,_⟩:=h.m;obtain⟨x,hx,_⟩:=jP h hm a a0 a1;exact⟨x,hx⟩
def VP(R:Int->d_->d_->d_)(S I:Nat)(hR:∀aj x y,VO x->VO y->nb x.M<=53->nb y.M<=53->-2000<=x.e->x.e<=2000->-2000<=y.e->y.e<=2000->0<=(R aj x y).c /\(R aj x y).c <=4)(f aj a b:Int)(a0:0<=a)(a1:aI a)(b0:0<=b)(b1:aI b)
  (hs:∀w,Calls prog S #[J f,J aj,Y O a,Y O b] w λe w'=>∃Z fl,um R f aj a b Z fl/\e=X (aU Z fl)/\Gb w w')
  (hi:∀w,Fm w->Calls prog I #[J f,J aj,Y O a,Y O b] w λe w'=>∃Z fl,um R f aj a b Z fl/\e=X (aU Z fl)/\Gr w w'):
  ∃Z fl:Int,um R f aj a b Z fl/\(∀w,Calls prog S #[J f,J aj,Y O a,Y O b] w λe w'=>e=X (aU Z fl)/\Gb w w')/\
   (∀w,Fm w->Calls prog I #[J f,J aj,Y O a,Y O b] w λe w'=>e=X (aU Z fl)/\Gr w w'):=by
 have hex:∃Z fl:Int,um R f aj a b Z fl:=by
  by_cases hf:f=0\/f=1
  .obtain⟨p,mx,one,aN,sg,nan,hF⟩:=fQ f hf;by_cases hm:0<=aj/\aj<=4
   .obtain⟨x,hx⟩:=fH hF a a0 a1;obtain⟨y,hy⟩:=fH hF b b0 b1;obtain⟨v1,v2,v3,v4,v5,v6⟩:=bU hF hx;obtain⟨u1,u2,u3,u4,u5,u6⟩:=bU hF hy;obtain⟨r1,r2⟩:=hR aj x y v1 u1 v6 u6 v4 v5 u4 u5;obtain⟨Z,fl,hp⟩:=BQ p (1-mx) mx one aN sg nan aj _ r1 r2;exact⟨Z,fl,.inl ⟨p,mx,one,aN,sg,nan,x,y,hF,hm,hx,hy,hp⟩⟩
   .exact⟨_,_,.inr (.inl ⟨p,mx,one,aN,sg,nan,hF,om,rfl,rfl⟩)⟩
  .exact⟨_,_,.inr (.inr ⟨hf,rfl,rfl⟩)⟩
 obtain⟨Z,fl,h⟩:=hex;refine⟨Z,fl,h,λw=>(hs w).mono ?_,λw hw=>(hi w hw).mono ?_⟩
 .rintro e w' ⟨Z',qQ,h',rfl,hg⟩;obtain⟨rfl,rfl⟩:=um.one h h';exact⟨rfl,hg⟩
 .rintro e w' ⟨Z',qQ,h',rfl,hg⟩;obtain⟨rfl,rfl⟩:=um.one h h';exact⟨rfl,hg⟩
def ji{one nan:Int}(h:bI f p mx one aN sg nan)(a:Int)(a0:0<=a)(a1:a<2*sg){x:d_}(hx:dO p mx one aN sg nan a x):Hid (∀w,QR 126 #[J f,Y O a] w (fG x.c x.s x.e (((x.M:Nat):Int)))):=λw=>by
 rcases hx with⟨_,hu⟩|⟨c,_⟩
 .refine(NJ h a a0 a1 w).mono ?_;rintro e w' ⟨c,s,x',g,hu',rfl,hg⟩;obtain⟨rfl,rfl,rfl,rfl⟩:=gX.one h hu hu';exact⟨rfl,hg⟩
 .exfalso;omega
def jM{one nan:Int}(h:bI f p mx one aN sg nan){x:d_}(hx:dO p mx one aN sg nan a x)(hw:2*sg<=a):x=⟨4,0,0,0⟩:=by
 rcases hx with⟨c,_⟩|⟨_,rfl⟩
 .exfalso;omega
 .rfl
def tJ{one nan:Int}(h:bI f p mx one aN sg nan)(a1:aI a)(b1:aI b)(hn:2*sg<=a\/2*sg<=b):aJi f aj a b:=by
 unfold aJi;rcases h with⟨rfl,rfl,rfl,rfl,rfl,rfl,rfl⟩|⟨rfl,rfl,rfl,rfl,rfl,rfl,rfl⟩
 .rcases hn with h|h
  .exact .inr (.inr (.inl ⟨rfl,om⟩))
  .exact .inr (.inr (.inr ⟨rfl,om⟩))
 .exfalso;omega
def jI{one nan:Int}{o:d_}(ho:o.c=4):cZ p mn mx one aN sg nan aj o nan 1:=.inr (.inr (.inr (.inr ⟨ho,rfl,rfl⟩)))
def qC{one nan:Int}(m:Int)(t:Bool)(h:t=decide (m=4))(h3:3<=m)(h4:m<=4):cZ p mn mx one aN sg nan aj ⟨m,0,0,0⟩ nan (if t then 1 else 0):=by
 by_cases c:m=4
 .rw[h,h_ c];exact .inr (.inr (.inr (.inr ⟨c,rfl,rfl⟩)))
 .rw[h,decide_eq_false c];exact .inr (.inr (.inr (.inl ⟨by dsimp only;omega,rfl,rfl⟩)))
def bq(c k:Int):(c==k)=decide (c=k):=by by_cases h:c=k<;>simp[h]
structure aNF (p mn mx md:Int) (k:Nat) (w wx:ak) (sx ax Ah Al sy ay Bh Bl:Int):Prop where
 g:Gr w wx:=by exact kr
 s0:aB wx w.heap.size 0 (J p):=by exact kl
 s1:aB wx w.heap.size 1 (J mn):=by exact kl
 s2:aB wx w.heap.size 2 (J mx):=by exact kl
 s3:aB wx w.heap.size 3 (J md):=by exact kl
 s4:aB wx w.heap.size 4 (.func (.func k) #[] #[]):=by exact kl
 x0:aB wx (w.heap.size+1) 0 (J sx):=by exact kl
 xz0:dL wx (w.heap.size+1) 0:=by exact kl
 x1:aB wx (w.heap.size+1) 1 (J ax):=by exact kl
 xz1:dL wx (w.heap.size+1) 1:=by exact kl
 x2:aB wx (w.heap.size+1) 2 (J 1):=by exact kl
 xz2:dL wx (w.heap.size+1) 2:=by exact kl
 x3:aB wx (w.heap.size+1) 3 (Y O Ah):=by exact kl
 xz3:dL wx (w.heap.size+1) 3:=by exact kl
 x4:aB wx (w.heap.size+1) 4 (Y O Al):=by exact kl
 xz4:dL wx (w.heap.size+1) 4:=by exact kl
 x5:aB wx (w.heap.size+1) 5 (.bool V):=by exact kl
 xz5:dL wx (w.heap.size+1) 5:=by exact kl
 x6:aB wx (w.heap.size+1) 6 (J 0):=by exact kl
 xz6:dL wx (w.heap.size+1) 6:=by exact kl
 y0:aB wx (w.heap.size+1+1) 0 (J sy):=by exact kl
 yz0:dL wx (w.heap.size+1+1) 0:=by exact kl
 y1:aB wx (w.heap.size+1+1) 1 (J ay):=by exact kl
 yz1:dL wx (w.heap.size+1+1) 1:=by exact kl
 y2:aB wx (w.heap.size+1+1) 2 (J 1):=by exact kl
 yz2:dL wx (w.heap.size+1+1) 2:=by exact kl
 y3:aB wx (w.heap.size+1+1) 3 (Y O Bh):=by exact kl
 yz3:dL wx (w.heap.size+1+1) 3:=by exact kl
 y4:aB wx (w.heap.size+1+1) 4 (Y O Bl):=by exact kl
 yz4:dL wx (w.heap.size+1+1) 4:=by exact kl
 y5:aB wx (w.heap.size+1+1) 5 (.bool V):=by exact kl
 yz5:dL wx (w.heap.size+1+1) 5:=by exact kl
 y6:aB wx (w.heap.size+1+1) 6 (J 0):=by exact kl
 yz6:dL wx (w.heap.size+1+1) 6:=by exact kl
 r0:aB wx (w.heap.size+1+1+1) 0 (J 0):=by exact kl
 rz0:dL wx (w.heap.size+1+1+1) 0:=by exact kl
 r1:aB wx (w.heap.size+1+1+1) 1 (J 0):=by exact kl
 rz1:dL wx (w.heap.size+1+1+1) 1:=by exact kl
 r2:aB wx (w.heap.size+1+1+1) 2 (J 0):=by exact kl
 rz2:dL wx (w.heap.size+1+1+1) 2:=by exact kl
 r3:aB wx (w.heap.size+1+1+1) 3 (Y O 0):=by exact kl
 rz3:dL wx (w.heap.size+1+1+1) 3:=by exact kl
 r4:aB wx (w.heap.size+1+1+1) 4 (Y O 0):=by exact kl
 rz4:dL wx (w.heap.size+1+1+1) 4:=by exact kl
 r5:aB wx (w.heap.size+1+1+1) 5 (.bool V):=by exact kl
 rz5:dL wx (w.heap.size+1+1+1) 5:=by exact kl
 r6:aB wx (w.heap.size+1+1+1) 6 (J 0):=by exact kl
 rz6:dL wx (w.heap.size+1+1+1) 6:=by exact kl
set_option maxRecDepth 1000000
set_option maxHeartbeats 40000000
def PO(p mn mx md:Int)(k:Nat)(sx ex cx xh xl sy ey cy yh yl:Int)(tx ty:Bool)(z:Int)(hz:bits .xor .i64 sy 1=z)(Q:Int->Int->Int->Int->Int->Bool->Prop)(HT:Hid (∀w,CT 82 #[eu p mn mx md k,bP sx ex cx xh xl tx 0,bP z ey cy yh yl ty 0] w λe w'=>∃os oe oc oh ol ot,Q os oe oc oh ol ot/\e=X (bP os oe oc oh ol ot 0)/\Gr w w'))(w:ak):
  CT 83 #[eu p mn mx md k,bP sx ex cx xh xl tx 0,bP sy ey cy yh yl ty 0] w λe w'=>∃os oe oc oh ol ot,Q os oe oc oh ol ot/\e=X (bP os oe oc oh ol ot 0)/\Gr w w':=by
 go_enter func83,ntmps83;go_wp2_with (go_at_call 82;refine(HT _).mono ?_;rintro e w1 ⟨os,oe,oc,oh,ol,ot,hq,rfl,au⟩;have iy:=au.ql w);refine gY (v:=bP os oe oc oh ol ot 0) (by simp[results,results83,go_sem,iy]) rfl ⟨os,oe,oc,oh,ol,ot,hq,rfl,?_⟩;exact Gr.g
def Ez(p mn mx md:Int)(k:Nat)(sx ex cx xh xl sy ey cy yh yl:Int)(tx ty:Bool)(m:Int)(hm:max cx cy=m)(h3:m<3)(Q:Int->Int->Int->Int->Int->Bool->Prop)(HO:Hid (∀w,CT 83 #[eu p mn mx md k,bP sx ex cx xh xl tx 0,bP sy ey cy yh yl ty 0] w λe w'=>∃os oe oc oh ol ot,Q os oe oc oh ol ot/\e=X (bP os oe oc oh ol ot 0)/\Gr w w'))(w:ak):
  CT 173 #[eu p mn mx md k,.func (.func 83) #[] #[],bP sx ex cx xh xl tx 0,bP sy ey cy yh yl ty 0] w λe w'=>∃os oe oc oh ol ot,Q os oe oc oh ol ot/\e=X (bP os oe oc oh ol ot 0)/\Gr w w':=by
 go_enter func173,ntmps173;go_wp2_with (go_at_call 83;refine(HO _).mono ?_;rintro e w1 ⟨os,oe,oc,oh,ol,ot,hq,rfl,au⟩;have iy:=au.ql w);refine gY (v:=bP os oe oc oh ol ot 0) (by simp[results,results173,go_sem,iy]) rfl ⟨os,oe,oc,oh,ol,ot,hq,rfl,?_⟩;exact Gr.g
def aBq(f aj a b:Int)(R:Int->Int->Prop)(HC:Hid (∀w',Gr w w'->CT 81 #[J f,J aj,.func (.func 83) #[] #[],Y O a,Y O b] w' (yG R w'))):
  CT 27 #[J f,J aj,Y O a,Y O b] w (yG R w):=by
 go_enter func27,ntmps27;go_wp2_with (go_at_call 81;refine(HC _ Gr.g).mono ?_;rintro e w1 ⟨z,fl,hr,rfl,au⟩;have iy:=au.bK w);refine gY (v:=aU z fl) (by simp[results,results27,go_sem,iy]) rfl ⟨z,fl,hr,rfl,?_⟩;exact Gr.g
def qK(p mn mx one aN sg nan aj:Int)(o:d_)(Z fl:Int):Prop:=cZ p mn mx one aN sg nan aj o Z fl\/o.c=5/\Z=sw o.s sg aN/\fl=2
def cZ.c4{one nan:Int}{o:d_}(h:cZ p mn mx one aN sg nan aj o Z fl):o.c<=4:=by
 rcases h with⟨h,_⟩|⟨h,_⟩|⟨h,_⟩|⟨h,_⟩|⟨h,_⟩<;>omega
def qK.one{one nan:Int}{o:d_}(h:qK p mn mx one aN sg nan aj o Z fl)(h':qK p mn mx one aN sg nan aj o Z' qQ):Z=Z'/\fl=qQ:=by
 rcases h with h|⟨c,rfl,rfl⟩<;>rcases h' with h'|⟨c',rfl,rfl⟩
 .exact cZ.one h h'
 .have:=h.c4;exfalso;omega
 .have:=h'.c4;exfalso;omega
 .exact⟨rfl,rfl⟩
def pz(R:Int->Int->d_->d_->d_)(f aj a b Z fl:Int):Prop:=
 (∃p mx one aN sg nan x y,bI f p mx one aN sg nan/\(0<=aj/\aj<=4)/\dO p mx one aN sg nan a x/\dO p mx one aN sg nan b y/\qK p (1-mx) mx one aN sg nan aj (R p aj x y) Z fl)\/
 (∃p mx one aN sg nan,bI f p mx one aN sg nan/\(aj<0\/4<aj)/\Z=nan/\fl=1)\/
 (¬(f=0\/f=1)/\Z=9221120237041090560/\fl=1)
def pz.one{R:Int->Int->d_->d_->d_}(h:pz R f aj a b Z fl)(h':pz R f aj a b Z' qQ):Z=Z'/\fl=qQ:=by
 rcases h with⟨p,mx,one,aN,sg,nan,x,y,hF,hm,hx,hy,hp⟩|⟨p,mx,one,aN,sg,nan,hF,hm,rfl,rfl⟩|⟨hF,rfl,rfl⟩<;>
 rcases h' with⟨p',zq,rX,r_,GK,rY,x',y',oC,KD,O8,ZI,SY⟩|⟨p',zq,rX,r_,GK,rY,oC,KD,rfl,rfl⟩|⟨oC,rfl,rfl⟩
 .obtain⟨rfl,rfl,rfl,rfl,rfl,rfl⟩:=hF.one oC;obtain rfl:=hx.one hF O8;obtain rfl:=hy.one hF ZI;exact qK.one hp SY
 .exfalso;omega
 .exact bG hF.yes.symm (by simp[oC])
 .exfalso;omega
 .obtain⟨rfl,rfl,rfl,rfl,rfl,rfl⟩:=hF.one oC;exact⟨rfl,rfl⟩
 .exact bG hF.yes.symm (by simp[oC])
 .exact bG oC.yes.symm (by simp[hF])
 .exact bG oC.yes.symm (by simp[hF])
 .exact⟨rfl,rfl⟩
def P8(R:Int->Int->d_->d_->d_)(S I:Nat)(args:Array Value)(hR:∀p aj x y,VO x->VO y->0<=(R p aj x y).c /\(R p aj x y).c <=5)(f aj a b:Int)(a0:0<=a)(a1:aI a)(b0:0<=b)(b1:aI b)
  (hs:∀w,Calls prog S args w λe w'=>∃Z fl,pz R f aj a b Z fl/\e=X (aU Z fl)/\Gb w w')
  (hi:∀w,Fm w->Calls prog I args w λe w'=>∃Z fl,pz R f aj a b Z fl/\e=X (aU Z fl)/\Gr w w'):
  ∃Z fl:Int,pz R f aj a b Z fl/\(∀w,Calls prog S args w λe w'=>e=X (aU Z fl)/\Gb w w')/\
   (∀w,Fm w->Calls prog I args w λe w'=>e=X (aU Z fl)/\Gr w w'):=by
 have hex:∃Z fl:Int,pz R f aj a b Z fl:=by
  by_cases hf:f=0\/f=1
  .obtain⟨p,mx,one,aN,sg,nan,hF⟩:=fQ f hf;by_cases hm:0<=aj/\aj<=4
   .obtain⟨x,hx⟩:=fH hF a a0 a1;obtain⟨y,hy⟩:=fH hF b b0 b1;obtain⟨r1,r2⟩:=hR p aj x y (bU hF hx).1 (bU hF hy).1;by_cases h5:(R p aj x y).c =5
    .exact⟨_,_,.inl ⟨p,mx,one,aN,sg,nan,x,y,hF,hm,hx,hy,.inr ⟨h5,rfl,rfl⟩⟩⟩
    .obtain⟨Z,fl,hp⟩:=BQ p (1-mx) mx one aN sg nan aj _ r1 om;exact⟨Z,fl,.inl ⟨p,mx,one,aN,sg,nan,x,y,hF,hm,hx,hy,.inl hp⟩⟩
   .exact⟨_,_,.inr (.inl ⟨p,mx,one,aN,sg,nan,hF,om,rfl,rfl⟩)⟩
  .exact⟨_,_,.inr (.inr ⟨hf,rfl,rfl⟩)⟩
 obtain⟨Z,fl,h⟩:=hex;refine⟨Z,fl,h,λw=>(hs w).mono ?_,λw hw=>(hi w hw).mono ?_⟩
 .rintro e w' ⟨Z',qQ,h',rfl,hg⟩;obtain⟨rfl,rfl⟩:=pz.one h h';exact⟨rfl,hg⟩
 .rintro e w' ⟨Z',qQ,h',rfl,hg⟩;obtain⟨rfl,rfl⟩:=pz.one h h';exact⟨rfl,hg⟩
def mV(p:Int)(o:d_)(os oe oc oh ol:Int)(ot:Bool)(of:Int):Prop:=
 (∃M:Nat,oh=((M/18446744073709551616:Nat):Int)/\ol=((M%18446744073709551616:Nat):Int)/\of=0/\o.c=oc/\0<=oc/\oc<=4/\(oc<=2->o.s=os/\(os=0\/os=1))/\
  (oc=1->0<M/\M<340282366920938463463374607431768211456/\(ot=U->p+2<=(nb M:Int))/\-100000<=oe/\oe<=100000/\∀mn mx one aN aj z fl,bM p mn mx one aN aj os M oe ot z fl↔bM p mn mx one aN aj os o.M o.e V z fl))\/
 (o.c=5/\oc=2/\o.s=os/\(os=0\/os=1)/\of=2)\/
 (o.c=0/\oc=1/\oh=0/\ol=0/\o.s=os/\(os=0\/os=1)/\of=0/\-100000<=oe/\oe<=100000)
def mV.nan(p m:Int)(h0:3<=m)(h1:m<=4):mV p ⟨m,0,0,0⟩ 0 0 m 0 0 V 0:=
 .inl ⟨0,rfl,rfl,rfl,rfl,om,h1,λc=>⟨rfl,.inl rfl⟩,λc=>om⟩
def mV.flat(p:Int)(o:d_)(os oe oc:Int)(ot:Bool)(hc:o.c=oc)(c0:0<=oc)(c4:oc<=4)(c1:oc≠1)(hs:oc<=2->o.s=os/\(os=0\/os=1)):mV p o os oe oc 0 0 ot 0:=
 .inl ⟨0,rfl,rfl,rfl,hc,c0,c4,hs,λc=>bG c c1⟩
def mV.self(p:Int){x:d_}(h:VO x):mV p x x.s x.e x.c ((x.M/18446744073709551616:Nat):Int) ((x.M%18446744073709551616:Nat):Int) V 0:=
 .inl ⟨x.M,rfl,rfl,rfl,rfl,h.c0,h.c4,λ_=>⟨rfl,h.lD⟩,λc=>by
  obtain⟨a,b⟩:=h.fin c;have:=h.e0;have:=h.e1;exact⟨a,aCr _ b,(λt=>by cases t),om,om,λ_ _ _ _ _ _ _=>Iff.rfl⟩⟩
def Ht{one nan:Int}(hm:zo p mn mx fb sp one aN sg nan)(md:Int)(k:Nat)(hk:zT md k)(o:d_)(os oe oc oh ol:Int)(ot:Bool)(of:Int)(h:mV p o os oe oc oh ol ot of)(w:ak):
  CT 172 #[eu p mn mx md k,bP os oe oc oh ol ot of] w λe w'=>∃z fl,qK p mn mx one aN sg nan md o z fl/\e=X (aU z fl)/\Gr w w':=by
 have hp:p<=53/\0<=p:=by rcases hm with h|h<;>omega
 rcases h with⟨M,rfl,rfl,rfl,hc,c0,c4,hs,h1⟩|⟨hc,rfl,hs,aOS,rfl⟩|⟨hc,rfl,rfl,rfl,hs,aOS,rfl,e0,e1⟩
 .rcases(om:oc=0\/oc=1\/oc=2\/oc=3\/oc=4)with rfl|rfl|rfl|rfl|rfl
  .obtain⟨s1,s2⟩:=hs om;refine(aHm p mn mx md k os oe _ _ ot (sw os sg 0) (λw=>oK hm os _ ?_ w) w).mono ?_
   .rcases s2 with rfl|rfl
    .exact .inl ⟨rfl,by simp[sw]⟩
    .exact .inr ⟨rfl,by simp[sw]⟩
   .rintro r w' ⟨rfl,hg⟩;exact⟨_,_,.inl (.inl ⟨hc,by rw[s1],rfl⟩),rfl,hg⟩
  .obtain⟨s1,s2⟩:=hs om;obtain⟨m0,m1,m2,e0,e1,m3⟩:=h1 rfl;refine(aAZ p mn mx md k os oe _ _ ot (λz fl=>∃z0,bM p mn mx one aN md os M oe ot z0 fl/\z=sw os sg z0) (λz fl ⟨_,h,_⟩=>h.fl) (λw=>?_) w).mono ?_
   .refine(BO hm md md k hk os s2 oe e0 e1 M m0 m1 ot m2 w).mono ?_;rintro r w' ⟨z,fl,hr,rfl,hg⟩;exact⟨_,_,⟨z,hr,aCj _ _ _⟩,rfl,hg⟩
   .rintro r w' ⟨z,fl,⟨z0,hr,rfl⟩,rfl,hg⟩;refine⟨_,_,.inl (.inr (.inl ⟨hc,z0,?_,by rw[s1]⟩)),rfl,hg⟩;rw[s1];exact(m3 mn mx one aN md z0 fl).1 hr
  .obtain⟨s1,s2⟩:=hs om;refine(aHl p mn mx md k os oe _ _ ot (sw os sg aN) (λw=>ou hm os _ ?_ w) w).mono ?_
   .rcases s2 with rfl|rfl
    .exact .inl ⟨rfl,by simp[sw]⟩
    .exact .inr ⟨rfl,by simp[sw];omega⟩
   .rintro r w' ⟨rfl,hg⟩;exact⟨_,_,.inl (.inr (.inr (.inl ⟨hc,by rw[s1],rfl⟩))),rfl,hg⟩
  .refine(aHk p mn mx md k os oe _ _ ot nan (λw=>MK hm w) w).mono ?_;rintro r w' ⟨rfl,hg⟩;exact⟨_,_,.inl (.inr (.inr (.inr (.inl ⟨hc,rfl,rfl⟩)))),rfl,hg⟩
  .refine(aHj p mn mx md k os oe _ _ ot nan (λw=>dF hm w) w).mono ?_;rintro r w' ⟨rfl,hg⟩;exact⟨_,_,.inl (.inr (.inr (.inr (.inr ⟨hc,rfl,rfl⟩)))),rfl,hg⟩
 .refine(aCt p mn mx md k os oe _ _ ot 2 (sw os sg aN) (λw=>ou hm os _ ?_ w) w).mono ?_
  .rcases aOS with rfl|rfl
   .exact .inl ⟨rfl,by simp[sw]⟩
   .exact .inr ⟨rfl,by simp[sw];omega⟩
  .rintro r w' ⟨rfl,hg⟩;exact⟨_,_,.inr ⟨hc,by rw[hs],rfl⟩,rfl,hg⟩
 .refine(aAZ p mn mx md k os oe _ _ ot (λz fl=>z=sw os sg 0/\fl=0) (λz fl h=>.inl h.2) (λw=>?_) w).mono ?_
  .refine(UC hm md k os oe ot om om (sw os sg 0) (λw=>oK hm os _ ?_ w) w).mono ?_
   .rcases aOS with rfl|rfl
    .exact .inl ⟨rfl,by simp[sw]⟩
    .exact .inr ⟨rfl,by simp[sw]⟩
   .rintro r w' ⟨rfl,hg⟩;exact⟨_,_,⟨rfl,rfl⟩,rfl,hg⟩
  .rintro r w' ⟨z,fl,⟨rfl,rfl⟩,rfl,hg⟩;exact⟨_,_,.inl (.inl ⟨hc,by rw[hs],rfl⟩),rfl,hg⟩
def sS{one nan:Int}(h:bI f p mx one aN sg nan){x:d_}(hx:dO p mx one aN sg nan a x)(hc:x.c=1):∃P:Nat,(P:Int)=p/\1<=P/\P<=53/\2^(P-1)<=x.M/\x.M<2^P:=by
 rcases hx with⟨_,hu⟩|⟨_,rfl⟩
 .obtain⟨h1,h2,h3,h4,h5,h6,h7,h8,h9⟩:=sN h hu;have h10:=h8 hc;rcases h with⟨rfl,rfl,rfl,rfl,rfl,rfl,rfl⟩|⟨rfl,rfl,rfl,rfl,rfl,rfl,rfl⟩
  .have q1:2^(24-1)=8388608:=de;have q2:2^24=16777216:=de;exact⟨24,rfl,de,de,om,om⟩
  .have q1:2^(53-1)=4503599627370496:=de;have q2:2^53=9007199254740992:=de;exact⟨53,rfl,de,de,om,om⟩
 .cases hc
def Hl{one nan:Int}(h:bI f p mx one aN sg nan)(aj:Int)(m0:0<=aj)(m1:aj<=4)(o:d_)(ho:o.c=1)(hs:o.s=0\/o.s=1)(m:Nat)(hM:0<m)(e:Int)(e0:-5000<=e)(e1:e<=5000)(t:Bool)(hn:p+2<=(nb m:Int))(heq:∀mn mx one aN aj z fl,bM p mn mx one aN aj o.s m e t z fl↔bM p mn mx one aN aj o.s o.M o.e V z fl)(K:Nat)(hK:K<=100000)(v:Value)(w:ak)(hB:aK K w v m):
  CT 138 #[J f,J aj,.agg #[J o.s,v,J e,.bool t]] w λx w'=>∃z fl,qK p (1-mx) mx one aN sg nan aj o z fl/\x=X (aU z fl)/\Gb w w':=by
 have Vo:=aIY hB hK;obtain⟨n,EH,hb⟩:=hB;refine(Ky h hb om hM Vo aj o.s e t m0 m1 hs om om (λc=>om)).mono ?_;rintro x w' ⟨z,fl,hr,z0,z1,rfl,hg⟩;exact⟨_,_,.inl (.inr (.inl ⟨ho,z,(heq _ _ _ _ _ _ _).1 hr,rfl⟩)),rfl,hg⟩
def aMD{P:Prop}(h:P:=by
 exact⟨⟨om,om,om,om,om⟩,λc'=>om,λ_=>⟨e,om⟩⟩):P:=h
def Q_(x y:d_):Int:=or3 (mM x.c y.c) (mM x.e y.e) (mM (x.M:Int) (y.M:Int))
def qO(x y:d_):Int:=if x.s≠y.s then y.s-x.s else if x.s=1 then-Q_ x y else Q_ x y
def XI{a b:Nat}(h:a<=b):(2:Int)^a<=2^b:=by
 have:=gZ h;have e1:((2^a:Nat):Int)<=((2^b:Nat):Int):=om;rw[oM,oM]at e1;exact e1
def U0{one:Int}(o0:0<one)(hm:one<=m)(hg:m*2^k<2*one):k=0:=by
 rcases jL k with c|c
 .exact c
 .exfalso;have h2:=XI (om:1<=k);rw[Int.pow_one]at h2;have:=Yv h2 (om:0<=m);omega
def SB{one:Int}(o0:0<one)(v0:0<v)(h:v<v')(hn:nX p mx one v e g)(EH:nX p mx one v' e' g'):e<e'\/e=e'/\g<g':=by
 obtain⟨k,m,e0,hm,hg,he,h1,h2⟩:=hn;obtain⟨k',m',e0',KD,dY,he',h1',h2'⟩:=EH;have Qv:=Int.emod_nonneg v (om:one≠0);have aV1:=Int.emod_nonneg v' (om:one≠0);have wz:=Int.emod_lt_of_pos v o0;have aOU:=Int.emod_lt_of_pos v' o0;rcases hm with⟨c,rfl,rfl⟩|⟨c,rfl,rfl⟩
 .rcases KD with⟨c',rfl,rfl⟩|⟨c',rfl,rfl⟩
  .rcases Oz k k' with d|d|d
   .exfalso;have a1:=XI (om:k+1<=k');have a2:=Yv a1 (om:0<=m');rw[Int.pow_succ,<-Int.mul_assoc]at a2;have a3:=Int.mul_le_mul_of_nonneg_right (om:m<=m') (show(0:Int)<=2^k from Int.le_of_lt (Int.pow_pos de));omega
   .subst d;have a3:=Int.mul_lt_mul_of_pos_right h (show(0:Int)<2^k from Int.pow_pos de);exact .inr ⟨om,om⟩
   .exact .inl om
  .have k1:1<=k:=by
    rcases jL k with d|d
    .subst d;rw[Int.pow_zero]at hg;omega
    .exact d
   have EI:=U0 o0 (om:one<=v'%one+one) om (k:=k');have:=Int.le_ediv_of_mul_le o0 (om:1*one<=v');exact .inl om
 .rcases KD with⟨c',rfl,rfl⟩|⟨c',rfl,rfl⟩
  .exfalso;omega
  .have hk:=U0 o0 (om:one<=v%one+one) om (k:=k);have EI:=U0 o0 (om:one<=v'%one+one) om (k:=k');subst hk EI;rw[Int.pow_zero,Int.mul_one]at hg dY;have d1:=Int.ediv_le_ediv o0 (om:v<=v');have m1:=Int.ediv_mul_add_emod v one;have m2:=Int.ediv_mul_add_emod v' one;by_cases q:v/one=v'/one
   .rw[q]at m1 he;exact .inr ⟨om,om⟩
   .exact .inl om
def IJ(aN sg a:Int)(x:d_)(v:Int):Prop:=(x.s=0/\a=v\/x.s=1/\a=v+sg)/\0<=v/\v<=aN/\(x.c=0↔v=0)/\(x.c=2↔v=aN)
def zD{one nan:Int}(h:bI f p mx one aN sg nan)(a0:0<=a){x:d_}(hx:dO p mx one aN sg nan a x)(hc:x.c<=2):a<2*sg/\∃v,IJ aN sg a x v/\(x.c=1->nX p mx one v x.e (x.M:Int))/\(x.c≠1->x.e=0/\x.M=0):=by
 have hb:=h.bounds;rcases hx with⟨ha,v,hs,hv⟩|⟨_,rfl⟩
 .refine⟨ha,v,?_⟩;unfold IJ;rcases hv with⟨q,c,e,m⟩|⟨_,_,c,_⟩|⟨_,c,_⟩|⟨q,c,e,m⟩|⟨q0,q1,c,hn⟩
  .exact aMD
  .exfalso;omega
  .exfalso;omega
  .exact aMD
  .exact⟨⟨om,om,om,om,om⟩,λ_=>hn,λc'=>om⟩
 .exfalso;dsimp only at hc;omega
def aHJ{one nan:Int}(h:bI f p mx one aN sg nan){x y:d_}(hx:IJ aN sg a x v)(hy:IJ aN sg b y u)(x0:0<=x.c)(y0:0<=y.c)(xc:x.c<=2)(yc:y.c<=2)
  (nx:x.c=1->nX p mx one v x.e (x.M:Int)) (zx:x.c≠1->x.e=0/\x.M=0) (ny:y.c=1->nX p mx one u y.e (y.M:Int)) (zy:y.c≠1->y.e=0/\y.M=0):Q_ x y=mM v u:=by
 obtain⟨s1,v0,v1,a1,a2⟩:=hx;obtain⟨t1,u0,u1,b1,b2⟩:=hy;have hb:=h.bounds;unfold Q_ or3;rcases Int.lt_trichotomy x.c y.c with c|c|c
 .rw[zO c,aQ de,zO (by omega)]
 .rw[xB c,aH (by decide)];by_cases c1:x.c=1
  .have n1:=nx c1;have n2:=ny om;rcases Int.lt_trichotomy v u with d|d|d
   .rw[zO d];rcases SB om om d n1 n2 with e|⟨e,e'⟩
    .rw[zO e,aQ (by decide)]
    .rw[xB e,aH de,zO e']
   .subst d;obtain⟨e,e'⟩:=nX.one om om n1 n2;rw[xB e,aH de,xB e',y8]
   .rw[zQ d];rcases SB om om d n2 n1 with e|⟨e,e'⟩
    .rw[zQ e,aQ (by decide)]
    .rw[xB e.symm,aH de,zQ e']
  .obtain⟨e1,e2⟩:=zx c1;obtain⟨e3,e4⟩:=zy om;rw[e1,e2,e3,e4,y8,aH de,y8,xB (by omega)]
 .rw[zQ c,aQ de,zQ (by omega)]
def XT{one nan:Int}(h:bI f p mx one aN sg nan)(a0:0<=a)(b0:0<=b){x y:d_}(hx:dO p mx one aN sg nan a x)(hy:dO p mx one aN sg nan b y)(xc:x.c<=2)(yc:y.c<=2):
  ∃v u,IJ aN sg a x v/\IJ aN sg b y u/\Q_ x y=mM v u:=by
 obtain⟨_,v,w1,n1,z1⟩:=zD h a0 hx xc;obtain⟨_,u,w2,n2,z2⟩:=zD h b0 hy yc;exact⟨v,u,w1,w2,aHJ h w1 w2 (bU h hx).1.c0 (bU h hy).1.c0 xc yc n1 z1 n2 z2⟩
def aCO{one nan:Int}(h:bI f p mx one aN sg nan):∃P:Nat,p=P+1/\one=((2^P:Nat):Int)/\P<=52:=by
 rcases h with h|h
 .exact⟨23,om,by rw[h.2.2.2.1];decide,om⟩
 .exact⟨52,om,by rw[h.2.2.2.1];decide,om⟩
def aOp{one nan:Int}(h:bI f p mx one aN sg nan){u:d_}(hu:dO p mx one aN sg nan v u)(l:Nat)(E:Int)(hE:1-mx<=E)(hl:(l:Int)<=2*one)(hb:E=1-mx\/one<=(l:Int))(hv:v=(l:Int)+one*(E-(1-mx)))(v1:v<aN):
  u.s=0/\(u.c=0\/u.c=1)/\nv u.M u.e=nv l (E-p+1):=by
 obtain⟨P,hp,ho,hP⟩:=aCO h;have Dq:=h.bounds;have hk0:0<=one*(E-(1-mx)):=Bj om om;rcases hu with⟨_,v',hs,hv'⟩|⟨c,_⟩
 .have YA:u.s=0/\v'=v:=om;refine⟨YA.1,?_⟩;rw[YA.2]at hv';rcases hv' with⟨e0,c0,_,hM⟩|⟨_,_,c0,_⟩|⟨_,c0,_⟩|⟨_,c0,_⟩|⟨v0,_,c0,hn⟩
  .refine⟨.inl c0,?_⟩;have hl0:l=0:=om;have hM0:u.M=0:=om;rw[hl0,hM0];unfold nv;simp
  .exfalso;omega
  .exfalso;omega
  .exfalso;omega
  .refine⟨.inr c0,?_⟩;obtain⟨_,_,n0,_⟩:=Ko h v0 v1 hn;obtain⟨k,m,e0,hm,hg,he,_,_⟩:=hn;obtain⟨m0,hsv⟩:=aJq l P hp ho hE hl hb hv om hm;have hM:u.M=m.toNat*2^k:=by
    have h1:((u.M:Nat):Int)=((m.toNat*2^k:Nat):Int):=by
     rw[hg,FI,Int.toNat_of_nonneg m0,FH];rfl
    exact Int.ofNat.inj h1
   rw[hM,he,XY _ _ _ (by omega)];exact hsv
 .exfalso;omega
def aMC{P:Prop}(h:P:=by
 rcases h with⟨rfl,rfl,rfl,rfl,rfl,rfl,rfl⟩|⟨rfl,rfl,rfl,rfl,rfl,rfl,rfl⟩<;>omega):P:=h
def cu(aj:Int)(x:d_):Nat:=chosen aj x.s (dH x.M x.e 0) (bH x.M x.e 0 V)
def jJ(x:d_):Bool:=decide (0<bH x.M x.e 0 V)
def vG(aj:Int)(x:d_):d_:=if x.c=1/\x.e<0 then(if cu aj x=0 then⟨0,x.s,0,0⟩else⟨1,x.s,0,cu aj x⟩)else x
def zM(M:Nat)(e q:Int)(h:q<=e):bH M e q V=0:=by unfold bH;rw[aQ h];rfl
def GY{x:d_}(h:0<=x.e):jJ x=V:=by unfold jJ;rw[zM _ _ _ h];rfl
def uY{x:d_}(h:0<=x.e):cu aj x=x.M*2^x.e.toNat:=by
 unfold cu;rw[zM _ _ _ h,nR];unfold dH;rw[aQ h,Int.sub_zero]
def aDb{x:d_}(h:x.e<0)(hM:x.M<2^(P+1)):cu aj x<=2^P:=by
 have h1:=(mF aj x.s (dH x.M x.e 0) (bH x.M x.e 0 V)).2;have h2:dH x.M x.e 0<2^P:=by
  unfold dH;rw[aH om,aEo (iQ de),<-jY];have:=gZ (om:P+1<=P+(0-x.e).toNat);omega
 unfold cu;omega
def Wp{one nan:Int}(h:bI f p mx one aN sg nan)(s:Int)(M:Nat)(h0:0<M)(h1:(M:Int)<=2*one):
  ∃z,0<z/\z<aN/\∀aj,bM p (1-mx) mx one aN aj s M 0 V z 0:=by
 obtain⟨P,hP,aKX,Dn⟩:=h.pow;have S9:one=((2^P:Nat):Int):=by rw[CU];exact Dn
 have aCL:2^(P+1)=2*2^P:=by rw[jE];omega
 have hb:=h.bounds;have n0:=D8 M h0;have hM1:M<=2^(P+1):=om;have hn:nb M<=P+2:=vS (by
  rw[show P+2=(P+1)+1 from rfl,jE];have:=iQ (n:=P+1) (show 0<2 by decide);omega)
 obtain⟨q,hq⟩:=dP ((nb M:Int)+0-1-p+1:Int);have xw:bH M 0 q V=0:=by
  by_cases c:q<=0
  .exact zM _ _ _ c
  .have hq1:(q-0).toNat =1:=om;have hM2:M=2^(P+1):=by
    rcases uq M (2^(P+1))with d|d
    .have:=vS d;omega
    .omega
   unfold bH;rw[aH c,hq1];exact FK M 1 de (by rw[hM2,aCL];omega)
 have V5:dH M 0 q<2^(P+1):=uf M 0 q (P+1) om;have aWa:2^P<=dH M 0 q:=PV M 0 q P h0 om;refine⟨(dH M 0 q:Nat)+one*((nb M:Int)+0-1-(1-mx)),?_,?_,λaj=>?_⟩
 .have:=Bj (om:0<=one) (om:0<=(nb M:Int)+0-1-(1-mx));omega
 .exact aMC
 .refine⟨(nb M:Int)+0-1,(nb M:Int)+0-1,dH M 0 q,_,0,rfl,.inr ⟨om,rfl⟩,by rw[hq,xw],by rw[hq,nR],rfl,.inr (.inr ⟨om,?_,rfl,.inl ⟨rfl,rfl⟩⟩)⟩;exact aMC
def mO(s:Int)(M:Nat):Int:=if s=1/\M≠0 then 18446744073709551616-(M:Int)else(M:Int)
def Fq(aG s:Int):gu aG s<18446744073709551616:=by
 unfold gu
 repeat' split
 all_goals decide
def aF0{P:Prop}(h:P:=by
 go_enter func95,ntmps95;go_wp2_with (first|(go_at_call 170;refine ku (HS _ Gr.g) λw1 au=>?_;have yS:=au.bK w;have jB:=aA yS.1)|(go_at_call 168;refine ku (HF _ Gr.g) λw2 aC=>?_;have EG:=aC.bK w;have:=aC.K50 w1;have lA:=eU EG.1;have mG:=aA EG.1)|(go_at_call 171;refine ku (HN _) λw3 aO=>?_;have lJ:=aO.bK w))
 exact cO (by simp[results,results95,go_sem,lJ])):P:=h
def Nc{P:Prop}(h:P:=by
 go_enter func70,ntmps70;go_wp2_with (first|(go_at_call 50;refine kw (MV _) ?_)|(go_at_call 136;refine ku (HL _) λw9 bV=>?_;have jD:=bV.bK w)|(go_at_call 135;refine kw (TM _) ?_)|(go_at_call 61;refine kw (HF _) ?_)|(go_at_call 126;refine ku (HU _) λw1 au=>?_;have KZ:=au.bK w;have mD:=aA KZ.1)|(go_at_call 140;refine ku (HQ _) λva aT=>?_;have:=aT.bK w;have:=aT.f_ w1)|(go_at_call 141;refine ku (HL _) λw9 bV=>?_;have jD:=bV.bK w)|(go_at_call 142;refine ku (HL _) λw9 bV=>?_;have jD:=bV.bK w)|(go_at_call 137;refine ku (HL _) λw9 bV=>?_;have jD:=bV.bK w)|(go_at_call 144;refine(HN _).mono ?_;rintro e w3 ⟨b,k,cc,hb,rfl,aO⟩;have:=aO.bK w)|(go_at_call 138;refine(HR _ _ hb).mono ?_;rintro e w4 ⟨z,fl,hq,rfl,bg⟩;have jD:=bg.bK w))
 first|(exact dX (by simp[results,results70,go_sem,jD]))|(refine gY (v:=aU z fl) (by simp[results,results70,go_sem,jD]) rfl ⟨z,fl,hq,rfl,?_⟩;exact Gb.g)):P:=h
def aAJ(f t aj a z fl:Int)(MV:KW 50 #[J t] (.bool V))(HL:qJ t z fl)(w:ak):
  Qi f t aj a w z fl:=by
 exact Nc
def aAI(f t aj a z fl:Int)(MV:KW 50 #[J t] (.bool U))(TM:nV aj V)(HL:qJ t z fl)(w:ak):
  Qi f t aj a w z fl:=by
 exact Nc
def NY(f t aj a z fl:Int)(MV:KW 50 #[J t] (.bool U))(TM:nV aj U)(HF:fF f a V)(HL:qJ t z fl)(w:ak):
  Qi f t aj a w z fl:=by
 exact Nc
def aD0(f t aj a c s x g z fl:Int)(b:Bool)(MV:KW 50 #[J t] (.bool U))(TM:nV aj U)(HF:fF f a U)(HU:bW f a c s x g)(HQ:bY c s x g U)(e4:(c==4)=b)(HL:qR t b z fl)(w:ak):
  Qi f t aj a w z fl:=by
 exact Nc
def aD1(f t aj a c s x g z fl:Int)(MV:KW 50 #[J t] (.bool U))(TM:nV aj U)(HF:fF f a U)(HU:bW f a c s x g)(HQ:bY c s x g V)(e2:c=2)(HL:Gu t s z fl)(w:ak):
  Qi f t aj a w z fl:=by
 subst e2;exact Nc
def aAH(f t aj a c s x g z fl:Int)(MV:KW 50 #[J t] (.bool U))(TM:nV aj U)(HF:fF f a U)(HU:bW f a c s x g)(HQ:bY c s x g V)(e2:c=0)(HL:Ar t s z fl)(w:ak):
  Qi f t aj a w z fl:=by
 subst e2;exact Nc
def aDZ(f t aj a c s x g:Int)(M:Nat)(MV:KW 50 #[J t] (.bool U))(TM:nV aj U)(HF:fF f a U)(HU:bW f a c s x g)(HQ:bY c s x g V)(e2:c=1)(HN:Hid (∀w,CT 144 #[fG c s x g] w λe w'=>∃b k cc,aK 2 w' (aF b k cc) M/\e=X (.agg #[J s,aF b k cc,J x,.bool V])/\Gb w w'))(Q:Int->Int->Prop)(HR:Hid (∀v w,aK 2 w v M->CT 138 #[J t,J aj,.agg #[J s,v,J x,.bool V]] w (E8 Q w)))(w:ak):
  CT 70 #[J f,J t,J aj,Y O a] w (E8 Q w):=by
 subst e2;exact Nc
def Y7(p mn mx md nan f t aj a p' Yc zq:Int)(k:Nat)(HS:Hid (∀w',Gr w w'->QR 170 #[J t,J aj] w' (.tuple #[.agg #[J p,J mn,J mx,J md,Value.nilFunc],.bool V])))(HF:Hid (∀w',Gr w w'->KP f w' p' Yc zq V))(HN:IL p mn mx nan 1):
  QR 95 #[J f,J t,J aj,Y O a] w (aU nan 1):=by
 exact aF0
def Y6(p mn mx md nan f t aj a p' Yc zq:Int)(k:Nat)(HS:Hid (∀w',Gr w w'->QR 170 #[J t,J aj] w' (.tuple #[.agg #[J p,J mn,J mx,J md,Value.nilFunc],.bool V])))(HF:Hid (∀w',Gr w w'->KP f w' p' Yc zq U))(HN:IL p mn mx nan 1):
  QR 95 #[J f,J t,J aj,Y O a] w (aU nan 1):=by
 exact aF0
def aIP(p mn mx md nan f t aj a p' Yc zq:Int)(k:Nat)(HS:Hid (∀w',Gr w w'->Ad t aj w' p mn mx md k U))(HF:Hid (∀w',Gr w w'->KP f w' p' Yc zq V))(HN:IL p mn mx nan 1):
  QR 95 #[J f,J t,J aj,Y O a] w (aU nan 1):=by
 exact aF0
def aLl(p mn mx md f t a p' Yc zq sx ex cx xh xl:Int)(tx:Bool)(k:Nat)(HS:Hid (∀w',Gr w w'->uO t md w' p mn mx k U))(HF:Hid (∀w',Gr w w'->KP f w' p' Yc zq U))
  (HA:rH p' Yc zq a sx ex cx xh xl tx 0)
  (R:Int->Int->Prop) (HP:Hid (∀w,CT 172 #[eu p mn mx md k,bP sx ex cx xh xl tx 0] w (yG R w))):
  CT 95 #[J f,J t,J md,Y O a] w (yG R w):=by
 go_enter func95,ntmps95;go_wp2_with (first|(go_at_call 170;refine ku (HS _ Gr.g) λw1 au=>?_;have yS:=au.bK w;have jB:=aA yS.1)|(go_at_call 168;refine ku (HF _ Gr.g) λw2 aC=>?_;have EG:=aC.bK w;have:=aC.K50 w1;have lA:=eU EG.1;have mG:=aA EG.1))
 go_region_held3 (λw'=>uj w' w1.heap.size 0 1 2 3 4 (J p) (J mn) (J mx) (J md) (.func (.func k) #[] #[])/\jU w' w2.heap.size 0 1 2 (J p') (J Yc) (J zq))(exact qX)(first|(go_at_call 174;refine ku (HA _) λw3 aO=>?_;have:=aO.bK w)|(go_at_call 172;refine(HP _).mono ?_;rintro e w4 ⟨z,fl,hr,rfl,bg⟩;have Rx:=bg.bK w))
 all_goals go_wp2
 all_goals
  refine gY (v:=aU z fl) (by simp[results,results95,go_sem,Rx]) rfl ⟨z,fl,hr,rfl,?_⟩;exact Gr.g
def aME{P:Prop}(h:P:=by
 rintro e bf ⟨rfl,dY⟩;exact⟨_,_,.inr (.inl ⟨p,mx,one,aN,sg,nan,hF,.inl hm,rfl,rfl⟩),rfl,dY⟩):P:=h
def wJ(f t aj a Z fl:Int):Prop:=
 (∃p mx one aN sg nan p' zq rX r_ GK rY x,bI t p mx one aN sg nan/\(0<=aj/\aj<=4)/\bI f p' zq rX r_ GK rY/\dO p' zq rX r_ GK rY a x/\cZ p (1-mx) mx one aN sg nan aj x Z fl)\/
 (∃p mx one aN sg nan,bI t p mx one aN sg nan/\(¬(0<=aj/\aj<=4)\/¬(f=0\/f=1))/\Z=nan/\fl=1)\/
 (¬(t=0\/t=1)/\Z=9221120237041090560/\fl=1)
def wJ.one(h:wJ f t aj a Z fl)(h':wJ f t aj a Z' qQ):Z=Z'/\fl=qQ:=by
 rcases h with⟨p,mx,one,aN,sg,nan,q,mq,oq,iq,sq,nq,x,hF,hm,hG,hx,hp⟩|⟨p,mx,one,aN,sg,nan,hF,hm,rfl,rfl⟩|⟨hF,rfl,rfl⟩<;>
 rcases h' with⟨p',zq,rX,r_,GK,rY,q',mq',oq',iq',sq',nq',x',oC,KD,hG',O8,SY⟩|⟨p',zq,rX,r_,GK,rY,oC,KD,rfl,rfl⟩|⟨oC,rfl,rfl⟩
 .obtain⟨rfl,rfl,rfl,rfl,rfl,rfl⟩:=hF.one oC;obtain⟨rfl,rfl,rfl,rfl,rfl,rfl⟩:=hG.one hG';obtain rfl:=hx.one hG O8;exact cZ.one hp SY
 .have:=hG.yes;rcases KD with h|h
  .exact bG hm h
  .exact bG (of_decide_eq_true this.symm) h
 .exact bG hF.yes.symm (by simp[oC])
 .have:=hG'.yes;rcases hm with h|h
  .exact bG KD h
  .exact bG (of_decide_eq_true this.symm) h
 .obtain⟨rfl,rfl,rfl,rfl,rfl,rfl⟩:=hF.one oC;exact⟨rfl,rfl⟩
 .exact bG hF.yes.symm (by simp[oC])
 .exact bG oC.yes.symm (by simp[hF])
 .exact bG oC.yes.symm (by simp[hF])
 .exact⟨rfl,rfl⟩
def LU(f t aj a:Int)(a0:0<=a)(a1:aI a)(w:ak)(hw:Fm w):
  CT 95 #[J f,J t,J aj,Y O a] w λe w'=>∃Z fl,wJ f t aj a Z fl/\e=X (aU Z fl)/\Gr w w':=by
 have FO:(∃p' zq rX r_ GK rY Yc PI sp',bI f p' zq rX r_ GK rY/\zo p' Yc zq PI sp' rX r_ GK rY)\/¬(f=0\/f=1):=by
  by_cases hf:f=0\/f=1
  .obtain⟨p,mx,one,aN,sg,nan,hF⟩:=fQ f hf;obtain⟨mn,fb,sp,hM,_,_⟩:=hF.m;exact .inl ⟨_,_,_,_,_,_,_,_,_,hF,hM⟩
  .exact .inr hf
 by_cases ht:t=0\/t=1
 .obtain⟨p,mx,one,aN,sg,nan,hF⟩:=fQ t ht;obtain⟨mn,fb,sp,hM,Ce,Ru⟩:=hF.m;by_cases hm:0<=aj/\aj<=4
  .obtain⟨k,hk⟩:=mP aj hm.1 hm.2;rcases FO with⟨p',zq,rX,r_,GK,rY,Yc,PI,sp',hG,hM'⟩|hf
   .obtain⟨x,hx,HA⟩:=jP hG hM' a a0 a1;obtain⟨v1,v2,v3,v4,v5,v6⟩:=bU hG hx;refine(aLl p mn mx aj f t a p' Yc zq _ _ _ _ _ _ k (λbf dY=>eX hF hM aj k (λw=>iI aj k hk w) (hw.gr dY)) (λbf dY=>oD hG hM' (hw.gr dY)) HA (cZ p mn mx one aN sg nan aj x) (λw=>qB hM aj k hk x _ _ _ _ _ _ v1.same w)).mono ?_;rintro e bf ⟨Z,fl,hp,rfl,dY⟩;rw[Ce]at hp;exact⟨_,_,.inl ⟨p,mx,one,aN,sg,nan,_,_,_,_,_,_,x,hF,hm,hG,hx,hp⟩,rfl,dY⟩
   .refine(aIP p mn mx aj nan f t aj a 0 0 0 k (λbf dY=>eX hF hM aj k (λw=>iI aj k hk w) (hw.gr dY)) (λbf dY=>pK f hf bf) (λw=>dF hM w)).mono ?_;rintro e bf ⟨rfl,dY⟩;exact⟨_,_,.inr (.inl ⟨p,mx,one,aN,sg,nan,hF,.inr hf,rfl,rfl⟩),rfl,dY⟩
  .rcases FO with⟨p',zq,rX,r_,GK,rY,Yc,PI,sp',hG,hM'⟩|hf
   .refine(Y6 p mn mx aj nan f t aj a p' Yc zq 0 (λbf dY=>iC hF hM aj (λw=>lG aj om w) (hw.gr dY)) (λbf dY=>oD hG hM' (hw.gr dY)) (λw=>dF hM w)).mono ?_;exact aME
   .refine(Y7 p mn mx aj nan f t aj a 0 0 0 0 (λbf dY=>iC hF hM aj (λw=>lG aj om w) (hw.gr dY)) (λbf dY=>pK f hf bf) (λw=>dF hM w)).mono ?_;exact aME
 .rcases FO with⟨p',zq,rX,r_,GK,rY,Yc,PI,sp',hG,hM'⟩|hf
  .refine(Y6 _ _ _ _ _ f t aj a p' Yc zq 0 (λbf dY=>eG t aj ht (hw.gr dY)) (λbf dY=>oD hG hM' (hw.gr dY)) (λw=>dF m64 w)).mono ?_;rintro e bf ⟨rfl,dY⟩;exact⟨_,_,.inr (.inr ⟨ht,rfl,rfl⟩),rfl,dY⟩
  .refine(Y7 _ _ _ _ _ f t aj a 0 0 0 0 (λbf dY=>eG t aj ht (hw.gr dY)) (λbf dY=>pK f hf bf) (λw=>dF m64 w)).mono ?_;rintro e bf ⟨rfl,dY⟩;exact⟨_,_,.inr (.inr ⟨ht,rfl,rfl⟩),rfl,dY⟩
def Ls(f t aj a:Int)(a0:0<=a)(a1:aI a)(w:ak):
  CT 70 #[J f,J t,J aj,Y O a] w λe w'=>∃Z fl,wJ f t aj a Z fl/\e=X (aU Z fl)/\Gb w w':=by
 by_cases ht:t=0\/t=1
 .obtain⟨p,mx,one,aN,sg,nan,hF⟩:=fQ t ht;have MV:KW 50 #[J t] (.bool U):=λw=>jo t U (by simp[ht]) w;by_cases hm:0<=aj/\aj<=4
  .have TM:nV aj U:=λw=>n_ aj U (by simp[hm]) w;by_cases hf:f=0\/f=1
   .obtain⟨p',zq,rX,r_,GK,rY,hG⟩:=fQ f hf;obtain⟨x,hx⟩:=fH hG a a0 a1;obtain⟨v1,v2,v3,v4,v5,v6⟩:=bU hG hx;have xc0:=v1.c0;have xc4:=v1.c4;have fin:∀Z fl,cZ p (1-mx) mx one aN sg nan aj x Z fl->wJ f t aj a Z fl:=λZ fl hp=>.inl ⟨p,mx,one,aN,sg,nan,_,_,_,_,_,_,x,hF,hm,hG,hx,hp⟩;by_cases fa:a<2*GK
    .have AL:fF f a U:=λw=>gJ hG a a0 fa w;have HU:=ji hG a a0 fa hx;have HQ:∀(b:Bool),b=decide (3<=x.c)->bY x.c x.s x.e (((x.M:Nat):Int)) b:=λb hb w=>jf _ _ _ _ b hb w;by_cases cn:3<=x.c
     .refine(aD0 f t aj a _ _ _ _ nan _ (decide (x.c=4)) MV TM AL HU (HQ U (by simp[cn])) (bq _ _) (λw=>nZ hF _ _ rfl w) w).mono ?_;rintro e w' ⟨rfl,hg⟩;refine⟨_,_,fin _ _ ?_,rfl,hg⟩;by_cases c4:x.c=4
      .rw[aQ (by simp[c4])];exact .inr (.inr (.inr (.inr ⟨c4,rfl,rfl⟩)))
      .rw[aH (by simp[c4])];exact .inr (.inr (.inr (.inl ⟨om,rfl,rfl⟩)))
     .have hQ:=HQ V jA;rcases(om:x.c=0\/x.c=1\/x.c=2)with c|c|c
      .refine(aAH f t aj a _ _ _ _ (sw x.s sg 0) 0 MV TM AL HU hQ c (λw=>kY hF x.s v1.lD w) w).mono ?_;rintro e w' ⟨rfl,hg⟩;exact⟨_,_,fin _ _ (.inl ⟨c,rfl,rfl⟩),rfl,hg⟩
      .refine(aDZ f t aj a _ _ _ _ x.M MV TM AL HU hQ c (λw=>nY _ _ _ x.M om w) (cZ p (1-mx) mx one aN sg nan aj x) (λv w hB=>oL hF aj hm.1 hm.2 x c v1.lD (v1.fin c).1 om om 2 om v w hB) w).mono ?_;rintro e w' ⟨Z,fl,hp,rfl,hg⟩;exact⟨_,_,fin _ _ hp,rfl,hg⟩
      .refine(aD1 f t aj a _ _ _ _ (sw x.s sg aN) 0 MV TM AL HU hQ c (λw=>eH hF x.s v1.lD w) w).mono ?_;rintro e w' ⟨rfl,hg⟩;exact⟨_,_,fin _ _ (.inr (.inr (.inl ⟨c,rfl,rfl⟩))),rfl,hg⟩
    .have Cc:f=0/\4294967296<=a:=by rcases hG with⟨rfl,rfl,rfl,rfl,rfl,rfl,rfl⟩|⟨rfl,rfl,rfl,rfl,rfl,rfl,rfl⟩<;>omega
     refine(NY f t aj a nan 1 MV TM (λw=>jH f a a0 (.inr Cc) w) (λw=>dA hF w) w).mono ?_;rintro e w' ⟨rfl,hg⟩;have:=jM hG hx om;exact⟨_,_,fin _ _ (jI (by rw[this])),rfl,hg⟩
   .refine(NY f t aj a nan 1 MV TM (λw=>jH f a a0 (.inl hf) w) (λw=>dA hF w) w).mono ?_;rintro e w' ⟨rfl,hg⟩;exact⟨_,_,.inr (.inl ⟨p,mx,one,aN,sg,nan,hF,.inr hf,rfl,rfl⟩),rfl,hg⟩
  .refine(aAI f t aj a nan 1 MV (λw=>n_ aj V jA w) (λw=>dA hF w) w).mono ?_;rintro e w' ⟨rfl,hg⟩;exact⟨_,_,.inr (.inl ⟨p,mx,one,aN,sg,nan,hF,.inl hm,rfl,rfl⟩),rfl,hg⟩
 .refine(aAJ f t aj a _ 1 (λw=>jo t V jA w) (λw=>nK t ht w) w).mono ?_;rintro e w' ⟨rfl,hg⟩;exact⟨_,_,.inr (.inr ⟨ht,rfl,rfl⟩),rfl,hg⟩
def aLm(f t aj a:Int)(a0:0<=a)(a1:aI a):∃Z fl,wJ f t aj a Z fl:=by
 by_cases ht:t=0\/t=1
 .obtain⟨p,mx,one,aN,sg,nan,hF⟩:=fQ t ht;by_cases hm:0<=aj/\aj<=4
  .by_cases hf:f=0\/f=1
   .obtain⟨p',zq,rX,r_,GK,rY,hG⟩:=fQ f hf;obtain⟨x,hx⟩:=fH hG a a0 a1;have v1:=(bU hG hx).1;obtain⟨Z,fl,hp⟩:=BQ p (1-mx) mx one aN sg nan aj x v1.c0 v1.c4;exact⟨Z,fl,.inl ⟨p,mx,one,aN,sg,nan,_,_,_,_,_,_,x,hF,hm,hG,hx,hp⟩⟩
   .exact⟨_,_,.inr (.inl ⟨p,mx,one,aN,sg,nan,hF,.inr hf,rfl,rfl⟩)⟩
  .exact⟨_,_,.inr (.inl ⟨p,mx,one,aN,sg,nan,hF,.inl hm,rfl,rfl⟩)⟩
 .exact⟨_,_,.inr (.inr ⟨ht,rfl,rfl⟩)⟩
def aFa(f t aj a:Int)(a0:0<=a)(a1:aI a):
  ∃Z fl:Int,wJ f t aj a Z fl/\(∀w,Qi f t aj a w Z fl)/\
   (∀w,Fm w->QR 95 #[J f,J t,J aj,Y O a] w (aU Z fl)):=by
 obtain⟨Z,fl,h⟩:=aLm f t aj a a0 a1;refine⟨Z,fl,h,λw=>(Ls f t aj a a0 a1 w).mono ?_,λw hw=>(LU f t aj a a0 a1 w hw).mono ?_⟩
 .rintro e w' ⟨Z',qQ,h',rfl,hg⟩;obtain⟨rfl,rfl⟩:=wJ.one h h';exact⟨rfl,hg⟩
 .rintro e w' ⟨Z',qQ,h',rfl,hg⟩;obtain⟨rfl,rfl⟩:=wJ.one h h';exact⟨rfl,hg⟩
