import Derived.Test.YthoelefkjpjhfaaGreatDoorK4
import Derived.Test.YthoelefkjpjhfaaGreatDoorM2
set_option linter.all false
open Bool renaming false → V, true → U
open Go.Proofs.YthoelefkjpjhfaaGreatDoor renaming vI → J
open Go.Value renaming int → Y
open Go.IntKind renaming u64 → O
open Go.Ending renaming returned → X
open Go.Proofs.Tryz
namespace Go.Proofs.YthoelefkjpjhfaaGreatDoor
open Go.RowKit
attribute [local go_sem] aA dB
variable{p mx aI sg f aj a b Z fl mn Z' oP v p' wS pX ql EM pY fb sp m e g v' e' g' u t:Int}{w:World}{K M k P:Nat}
def aHA{v:Value}(h:aH K w v M)(hK:K<=100000):nb M<=3200000:=by
 obtain⟨n,hn,hb⟩:=h;have h1:=hb.1.1;rw[<-pU]at h1;have:=sW h1;omega
def mW{one nan:Int}(h:bD f p mx one aI sg nan)(aj:Int)(m0:0<=aj)(m1:aj<=4)(o:dM)(ho:o.c=1)(hs:o.s=0\/o.s=1)(hM:0<o.M)(e0:-5000<=o.e)(e1:o.e<=5000)(K:Nat)(hK:K<=100000)(v:Value)(w:World)(hB:aH K w v o.M):
  CT 138 #[J f,J aj,.agg #[J o.s,v,J o.e,.bool V]] w λe w'=>∃z fl,bY p (1-mx) mx one aI sg nan aj o z fl/\e=X (aP z fl)/\Gb w w':=by
 have hn:=aHA hB hK;obtain⟨n,C9,hb⟩:=hB;refine(I5 h hb om hM hn aj o.s o.e V m0 m1 hs om om (λc=>by cases c)).mono ?_;rintro x w' ⟨z,fl,hr,z0,z1,rfl,hg⟩;exact⟨_,_,.inr (.inl ⟨ho,z,hr,rfl⟩),rfl,hg⟩
def qZ(R:Int->dM->dM->dM)(f aj a b Z fl:Int):Prop:=
 (∃p mx one aI sg nan x y,bD f p mx one aI sg nan/\(0<=aj/\aj<=4)/\dF p mx one aI sg nan a x/\dF p mx one aI sg nan b y/\bY p (1-mx) mx one aI sg nan aj (R aj x y) Z fl)\/
 (∃p mx one aI sg nan,bD f p mx one aI sg nan/\(aj<0\/4<aj)/\Z=nan/\fl=1)\/
 (¬(f=0\/f=1)/\Z=9221120237041090560/\fl=1)
def eX(f:Int)(h:f=0\/f=1):∃p mx one aI sg nan,bD f p mx one aI sg nan:=by
 rcases h with rfl|rfl
 .exact⟨_,_,_,_,_,_,.inl ⟨rfl,rfl,rfl,rfl,rfl,rfl,rfl⟩⟩
 .exact⟨_,_,_,_,_,_,.inr ⟨rfl,rfl,rfl,rfl,rfl,rfl,rfl⟩⟩
def bD.one{one nan:Int}(h:bD f p mx one aI sg nan)(h':bD f p' wS pX ql EM pY):p=p'/\mx=wS/\one=pX/\aI=ql/\sg=EM/\nan=pY:=by
 rcases h with⟨rfl,rfl,rfl,rfl,rfl,rfl,rfl⟩|⟨rfl,rfl,rfl,rfl,rfl,rfl,rfl⟩<;>rcases h' with⟨e,rfl,rfl,rfl,rfl,rfl,rfl⟩|⟨e,rfl,rfl,rfl,rfl,rfl,rfl⟩
 .exact⟨rfl,rfl,rfl,rfl,rfl,rfl⟩
 .cases e
 .cases e
 .exact⟨rfl,rfl,rfl,rfl,rfl,rfl⟩
def qZ.one{R:Int->dM->dM->dM}(h:qZ R f aj a b Z fl)(h':qZ R f aj a b Z' oP):Z=Z'/\fl=oP:=by
 rcases h with⟨p,mx,one,aI,sg,nan,x,y,hF,hm,hx,hy,hp⟩|⟨p,mx,one,aI,sg,nan,hF,hm,rfl,rfl⟩|⟨hF,rfl,rfl⟩<;>
 rcases h' with⟨p',wS,pX,ql,EM,pY,x',y',mG,I_,Nq,hy',Qs⟩|⟨p',wS,pX,ql,EM,pY,mG,I_,rfl,rfl⟩|⟨mG,rfl,rfl⟩
 .obtain⟨rfl,rfl,rfl,rfl,rfl,rfl⟩:=hF.one mG;obtain rfl:=hx.one hF Nq;obtain rfl:=hy.one hF hy';exact bY.one hp Qs
 .exfalso;omega
 .exact absurd hF.yes.symm (by simp[mG])
 .exfalso;omega
 .obtain⟨rfl,rfl,rfl,rfl,rfl,rfl⟩:=hF.one mG;exact⟨rfl,rfl⟩
 .exact absurd hF.yes.symm (by simp[mG])
 .exact absurd mG.yes.symm (by simp[hF])
 .exact absurd mG.yes.symm (by simp[hF])
 .exact⟨rfl,rfl⟩
def zL(p mn mx one aI sg nan aj:Int)(o:dM)(c0:0<=o.c)(c4:o.c<=4):∃Z fl,bY p mn mx one aI sg nan aj o Z fl:=by
 rcases(om:o.c=0\/o.c=1\/o.c=2\/o.c=3\/o.c=4)with c|c|c|c|c
 .exact⟨_,_,.inl ⟨c,rfl,rfl⟩⟩
 .obtain⟨z,fl,hr⟩:=aFw p mn mx one aI aj o.s o.M o.e V;exact⟨_,_,.inr (.inl ⟨c,z,hr,rfl⟩)⟩
 .exact⟨_,_,.inr (.inr (.inl ⟨c,rfl,rfl⟩))⟩
 .exact⟨_,_,.inr (.inr (.inr (.inl ⟨c,rfl,rfl⟩)))⟩
 .exact⟨_,_,.inr (.inr (.inr (.inr ⟨c,rfl,rfl⟩)))⟩
def eu{one nan:Int}(h:bD f p mx one aI sg nan)(a:Int)(a0:0<=a)(a1:aG a):∃x,dF p mx one aI sg nan a x:=by
 obtain⟨mn,fb,sp,hm,_,_⟩:=h.m;obtain⟨x,hx,_⟩:=jf h hm a a0 a1;exact⟨x,hx⟩
def TT(R:Int->dM->dM->dM)(S I:Nat)(hR:∀aj x y,VO x->VO y->nb x.M<=53->nb y.M<=53->-2000<=x.e->x.e<=2000->-2000<=y.e->y.e<=2000->0<=(R aj x y).c /\(R aj x y).c <=4)(f aj a b:Int)(a0:0<=a)(a1:aG a)(b0:0<=b)(b1:aG b)
  (hs:∀w,Calls Tryz.prog S #[J f,J aj,Y O a,Y O b] w λe w'=>∃Z fl,qZ R f aj a b Z fl/\e=X (aP Z fl)/\Gb w w')
  (hi:∀w,Fm w->Calls Tryz.prog I #[J f,J aj,Y O a,Y O b] w λe w'=>∃Z fl,qZ R f aj a b Z fl/\e=X (aP Z fl)/\Gr w w'):
  ∃Z fl:Int,qZ R f aj a b Z fl/\(∀w,Calls Tryz.prog S #[J f,J aj,Y O a,Y O b] w λe w'=>e=X (aP Z fl)/\Gb w w')/\
   (∀w,Fm w->Calls Tryz.prog I #[J f,J aj,Y O a,Y O b] w λe w'=>e=X (aP Z fl)/\Gr w w'):=by
 have hex:∃Z fl:Int,qZ R f aj a b Z fl:=by
  by_cases hf:f=0\/f=1
  .obtain⟨p,mx,one,aI,sg,nan,hF⟩:=eX f hf;by_cases hm:0<=aj/\aj<=4
   .obtain⟨x,hx⟩:=eu hF a a0 a1;obtain⟨y,hy⟩:=eu hF b b0 b1;obtain⟨v1,v2,v3,v4,v5,v6⟩:=bK hF hx;obtain⟨u1,u2,u3,u4,u5,u6⟩:=bK hF hy;obtain⟨r1,r2⟩:=hR aj x y v1 u1 v6 u6 v4 v5 u4 u5;obtain⟨Z,fl,hp⟩:=zL p (1-mx) mx one aI sg nan aj _ r1 r2;exact⟨Z,fl,.inl ⟨p,mx,one,aI,sg,nan,x,y,hF,hm,hx,hy,hp⟩⟩
   .exact⟨_,_,.inr (.inl ⟨p,mx,one,aI,sg,nan,hF,om,rfl,rfl⟩)⟩
  .exact⟨_,_,.inr (.inr ⟨hf,rfl,rfl⟩)⟩
 obtain⟨Z,fl,h⟩:=hex;refine⟨Z,fl,h,λw=>(hs w).mono ?_,λw hw=>(hi w hw).mono ?_⟩
 .rintro e w' ⟨Z',oP,h',rfl,hg⟩;obtain⟨rfl,rfl⟩:=qZ.one h h';exact⟨rfl,hg⟩
 .rintro e w' ⟨Z',oP,h',rfl,hg⟩;obtain⟨rfl,rfl⟩:=qZ.one h h';exact⟨rfl,hg⟩
def iH{one nan:Int}(h:bD f p mx one aI sg nan)(a:Int)(a0:0<=a)(a1:a<2*sg){x:dM}(hx:dF p mx one aI sg nan a x):Hid (∀w,QR 126 #[J f,Y O a] w (d_ x.c x.s x.e (((x.M:Nat):Int)))):=λw=>by
 rcases hx with⟨_,hu⟩|⟨c,_⟩
 .refine(KZ h a a0 a1 w).mono ?_;rintro e w' ⟨c,s,x',g,hu',rfl,hg⟩;obtain⟨rfl,rfl,rfl,rfl⟩:=fV.one h hu hu';exact⟨rfl,hg⟩
 .exfalso;omega
def jd{one nan:Int}(h:bD f p mx one aI sg nan){x:dM}(hx:dF p mx one aI sg nan a x)(hw:2*sg<=a):x=⟨4,0,0,0⟩:=by
 rcases hx with⟨c,_⟩|⟨_,rfl⟩
 .exfalso;omega
 .rfl
def qP{one nan:Int}(h:bD f p mx one aI sg nan)(a1:aG a)(b1:aG b)(hn:2*sg<=a\/2*sg<=b):aHV f aj a b:=by
 unfold aHV;rcases h with⟨rfl,rfl,rfl,rfl,rfl,rfl,rfl⟩|⟨rfl,rfl,rfl,rfl,rfl,rfl,rfl⟩
 .rcases hn with h|h
  .exact .inr (.inr (.inl ⟨rfl,om⟩))
  .exact .inr (.inr (.inr ⟨rfl,om⟩))
 .exfalso;omega
def iW{one nan:Int}{o:dM}(ho:o.c=4):bY p mn mx one aI sg nan aj o nan 1:=.inr (.inr (.inr (.inr ⟨ho,rfl,rfl⟩)))
def oC{one nan:Int}(m:Int)(t:Bool)(h:t=decide (m=4))(h3:3<=m)(h4:m<=4):bY p mn mx one aI sg nan aj ⟨m,0,0,0⟩ nan (if t then 1 else 0):=by
 by_cases c:m=4
 .rw[h,decide_eq_true c];exact .inr (.inr (.inr (.inr ⟨c,rfl,rfl⟩)))
 .rw[h,decide_eq_false c];exact .inr (.inr (.inr (.inl ⟨by dsimp only;omega,rfl,rfl⟩)))
def bq(c k:Int):(c==k)=decide (c=k):=by by_cases h:c=k<;>simp[h]
structure aL5 (p mn mx md:Int) (k:Nat) (w wx:World) (sx ax Ah Al sy ay Bh Bl:Int):Prop where
 g:Gr w wx:=by exact kr
 s0:aA wx w.heap.size 0 (J p):=by exact kl
 s1:aA wx w.heap.size 1 (J mn):=by exact kl
 s2:aA wx w.heap.size 2 (J mx):=by exact kl
 s3:aA wx w.heap.size 3 (J md):=by exact kl
 s4:aA wx w.heap.size 4 (.func (.func k) #[] #[]):=by exact kl
 x0:aA wx (w.heap.size+1) 0 (J sx):=by exact kl
 xz0:dB wx (w.heap.size+1) 0:=by exact kl
 x1:aA wx (w.heap.size+1) 1 (J ax):=by exact kl
 xz1:dB wx (w.heap.size+1) 1:=by exact kl
 x2:aA wx (w.heap.size+1) 2 (J 1):=by exact kl
 xz2:dB wx (w.heap.size+1) 2:=by exact kl
 x3:aA wx (w.heap.size+1) 3 (Y O Ah):=by exact kl
 xz3:dB wx (w.heap.size+1) 3:=by exact kl
 x4:aA wx (w.heap.size+1) 4 (Y O Al):=by exact kl
 xz4:dB wx (w.heap.size+1) 4:=by exact kl
 x5:aA wx (w.heap.size+1) 5 (.bool V):=by exact kl
 xz5:dB wx (w.heap.size+1) 5:=by exact kl
 x6:aA wx (w.heap.size+1) 6 (J 0):=by exact kl
 xz6:dB wx (w.heap.size+1) 6:=by exact kl
 y0:aA wx (w.heap.size+1+1) 0 (J sy):=by exact kl
 yz0:dB wx (w.heap.size+1+1) 0:=by exact kl
 y1:aA wx (w.heap.size+1+1) 1 (J ay):=by exact kl
 yz1:dB wx (w.heap.size+1+1) 1:=by exact kl
 y2:aA wx (w.heap.size+1+1) 2 (J 1):=by exact kl
 yz2:dB wx (w.heap.size+1+1) 2:=by exact kl
 y3:aA wx (w.heap.size+1+1) 3 (Y O Bh):=by exact kl
 yz3:dB wx (w.heap.size+1+1) 3:=by exact kl
 y4:aA wx (w.heap.size+1+1) 4 (Y O Bl):=by exact kl
 yz4:dB wx (w.heap.size+1+1) 4:=by exact kl
 y5:aA wx (w.heap.size+1+1) 5 (.bool V):=by exact kl
 yz5:dB wx (w.heap.size+1+1) 5:=by exact kl
 y6:aA wx (w.heap.size+1+1) 6 (J 0):=by exact kl
 yz6:dB wx (w.heap.size+1+1) 6:=by exact kl
 r0:aA wx (w.heap.size+1+1+1) 0 (J 0):=by exact kl
 rz0:dB wx (w.heap.size+1+1+1) 0:=by exact kl
 r1:aA wx (w.heap.size+1+1+1) 1 (J 0):=by exact kl
 rz1:dB wx (w.heap.size+1+1+1) 1:=by exact kl
 r2:aA wx (w.heap.size+1+1+1) 2 (J 0):=by exact kl
 rz2:dB wx (w.heap.size+1+1+1) 2:=by exact kl
 r3:aA wx (w.heap.size+1+1+1) 3 (Y O 0):=by exact kl
 rz3:dB wx (w.heap.size+1+1+1) 3:=by exact kl
 r4:aA wx (w.heap.size+1+1+1) 4 (Y O 0):=by exact kl
 rz4:dB wx (w.heap.size+1+1+1) 4:=by exact kl
 r5:aA wx (w.heap.size+1+1+1) 5 (.bool V):=by exact kl
 rz5:dB wx (w.heap.size+1+1+1) 5:=by exact kl
 r6:aA wx (w.heap.size+1+1+1) 6 (J 0):=by exact kl
 rz6:dB wx (w.heap.size+1+1+1) 6:=by exact kl
set_option maxRecDepth 1000000
set_option maxHeartbeats 40000000
def NT(p mn mx md:Int)(k:Nat)(sx ex cx xh xl sy ey cy yh yl:Int)(tx ty:Bool)(z:Int)(hz:bits .xor .i64 sy 1=z)(Q:Int->Int->Int->Int->Int->Bool->Prop)(HT:Hid (∀w,CT 82 #[dN p mn mx md k,aU sx ex cx xh xl tx 0,aU z ey cy yh yl ty 0] w λe w'=>∃os oe oc oh ol ot,Q os oe oc oh ol ot/\e=X (aU os oe oc oh ol ot 0)/\Gr w w'))(w:World):
  CT 83 #[dN p mn mx md k,aU sx ex cx xh xl tx 0,aU sy ey cy yh yl ty 0] w λe w'=>∃os oe oc oh ol ot,Q os oe oc oh ol ot/\e=X (aU os oe oc oh ol ot 0)/\Gr w w':=by
 go_enter func83,ntmps83;go_wp2_with (go_at_call 82;refine(HT _).mono ?_;rintro e w1 ⟨os,oe,oc,oh,ol,ot,hq,rfl,ak⟩;have gG:=ak.nY w);refine bodyPost_ret (v:=aU os oe oc oh ol ot 0) (by simp[results,Tryz.results83,go_sem,gG]) rfl ⟨os,oe,oc,oh,ol,ot,hq,rfl,?_⟩;exact Gr.g
def CU(p mn mx md:Int)(k:Nat)(sx ex cx xh xl sy ey cy yh yl:Int)(tx ty:Bool)(m:Int)(hm:max cx cy=m)(h3:m<3)(Q:Int->Int->Int->Int->Int->Bool->Prop)(HO:Hid (∀w,CT 83 #[dN p mn mx md k,aU sx ex cx xh xl tx 0,aU sy ey cy yh yl ty 0] w λe w'=>∃os oe oc oh ol ot,Q os oe oc oh ol ot/\e=X (aU os oe oc oh ol ot 0)/\Gr w w'))(w:World):
  CT 173 #[dN p mn mx md k,.func (.func 83) #[] #[],aU sx ex cx xh xl tx 0,aU sy ey cy yh yl ty 0] w λe w'=>∃os oe oc oh ol ot,Q os oe oc oh ol ot/\e=X (aU os oe oc oh ol ot 0)/\Gr w w':=by
 go_enter func173,ntmps173;go_wp2_with (go_at_call 83;refine(HO _).mono ?_;rintro e w1 ⟨os,oe,oc,oh,ol,ot,hq,rfl,ak⟩;have gG:=ak.nY w);refine bodyPost_ret (v:=aU os oe oc oh ol ot 0) (by simp[results,Tryz.results173,go_sem,gG]) rfl ⟨os,oe,oc,oh,ol,ot,hq,rfl,?_⟩;exact Gr.g
def ZN(f aj a b:Int)(R:Int->Int->Prop)(HC:Hid (∀w',Gr w w'->CT 81 #[J f,J aj,.func (.func 83) #[] #[],Y O a,Y O b] w' (vS R w'))):
  CT 27 #[J f,J aj,Y O a,Y O b] w (vS R w):=by
 go_enter func27,ntmps27;go_wp2_with (go_at_call 81;refine(HC _ Gr.g).mono ?_;rintro e w1 ⟨z,fl,hr,rfl,ak⟩;have gG:=ak.bG w);refine bodyPost_ret (v:=aP z fl) (by simp[results,Tryz.results27,go_sem,gG]) rfl ⟨z,fl,hr,rfl,?_⟩;exact Gr.g
def oK(p mn mx one aI sg nan aj:Int)(o:dM)(Z fl:Int):Prop:=bY p mn mx one aI sg nan aj o Z fl\/o.c=5/\Z=sw o.s sg aI/\fl=2
def bY.c4{one nan:Int}{o:dM}(h:bY p mn mx one aI sg nan aj o Z fl):o.c<=4:=by
 rcases h with⟨h,_⟩|⟨h,_⟩|⟨h,_⟩|⟨h,_⟩|⟨h,_⟩<;>omega
def oK.one{one nan:Int}{o:dM}(h:oK p mn mx one aI sg nan aj o Z fl)(h':oK p mn mx one aI sg nan aj o Z' oP):Z=Z'/\fl=oP:=by
 rcases h with h|⟨c,rfl,rfl⟩<;>rcases h' with h'|⟨c',rfl,rfl⟩
 .exact bY.one h h'
 .have:=h.c4;exfalso;omega
 .have:=h'.c4;exfalso;omega
 .exact⟨rfl,rfl⟩
def nJ(R:Int->Int->dM->dM->dM)(f aj a b Z fl:Int):Prop:=
 (∃p mx one aI sg nan x y,bD f p mx one aI sg nan/\(0<=aj/\aj<=4)/\dF p mx one aI sg nan a x/\dF p mx one aI sg nan b y/\oK p (1-mx) mx one aI sg nan aj (R p aj x y) Z fl)\/
 (∃p mx one aI sg nan,bD f p mx one aI sg nan/\(aj<0\/4<aj)/\Z=nan/\fl=1)\/
 (¬(f=0\/f=1)/\Z=9221120237041090560/\fl=1)
def nJ.one{R:Int->Int->dM->dM->dM}(h:nJ R f aj a b Z fl)(h':nJ R f aj a b Z' oP):Z=Z'/\fl=oP:=by
 rcases h with⟨p,mx,one,aI,sg,nan,x,y,hF,hm,hx,hy,hp⟩|⟨p,mx,one,aI,sg,nan,hF,hm,rfl,rfl⟩|⟨hF,rfl,rfl⟩<;>
 rcases h' with⟨p',wS,pX,ql,EM,pY,x',y',mG,I_,Nq,hy',Qs⟩|⟨p',wS,pX,ql,EM,pY,mG,I_,rfl,rfl⟩|⟨mG,rfl,rfl⟩
 .obtain⟨rfl,rfl,rfl,rfl,rfl,rfl⟩:=hF.one mG;obtain rfl:=hx.one hF Nq;obtain rfl:=hy.one hF hy';exact oK.one hp Qs
 .exfalso;omega
 .exact absurd hF.yes.symm (by simp[mG])
 .exfalso;omega
 .obtain⟨rfl,rfl,rfl,rfl,rfl,rfl⟩:=hF.one mG;exact⟨rfl,rfl⟩
 .exact absurd hF.yes.symm (by simp[mG])
 .exact absurd mG.yes.symm (by simp[hF])
 .exact absurd mG.yes.symm (by simp[hF])
 .exact⟨rfl,rfl⟩
def Oa(R:Int->Int->dM->dM->dM)(S I:Nat)(args:Array Value)(hR:∀p aj x y,VO x->VO y->0<=(R p aj x y).c /\(R p aj x y).c <=5)(f aj a b:Int)(a0:0<=a)(a1:aG a)(b0:0<=b)(b1:aG b)
  (hs:∀w,Calls Tryz.prog S args w λe w'=>∃Z fl,nJ R f aj a b Z fl/\e=X (aP Z fl)/\Gb w w')
  (hi:∀w,Fm w->Calls Tryz.prog I args w λe w'=>∃Z fl,nJ R f aj a b Z fl/\e=X (aP Z fl)/\Gr w w'):
  ∃Z fl:Int,nJ R f aj a b Z fl/\(∀w,Calls Tryz.prog S args w λe w'=>e=X (aP Z fl)/\Gb w w')/\
   (∀w,Fm w->Calls Tryz.prog I args w λe w'=>e=X (aP Z fl)/\Gr w w'):=by
 have hex:∃Z fl:Int,nJ R f aj a b Z fl:=by
  by_cases hf:f=0\/f=1
  .obtain⟨p,mx,one,aI,sg,nan,hF⟩:=eX f hf;by_cases hm:0<=aj/\aj<=4
   .obtain⟨x,hx⟩:=eu hF a a0 a1;obtain⟨y,hy⟩:=eu hF b b0 b1;obtain⟨r1,r2⟩:=hR p aj x y (bK hF hx).1 (bK hF hy).1;by_cases h5:(R p aj x y).c =5
    .exact⟨_,_,.inl ⟨p,mx,one,aI,sg,nan,x,y,hF,hm,hx,hy,.inr ⟨h5,rfl,rfl⟩⟩⟩
    .obtain⟨Z,fl,hp⟩:=zL p (1-mx) mx one aI sg nan aj _ r1 om;exact⟨Z,fl,.inl ⟨p,mx,one,aI,sg,nan,x,y,hF,hm,hx,hy,.inl hp⟩⟩
   .exact⟨_,_,.inr (.inl ⟨p,mx,one,aI,sg,nan,hF,om,rfl,rfl⟩)⟩
  .exact⟨_,_,.inr (.inr ⟨hf,rfl,rfl⟩)⟩
 obtain⟨Z,fl,h⟩:=hex;refine⟨Z,fl,h,λw=>(hs w).mono ?_,λw hw=>(hi w hw).mono ?_⟩
 .rintro e w' ⟨Z',oP,h',rfl,hg⟩;obtain⟨rfl,rfl⟩:=nJ.one h h';exact⟨rfl,hg⟩
 .rintro e w' ⟨Z',oP,h',rfl,hg⟩;obtain⟨rfl,rfl⟩:=nJ.one h h';exact⟨rfl,hg⟩
def kZ(p:Int)(o:dM)(os oe oc oh ol:Int)(ot:Bool)(of:Int):Prop:=
 (∃M:Nat,oh=((M/18446744073709551616:Nat):Int)/\ol=((M%18446744073709551616:Nat):Int)/\of=0/\o.c=oc/\0<=oc/\oc<=4/\(oc<=2->o.s=os/\(os=0\/os=1))/\
  (oc=1->0<M/\M<340282366920938463463374607431768211456/\(ot=U->p+2<=(nb M:Int))/\-100000<=oe/\oe<=100000/\∀mn mx one aI aj z fl,bH p mn mx one aI aj os M oe ot z fl↔bH p mn mx one aI aj os o.M o.e V z fl))\/
 (o.c=5/\oc=2/\o.s=os/\(os=0\/os=1)/\of=2)\/
 (o.c=0/\oc=1/\oh=0/\ol=0/\o.s=os/\(os=0\/os=1)/\of=0/\-100000<=oe/\oe<=100000)
def kZ.nan(p m:Int)(h0:3<=m)(h1:m<=4):kZ p ⟨m,0,0,0⟩ 0 0 m 0 0 V 0:=
 .inl ⟨0,rfl,rfl,rfl,rfl,om,h1,λc=>⟨rfl,.inl rfl⟩,λc=>om⟩
def kZ.flat(p:Int)(o:dM)(os oe oc:Int)(ot:Bool)(hc:o.c=oc)(c0:0<=oc)(c4:oc<=4)(c1:oc≠1)(hs:oc<=2->o.s=os/\(os=0\/os=1)):kZ p o os oe oc 0 0 ot 0:=
 .inl ⟨0,rfl,rfl,rfl,hc,c0,c4,hs,λc=>absurd c c1⟩
def kZ.self(p:Int){x:dM}(h:VO x):kZ p x x.s x.e x.c ((x.M/18446744073709551616:Nat):Int) ((x.M%18446744073709551616:Nat):Int) V 0:=
 .inl ⟨x.M,rfl,rfl,rfl,rfl,h.c0,h.c4,λ_=>⟨rfl,h.jM⟩,λc=>by
  obtain⟨a,b⟩:=h.fin c;have:=h.e0;have:=h.e1;exact⟨a,aA1 _ b,(λt=>by cases t),om,om,λ_ _ _ _ _ _ _=>Iff.rfl⟩⟩
def Fb{one nan:Int}(hm:wQ p mn mx fb sp one aI sg nan)(md:Int)(k:Nat)(hk:xU md k)(o:dM)(os oe oc oh ol:Int)(ot:Bool)(of:Int)(h:kZ p o os oe oc oh ol ot of)(w:World):
  CT 172 #[dN p mn mx md k,aU os oe oc oh ol ot of] w λe w'=>∃z fl,oK p mn mx one aI sg nan md o z fl/\e=X (aP z fl)/\Gr w w':=by
 have hp:p<=53/\0<=p:=by rcases hm with h|h<;>omega
 rcases h with⟨M,rfl,rfl,rfl,hc,c0,c4,hs,h1⟩|⟨hc,rfl,hs,aNf,rfl⟩|⟨hc,rfl,rfl,rfl,hs,aNf,rfl,e0,e1⟩
 .rcases(om:oc=0\/oc=1\/oc=2\/oc=3\/oc=4)with rfl|rfl|rfl|rfl|rfl
  .obtain⟨s1,s2⟩:=hs om;refine(aFY p mn mx md k os oe _ _ ot (sw os sg 0) (λw=>mV hm os _ ?_ w) w).mono ?_
   .rcases s2 with rfl|rfl
    .exact .inl ⟨rfl,by simp[sw]⟩
    .exact .inr ⟨rfl,by simp[sw]⟩
   .rintro r w' ⟨rfl,hg⟩;exact⟨_,_,.inl (.inl ⟨hc,by rw[s1],rfl⟩),rfl,hg⟩
  .obtain⟨s1,s2⟩:=hs om;obtain⟨m0,m1,m2,e0,e1,m3⟩:=h1 rfl;refine(Zj p mn mx md k os oe _ _ ot (λz fl=>∃z0,bH p mn mx one aI md os M oe ot z0 fl/\z=sw os sg z0) (λz fl ⟨_,h,_⟩=>h.fl) (λw=>?_) w).mono ?_
   .refine(zJ hm md md k hk os s2 oe e0 e1 M m0 m1 ot m2 w).mono ?_;rintro r w' ⟨z,fl,hr,rfl,hg⟩;exact⟨_,_,⟨z,hr,aAV _ _ _⟩,rfl,hg⟩
   .rintro r w' ⟨z,fl,⟨z0,hr,rfl⟩,rfl,hg⟩;refine⟨_,_,.inl (.inr (.inl ⟨hc,z0,?_,by rw[s1]⟩)),rfl,hg⟩;rw[s1];exact(m3 mn mx one aI md z0 fl).1 hr
  .obtain⟨s1,s2⟩:=hs om;refine(aFX p mn mx md k os oe _ _ ot (sw os sg aI) (λw=>mD hm os _ ?_ w) w).mono ?_
   .rcases s2 with rfl|rfl
    .exact .inl ⟨rfl,by simp[sw]⟩
    .exact .inr ⟨rfl,by simp[sw];omega⟩
   .rintro r w' ⟨rfl,hg⟩;exact⟨_,_,.inl (.inr (.inr (.inl ⟨hc,by rw[s1],rfl⟩))),rfl,hg⟩
  .refine(aFW p mn mx md k os oe _ _ ot nan (λw=>J5 hm w) w).mono ?_;rintro r w' ⟨rfl,hg⟩;exact⟨_,_,.inl (.inr (.inr (.inr (.inl ⟨hc,rfl,rfl⟩)))),rfl,hg⟩
  .refine(aFV p mn mx md k os oe _ _ ot nan (λw=>dh hm w) w).mono ?_;rintro r w' ⟨rfl,hg⟩;exact⟨_,_,.inl (.inr (.inr (.inr (.inr ⟨hc,rfl,rfl⟩)))),rfl,hg⟩
 .refine(aA3 p mn mx md k os oe _ _ ot 2 (sw os sg aI) (λw=>mD hm os _ ?_ w) w).mono ?_
  .rcases aNf with rfl|rfl
   .exact .inl ⟨rfl,by simp[sw]⟩
   .exact .inr ⟨rfl,by simp[sw];omega⟩
  .rintro r w' ⟨rfl,hg⟩;exact⟨_,_,.inr ⟨hc,by rw[hs],rfl⟩,rfl,hg⟩
 .refine(Zj p mn mx md k os oe _ _ ot (λz fl=>z=sw os sg 0/\fl=0) (λz fl h=>.inl h.2) (λw=>?_) w).mono ?_
  .refine(RQ hm md k os oe ot om om (sw os sg 0) (λw=>mV hm os _ ?_ w) w).mono ?_
   .rcases aNf with rfl|rfl
    .exact .inl ⟨rfl,by simp[sw]⟩
    .exact .inr ⟨rfl,by simp[sw]⟩
   .rintro r w' ⟨rfl,hg⟩;exact⟨_,_,⟨rfl,rfl⟩,rfl,hg⟩
  .rintro r w' ⟨z,fl,⟨rfl,rfl⟩,rfl,hg⟩;exact⟨_,_,.inl (.inl ⟨hc,by rw[hs],rfl⟩),rfl,hg⟩
def qH{one nan:Int}(h:bD f p mx one aI sg nan){x:dM}(hx:dF p mx one aI sg nan a x)(hc:x.c=1):∃P:Nat,(P:Int)=p/\1<=P/\P<=53/\2^(P-1)<=x.M/\x.M<2^P:=by
 rcases hx with⟨_,hu⟩|⟨_,rfl⟩
 .obtain⟨h1,h2,h3,h4,h5,h6,h7,h8,h9⟩:=qE h hu;have h10:=h8 hc;rcases h with⟨rfl,rfl,rfl,rfl,rfl,rfl,rfl⟩|⟨rfl,rfl,rfl,rfl,rfl,rfl,rfl⟩
  .have q1:2^(24-1)=8388608:=de;have q2:2^24=16777216:=de;exact⟨24,rfl,de,de,om,om⟩
  .have q1:2^(53-1)=4503599627370496:=de;have q2:2^53=9007199254740992:=de;exact⟨53,rfl,de,de,om,om⟩
 .cases hc
def E5{one nan:Int}(h:bD f p mx one aI sg nan)(aj:Int)(m0:0<=aj)(m1:aj<=4)(o:dM)(ho:o.c=1)(hs:o.s=0\/o.s=1)(m:Nat)(hM:0<m)(e:Int)(e0:-5000<=e)(e1:e<=5000)(t:Bool)(hn:p+2<=(nb m:Int))(heq:∀mn mx one aI aj z fl,bH p mn mx one aI aj o.s m e t z fl↔bH p mn mx one aI aj o.s o.M o.e V z fl)(K:Nat)(hK:K<=100000)(v:Value)(w:World)(hB:aH K w v m):
  CT 138 #[J f,J aj,.agg #[J o.s,v,J e,.bool t]] w λx w'=>∃z fl,oK p (1-mx) mx one aI sg nan aj o z fl/\x=X (aP z fl)/\Gb w w':=by
 have Tf:=aHA hB hK;obtain⟨n,C9,hb⟩:=hB;refine(I5 h hb om hM Tf aj o.s e t m0 m1 hs om om (λc=>om)).mono ?_;rintro x w' ⟨z,fl,hr,z0,z1,rfl,hg⟩;exact⟨_,_,.inl (.inr (.inl ⟨ho,z,(heq _ _ _ _ _ _ _).1 hr,rfl⟩)),rfl,hg⟩
def aK7{P:Prop}(h:P:=by
 exact⟨⟨om,om,om,om,om⟩,λc'=>om,λ_=>⟨e,om⟩⟩):P:=h
def Ph(x y:dM):Int:=or3 (kU x.c y.c) (kU x.e y.e) (kU (x.M:Int) (y.M:Int))
def oN(x y:dM):Int:=if x.s≠y.s then y.s-x.s else if x.s=1 then-Ph x y else Ph x y
def VI{a b:Nat}(h:a<=b):(2:Int)^a<=2^b:=by
 have:=fZ h;have e1:((2^a:Nat):Int)<=((2^b:Nat):Int):=om;rw[mX,mX]at e1;exact e1
def SB{one:Int}(o0:0<one)(hm:one<=m)(hg:m*2^k<2*one):k=0:=by
 rcases Nat.eq_zero_or_pos k with c|c
 .exact c
 .exfalso;have h2:=VI (om:1<=k);rw[Int.pow_one]at h2;have:=Int.mul_le_mul_of_nonneg_left h2 (om:0<=m);omega
def Qb{one:Int}(o0:0<one)(v0:0<v)(h:v<v')(hn:lW p mx one v e g)(C9:lW p mx one v' e' g'):e<e'\/e=e'/\g<g':=by
 obtain⟨k,m,e0,hm,hg,he,h1,h2⟩:=hn;obtain⟨k',m',e0',I_,dL,he',h1',h2'⟩:=C9;have Ox:=Int.emod_nonneg v (om:one≠0);have aUr:=Int.emod_nonneg v' (om:one≠0);have tK:=Int.emod_lt_of_pos v o0;have aNh:=Int.emod_lt_of_pos v' o0;rcases hm with⟨c,rfl,rfl⟩|⟨c,rfl,rfl⟩
 .rcases I_ with⟨c',rfl,rfl⟩|⟨c',rfl,rfl⟩
  .rcases Nat.lt_trichotomy k k' with d|d|d
   .exfalso;have a1:=VI (om:k+1<=k');have a2:=Int.mul_le_mul_of_nonneg_left a1 (om:0<=m');rw[Int.pow_succ,<-Int.mul_assoc]at a2;have a3:=Int.mul_le_mul_of_nonneg_right (om:m<=m') (show(0:Int)<=2^k from Int.le_of_lt (Int.pow_pos de));omega
   .subst d;have a3:=Int.mul_lt_mul_of_pos_right h (show(0:Int)<2^k from Int.pow_pos de);exact .inr ⟨om,om⟩
   .exact .inl om
  .have k1:1<=k:=by
    rcases Nat.eq_zero_or_pos k with d|d
    .subst d;rw[Int.pow_zero]at hg;omega
    .exact d
   have C_:=SB o0 (om:one<=v'%one+one) om (k:=k');have:=Int.le_ediv_of_mul_le o0 (om:1*one<=v');exact .inl om
 .rcases I_ with⟨c',rfl,rfl⟩|⟨c',rfl,rfl⟩
  .exfalso;omega
  .have hk:=SB o0 (om:one<=v%one+one) om (k:=k);have C_:=SB o0 (om:one<=v'%one+one) om (k:=k');subst hk C_;rw[Int.pow_zero,Int.mul_one]at hg dL;have d1:=Int.ediv_le_ediv o0 (om:v<=v');have m1:=Int.ediv_mul_add_emod v one;have m2:=Int.ediv_mul_add_emod v' one;by_cases q:v/one=v'/one
   .rw[q]at m1 he;exact .inr ⟨om,om⟩
   .exact .inl om
def F6(aI sg a:Int)(x:dM)(v:Int):Prop:=(x.s=0/\a=v\/x.s=1/\a=v+sg)/\0<=v/\v<=aI/\(x.c=0↔v=0)/\(x.c=2↔v=aI)
def xw{one nan:Int}(h:bD f p mx one aI sg nan)(a0:0<=a){x:dM}(hx:dF p mx one aI sg nan a x)(hc:x.c<=2):a<2*sg/\∃v,F6 aI sg a x v/\(x.c=1->lW p mx one v x.e (x.M:Int))/\(x.c≠1->x.e=0/\x.M=0):=by
 have hb:=h.bounds;rcases hx with⟨ha,v,hs,hv⟩|⟨_,rfl⟩
 .refine⟨ha,v,?_⟩;unfold F6;rcases hv with⟨q,c,e,m⟩|⟨_,_,c,_⟩|⟨_,c,_⟩|⟨q,c,e,m⟩|⟨q0,q1,c,hn⟩
  .exact aK7
  .exfalso;omega
  .exfalso;omega
  .exact aK7
  .exact⟨⟨om,om,om,om,om⟩,λ_=>hn,λc'=>om⟩
 .exfalso;dsimp only at hc;omega
def aGl{one nan:Int}(h:bD f p mx one aI sg nan){x y:dM}(hx:F6 aI sg a x v)(hy:F6 aI sg b y u)(x0:0<=x.c)(y0:0<=y.c)(xc:x.c<=2)(yc:y.c<=2)
  (nx:x.c=1->lW p mx one v x.e (x.M:Int)) (zx:x.c≠1->x.e=0/\x.M=0) (ny:y.c=1->lW p mx one u y.e (y.M:Int)) (zy:y.c≠1->y.e=0/\y.M=0):Ph x y=kU v u:=by
 obtain⟨s1,v0,v1,a1,a2⟩:=hx;obtain⟨t1,u0,u1,b1,b2⟩:=hy;have hb:=h.bounds;unfold Ph or3;rcases Int.lt_trichotomy x.c y.c with c|c|c
 .rw[xO c,if_pos de,xO (by omega)]
 .rw[uJ c,if_neg (by decide)];by_cases c1:x.c=1
  .have n1:=nx c1;have n2:=ny om;rcases Int.lt_trichotomy v u with d|d|d
   .rw[xO d];rcases Qb om om d n1 n2 with e|⟨e,e'⟩
    .rw[xO e,if_pos (by decide)]
    .rw[uJ e,if_neg de,xO e']
   .subst d;obtain⟨e,e'⟩:=lW.one om om n1 n2;rw[uJ e,if_neg de,uJ e',wJ]
   .rw[xP d];rcases Qb om om d n2 n1 with e|⟨e,e'⟩
    .rw[xP e,if_pos (by decide)]
    .rw[uJ e.symm,if_neg de,xP e']
  .obtain⟨e1,e2⟩:=zx c1;obtain⟨e3,e4⟩:=zy om;rw[e1,e2,e3,e4,wJ,if_neg de,wJ,uJ (by omega)]
 .rw[xP c,if_pos de,xP (by omega)]
def VT{one nan:Int}(h:bD f p mx one aI sg nan)(a0:0<=a)(b0:0<=b){x y:dM}(hx:dF p mx one aI sg nan a x)(hy:dF p mx one aI sg nan b y)(xc:x.c<=2)(yc:y.c<=2):
  ∃v u,F6 aI sg a x v/\F6 aI sg b y u/\Ph x y=kU v u:=by
 obtain⟨_,v,w1,n1,z1⟩:=xw h a0 hx xc;obtain⟨_,u,w2,n2,z2⟩:=xw h b0 hy yc;exact⟨v,u,w1,w2,aGl h w1 w2 (bK h hx).1.c0 (bK h hy).1.c0 xc yc n1 z1 n2 z2⟩
def aBp{one nan:Int}(h:bD f p mx one aI sg nan):∃P:Nat,p=P+1/\one=((2^P:Nat):Int)/\P<=52:=by
 rcases h with h|h
 .exact⟨23,om,by rw[h.2.2.2.1];decide,om⟩
 .exact⟨52,om,by rw[h.2.2.2.1];decide,om⟩
def aMP{one nan:Int}(h:bD f p mx one aI sg nan){u:dM}(hu:dF p mx one aI sg nan v u)(l:Nat)(E:Int)(hE:1-mx<=E)(hl:(l:Int)<=2*one)(hb:E=1-mx\/one<=(l:Int))(hv:v=(l:Int)+one*(E-(1-mx)))(v1:v<aI):
  u.s=0/\(u.c=0\/u.c=1)/\nv u.M u.e=nv l (E-p+1):=by
 obtain⟨P,hp,ho,hP⟩:=aBp h;have AV:=h.bounds;have hk0:0<=one*(E-(1-mx)):=Int.mul_nonneg om om;rcases hu with⟨_,v',hs,hv'⟩|⟨c,_⟩
 .have WT:u.s=0/\v'=v:=om;refine⟨WT.1,?_⟩;rw[WT.2]at hv';rcases hv' with⟨e0,c0,_,hM⟩|⟨_,_,c0,_⟩|⟨_,c0,_⟩|⟨_,c0,_⟩|⟨v0,_,c0,hn⟩
  .refine⟨.inl c0,?_⟩;have Z4:l=0:=om;have hM0:u.M=0:=om;rw[Z4,hM0];unfold nv;simp
  .exfalso;omega
  .exfalso;omega
  .exfalso;omega
  .refine⟨.inr c0,?_⟩;obtain⟨_,_,n0,_⟩:=IV h v0 v1 hn;obtain⟨k,m,e0,hm,hg,he,_,_⟩:=hn;obtain⟨m0,hsv⟩:=aH0 l P hp ho hE hl hb hv om hm;have hM:u.M=m.toNat*2^k:=by
    have h1:((u.M:Nat):Int)=((m.toNat*2^k:Nat):Int):=by
     rw[hg,Int.natCast_mul,Int.toNat_of_nonneg m0,Int.natCast_pow];rfl
    exact Int.ofNat.inj h1
   rw[hM,he,VY _ _ _ (by omega)];exact hsv
 .exfalso;omega
def aK6{P:Prop}(h:P:=by
 rcases h with⟨rfl,rfl,rfl,rfl,rfl,rfl,rfl⟩|⟨rfl,rfl,rfl,rfl,rfl,rfl,rfl⟩<;>omega):P:=h
def bV(aj:Int)(x:dM):Nat:=chosen aj x.s (dw x.M x.e 0) (bg x.M x.e 0 V)
def iY(x:dM):Bool:=decide (0<bg x.M x.e 0 V)
def sN(aj:Int)(x:dM):dM:=if x.c=1/\x.e<0 then(if bV aj x=0 then⟨0,x.s,0,0⟩else⟨1,x.s,0,bV aj x⟩)else x
def xJ(M:Nat)(e q:Int)(h:q<=e):bg M e q V=0:=by unfold bg;rw[if_pos h];rfl
def ET{x:dM}(h:0<=x.e):iY x=V:=by unfold iY;rw[xJ _ _ _ h];rfl
def sD{x:dM}(h:0<=x.e):bV aj x=x.M*2^x.e.toNat:=by
 unfold bV;rw[xJ _ _ _ h,lQ];unfold dw;rw[if_pos h,Int.sub_zero]
def aBL{x:dM}(h:x.e<0)(hM:x.M<2^(P+1)):bV aj x<=2^P:=by
 have h1:=(kQ aj x.s (dw x.M x.e 0) (bg x.M x.e 0 V)).2;have h2:dw x.M x.e 0<2^P:=by
  unfold dw;rw[if_neg om,Nat.div_lt_iff_lt_mul (Nat.pow_pos de),<-Nat.pow_add];have:=fZ (om:P+1<=P+(0-x.e).toNat);omega
 unfold bV;omega
def Ur{one nan:Int}(h:bD f p mx one aI sg nan)(s:Int)(M:Nat)(h0:0<M)(h1:(M:Int)<=2*one):
  ∃z,0<z/\z<aI/\∀aj,bH p (1-mx) mx one aI aj s M 0 V z 0:=by
 obtain⟨P,hP,aJu,AQ⟩:=h.pow;have Qu:one=((2^P:Nat):Int):=by rw[Ai];exact AQ
 have aBm:2^(P+1)=2*2^P:=by rw[Nat.pow_succ];omega
 have hb:=h.bounds;have n0:=BP M h0;have hM1:M<=2^(P+1):=om;have hn:nb M<=P+2:=sW (by
  rw[show P+2=(P+1)+1 from rfl,Nat.pow_succ];have:=Nat.pow_pos (n:=P+1) (show 0<2 by decide);omega)
 obtain⟨q,hq⟩:=dK ((nb M:Int)+0-1-p+1:Int);have uH:bg M 0 q V=0:=by
  by_cases c:q<=0
  .exact xJ _ _ _ c
  .have hq1:(q-0).toNat =1:=om;have hM2:M=2^(P+1):=by
    rcases Nat.lt_or_ge M (2^(P+1))with d|d
    .have:=sW d;omega
    .omega
   unfold bg;rw[if_neg c,hq1];exact DZ M 1 de (by rw[hM2,aBm];omega)
 have Uf:dw M 0 q<2^(P+1):=qW M 0 q (P+1) om;have aUy:2^P<=dw M 0 q:=NV M 0 q P h0 om;refine⟨(dw M 0 q:Nat)+one*((nb M:Int)+0-1-(1-mx)),?_,?_,λaj=>?_⟩
 .have:=Int.mul_nonneg (om:0<=one) (om:0<=(nb M:Int)+0-1-(1-mx));omega
 .exact aK6
 .refine⟨(nb M:Int)+0-1,(nb M:Int)+0-1,dw M 0 q,_,0,rfl,.inr ⟨om,rfl⟩,by rw[hq,uH],by rw[hq,lQ],rfl,.inr (.inr ⟨om,?_,rfl,.inl ⟨rfl,rfl⟩⟩)⟩;exact aK6
def kV(s:Int)(M:Nat):Int:=if s=1/\M≠0 then 18446744073709551616-(M:Int)else(M:Int)
def DT(aF s:Int):fH aF s<18446744073709551616:=by
 unfold fH
 repeat' split
 all_goals decide
def aEz{P:Prop}(h:P:=by
 go_enter func95,ntmps95;go_wp2_with (first|(go_at_call 170;refine ku (HS _ Gr.g) λw1 ak=>?_;have wC:=ak.bG w;have iR:=au wC.1)|(go_at_call 168;refine ku (HF _ Gr.g) λw2 aB=>?_;have CZ:=aB.bG w;have:=aB.K50 w1;have lA:=dU CZ.1;have lu:=au CZ.1)|(go_at_call 171;refine ku (HN _) λw3 aK=>?_;have jT:=aK.bG w))
 exact bW (by simp[results,Tryz.results95,go_sem,jT])):P:=h
def Ky{P:Prop}(h:P:=by
 go_enter func70,ntmps70;go_wp2_with (first|(go_at_call 50;refine kw (Kq _) ?_)|(go_at_call 136;refine ku (HL _) λw9 bM=>?_;have iQ:=bM.bG w)|(go_at_call 135;refine kw (QM _) ?_)|(go_at_call 61;refine kw (HF _) ?_)|(go_at_call 126;refine ku (HU _) λw1 ak=>?_;have Jp:=ak.bG w;have lF:=au Jp.1)|(go_at_call 140;refine ku (HQ _) λva aO=>?_;have:=aO.bG w;have:=aO.fG w1)|(go_at_call 141;refine ku (HL _) λw9 bM=>?_;have iQ:=bM.bG w)|(go_at_call 142;refine ku (HL _) λw9 bM=>?_;have iQ:=bM.bG w)|(go_at_call 137;refine ku (HL _) λw9 bM=>?_;have iQ:=bM.bG w)|(go_at_call 144;refine(HN _).mono ?_;rintro e w3 ⟨b,k,cc,hb,rfl,aK⟩;have:=aK.bG w)|(go_at_call 138;refine(HR _ _ hb).mono ?_;rintro e w4 ⟨z,fl,hq,rfl,aV⟩;have iQ:=aV.bG w))
 first|(exact dI (by simp[results,Tryz.results70,go_sem,iQ]))|(refine bodyPost_ret (v:=aP z fl) (by simp[results,Tryz.results70,go_sem,iQ]) rfl ⟨z,fl,hq,rfl,?_⟩;exact Gb.g)):P:=h
def Y3(f t aj a z fl:Int)(Kq:KW 50 #[J t] (.bool V))(HL:oJ t z fl)(w:World):
  Oj f t aj a w z fl:=by
 exact Ky
def Y1(f t aj a z fl:Int)(Kq:KW 50 #[J t] (.bool U))(QM:lV aj V)(HL:oJ t z fl)(w:World):
  Oj f t aj a w z fl:=by
 exact Ky
def LG(f t aj a z fl:Int)(Kq:KW 50 #[J t] (.bool U))(QM:lV aj U)(HF:dZ f a V)(HL:oJ t z fl)(w:World):
  Oj f t aj a w z fl:=by
 exact Ky
def aCB(f t aj a c s x g z fl:Int)(b:Bool)(Kq:KW 50 #[J t] (.bool U))(QM:lV aj U)(HF:dZ f a U)(HU:bP f a c s x g)(HQ:bQ c s x g U)(e4:(c==4)=b)(HL:oU t b z fl)(w:World):
  Oj f t aj a w z fl:=by
 exact Ky
def aCC(f t aj a c s x g z fl:Int)(Kq:KW 50 #[J t] (.bool U))(QM:lV aj U)(HF:dZ f a U)(HU:bP f a c s x g)(HQ:bQ c s x g V)(e2:c=2)(HL:EC t s z fl)(w:World):
  Oj f t aj a w z fl:=by
 subst e2;exact Ky
def YZ(f t aj a c s x g z fl:Int)(Kq:KW 50 #[J t] (.bool U))(QM:lV aj U)(HF:dZ f a U)(HU:bP f a c s x g)(HQ:bQ c s x g V)(e2:c=0)(HL:yG t s z fl)(w:World):
  Oj f t aj a w z fl:=by
 subst e2;exact Ky
def aCA(f t aj a c s x g:Int)(M:Nat)(Kq:KW 50 #[J t] (.bool U))(QM:lV aj U)(HF:dZ f a U)(HU:bP f a c s x g)(HQ:bQ c s x g V)(e2:c=1)(HN:Hid (∀w,CT 144 #[d_ c s x g] w λe w'=>∃b k cc,aH 2 w' (aC b k cc) M/\e=X (.agg #[J s,aC b k cc,J x,.bool V])/\Gb w w'))(Q:Int->Int->Prop)(HR:Hid (∀v w,aH 2 w v M->CT 138 #[J t,J aj,.agg #[J s,v,J x,.bool V]] w (Dy Q w)))(w:World):
  CT 70 #[J f,J t,J aj,Y O a] w (Dy Q w):=by
 subst e2;exact Ky
def Xt(p mn mx md nan f t aj a p' Wj wS:Int)(k:Nat)(HS:Hid (∀w',Gr w w'->QR 170 #[J t,J aj] w' (.tuple #[.agg #[J p,J mn,J mx,J md,Value.nilFunc],.bool V])))(HF:Hid (∀w',Gr w w'->Ji f w' p' Wj wS V))(HN:F8 p mn mx nan 1):
  QR 95 #[J f,J t,J aj,Y O a] w (aP nan 1):=by
 exact aEz
def Xr(p mn mx md nan f t aj a p' Wj wS:Int)(k:Nat)(HS:Hid (∀w',Gr w w'->QR 170 #[J t,J aj] w' (.tuple #[.agg #[J p,J mn,J mx,J md,Value.nilFunc],.bool V])))(HF:Hid (∀w',Gr w w'->Ji f w' p' Wj wS U))(HN:F8 p mn mx nan 1):
  QR 95 #[J f,J t,J aj,Y O a] w (aP nan 1):=by
 exact aEz
def aHr(p mn mx md nan f t aj a p' Wj wS:Int)(k:Nat)(HS:Hid (∀w',Gr w w'->yw t aj w' p mn mx md k U))(HF:Hid (∀w',Gr w w'->Ji f w' p' Wj wS V))(HN:F8 p mn mx nan 1):
  QR 95 #[J f,J t,J aj,Y O a] w (aP nan 1):=by
 exact aEz
def aJR(p mn mx md f t a p' Wj wS sx ex cx xh xl:Int)(tx:Bool)(k:Nat)(HS:Hid (∀w',Gr w w'->rV t md w' p mn mx k U))(HF:Hid (∀w',Gr w w'->Ji f w' p' Wj wS U))
  (HA:pJ p' Wj wS a sx ex cx xh xl tx 0)
  (R:Int->Int->Prop) (HP:Hid (∀w,CT 172 #[dN p mn mx md k,aU sx ex cx xh xl tx 0] w (vS R w))):
  CT 95 #[J f,J t,J md,Y O a] w (vS R w):=by
 go_enter func95,ntmps95;go_wp2_with (first|(go_at_call 170;refine ku (HS _ Gr.g) λw1 ak=>?_;have wC:=ak.bG w;have iR:=au wC.1)|(go_at_call 168;refine ku (HF _ Gr.g) λw2 aB=>?_;have CZ:=aB.bG w;have:=aB.K50 w1;have lA:=dU CZ.1;have lu:=au CZ.1))
 go_region_held3 (λw'=>rC w' w1.heap.size 0 1 2 3 4 (J p) (J mn) (J mx) (J md) (.func (.func k) #[] #[])/\jv w' w2.heap.size 0 1 2 (J p') (J Wj) (J wS))(exact o8)(first|(go_at_call 174;refine ku (HA _) λw3 aK=>?_;have:=aK.bG w)|(go_at_call 172;refine(HP _).mono ?_;rintro e w4 ⟨z,fl,hr,rfl,aV⟩;have PE:=aV.bG w))
 all_goals go_wp2
 all_goals
  refine bodyPost_ret (v:=aP z fl) (by simp[results,Tryz.results95,go_sem,PE]) rfl ⟨z,fl,hr,rfl,?_⟩;exact Gr.g
def aK8{P:Prop}(h:P:=by
 rintro e aT ⟨rfl,dL⟩;exact⟨_,_,.inr (.inl ⟨p,mx,one,aI,sg,nan,hF,.inl hm,rfl,rfl⟩),rfl,dL⟩):P:=h
def t_(f t aj a Z fl:Int):Prop:=
 (∃p mx one aI sg nan p' wS pX ql EM pY x,bD t p mx one aI sg nan/\(0<=aj/\aj<=4)/\bD f p' wS pX ql EM pY/\dF p' wS pX ql EM pY a x/\bY p (1-mx) mx one aI sg nan aj x Z fl)\/
 (∃p mx one aI sg nan,bD t p mx one aI sg nan/\(¬(0<=aj/\aj<=4)\/¬(f=0\/f=1))/\Z=nan/\fl=1)\/
 (¬(t=0\/t=1)/\Z=9221120237041090560/\fl=1)
def t_.one(h:t_ f t aj a Z fl)(h':t_ f t aj a Z' oP):Z=Z'/\fl=oP:=by
 rcases h with⟨p,mx,one,aI,sg,nan,q,mq,oq,iq,sq,nq,x,hF,hm,hG,hx,hp⟩|⟨p,mx,one,aI,sg,nan,hF,hm,rfl,rfl⟩|⟨hF,rfl,rfl⟩<;>
 rcases h' with⟨p',wS,pX,ql,EM,pY,q',mq',oq',iq',sq',nq',x',mG,I_,hG',Nq,Qs⟩|⟨p',wS,pX,ql,EM,pY,mG,I_,rfl,rfl⟩|⟨mG,rfl,rfl⟩
 .obtain⟨rfl,rfl,rfl,rfl,rfl,rfl⟩:=hF.one mG;obtain⟨rfl,rfl,rfl,rfl,rfl,rfl⟩:=hG.one hG';obtain rfl:=hx.one hG Nq;exact bY.one hp Qs
 .have:=hG.yes;rcases I_ with h|h
  .exact absurd hm h
  .exact absurd (of_decide_eq_true this.symm) h
 .exact absurd hF.yes.symm (by simp[mG])
 .have:=hG'.yes;rcases hm with h|h
  .exact absurd I_ h
  .exact absurd (of_decide_eq_true this.symm) h
 .obtain⟨rfl,rfl,rfl,rfl,rfl,rfl⟩:=hF.one mG;exact⟨rfl,rfl⟩
 .exact absurd hF.yes.symm (by simp[mG])
 .exact absurd mG.yes.symm (by simp[hF])
 .exact absurd mG.yes.symm (by simp[hF])
 .exact⟨rfl,rfl⟩
def JE(f t aj a:Int)(a0:0<=a)(a1:aG a)(w:World)(hw:Fm w):
  CT 95 #[J f,J t,J aj,Y O a] w λe w'=>∃Z fl,t_ f t aj a Z fl/\e=X (aP Z fl)/\Gr w w':=by
 have FO:(∃p' wS pX ql EM pY Wj NP sp',bD f p' wS pX ql EM pY/\wQ p' Wj wS NP sp' pX ql EM pY)\/¬(f=0\/f=1):=by
  by_cases hf:f=0\/f=1
  .obtain⟨p,mx,one,aI,sg,nan,hF⟩:=eX f hf;obtain⟨mn,fb,sp,hM,_,_⟩:=hF.m;exact .inl ⟨_,_,_,_,_,_,_,_,_,hF,hM⟩
  .exact .inr hf
 by_cases ht:t=0\/t=1
 .obtain⟨p,mx,one,aI,sg,nan,hF⟩:=eX t ht;obtain⟨mn,fb,sp,hM,zU,PD⟩:=hF.m;by_cases hm:0<=aj/\aj<=4
  .obtain⟨k,hk⟩:=kW aj hm.1 hm.2;rcases FO with⟨p',wS,pX,ql,EM,pY,Wj,NP,sp',hG,hM'⟩|hf
   .obtain⟨x,hx,HA⟩:=jf hG hM' a a0 a1;obtain⟨v1,v2,v3,v4,v5,v6⟩:=bK hG hx;refine(aJR p mn mx aj f t a p' Wj wS _ _ _ _ _ _ k (λaT dL=>dV hF hM aj k (λw=>gW aj k hk w) (hw.gr dL)) (λaT dL=>mJ hG hM' (hw.gr dL)) HA (bY p mn mx one aI sg nan aj x) (λw=>oz hM aj k hk x _ _ _ _ _ _ v1.same w)).mono ?_;rintro e aT ⟨Z,fl,hp,rfl,dL⟩;rw[zU]at hp;exact⟨_,_,.inl ⟨p,mx,one,aI,sg,nan,_,_,_,_,_,_,x,hF,hm,hG,hx,hp⟩,rfl,dL⟩
   .refine(aHr p mn mx aj nan f t aj a 0 0 0 k (λaT dL=>dV hF hM aj k (λw=>gW aj k hk w) (hw.gr dL)) (λaT dL=>nO f hf aT) (λw=>dh hM w)).mono ?_;rintro e aT ⟨rfl,dL⟩;exact⟨_,_,.inr (.inl ⟨p,mx,one,aI,sg,nan,hF,.inr hf,rfl,rfl⟩),rfl,dL⟩
  .rcases FO with⟨p',wS,pX,ql,EM,pY,Wj,NP,sp',hG,hM'⟩|hf
   .refine(Xr p mn mx aj nan f t aj a p' Wj wS 0 (λaT dL=>gJ hF hM aj (λw=>jR aj om w) (hw.gr dL)) (λaT dL=>mJ hG hM' (hw.gr dL)) (λw=>dh hM w)).mono ?_;exact aK8
   .refine(Xt p mn mx aj nan f t aj a 0 0 0 0 (λaT dL=>gJ hF hM aj (λw=>jR aj om w) (hw.gr dL)) (λaT dL=>nO f hf aT) (λw=>dh hM w)).mono ?_;exact aK8
 .rcases FO with⟨p',wS,pX,ql,EM,pY,Wj,NP,sp',hG,hM'⟩|hf
  .refine(Xr _ _ _ _ _ f t aj a p' Wj wS 0 (λaT dL=>dP t aj ht (hw.gr dL)) (λaT dL=>mJ hG hM' (hw.gr dL)) (λw=>dh m64 w)).mono ?_;rintro e aT ⟨rfl,dL⟩;exact⟨_,_,.inr (.inr ⟨ht,rfl,rfl⟩),rfl,dL⟩
  .refine(Xt _ _ _ _ _ f t aj a 0 0 0 0 (λaT dL=>dP t aj ht (hw.gr dL)) (λaT dL=>nO f hf aT) (λw=>dh m64 w)).mono ?_;rintro e aT ⟨rfl,dL⟩;exact⟨_,_,.inr (.inr ⟨ht,rfl,rfl⟩),rfl,dL⟩
def Jw(f t aj a:Int)(a0:0<=a)(a1:aG a)(w:World):
  CT 70 #[J f,J t,J aj,Y O a] w λe w'=>∃Z fl,t_ f t aj a Z fl/\e=X (aP Z fl)/\Gb w w':=by
 by_cases ht:t=0\/t=1
 .obtain⟨p,mx,one,aI,sg,nan,hF⟩:=eX t ht;have Kq:KW 50 #[J t] (.bool U):=λw=>jh t U (by simp[ht]) w;by_cases hm:0<=aj/\aj<=4
  .have QM:lV aj U:=λw=>l7 aj U (by simp[hm]) w;by_cases hf:f=0\/f=1
   .obtain⟨p',wS,pX,ql,EM,pY,hG⟩:=eX f hf;obtain⟨x,hx⟩:=eu hG a a0 a1;obtain⟨v1,v2,v3,v4,v5,v6⟩:=bK hG hx;have xc0:=v1.c0;have xc4:=v1.c4;have fin:∀Z fl,bY p (1-mx) mx one aI sg nan aj x Z fl->t_ f t aj a Z fl:=λZ fl hp=>.inl ⟨p,mx,one,aI,sg,nan,_,_,_,_,_,_,x,hF,hm,hG,hx,hp⟩;by_cases fa:a<2*EM
    .have yK:dZ f a U:=λw=>fO hG a a0 fa w;have HU:=iH hG a a0 fa hx;have HQ:∀(b:Bool),b=decide (3<=x.c)->bQ x.c x.s x.e (((x.M:Nat):Int)) b:=λb hb w=>iF _ _ _ _ b hb w;by_cases cn:3<=x.c
     .refine(aCB f t aj a _ _ _ _ nan _ (decide (x.c=4)) Kq QM yK HU (HQ U (by simp[cn])) (bq _ _) (λw=>lZ hF _ _ rfl w) w).mono ?_;rintro e w' ⟨rfl,hg⟩;refine⟨_,_,fin _ _ ?_,rfl,hg⟩;by_cases c4:x.c=4
      .rw[if_pos (by simp[c4])];exact .inr (.inr (.inr (.inr ⟨c4,rfl,rfl⟩)))
      .rw[if_neg (by simp[c4])];exact .inr (.inr (.inr (.inl ⟨om,rfl,rfl⟩)))
     .have hQ:=HQ V jl;rcases(om:x.c=0\/x.c=1\/x.c=2)with c|c|c
      .refine(YZ f t aj a _ _ _ _ (sw x.s sg 0) 0 Kq QM yK HU hQ c (λw=>jJ hF x.s v1.jM w) w).mono ?_;rintro e w' ⟨rfl,hg⟩;exact⟨_,_,fin _ _ (.inl ⟨c,rfl,rfl⟩),rfl,hg⟩
      .refine(aCA f t aj a _ _ _ _ x.M Kq QM yK HU hQ c (λw=>lY _ _ _ x.M om w) (bY p (1-mx) mx one aI sg nan aj x) (λv w hB=>mW hF aj hm.1 hm.2 x c v1.jM (v1.fin c).1 om om 2 om v w hB) w).mono ?_;rintro e w' ⟨Z,fl,hp,rfl,hg⟩;exact⟨_,_,fin _ _ hp,rfl,hg⟩
      .refine(aCC f t aj a _ _ _ _ (sw x.s sg aI) 0 Kq QM yK HU hQ c (λw=>dQ hF x.s v1.jM w) w).mono ?_;rintro e w' ⟨rfl,hg⟩;exact⟨_,_,fin _ _ (.inr (.inr (.inl ⟨c,rfl,rfl⟩))),rfl,hg⟩
    .have zT:f=0/\4294967296<=a:=by rcases hG with⟨rfl,rfl,rfl,rfl,rfl,rfl,rfl⟩|⟨rfl,rfl,rfl,rfl,rfl,rfl,rfl⟩<;>omega
     refine(LG f t aj a nan 1 Kq QM (λw=>iV f a a0 (.inr zT) w) (λw=>cO hF w) w).mono ?_;rintro e w' ⟨rfl,hg⟩;have:=jd hG hx om;exact⟨_,_,fin _ _ (iW (by rw[this])),rfl,hg⟩
   .refine(LG f t aj a nan 1 Kq QM (λw=>iV f a a0 (.inl hf) w) (λw=>cO hF w) w).mono ?_;rintro e w' ⟨rfl,hg⟩;exact⟨_,_,.inr (.inl ⟨p,mx,one,aI,sg,nan,hF,.inr hf,rfl,rfl⟩),rfl,hg⟩
  .refine(Y1 f t aj a nan 1 Kq (λw=>l7 aj V jl w) (λw=>cO hF w) w).mono ?_;rintro e w' ⟨rfl,hg⟩;exact⟨_,_,.inr (.inl ⟨p,mx,one,aI,sg,nan,hF,.inl hm,rfl,rfl⟩),rfl,hg⟩
 .refine(Y3 f t aj a _ 1 (λw=>jh t V jl w) (λw=>lN t ht w) w).mono ?_;rintro e w' ⟨rfl,hg⟩;exact⟨_,_,.inr (.inr ⟨ht,rfl,rfl⟩),rfl,hg⟩
def aJS(f t aj a:Int)(a0:0<=a)(a1:aG a):∃Z fl,t_ f t aj a Z fl:=by
 by_cases ht:t=0\/t=1
 .obtain⟨p,mx,one,aI,sg,nan,hF⟩:=eX t ht;by_cases hm:0<=aj/\aj<=4
  .by_cases hf:f=0\/f=1
   .obtain⟨p',wS,pX,ql,EM,pY,hG⟩:=eX f hf;obtain⟨x,hx⟩:=eu hG a a0 a1;have v1:=(bK hG hx).1;obtain⟨Z,fl,hp⟩:=zL p (1-mx) mx one aI sg nan aj x v1.c0 v1.c4;exact⟨Z,fl,.inl ⟨p,mx,one,aI,sg,nan,_,_,_,_,_,_,x,hF,hm,hG,hx,hp⟩⟩
   .exact⟨_,_,.inr (.inl ⟨p,mx,one,aI,sg,nan,hF,.inr hf,rfl,rfl⟩)⟩
  .exact⟨_,_,.inr (.inl ⟨p,mx,one,aI,sg,nan,hF,.inl hm,rfl,rfl⟩)⟩
 .exact⟨_,_,.inr (.inr ⟨ht,rfl,rfl⟩)⟩
def aDN(f t aj a:Int)(a0:0<=a)(a1:aG a):
  ∃Z fl:Int,t_ f t aj a Z fl/\(∀w,Oj f t aj a w Z fl)/\
   (∀w,Fm w->QR 95 #[J f,J t,J aj,Y O a] w (aP Z fl)):=by
 obtain⟨Z,fl,h⟩:=aJS f t aj a a0 a1;refine⟨Z,fl,h,λw=>(Jw f t aj a a0 a1 w).mono ?_,λw hw=>(JE f t aj a a0 a1 w hw).mono ?_⟩
 .rintro e w' ⟨Z',oP,h',rfl,hg⟩;obtain⟨rfl,rfl⟩:=t_.one h h';exact⟨rfl,hg⟩
 .rintro e w' ⟨Z',oP,h',rfl,hg⟩;obtain⟨rfl,rfl⟩:=t_.one h h';exact⟨rfl,hg⟩
