import Derived.Test.YtmiekgjgpmfekaaGreatDoorN3
set_option linter.all false
namespace Go.Proofs.YtmiekgjgpmfekaaGreatDoor
open Go.RowKit
variable{x s B y S b p r d e q a z0 z1 hf t P K z0' z1' y0 y1 Hc D A1 A2 B1 B2 c t1 t2 y0' y1' A T Bx X Y C1 D1 D2 E1 E2 F1 M φ μ pr AB C:Int}{k n i m j:Nat}{f g F cf cg H:Nat->Int}
theorem aCD{P:Prop}(h:P:=by
 have:B*1<=B*(4:Int)^(k+1-1):=Int.mul_le_mul_of_nonneg_left om om;omega):P:=h
theorem aCE{P:Prop}(h:P:=by
 refine In'.div S0 ?_;rw[Int.add_mul];exact⟨by have:=h.1;have:=h'.1;omega,by have:=h.2;have:=h'.2;omega⟩):P:=h
theorem aCF{P:Prop}(h:P:=by
 rw[<-Int.sub_mul,<-Int.neg_mul];exact⟨Int.mul_le_mul_of_nonneg_right h.1 om,Int.mul_le_mul_of_nonneg_right h.2 om⟩):P:=h
theorem aCG{P:Prop}(h:P:=by
 have:B*S<=4503599627370496*U*S:=Int.mul_le_mul_of_nonneg_right om om;exact⟨by have:=h.1;omega,by have:=h.2;omega⟩):P:=h
theorem aCH{P:Prop}(h:P:=by
 have p2:(1:Int)<=2^(k+2):=Int.pow_pos de;have:(d+12*U)*1<=(d+12*U)*2^(k+2):=Int.mul_le_mul_of_nonneg_left p2 om;omega):P:=h
def Nr(x y e:Int):Prop:=-e<=x-y/\x-y<=e
def In'(x b:Int):Prop:=-b<=x/\x<=b
theorem jU{k:Int}(h0:-e<=d)(h1:d<=e)(k0:-K<=k)(k1:k<=K):-(K*e)<=k*d/\k*d<=K*e:=by
 have a1:=Int.mul_nonneg (show 0<=K-k by omega) (show 0<=e+d by omega);have a2:=Int.mul_nonneg (show 0<=K+k by omega) (show 0<=e-d by omega);have a3:=Int.mul_nonneg (show 0<=K-k by omega) (show 0<=e-d by omega);have a4:=Int.mul_nonneg (show 0<=K+k by omega) (show 0<=e+d by omega);simp only[Int.mul_add,Int.mul_sub,Int.add_mul,Int.sub_mul]at a1 a2 a3 a4;omega
theorem In'.mul(h:In' x b)(h':In' y c):In' (x*y) (b*c):=by
 have:=jU h'.1 h'.2 h.1 h.2;exact this
theorem Nr.mul{k:Int}(h:Nr x y e)(hk:In' k K):Nr (k*x) (k*y) (K*e):=by
 have:=jU h.1 h.2 hk.1 hk.2;unfold Nr;rw[Int.mul_sub]at this;exact this
theorem Jo(hS:0<S)(h:x*S<=y*S):x<=y:=Int.le_of_mul_le_mul_right h hS
theorem Nr.div(hS:0<S)(h:Nr (x*S) (y*S) (e*S)):Nr x y e:=by
 obtain⟨h0,h1⟩:=h;rw[<-Int.sub_mul]at h0 h1;rw[<-Int.neg_mul]at h0;exact⟨Jo hS h0,Jo hS h1⟩
theorem In'.div(hS:0<S)(h:In' (x*S) (e*S)):In' x e:=by
 obtain⟨h0,h1⟩:=h;rw[<-Int.neg_mul]at h0;exact⟨Jo hS h0,Jo hS h1⟩
structure Ap (o:Ops) (V:Int->Int->Prop) (U:Int):Prop where
 u0:0<U
 add:∀{a b x y:Int},V a x->V b y->In' (x+y) (4503599627370496*U)->∃z,V (o.add a b) z/\Nr z (x+y) U
 sub:∀{a b x y:Int},V a x->V b y->In' (x-y) (4503599627370496*U)->∃z,V (o.sub a b) z/\Nr z (x-y) U
 mul:∀{a b x y:Int},V a x->V b y->In' (x*y) (4503599627370496*U*(4194304*U))->∃z,V (o.mul a b) z/\Nr (z*(4194304*U)) (x*y) (U*(4194304*U))
 tn:∀{a x:Int},V a x->V (nO a) (-x)
 fn:∀{a x y:Int},V a x->V a y->x=y
 half:V jo (2097152*U)
def VC(V:Int->Int->Prop)(a:Int × Int)(p q:Int):Prop:=V a.1 p/\V a.2 q
def Rts(o:Ops)(V:Int->Int->Prop)(U:Int):Prop:=∀k j:Nat,2<=k->k<=6->4*j<2^k->∃r s,VC V (o.rt k (2*j)) r s/\In' r (4194304*U)/\In' s (4194304*U)/\Nr (4194304*(r*r+s*s)) (4194304*(4194304*U*(4194304*U))) (U*(4194304*U))
variable {o:Ops} {V:Int->Int->Prop} {U:Int}
theorem Ap.cMul(H:Ap o V U){a b:Int × Int}(ha:VC V a p q)(hb:VC V b r s)(hB:B<=1125899906842624*U)
  (h1:In' (p*r) (B*(4194304*U))) (h2:In' (q*s) (B*(4194304*U))) (h3:In' (p*s) (B*(4194304*U))) (h4:In' (q*r) (B*(4194304*U))):
  ∃t1 t2,VC V (o.cMul a b) t1 t2/\Nr (t1*(4194304*U)) (p*r-q*s) (3*U*(4194304*U))/\Nr (t2*(4194304*U)) (p*s+q*r) (3*U*(4194304*U))/\In' t1 (2*B+3*U)/\In' t2 (2*B+3*U):=by
 have u0:=H.u0;obtain⟨S,hS⟩:∃S,S=4194304*U:=⟨_,rfl⟩;have S0:0<S:=om;have hM:=@Ap.mul o V U H;rw[<-hS]at h1 h2 h3 h4 hM⊢
 have big:∀{x:Int},In' x (B*S)->In' x (4503599627370496*U*S):=fun h=>by
  exact aCG
 have one:∀{m x:Int},In' x (B*S)->Nr (m*S) x (U*S)->In' m (B+U):=fun{m x} h h'=>by
  exact aCE
 obtain⟨m1,v1,n1⟩:=hM ha.1 hb.1 (big h1);obtain⟨m2,v2,n2⟩:=hM ha.2 hb.2 (big h2);obtain⟨m3,v3,n3⟩:=hM ha.1 hb.2 (big h3);obtain⟨m4,v4,n4⟩:=hM ha.2 hb.1 (big h4);have i1:=one h1 n1;have i2:=one h2 n2;have i3:=one h3 n3;have i4:=one h4 n4;unfold In' at i1 i2 i3 i4;obtain⟨t1,w1,k1⟩:=H.sub v1 v2 (by unfold In';omega);obtain⟨t2,w2,k2⟩:=H.add v3 v4 (by unfold In';omega);have kk:∀{t m:Int},Nr t m U->-(U*S)<=t*S-m*S/\t*S-m*S<=U*S:=fun{t m} h=>by
  exact aCF
 have q1:=kk k1;have q2:=kk k2;rw[Int.sub_mul]at q1;rw[Int.add_mul]at q2;have e3:3*U*S=U*S+U*S+U*S:=by rw[Int.mul_assoc];omega
 unfold Nr at n1 n2 n3 n4 k1 k2;exact⟨t1,t2,⟨w1,w2⟩,by unfold Nr;rw[e3];omega,by unfold Nr;rw[e3];omega,by unfold In';omega,by unfold In';omega⟩
theorem Ap.E8(H:Ap o V U)(ha:V a x)(hx:In' x (4503599627370496*U)):∃z,V (o.mul a jo) z/\Nr (2*z) x (2*U):=by
 have u0:=H.u0;have hp:In' (x*(2097152*U)) (4503599627370496*U*(4194304*U)):=by
  have:=In'.mul hx (c:=2097152*U) (y:=2097152*U) ⟨om,om⟩;have h2:4503599627370496*U*(2097152*U)<=4503599627370496*U*(4194304*U):=Int.mul_le_mul_of_nonneg_left om om;unfold In' at*;omega
 obtain⟨z,hz,hn⟩:=H.mul ha H.half hp;refine⟨z,hz,?_⟩;obtain⟨W,hW⟩:∃W,W=2097152*U:=⟨_,rfl⟩;have e:4194304*U=2*W:=om;rw[e,<-hW]at hn;refine Nr.div (S:=W) om ?_;have e1:z*(2*W)=2*z*W:=by rw[Int.mul_comm 2 z,Int.mul_assoc]
 have e2:U*(2*W)=2*U*W:=by rw[Int.mul_comm 2 U,Int.mul_assoc]
 rw[e1,e2]at hn;exact hn
theorem Ap.stepT(H:Ap o V U)(R:Rts o V U)(k2:2<=k)(k6:k<=6)(hj:4*j<2^k){a b:Int × Int}(ha:VC V a p q)(hb:VC V b x y)(hB:B<=281474976710656*U)(b0:U<=B)
  (hp:In' p B) (hq:In' q B) (hx:In' x B) (hy:In' y B):
  ∃r s t1 t2 z0 y0 z1 y1,VC V (o.rt k (2*j)) r s/\In' r (4194304*U)/\In' s (4194304*U)/\Nr (4194304*(r*r+s*s)) (4194304*(4194304*U*(4194304*U))) (U*(4194304*U))/\
   Nr (t1*(4194304*U)) (r*x-s*y) (3*U*(4194304*U))/\Nr (t2*(4194304*U)) (r*y+s*x) (3*U*(4194304*U))/\In' t1 (2*B+3*U)/\In' t2 (2*B+3*U)/\
   VC V (o.cAdd a (o.cMul (o.rt k (2*j)) b)) z0 y0/\VC V (o.cSub a (o.cMul (o.rt k (2*j)) b)) z1 y1/\Nr z0 (p+t1) U/\Nr y0 (q+t2) U/\Nr z1 (p-t1) U/\Nr y1 (q-t2) U:=by
 have u0:=H.u0;obtain⟨r,s,hr,r1,s1,hn⟩:=R k j k2 k6 hj;have cm:∀{m v:Int},In' m (4194304*U)->In' v B->In' (m*v) (B*(4194304*U)):=fun h h'=>by have:=In'.mul h h';rw[Int.mul_comm B];exact this
 obtain⟨t1,t2,ht,n1,n2,i1,i2⟩:=H.cMul hr hb (show B<=1125899906842624*U by omega) (cm r1 hx) (cm s1 hy) (cm r1 hy) (cm s1 hx);unfold In' at i1 i2 hp hq;obtain⟨z0,v0,m0⟩:=H.add ha.1 ht.1 (by unfold In';omega);obtain⟨y0,v1,m1⟩:=H.add ha.2 ht.2 (by unfold In';omega);obtain⟨z1,v2,m2⟩:=H.sub ha.1 ht.1 (by unfold In';omega);obtain⟨y1,v3,m3⟩:=H.sub ha.2 ht.2 (by unfold In';omega);exact⟨r,s,t1,t2,z0,y0,z1,y1,hr,r1,s1,hn,n1,n2,by unfold In';omega,by unfold In';omega,⟨v0,v1⟩,⟨v2,v3⟩,m0,m1,m2,m3⟩
theorem Ap.tr(H:Ap o V U)(R:Rts o V U):∀(k:Nat) (cs:Nat->Int) (B:Int),1<=k->k<=6->4*U<=B->B*4^(k-1)<=281474976710656*U->(∀i,i<2^k->∃x,V (cs i) x/\In' x B)->∀i,2*i<2^k->∃p q,VC V (o.tr k cs i) p q/\In' p (B*4^(k-1))/\In' q (B*4^(k-1))
 |0,_,_,h,_,_,_,_=>absurd h de
 |1,cs,B,_,_,_,_,hc=>fun i hi=>by
  obtain⟨x,hx,bx⟩:=hc 0 de;obtain⟨y,hy,byy⟩:=hc 1 de;simp only[Ops.tr];exact⟨x,y,⟨hx,hy⟩,by simpa using bx,by simpa using byy⟩
 |k+2,cs,B,_,k6,b0,hB,hc=>fun i hi=>by
  have u0:=H.u0;have e2:2^(k+2)=2*2^(k+1):=by rw[Nat.pow_succ,Nat.mul_comm]
  have e8:(4:Int)^(k+2-1)=4*4^(k+1-1):=by show(4:Int)^(k+1)=4*4^k;rw[Int.pow_succ,Int.mul_comm]
  have p8:(0:Int)<4^(k+1-1):=Int.pow_pos de;obtain⟨C,hC⟩:∃C,C=B*(4:Int)^(k+1-1):=⟨_,rfl⟩;have eC:B*(4:Int)^(k+2-1)=4*C:=by rw[e8,hC,Int.mul_left_comm]
  have cB:4*U<=C:=by
   exact aCD
  rw[eC]at hB⊢
  obtain⟨p,q,h1,bp,bq⟩:=Ap.tr H R (k+1) (fun m=>cs (2*m)) B om om b0 om (fun i hi=>hc _ om) (i/2) om;obtain⟨x,y,h2,bx,byy⟩:=Ap.tr H R (k+1) (fun m=>cs (2*m+1)) B om om b0 om (fun i hi=>hc _ om) (i/2) om;rw[<-hC]at bp bq bx byy;obtain⟨r,s,t1,t2,z0,y0,z1,y1,_,_,_,_,_,_,i1,i2,v0,v1,n0,n1,n2,n3⟩:=H.stepT R (k:=k+2) (j:=i/2) om k6 om h1 h2 (show C<=281474976710656*U by omega) om bp bq bx byy;unfold In' Nr at*
  simp only[Ops.tr];split
  ·exact⟨z0,y0,v0,om,om⟩
  ·exact⟨z1,y1,v1,om,om⟩
def eE(U:Int):Nat->Int->Int
 |0,d=>d
 |1,d=>d
 |k+2,d=>eE U (k+1) (2*d+12*U)
theorem Ap.Oe(H:Ap o V U)(h0:Nr z0 (p+t) U)(h1:Nr z1 (p-t) U)(g0:Nr z0' z0 d)(g1:Nr z1' z1 d)(ha:V a z0')(hb:V b z1')(hp:In' p (281474976710656*U))(hd:d<=281474976710656*U):
  ∃p',V (o.mul (o.add a b) jo) p'/\Nr p' p (2*d+12*U):=by
 have u0:=H.u0;unfold Nr In' at*
 obtain⟨m,hm,nm⟩:=H.add ha hb (by unfold In';omega);unfold Nr at nm;obtain⟨z,hz,nz⟩:=H.E8 hm (by unfold In';omega);unfold Nr at nz;exact⟨z,hz,om,om⟩
theorem Ap.aAm(H:Ap o V U){w a b:Int × Int}(hw:VC V w r s)(r1:In' r (4194304*U))(s1:In' s (4194304*U))(hn:Nr (4194304*(r*r+s*s)) (4194304*(4194304*U*(4194304*U))) (U*(4194304*U)))
  (n1:Nr (t1*(4194304*U)) (r*x-s*y) (3*U*(4194304*U))) (n2:Nr (t2*(4194304*U)) (r*y+s*x) (3*U*(4194304*U))) (i1:In' t1 (140737488355328*U)) (i2:In' t2 (140737488355328*U)) (bx:In' x (8796093022208*U)) (byy:In' y (8796093022208*U))
  (h0:Nr z0 (p+t1) U) (h0':Nr y0 (q+t2) U) (h1:Nr z1 (p-t1) U) (h1':Nr y1 (q-t2) U) (g0:Nr z0' z0 d) (g0':Nr y0' y0 d) (g1:Nr z1' z1 d) (g1':Nr y1' y1 d) (ha:VC V a z0' y0') (hb:VC V b z1' y1') (hd:d<=70368744177664*U):
  ∃x' y',VC V (o.lC (o.cMul (o.cSub a b) (xI w))) x' y'/\Nr x' x (2*d+12*U)/\Nr y' y (2*d+12*U):=by
 have u0:=H.u0;obtain⟨S,hS⟩:∃S,S=4194304*U:=⟨_,rfl⟩;have S0:0<S:=om;unfold Nr at h0 h0' h1 h1' g0 g0' g1 g1';unfold In' at i1 i2;obtain⟨D1,v1,m1⟩:=H.sub ha.1 hb.1 (by unfold In';omega);obtain⟨D2,v2,m2⟩:=H.sub ha.2 hb.2 (by unfold In';omega);unfold Nr at m1 m2;have d1:Nr D1 (2*t1) (2*d+3*U):=by unfold Nr;omega
 have d2:Nr D2 (2*t2) (2*d+3*U):=by unfold Nr;omega
 have b1:In' D1 (1125899906842624*U):=by unfold In';unfold Nr at d1;omega
 have b2:In' D2 (1125899906842624*U):=by unfold In';unfold Nr at d2;omega
 have s1':In' (-s) (4194304*U):=by unfold In' at*;omega
 have hc:VC V (xI w) r (-s):=⟨hw.1,H.tn hw.2⟩;obtain⟨c1,c2,hC,k1,k2,j1,j2⟩:=H.cMul (a:=o.cSub a b) (b:=xI w) ⟨v1,v2⟩ hc (Int.le_refl _) (In'.mul b1 r1) (In'.mul b2 s1') (In'.mul b1 s1') (In'.mul b2 r1)
 --what the product stands for
 have dl:=(show 0<=2*d+3*U by unfold Nr at d1;omega);have near:∀{D t X:Int},Nr D (2*t) (2*d+3*U)->Nr (t*S) X (3*U*S)->Nr (D*S) (2*X) ((2*d+9*U)*S):=by
  intro D t X h h';have e1:=Nr.mul h (k:=S) (K:=S) ⟨om,om⟩;rw[Int.mul_comm S D,Int.mul_comm S (2*t),Int.mul_assoc 2 t S,Int.mul_comm S (2*d+3*U)]at e1;have e2:(2*d+9*U)*S=(2*d+3*U)*S+2*(3*U*S):=by rw[<-Int.mul_assoc 2,<-Int.add_mul];congr 1;omega
  unfold Nr at*
  rw[e2];omega
 rw[<-hS]at n1 n2 r1 s1 hn s1' k1 k2;have p1:=near d1 n1;have p2:=near d2 n2;have gg:∀{m n X Y:Int},In' m S->In' n S->Nr (D1*S) (2*X) ((2*d+9*U)*S)->Nr (D2*S) (2*Y) ((2*d+9*U)*S)->Nr ((D1*m+D2*n)*S) (2*(m*X+n*Y)) (2*((2*d+9*U)*S*S)):=by
  intro m n X Y hm hn h h';have e1:=Nr.mul h hm;have e2:=Nr.mul h' hn;have f0:S*((2*d+9*U)*S)=(2*d+9*U)*S*S:=Int.mul_comm _ _;have f1:(D1*m+D2*n)*S=m*(D1*S)+n*(D2*S):=by rw[Int.add_mul,Int.mul_assoc,Int.mul_assoc,Int.mul_left_comm m,Int.mul_left_comm n]
  have f2:2*(m*X+n*Y)=m*(2*X)+n*(2*Y):=by rw[Int.mul_add,Int.mul_left_comm m,Int.mul_left_comm n]
  rw[f0]at e1 e2;rw[f1,f2];unfold Nr at*
  omega
 have hrs:∀{X:Int},In' X (8796093022208*U)->Nr (2*(X*(r*r+s*s))) (2*(X*(S*S))) (U*S*S):=by
  intro X hX;have e1:=Nr.mul hn hX;have f1:∀z:Int,X*(4194304*z)=4194304*(X*z):=fun z=>Int.mul_left_comm _ _ _;rw[f1,f1]at e1;have f2:8796093022208*U*(U*S)=4194304*(2097152*U*(U*S)):=by rw[<-Int.mul_assoc 4194304 (2097152*U) (U*S),show 4194304*(2097152*U)=8796093022208*U by omega]
  have f3:2097152*U*(U*S)*2=U*S*S:=by
   have:2097152*U*2=S:=om;rw[Int.mul_comm,<-Int.mul_assoc,Int.mul_comm 2,this,Int.mul_comm]
  rw[f2]at e1;rw[<-f3];unfold Nr at*
  omega
 have fin:∀{c M X:Int},Nr (c*S) M (3*U*S)->Nr (M*S) (2*(X*(r*r+s*s))) (2*((2*d+9*U)*S*S))->In' X (8796093022208*U)->Nr c (2*X) (4*d+22*U):=by
  intro c M X hc hM hX;have e0:=hrs hX;have e1:=Nr.mul hc (k:=S) (K:=S) ⟨om,om⟩;refine Nr.div S0 (Nr.div S0 ?_);have f1:c*S*S=S*(c*S):=Int.mul_comm _ _;have f2:2*X*S*S=2*(X*(S*S)):=by rw[Int.mul_assoc,Int.mul_assoc]
  have f3:(4*d+22*U)*S*S=S*(3*U*S)+2*((2*d+9*U)*S*S)+U*S*S:=by
   rw[Int.mul_comm S,<-Int.mul_assoc 2,<-Int.mul_assoc 2,<-Int.add_mul,<-Int.add_mul,<-Int.add_mul,<-Int.add_mul]
   congr 2;omega
  rw[f1,f2,f3];rw[Int.mul_comm M S]at hM;unfold Nr at*
  omega
 have x1:Nr ((D1*r-D2* -s)*S) (2*(x*(r*r+s*s))) (2*((2*d+9*U)*S*S)):=by
  have:=gg r1 s1 p1 p2;rw[show D1*r-D2* -s=D1*r+D2*s by rw[Int.mul_neg];omega,show x*(r*r+s*s)=r*(r*x-s*y)+s*(r*y+s*x) by grind];exact this
 have x2:Nr ((D1* -s+D2*r)*S) (2*(y*(r*r+s*s))) (2*((2*d+9*U)*S*S)):=by
  have:=gg s1' r1 p1 p2;rw[show y*(r*r+s*s)=-s*(r*x-s*y)+r*(r*y+s*x) by grind];exact this
 have y1:=fin k1 x1 bx;have y2:=fin k2 x2 byy;unfold In' at j1 j2;obtain⟨x',w1,l1⟩:=H.E8 hC.1 (by unfold In';omega);obtain⟨y',w2,l2⟩:=H.E8 hC.2 (by unfold In';omega);unfold Nr at*
 exact⟨x',y',⟨w1,w2⟩,om,om⟩
theorem Ap.back(H:Ap o V U)(R:Rts o V U):∀(k:Nat) (cs x:Nat->Int) (B d:Int) (zs:Nat->Int × Int),1<=k->k<=6->4*U<=B->B*4^(k-1)<=8796093022208*U->(d+12*U)*2^k<=8796093022208*U->0<=d->(∀i,i<2^k->V (cs i) (x i)/\In' (x i) B)->
  (∀j,2*j<2^k->∀p q,VC V (o.tr k cs j) p q->∃p' q',VC V (zs j) p' q'/\Nr p' p d/\Nr q' q d)->∀i,i<2^k->∃y,V (o.bk k zs i) y/\Nr y (x i) (eE U k d)
 |0,_,_,_,_,_,h,_,_,_,_,_,_,_=>absurd h de
 |1,cs,x,B,d,zs,_,_,_,_,_,_,hc,hz=>fun i hi=>by
  obtain⟨p',q',hv,n1,n2⟩:=hz 0 de (x 0) (x 1) (by simp only[Ops.tr];exact⟨(hc 0 de).1,(hc 1 de).1⟩);simp only[Ops.bk,eE];rcases(show i=0\/i=1 by omega)with rfl|rfl
  ·exact⟨p',hv.1,n1⟩
  ·exact⟨q',hv.2,n2⟩
 |k+2,cs,x,B,d,zs,_,k6,b0,hB,hd,d0,hc,hz=>fun i hi=>by
  have u0:=H.u0;have e2:2^(k+2)=2*2^(k+1):=by rw[Nat.pow_succ,Nat.mul_comm]
  have e2':(2:Int)^(k+2)=2*2^(k+1):=by rw[Int.pow_succ,Int.mul_comm]
  have e8:(4:Int)^(k+2-1)=4*4^(k+1-1):=by show(4:Int)^(k+1)=4*4^k;rw[Int.pow_succ,Int.mul_comm]
  obtain⟨C,hC⟩:∃C,C=B*(4:Int)^(k+1-1):=⟨_,rfl⟩;have eC:B*(4:Int)^(k+2-1)=4*C:=by rw[e8,hC,Int.mul_left_comm]
  have p8:(0:Int)<4^(k+1-1):=Int.pow_pos de;have cB:4*U<=C:=by
   exact aCD
  rw[eC]at hB;have dd:d<=8796093022208*U:=by
   exact aCH
  have hd':(2*d+12*U+12*U)*2^(k+1)<=8796093022208*U:=by
   rw[e2',<-Int.mul_assoc]at hd;rw[show 2*d+12*U+12*U=(d+12*U)*2 by omega];exact hd
  have ce:∀i,i<2^(k+1)->V (cs (2*i)) (x (2*i))/\In' (x (2*i)) B:=fun i hi=>hc _ om;have co:∀i,i<2^(k+1)->V (cs (2*i+1)) (x (2*i+1))/\In' (x (2*i+1)) B:=fun i hi=>hc _ om;have te:=Ap.tr H R (k+1) (fun m=>cs (2*m)) B om om b0 om (fun i hi=>⟨_,ce i hi⟩);have tO:=Ap.tr H R (k+1) (fun m=>cs (2*m+1)) B om om b0 om (fun i hi=>⟨_,co i hi⟩);rw[<-hC]at te tO
  --two places that belong together
  have st:∀j,2*j<2^(k+1)->∀{p q u v:Int},VC V (o.tr (k+1) (fun m=>cs (2*m)) j) p q->VC V (o.tr (k+1) (fun m=>cs (2*m+1)) j) u v->In' p (8796093022208*U)->In' q (8796093022208*U)->In' u (8796093022208*U)->In' v (8796093022208*U)->
    (∃p' q',VC V (o.yx zs j) p' q'/\Nr p' p (2*d+12*U)/\Nr q' q (2*d+12*U))/\∃u' v',VC V (o.zK (k+2) zs j) u' v'/\Nr u' u (2*d+12*U)/\Nr v' v (2*d+12*U):=by
   intro j hj p q u v h1 h2 bp bq bu bv;obtain⟨r,s,t1,t2,z0,y0,z1,y1,hr,r1,s1,hn,n1,n2,i1,i2,v0,v1,m0,m0',m1,m1'⟩:=H.stepT R (k:=k+2) (j:=j) om k6 om h1 h2 (show 8796093022208*U<=281474976710656*U by omega) om bp bq bu bv;obtain⟨a0,a1,ha,g0,g0'⟩:=hz (2*j) om z0 y0 (by simp only[Ops.tr];rw[if_pos om,show 2*j/2=j by omega];exact v0);obtain⟨b0,b1,hb,g1,g1'⟩:=hz (2*j+1) om z1 y1 (by simp only[Ops.tr];rw[if_neg om,show(2*j+1)/2=j by omega];exact v1);have w1:In' p (281474976710656*U):=by unfold In' at*;omega
   have w2:In' q (281474976710656*U):=by unfold In' at*;omega
   obtain⟨p',hp',np⟩:=H.Oe m0 m1 g0 g1 ha.1 hb.1 w1 om;obtain⟨q',hq',nq⟩:=H.Oe m0' m1' g0' g1' ha.2 hb.2 w2 om;refine⟨⟨p',q',⟨hp',hq'⟩,np,nq⟩,?_⟩;exact H.aAm hr r1 s1 hn n1 n2 (by unfold In' at*;omega) (by unfold In' at*;omega) (by unfold In' at*;omega) (by unfold In' at*;omega) m0 m0' m1 m1' g0 g0' g1 g1' ha hb om
  have wide:∀{z:Int},In' z C->In' z (8796093022208*U):=fun h=>by unfold In' at*;omega
  simp only[Ops.bk,eE];split
  ·have:=Ap.back H R (k+1) (fun m=>cs (2*m)) (fun m=>x (2*m)) B (2*d+12*U) (o.yx zs) om om b0 om hd' om ce (fun j hj p q hv=>?_) (i/2) om
   ·rw[show 2*(i/2)=i by omega]at this;exact this
   ·obtain⟨p0,q0,h1,bp,bq⟩:=te j hj;obtain⟨u,v,h2,bu,bv⟩:=tO j hj;obtain rfl:=H.fn hv.1 h1.1;obtain rfl:=H.fn hv.2 h1.2;exact(st j hj h1 h2 (wide bp) (wide bq) (wide bu) (wide bv)).1
  ·have:=Ap.back H R (k+1) (fun m=>cs (2*m+1)) (fun m=>x (2*m+1)) B (2*d+12*U) (o.zK (k+2) zs) om om b0 om hd' om co (fun j hj p q hv=>?_) (i/2) om
   ·rw[show 2*(i/2)+1=i by omega]at this;exact this
   ·obtain⟨p0,q0,h1,bp,bq⟩:=te j hj;obtain⟨u,v,h2,bu,bv⟩:=tO j hj;obtain rfl:=H.fn hv.1 h2.1;obtain rfl:=H.fn hv.2 h2.2;exact(st j hj h1 h2 (wide bp) (wide bq) (wide bu) (wide bv)).2
structure Am (o:Ops) (V:Int->Int->Prop) (U S:Int):Prop where
 u0:0<U
 s0:U<=S
 add:∀{a b x y:Int},V a x->V b y->In' (x+y) (4503599627370496*U)->∃z,V (o.add a b) z/\Nr z (x+y) U
 sub:∀{a b x y:Int},V a x->V b y->In' (x-y) (4503599627370496*U)->∃z,V (o.sub a b) z/\Nr z (x-y) U
 mul:∀{a b x y:Int},V a x->V b y->In' (x*y) (4503599627370496*U*S)->∃z,V (o.mul a b) z/\Nr (z*S) (x*y) (U*S)
 tn:∀{a x:Int},V a x->V (nO a) (-x)
def mS(S:Int)(a b:Int × Int):Int × Int:=((a.1*b.1-a.2*b.2)/S,(a.1*b.2+a.2*b.1)/S)
def Ti(S:Int)(W:Nat->Nat->Int × Int):Nat->(Nat->Int)->Nat->Int × Int
 |0,_,_=>(0,0)
 |1,x,_=>(x 0,x 1)
 |k+2,x,i=>
  if i%2=0 then((Ti S W (k+1) (fun m=>x (2*m)) (i/2)).1 +(mS S (W (k+2) (i/2)) (Ti S W (k+1) (fun m=>x (2*m+1)) (i/2))).1,(Ti S W (k+1) (fun m=>x (2*m)) (i/2)).2 +(mS S (W (k+2) (i/2)) (Ti S W (k+1) (fun m=>x (2*m+1)) (i/2))).2)
  else((Ti S W (k+1) (fun m=>x (2*m)) (i/2)).1 -(mS S (W (k+2) (i/2)) (Ti S W (k+1) (fun m=>x (2*m+1)) (i/2))).1,(Ti S W (k+1) (fun m=>x (2*m)) (i/2)).2 -(mS S (W (k+2) (i/2)) (Ti S W (k+1) (fun m=>x (2*m+1)) (i/2))).2)
def Sm(S:Int)(a:Int × Int):Prop:=In' a.1 S/\In' a.2 S/\∀x y B:Int,In' x B->In' y B->In' (2*(a.1*x-a.2*y)) (3*(B*S))/\In' (2*(a.1*y+a.2*x)) (3*(B*S))
theorem aF9(hr:In' r S)(hs:In' s S)(h:∀u v:Int,(u=r\/u=-r)->(v=s\/v=-s)->2*(u+v)<=3*S):Sm S (r,s):=by
 refine⟨hr,hs,fun x y B hx hy=>?_⟩;obtain⟨A,hA,hA0,hA1⟩:∃A,(A=r\/A=-r)/\-A<=r/\r<=A:=by
  rcases Int.le_total 0 r with c|c
  ·exact⟨r,.inl rfl,om,om⟩
  ·exact⟨-r,.inr rfl,om,om⟩
 obtain⟨C,hC,hC0,hC1⟩:∃C,(C=s\/C=-s)/\-C<=s/\s<=C:=by
  rcases Int.le_total 0 s with c|c
  ·exact⟨s,.inl rfl,om,om⟩
  ·exact⟨-s,.inr rfl,om,om⟩
 have h2:=h A C hA hC;have B0:0<=B:=by unfold In' at hx;omega
 have m:=Int.mul_le_mul_of_nonneg_right h2 B0;have e1:2*(A+C)*B=2*(A*B)+2*(C*B):=by rw[Int.mul_assoc,Int.add_mul,Int.mul_add]
 have e2:3*S*B=3*(B*S):=by rw[Int.mul_assoc,Int.mul_comm S]
 rw[e1,e2]at m;have p1:=jU hx.1 hx.2 hA0 hA1;have p2:=jU hy.1 hy.2 hC0 hC1;have p3:=jU hy.1 hy.2 hA0 hA1;have p4:=jU hx.1 hx.2 hC0 hC1;dsimp only
 unfold In';omega
theorem Dq(hS:0<S)(a b:Int × Int):(-S<=(mS S a b).1 *S-(a.1*b.1-a.2*b.2)/\(mS S a b).1 *S-(a.1*b.1-a.2*b.2)<=0)/\-S<=(mS S a b).2 *S-(a.1*b.2+a.2*b.1)/\(mS S a b).2 *S-(a.1*b.2+a.2*b.1)<=0:=by
 unfold mS;dsimp only
 have h1:=Int.emod_add_mul_ediv (a.1*b.1-a.2*b.2) S;have h2:=Int.emod_nonneg (a.1*b.1-a.2*b.2) (show S≠0 by omega);have h3:=Int.emod_lt_of_pos (a.1*b.1-a.2*b.2) hS;have k1:=Int.emod_add_mul_ediv (a.1*b.2+a.2*b.1) S;have k2:=Int.emod_nonneg (a.1*b.2+a.2*b.1) (show S≠0 by omega);have k3:=Int.emod_lt_of_pos (a.1*b.2+a.2*b.1) hS;rw[Int.mul_comm S]at h1 k1;omega
variable {o:Ops} {V:Int->Int->Prop} {U S:Int}
theorem Am.cMul(H:Am o V U S){a b:Int × Int}(ha:VC V a p q)(hb:VC V b r s)(hB:B<=1125899906842624*U)
  (h1:In' (p*r) (B*S)) (h2:In' (q*s) (B*S)) (h3:In' (p*s) (B*S)) (h4:In' (q*r) (B*S)):
  ∃t1 t2,VC V (o.cMul a b) t1 t2/\Nr (t1*S) (p*r-q*s) (3*U*S)/\Nr (t2*S) (p*s+q*r) (3*U*S):=by
 have u0:=H.u0;have S0:0<S:=by have:=H.s0;omega
 have big:∀{x:Int},In' x (B*S)->In' x (4503599627370496*U*S):=fun h=>by
  exact aCG
 have one:∀{m x:Int},In' x (B*S)->Nr (m*S) x (U*S)->In' m (B+U):=fun{m x} h h'=>by
  exact aCE
 obtain⟨m1,v1,n1⟩:=H.mul ha.1 hb.1 (big h1);obtain⟨m2,v2,n2⟩:=H.mul ha.2 hb.2 (big h2);obtain⟨m3,v3,n3⟩:=H.mul ha.1 hb.2 (big h3);obtain⟨m4,v4,n4⟩:=H.mul ha.2 hb.1 (big h4);have i1:=one h1 n1;have i2:=one h2 n2;have i3:=one h3 n3;have i4:=one h4 n4;unfold In' at i1 i2 i3 i4;obtain⟨t1,w1,k1⟩:=H.sub v1 v2 (by unfold In';omega);obtain⟨t2,w2,k2⟩:=H.add v3 v4 (by unfold In';omega);have kk:∀{t m:Int},Nr t m U->-(U*S)<=t*S-m*S/\t*S-m*S<=U*S:=fun{t m} h=>by
  exact aCF
 have q1:=kk k1;have q2:=kk k2;rw[Int.sub_mul]at q1;rw[Int.add_mul]at q2;have e3:3*U*S=U*S+U*S+U*S:=by rw[Int.mul_assoc];omega
 unfold Nr at n1 n2 n3 n4;exact⟨t1,t2,⟨w1,w2⟩,by unfold Nr;rw[e3];omega,by unfold Nr;rw[e3];omega⟩
def bM:Nat->Int->Int
 |0,B=>B
 |1,B=>B
 |k+2,B=>(5*bM (k+1) B+3)/2
def eM:Nat->Int
 |0=>1
 |1=>1
 |k+2=>(5*eM (k+1)+11)/2
theorem Cc(hS:0<S){W:Nat->Nat->Int × Int}(hW:∀k j:Nat,2<=k->k<=6->4*j<2^k->Sm S (W k j)):∀(k:Nat) (x:Nat->Int) (B:Int),1<=k->k<=6->(∀i,i<2^k->In' (x i) B)->∀i,2*i<2^k->In' (Ti S W k x i).1 (bM k B)/\In' (Ti S W k x i).2 (bM k B)
 |0,_,_,h,_,_=>absurd h de
 |1,x,B,_,_,hx=>fun i hi=>by simp only[Ti,bM];exact⟨hx 0 de,hx 1 de⟩
 |k+2,x,B,_,k6,hx=>fun i hi=>by
  have e2:2^(k+2)=2*2^(k+1):=by rw[Nat.pow_succ,Nat.mul_comm]
  obtain⟨a1,a2⟩:=Cc hS hW (k+1) (fun m=>x (2*m)) B om om (fun i hi=>hx _ om) (i/2) om;obtain⟨b1,b2⟩:=Cc hS hW (k+1) (fun m=>x (2*m+1)) B om om (fun i hi=>hx _ om) (i/2) om;obtain⟨c1,c2⟩:=(hW (k+2) (i/2) om k6 om).2.2 _ _ _ b1 b2;obtain⟨⟨m1,m2⟩,m3,m4⟩:=Dq hS (W (k+2) (i/2)) (Ti S W (k+1) (fun m=>x (2*m+1)) (i/2));simp only[Ti,bM];generalize Ti S W (k+1) (fun m=>x (2*m)) (i/2)=A at*
  generalize Ti S W (k+1) (fun m=>x (2*m+1)) (i/2)=D at*
  generalize mS S (W (k+2) (i/2)) D=T at*
  generalize bM (k+1) B=C at*
  have t1:In' (2*T.1) (3*C+2):=In'.div hS (by
   have e:(3*C+2)*S=3*(C*S)+2*S:=by rw[Int.add_mul,Int.mul_assoc]
   have f:2*T.1*S=2*(T.1*S):=Int.mul_assoc _ _ _;unfold In' at*;rw[e,f];omega)
  have t2:In' (2*T.2) (3*C+2):=In'.div hS (by
   have e:(3*C+2)*S=3*(C*S)+2*S:=by rw[Int.add_mul,Int.mul_assoc]
   have f:2*T.2*S=2*(T.2*S):=Int.mul_assoc _ _ _;unfold In' at*;rw[e,f];omega)
  unfold In' at*
  split<;>(dsimp only;omega)
theorem JU(h:0<=B):∀k,0<=bM k B/\bM k B<=bM (k+1) B
 |0=>by simp only[bM];exact⟨h,Int.le_refl _⟩
 |1=>by simp only[bM];omega
 |k+2=>by
  have:=JU h (k+1);have h2:bM (k+2) B=(5*bM (k+1) B+3)/2:=by simp only[bM]
  have h3:bM (k+2+1) B=(5*bM (k+2) B+3)/2:=by simp only[bM]
  rw[h3,h2];omega
theorem TM:∀k,0<eM k/\eM k<=eM (k+1)
 |0=>de
 |1=>de
 |k+2=>by
  have:=TM (k+1);have h2:eM (k+2)=(5*eM (k+1)+11)/2:=by simp only[eM]
  have h3:eM (k+2+1)=(5*eM (k+2)+11)/2:=by simp only[eM]
  rw[h3,h2];omega
theorem Am.tr(H:Am o V U S){W:Nat->Nat->Int × Int}(hW:∀k j:Nat,2<=k->k<=6->4*j<2^k->VC V (o.rt k (2*j)) (W k j).1 (W k j).2 /\Sm S (W k j)):
  ∀(k:Nat) (cs x:Nat->Int) (B:Int),1<=k->k<=6->0<=B->bM k B+eM k*U<=2251799813685248*U->(∀i,i<2^k->∃v,V (cs i) v/\Nr v (x i) U)->(∀i,i<2^k->In' (x i) B)->∀i,2*i<2^k->∃p q,VC V (o.tr k cs i) p q/\Nr p (Ti S W k x i).1 (eM k*U)/\Nr q (Ti S W k x i).2 (eM k*U)
 |0,_,_,_,h,_,_,_,_,_=>absurd h de
 |1,cs,x,B,_,_,_,_,hc,_=>fun i hi=>by
  obtain⟨v,hv,nv⟩:=hc 0 de;obtain⟨u,hu,nu⟩:=hc 1 de;simp only[Ops.tr,Ti,eM,Int.one_mul];exact⟨v,u,⟨hv,hu⟩,nv,nu⟩
 |k+2,cs,x,B,_,k6,b0,hB,hc,hx=>fun i hi=>by
  have u0:=H.u0;have S0:0<S:=by have:=H.s0;omega
  have e2:2^(k+2)=2*2^(k+1):=by rw[Nat.pow_succ,Nat.mul_comm]
  have bm:=JU b0 (k+1);have em:=TM (k+1);have hb2:bM (k+1+1) B=bM (k+2) B:=rfl;have he2:eM (k+1+1)=eM (k+2):=rfl;have hb5:5*bM (k+1) B<=2*bM (k+2) B:=by simp only[bM];omega
  have heU:eM (k+1)*U<=eM (k+2)*U:=Int.mul_le_mul_of_nonneg_right om om;have h5:(5*eM (k+1)+10)*U<=(2*eM (k+2))*U:=Int.mul_le_mul_of_nonneg_right (by simp only[eM];omega) om;rw[Int.add_mul,Int.mul_assoc 5,Int.mul_assoc 2]at h5;have e0:0<=eM (k+1)*U:=Int.mul_nonneg om om;obtain⟨p,q,h1,np,nq⟩:=Am.tr H hW (k+1) (fun m=>cs (2*m)) (fun m=>x (2*m)) B om om b0 om (fun i hi=>hc _ om) (fun i hi=>hx _ om) (i/2) om;obtain⟨u,v,h2,nu,nv⟩:=Am.tr H hW (k+1) (fun m=>cs (2*m+1)) (fun m=>x (2*m+1)) B om om b0 om (fun i hi=>hc _ om) (fun i hi=>hx _ om) (i/2) om;have hS':=fun k j a b c=>(hW k j a b c).2;obtain⟨a1,a2⟩:=Cc S0 hS' (k+1) (fun m=>x (2*m)) B om om (fun i hi=>hx _ om) (i/2) om;obtain⟨b1,b2⟩:=Cc S0 hS' (k+1) (fun m=>x (2*m+1)) B om om (fun i hi=>hx _ om) (i/2) om;obtain⟨hw,r1,s1,hsm⟩:=hW (k+2) (i/2) om k6 om;obtain⟨⟨m1,m2⟩,m3,m4⟩:=Dq S0 (W (k+2) (i/2)) (Ti S W (k+1) (fun m=>x (2*m+1)) (i/2));obtain⟨c1,c2⟩:=hsm _ _ _ b1 b2;simp only[Ops.tr,Ti];generalize Ti S W (k+1) (fun m=>x (2*m)) (i/2)=A at*
  generalize Ti S W (k+1) (fun m=>x (2*m+1)) (i/2)=D at*
  generalize mS S (W (k+2) (i/2)) D=T at*
  generalize bM (k+1) B=C at*
  generalize eM (k+1)*U=e at*
  generalize eM (k+2)*U=E at*
  obtain⟨d1,d2⟩:=hsm (u-D.1) (v-D.2) e nu nv;have iu:In' u (C+e):=by unfold In' Nr at*;omega
  have iv:In' v (C+e):=by unfold In' Nr at*;omega
  have cm:∀{m z:Int},In' m S->In' z (C+e)->In' (m*z) ((C+e)*S):=fun h h'=>by have:=In'.mul h h';rw[Int.mul_comm (C+e)];exact this
  obtain⟨t1,t2,ht,n1,n2⟩:=H.cMul hw h2 (show C+e<=1125899906842624*U by omega) (cm r1 iu) (cm s1 iv) (cm r1 iv) (cm s1 iu);generalize(W (k+2) (i/2)).1 =r at*
  generalize(W (k+2) (i/2)).2 =s at*
  have eS:∀z:Int,2*(z-T.1)*S=2*(z*S)-2*(T.1*S):=fun z=>by rw[Int.mul_assoc,Int.sub_mul,Int.mul_sub]
  have eS2:∀z:Int,2*(z-T.2)*S=2*(z*S)-2*(T.2*S):=fun z=>by rw[Int.mul_assoc,Int.sub_mul,Int.mul_sub]
  have eR:(6*U+3*e+2)*S=2*(3*U*S)+3*(e*S)+2*S:=by grind
  have g1:r*(u-D.1)-s*(v-D.2)=(r*u-s*v)-(r*D.1-s*D.2):=by rw[Int.mul_sub,Int.mul_sub];omega
  have g2:r*(v-D.2)+s*(u-D.1)=(r*v+s*u)-(r*D.2+s*D.1):=by rw[Int.mul_sub,Int.mul_sub];omega
  rw[g1]at d1;rw[g2]at d2;have x1:In' (2*(t1-T.1)) (6*U+3*e+2):=In'.div S0 (by rw[eS,eR];unfold In' Nr at*;omega);have x2:In' (2*(t2-T.2)) (6*U+3*e+2):=In'.div S0 (by rw[eS2,eR];unfold In' Nr at*;omega);have f1:In' (2*T.1) (3*C+2):=In'.div S0 (by
   have e:(3*C+2)*S=3*(C*S)+2*S:=by rw[Int.add_mul,Int.mul_assoc]
   have f:2*T.1*S=2*(T.1*S):=Int.mul_assoc _ _ _;unfold In' at*;rw[e,f];omega)
  have f2:In' (2*T.2) (3*C+2):=In'.div S0 (by
   have e:(3*C+2)*S=3*(C*S)+2*S:=by rw[Int.add_mul,Int.mul_assoc]
   have f:2*T.2*S=2*(T.2*S):=Int.mul_assoc _ _ _;unfold In' at*;rw[e,f];omega)
  unfold In' Nr at*
  obtain⟨z0,v0,w0⟩:=H.add h1.1 ht.1 (by unfold In';omega);obtain⟨y0,v1,w1⟩:=H.add h1.2 ht.2 (by unfold In';omega);obtain⟨z1,v2,w2⟩:=H.sub h1.1 ht.1 (by unfold In';omega);obtain⟨y1,v3,w3⟩:=H.sub h1.2 ht.2 (by unfold In';omega);unfold Nr at w0 w1 w2 w3;split
  ·exact⟨z0,y0,⟨v0,v1⟩,by dsimp only;omega,by dsimp only;omega⟩
  ·exact⟨z1,y1,⟨v2,v3⟩,by dsimp only;omega,by dsimp only;omega⟩
theorem aCJ{P:Prop}(h:P:=by
 have f3:(2*d+2*U)*S=S*(2*d+U)+U*S:=by grind
 have f4:2*S<=U*S:=Int.mul_le_mul_of_nonneg_right hU om;rw[f1,f2]at h1;unfold In';rw[f3];omega):P:=h
variable {o:Ops} {V:Int->Int->Prop} {U S:Int}
def eF(U:Int):Nat->Int->Int
 |0,d=>d
 |1,d=>d
 |k+2,d=>eF U (k+1) ((3*d+9*U)/2)
theorem Am.E8(H:Am o V U S)(hh:V jo hf)(h2:2*hf=S)(ha:V a x)(hx:In' x (4503599627370496*U)):∃z,V (o.mul a jo) z/\Nr (2*z) x (2*U):=by
 have u0:=H.u0;have s0:=H.s0;have hp:In' (x*hf) (4503599627370496*U*S):=by
  have:=In'.mul hx (c:=hf) (y:=hf) ⟨om,om⟩;have h3:4503599627370496*U*hf<=4503599627370496*U*S:=Int.mul_le_mul_of_nonneg_left om om;unfold In' at*;omega
 obtain⟨z,hz,hn⟩:=H.mul ha hh hp;refine⟨z,hz,Nr.div (S:=hf) om ?_⟩;rw[<-h2]at hn;have e1:z*(2*hf)=2*z*hf:=by rw[Int.mul_comm 2 z,Int.mul_assoc]
 have e2:U*(2*hf)=2*U*hf:=by rw[Int.mul_comm 2 U,Int.mul_assoc]
 rw[e1,e2]at hn;exact hn
theorem Am.Oe(H:Am o V U S)(hh:V jo hf)(h2:2*hf=S)(g0:Nr z0 (A+T) d)(g1:Nr z1 (A-T) d)(ha:V a z0)(hb:V b z1)(hA:In' A (281474976710656*U))(hd:d<=281474976710656*U)(d0:0<=d):
  ∃p,V (o.mul (o.add a b) jo) p/\Nr p A ((3*d+9*U)/2):=by
 have u0:=H.u0;unfold Nr In' at*
 obtain⟨m,hm,nm⟩:=H.add ha hb (by unfold In';omega);unfold Nr at nm;obtain⟨z,hz,nz⟩:=H.E8 hh h2 hm (by unfold In';omega);unfold Nr at nz;exact⟨z,hz,om,om⟩
theorem Am.aAm(H:Am o V U S)(hh:V jo hf)(hh2:2*hf=S)(hU:2<=U){w a b D A:Int × Int}(hw:VC V w r s)(hsm:Sm S (r,s))(hn:Nr (r*r+s*s) (S*S) Hc)
  (hD:∀X,X=D.1\/X=D.2->In' (2*(X*Hc)) (U*S*S)) (hc0:0<=Hc) (hD1:In' D.1 (140737488355328*U)) (hD2:In' D.2 (140737488355328*U))
  (g0:Nr z0 (A.1+(mS S (r,s) D).1) d) (g0':Nr y0 (A.2+(mS S (r,s) D).2) d) (g1:Nr z1 (A.1-(mS S (r,s) D).1) d) (g1':Nr y1 (A.2-(mS S (r,s) D).2) d) (ha:VC V a z0 y0) (hb:VC V b z1 y1) (hd:d<=70368744177664*U) (d0:0<=d):
  ∃x' y',VC V (o.lC (o.cMul (o.cSub a b) (xI w))) x' y'/\Nr x' D.1 ((3*d+9*U)/2)/\Nr y' D.2 ((3*d+9*U)/2):=by
 have u0:=H.u0;have S0:0<S:=by have:=H.s0;omega
 obtain⟨r1,s1,hs⟩:=hsm;dsimp only at r1 s1 hs;obtain⟨⟨m1,m2⟩,m3,m4⟩:=Dq S0 (r,s) D;obtain⟨c1,c2⟩:=hs D.1 D.2 _ hD1 hD2;generalize mS S (r,s) D=T at*
 dsimp only at m1 m2 m3 m4;have eC:3*(140737488355328*U*S)+2*S<=(844424930131968*U)*S:=by
  have:3*(140737488355328*U*S)+2*S=(422212465065984*U+2)*S:=by grind
  rw[this];exact Int.mul_le_mul_of_nonneg_right om om
 have t1:In' (2*T.1) (844424930131968*U):=In'.div S0 (by have f:2*T.1*S=2*(T.1*S):=Int.mul_assoc _ _ _;unfold In' at*;rw[f];omega);have t2:In' (2*T.2) (844424930131968*U):=In'.div S0 (by have f:2*T.2*S=2*(T.2*S):=Int.mul_assoc _ _ _;unfold In' at*;rw[f];omega);unfold Nr at g0 g0' g1 g1';unfold In' at t1 t2;obtain⟨D1,v1,k1⟩:=H.sub ha.1 hb.1 (by unfold In';omega);obtain⟨D2,v2,k2⟩:=H.sub ha.2 hb.2 (by unfold In';omega);unfold Nr at k1 k2;have b1:In' D1 (1125899906842624*U):=by unfold In';omega
 have b2:In' D2 (1125899906842624*U):=by unfold In';omega
 have s1':In' (-s) S:=by unfold In' at*;omega
 obtain⟨q1,q2,hC,n1,n2⟩:=H.cMul (a:=o.cSub a b) (b:=xI w) ⟨v1,v2⟩ ⟨hw.1,H.tn hw.2⟩ (Int.le_refl _) (In'.mul b1 r1) (In'.mul b2 s1') (In'.mul b1 s1') (In'.mul b2 r1)
 --the differences,in units of S
 have e1:In' (D1*S-2*(r*D.1-s*D.2)) ((2*d+2*U)*S):=by
  have h1:=jU (d:=D1-2*T.1) (e:=2*d+U) (k:=S) (K:=S) om om om om;rw[Int.mul_sub]at h1;have f1:S*(2*T.1)=2*(T.1*S):=by grind
  have f2:S*D1=D1*S:=Int.mul_comm _ _;exact aCJ
 have e2:In' (D2*S-2*(r*D.2+s*D.1)) ((2*d+2*U)*S):=by
  have h1:=jU (d:=D2-2*T.2) (e:=2*d+U) (k:=S) (K:=S) om om om om;rw[Int.mul_sub]at h1;have f1:S*(2*T.2)=2*(T.2*S):=by grind
  have f2:S*D2=D2*S:=Int.mul_comm _ _;exact aCJ
 have e2':In' (-(D2*S-2*(r*D.2+s*D.1))) ((2*d+2*U)*S):=by unfold In' at*;omega
 have y1:=(hs _ _ _ e1 e2').1;have y2:=(hs _ _ _ e2 e1).1;have fin:∀{c M X:Int},Nr (c*S) M (3*U*S)->In' (2*(M*S)-4*(X*(r*r+s*s))) (3*((2*d+2*U)*S*S))->In' (2*(X*Hc)) (U*S*S)->Nr X X 0->(-(U*S*S)<=2*(X*(r*r+s*s))-2*(X*(S*S))/\2*(X*(r*r+s*s))-2*(X*(S*S))<=U*S*S)->Nr (2*c) (4*X) (6*d+14*U):=by
  intro c M X hc hM hX _ hk;have h1:=jU (k:=S) (K:=S) hc.1 hc.2 om om;rw[Int.mul_sub]at h1;refine Nr.div S0 (Nr.div S0 ?_);have f1:2*c*S*S=2*(S*(c*S)):=by grind
  have f2:4*X*S*S=4*(X*(S*S)):=by grind
  have f3:(6*d+14*U)*S*S=2*(S*(3*U*S))+3*((2*d+2*U)*S*S)+2*(U*S*S):=by grind
  have f4:S*M=M*S:=Int.mul_comm _ _;rw[f4]at h1;unfold Nr In' at*
  rw[f1,f2,f3];omega
 have near:∀{X:Int},In' (2*(X*Hc)) (U*S*S)->-(U*S*S)<=2*(X*(r*r+s*s))-2*(X*(S*S))/\2*(X*(r*r+s*s))-2*(X*(S*S))<=U*S*S:=by
  intro X hX;obtain⟨A',hA0,hA1,hA2⟩:∃A',-A'<=X/\X<=A'/\2*(A'*Hc)<=U*S*S:=by
   rcases Int.le_total 0 X with c|c
   ·exact⟨X,om,om,hX.2⟩
   ·exact⟨-X,om,om,by rw[Int.neg_mul];have:=hX.1;omega⟩
  have h1:=jU hn.1 hn.2 hA0 hA1;rw[Int.mul_sub]at h1;omega
 have x1:In' (2*((D1*r-D2* -s)*S)-4*(D.1*(r*r+s*s))) (3*((2*d+2*U)*S*S)):=by
  have:2*((D1*r-D2* -s)*S)-4*(D.1*(r*r+s*s))=2*(r*(D1*S-2*(r*D.1-s*D.2))-s* -(D2*S-2*(r*D.2+s*D.1))):=by grind
  rw[this];exact y1
 have x2:In' (2*((D1* -s+D2*r)*S)-4*(D.2*(r*r+s*s))) (3*((2*d+2*U)*S*S)):=by
  have:2*((D1* -s+D2*r)*S)-4*(D.2*(r*r+s*s))=2*(r*(D2*S-2*(r*D.2+s*D.1))-s*(D1*S-2*(r*D.1-s*D.2))):=by grind
  rw[this];exact y2
 have z1:=fin n1 x1 (hD _ (.inl rfl)) ⟨om,om⟩ (near (hD _ (.inl rfl)));have z2:=fin n2 x2 (hD _ (.inr rfl)) ⟨om,om⟩ (near (hD _ (.inr rfl)));unfold Nr at z1 z2;unfold In' at hD1 hD2;obtain⟨x',w1,l1⟩:=H.E8 hh hh2 hC.1 (by unfold In';omega);obtain⟨y',w2,l2⟩:=H.E8 hh hh2 hC.2 (by unfold In';omega);unfold Nr at l1 l2;exact⟨x',y',⟨w1,w2⟩,by unfold Nr;omega,by unfold Nr;omega⟩
theorem Am.back(H:Am o V U S)(hh:V jo hf)(hh2:2*hf=S)(hU:2<=U){W:Nat->Nat->Int × Int}(hc0:0<=Hc)(hH:2*(Bx*Hc)<=U*S*S)(hBx:Bx<=70368744177664*U)
  (hW:∀k j:Nat,2<=k->k<=6->4*j<2^k->VC V (o.rt k (2*j)) (W k j).1 (W k j).2 /\Sm S (W k j)/\Nr ((W k j).1 *(W k j).1 +(W k j).2 *(W k j).2) (S*S) Hc):
  ∀(k:Nat) (x:Nat->Int) (B d:Int) (zs:Nat->Int × Int),1<=k->k<=6->0<=B->bM k B<=Bx->(d+12*U)*2^k<=70368744177664*U->0<=d->(∀i,i<2^k->In' (x i) B)->
  (∀j,2*j<2^k->∃p q,VC V (zs j) p q/\Nr p (Ti S W k x j).1 d/\Nr q (Ti S W k x j).2 d)->∀i,i<2^k->∃y,V (o.bk k zs i) y/\Nr y (x i) (eF U k d)
 |0,_,_,_,_,h,_,_,_,_,_,_,_=>absurd h de
 |1,x,B,d,zs,_,_,_,_,_,_,hx,hz=>fun i hi=>by
  obtain⟨p,q,hv,n1,n2⟩:=hz 0 de;simp only[Ti]at n1 n2;simp only[Ops.bk,eF];rcases(show i=0\/i=1 by omega)with rfl|rfl
  ·exact⟨p,hv.1,n1⟩
  ·exact⟨q,hv.2,n2⟩
 |k+2,x,B,d,zs,_,k6,b0,hB,hd,d0,hx,hz=>fun i hi=>by
  have u0:=H.u0;have S0:0<S:=by have:=H.s0;omega
  have e2:2^(k+2)=2*2^(k+1):=by rw[Nat.pow_succ,Nat.mul_comm]
  have e2':(2:Int)^(k+2)=2*2^(k+1):=by rw[Int.pow_succ,Int.mul_comm]
  have bm:=JU b0 (k+1);have hb2:bM (k+1+1) B=bM (k+2) B:=rfl;have dd:d<=70368744177664*U:=by
   exact aCH
  have hd':((3*d+9*U)/2+12*U)*2^(k+1)<=70368744177664*U:=by
   rw[e2',<-Int.mul_assoc]at hd;have p2:(0:Int)<2^(k+1):=Int.pow_pos de;exact Int.le_trans (Int.mul_le_mul_of_nonneg_right (show(3*d+9*U)/2+12*U<=(d+12*U)*2 by omega) om) hd
  have xe:∀i,i<2^(k+1)->In' (x (2*i)) B:=fun i hi=>hx _ om;have xo:∀i,i<2^(k+1)->In' (x (2*i+1)) B:=fun i hi=>hx _ om;have hS':=fun k j a b c=>(hW k j a b c).2.1;have te:=Cc S0 hS' (k+1) (fun m=>x (2*m)) B om om xe;have tO:=Cc S0 hS' (k+1) (fun m=>x (2*m+1)) B om om xo;have st:∀j,2*j<2^(k+1)->(∃p q,VC V (o.yx zs j) p q/\Nr p (Ti S W (k+1) (fun m=>x (2*m)) j).1 ((3*d+9*U)/2)/\Nr q (Ti S W (k+1) (fun m=>x (2*m)) j).2 ((3*d+9*U)/2))/\
    ∃p q,VC V (o.zK (k+2) zs j) p q/\Nr p (Ti S W (k+1) (fun m=>x (2*m+1)) j).1 ((3*d+9*U)/2)/\Nr q (Ti S W (k+1) (fun m=>x (2*m+1)) j).2 ((3*d+9*U)/2):=by
   intro j hj;obtain⟨z0,y0,ha,g0,g0'⟩:=hz (2*j) om;obtain⟨z1,y1,hb,g1,g1'⟩:=hz (2*j+1) om;obtain⟨a1,a2⟩:=te j hj;obtain⟨b1,b2⟩:=tO j hj;obtain⟨hw,hsm,hn⟩:=hW (k+2) j om k6 om;simp only[Ti]at g0 g0' g1 g1';rw[if_pos om,show 2*j/2=j by omega]at g0 g0';rw[if_neg om,show(2*j+1)/2=j by omega]at g1 g1';generalize Ti S W (k+1) (fun m=>x (2*m)) j=A at*
   generalize Ti S W (k+1) (fun m=>x (2*m+1)) j=D at*
   generalize bM (k+1) B=C at*
   have wA:∀{z:Int},In' z C->In' z (281474976710656*U):=fun h=>by unfold In' at*;omega
   have wD:∀{z:Int},In' z C->In' z (140737488355328*U):=fun h=>by unfold In' at*;omega
   obtain⟨p,hp,np⟩:=H.Oe hh hh2 g0 g1 ha.1 hb.1 (wA a1) om d0;obtain⟨q,hq,nq⟩:=H.Oe hh hh2 g0' g1' ha.2 hb.2 (wA a2) om d0;refine⟨⟨p,q,⟨hp,hq⟩,np,nq⟩,?_⟩;have hD:∀X,X=D.1\/X=D.2->In' (2*(X*Hc)) (U*S*S):=fun X hX=>by
    have hXC:In' X C:=by rcases hX with rfl|rfl<;>assumption
    have h1:=In'.mul hXC (show In' Hc Hc from ⟨om,om⟩);have h2:C*Hc<=Bx*Hc:=Int.mul_le_mul_of_nonneg_right om hc0;unfold In' at*;omega
   exact H.aAm (A:=A) hh hh2 hU hw hsm hn hD hc0 (wD b1) (wD b2) g0 g0' g1 g1' ha hb om d0
  simp only[Ops.bk,eF];split
  ·have:=Am.back H hh hh2 hU hc0 hH hBx hW (k+1) (fun m=>x (2*m)) B ((3*d+9*U)/2) (o.yx zs) om om b0 om hd' om xe (fun j hj=>(st j hj).1) (i/2) om;rw[show 2*(i/2)=i by omega]at this;exact this
  ·have:=Am.back H hh hh2 hU hc0 hH hBx hW (k+1) (fun m=>x (2*m+1)) B ((3*d+9*U)/2) (o.zK (k+2) zs) om om b0 om hd' om xo (fun j hj=>(st j hj).2) (i/2) om;rw[show 2*(i/2)+1=i by omega]at this;exact this
def wG(a b:Int × Int):Int × Int:=(a.1*b.1-a.2*b.2,a.1*b.2+a.2*b.1)
def TE(S:Int)(W:Nat->Nat->Int × Int):Nat->(Nat->Int)->Nat->Int × Int
 |0,_,_=>(0,0)
 |1,x,_=>(x 0,x 1)
 |k+2,x,i=>
  if i%2=0 then(S*(TE S W (k+1) (fun m=>x (2*m)) (i/2)).1 +(wG (W (k+2) (i/2)) (TE S W (k+1) (fun m=>x (2*m+1)) (i/2))).1,S*(TE S W (k+1) (fun m=>x (2*m)) (i/2)).2 +(wG (W (k+2) (i/2)) (TE S W (k+1) (fun m=>x (2*m+1)) (i/2))).2)
  else(S*(TE S W (k+1) (fun m=>x (2*m)) (i/2)).1 -(wG (W (k+2) (i/2)) (TE S W (k+1) (fun m=>x (2*m+1)) (i/2))).1,S*(TE S W (k+1) (fun m=>x (2*m)) (i/2)).2 -(wG (W (k+2) (i/2)) (TE S W (k+1) (fun m=>x (2*m+1)) (i/2))).2)
def RR(S:Int)(W:Nat->Nat->Int × Int):Nat->Nat->Int × Int
 |0,_=>(0,0)
 |1,_=>(0,S)
 |k+2,i=>if i%2=0 then W (k+2) (i/2)else(-(W (k+2) (i/2)).1,-(W (k+2) (i/2)).2)
def IY(k:Nat)(p:Nat->Int)(i:Nat):Int:=if i=0 then-p (2^k-1)else p (i-1)
def nG:Nat->(Nat->Int)->(Nat->Int)->Nat->Int
 |0,_,_,_=>0
 |1,f,g,i=>if i%2=0 then f 0*g 0-f 1*g 1 else f 0*g 1+f 1*g 0
 |k+2,f,g,i=>
  if i%2=0 then nG (k+1) (fun m=>f (2*m)) (fun m=>g (2*m)) (i/2)+IY (k+1) (nG (k+1) (fun m=>f (2*m+1)) (fun m=>g (2*m+1))) (i/2)
  else nG (k+1) (fun m=>f (2*m)) (fun m=>g (2*m+1)) (i/2)+nG (k+1) (fun m=>f (2*m+1)) (fun m=>g (2*m)) (i/2)
def TN(S:Int)(W:Nat->Nat->Int × Int)(k j:Nat):Int × Int:=((wG (W (k+2) j) (W (k+2) j)).1 -S*(RR S W (k+1) j).1,(wG (W (k+2) j) (W (k+2) j)).2 -S*(RR S W (k+1) j).2)
def Sg(S:Int)(W:Nat->Nat->Int × Int):Nat->(Nat->Int)->Nat->Int × Int
 |0,_,_=>(0,0)
 |1,_,_=>(0,0)
 |k+2,p,i=>(S*(Sg S W (k+1) (fun m=>p (2*m+1)) (i/2)).1 -(wG (TN S W k (i/2)) (TE S W (k+1) (fun m=>p (2*m+1)) (i/2))).1,S*(Sg S W (k+1) (fun m=>p (2*m+1)) (i/2)).2 -(wG (TN S W k (i/2)) (TE S W (k+1) (fun m=>p (2*m+1)) (i/2))).2)
variable {S:Int} {W:Nat->Nat->Int × Int}
theorem XZ(k:Nat)(p:Nat->Int)(m:Nat):IY (k+2) p (2*m)=IY (k+1) (fun m=>p (2*m+1)) m:=by
 unfold IY;by_cases h:m=0
 ·subst h;rw[if_pos rfl,if_pos rfl];have e2:2^(k+2)=2*2^(k+1):=by rw[Nat.pow_succ,Nat.mul_comm]
  have h1:0<2^(k+1):=Nat.pow_pos de;rw[show 2^(k+2)-1=2*(2^(k+1)-1)+1 by omega]
 ·rw[if_neg om,if_neg h];show p _=p _
  congr 1;omega
theorem aA5(k:Nat)(p:Nat->Int)(m:Nat):IY (k+2) p (2*m+1)=p (2*m):=by
 unfold IY;rw[if_neg (by omega)]
 congr 1
theorem Oo:∀(k:Nat) (p:Nat->Int) (i:Nat),1<=k->2*i<2^k->
  S*(TE S W k (IY k p) i).1 =(wG (RR S W k i) (TE S W k p i)).1 +(Sg S W k p i).1 /\S*(TE S W k (IY k p) i).2 =(wG (RR S W k i) (TE S W k p i)).2 +(Sg S W k p i).2
 |0,_,_,h,_=>absurd h de
 |1,p,i,_,_=>by
  simp only[TE,RR,Sg,wG];unfold IY;rw[if_pos rfl,if_neg (by decide)];simp[Int.mul_neg]
 |k+2,p,i,_,hi=>by
  have e2:2^(k+2)=2*2^(k+1):=by rw[Nat.pow_succ,Nat.mul_comm]
  obtain⟨h1,h2⟩:=Oo (k+1) (fun m=>p (2*m+1)) (i/2) om om;have ee:(fun m=>IY (k+2) p (2*m))=IY (k+1) (fun m=>p (2*m+1)):=funext fun m=>XZ k p m;have eo:(fun m=>IY (k+2) p (2*m+1))=fun m=>p (2*m):=funext fun m=>aA5 k p m;have hR:RR S W (k+2) i=if i%2=0 then W (k+2) (i/2)else(-(W (k+2) (i/2)).1,-(W (k+2) (i/2)).2):=by simp only[RR]
  rw[hR];simp only[TE,Sg,TN];rw[ee,eo];generalize TE S W (k+1) (IY (k+1) (fun m=>p (2*m+1))) (i/2)=X at*
  generalize TE S W (k+1) (fun m=>p (2*m+1)) (i/2)=Y at*
  generalize TE S W (k+1) (fun m=>p (2*m)) (i/2)=Z at*
  generalize Sg S W (k+1) (fun m=>p (2*m+1)) (i/2)=G at*
  generalize RR S W (k+1) (i/2)=R at*
  generalize W (k+2) (i/2)=w at*
  obtain⟨X1,X2⟩:=X;obtain⟨Y1,Y2⟩:=Y;obtain⟨Z1,Z2⟩:=Z;obtain⟨G1,G2⟩:=G;obtain⟨R1,R2⟩:=R;obtain⟨w1,w2⟩:=w;simp only[wG]at h1 h2⊢
  split<;>(dsimp only;constructor<;>grind)
theorem JW:∀(k:Nat) (a b:Nat->Int) (i:Nat),(TE S W k (fun m=>a m+b m) i).1 =(TE S W k a i).1 +(TE S W k b i).1 /\(TE S W k (fun m=>a m+b m) i).2 =(TE S W k a i).2 +(TE S W k b i).2
 |0,_,_,_=>by simp[TE]
 |1,a,b,i=>by simp[TE]
 |k+2,a,b,i=>by
  obtain⟨h1,h2⟩:=JW (k+1) (fun m=>a (2*m)) (fun m=>b (2*m)) (i/2);obtain⟨h3,h4⟩:=JW (k+1) (fun m=>a (2*m+1)) (fun m=>b (2*m+1)) (i/2);simp only[TE];generalize TE S W (k+1) (fun m=>a (2*m)+b (2*m)) (i/2)=X at*
  generalize TE S W (k+1) (fun m=>a (2*m)) (i/2)=X1 at*
  generalize TE S W (k+1) (fun m=>b (2*m)) (i/2)=X2 at*
  generalize TE S W (k+1) (fun m=>a (2*m+1)+b (2*m+1)) (i/2)=Y at*
  generalize TE S W (k+1) (fun m=>a (2*m+1)) (i/2)=Y1 at*
  generalize TE S W (k+1) (fun m=>b (2*m+1)) (i/2)=Y2 at*
  generalize W (k+2) (i/2)=w at*
  simp only[wG];rw[h1,h2,h3,h4];split<;>(dsimp only;constructor<;>grind)
def Mx(S:Int)(W:Nat->Nat->Int × Int):Nat->(Nat->Int)->(Nat->Int)->Nat->Int × Int
 |0,_,_,_=>(0,0)
 |1,_,_,_=>(0,0)
 |k+2,f,g,i=>
  let M1:=Mx S W (k+1) (fun m=>f (2*m)) (fun m=>g (2*m)) (i/2)
  let M2:=Mx S W (k+1) (fun m=>f (2*m+1)) (fun m=>g (2*m+1)) (i/2)
  let M3:=Mx S W (k+1) (fun m=>f (2*m)) (fun m=>g (2*m+1)) (i/2)
  let M4:=Mx S W (k+1) (fun m=>f (2*m+1)) (fun m=>g (2*m)) (i/2)
  let E:=wG (TN S W k (i/2)) (wG (TE S W (k+1) (fun m=>f (2*m+1)) (i/2)) (TE S W (k+1) (fun m=>g (2*m+1)) (i/2)))
  let R:=wG (RR S W (k+1) (i/2)) M2
  let G:=Sg S W (k+1) (nG (k+1) (fun m=>f (2*m+1)) (fun m=>g (2*m+1))) (i/2)
  let N:=wG (W (k+2) (i/2)) (M3.1+M4.1,M3.2+M4.2)
  if i%2=0 then(S*S*M1.1+S*N.1+E.1+S*R.1-S*S^k*G.1,S*S*M1.2+S*N.2+E.2+S*R.2-S*S^k*G.2)
  else(S*S*M1.1-S*N.1+E.1+S*R.1-S*S^k*G.1,S*S*M1.2-S*N.2+E.2+S*R.2-S*S^k*G.2)
theorem FP:∀(k:Nat) (f g:Nat->Int) (i:Nat),1<=k->2*i<2^k->
  (wG (TE S W k f i) (TE S W k g i)).1 =S^(k-1)*(TE S W k (nG k f g) i).1 +(Mx S W k f g i).1 /\(wG (TE S W k f i) (TE S W k g i)).2 =S^(k-1)*(TE S W k (nG k f g) i).2 +(Mx S W k f g i).2
 |0,_,_,_,h,_=>absurd h de
 |1,f,g,i,_,_=>by
  simp only[TE,Mx,wG,nG];simp
 |k+2,f,g,i,_,hi=>by
  have e2:2^(k+2)=2*2^(k+1):=by rw[Nat.pow_succ,Nat.mul_comm]
  have hi':2*(i/2)<2^(k+1):=om;obtain⟨p1,p2⟩:=FP (k+1) (fun m=>f (2*m)) (fun m=>g (2*m)) (i/2) om hi';obtain⟨q1,q2⟩:=FP (k+1) (fun m=>f (2*m+1)) (fun m=>g (2*m+1)) (i/2) om hi';obtain⟨r1,r2⟩:=FP (k+1) (fun m=>f (2*m)) (fun m=>g (2*m+1)) (i/2) om hi';obtain⟨s1,s2⟩:=FP (k+1) (fun m=>f (2*m+1)) (fun m=>g (2*m)) (i/2) om hi';obtain⟨t1,t2⟩:=Oo (S:=S) (W:=W) (k+1) (nG (k+1) (fun m=>f (2*m+1)) (fun m=>g (2*m+1))) (i/2) om hi';have ee:(fun m=>nG (k+2) f g (2*m))=fun m=>nG (k+1) (fun m=>f (2*m)) (fun m=>g (2*m)) m+IY (k+1) (nG (k+1) (fun m=>f (2*m+1)) (fun m=>g (2*m+1))) m:=funext fun m=>by
   simp only[nG];rw[if_pos om,show 2*m/2=m by omega]
  have eo:(fun m=>nG (k+2) f g (2*m+1))=fun m=>nG (k+1) (fun m=>f (2*m)) (fun m=>g (2*m+1)) m+nG (k+1) (fun m=>f (2*m+1)) (fun m=>g (2*m)) m:=funext fun m=>by
   simp only[nG];rw[if_neg om,show(2*m+1)/2=m by omega]
  obtain⟨a1,a2⟩:=JW (S:=S) (W:=W) (k+1) (nG (k+1) (fun m=>f (2*m)) (fun m=>g (2*m))) (IY (k+1) (nG (k+1) (fun m=>f (2*m+1)) (fun m=>g (2*m+1)))) (i/2);obtain⟨b1,b2⟩:=JW (S:=S) (W:=W) (k+1) (nG (k+1) (fun m=>f (2*m)) (fun m=>g (2*m+1))) (nG (k+1) (fun m=>f (2*m+1)) (fun m=>g (2*m))) (i/2);rw[show k+1-1=k from rfl]at p1 p2 q1 q2 r1 r2 s1 s2;rw[show k+2-1=k+1 from rfl,Int.pow_succ];simp only[TE,Mx,TN];rw[ee,eo,a1,a2];generalize TE S W (k+1) (fun m=>nG (k+1) (fun m=>f (2*m)) (fun m=>g (2*m+1)) m+nG (k+1) (fun m=>f (2*m+1)) (fun m=>g (2*m)) m) (i/2)=Z at*
  generalize TE S W (k+1) (fun m=>f (2*m)) (i/2)=A at*
  generalize TE S W (k+1) (fun m=>f (2*m+1)) (i/2)=B at*
  generalize TE S W (k+1) (fun m=>g (2*m)) (i/2)=C at*
  generalize TE S W (k+1) (fun m=>g (2*m+1)) (i/2)=D at*
  generalize TE S W (k+1) (IY (k+1) (nG (k+1) (fun m=>f (2*m+1)) (fun m=>g (2*m+1)))) (i/2)=X at*
  generalize TE S W (k+1) (nG (k+1) (fun m=>f (2*m)) (fun m=>g (2*m))) (i/2)=P at*
  generalize TE S W (k+1) (nG (k+1) (fun m=>f (2*m+1)) (fun m=>g (2*m+1))) (i/2)=Q at*
  generalize TE S W (k+1) (nG (k+1) (fun m=>f (2*m)) (fun m=>g (2*m+1))) (i/2)=R at*
  generalize TE S W (k+1) (nG (k+1) (fun m=>f (2*m+1)) (fun m=>g (2*m))) (i/2)=T at*
  generalize Mx S W (k+1) (fun m=>f (2*m)) (fun m=>g (2*m)) (i/2)=M1 at*
  generalize Mx S W (k+1) (fun m=>f (2*m+1)) (fun m=>g (2*m+1)) (i/2)=M2 at*
  generalize Mx S W (k+1) (fun m=>f (2*m)) (fun m=>g (2*m+1)) (i/2)=M3 at*
  generalize Mx S W (k+1) (fun m=>f (2*m+1)) (fun m=>g (2*m)) (i/2)=M4 at*
  generalize Sg S W (k+1) (nG (k+1) (fun m=>f (2*m+1)) (fun m=>g (2*m+1))) (i/2)=G at*
  generalize RR S W (k+1) (i/2)=O at*
  generalize W (k+2) (i/2)=w at*
  generalize S^k=Y at*
  clear ee eo a1 a2 hi hi' e2;obtain⟨ax1,ax2⟩:=A;obtain⟨bx1,bx2⟩:=B;obtain⟨Fp,cx2⟩:=C;obtain⟨dx1,dx2⟩:=D;obtain⟨xx1,xx2⟩:=X;obtain⟨px1,px2⟩:=P;obtain⟨qx1,qx2⟩:=Q;obtain⟨rx1,rx2⟩:=R;obtain⟨tx1,tx2⟩:=T;obtain⟨gx1,gx2⟩:=G;obtain⟨ox1,ox2⟩:=O;obtain⟨zx1,zx2⟩:=Z;obtain⟨wx1,wx2⟩:=w;obtain⟨m1,m2⟩:=M1;obtain⟨n1,n2⟩:=M2;obtain⟨u1,u2⟩:=M3;obtain⟨v1,v2⟩:=M4;simp only[wG]at p1 p2 q1 q2 r1 r2 s1 s2 t1 t2 b1 b2⊢
  obtain rfl:m1=ax1*Fp-ax2*cx2-Y*px1:=om;obtain rfl:m2=ax1*cx2+ax2*Fp-Y*px2:=om;obtain rfl:n1=bx1*dx1-bx2*dx2-Y*qx1:=om;obtain rfl:n2=bx1*dx2+bx2*dx1-Y*qx2:=om;obtain rfl:u1=ax1*dx1-ax2*dx2-Y*rx1:=om;obtain rfl:u2=ax1*dx2+ax2*dx1-Y*rx2:=om;obtain rfl:v1=bx1*Fp-bx2*cx2-Y*tx1:=om;obtain rfl:v2=bx1*cx2+bx2*Fp-Y*tx2:=om;obtain rfl:gx1=S*xx1-(ox1*qx1-ox2*qx2):=om;obtain rfl:gx2=S*xx2-(ox1*qx2+ox2*qx1):=om;subst b1 b2;clear p1 p2 q1 q2 r1 r2 s1 s2 t1 t2;split<;>(dsimp only;constructor<;>grind)
variable {S:Int} {W:Nat->Nat->Int × Int}
def xQ(a:Int × Int)(b:Int):Prop:=In' a.1 b/\In' a.2 b
theorem In'.wide(h:In' x a)(hb:a<=b):In' x b:=by unfold In' at*;omega
theorem JH{a b:Int × Int}(ha:xQ a x)(hb:xQ b y):xQ (wG a b) (2*(x*y)):=by
 have h1:=In'.mul ha.1 hb.1;have h2:=In'.mul ha.2 hb.2;have h3:=In'.mul ha.1 hb.2;have h4:=In'.mul ha.2 hb.1;unfold xQ wG In' at*
 dsimp only
 omega
theorem XV{w b:Int × Int}(hw:Sm S w)(hb:xQ b y)(y0:0<=y)(S0:0<S):xQ (wG w b) (2*(y*S)):=by
 obtain⟨h1,h2⟩:=hw.2.2 _ _ _ hb.1 hb.2;have:=Int.mul_nonneg y0 (show 0<=S by omega);unfold xQ wG In' at*
 dsimp only
 omega
def tB(S:Int):Nat->Int->Int
 |0,B=>B
 |1,B=>B
 |k+2,B=>3*(S*tB S (k+1) B)
def sB(S D:Int):Nat->Int->Int
 |0,_=>0
 |1,_=>0
 |k+2,P=>S*sB S D (k+1) P+2*(D*tB S (k+1) P)
def cB:Nat->Int->Int
 |0,B=>2*B
 |1,B=>2*B
 |k+2,B=>2*cB (k+1) B
def mB(S D:Int):Nat->Int->Int
 |0,_=>0
 |1,_=>0
 |k+2,B=>S*S*mB S D (k+1) B+S*(4*(mB S D (k+1) B*S))+2*(D*(2*(tB S (k+1) B*tB S (k+1) B)))+S*(2*(S*mB S D (k+1) B))+S*S^k*sB S D (k+1) (cB (k+1) (B*B))
theorem aDT(S0:0<S)(h:0<=B):∀k,0<=tB S k B
 |0=>h
 |1=>h
 |k+2=>by simp only[tB];have:=Int.mul_nonneg (show 0<=S by omega) (aDT S0 h (k+1));omega
theorem Oq(S0:0<S)(hW:∀k j:Nat,2<=k->k<=6->4*j<2^k->Sm S (W k j))(b0:0<=B):∀(k:Nat) (f:Nat->Int) (i:Nat),1<=k->k<=6->2*i<2^k->(∀i,i<2^k->In' (f i) B)->xQ (TE S W k f i) (tB S k B)
 |0,_,_,h,_,_,_=>absurd h de
 |1,f,i,_,_,_,hf=>by simp only[TE,tB];exact⟨hf 0 de,hf 1 de⟩
 |k+2,f,i,_,k6,hi,hf=>by
  have e2:2^(k+2)=2*2^(k+1):=by rw[Nat.pow_succ,Nat.mul_comm]
  have h1:=Oq S0 hW b0 (k+1) (fun m=>f (2*m)) (i/2) om om om (fun i hi=>hf _ om);have h2:=Oq S0 hW b0 (k+1) (fun m=>f (2*m+1)) (i/2) om om om (fun i hi=>hf _ om);have t0:=aDT S0 b0 (k+1);have h3:=XV (hW (k+2) (i/2) om k6 om) h2 t0 S0;simp only[TE,tB];generalize TE S W (k+1) (fun m=>f (2*m)) (i/2)=A at*
  generalize wG (W (k+2) (i/2)) (TE S W (k+1) (fun m=>f (2*m+1)) (i/2))=C at*
  generalize tB S (k+1) B=t at*
  have a1:=In'.mul (show In' S S from ⟨om,om⟩) h1.1;have a2:=In'.mul (show In' S S from ⟨om,om⟩) h1.2;rw[Int.mul_comm t]at h3;unfold xQ In' at*
  split<;>(dsimp only;omega)
theorem aEf(S0:0<S)(hW:∀k j:Nat,2<=k->k<=6->4*j<2^k->Sm S (W k j))(hD:∀k j:Nat,k+2<=6->4*j<2^(k+2)->xQ (TN S W k j) D)(p0:0<=P):∀(k:Nat) (p:Nat->Int) (i:Nat),1<=k->k<=6->2*i<2^k->(∀i,i<2^k->In' (p i) P)->xQ (Sg S W k p i) (sB S D k P)
 |0,_,_,h,_,_,_=>absurd h de
 |1,p,i,_,_,_,hf=>by simp only[Sg,sB];unfold xQ In';decide
 |k+2,p,i,_,k6,hi,hf=>by
  have e2:2^(k+2)=2*2^(k+1):=by rw[Nat.pow_succ,Nat.mul_comm]
  have h1:=aEf S0 hW hD p0 (k+1) (fun m=>p (2*m+1)) (i/2) om om om (fun i hi=>hf _ om);have h2:=Oq S0 hW p0 (k+1) (fun m=>p (2*m+1)) (i/2) om om om (fun i hi=>hf _ om);have h3:=JH (hD k (i/2) k6 om) h2;simp only[Sg,sB];generalize Sg S W (k+1) (fun m=>p (2*m+1)) (i/2)=A at*
  generalize wG (TN S W k (i/2)) (TE S W (k+1) (fun m=>p (2*m+1)) (i/2))=C at*
  have a1:=In'.mul (show In' S S from ⟨om,om⟩) h1.1;have a2:=In'.mul (show In' S S from ⟨om,om⟩) h1.2;unfold xQ In' at*
  dsimp only
  omega
theorem aEu(k:Nat)(p:Nat->Int)(h:∀i,i<2^k->In' (p i) P):∀i,i<2^k->In' (IY k p i) P:=by
 intro i hi;unfold IY;split
 ·have:=h (2^k-1) (by omega);unfold In' at*;omega
 ·exact h _ om
theorem AV:∀(k:Nat) (f g:Nat->Int),1<=k->(∀i,i<2^k->In' (f i) B)->(∀i,i<2^k->In' (g i) B)->∀i,i<2^k->In' (nG k f g i) (cB k (B*B))
 |0,_,_,h,_,_=>absurd h de
 |1,f,g,_,hf,hg=>fun i hi=>by
  have h1:=In'.mul (hf 0 de) (hg 0 de);have h2:=In'.mul (hf 1 de) (hg 1 de);have h3:=In'.mul (hf 0 de) (hg 1 de);have h4:=In'.mul (hf 1 de) (hg 0 de);simp only[nG,cB];unfold In' at*
  split<;>omega
 |k+2,f,g,_,hf,hg=>fun i hi=>by
  have e2:2^(k+2)=2*2^(k+1):=by rw[Nat.pow_succ,Nat.mul_comm]
  have fe:∀i,i<2^(k+1)->In' (f (2*i)) B:=fun i hi=>hf _ om;have fo:∀i,i<2^(k+1)->In' (f (2*i+1)) B:=fun i hi=>hf _ om;have ge:∀i,i<2^(k+1)->In' (g (2*i)) B:=fun i hi=>hg _ om;have go:∀i,i<2^(k+1)->In' (g (2*i+1)) B:=fun i hi=>hg _ om;have h1:=AV (k+1) _ _ om fe ge (i/2) om;have h2:=aEu (k+1) _ (AV (k+1) _ _ om fo go) (i/2) om;have h3:=AV (k+1) _ _ om fe go (i/2) om;have h4:=AV (k+1) _ _ om fo ge (i/2) om;simp only[nG,cB];unfold In' at*
  split<;>omega
theorem aD8(h:0<=B):∀k,0<=cB k B
 |0=>by simp only[cB];omega
 |1=>by simp only[cB];omega
 |k+2=>by simp only[cB];have:=aD8 h (k+1);omega
theorem aHz(S0:0<S)(hW:∀k j:Nat,2<=k->k<=6->4*j<2^k->Sm S (W k j)):∀k i:Nat,k<=6->2*i<2^k->xQ (RR S W k i) S
 |0,_,_,_=>by simp only[RR];unfold xQ In';dsimp only;omega
 |1,_,_,_=>by simp only[RR];unfold xQ In';dsimp only;omega
 |k+2,i,k6,hi=>by
  have h:=hW (k+2) (i/2) om k6 om;have h1:=h.1;have h2:=h.2.1;simp only[RR];unfold xQ In' at*
  split<;>(refine⟨⟨?_,?_⟩,?_,?_⟩<;>first|omega|(dsimp only;omega))
theorem Oz(S0:0<S)(hW:∀k j:Nat,2<=k->k<=6->4*j<2^k->Sm S (W k j))(hD:∀k j:Nat,k+2<=6->4*j<2^(k+2)->xQ (TN S W k j) D)(b0:0<=B):∀(k:Nat) (f g:Nat->Int) (i:Nat),1<=k->k<=6->2*i<2^k->(∀i,i<2^k->In' (f i) B)->(∀i,i<2^k->In' (g i) B)->xQ (Mx S W k f g i) (mB S D k B)
 |0,_,_,_,h,_,_,_,_=>absurd h de
 |1,f,g,i,_,_,_,_,_=>by simp only[Mx,mB];unfold xQ In';decide
 |k+2,f,g,i,_,k6,hi,hf,hg=>by
  have e2:2^(k+2)=2*2^(k+1):=by rw[Nat.pow_succ,Nat.mul_comm]
  have hi':2*(i/2)<2^(k+1):=om;have fe:∀i,i<2^(k+1)->In' (f (2*i)) B:=fun i hi=>hf _ om;have fo:∀i,i<2^(k+1)->In' (f (2*i+1)) B:=fun i hi=>hf _ om;have ge:∀i,i<2^(k+1)->In' (g (2*i)) B:=fun i hi=>hg _ om;have go:∀i,i<2^(k+1)->In' (g (2*i+1)) B:=fun i hi=>hg _ om;have h1:=Oz S0 hW hD b0 (k+1) (fun m=>f (2*m)) (fun m=>g (2*m)) (i/2) om om hi' fe ge;have h2:=Oz S0 hW hD b0 (k+1) (fun m=>f (2*m+1)) (fun m=>g (2*m+1)) (i/2) om om hi' fo go;have h3:=Oz S0 hW hD b0 (k+1) (fun m=>f (2*m)) (fun m=>g (2*m+1)) (i/2) om om hi' fe go;have h4:=Oz S0 hW hD b0 (k+1) (fun m=>f (2*m+1)) (fun m=>g (2*m)) (i/2) om om hi' fo ge;have t1:=Oq S0 hW b0 (k+1) (fun m=>f (2*m+1)) (i/2) om om hi' fo;have t2:=Oq S0 hW b0 (k+1) (fun m=>g (2*m+1)) (i/2) om om hi' go;have hE:=JH (hD k (i/2) k6 om) (JH t1 t2);have hR:=JH (aHz S0 hW (k+1) (i/2) om hi') h2;have hG:=aEf S0 hW hD (aD8 (Int.mul_nonneg b0 b0) (k+1)) (k+1) (nG (k+1) (fun m=>f (2*m+1)) (fun m=>g (2*m+1))) (i/2) om om hi' (AV (k+1) _ _ om fo go);have Sk:0<=S*S^k:=Int.mul_nonneg om (by have:0<S^k:=Int.pow_pos S0;omega);simp only[Mx,mB];generalize Mx S W (k+1) (fun m=>f (2*m)) (fun m=>g (2*m)) (i/2)=M1 at*
  generalize Mx S W (k+1) (fun m=>f (2*m+1)) (fun m=>g (2*m+1)) (i/2)=M2 at*
  generalize Mx S W (k+1) (fun m=>f (2*m)) (fun m=>g (2*m+1)) (i/2)=M3 at*
  generalize Mx S W (k+1) (fun m=>f (2*m+1)) (fun m=>g (2*m)) (i/2)=M4 at*
  generalize wG (TN S W k (i/2)) (wG (TE S W (k+1) (fun m=>f (2*m+1)) (i/2)) (TE S W (k+1) (fun m=>g (2*m+1)) (i/2)))=E at*
  generalize wG (RR S W (k+1) (i/2)) M2=R at*
  generalize Sg S W (k+1) (nG (k+1) (fun m=>f (2*m+1)) (fun m=>g (2*m+1))) (i/2)=G at*
  generalize mB S D (k+1) B=m at*
  have m0:0<=m:=by have:=h1.1;unfold In' at this;omega
  have h34:xQ (M3.1+M4.1,M3.2+M4.2) (2*m):=by unfold xQ In' at*;dsimp only;omega
  have hN:=XV (hW (k+2) (i/2) om k6 om) h34 om S0;generalize wG (W (k+2) (i/2)) (M3.1+M4.1,M3.2+M4.2)=N at*
  have eN:2*(2*m*S)=4*(m*S):=by rw[Int.mul_assoc 2 m S];omega
  rw[eN]at hN;generalize sB S D (k+1) (cB (k+1) (B*B))=s at*
  generalize S*S^k=Z at*
  have iS:In' S S:=⟨om,om⟩;have iSS:In' (S*S) (S*S):=In'.mul iS iS;have iZ:In' Z Z:=⟨om,om⟩;have a1:=In'.mul iSS h1.1;have a2:=In'.mul iSS h1.2;have a3:=In'.mul iS hN.1;have a4:=In'.mul iS hN.2;have a5:=In'.mul iS hR.1;have a6:=In'.mul iS hR.2;have a7:=In'.mul iZ hG.1;have a8:=In'.mul iZ hG.2;unfold xQ In' at*
  split<;>(dsimp only;omega)
def flN:Nat->Int
 |0=>0
 |1=>0
 |k+2=>3*flN (k+1)+1
theorem ZR:∀k,0<=flN k
 |0=>de
 |1=>de
 |k+2=>by simp only[flN];have:=ZR (k+1);omega
theorem Om(S0:0<S)(hW:∀k j:Nat,2<=k->k<=6->4*j<2^k->Sm S (W k j)):∀(k:Nat) (f:Nat->Int) (i:Nat),1<=k->k<=6->2*i<2^k->
  xQ (S^(k-1)*(Ti S W k (fun m=>f m*S) i).1 -S*(TE S W k f i).1,S^(k-1)*(Ti S W k (fun m=>f m*S) i).2 -S*(TE S W k f i).2) (flN k*S^(k-1))
 |0,_,_,h,_,_=>absurd h de
 |1,f,i,_,_,_=>by
  simp only[Ti,TE,flN];have e:∀z:Int,S^(1-1)*(z*S)-S*z=0:=fun z=>by rw[show 1-1=0 from rfl,Int.pow_zero,Int.one_mul,Int.mul_comm,Int.sub_self]
  rw[e,e,Int.zero_mul];unfold xQ In';decide
 |k+2,f,i,_,k6,hi=>by
  have e2:2^(k+2)=2*2^(k+1):=by rw[Nat.pow_succ,Nat.mul_comm]
  have h1:=Om S0 hW (k+1) (fun m=>f (2*m)) (i/2) om om om;have h2:=Om S0 hW (k+1) (fun m=>f (2*m+1)) (i/2) om om om;rw[show k+1-1=k from rfl]at h1 h2;rw[show k+2-1=k+1 from rfl,Int.pow_succ];obtain⟨⟨m1,m2⟩,m3,m4⟩:=Dq S0 (W (k+2) (i/2)) (Ti S W (k+1) (fun m=>f (2*m+1)*S) (i/2));have P0:0<S^k:=Int.pow_pos S0;have f0:=ZR (k+1);have h3:=XV (hW (k+2) (i/2) om k6 om) h2 (Int.mul_nonneg f0 om) S0;simp only[Ti,TE,flN];generalize Ti S W (k+1) (fun m=>f (2*m)*S) (i/2)=A at*
  generalize Ti S W (k+1) (fun m=>f (2*m+1)*S) (i/2)=D at*
  generalize TE S W (k+1) (fun m=>f (2*m)) (i/2)=A' at*
  generalize TE S W (k+1) (fun m=>f (2*m+1)) (i/2)=D' at*
  generalize mS S (W (k+2) (i/2)) D=T at*
  generalize W (k+2) (i/2)=w at*
  generalize S^k=P at*
  generalize flN (k+1)=c at*
  obtain⟨A1,A2⟩:=A;obtain⟨B1,B2⟩:=A';obtain⟨D1,D2⟩:=D;obtain⟨E1,E2⟩:=D';obtain⟨T1,T2⟩:=T;obtain⟨w1,w2⟩:=w;dsimp only at m1 m2 m3 m4;have iS:In' S S:=⟨om,om⟩;unfold xQ at h1;have a1:=In'.mul iS h1.1;have a2:=In'.mul iS h1.2;have n1:=jU (d:=T1*S-(w1*D1-w2*D2)) (e:=S) (k:=P) (K:=P) m1 om om om;have n2:=jU (d:=T2*S-(w1*D2+w2*D1)) (e:=S) (k:=P) (K:=P) m3 om om om;simp only[wG]at h3⊢
  unfold xQ In' at*
  dsimp only at*
  have g1:P*S*(A1+T1)-S*(S*B1+(w1*E1-w2*E2))=S*(P*A1-S*B1)+P*(T1*S-(w1*D1-w2*D2))+(w1*(P*D1-S*E1)-w2*(P*D2-S*E2)):=by grind
  have g2:P*S*(A2+T2)-S*(S*B2+(w1*E2+w2*E1))=S*(P*A2-S*B2)+P*(T2*S-(w1*D2+w2*D1))+(w1*(P*D2-S*E2)+w2*(P*D1-S*E1)):=by grind
  have g3:P*S*(A1-T1)-S*(S*B1-(w1*E1-w2*E2))=S*(P*A1-S*B1)-P*(T1*S-(w1*D1-w2*D2))-(w1*(P*D1-S*E1)-w2*(P*D2-S*E2)):=by grind
  have g4:P*S*(A2-T2)-S*(S*B2-(w1*E2+w2*E1))=S*(P*A2-S*B2)-P*(T2*S-(w1*D2+w2*D1))-(w1*(P*D2-S*E2)+w2*(P*D1-S*E1)):=by grind
  have g5:(3*c+1)*(P*S)=S*(c*P)+P*S+2*(c*P*S):=by grind
  split
  ·rw[g1,g2,g5];omega
  ·rw[g3,g4,g5];omega
theorem Xg{P:Prop}(h:P:=by
 refine yX h fun i hi=>?_;unfold sh;dsimp only
 by_cases c:i<=m/2
 ·rw[if_pos c,if_pos (by omega)];congr 2;omega
 ·rw[if_neg c,if_neg (by omega)];congr 3;omega):P:=h
def sm(F:Nat->Int):Nat->Int
 |0=>0
 |i+1=>sm F i+F i
theorem yX:∀n,(∀i,i<n->F i=H i)->sm F n=sm H n
 |0,_=>rfl
 |n+1,h=>by simp only[sm];rw[yX n fun i hi=>h i om,h n (by omega)]
theorem XU(F:Nat->Int):∀n,sm (fun i=>-F i) n=-sm F n
 |0=>rfl
 |n+1=>by simp only[sm];rw[XU F n];omega
theorem XT(F:Nat->Int):∀n,sm F (2*n)=sm (fun i=>F (2*i)) n+sm (fun i=>F (2*i+1)) n
 |0=>rfl
 |n+1=>by
  rw[show 2*(n+1)=2*n+1+1 by omega];simp only[sm];rw[XT F n];omega
theorem XO:∀n,(∀i,i<n->In' (F i) B)->In' (sm F n) ((n:Int)*B)
 |0,_=>by simp only[sm];unfold In';omega
 |n+1,h=>by
  have h1:=XO n fun i hi=>h i om;have h2:=h n om;have e:((n+1:Nat):Int)*B=(n:Int)*B+B:=by rw[show((n+1:Nat):Int)=(n:Int)+1 by omega,Int.add_mul,Int.one_mul]
  simp only[sm];rw[e];unfold In' at*
  omega
def sh(n:Nat)(g:Nat->Int)(i m:Nat):Int:=if i<=m then g (m-i)else-g (m+n-i)
theorem aAa:∀(k:Nat) (f g:Nat->Int) (m:Nat),1<=k->m<2^k->nG k f g m=sm (fun i=>f i*sh (2^k) g i m) (2^k)
 |0,_,_,_,h,_=>absurd h de
 |1,f,g,m,_,hm=>by
  rcases(show m=0\/m=1 by omega)with rfl|rfl
  ·simp[nG,sm,sh,Int.mul_neg];omega
  ·simp[nG,sm,sh]
 |k+2,f,g,m,_,hm=>by
  have e2:2^(k+2)=2*2^(k+1):=by rw[Nat.pow_succ,Nat.mul_comm]
  have p0:0<2^(k+1):=Nat.pow_pos de;have ih:=fun f g m h=>aAa (k+1) f g m om h;rw[e2,XT];simp only[nG];rw[e2]at hm;obtain⟨h,hh⟩:∃h,h=2^(k+1):=⟨_,rfl⟩;rw[<-hh]at hm ih p0 e2⊢
  split
  ·rw[ih _ _ _ (by omega)]
   congr 1
   ·exact Xg
   ·unfold IY;by_cases z:m/2=0
    ·rw[if_pos z,<-hh,ih _ _ _ om,<-XU];refine yX h fun i hi=>?_;unfold sh;dsimp only
     rw[if_pos om,if_neg om,<-Int.mul_neg];congr 3;omega
    ·rw[if_neg z,ih _ _ _ (by omega)];refine yX h fun i hi=>?_;unfold sh;dsimp only
     by_cases c:i<=m/2-1
     ·rw[if_pos c,if_pos (by omega)];congr 2;omega
     ·rw[if_neg c,if_neg (by omega)];congr 3;omega
  ·rw[ih _ _ _ om,ih _ _ _ (by omega)]
   congr 1
   ·exact Xg
   ·exact Xg
def cC:Nat->Int
 |0=>2
 |k+1=>cC k+2*3^(k+1)
def mC:Nat->Int
 |0=>4
 |k+1=>7*mC k+4*9^(k+1)+cC k*2^(k+2)
theorem XM(S B:Int):∀k,tB S (k+1) B=3^k*S^k*B
 |0=>by simp[tB]
 |k+1=>by
  simp only[tB];rw[XM S B k,Int.pow_succ,Int.pow_succ]
  grind
theorem aD9(B:Int):∀k,cB (k+1) B=2^(k+1)*B
 |0=>by simp[cB]
 |k+1=>by
  simp only[cB];rw[aD9 B k,Int.pow_succ 2 (k+1)]
  grind
theorem aDW(S D P:Int):∀k,sB S D (k+2) P=D*S^k*cC k*P
 |0=>by simp only[sB,tB,cC];grind
 |k+1=>by
  have h:=aDW S D P k;have e:sB S D (k+1+2) P=S*sB S D (k+2) P+2*(D*tB S (k+2) P):=by simp only[sB]
  rw[e,h,XM S P (k+1)];simp only[cC];rw[Int.pow_succ S k]
  grind
theorem aDZ(S D B:Int):∀k,mB S D (k+2) B=D*(S^k*S^k)*mC k*(B*B)
 |0=>by simp only[mB,tB,sB,cB,mC];grind
 |k+1=>by
  have h:=aDZ S D B k;have e:mB S D (k+1+2) B=S*S*mB S D (k+2) B+S*(4*(mB S D (k+2) B*S))+2*(D*(2*(tB S (k+2) B*tB S (k+2) B)))+S*(2*(S*mB S D (k+2) B))+S*S^(k+1)*sB S D (k+2) (cB (k+2) (B*B)):=by simp only[mB]
  rw[e,h,XM S B (k+1),aDW,aD9];simp only[mC];rw[show(9:Int)^(k+1)=3^(k+1)*3^(k+1) by rw[<-Int.mul_pow];rfl,Int.pow_succ S k];generalize(3:Int)^(k+1)=X;generalize(2:Int)^(k+1+1)=Y;generalize S^k=Z;generalize mC k=m;generalize cC k=c
  grind
theorem ML(P0:0<P)(S0:0<S)(X0:0<=X)(hA1:In' A1 b)(hA2:In' A2 b)(hB1:In' B1 b)(hB2:In' B2 b)
  (a1:In' (P*A1-S*D1) (φ*P)) (a2:In' (P*A2-S*D2) (φ*P)) (b1:In' (P*B1-S*E1) (φ*P)) (b2:In' (P*B2-S*E2) (φ*P)) (c1:In' (P*C1-S*F1) (φ*P)) (hM:In' M μ) (hX:X*μ<=Y*(P*P))
  (h:D1*E1-D2*E2=P*F1+M):In' (X*(A1*B1-A2*B2-S*C1)) (X*(4*(b*φ)+2*(φ*φ)+S*φ)+S*S*Y):=by
 obtain⟨x1,ex1⟩:∃x,x=P*A1-S*D1:=⟨_,rfl⟩;obtain⟨x2,ex2⟩:∃x,x=P*A2-S*D2:=⟨_,rfl⟩;obtain⟨y1,ey1⟩:∃x,x=P*B1-S*E1:=⟨_,rfl⟩;obtain⟨y2,ey2⟩:∃x,x=P*B2-S*E2:=⟨_,rfl⟩;obtain⟨z1,ez1⟩:∃x,x=P*C1-S*F1:=⟨_,rfl⟩;rw[<-ex1]at a1;rw[<-ex2]at a2;rw[<-ey1]at b1;rw[<-ey2]at b2;rw[<-ez1]at c1;have key:P*P*(A1*B1-A2*B2-S*C1)=P*(A1*y1)+P*(x1*B1)-x1*y1-P*(A2*y2)-P*(x2*B2)+x2*y2-P*(S*z1)+S*S*M:=by
  subst ex1 ex2 ey1 ey2 ez1;have hM':M=D1*E1-D2*E2-P*F1:=om;subst hM'
  grind
 have iP:In' P P:=⟨om,om⟩;have iS:In' S S:=⟨om,om⟩;have k1:=In'.mul iP (In'.mul hA1 b1);have k2:=In'.mul iP (In'.mul a1 hB1);have k3:=In'.mul a1 b1;have k4:=In'.mul iP (In'.mul hA2 b2);have k5:=In'.mul iP (In'.mul a2 hB2);have k6:=In'.mul a2 b2;have k7:=In'.mul iP (In'.mul iS c1);have k8:=In'.mul (In'.mul iS iS) hM;have s1:In' (P*P*(A1*B1-A2*B2-S*C1)) (P*P*(4*(b*φ)+2*(φ*φ)+S*φ)+S*S*μ):=by
  rw[key];have f1:P*(b*(φ*P))=P*P*(b*φ):=by grind
  have f2:P*(φ*P*b)=P*P*(b*φ):=by grind
  have f3:φ*P*(φ*P)=P*P*(φ*φ):=by grind
  have f4:P*(S*(φ*P))=P*P*(S*φ):=by grind
  have f5:P*P*(4*(b*φ)+2*(φ*φ)+S*φ)=4*(P*P*(b*φ))+2*(P*P*(φ*φ))+P*P*(S*φ):=by grind
  rw[f1]at k1 k4;rw[f2]at k2 k5;rw[f3]at k3 k6;rw[f4]at k7;rw[f5];unfold In' at*
  omega
 have s2:=In'.mul (show In' X X from ⟨om,om⟩) s1;refine In'.div P0 (In'.div P0 ?_);have g1:X*(A1*B1-A2*B2-S*C1)*P*P=X*(P*P*(A1*B1-A2*B2-S*C1)):=by grind
 have g2:X*(P*P*(4*(b*φ)+2*(φ*φ)+S*φ)+S*S*μ)=X*(4*(b*φ)+2*(φ*φ)+S*φ)*P*P+S*S*(X*μ):=by grind
 have g3:(X*(4*(b*φ)+2*(φ*φ)+S*φ)+S*S*Y)*P*P=X*(4*(b*φ)+2*(φ*φ)+S*φ)*P*P+S*S*(Y*(P*P)):=by grind
 have g4:S*S*(X*μ)<=S*S*(Y*(P*P)):=Int.mul_le_mul_of_nonneg_left hX (Int.mul_nonneg om om);rw[g1,g3];rw[g2]at s2;unfold In' at*
 omega
theorem KL(hA1:In' A1 b)(hA2:In' A2 b)(hB1:In' B1 b)(hB2:In' B2 b)(h1:Nr p A1 e)(h2:Nr q A2 e)(h3:Nr r B1 e)(h4:Nr t B2 e):In' (p*r-q*t-(A1*B1-A2*B2)) (4*(b*e)+2*(e*e)):=by
 have i1:In' (p-A1) e:=h1;have i2:In' (q-A2) e:=h2;have i3:In' (r-B1) e:=h3;have i4:In' (t-B2) e:=h4;have k1:=In'.mul hA1 i3;have k2:=In'.mul hB1 i1;have k3:=In'.mul i1 i3;have k4:=In'.mul hA2 i4;have k5:=In'.mul hB2 i2;have k6:=In'.mul i2 i4;have e1:p*r-q*t-(A1*B1-A2*B2)=A1*(r-B1)+B1*(p-A1)+(p-A1)*(r-B1)-A2*(t-B2)-B2*(q-A2)-(q-A2)*(t-B2):=by grind
 rw[e1];unfold In' at*
 omega
theorem Tq(big:1267650600228229401496703205376<=s)
  (h0:Nr (t*(70368744177664*s)) pr (3*(68719476736*s)*(70368744177664*s)))
  (h1:In' (pr-AB) (4*(200000*(70368744177664*s)*(443*(8192*s)))+2*(443*(8192*s)*(443*(8192*s)))))
  (h2:In' (70368744177664*(AB-70368744177664*s*C)) (70368744177664*(4*(200000*(70368744177664*s)*121)+2*(121*121)+70368744177664*s*121)+70368744177664*s*(70368744177664*s)*(95836*4190209))):
  Nr t C (3573412790272*s):=by
 refine Nr.div (S:=70368744177664*s) om ?_;have q1:=Int.mul_le_mul_of_nonneg_right big (show 0<=s by omega);obtain⟨Q,hQ⟩:∃Q,Q=s*s:=⟨_,rfl⟩;rw[<-hQ]at q1;have e1:3*(68719476736*s)*(70368744177664*s)=3*68719476736*70368744177664*Q:=by rw[hQ];grind
 have e2:200000*(70368744177664*s)*(443*(8192*s))=200000*70368744177664*443*8192*Q:=by rw[hQ];grind
 have e3:443*(8192*s)*(443*(8192*s))=443*8192*443*8192*Q:=by rw[hQ];grind
 have e4:70368744177664*s*(70368744177664*s)*(95836*4190209)=70368744177664*70368744177664*95836*4190209*Q:=by rw[hQ];grind
 have e5:3573412790272*s*(70368744177664*s)=3573412790272*70368744177664*Q:=by rw[hQ];grind
 have e6:70368744177664*s*C=C*(70368744177664*s):=Int.mul_comm _ _;rw[e1]at h0;rw[e2,e3]at h1;rw[e4,e6]at h2;rw[e5];generalize C*(70368744177664*s)=Z at*
 generalize t*(70368744177664*s)=T at*
 unfold Nr In' at*
 omega
variable {o:Ops} {V:Int->Int->Prop} {W:Nat->Nat->Int × Int}
theorem six(k1:1<=k)(k6:k<=6):k=1\/k=2\/k=3\/k=4\/k=5\/k=6:=om
theorem aHi(S0:1000<=S)(k1:1<=k)(k6:k<=6):0<=bM k (2047*S)/\bM k (2047*S)<=200000*S:=by
 rcases six k1 k6 with rfl|rfl|rfl|rfl|rfl|rfl<;>simp only[bM]<;>omega
theorem aG4(k1:1<=k)(k6:k<=6):0<=eM k/\eM k<=443:=by
 rcases six k1 k6 with rfl|rfl|rfl|rfl|rfl|rfl<;>decide
theorem aFo(k1:1<=k)(k6:k<=6):flN k<=121:=by
 rcases six k1 k6 with rfl|rfl|rfl|rfl|rfl|rfl<;>decide
theorem aGt(k1:1<=k)(k6:k<=6):70368744177664*mB (70368744177664*s) (70368744177664*(s*s)) k 2047<=95836*4190209*((70368744177664*s)^(k-1)*(70368744177664*s)^(k-1)):=by
 obtain⟨S,hS⟩:∃S,S=70368744177664*s:=⟨_,rfl⟩;have hq:∀x:Int,0<=x*x:=fun x=>by
  rcases Int.le_total 0 x with c|c
  ·exact Int.mul_nonneg c c
  ·exact Int.mul_nonneg_of_nonpos_of_nonpos c c
 rw[<-hS];rcases(show k=1\/∃m,k=m+2 by rcases Nat.lt_or_ge k 2 with c|c;exact .inl (by omega);exact .inr ⟨k-2,om⟩)with rfl|⟨m,rfl⟩
 ·simp[mB]
 ·rw[aDZ,show m+2-1=m+1 from rfl,Int.pow_succ];have hm:0<=mC m/\mC m<=95836:=by
   rcases(show m=0\/m=1\/m=2\/m=3\/m=4 by omega)with rfl|rfl|rfl|rfl|rfl<;>decide
  have e1:70368744177664*(70368744177664*(s*s)*(S^m*S^m)*mC m*(2047*2047))=mC m*(4190209*(S^m*S*(S^m*S))):=by
   rw[hS];generalize(70368744177664*s)^m=Z;grind
  have e2:95836*4190209*(S^m*S*(S^m*S))=95836*(4190209*(S^m*S*(S^m*S))):=by grind
  rw[e1,e2];have:=hq (S^m*S);exact Int.mul_le_mul_of_nonneg_right hm.2 om
theorem Vm(H1:Am o V (8192*s) (70368744177664*s))(H2:Am o V (68719476736*s) (70368744177664*s))(big:1267650600228229401496703205376<=s)
  (hW:∀k j:Nat,2<=k->k<=6->4*j<2^k->VC V (o.rt k (2*j)) (W k j).1 (W k j).2 /\Sm (70368744177664*s) (W k j)) (hD:∀k j:Nat,k+2<=6->4*j<2^(k+2)->xQ (TN (70368744177664*s) W k j) (70368744177664*(s*s)))
   (k1:1<=k) (k6:k<=6)   (hcf:∀i,i<2^k->∃v,V (cf i) v/\Nr v (f i*(70368744177664*s)) (8192*s)) (hcg:∀i,i<2^k->∃v,V (cg i) v/\Nr v (g i*(70368744177664*s)) (8192*s))
  (hf:∀i,i<2^k->In' (f i) 2047) (hg:∀i,i<2^k->In' (g i) 2047) (j:Nat) (hj:2*j<2^k):
  ∃t1 t2,VC V (o.cMul (o.tr k cf j) (o.tr k cg j)) t1 t2/\Nr t1 (Ti (70368744177664*s) W k (fun m=>nG k f g m*(70368744177664*s)) j).1 (3573412790272*s)/\Nr t2 (Ti (70368744177664*s) W k (fun m=>nG k f g m*(70368744177664*s)) j).2 (3573412790272*s):=by
 have hm:=aGt (s:=s) k1 k6;have hs:0<s:=om;obtain⟨S,hS⟩:∃S,S=70368744177664*s:=⟨_,rfl⟩;have hS':=fun k j a b c=>(hW k j a b c).2;have S0:0<S:=om;have hbx:∀{x:Int},In' x 2047->In' (x*S) (2047*S):=fun h=>In'.mul h ⟨om,om⟩;obtain⟨b0,b1⟩:=aHi (S:=S) om k1 k6;obtain⟨e0,e1⟩:=aG4 k1 k6;have fl:=aFo k1 k6;have eU:eM k*(8192*s)<=443*(8192*s):=Int.mul_le_mul_of_nonneg_right e1 om;rw[<-hS]at hm hcf hcg hS' hD;have T1:=Am.tr H1 hW k cf (fun m=>f m*S) (2047*S) k1 k6 om om (fun i hi=>hcf i hi) (fun i hi=>hbx (hf i hi)) j hj;have T2:=Am.tr H1 hW k cg (fun m=>g m*S) (2047*S) k1 k6 om om (fun i hi=>hcg i hi) (fun i hi=>hbx (hg i hi)) j hj;rw[<-hS]at T1 T2⊢
 obtain⟨p,q,hv,n1,n2⟩:=T1;obtain⟨r,t,hu,n3,n4⟩:=T2;have i1:=Cc S0 hS' k (fun m=>f m*S) (2047*S) k1 k6 (fun i hi=>hbx (hf i hi)) j hj;have i2:=Cc S0 hS' k (fun m=>g m*S) (2047*S) k1 k6 (fun i hi=>hbx (hg i hi)) j hj;have x1:=Om S0 hS' k f j k1 k6 hj;have x2:=Om S0 hS' k g j k1 k6 hj;have x3:=Om S0 hS' k (nG k f g) j k1 k6 hj;have P0:0<S^(k-1):=Int.pow_pos S0;obtain⟨m1,m2⟩:=FP (S:=S) (W:=W) k f g j k1 hj;have mi:=Oz S0 hS' hD (show(0:Int)<=2047 by decide) k f g j k1 k6 hj hf hg;generalize Ti S W k (fun m=>f m*S) j=A at*
 generalize Ti S W k (fun m=>g m*S) j=B at*
 generalize Ti S W k (fun m=>nG k f g m*S) j=C at*
 generalize TE S W k f j=A' at*
 generalize TE S W k g j=B' at*
 generalize TE S W k (nG k f g) j=C' at*
 generalize Mx S W k f g j=M at*
 generalize mB S (70368744177664*(s*s)) k 2047=μ at*
 generalize S^(k-1)=P at*
 generalize bM k (2047*S)=b at*
 have flP:flN k*P<=121*P:=Int.mul_le_mul_of_nonneg_right fl om;have wb:∀{x:Int},In' x b->In' x (200000*S):=fun h=>h.wide b1;have wf:∀{x:Int},In' x (flN k*P)->In' x (121*P):=fun h=>h.wide flP;have we:∀{x y:Int},Nr x y (eM k*(8192*s))->Nr x y (443*(8192*s)):=fun h=>by unfold Nr at*;omega
 simp only[wG]at m1 m2;have N1:=ML (X:=70368744177664) (Y:=95836*4190209) P0 S0 de (wb i1.1) (wb i1.2) (wb i2.1) (wb i2.2) (wf x1.1) (wf x1.2) (wf x2.1) (wf x2.2) (wf x3.1) mi.1 hm m1;have ng:∀{x y:Int},In' x y->In' (-x) y:=fun h=>by unfold In' at*;omega
 have x1n:In' (P* -A.2-S* -A'.2) (121*P):=by
  have e:P* -A.2-S* -A'.2=-(P*A.2-S*A'.2):=by rw[Int.mul_neg,Int.mul_neg];omega
  rw[e];exact ng (wf x1.2)
 have N2:=ML (X:=70368744177664) (Y:=95836*4190209) (A1:=A.1) (A2:=-A.2) (B1:=B.2) (B2:=B.1) (D1:=A'.1) (D2:=-A'.2) (E1:=B'.2) (E2:=B'.1) P0 S0 de (wb i1.1) (ng (wb i1.2)) (wb i2.2) (wb i2.1) (wf x1.1) x1n (wf x2.2) (wf x2.1) (wf x3.2) mi.2 hm (by rw[Int.neg_mul,Int.sub_neg];exact m2);have Q1:=KL (wb i1.1) (wb i1.2) (wb i2.1) (wb i2.2) (we n1) (we n2) (we n3) (we n4);have Q2:=KL (p:=p) (q:=-q) (A1:=A.1) (A2:=-A.2) (r:=t) (B1:=B.2) (t:=r) (B2:=B.1) (wb i1.1) (ng (wb i1.2)) (wb i2.2) (wb i2.1) (we n1) (by have:=we n2;unfold Nr at*;omega) (we n4) (we n3);rw[Int.neg_mul,Int.neg_mul,Int.sub_neg,Int.sub_neg]at Q2;rw[Int.neg_mul,Int.sub_neg]at N2;have zL:∀{x X:Int},Nr x X (eM k*(8192*s))->In' X b->In' x (200001*S):=fun h h'=>by
  have a1:=wb h';have a3:=we h;unfold In' Nr at*
  omega
 have aCm:∀{x y:Int},In' x (200001*S)->In' y (200001*S)->In' (x*y) (40000400001*S*S):=fun h h'=>by
  have:=In'.mul h h';exact this.wide (by grind)
 have j1:=zL n1 i1.1;have j2:=zL n2 i1.2;have j3:=zL n3 i2.1;have j4:=zL n4 i2.2;rw[<-hS]at H2;obtain⟨t1,t2,ht,k1',k2'⟩:=H2.cMul hv hu (B:=40000400001*S) om (aCm j1 j3) (aCm j2 j4) (aCm j1 j4) (aCm j2 j3);rw[hS]at k1' k2' Q1 Q2 N1 N2;exact⟨t1,t2,ht,Tq big k1' Q1 N1,Tq big k2' Q2 N2⟩
theorem aFD(S0:1000<=S)(k1:1<=k)(k6:k<=6):bM k (268173376*S)<=26200000000*S:=by
 rcases six k1 k6 with rfl|rfl|rfl|rfl|rfl|rfl<;>simp only[bM]<;>omega
theorem aG5(s0:1000<=s)(k1:1<=k)(k6:k<=6):2*eF (68719476736*s) k (3573412790272*s)<70368744177664*s:=by
 rcases six k1 k6 with rfl|rfl|rfl|rfl|rfl|rfl<;>simp only[eF]<;>omega
theorem aHe(k1:1<=k)(k6:k<=6):cB k (2047*2047)<=268173376:=by
 rcases six k1 k6 with rfl|rfl|rfl|rfl|rfl|rfl<;>decide
theorem Vo(H1:Am o V (8192*s) (70368744177664*s))(H2:Am o V (68719476736*s) (70368744177664*s))(big:1267650600228229401496703205376<=s)(hh:V jo (35184372088832*s))
  (hW:∀k j:Nat,2<=k->k<=6->4*j<2^k->VC V (o.rt k (2*j)) (W k j).1 (W k j).2 /\Sm (70368744177664*s) (W k j)/\Nr ((W k j).1 *(W k j).1 +(W k j).2 *(W k j).2) (70368744177664*s*(70368744177664*s)) (70368744177664*(s*s)))
  (hD:∀k j:Nat,k+2<=6->4*j<2^(k+2)->xQ (TN (70368744177664*s) W k j) (70368744177664*(s*s)))
   (k1:1<=k) (k6:k<=6)   (hcf:∀i,i<2^k->∃v,V (cf i) v/\Nr v (f i*(70368744177664*s)) (8192*s)) (hcg:∀i,i<2^k->∃v,V (cg i) v/\Nr v (g i*(70368744177664*s)) (8192*s))
  (hf:∀i,i<2^k->In' (f i) 2047) (hg:∀i,i<2^k->In' (g i) 2047) (i:Nat) (hi:i<2^k):
  In' (nG k f g i) 268173376/\∃y,V (o.bk k (fun j=>o.cMul (o.tr k cf j) (o.tr k cg j)) i) y/\2*y<2*(nG k f g i*(70368744177664*s))+70368744177664*s/\2*(nG k f g i*(70368744177664*s))<2*y+70368744177664*s:=by
 have hc:∀i,i<2^k->In' (nG k f g i) 268173376:=fun i hi=>(AV k f g k1 hf hg i hi).wide (aHe k1 k6);refine⟨hc i hi,?_⟩;have hs:0<s:=om;have hq:0<=s*s:=Int.mul_nonneg om om;have hq3:0<=s*s*s:=Int.mul_nonneg hq om;have pw:(2:Int)^k<=64:=by rcases six k1 k6 with rfl|rfl|rfl|rfl|rfl|rfl<;>decide
 obtain⟨y,hy,hn⟩:=Am.back H2 hh om om (Hc:=70368744177664*(s*s)) (Bx:=26200000000*(70368744177664*s)) om
  (by
   have e1:26200000000*(70368744177664*s)*(70368744177664*(s*s))=26200000000*70368744177664*70368744177664*(s*s*s):=by grind
   have e2:68719476736*s*(70368744177664*s)*(70368744177664*s)=68719476736*70368744177664*70368744177664*(s*s*s):=by grind
   rw[e1,e2];omega)
  om hW k (fun m=>nG k f g m*(70368744177664*s)) (268173376*(70368744177664*s)) (3573412790272*s) (fun j=>o.cMul (o.tr k cf j) (o.tr k cg j)) k1 k6 om (aFD om k1 k6)
  (by
   have:=Int.mul_le_mul_of_nonneg_left pw (show 0<=3573412790272*s+12*(68719476736*s) by omega);omega)
  om (fun i hi=>In'.mul (hc i hi) ⟨om,om⟩) (fun j hj=>Vm H1 H2 big (fun k j a b c=>⟨(hW k j a b c).1,(hW k j a b c).2.1⟩) hD k1 k6 hcf hcg hf hg j hj) i hi
 have he:=aG5 (s:=s) om k1 k6;exact⟨y,hy,by unfold Nr at hn;omega,by unfold Nr at hn;omega⟩
theorem aCI{P:Prop}(h:P:=by
 rw[if_neg e];unfold pw;have e1:atg n i m≠j:=by unfold atg;split<;>omega
 by_cases c:atg n i m<j
 ·rw[if_pos c,if_pos (by omega)]
 ·rw[if_neg c,if_neg (by omega)]):P:=h
def atg(n i m:Nat):Nat:=if i<=m then m-i else m+n-i
def pw(n:Nat)(f g:Nat->Int)(i j m:Nat):Int:=sm (fun i=>f i*sh n g i m) i+if atg n i m<j then f i*sh n g i m else 0
theorem aEW(hm:m<n)(hi:i<n):pw n f g i n m=pw n f g (i+1) 0 m:=by
 unfold pw;rw[if_pos (by unfold atg;split<;>omega),if_neg (by omega)];simp only[sm];omega
theorem YE:pw n f g i 0 m=sm (fun i=>f i*sh n g i m) i:=by
 unfold pw;rw[if_neg (by omega)];omega
theorem aGl(h:i+j<n)(hm:m<n):(if m=i+j then pw n f g i j (i+j)+f i*g j else pw n f g i j m)=pw n f g i (j+1) m:=by
 by_cases e:m=i+j
 ·subst e;rw[if_pos rfl];unfold pw;have e1:atg n i (i+j)=j:=by unfold atg;split<;>omega
  have e2:sh n g i (i+j)=g j:=by unfold sh;rw[if_pos (by omega)];congr 1;omega
  rw[e1,e2,if_neg om,if_pos (by omega)];omega
 ·exact aCI
theorem aGm{q:Nat}(h:i+j=q+n)(hi:i<n)(hj:j<n)(hm:m<n):(if m=q then pw n f g i j q-f i*g j else pw n f g i j m)=pw n f g i (j+1) m:=by
 by_cases e:m=q
 ·subst e;rw[if_pos rfl];unfold pw;have e1:atg n i m=j:=by unfold atg;split<;>omega
  have e2:sh n g i m=-g j:=by unfold sh;rw[if_neg (by omega)];congr 2;omega
  rw[e1,e2,if_neg om,if_pos om,Int.mul_neg];omega
 ·exact aCI
theorem aDY(hx:zX x)(hy:zX y):In' (x*y) 4190209:=by
 have:=In'.mul (x:=x) (b:=2047) (y:=y) (c:=2047) hx hy;exact this
theorem aDX(hn:n<=64)(hf:∀i,i<n->zX (f i))(hg:∀i,i<n->zX (g i))(hi:i<n)(hm:m<n):In' (pw n f g i j m) 272363585:=by
 have hs:∀i,i<n->In' (f i*sh n g i m) 4190209:=fun i hi=>by
  refine aDY (hf i hi) ?_;unfold sh;split
  ·exact hg _ om
  ·have:=hg (m+n-i) om;unfold zX at*;omega
 have h1:=XO i fun q hq=>hs q om;have h2:=hs i hi;have h3:(i:Int)*4190209<=268173376:=om;unfold pw;unfold In' at*
 split<;>omega
