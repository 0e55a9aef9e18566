import Derived.Test.YtmiekgjgpmfekaaGreatDoorVb
set_option linter.all false
namespace Go.Proofs.YtmiekgjgpmfekaaGreatDoor
open Go.RowKit
variable{d k j M:Nat}{a b x y fl s e z Z P Q:Int}
section
variable [Inhabited Ch]
theorem Yk(d0:4926<=d)(d1:d<=6900)(hs:s=0\/s=1)(hM:0<M)(e0:-5000<=e)(hr:aO 53 (1-1023) 1023 4503599627370496 9218868437227405312 0 s M e false z fl)(hb:nv M e<=4503599627370496*2^d):
  ∃x,Vl (sw s 9223372036854775808 z) x/\Nr x (ov ⟨1,s,e,M⟩) ((2^d:Nat):Int):=by
 obtain⟨top,E,r,r2,hf,h1,h2,h3,h4,h5,hc⟩:=hr;have t30:top<=(d:Int)-5948:=by
  rcases Int.lt_or_le ((d:Int)-5948) top with c|c
  ·exfalso;have a1:=EL M hM;have a2:=sO M hM;have a3:2^(nb M-1)*2^(e+6000).toNat <=nv M e:=Nat.mul_le_mul_right _ a1;rw[<-Nat.pow_add]at a3;have a4:=bT (show 53+d<=nb M-1+(e+6000).toNat by omega);have a5:(2:Nat)^(53+d)=9007199254740992*2^d:=by
    rw[Nat.pow_add,show(2:Nat)^53=9007199254740992 by decide]
   have:0<2^d:=Nat.pow_pos de;omega
  ·exact c
 have hE:E<=(d:Int)-5948/\1-1023<=E/\top<=E:=om;obtain⟨q,hq⟩:∃q,q=E-53+1:=⟨_,rfl⟩;rw[<-hq]at h3 h4;obtain⟨n1,n2⟩:=YW M e q om om;have hlt:=iH M e q 53 om;rw[show(2:Nat)^53=9007199254740992 by decide]at hlt;obtain⟨c1,c2⟩:=fZ 0 s (aW M e q) hf;rw[<-h4]at c1 c2;have hge:E=1-1023\/4503599627370496<=(r:Int):=by
  rcases h2 with⟨a,b⟩|⟨a,b⟩
  ·exact .inl b
  ·right;have:=rP M e q 52 hM om;rw[show(2:Nat)^52=4503599627370496 by decide]at this;omega
 have hz:z=(r:Int)+4503599627370496*(E-(1-1023)):=om;refine⟨_,yG hs r E z hE.2.1 om om hge hz,?_⟩;rw[<-hq];have l1:=Tm q c1;have l2:=Tm q c2;rw[EJ]at n2 l2;have l3:nv 1 q<=2^d:=by unfold nv;rw[Nat.one_mul];exact bT om
 generalize 2^d=Z at*
 unfold Nr ov;dsimp only
 split<;>omega
theorem Dj(d0:4926<=d)(d1:d<=6900){o:bZ}(hp:WA o Z fl)(hs:o.s=0\/o.s=1)(hc:o.c=0/\o.M=0\/o.c=1/\0<o.M)(e0:-5000<=o.e)(hb:In' (ov o) (4503599627370496*((2^d:Nat):Int))):∃x,Vl Z x/\Nr x (ov o) ((2^d:Nat):Int):=by
 have u0:0<2^d:=Nat.pow_pos de;rcases hp with⟨c,rfl,_⟩|⟨c,z,hz,rfl⟩|⟨c,_⟩|⟨c,_⟩|⟨c,_⟩
 ·have:=yG hs 0 (1-1023) 0 om om om (.inl rfl) om;refine⟨_,this,?_⟩;have hM:o.M=0:=by rcases hc with h|h<;>omega
  unfold Nr ov;dsimp only
  rw[hM,zi,zi];generalize 2^d=Z at*
  split<;>omega
 ·have hM:0<o.M:=by rcases hc with h|h<;>omega
  have hb':nv o.M o.e<=4503599627370496*2^d:=by
   generalize 2^d=Z at*
   unfold In' ov at hb;split at hb<;>omega
  exact Yk d0 d1 (s:=o.s) (M:=o.M) (e:=o.e) hs hM e0 hz hb'
 all_goals (exfalso;omega)
theorem aAR(d0:4926<=d)(d1:d<=6900)(ha:Vl a x)(hb:Vl b y)(h:In' (x+y) (4503599627370496*((2^d:Nat):Int))):∃z,Vl (Iz a b) z/\Nr z (x+y) ((2^d:Nat):Int):=by
 obtain⟨wa,o,ho,hc,rfl⟩:=ha;obtain⟨wb,o',ho',hc',rfl⟩:=hb;obtain⟨Z,fl,hr,_,_⟩:=add_same 1 0 _ _ wa.1 wa.2 wb.1 wb.2;rw[sF hr];obtain⟨u,v,hu,hv,hp⟩:=hr.num;obtain rfl:=bP.one oU ho hu;obtain rfl:=bP.one oU ho' hv;obtain⟨hf,he⟩:=IW (oV.fin ho hc).1 (oV.fin ho' hc').1;have:=Dj d0 d1 hp hf.s hf.c hf.e (by rw[he];exact h);rw[he]at this;exact this
theorem aAM(d0:4926<=d)(d1:d<=6900)(ha:Vl a x)(hb:Vl b y)(h:In' (x-y) (4503599627370496*((2^d:Nat):Int))):∃z,Vl (OW a b) z/\Nr z (x-y) ((2^d:Nat):Int):=by
 obtain⟨wa,o,ho,hc,rfl⟩:=ha;obtain⟨wb,o',ho',hc',rfl⟩:=hb;obtain⟨Z,fl,hr,_,_⟩:=qK 1 0 _ _ wa.1 wa.2 wb.1 wb.2;rw[yJ hr];obtain⟨u,v,hu,hv,hp⟩:=hr.num;obtain rfl:=bP.one oU ho hu;obtain rfl:=bP.one oU ho' hv;obtain⟨hf,he⟩:=IW (oV.fin ho hc).1 (oV.fin ho' hc').1.turn;rw[Jc (oV.fin ho' hc').1.s,<-Int.sub_eq_add_neg]at he;have:=Dj d0 d1 hp hf.s hf.c hf.e (show In' (ov (gI 0 o (jQ o'))) _ by rw[he];exact h);rw[show wM 0 o o'=gI 0 o (jQ o') from rfl,he]at this;exact this
theorem aAO(d0:4926<=d)(d1:d<=6900)(ha:Vl a x)(hb:Vl b y)(h:In' (x*y) (4503599627370496*((2^d:Nat):Int)*(sN:Int))):∃z,Vl (KF a b) z/\Nr (z*(sN:Int)) (x*y) (((2^d:Nat):Int)*(sN:Int)):=by
 obtain⟨wa,o,ho,hc,rfl⟩:=ha;obtain⟨wb,o',ho',hc',rfl⟩:=hb;obtain⟨Z,fl,hr,_,_⟩:=qU 1 0 _ _ wa.1 wa.2 wb.1 wb.2;rw[vO hr];obtain⟨u,v,hu,hv,hp⟩:=hr.num;obtain rfl:=bP.one oU ho hu;obtain rfl:=bP.one oU ho' hv;have f1:=oV.fin ho hc;have f2:=oV.fin ho' hc';obtain⟨hf,he⟩:=S9 f1.1 f2.1 f1.2.1 f2.2.1;have S0:0<(sN:Int):=by have:=sG;rw[yZ];omega
 have hb:In' (ov (dO o o')) (4503599627370496*((2^d:Nat):Int)):=In'.div (S:=sN) S0 (by rw[he];exact h);obtain⟨z,hz,hn⟩:=Dj d0 d1 hp hf.s hf.c hf.e hb;refine⟨z,hz,?_⟩;rw[<-he];have:=Nr.mul hn (k:=(sN:Int)) (K:=(sN:Int)) ⟨om,om⟩;rw[Int.mul_comm z,Int.mul_comm ((2^d:Nat):Int),Int.mul_comm (ov (dO o o'))];exact this
theorem aHo(d0:4926<=d)(d1:d<=22+eU):Am cZ Vl ((2^d:Nat):Int) (sN:Int):=by
 have h6:d<=6900:=by unfold eU at d1;omega
 refine⟨?_,?_,aAR d0 h6,aAM d0 h6,aAO d0 h6,Vl.turn⟩
 ·have:0<2^d:=Nat.pow_pos de;generalize 2^d=Z at*
  omega
 ·have:2^d<=sN:=by unfold sN;exact bT d1
  generalize 2^d=Z at*
  omega
end
section
variable [Inhabited Ch]
def Wv(k j:Nat):Int × Int:=(cv (cZ.rt k (2*j)).1 *(wN:Int),cv (cZ.rt k (2*j)).2 *(wN:Int))
def okS(a b:Int):Bool:=decide ((okW a=true/\okW b=true/\(opC a).c <=1/\(opC b).c <=1/\-100<=(opC a).e /\-100<=(opC b).e)/\(-1267650600228229401496703205376<=cv a/\cv a<=1267650600228229401496703205376/\-1267650600228229401496703205376<=cv b/\cv b<=1267650600228229401496703205376)/\(2*(cv a+cv b)<=3*1267650600228229401496703205376/\2*(cv a-cv b)<=3*1267650600228229401496703205376/\2*(cv b-cv a)<=3*1267650600228229401496703205376/\2*(-cv a-cv b)<=3*1267650600228229401496703205376)/\
 -22835963083295358096932575511191922182123945984<=cv a*cv a+cv b*cv b-1267650600228229401496703205376*1267650600228229401496703205376/\cv a*cv a+cv b*cv b-1267650600228229401496703205376*1267650600228229401496703205376<=22835963083295358096932575511191922182123945984)
theorem Yf:((sN:Nat):Int)=1267650600228229401496703205376*((wN:Nat):Int):=by rw[yZ,Si];omega
theorem fB(h:cZ.rt k (2*j)=(a,b))(ok:okS a b=true):VC Vl (cZ.rt k (2*j)) (Wv k j).1 (Wv k j).2 /\Sm (sN:Int) (Wv k j)/\Nr ((Wv k j).1 *(Wv k j).1 +(Wv k j).2 *(Wv k j).2) ((sN:Int)*(sN:Int)) (22835963083295358096932575511191922182123945984*((wN:Int)*(wN:Int))):=by
 obtain⟨⟨w1,w2,c1,c2,e1,e2⟩,⟨i1,i2,i3,i4⟩,⟨q1,q2,q3,q4⟩,n1,n2⟩:=of_decide_eq_true ok;unfold Wv;rw[h];have W1:0<wN:=by unfold wN;exact Nat.pow_pos de
 have v1:=TQ w1 c1 e1;have v2:=TQ w2 c2 e2;refine⟨⟨v1,v2⟩,?_,?_⟩
 ·clear v1 v2;dsimp only
  rw[Yf];generalize cv a=c at*
  generalize cv b=d at*
  generalize hW:(wN:Int)=Z;have Z0:0<=Z:=om;have m1:=Int.mul_le_mul_of_nonneg_right i1 Z0;have m2:=Int.mul_le_mul_of_nonneg_right i2 Z0;have m3:=Int.mul_le_mul_of_nonneg_right i3 Z0;have m4:=Int.mul_le_mul_of_nonneg_right i4 Z0;have p1:=Int.mul_le_mul_of_nonneg_right q1 Z0;have p2:=Int.mul_le_mul_of_nonneg_right q2 Z0;have p3:=Int.mul_le_mul_of_nonneg_right q3 Z0;have p4:=Int.mul_le_mul_of_nonneg_right q4 Z0;have f1:2*(c+d)*Z=2*(c*Z)+2*(d*Z):=by grind
  have f2:2*(c-d)*Z=2*(c*Z)-2*(d*Z):=by grind
  have f3:2*(d-c)*Z=2*(d*Z)-2*(c*Z):=by grind
  have f4:2*(-c-d)*Z=-(2*(c*Z))-2*(d*Z):=by grind
  rw[f1]at p1;rw[f2]at p2;rw[f3]at p3;rw[f4]at p4;refine aF9 ⟨om,om⟩ ⟨om,om⟩ ?_;rintro u v (rfl|rfl) (rfl|rfl)<;>omega
 ·clear v1 v2;dsimp only
  rw[Yf];generalize cv a=c at*
  generalize cv b=d at*
  generalize hW:(wN:Int)=Z;have Z1:0<=Z*Z:=Int.mul_nonneg om om;have m1:=Int.mul_le_mul_of_nonneg_right n1 Z1;have m2:=Int.mul_le_mul_of_nonneg_right n2 Z1;have f1:c*Z*(c*Z)+d*Z*(d*Z)-1267650600228229401496703205376*Z*(1267650600228229401496703205376*Z)=(c*c+d*d-1267650600228229401496703205376*1267650600228229401496703205376)*(Z*Z):=by grind
  unfold Nr;rw[f1];exact⟨by rw[<-Int.neg_mul];exact m1,m2⟩
theorem aHN:∀k j:Nat,2<=k->k<=6->4*j<2^k->VC Vl (cZ.rt k (2*j)) (Wv k j).1 (Wv k j).2 /\Sm (sN:Int) (Wv k j)/\Nr ((Wv k j).1 *(Wv k j).1 +(Wv k j).2 *(Wv k j).2) ((sN:Int)*(sN:Int)) (22835963083295358096932575511191922182123945984*((wN:Int)*(wN:Int))):=by
 intro k j k2 k6 hj;rcases(show k=2\/k=3\/k=4\/k=5\/k=6 by omega)with rfl|rfl|rfl|rfl|rfl
 ·obtain rfl:j=0:=om;exact fB P8 (by decide+kernel)
 ·rcases(show j=0\/j=1 by omega)with rfl|rfl
  ·exact fB P7 (by decide+kernel)
  ·exact fB P6 (by decide+kernel)
 ·rcases(show j=0\/j=1\/j=2\/j=3 by omega)with rfl|rfl|rfl|rfl
  ·exact fB P5 (by decide+kernel)
  ·exact fB PZ (by decide+kernel)
  ·exact fB PY (by decide+kernel)
  ·exact fB PX (by decide+kernel)
 ·rcases(show j=0\/j=1\/j=2\/j=3\/j=4\/j=5\/j=6\/j=7 by omega)with rfl|rfl|rfl|rfl|rfl|rfl|rfl|rfl
  ·exact fB PW (by decide+kernel)
  ·exact fB PV (by decide+kernel)
  ·exact fB PU (by decide+kernel)
  ·exact fB PS (by decide+kernel)
  ·exact fB PO (by decide+kernel)
  ·exact fB PN (by decide+kernel)
  ·exact fB PL (by decide+kernel)
  ·exact fB PK (by decide+kernel)
 ·rcases(show j=0\/j=1\/j=2\/j=3\/j=4\/j=5\/j=6\/j=7\/j=8\/j=9\/j=10\/j=11\/j=12\/j=13\/j=14\/j=15 by omega)with rfl|rfl|rfl|rfl|rfl|rfl|rfl|rfl|rfl|rfl|rfl|rfl|rfl|rfl|rfl|rfl
  ·exact fB aEO (by decide+kernel)
  ·exact fB aEN (by decide+kernel)
  ·exact fB aEM (by decide+kernel)
  ·exact fB aEL (by decide+kernel)
  ·exact fB aEK (by decide+kernel)
  ·exact fB aEJ (by decide+kernel)
  ·exact fB aEI (by decide+kernel)
  ·exact fB aEH (by decide+kernel)
  ·exact fB aEG (by decide+kernel)
  ·exact fB aEF (by decide+kernel)
  ·exact fB YC (by decide+kernel)
  ·exact fB YB (by decide+kernel)
  ·exact fB YA (by decide+kernel)
  ·exact fB Yz (by decide+kernel)
  ·exact fB Yy (by decide+kernel)
  ·exact fB Yx (by decide+kernel)
end
section
variable [Inhabited Ch]
def okD(a b P Q:Int):Bool:=decide ((-22835963083295358096932575511191922182123945984<=cv a*cv a-cv b*cv b-1267650600228229401496703205376*P/\cv a*cv a-cv b*cv b-1267650600228229401496703205376*P<=22835963083295358096932575511191922182123945984)/\-22835963083295358096932575511191922182123945984<=cv a*cv b+cv b*cv a-1267650600228229401496703205376*Q/\cv a*cv b+cv b*cv a-1267650600228229401496703205376*Q<=22835963083295358096932575511191922182123945984)
theorem gX(h:cZ.rt (k+2) (2*j)=(a,b))(hR:RR (sN:Int) Wv (k+1) j=(P*(wN:Int),Q*(wN:Int)))(ok:okD a b P Q=true):xQ (TN (sN:Int) Wv k j) (22835963083295358096932575511191922182123945984*((wN:Int)*(wN:Int))):=by
 obtain⟨⟨n1,n2⟩,n3,n4⟩:=of_decide_eq_true ok;unfold TN;rw[hR];unfold Wv wG;rw[h,Yf];dsimp only
 generalize cv a=c at*
 generalize cv b=d at*
 generalize hW:(wN:Int)=Z;have Z1:0<=Z*Z:=Int.mul_nonneg om om;have m1:=Int.mul_le_mul_of_nonneg_right n1 Z1;have m2:=Int.mul_le_mul_of_nonneg_right n2 Z1;have m3:=Int.mul_le_mul_of_nonneg_right n3 Z1;have m4:=Int.mul_le_mul_of_nonneg_right n4 Z1;have f1:c*Z*(c*Z)-d*Z*(d*Z)-1267650600228229401496703205376*Z*(P*Z)=(c*c-d*d-1267650600228229401496703205376*P)*(Z*Z):=by grind
 have f2:c*Z*(d*Z)+d*Z*(c*Z)-1267650600228229401496703205376*Z*(Q*Z)=(c*d+d*c-1267650600228229401496703205376*Q)*(Z*Z):=by grind
 unfold xQ In';dsimp only
 rw[f1,f2];exact⟨⟨by rw[<-Int.neg_mul];exact m1,m2⟩,by rw[<-Int.neg_mul];exact m3,m4⟩
theorem aG6:∀k j:Nat,k+2<=6->4*j<2^(k+2)->xQ (TN (sN:Int) Wv k j) (22835963083295358096932575511191922182123945984*((wN:Int)*(wN:Int))):=by
 intro k j k6 hj;rcases(show k=0\/k=1\/k=2\/k=3\/k=4 by omega)with rfl|rfl|rfl|rfl|rfl
 ·obtain rfl:j=0:=om;exact gX (k:=0) (P:=0) (Q:=1267650600228229401496703205376) P8 (by show((0:Int),(sN:Int))=_;rw[Yf,Int.zero_mul]) (by decide+kernel)
 ·rcases(show j=0\/j=1 by omega)with rfl|rfl
  ·exact gX (k:=1) (P:=cv 4604544271217802189) (Q:=cv 4604544271217802188) P7 (by show Wv 2 0=_;unfold Wv;rw[P8]) (by decide+kernel)
  ·exact gX (k:=1) (P:=-cv 4604544271217802189) (Q:=-cv 4604544271217802188) P6 (by show(-(Wv 2 0).1,-(Wv 2 0).2)=_;unfold Wv;rw[P8,Int.neg_mul,Int.neg_mul]) (by decide+kernel)
 ·rcases(show j=0\/j=1\/j=2\/j=3 by omega)with rfl|rfl|rfl|rfl
  ·exact gX (k:=2) (P:=cv 4606496786581982534) (Q:=cv 4600565431771507042) P5 (by show Wv 3 0=_;unfold Wv;rw[P7]) (by decide+kernel)
  ·exact gX (k:=2) (P:=-cv 4606496786581982534) (Q:=-cv 4600565431771507042) PZ (by show(-(Wv 3 0).1,-(Wv 3 0).2)=_;unfold Wv;rw[P7,Int.neg_mul,Int.neg_mul]) (by decide+kernel)
  ·exact gX (k:=2) (P:=cv 4600565431771507042) (Q:=cv 13829868823436758342) PY (by show Wv 3 1=_;unfold Wv;rw[P6]) (by decide+kernel)
  ·exact gX (k:=2) (P:=-cv 4600565431771507042) (Q:=-cv 13829868823436758342) PX (by show(-(Wv 3 1).1,-(Wv 3 1).2)=_;unfold Wv;rw[P6,Int.neg_mul,Int.neg_mul]) (by decide+kernel)
 ·rcases(show j=0\/j=1\/j=2\/j=3\/j=4\/j=5\/j=6\/j=7 by omega)with rfl|rfl|rfl|rfl|rfl|rfl|rfl|rfl
  ·exact gX (k:=3) (P:=cv 4607009347991985328) (Q:=cv 4596196889902818826) PW (by show Wv 4 0=_;unfold Wv;rw[P5]) (by decide+kernel)
  ·exact gX (k:=3) (P:=-cv 4607009347991985328) (Q:=-cv 4596196889902818826) PV (by show(-(Wv 4 0).1,-(Wv 4 0).2)=_;unfold Wv;rw[P5,Int.neg_mul,Int.neg_mul]) (by decide+kernel)
  ·exact gX (k:=3) (P:=cv 4596196889902818828) (Q:=cv 13830381384846761133) PU (by show Wv 4 1=_;unfold Wv;rw[PZ]) (by decide+kernel)
  ·exact gX (k:=3) (P:=-cv 4596196889902818828) (Q:=-cv 13830381384846761133) PS (by show(-(Wv 4 1).1,-(Wv 4 1).2)=_;unfold Wv;rw[PZ,Int.neg_mul,Int.neg_mul]) (by decide+kernel)
  ·exact gX (k:=3) (P:=cv 4605664432017547683) (Q:=cv 13826551388188862664) PO (by show Wv 4 2=_;unfold Wv;rw[PY]) (by decide+kernel)
  ·exact gX (k:=3) (P:=-cv 4605664432017547683) (Q:=-cv 13826551388188862664) PN (by show(-(Wv 4 2).1,-(Wv 4 2).2)=_;unfold Wv;rw[PY,Int.neg_mul,Int.neg_mul]) (by decide+kernel)
  ·exact gX (k:=3) (P:=cv 4603179351334086857) (Q:=cv 4605664432017547682) PL (by show Wv 4 3=_;unfold Wv;rw[PX]) (by decide+kernel)
  ·exact gX (k:=3) (P:=-cv 4603179351334086857) (Q:=-cv 4605664432017547682) PK (by show(-(Wv 4 3).1,-(Wv 4 3).2)=_;unfold Wv;rw[PX,Int.neg_mul,Int.neg_mul]) (by decide+kernel)
 ·rcases(show j=0\/j=1\/j=2\/j=3\/j=4\/j=5\/j=6\/j=7\/j=8\/j=9\/j=10\/j=11\/j=12\/j=13\/j=14\/j=15 by omega)with rfl|rfl|rfl|rfl|rfl|rfl|rfl|rfl|rfl|rfl|rfl|rfl|rfl|rfl|rfl|rfl
  ·exact gX (k:=4) (P:=cv 4607139046673687846) (Q:=cv 4591727299969791019) aEO (by show Wv 5 0=_;unfold Wv;rw[PW]) (by decide+kernel)
  ·exact gX (k:=4) (P:=-cv 4607139046673687846) (Q:=-cv 4591727299969791019) aEN (by show(-(Wv 5 0).1,-(Wv 5 0).2)=_;unfold Wv;rw[PW,Int.neg_mul,Int.neg_mul]) (by decide+kernel)
  ·exact gX (k:=4) (P:=cv 4591727299969791023) (Q:=cv 13830511083528463649) aEM (by show Wv 5 1=_;unfold Wv;rw[PV]) (by decide+kernel)
  ·exact gX (k:=4) (P:=-cv 4591727299969791023) (Q:=-cv 13830511083528463649) aEL (by show(-(Wv 5 1).1,-(Wv 5 1).2)=_;unfold Wv;rw[PV,Int.neg_mul,Int.neg_mul]) (by decide+kernel)
  ·exact gX (k:=4) (P:=cv 4605137878724712257) (Q:=cv 13827261363116383700) aEK (by show Wv 5 2=_;unfold Wv;rw[PU]) (by decide+kernel)
  ·exact gX (k:=4) (P:=-cv 4605137878724712257) (Q:=-cv 13827261363116383700) aEJ (by show(-(Wv 5 2).1,-(Wv 5 2).2)=_;unfold Wv;rw[PU,Int.neg_mul,Int.neg_mul]) (by decide+kernel)
  ·exact gX (k:=4) (P:=cv 4603889326261607894) (Q:=cv 4605137878724712254) aEI (by show Wv 5 3=_;unfold Wv;rw[PS]) (by decide+kernel)
  ·exact gX (k:=4) (P:=-cv 4603889326261607894) (Q:=-cv 4605137878724712254) aEH (by show(-(Wv 5 3).1,-(Wv 5 3).2)=_;unfold Wv;rw[PS,Int.neg_mul,Int.neg_mul]) (by decide+kernel)
  ·exact gX (k:=4) (P:=cv 4606794571824115163) (Q:=cv 13822272960629939973) aEG (by show Wv 5 4=_;unfold Wv;rw[PO]) (by decide+kernel)
  ·exact gX (k:=4) (P:=-cv 4606794571824115163) (Q:=-cv 13822272960629939973) aEF (by show(-(Wv 5 4).1,-(Wv 5 4).2)=_;unfold Wv;rw[PO,Int.neg_mul,Int.neg_mul]) (by decide+kernel)
  ·exact gX (k:=4) (P:=cv 4598900923775164166) (Q:=cv 4606794571824115161) YC (by show Wv 5 5=_;unfold Wv;rw[PN]) (by decide+kernel)
  ·exact gX (k:=4) (P:=-cv 4598900923775164166) (Q:=-cv 4606794571824115161) YB (by show(-(Wv 5 5).1,-(Wv 5 5).2)=_;unfold Wv;rw[PN,Int.neg_mul,Int.neg_mul]) (by decide+kernel)
  ·exact gX (k:=4) (P:=cv 4606118860100255153) (Q:=cv 4602163548591158842) YA (by show Wv 5 6=_;unfold Wv;rw[PL]) (by decide+kernel)
  ·exact gX (k:=4) (P:=-cv 4606118860100255153) (Q:=-cv 4602163548591158842) Yz (by show(-(Wv 5 6).1,-(Wv 5 6).2)=_;unfold Wv;rw[PL,Int.neg_mul,Int.neg_mul]) (by decide+kernel)
  ·exact gX (k:=4) (P:=cv 4602163548591158843) (Q:=cv 13829490896955030960) Yy (by show Wv 5 7=_;unfold Wv;rw[PK]) (by decide+kernel)
  ·exact gX (k:=4) (P:=-cv 4602163548591158843) (Q:=-cv 13829490896955030960) Yx (by show(-(Wv 5 7).1,-(Wv 5 7).2)=_;unfold Wv;rw[PK,Int.neg_mul,Int.neg_mul]) (by decide+kernel)
end
section
variable [Inhabited Ch]
def eQ:Nat:=5954
def qN:Nat:=2^eQ
theorem aGk:((qN:Nat):Int)=18014398509481984*((wN:Nat):Int):=by
 have:qN=18014398509481984*wN:=by
  unfold qN wN;rw[show(18014398509481984:Nat)=2^54 by decide,<-Nat.pow_add];exact congrArg (fun x=>2^x) (show eQ=54+eW from rfl)
 omega
theorem Pq:((sN:Nat):Int)=70368744177664*((qN:Nat):Int):=by rw[Yf,aGk];omega
theorem YD:1267650600228229401496703205376<=((qN:Nat):Int):=by
 have h:2^100<=qN:=by unfold qN;exact bT (by unfold eQ;omega)
 rw[show(2:Nat)^100=1267650600228229401496703205376 by decide]at h;omega
theorem RZ(n:Int)(h0:-2047<=n)(h1:n<=2047):∃x,Vl (KG n) x/\Nr x (n*(70368744177664*(qN:Int))) (8192*(qN:Int)):=by
 obtain⟨o,fl,hp,ho,hf⟩:=R_ n h0 h1;rw[<-yZ,Pq]at ho;have q0:=YD;have hd:((2^(13+eQ):Nat):Int)=8192*(qN:Int):=by
  have:2^(13+eQ)=8192*qN:=by unfold qN;rw[Nat.pow_add,show(2:Nat)^13=8192 by decide]
  rw[this];exact Int.natCast_mul _ _
 have:=Dj (d:=13+eQ) (by unfold eQ;omega) (by unfold eQ;omega) hp hf.s hf.c hf.e (by
  rw[ho,hd];have:=In'.mul (x:=n) (b:=2047) (y:=70368744177664*(qN:Int)) (c:=70368744177664*(qN:Int)) ⟨h0,h1⟩ ⟨om,om⟩;unfold In' at*;omega)
 rw[ho,hd]at this;exact this
theorem aJt:Am cZ Vl (8192*(qN:Int)) (70368744177664*(qN:Int)):=by
 have:=aHo (d:=13+eQ) (by unfold eQ;omega) (by unfold eQ eU;omega);have e:2^(13+eQ)=8192*qN:=by unfold qN;rw[Nat.pow_add,show(2:Nat)^13=8192 by decide]
 rw[e,Pq,Int.natCast_mul]at this;exact this
theorem aJs:Am cZ Vl (68719476736*(qN:Int)) (70368744177664*(qN:Int)):=by
 have:=aHo (d:=36+eQ) (by unfold eQ;omega) (by unfold eQ eU;omega);have e:2^(36+eQ)=68719476736*qN:=by unfold qN;rw[Nat.pow_add,show(2:Nat)^36=68719476736 by decide]
 rw[e,Pq,Int.natCast_mul]at this;exact this
theorem aFi:Vl jo (35184372088832*(qN:Int)):=by
 have:=TK;have e:2097152*(uN:Int)=35184372088832*(qN:Int):=by have h1:=yZ;have h2:=Pq;omega
 rw[e]at this;exact this
theorem aGj:22835963083295358096932575511191922182123945984*((wN:Int)*(wN:Int))=70368744177664*((qN:Int)*(qN:Int)):=by
 rw[aGk];generalize(wN:Int)=Z
 grind
theorem Qm(k:Nat)(k1:1<=k)(k6:k<=6)(f g:Nat->Int)(hf:∀i,i<2^k->zX (f i))(hg:∀i,i<2^k->zX (g i))(i:Nat)(hi:i<2^k):
  In' (nG k f g i) 268173376/\tiW (cZ.bk k (pZ cZ k f g) i)=nG k f g i%18446744073709551616:=by
 have hW:=aHN;have hD:=aG6;rw[aGj,Pq]at hD;rw[aGj,Pq]at hW;obtain⟨hc,y,hy,n1,n2⟩:=Vo aJt aJs YD aFi hW hD k1 k6 (f:=f) (g:=g) (cf:=fun j=>cZ.int (f j)) (cg:=fun j=>cZ.int (g j)) (fun i hi=>RZ _ (hf i hi).1 (hf i hi).2) (fun i hi=>RZ _ (hg i hi).1 (hg i hi).2) hf hg i hi;refine⟨hc,?_⟩;rw[<-Pq,yZ]at n1 n2;exact Lm hy (by have:=hc.1;omega) (by have:=hc.2;omega) n1 n2
end
