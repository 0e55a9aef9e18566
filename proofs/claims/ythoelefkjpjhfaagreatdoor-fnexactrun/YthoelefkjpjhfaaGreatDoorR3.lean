import Derived.Test.YthoelefkjpjhfaaGreatDoorG3
set_option linter.all false
set_option maxRecDepth 1000000
set_option maxHeartbeats 40000000
open Go.Proofs.YthoelefkjpjhfaaGreatDoor renaming vI → J, vU → Z
open Go.Proofs.Tryz
namespace Go.Proofs.YthoelefkjpjhfaaGreatDoor
open Go.RowKit
attribute [local go_sem] aA dB
variable{p mn mx fb sp one aI sg nan:Int}
def RQ(h:wQ p mn mx fb sp one aI sg nan)(md:Int)(k:Nat)(aJ e:Int)(bT:Bool)(e0:-200000<=e)(e1:e<=200000)(z0:Int)(HZe:Om p mn mx aJ z0)(w:World):
  QR 187 #[dN p mn mx md k,J aJ,J e,aN 0 0,.bool bT] w (aP z0 0):=by
 have HF:EG p mn mx fb:=λw=>vk h w;have aOb:yB p mn mx 0 aI:=λw=>mD h 0 aI (.inl ⟨rfl,rfl⟩) w;have hq:=r_ 0 0 0 0;simp only[BEq.rfl,Bool.and_true,Bool.true_and]at hq;clear h;go_enter func187,ntmps187;go_wp2_with (first|(go_at_call 239;refine(HZe _).mono ?_;rintro x w6 ⟨rfl,fK⟩;obtain⟨gc0,gc1,gc2,gm3,gm4⟩:rC w6 w.heap.size 0 1 2 3 4 (J p) (J mn) (J mx) (J md) (.func (.func k) #[] #[]):=⟨kq,kq,kq,kq,kq⟩;obtain⟨gc3,gc4⟩:kM w6 (w.heap.size+1) 0 1 (Z 0) (Z 0):=⟨kq,kq⟩;obtain⟨gr0,gz0,gr1,gz1⟩:jC w6 (w.heap.size+1+1) 0 1 (Z 0) (J 0):=⟨kq,kq,kq,kq⟩))
 all_goals
  exact bW (by simp[results,Tryz.results187,go_sem,gr0,gr1])
def aIG(h:wQ p mn mx fb sp one aI sg nan)(md:Int)(k:Nat)(aJ e mh ml:Int)(bT:Bool)(e0:-200000<=e)(e1:e<=200000)(hnz:(mh==0&&ml==0)=false)(L:Nat)(u b_ E:Int)(hL:L<=128)(hu:128-(L:Int)=u)(iT:(L:Int)+e-1=b_)(hE:max b_ mn=E)(HZ:KR 252 #[aN mh ml] (J u))(z:Int)(HO:KR 253 #[dN p mn mx md k,J aJ] (aP z 20))(c:mx<E)(w:World):
  QR 187 #[dN p mn mx md k,J aJ,J e,aN mh ml,.bool bT] w (aP z 20):=by
 have HF:EG p mn mx fb:=λw=>vk h w;have aOb:yB p mn mx 0 aI:=λw=>mD h 0 aI (.inl ⟨rfl,rfl⟩) w;have hq:=r_ mh ml 0 0;have X7:(mh==0&&ml==0)=false:=hnz;simp only[X7]at hq;have bb:-1022<=mn/\mn<=0/\0<mx/\mx<=1023/\0<=fb/\fb<=52:=by rcases h with h|h<;>omega
 have t1:e+128-1-u=b_:=om;have t2:e+127-u=b_:=om;have tb:-300000<=b_/\b_<=300000:=om;have Eb:-300000<=E/\E<=300000:=om;have ub:0<=u/\u<=128:=om;clear hnz X7 hu iT;clear h;go_enter func187,ntmps187;go_wp2_with (first|(go_at_call 252;refine(HZ _).mono ?_;rintro x w1 ⟨rfl,ak⟩;obtain⟨ac0,ac1,ac2,am3,am4⟩:rC w1 w.heap.size 0 1 2 3 4 (J p) (J mn) (J mx) (J md) (.func (.func k) #[] #[]):=⟨kq,kq,kq,kq,kq⟩;obtain⟨ac3,ac4⟩:kM w1 (w.heap.size+1) 0 1 (Z mh) (Z ml):=⟨kq,kq⟩;obtain⟨gG,Uk,Di,Uj⟩:jC w1 (w.heap.size+1+1) 0 1 (Z 0) (J 0):=⟨kq,kq,kq,kq⟩)|(go_at_call 253;refine(HO _).mono ?_;rintro x wo ⟨rfl,aTr⟩;obtain⟨oc0,oc1,oc2,om3,om4⟩:rC wo w.heap.size 0 1 2 3 4 (J p) (J mn) (J mx) (J md) (.func (.func k) #[] #[]):=⟨kq,kq,kq,kq,kq⟩;obtain⟨oc3,oc4⟩:kM wo (w.heap.size+1) 0 1 (Z mh) (Z ml):=⟨kq,kq⟩;obtain⟨Iu,oz0,or1,oz1⟩:jC wo (w.heap.size+1+1) 0 1 (Z 0) (J 0):=⟨kq,kq,kq,kq⟩))
 all_goals
  exact bW (by simp[results,Tryz.results187,go_sem,Iu,or1])
def JV(h:wQ p mn mx fb sp one aI sg nan)(md:Int)(k:Nat)(aJ e mh ml:Int)(bT:Bool)(e0:-200000<=e)(e1:e<=200000)(hnz:(mh==0&&ml==0)=false)(L:Nat)(u b_ E:Int)(hL:L<=128)(hu:128-(L:Int)=u)(iT:(L:Int)+e-1=b_)(hE:max b_ mn=E)(HZ:KR 252 #[aN mh ml] (J u))(c:E<=mx)(a1 dr r:Int)(ix:Bool)(ha:E-fb=a1)(hdr:a1-e=dr)(HAt:Jj k dr aJ mh ml bT r ix)(r0:0<=r)(a2 Y G:Int)(qo:E-mn=a2)(hY:a2*one=Y)(hG:Y+r=G)(G1:aG G)(a20:0<=a2)(Y0:0<=Y)(z fl:Int)(hw:(aI<=G/\20=fl/\KR 253 #[dN p mn mx md k,J aJ] (aP z 20))\/∃z0,G<aI/\bits .or .u64 z0 G=z/\Om p mn mx aJ z0/\(false=ix/\0=fl\/true=ix/\∃t,KR 255 #[dN p mn mx md k,J b_,J aJ,J e,aN mh ml,.bool bT] (.bool t)/\(true=t/\24=fl\/false=t/\16=fl)))(w:World):
  QR 187 #[dN p mn mx md k,J aJ,J e,aN mh ml,.bool bT] w (aP z fl):=by
 have HF:EG p mn mx fb:=λw=>vk h w;have aOb:yB p mn mx 0 aI:=λw=>mD h 0 aI (.inl ⟨rfl,rfl⟩) w;have hq:=r_ mh ml 0 0;have X7:(mh==0&&ml==0)=false:=hnz;simp only[X7]at hq;have bb:-1022<=mn/\mn<=0/\0<mx/\mx<=1023/\0<=fb/\fb<=52:=by rcases h with h|h<;>omega
 have t1:e+128-1-u=b_:=om;have t2:e+127-u=b_:=om;have tb:-300000<=b_/\b_<=300000:=om;have Eb:-300000<=E/\E<=300000:=om;have ub:0<=u/\u<=128:=om;clear hnz X7 hu iT;have u1:IntKind.i64.wrap (E-fb)=a1:=by rw[ha];exact Aq _ om om
 have u2:IntKind.i64.wrap (a1-e)=dr:=by rw[hdr];exact Aq _ om om
 have u3:IntKind.i64.wrap (E-mn)=a2:=by rw[qo];exact Aq _ om om
 have u4:IntKind.u64.wrap a2=a2:=wu64 _ om om;have u5:IntKind.u64.wrap (a2*2^fb.toNat)=Y:=by
  have:(2:Int)^fb.toNat=one:=by rcases h with⟨rfl,rfl,rfl,rfl,rfl,rfl,rfl,rfl,rfl⟩|⟨rfl,rfl,rfl,rfl,rfl,rfl,rfl,rfl,rfl⟩<;>decide
  rw[this,hY];exact wu64 _ Y0 om
 have u6:IntKind.u64.wrap (Y+r)=G:=by rw[hG];exact wu64 _ om om
 have u7:¬fb<0:=om;have G0:0<=G:=om;clear ha hdr qo hY hG;clear h;rcases hw with⟨hv,rfl,HO⟩|⟨z0,hv,hor,HZe,⟨rfl,rfl⟩|⟨rfl,t,HTi,⟨rfl,rfl⟩|⟨rfl,rfl⟩⟩⟩
 all_goals
  go_enter func187,ntmps187;go_wp2_with (first|(go_at_call 252;refine(HZ _).mono ?_;rintro x w1 ⟨rfl,ak⟩;obtain⟨ac0,ac1,ac2,am3,am4⟩:rC w1 w.heap.size 0 1 2 3 4 (J p) (J mn) (J mx) (J md) (.func (.func k) #[] #[]):=⟨kq,kq,kq,kq,kq⟩;obtain⟨ac3,ac4⟩:kM w1 (w.heap.size+1) 0 1 (Z mh) (Z ml):=⟨kq,kq⟩;obtain⟨gG,Uk,Di,Uj⟩:jC w1 (w.heap.size+1+1) 0 1 (Z 0) (J 0):=⟨kq,kq,kq,kq⟩))
  go_region_held3 (λw'=>aA w' w.heap.size 0 (J p)/\aA w' w.heap.size 1 (J mn)/\aA w' w.heap.size 2 (J mx)/\aA w' w.heap.size 3 (J md)/\aA w' w.heap.size 4 (.func (.func k) #[] #[])/\aA w' (w.heap.size+1) 0 (Z mh)/\aA w' (w.heap.size+1) 1 (Z ml)/\aA w' (w.heap.size+1+1) 0 (Z 0)/\aA w' (w.heap.size+1+1) 1 (J 0)/\dB w' (w.heap.size+1+1) 0/\dB w' (w.heap.size+1+1) 1)((go_split_ands;(repeat' apply And.intro)<;>exact kl))(first|(go_at_call 182;refine(HF _).mono ?_;rintro x w2 ⟨rfl,aB⟩;have aGR:=aB.cells;have aGN:=aB.dX;have Np:=aB.size;(try simp only[World.size_alloc,World.size_drew,World.size_setCell]at Np))|(go_at_call 254;refine(HAt _).mono ?_;rintro x w3 ⟨rfl,aK⟩;have Bo:=aK.cells;have Bg:=aK.dX;have mY:=aK.size;(try simp only[World.size_alloc,World.size_drew,World.size_setCell]at mY)))
  all_goals (try go_split_ands)<;>go_wp2
  all_goals
   go_region_held3 (λw'=>aA w' w.heap.size 0 (J p)/\aA w' w.heap.size 1 (J mn)/\aA w' w.heap.size 2 (J mx)/\aA w' w.heap.size 3 (J md)/\aA w' w.heap.size 4 (.func (.func k) #[] #[])/\aA w' (w.heap.size+1) 0 (Z mh)/\aA w' (w.heap.size+1) 1 (Z ml)/\aA w' (w.heap.size+1+1) 0 (Z 0)/\aA w' (w.heap.size+1+1) 1 (J 0)/\dB w' (w.heap.size+1+1) 0/\dB w' (w.heap.size+1+1) 1)((go_split_ands;(repeat' apply And.intro)<;>exact kl))(first|(go_at_call 182;refine(HF _).mono ?_;rintro x w4 ⟨rfl,aV⟩;have NG:=aV.cells;have Nz:=aV.dX;have tJ:=aV.size;(try simp only[World.size_alloc,World.size_drew,World.size_setCell]at tJ)))
  all_goals (try go_split_ands)
  all_goals
   go_wp2_with (first|(go_at_call 240;refine(aOb _).mono ?_;rintro x w5 ⟨rfl,bJ⟩;obtain⟨fc0,fc1,fc2,fm3,fm4⟩:rC w5 w.heap.size 0 1 2 3 4 (J p) (J mn) (J mx) (J md) (.func (.func k) #[] #[]):=⟨kq,kq,kq,kq,kq⟩;obtain⟨fc3,fc4⟩:kM w5 (w.heap.size+1) 0 1 (Z mh) (Z ml):=⟨kq,kq⟩;obtain⟨fr0,fz0,fr1,fz1⟩:jC w5 (w.heap.size+1+1) 0 1 (Z 0) (J 0):=⟨kq,kq,kq,kq⟩)|(go_at_call 255;refine(HTi _).mono ?_;rintro x w7 ⟨rfl,ji⟩;obtain⟨W_,yI,w_,hm3,hm4⟩:rC w7 w.heap.size 0 1 2 3 4 (J p) (J mn) (J mx) (J md) (.func (.func k) #[] #[]):=⟨kq,kq,kq,kq,kq⟩;obtain⟨hc3,hc4⟩:kM w7 (w.heap.size+1) 0 1 (Z mh) (Z ml):=⟨kq,kq⟩;obtain⟨Ox,lF,tK,iR⟩:jC w7 (w.heap.size+1+1) 0 1 (Z 0) (J 0):=⟨kq,kq,kq,kq⟩)|(go_at_call 253;refine(HO _).mono ?_;rintro x w6 ⟨rfl,fK⟩;obtain⟨gc0,gc1,gc2,gm3,gm4⟩:rC w6 w.heap.size 0 1 2 3 4 (J p) (J mn) (J mx) (J md) (.func (.func k) #[] #[]):=⟨kq,kq,kq,kq,kq⟩;obtain⟨gc3,gc4⟩:kM w6 (w.heap.size+1) 0 1 (Z mh) (Z ml):=⟨kq,kq⟩;obtain⟨gr0,gz0,gr1,gz1⟩:jC w6 (w.heap.size+1+1) 0 1 (Z 0) (J 0):=⟨kq,kq,kq,kq⟩)|(go_at_call 239;refine(HZe _).mono ?_;rintro x w6 ⟨rfl,fK⟩;obtain⟨gc0,gc1,gc2,gm3,gm4⟩:rC w6 w.heap.size 0 1 2 3 4 (J p) (J mn) (J mx) (J md) (.func (.func k) #[] #[]):=⟨kq,kq,kq,kq,kq⟩;obtain⟨gc3,gc4⟩:kM w6 (w.heap.size+1) 0 1 (Z mh) (Z ml):=⟨kq,kq⟩;obtain⟨gr0,gz0,gr1,gz1⟩:jC w6 (w.heap.size+1+1) 0 1 (Z 0) (J 0):=⟨kq,kq,kq,kq⟩))
  all_goals
   exact bW (by simp[results,Tryz.results187,go_sem,gr0,gr1])
def or_zero(G:Nat)(hG:aG G):bits .or .u64 0 (G:Int)=(G:Int):=by
 have:=u64_or_nat 0 G om hG;rw[show((0:Nat):Int)=0 from rfl]at this;rw[this,Nat.zero_or]
def aPf(G:Nat)(hG:G<2147483648):bits .or .u64 2147483648 (G:Int)=2147483648+(G:Int):=by
 have:=u64_or_nat 2147483648 G om om;rw[show((2147483648:Nat):Int)=2147483648 from rfl]at this;have e:=Sh.Fh 31 1 G (by simpa using hG);simp only[Nat.reducePow,Nat.mul_one]at e;rw[this,e];omega
def aPe(G:Nat)(hG:G<9223372036854775808):bits .or .u64 9223372036854775808 (G:Int)=9223372036854775808+(G:Int):=by
 have:=u64_or_nat 9223372036854775808 G om om;rw[show((9223372036854775808:Nat):Int)=9223372036854775808 from rfl]at this;have e:=Sh.Fh 63 1 G (by simpa using hG);simp only[Nat.reducePow,Nat.mul_one]at e;rw[this,e];omega
def zJ(h:wQ p mn mx fb sp one aI sg nan)(md aj:Int)(k:Nat)(hk:xU aj k)(aJ:Int)(hs:aJ=0\/aJ=1)(e:Int)(e0:-100000<=e)(e1:e<=100000)(M:Nat)(hM0:0<M)(hM:M<340282366920938463463374607431768211456)(bT:Bool)(hst:bT=true->p+2<=(nb M:Int))(w:World):
  CT 187 #[dN p mn mx md k,J aJ,J e,aN ((M/18446744073709551616:Nat):Int) ((M%18446744073709551616:Nat):Int),.bool bT] w λx w'=>∃z fl,bH p mn mx one aI aj aJ M e bT z fl/\x=.returned (aP (sv aJ sg z) fl)/\Gr w w':=by
 have hb:24<=p/\p<=53/\-1022<=mn/\mn<=-126/\127<=mx/\mx<=1023/\fb=p-1/\0<one/\one<=4503599627370496/\aI<sg/\sg<=9223372036854775808/\mn=1-mx/\4*one<aI:=by rcases h with h|h<;>omega
 obtain⟨b1,b2,b3,b4,b5,b6,b7,b8,b9,b10,b11,b12,b13⟩:=hb;obtain⟨P,hP,AQ⟩:∃P:Nat,(P:Int)=p-1/\one=((2^P:Nat):Int):=by
  rcases h with⟨rfl,rfl,rfl,rfl,rfl,rfl,rfl,rfl,rfl⟩|⟨rfl,rfl,rfl,rfl,rfl,rfl,rfl,rfl,rfl⟩
  .exact⟨23,de,de⟩
  .exact⟨52,de,de⟩
 have u_:aI=one*(2*mx+1):=by rcases h with⟨rfl,rfl,rfl,rfl,rfl,rfl,rfl,rfl,rfl⟩|⟨rfl,rfl,rfl,rfl,rfl,rfl,rfl,rfl,rfl⟩<;>decide
 have aBm:2^(P+1)=2*2^P:=by rw[Nat.pow_succ];omega
 have hL:nb M<=128:=sW (by simpa using hM);have jm:=BP M hM0;have hnz:(((M/18446744073709551616:Nat):Int)==0&&((M%18446744073709551616:Nat):Int)==0)=false:=by
  rw[Bool.and_eq_false_iff];by_cases c:M/18446744073709551616=0
  .right;simp;omega
  .left;simp;omega
 obtain⟨b_,iT⟩:=x_n (nb M+e-1:Int);obtain⟨E,hE⟩:=dK (max b_ mn:Int);have hE2:b_<mn/\E=mn\/mn<=b_/\E=b_:=om;have HZ:KR 252 #[aN ((M/18446744073709551616:Nat):Int) ((M%18446744073709551616:Nat):Int)] (J (128-(nb M:Int))):=λw=>aDV M hM w;have HO:KR 253 #[dN p mn mx md k,J aJ] (aP (sv aJ sg (jE aI aj aJ)) 20):=λw=>R_ h md aj k hk aJ hs w;obtain⟨z0,lF⟩:∃z0,aJ=0/\z0=0\/aJ=1/\z0=sg:=by
  rcases hs with rfl|rfl
  .exact⟨0,.inl ⟨rfl,rfl⟩⟩
  .exact⟨sg,.inr ⟨rfl,rfl⟩⟩
 have HZe:Om p mn mx aJ z0:=λw=>mV h aJ z0 lF w;have hor:∀G:Int,0<=G->G<aI->bits .or .u64 z0 G=sv aJ sg G:=by
  intro G G0 G1;obtain⟨g,rfl⟩:=Int.eq_ofNat_of_zero_le G0;unfold sv;rcases lF with⟨rfl,rfl⟩|⟨rfl,rfl⟩
  .rw[or_zero g (by omega)];simp
  .rcases h with⟨_,_,_,_,_,_,_,hsg,_⟩|⟨_,_,_,_,_,_,_,hsg,_⟩
   .subst hsg;rw[aPf g (by omega)];simp
   .subst hsg;rw[aPe g (by omega)];simp
 have hge:(nb M:Int)-p<=E-fb-e:=om;by_cases ho:mx<E
 .have ht:mx<b_:=om;refine(aIG h md k aJ e _ _ bT om om hnz (nb M) _ b_ E hL rfl om hE HZ _ HO ho w).mono ?_;rintro x w' ⟨rfl,hg⟩;exact⟨_,_,⟨b_,E,_,_,_,iT,hE2,rfl,rfl,rfl,.inl ⟨ht,rfl,rfl⟩⟩,rfl,hg⟩
 .have hq:E-fb=E-p+1:=om;have Uf:dw M e (E-p+1)<2^(P+1):=qW M e (E-p+1) (P+1) om;have hch:=kQ aj aJ (dw M e (E-p+1)) (bg M e (E-p+1) bT);have HAt:Jj k (E-fb-e) aJ ((M/18446744073709551616:Nat):Int) ((M%18446744073709551616:Nat):Int) bT ((chosen aj aJ (dw M e (E-p+1)) (bg M e (E-p+1) bT):Nat):Int) (decide (0<bg M e (E-p+1) bT)):=λw=>uw aj k hk aJ hs M hM e (E-p+1) (E-fb-e) bT om om om (by
   intro hd;cases bT
   .rfl
   .have:=hst rfl;omega) om w
  obtain⟨r,hr⟩:=dK (chosen aj aJ (dw M e (E-p+1)) (bg M e (E-p+1) bT));obtain⟨hf,hhf⟩:=dK (bg M e (E-p+1) bT);obtain⟨r2,qU⟩:=dK (chosen aj aJ (dw M e (b_-p+1)) (bg M e (b_-p+1) bT));rw[hr]at hch HAt;rw[hhf]at HAt;have hrr:chosen aj aJ (dw M e (E-p+1)) hf=r:=by rw[<-hhf];exact hr
  obtain⟨Y,hY⟩:=dK ((E-mn)*one);have hY':one*(E-mn)=Y:=by rw[Int.mul_comm];exact hY
  have hYb:0<=Y/\Y<=aI:=by
   rw[<-hY',u_];exact⟨Int.mul_nonneg om om,Int.mul_le_mul_of_nonneg_left om om⟩
  have hG:(r:Int)+one*(E-mn)=Y+r:=by rw[hY'];omega
  by_cases hv:aI<=Y+r
  .refine(JV h md k aJ e _ _ bT om om hnz (nb M) _ b_ E hL rfl om hE HZ om (E-fb) (E-fb-e) r _ rfl rfl HAt om (E-mn) Y (Y+r) rfl hY rfl om om om _ _ (.inl ⟨hv,rfl,HO⟩) w).mono ?_;rintro x w' ⟨rfl,hg⟩;exact⟨_,_,⟨b_,E,r,r2,hf,iT,hE2,hhf.symm,hrr.symm,qU.symm,.inr (.inl ⟨om,by rw[hG];exact hv,rfl,rfl⟩)⟩,rfl,hg⟩
  .have HOr:=hor (Y+r) om om;rcases Nat.eq_zero_or_pos hf with c|c
   .have aGP:decide (0<hf)=false:=by rw[c];rfl
    rw[aGP]at HAt;refine(JV h md k aJ e _ _ bT om om hnz (nb M) _ b_ E hL rfl om hE HZ om (E-fb) (E-fb-e) r _ rfl rfl HAt om (E-mn) Y (Y+r) rfl hY rfl om om om _ _ (.inr ⟨z0,om,HOr,HZe,.inl ⟨rfl,rfl⟩⟩) w).mono ?_;rintro x w' ⟨rfl,hg⟩;exact⟨_,_,⟨b_,E,r,r2,hf,iT,hE2,hhf.symm,hrr.symm,qU.symm,.inr (.inr ⟨om,by rw[hG];omega,hG.symm,.inl ⟨c,rfl⟩⟩)⟩,rfl,hg⟩
   .have aGP:decide (0<hf)=true:=decide_eq_true c;rw[aGP]at HAt;have aPC:dw M e (b_-p+1)<2^(P+1):=qW M e (b_-p+1) (P+1) om;have aSr:=kQ aj aJ (dw M e (b_-p+1)) (bg M e (b_-p+1) bT);rw[qU]at aSr;have HTi:∀tb:Bool,((b_<mn-1\/b_=mn-1/\(r2:Int)<2*one)/\tb=true\/(mn<=b_\/b_=mn-1/\2*one<=(r2:Int))/\tb=false)->KR 255 #[dN p mn mx md k,J b_,J aJ,J e,aN ((M/18446744073709551616:Nat):Int) ((M%18446744073709551616:Nat):Int),.bool bT] (.bool tb):=by
     intro tb htb w;by_cases ht:b_=mn-1
     .have aTe:Jj k (b_-fb-e) aJ ((M/18446744073709551616:Nat):Int) ((M%18446744073709551616:Nat):Int) bT (r2:Int) (decide (0<bg M e (b_-p+1) bT)):=λw=>by
       rw[<-qU];exact uw aj k hk aJ hs M hM e (b_-p+1) (b_-fb-e) bT om om om (by
        intro hd;cases bT
        .rfl
        .have:=hst rfl;omega) om w
      refine aH8 h md k b_ aJ e _ _ (b_-fb) (b_-fb-e) r2 bT _ tb ht om om rfl rfl om om ?_ aTe w;rcases htb with⟨a,rfl⟩|⟨a,rfl⟩
      .rw[decide_eq_true (by omega)]
      .rw[decide_eq_false (by omega)]
     .have:=aH7 (p:=p) (mn:=mn) (mx:=mx) om om md k b_ aJ e ((M/18446744073709551616:Nat):Int) ((M%18446744073709551616:Nat):Int) bT jl w;rcases htb with⟨a,rfl⟩|⟨a,rfl⟩
      .rw[decide_eq_true (by omega)]at this;exact this
      .rw[decide_eq_false (by omega)]at this;exact this
    by_cases JG:b_<mn-1\/b_=mn-1/\(r2:Int)<2*one
    .refine(JV h md k aJ e _ _ bT om om hnz (nb M) _ b_ E hL rfl om hE HZ om (E-fb) (E-fb-e) r _ rfl rfl HAt om (E-mn) Y (Y+r) rfl hY rfl om om om _ _ (.inr ⟨z0,om,HOr,HZe,.inr ⟨rfl,true,HTi true (.inl ⟨JG,rfl⟩),.inl ⟨rfl,rfl⟩⟩⟩) w).mono ?_;rintro x w' ⟨rfl,hg⟩;exact⟨_,_,⟨b_,E,r,r2,hf,iT,hE2,hhf.symm,hrr.symm,qU.symm,.inr (.inr ⟨om,by rw[hG];omega,hG.symm,.inr (.inl ⟨c,JG,rfl⟩)⟩)⟩,rfl,hg⟩
    .have aPr:mn<=b_\/b_=mn-1/\2*one<=(r2:Int):=om;refine(JV h md k aJ e _ _ bT om om hnz (nb M) _ b_ E hL rfl om hE HZ om (E-fb) (E-fb-e) r _ rfl rfl HAt om (E-mn) Y (Y+r) rfl hY rfl om om om _ _ (.inr ⟨z0,om,HOr,HZe,.inr ⟨rfl,false,HTi false (.inr ⟨aPr,rfl⟩),.inr ⟨rfl,rfl⟩⟩⟩) w).mono ?_;rintro x w' ⟨rfl,hg⟩;exact⟨_,_,⟨b_,E,r,r2,hf,iT,hE2,hhf.symm,hrr.symm,qU.symm,.inr (.inr ⟨om,by rw[hG];omega,hG.symm,.inr (.inr ⟨c,aPr,rfl⟩)⟩)⟩,rfl,hg⟩
