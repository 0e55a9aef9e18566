import Derived.Test.YthoelefkjpjhfaaGreatDoorG3
set_option linter.all false
set_option maxRecDepth 1000000
set_option maxHeartbeats 40000000
open Go.Proofs.YthoelefkjpjhfaaGreatDoor renaming vI → J, vU → Z
open Go.Proofs.Tryz
namespace Go.Proofs.YthoelefkjpjhfaaGreatDoor
open Go.RowKit
attribute [local go_sem] aB dL
variable {p mn mx fb sp one aN sg nan:Int}
def UC(h:zo p mn mx fb sp one aN sg nan)(md:Int)(k:Nat)(aP e:Int)(bZ:Bool)(e0:-200000<=e)(e1:e<=200000)(z0:Int)(HZe:Qk p mn mx aP z0)(w:ak):
  QR 187 #[eu p mn mx md k,J aP,J e,aS 0 0,.bool bZ] w (aU z0 0):=by
 have HF:Gx p mn mx fb:=λw=>xZ h w;have aPS:Ag p mn mx 0 aN:=λw=>ou h 0 aN (.inl ⟨rfl,rfl⟩) w;have hq:=uV 0 0 0 0;simp only[BEq.rfl,Bool.and_true,Bool.true_and]at hq;clear h;go_enter func187,ntmps187;go_wp2_with (first|(go_at_call 239;refine(HZe _).mono ?_;rintro x w6 ⟨rfl,gG⟩;obtain⟨gc0,gc1,gc2,gm3,gm4⟩:uj w6 w.heap.size 0 1 2 3 4 (J p) (J mn) (J mx) (J md) (.func (.func k) #[] #[]):=⟨kq,kq,kq,kq,kq⟩;obtain⟨gc3,gc4⟩:lW w6 (w.heap.size+1) 0 1 (Z 0) (Z 0):=⟨kq,kq⟩;obtain⟨gr0,gz0,gr1,gz1⟩:jX w6 (w.heap.size+1+1) 0 1 (Z 0) (J 0):=⟨kq,kq,kq,kq⟩))
 all_goals
  exact cO (by simp[results,results187,go_sem,gr0,gr1])
def aJ5(h:zo p mn mx fb sp one aN sg nan)(md:Int)(k:Nat)(aP e mh ml:Int)(bZ:Bool)(e0:-200000<=e)(e1:e<=200000)(hnz:(mh==0&&ml==0)=false)(L:Nat)(u dh E:Int)(hL:L<=128)(hu:128-(L:Int)=u)(jF:(L:Int)+e-1=dh)(hE:max dh mn=E)(HZ:KR 252 #[aS mh ml] (J u))(z:Int)(HO:KR 253 #[eu p mn mx md k,J aP] (aU z 20))(c:mx<E)(w:ak):
  QR 187 #[eu p mn mx md k,J aP,J e,aS mh ml,.bool bZ] w (aU z 20):=by
 have HF:Gx p mn mx fb:=λw=>xZ h w;have aPS:Ag p mn mx 0 aN:=λw=>ou h 0 aN (.inl ⟨rfl,rfl⟩) w;have hq:=uV mh ml 0 0;have ZJ:(mh==0&&ml==0)=false:=hnz;simp only[ZJ]at hq;have bb:-1022<=mn/\mn<=0/\0<mx/\mx<=1023/\0<=fb/\fb<=52:=by rcases h with h|h<;>omega
 have t1:e+128-1-u=dh:=om;have t2:e+127-u=dh:=om;have tb:-300000<=dh/\dh<=300000:=om;have Eb:-300000<=E/\E<=300000:=om;have ub:0<=u/\u<=128:=om;clear hnz ZJ hu jF;clear h;go_enter func187,ntmps187;go_wp2_with (first|(go_at_call 252;refine(HZ _).mono ?_;rintro x w1 ⟨rfl,au⟩;obtain⟨ac0,ac1,ac2,am3,am4⟩:uj w1 w.heap.size 0 1 2 3 4 (J p) (J mn) (J mx) (J md) (.func (.func k) #[] #[]):=⟨kq,kq,kq,kq,kq⟩;obtain⟨ac3,ac4⟩:lW w1 (w.heap.size+1) 0 1 (Z mh) (Z ml):=⟨kq,kq⟩;obtain⟨iy,V_,EM,V9⟩:jX w1 (w.heap.size+1+1) 0 1 (Z 0) (J 0):=⟨kq,kq,kq,kq⟩)|(go_at_call 253;refine(HO _).mono ?_;rintro x wo ⟨rfl,aU1⟩;obtain⟨oc0,oc1,oc2,om3,om4⟩:uj wo w.heap.size 0 1 2 3 4 (J p) (J mn) (J mx) (J md) (.func (.func k) #[] #[]):=⟨kq,kq,kq,kq,kq⟩;obtain⟨oc3,oc4⟩:lW wo (w.heap.size+1) 0 1 (Z mh) (Z ml):=⟨kq,kq⟩;obtain⟨JU,oz0,or1,oz1⟩:jX wo (w.heap.size+1+1) 0 1 (Z 0) (J 0):=⟨kq,kq,kq,kq⟩))
 all_goals
  exact cO (by simp[results,results187,go_sem,JU,or1])
def MB(h:zo p mn mx fb sp one aN sg nan)(md:Int)(k:Nat)(aP e mh ml:Int)(bZ:Bool)(e0:-200000<=e)(e1:e<=200000)(hnz:(mh==0&&ml==0)=false)(L:Nat)(u dh E:Int)(hL:L<=128)(hu:128-(L:Int)=u)(jF:(L:Int)+e-1=dh)(hE:max dh mn=E)(HZ:KR 252 #[aS mh ml] (J u))(c:E<=mx)(a1 dr r:Int)(ix:Bool)(ha:E-fb=a1)(hdr:a1-e=dr)(HAt:KQ k dr aP mh ml bZ r ix)(r0:0<=r)(a2 Y G:Int)(sD:E-mn=a2)(hY:a2*one=Y)(hG:Y+r=G)(G1:aI G)(a20:0<=a2)(Y0:0<=Y)(z fl:Int)(hw:(aN<=G/\20=fl/\KR 253 #[eu p mn mx md k,J aP] (aU z 20))\/∃z0,G<aN/\bits .or .u64 z0 G=z/\Qk p mn mx aP z0/\(false=ix/\0=fl\/true=ix/\∃t,KR 255 #[eu p mn mx md k,J dh,J aP,J e,aS mh ml,.bool bZ] (.bool t)/\(true=t/\24=fl\/false=t/\16=fl)))(w:ak):
  QR 187 #[eu p mn mx md k,J aP,J e,aS mh ml,.bool bZ] w (aU z fl):=by
 have HF:Gx p mn mx fb:=λw=>xZ h w;have aPS:Ag p mn mx 0 aN:=λw=>ou h 0 aN (.inl ⟨rfl,rfl⟩) w;have hq:=uV mh ml 0 0;have ZJ:(mh==0&&ml==0)=false:=hnz;simp only[ZJ]at hq;have bb:-1022<=mn/\mn<=0/\0<mx/\mx<=1023/\0<=fb/\fb<=52:=by rcases h with h|h<;>omega
 have t1:e+128-1-u=dh:=om;have t2:e+127-u=dh:=om;have tb:-300000<=dh/\dh<=300000:=om;have Eb:-300000<=E/\E<=300000:=om;have ub:0<=u/\u<=128:=om;clear hnz ZJ hu jF;have u1:IntKind.i64.wrap (E-fb)=a1:=by rw[ha];exact CY _ om om
 have u2:IntKind.i64.wrap (a1-e)=dr:=by rw[hdr];exact CY _ om om
 have u3:IntKind.i64.wrap (E-mn)=a2:=by rw[sD];exact CY _ om om
 have u4:IntKind.u64.wrap a2=a2:=wu64 _ om om;have u5:IntKind.u64.wrap (a2*2^fb.toNat)=Y:=by
  have:(2:Int)^fb.toNat=one:=by rcases h with⟨rfl,rfl,rfl,rfl,rfl,rfl,rfl,rfl,rfl⟩|⟨rfl,rfl,rfl,rfl,rfl,rfl,rfl,rfl,rfl⟩<;>decide
  rw[this,hY];exact wu64 _ Y0 om
 have u6:IntKind.u64.wrap (Y+r)=G:=by rw[hG];exact wu64 _ om om
 have u7:¬fb<0:=om;have G0:0<=G:=om;clear ha hdr sD hY hG;clear h;rcases hw with⟨hv,rfl,HO⟩|⟨z0,hv,hor,HZe,⟨rfl,rfl⟩|⟨rfl,t,HTi,⟨rfl,rfl⟩|⟨rfl,rfl⟩⟩⟩
 all_goals
  go_enter func187,ntmps187;go_wp2_with (first|(go_at_call 252;refine(HZ _).mono ?_;rintro x w1 ⟨rfl,au⟩;obtain⟨ac0,ac1,ac2,am3,am4⟩:uj w1 w.heap.size 0 1 2 3 4 (J p) (J mn) (J mx) (J md) (.func (.func k) #[] #[]):=⟨kq,kq,kq,kq,kq⟩;obtain⟨ac3,ac4⟩:lW w1 (w.heap.size+1) 0 1 (Z mh) (Z ml):=⟨kq,kq⟩;obtain⟨iy,V_,EM,V9⟩:jX w1 (w.heap.size+1+1) 0 1 (Z 0) (J 0):=⟨kq,kq,kq,kq⟩))
  go_region_held3 (λw'=>uj w' w.heap.size 0 1 2 3 4 (J p) (J mn) (J mx) (J md) (.func (.func k) #[] #[])/\lW w' (w.heap.size+1) 0 1 (Z mh) (Z ml)/\jX w' (w.heap.size+1+1) 0 1 (Z 0) (J 0))((go_split_ands;(repeat' apply And.intro)<;>exact kl))(first|(go_at_call 182;refine(HF _).mono ?_;rintro x w2 ⟨rfl,aC⟩;have aIf:=aC.cells;have aIb:=aC.eY;have O6:=aC.size;(try simp only[dV,jg,jW]at O6))|(go_at_call 254;refine(HAt _).mono ?_;rintro x w3 ⟨rfl,aO⟩;have DJ:=aO.cells;have DF:=aO.eY;have oO:=aO.size;(try simp only[dV,jg,jW]at oO)))
  all_goals (try go_split_ands)<;>go_wp2
  all_goals
   go_region_held3 (λw'=>uj w' w.heap.size 0 1 2 3 4 (J p) (J mn) (J mx) (J md) (.func (.func k) #[] #[])/\lW w' (w.heap.size+1) 0 1 (Z mh) (Z ml)/\jX w' (w.heap.size+1+1) 0 1 (Z 0) (J 0))((go_split_ands;(repeat' apply And.intro)<;>exact kl))(first|(go_at_call 182;refine(HF _).mono ?_;rintro x w4 ⟨rfl,bg⟩;have Px:=bg.cells;have Po:=bg.eY;have vZ:=bg.size;(try simp only[dV,jg,jW]at vZ)))
  all_goals (try go_split_ands)
  all_goals
   go_wp2_with (first|(go_at_call 240;refine(aPS _).mono ?_;rintro x w5 ⟨rfl,bT⟩;obtain⟨fc0,fc1,fc2,fm3,fm4⟩:uj w5 w.heap.size 0 1 2 3 4 (J p) (J mn) (J mx) (J md) (.func (.func k) #[] #[]):=⟨kq,kq,kq,kq,kq⟩;obtain⟨fc3,fc4⟩:lW w5 (w.heap.size+1) 0 1 (Z mh) (Z ml):=⟨kq,kq⟩;obtain⟨fr0,fz0,fr1,fz1⟩:jX w5 (w.heap.size+1+1) 0 1 (Z 0) (J 0):=⟨kq,kq,kq,kq⟩)|(go_at_call 255;refine(HTi _).mono ?_;rintro x w7 ⟨rfl,jT⟩;obtain⟨YJ,AA,zA,hm3,hm4⟩:uj w7 w.heap.size 0 1 2 3 4 (J p) (J mn) (J mx) (J md) (.func (.func k) #[] #[]):=⟨kq,kq,kq,kq,kq⟩;obtain⟨hc3,hc4⟩:lW w7 (w.heap.size+1) 0 1 (Z mh) (Z ml):=⟨kq,kq⟩;obtain⟨Qv,mD,wz,jB⟩:jX w7 (w.heap.size+1+1) 0 1 (Z 0) (J 0):=⟨kq,kq,kq,kq⟩)|(go_at_call 253;refine(HO _).mono ?_;rintro x w6 ⟨rfl,gG⟩;obtain⟨gc0,gc1,gc2,gm3,gm4⟩:uj w6 w.heap.size 0 1 2 3 4 (J p) (J mn) (J mx) (J md) (.func (.func k) #[] #[]):=⟨kq,kq,kq,kq,kq⟩;obtain⟨gc3,gc4⟩:lW w6 (w.heap.size+1) 0 1 (Z mh) (Z ml):=⟨kq,kq⟩;obtain⟨gr0,gz0,gr1,gz1⟩:jX w6 (w.heap.size+1+1) 0 1 (Z 0) (J 0):=⟨kq,kq,kq,kq⟩)|(go_at_call 239;refine(HZe _).mono ?_;rintro x w6 ⟨rfl,gG⟩;obtain⟨gc0,gc1,gc2,gm3,gm4⟩:uj w6 w.heap.size 0 1 2 3 4 (J p) (J mn) (J mx) (J md) (.func (.func k) #[] #[]):=⟨kq,kq,kq,kq,kq⟩;obtain⟨gc3,gc4⟩:lW w6 (w.heap.size+1) 0 1 (Z mh) (Z ml):=⟨kq,kq⟩;obtain⟨gr0,gz0,gr1,gz1⟩:jX w6 (w.heap.size+1+1) 0 1 (Z 0) (J 0):=⟨kq,kq,kq,kq⟩))
  all_goals
   exact cO (by simp[results,results187,go_sem,gr0,gr1])
def or_zero(G:Nat)(hG:aI G):bits .or .u64 0 (G:Int)=(G:Int):=by
 have:=u64_or_nat 0 G om hG;rw[show((0:Nat):Int)=0 from rfl]at this;rw[this,Nat.zero_or]
def aQZ(G:Nat)(hG:G<2147483648):bits .or .u64 2147483648 (G:Int)=2147483648+(G:Int):=by
 have:=u64_or_nat 2147483648 G om om;rw[show((2147483648:Nat):Int)=2147483648 from rfl]at this;have e:=Sh.H9 31 1 G (by simpa using hG);simp only[Nat.reducePow,kW]at e;rw[this,e];omega
def aQY(G:Nat)(hG:G<9223372036854775808):bits .or .u64 9223372036854775808 (G:Int)=9223372036854775808+(G:Int):=by
 have:=u64_or_nat 9223372036854775808 G om om;rw[show((9223372036854775808:Nat):Int)=9223372036854775808 from rfl]at this;have e:=Sh.H9 63 1 G (by simpa using hG);simp only[Nat.reducePow,kW]at e;rw[this,e];omega
def BO(h:zo p mn mx fb sp one aN sg nan)(md aj:Int)(k:Nat)(hk:zT aj k)(aP:Int)(hs:aP=0\/aP=1)(e:Int)(e0:-100000<=e)(e1:e<=100000)(M:Nat)(hM0:0<M)(hM:M<340282366920938463463374607431768211456)(bZ:Bool)(hst:bZ=true->p+2<=(nb M:Int))(w:ak):
  CT 187 #[eu p mn mx md k,J aP,J e,iK M,.bool bZ] w λx w'=>∃z fl,bM p mn mx one aN aj aP M e bZ z fl/\x=.returned (aU (sv aP sg z) fl)/\Gr w w':=by
 have hb:24<=p/\p<=53/\-1022<=mn/\mn<=-126/\127<=mx/\mx<=1023/\fb=p-1/\0<one/\one<=4503599627370496/\aN<sg/\sg<=9223372036854775808/\mn=1-mx/\4*one<aN:=by rcases h with h|h<;>omega
 obtain⟨b1,b2,b3,b4,b5,b6,b7,b8,b9,b10,b11,b12,b13⟩:=hb;obtain⟨P,hP,Dn⟩:∃P:Nat,(P:Int)=p-1/\one=((2^P:Nat):Int):=by
  rcases h with⟨rfl,rfl,rfl,rfl,rfl,rfl,rfl,rfl,rfl⟩|⟨rfl,rfl,rfl,rfl,rfl,rfl,rfl,rfl,rfl⟩
  .exact⟨23,de,de⟩
  .exact⟨52,de,de⟩
 have xY:aN=one*(2*mx+1):=by rcases h with⟨rfl,rfl,rfl,rfl,rfl,rfl,rfl,rfl,rfl⟩|⟨rfl,rfl,rfl,rfl,rfl,rfl,rfl,rfl,rfl⟩<;>decide
 have aCL:2^(P+1)=2*2^P:=by rw[jE];omega
 have hL:nb M<=128:=vS (by simpa using hM);have jZ:=D8 M hM0;have hnz:(((M/18446744073709551616:Nat):Int)==0&&((M%18446744073709551616:Nat):Int)==0)=false:=by
  rw[Bool.and_eq_false_iff];by_cases c:M/18446744073709551616=0
  .right;simp;omega
  .left;simp;omega
 obtain⟨dh,jF⟩:=x_n (nb M+e-1:Int);obtain⟨E,hE⟩:=dP (max dh mn:Int);have hE2:dh<mn/\E=mn\/mn<=dh/\E=dh:=om;have HZ:KR 252 #[iK M] (J (128-(nb M:Int))):=λw=>aFj M hM w;have HO:KR 253 #[eu p mn mx md k,J aP] (aU (sv aP sg (kN aN aj aP)) 20):=λw=>UM h md aj k hk aP hs w;obtain⟨z0,mD⟩:∃z0,aP=0/\z0=0\/aP=1/\z0=sg:=by
  rcases hs with rfl|rfl
  .exact⟨0,.inl ⟨rfl,rfl⟩⟩
  .exact⟨sg,.inr ⟨rfl,rfl⟩⟩
 have HZe:Qk p mn mx aP z0:=λw=>oK h aP z0 mD w;have hor:∀G:Int,0<=G->G<aN->bits .or .u64 z0 G=sv aP sg G:=by
  intro G G0 G1;obtain⟨g,rfl⟩:=lq G0;unfold sv;rcases mD with⟨rfl,rfl⟩|⟨rfl,rfl⟩
  .rw[or_zero g (by omega)];simp
  .rcases h with⟨_,_,_,_,_,_,_,hsg,_⟩|⟨_,_,_,_,_,_,_,hsg,_⟩
   .subst hsg;rw[aQZ g (by omega)];simp
   .subst hsg;rw[aQY g (by omega)];simp
 have hge:(nb M:Int)-p<=E-fb-e:=om;by_cases ho:mx<E
 .have ht:mx<dh:=om;refine(aJ5 h md k aP e _ _ bZ om om hnz (nb M) _ dh E hL rfl om hE HZ _ HO ho w).mono ?_;rintro x w' ⟨rfl,hg⟩;exact⟨_,_,⟨dh,E,_,_,_,jF,hE2,rfl,rfl,rfl,.inl ⟨ht,rfl,rfl⟩⟩,rfl,hg⟩
 .have hq:E-fb=E-p+1:=om;have V5:dH M e (E-p+1)<2^(P+1):=uf M e (E-p+1) (P+1) om;have hch:=mF aj aP (dH M e (E-p+1)) (bH M e (E-p+1) bZ);have HAt:KQ k (E-fb-e) aP ((M/18446744073709551616:Nat):Int) ((M%18446744073709551616:Nat):Int) bZ ((chosen aj aP (dH M e (E-p+1)) (bH M e (E-p+1) bZ):Nat):Int) (decide (0<bH M e (E-p+1) bZ)):=λw=>wW aj k hk aP hs M hM e (E-p+1) (E-fb-e) bZ om om om (by
   intro hd;cases bZ
   .rfl
   .have:=hst rfl;omega) om w
  obtain⟨r,hr⟩:=dP (chosen aj aP (dH M e (E-p+1)) (bH M e (E-p+1) bZ));obtain⟨hf,hhf⟩:=dP (bH M e (E-p+1) bZ);obtain⟨r2,tY⟩:=dP (chosen aj aP (dH M e (dh-p+1)) (bH M e (dh-p+1) bZ));rw[hr]at hch HAt;rw[hhf]at HAt;have hrr:chosen aj aP (dH M e (E-p+1)) hf=r:=by rw[<-hhf];exact hr
  obtain⟨Y,hY⟩:=dP ((E-mn)*one);have hY':one*(E-mn)=Y:=by rw[Int.mul_comm];exact hY
  have hYb:0<=Y/\Y<=aN:=by
   rw[<-hY',xY];exact⟨Bj om om,Yv om om⟩
  have hG:(r:Int)+one*(E-mn)=Y+r:=by rw[hY'];omega
  by_cases hv:aN<=Y+r
  .refine(MB h md k aP e _ _ bZ om om hnz (nb M) _ dh E hL rfl om hE HZ om (E-fb) (E-fb-e) r _ rfl rfl HAt om (E-mn) Y (Y+r) rfl hY rfl om om om _ _ (.inl ⟨hv,rfl,HO⟩) w).mono ?_;rintro x w' ⟨rfl,hg⟩;exact⟨_,_,⟨dh,E,r,r2,hf,jF,hE2,hhf.symm,hrr.symm,tY.symm,.inr (.inl ⟨om,by rw[hG];exact hv,rfl,rfl⟩)⟩,rfl,hg⟩
  .have HOr:=hor (Y+r) om om;rcases jL hf with c|c
   .have aId:decide (0<hf)=false:=by rw[c];rfl
    rw[aId]at HAt;refine(MB h md k aP e _ _ bZ om om hnz (nb M) _ dh E hL rfl om hE HZ om (E-fb) (E-fb-e) r _ rfl rfl HAt om (E-mn) Y (Y+r) rfl hY rfl om om om _ _ (.inr ⟨z0,om,HOr,HZe,.inl ⟨rfl,rfl⟩⟩) w).mono ?_;rintro x w' ⟨rfl,hg⟩;exact⟨_,_,⟨dh,E,r,r2,hf,jF,hE2,hhf.symm,hrr.symm,tY.symm,.inr (.inr ⟨om,by rw[hG];omega,hG.symm,.inl ⟨c,rfl⟩⟩)⟩,rfl,hg⟩
   .have aId:decide (0<hf)=true:=h_ c;rw[aId]at HAt;have aRl:dH M e (dh-p+1)<2^(P+1):=uf M e (dh-p+1) (P+1) om;have aT4:=mF aj aP (dH M e (dh-p+1)) (bH M e (dh-p+1) bZ);rw[tY]at aT4;have HTi:∀tb:Bool,((dh<mn-1\/dh=mn-1/\(r2:Int)<2*one)/\tb=true\/(mn<=dh\/dh=mn-1/\2*one<=(r2:Int))/\tb=false)->KR 255 #[eu p mn mx md k,J dh,J aP,J e,iK M,.bool bZ] (.bool tb):=by
     intro tb htb w;by_cases ht:dh=mn-1
     .have aUO:KQ k (dh-fb-e) aP ((M/18446744073709551616:Nat):Int) ((M%18446744073709551616:Nat):Int) bZ (r2:Int) (decide (0<bH M e (dh-p+1) bZ)):=λw=>by
       rw[<-tY];exact wW aj k hk aP hs M hM e (dh-p+1) (dh-fb-e) bZ om om om (by
        intro hd;cases bZ
        .rfl
        .have:=hst rfl;omega) om w
      refine aJz h md k dh aP e _ _ (dh-fb) (dh-fb-e) r2 bZ _ tb ht om om rfl rfl om om ?_ aUO w;rcases htb with⟨a,rfl⟩|⟨a,rfl⟩
      .rw[h_ (by omega)]
      .rw[gV (by omega)]
     .have:=aJy (p:=p) (mn:=mn) (mx:=mx) om om md k dh aP e ((M/18446744073709551616:Nat):Int) ((M%18446744073709551616:Nat):Int) bZ jA w;rcases htb with⟨a,rfl⟩|⟨a,rfl⟩
      .rw[h_ (by omega)]at this;exact this
      .rw[gV (by omega)]at this;exact this
    by_cases LW:dh<mn-1\/dh=mn-1/\(r2:Int)<2*one
    .refine(MB h md k aP e _ _ bZ om om hnz (nb M) _ dh E hL rfl om hE HZ om (E-fb) (E-fb-e) r _ rfl rfl HAt om (E-mn) Y (Y+r) rfl hY rfl om om om _ _ (.inr ⟨z0,om,HOr,HZe,.inr ⟨rfl,true,HTi true (.inl ⟨LW,rfl⟩),.inl ⟨rfl,rfl⟩⟩⟩) w).mono ?_;rintro x w' ⟨rfl,hg⟩;exact⟨_,_,⟨dh,E,r,r2,hf,jF,hE2,hhf.symm,hrr.symm,tY.symm,.inr (.inr ⟨om,by rw[hG];omega,hG.symm,.inr (.inl ⟨c,LW,rfl⟩)⟩)⟩,rfl,hg⟩
    .have aRa:mn<=dh\/dh=mn-1/\2*one<=(r2:Int):=om;refine(MB h md k aP e _ _ bZ om om hnz (nb M) _ dh E hL rfl om hE HZ om (E-fb) (E-fb-e) r _ rfl rfl HAt om (E-mn) Y (Y+r) rfl hY rfl om om om _ _ (.inr ⟨z0,om,HOr,HZe,.inr ⟨rfl,false,HTi false (.inr ⟨aRa,rfl⟩),.inr ⟨rfl,rfl⟩⟩⟩) w).mono ?_;rintro x w' ⟨rfl,hg⟩;exact⟨_,_,⟨dh,E,r,r2,hf,jF,hE2,hhf.symm,hrr.symm,tY.symm,.inr (.inr ⟨om,by rw[hG];omega,hG.symm,.inr (.inr ⟨c,aRa,rfl⟩)⟩)⟩,rfl,hg⟩
