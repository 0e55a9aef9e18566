import Derived.Test.YtmiekgjgpmfekaaGreatDoorPm
import Derived.Test.YtmiekgjgpmfekaaGreatDoorG2
import Derived.Test.YtmiekgjgpmfekaaGreatDoorG8
import Derived.Test.YtmiekgjgpmfekaaGreatDoorRows
set_option linter.all false
set_option maxHeartbeats 40000000
open Go.Proofs.YtmiekgjgpmfekaaGreatDoor renaming vU → J
open Go.Value renaming int → Y
open Go.IntKind renaming i64 → Z
open Go.Proofs.Tryz
namespace Go.Proofs.YtmiekgjgpmfekaaGreatDoor
open Go.RowKit
attribute [local go_sem] aj
variable{p mx one inf sg nan mn fb sp f a a' b b' e z fl s v E m e0:Int}{M:Nat}
theorem nP(h:aP f p mx one inf sg nan)(s v z:Int)(hs:s=0/\z=v\/s=1/\z=v+sg)(v0:0<=v)(v1:v<sg)(w:World):
  QW 106 #[Y Z f,Y Z s,J v] w (J z):=by
 rcases hs with⟨rfl,rfl⟩|⟨rfl,rfl⟩
 ·exact QM f _ w
 ·exact VW h v v0 v1 w
theorem jK(m:Int)(b:Bool)(hb:b=decide (0<=m/\m<=4))(w:World):
  QW 82 #[Y Z m] w (.bool b):=by
 rcases(show(m<0/\b=false)\/(0<=m/\m<=4/\b=true)\/(4<m/\b=false) by
  cases b
  ·have:=of_decide_eq_false hb.symm;simp only[and_true,Bool.false_eq_true,and_false,false_or];omega
  ·have:=of_decide_eq_true hb.symm;simp only[and_true,Bool.true_eq_false,and_false,false_or,or_false];omega)with⟨c,rfl⟩|⟨c,d,rfl⟩|⟨c,rfl⟩
 all_goals
  clear hb;go_enter func82,ntmps82;go_wp2;go_returns;first|exact⟨rfl,rfl⟩|exact⟨bJ (congrArg Value.bool (decide_eq_false om)),rfl⟩|exact⟨bJ (congrArg Value.bool (decide_eq_true om)),rfl⟩
theorem QO(h:aP f p mx one inf sg nan)(mode sign z:Int)(m0:0<=mode)(m1:mode<=4)(hs:sign=0/\z=gu inf mode sign\/sign=1/\z=gu inf mode sign+sg)(w:World):
  QR 149 #[Y Z f,Y Z mode,Y Z sign] w (aK z 20):=by
 obtain⟨b1,b2,b3,b4,b5,b6,b7,b8,b9,b10,b11,b12⟩:=h.bounds;have HI:KW 107 #[Y Z f] (J inf):=fun w=>jh h w;have HP:Hid (∀v w,v=inf\/v=inf-1->v=gu inf mode sign->QW 106 #[Y Z f,Y Z sign,J v] w (J z)):=fun v w hv hz=>nP h sign v z (by rw[hz];exact hs) om om w;have hcase:(mode=0/\gu inf mode sign=inf)\/(mode=1/\gu inf mode sign=inf)\/(mode=2/\gu inf mode sign=inf-1)\/(mode=3/\sign=0/\gu inf mode sign=inf)\/(mode=3/\sign=1/\gu inf mode sign=inf-1)\/(mode=4/\sign=0/\gu inf mode sign=inf-1)\/(mode=4/\sign=1/\gu inf mode sign=inf):=by
  have hs':sign=0\/sign=1:=om;unfold gu;rcases(show mode=0\/mode=1\/mode=2\/mode=3\/mode=4 by omega)with rfl|rfl|rfl|rfl|rfl<;>rcases hs' with rfl|rfl<;>simp
 clear hs h;rcases hcase with⟨rfl,e⟩|⟨rfl,e⟩|⟨rfl,e⟩|⟨rfl,rfl,e⟩|⟨rfl,rfl,e⟩|⟨rfl,rfl,e⟩|⟨rfl,rfl,e⟩
 all_goals
  have HE:Hid _:=e.symm;clear e;go_enter func149,ntmps149;go_wp2_with (first
   |(go_at_call 107;refine kw (HI _) ?_)
   |(go_at_call 106;refine kw (HP _ _ om HE.out) ?_))
  go_returns;exact⟨rfl,kr⟩
set_option maxRecDepth 1000000
def rZ(p mn mx fb sp one inf sg nan:Int):Prop:=
 (p=24/\mn=-126/\mx=127/\fb=23/\sp=31/\one=8388608/\inf=2139095040/\sg=2147483648/\nan=2143289344)\/
 (p=53/\mn=-1022/\mx=1023/\fb=52/\sp=63/\one=4503599627370496/\inf=9218868437227405312/\sg=9223372036854775808/\nan=9221120237041090560)
theorem wL(n:Int)(h0:-9223372036854775808<=n)(h1:n<9223372036854775808):IntKind.i64.wrap n=n:=wi
theorem wu64(n:Int)(h0:0<=n)(h1:n<18446744073709551616):IntKind.u64.wrap n=n:=wu
theorem aAh(x:Int)(h0:0<=x)(h1:x<18446744073709551616)(w:World):
  CT 195 #[J x] w fun e w'=>e=.returned (Y Z (Go.Lib.bitLen x.toNat:Int))/\w'=w:=by
 go_enter func195,ntmps195;go_wp2_with (go_at_call 219;refine(vZ x h0 h1 _).mono ?_;rintro e w' ⟨rfl,rfl⟩);go_ret;exact⟨rfl,rfl⟩
theorem B_(x z:Int)(h0:0<=x)(h1:x<18446744073709551616)(hz:(Go.Lib.bitLen x.toNat:Int)=z)(w:World):
  CT 195 #[J x] w fun e w'=>e=.returned (Y Z z)/\w'=w:=hz▸aAh x h0 h1 w
theorem qw(h:rZ p mn mx fb sp one inf sg nan)(w:World):
  QR 194 #[iQ p mn mx] w (Y Z fb):=by
 rcases h with⟨rfl,rfl,rfl,rfl,rfl,rfl,rfl,rfl,rfl⟩|⟨rfl,rfl,rfl,rfl,rfl,rfl,rfl,rfl,rfl⟩
 all_goals
  go_enter func194,ntmps194;go_wp2;go_returns;exact⟨rfl,kr⟩
theorem O_(h:rZ p mn mx fb sp one inf sg nan)(w:World):
  QR 155 #[iQ p mn mx] w (Y Z sp):=by
 have HF:=fun w=>qw h w;have HL:∃l:Int,(∀w,CT 195 #[J mx] w fun e w'=>e=.returned (Y Z l)/\w'=w)/\fb+l+1=sp:=by
  rcases h with⟨rfl,rfl,rfl,rfl,rfl,rfl,rfl,rfl,rfl⟩|⟨rfl,rfl,rfl,rfl,rfl,rfl,rfl,rfl,rfl⟩
  ·exact⟨7,fun w=>B_ 127 7 om om (by decide+kernel) w,rfl⟩
  ·exact⟨10,fun w=>B_ 1023 10 om om (by decide+kernel) w,rfl⟩
 have hb:0<=mx/\mx<=1023/\0<=fb/\fb<=52/\0<=sp/\sp<=63:=by rcases h with h|h<;>omega
 obtain⟨l,HL,hl⟩:=HL;have HFF:Hid _:=HF;have HLL:Hid _:=HL;clear HF HL h;obtain rfl:sp=fb+l+1:=hl.symm;clear hl;have u1:IntKind.u64.wrap mx=mx:=wu;have u2:IntKind.i64.wrap (fb+l)=fb+l:=wL _ om om;have u3:IntKind.i64.wrap (fb+l+1)=fb+l+1:=wL _ om om;go_enter func155,ntmps155;go_wp2;go_region_held3 (fun w'=>aj w' w.heap.size 0 (Y Z p)/\aj w' w.heap.size 1 (Y Z mn)/\aj w' w.heap.size 2 (Y Z mx))
  ((go_split_ands;(repeat' apply And.intro)<;>exact kl))
  (first
   |(go_at_call 194;refine(HFF _).mono ?_;rintro e w3 ⟨rfl,aF⟩;have zC:=aF.cells;have zB:=aF.dK;have kQ:=aF.size;(try simp only[World.size_alloc,World.size_drew,World.size_setCell]at kQ))
   |(go_at_call 195;refine(HLL _).mono ?_;rintro e w4 ⟨rfl,hw⟩;rw[hw];clear hw))
 all_goals go_wp2
 all_goals go_returns
 all_goals exact⟨rfl,kr⟩
theorem rZ.cases(h:rZ p mn mx fb sp one inf sg nan):sp=31\/sp=63:=by rcases h with h|h<;>omega
theorem jc(h:rZ p mn mx fb sp one inf sg nan)(s z:Int)(hs:s=0/\z=0\/s=1/\z=sg)(w:World):
  QR 177 #[iQ p mn mx,Y Z s] w (J z):=by
 have HF:KR 155 #[iQ p mn mx] (Y Z sp):=fun w=>O_ h w;rcases h with⟨rfl,rfl,rfl,rfl,rfl,rfl,rfl,rfl,rfl⟩|⟨rfl,rfl,rfl,rfl,rfl,rfl,rfl,rfl,rfl⟩<;>rcases hs with⟨rfl,rfl⟩|⟨rfl,rfl⟩
 all_goals
  go_enter func177,ntmps177;go_wp2_with (go_at_call 155;refine(HF _).mono ?_;rintro e w3 ⟨rfl,aF⟩);go_returns;exact⟨rfl,kr⟩
theorem fits_any(h:rZ p mn mx fb sp one inf sg nan)(W:Int)(h0:0<=W)(h1:W<18446744073709551616)(w:World):
  QR 88 #[iQ p mn mx,J W] w (.bool (decide (W<2*sg))):=by
 have HF:KR 155 #[iQ p mn mx] (Y Z sp):=fun w=>O_ h w;rcases h with⟨rfl,rfl,rfl,rfl,rfl,rfl,rfl,rfl,rfl⟩|⟨rfl,rfl,rfl,rfl,rfl,rfl,rfl,rfl,rfl⟩
 all_goals
  go_enter func88,ntmps88;go_wp2_with (go_at_call 155;refine(HF _).mono ?_;rintro e w3 ⟨rfl,aF⟩);go_returns;refine⟨bJ (congrArg Value.bool ?_),kr⟩;first
   |rfl
   |(refine decide_eq_decide.mpr ?_;omega)
   |(rw[decide_eq_true om,decide_eq_true (by omega)])
   |(symm;refine decide_eq_true ?_;omega)
theorem Pg(h:rZ p mn mx fb sp one inf sg nan)(W:Int)(h0:0<=W)(h1:W<2*sg)(w:World):
  QR 196 #[iQ p mn mx,J W] w (Y Z (W/sg)):=by
 have HF:KR 155 #[iQ p mn mx] (Y Z sp):=fun w=>O_ h w;rcases h with⟨rfl,rfl,rfl,rfl,rfl,rfl,rfl,rfl,rfl⟩|⟨rfl,rfl,rfl,rfl,rfl,rfl,rfl,rfl,rfl⟩
 all_goals
  go_enter func196,ntmps196;go_wp2_with (go_at_call 155;refine(HF _).mono ?_;rintro e w3 ⟨rfl,aF⟩);go_returns;exact⟨bJ (congrArg (Value.int IntKind.i64) (by first|rfl|omega)),kr⟩
theorem aAw(W:Int)(h0:0<=W)(h1:W<18446744073709551616):bits .andNot .u64 W 9223372036854775808=W%9223372036854775808:=by
 obtain⟨A,rfl⟩:=Int.eq_ofNat_of_zero_le h0;have e:=u64_andNot_nat A 9223372036854775808 om om;rw[show((9223372036854775808:Nat):Int)=9223372036854775808 from rfl]at e;rw[e,show 18446744073709551615-9223372036854775808=2^63-1 from rfl,Nat.and_two_pow_sub_one_eq_mod];omega
theorem aAx(W:Int)(h0:0<=W)(h1:W<4294967296):bits .andNot .u64 W 2147483648=W%2147483648:=by
 obtain⟨A,rfl⟩:=Int.eq_ofNat_of_zero_le h0;have e:=u64_andNot_nat A 2147483648 om om;rw[show((2147483648:Nat):Int)=2147483648 from rfl]at e;have e1:A&&&(2^32-1)=A:=by rw[Nat.and_two_pow_sub_one_eq_mod];omega
 have e2:A&&&(18446744073709551615-2147483648)=A%2^31:=by
  rw[<-e1,Nat.and_assoc,show(2^32-1)&&&(18446744073709551615-2147483648)=2^31-1 from by decide,Nat.and_two_pow_sub_one_eq_mod,e1]
 rw[e,e2];omega
theorem xE(h:rZ p mn mx fb sp one inf sg nan)(W:Int)(h0:0<=W)(h1:W<2*sg)(w:World):
  QR 132 #[iQ p mn mx,J W] w (J (W%sg)):=by
 have HF:RN p mn mx 1 sg:=fun w=>jc h 1 sg (.inr ⟨rfl,rfl⟩) w;rcases h with⟨rfl,rfl,rfl,rfl,rfl,rfl,rfl,rfl,rfl⟩|⟨rfl,rfl,rfl,rfl,rfl,rfl,rfl,rfl,rfl⟩
 all_goals
  go_enter func132,ntmps132;go_wp2_with (go_at_call 177;refine(HF _).mono ?_;rintro e w3 ⟨rfl,aF⟩);go_returns;refine⟨bJ (congrArg (Value.int IntKind.u64) ?_),kr⟩;first|exact aAx W h0 om|exact aAw W h0 om
theorem jM(h:rZ p mn mx fb sp one inf sg nan)(s z:Int)(hs:s=0/\z=inf\/s=1/\z=sg+inf)(w:World):
  QR 197 #[iQ p mn mx,Y Z s] w (J z):=by
 have HF:J3 p mn mx fb:=fun w=>qw h w;have HZ:∃y:Int,RN p mn mx s y/\((s=0/\y=0)\/(s=1/\y=sg)):=by
  rcases hs with⟨rfl,rfl⟩|⟨rfl,rfl⟩
  ·exact⟨0,fun w=>jc h 0 0 (.inl ⟨rfl,rfl⟩) w,.inl ⟨rfl,rfl⟩⟩
  ·exact⟨sg,fun w=>jc h 1 sg (.inr ⟨rfl,rfl⟩) w,.inr ⟨rfl,rfl⟩⟩
 obtain⟨y,HZ,hy⟩:=HZ;obtain⟨m2,m3,m4,hm2,hm3,hm4,hor,hb⟩:∃m2 m3 m4:Int,IntKind.i64.wrap (2*mx)=m2/\IntKind.i64.wrap (m2+1)=m3/\IntKind.u64.wrap (m3*2^fb.toNat)=m4/\bits .or .u64 y m4=z/\0<=m3/\m3<=3000/\0<=fb/\fb<=52:=by
  rcases h with⟨rfl,rfl,rfl,rfl,rfl,rfl,rfl,rfl,rfl⟩|⟨rfl,rfl,rfl,rfl,rfl,rfl,rfl,rfl,rfl⟩<;>rcases hs with⟨rfl,rfl⟩|⟨h1,rfl⟩<;>rcases hy with⟨hy1,rfl⟩|⟨hy1,rfl⟩<;>first
   |(exfalso;omega)
   |exact⟨_,_,_,rfl,rfl,rfl,by decide+kernel,de,de,de,de⟩
 have hm5:IntKind.u64.wrap m3=m3:=wu64 _ om om;have hfb:¬fb<0:=om;have HM4:Hid _:=hm4;clear h hs hy;go_enter func197,ntmps197;go_wp2;go_region_held3 (fun w'=>aj w' w.heap.size 0 (Y Z p)/\aj w' w.heap.size 1 (Y Z mn)/\aj w' w.heap.size 2 (Y Z mx))
  ((go_split_ands;(repeat' apply And.intro)<;>exact kl))
  (first
   |(go_at_call 194;refine(HF _).mono ?_;rintro e w3 ⟨rfl,aF⟩;have zC:=aF.cells;have zB:=aF.dK;have kQ:=aF.size;(try simp only[World.size_alloc,World.size_drew,World.size_setCell]at kQ))
   |(go_at_call 177;refine(HZ _).mono ?_;rintro e w4 ⟨rfl,aI⟩;have E5:=aI.cells;have EZ:=aI.dK;have oD:=aI.size;(try simp only[World.size_alloc,World.size_drew,World.size_setCell]at oD)))
 all_goals go_wp2
 all_goals go_returns
 all_goals exact⟨rfl,kr⟩
theorem aDE{P:Prop}(h:P:=by
 have S:=aO.scale (p:=p) (mn:=mn) (mx:=mx) (one:=one) (inf:=inf) (mode:=md) (sign:=x.s) (M:=a-b) (e:=min x.e y.e) (z:=z) (fl:=fl) k om;rw[hab,hk]at S;exact S):P:=h
theorem RG(x y:bZ):iI y x=((iI x y).2,(iI x y).1):=by
 unfold iI;rw[show min y.e x.e=min x.e y.e by omega]
theorem GK(mode:Int)(x y:bZ):qG mode x y=qG mode y x:=by
 unfold qG;rw[RG x y,show min y.e x.e=min x.e y.e by omega];obtain⟨a,b⟩:=iI x y;dsimp only
 by_cases hs:x.s=y.s
 ·rw[if_pos hs,if_pos hs.symm,hs,Nat.add_comm]
 ·have hs':¬y.s=x.s:=fun h=>hs h.symm;rw[if_neg hs,if_neg hs'];by_cases h1:a=b
  ·rw[if_pos h1,if_pos h1.symm]
  ·have h1':¬b=a:=fun h=>h1 h.symm;rw[if_neg h1,if_neg h1'];by_cases h2:b<a
   ·rw[if_pos h2,if_neg (show ¬a<b by omega)]
   ·rw[if_neg h2,if_pos (show a<b by omega)]
theorem aFO(mode:Int)(x y:bZ)(h:x.c=y.c->x.s=y.s->x.c≠1->x=y):gI mode x y=gI mode y x:=by
 unfold gI;rw[show max y.c x.c=max x.c y.c by omega];by_cases h1:3<=max x.c y.c
 ·rw[if_pos h1,if_pos h1]
 ·rw[if_neg h1,if_neg h1];by_cases h2:y.c<x.c
  ·rw[if_pos h2,if_neg (show ¬x.c<y.c by omega),if_pos h2]
  ·by_cases h3:x.c<y.c
   ·rw[if_neg h2,if_pos h3,if_pos h3]
   ·rw[if_neg h2,if_neg h3,if_neg h3,if_neg h2];have hc:x.c=y.c:=om;by_cases h4:x.c=1
    ·rw[if_pos h4,if_pos (show y.c=1 by omega),GK]
    ·rw[if_neg h4,if_neg (show ¬y.c=1 by omega)];by_cases h5:x.s=y.s
     ·rw[if_pos h5,if_pos h5.symm];exact h hc h5 h4
     ·have h5':¬y.s=x.s:=fun k=>h5 k.symm;rw[if_neg h5,if_neg h5',hc]
theorem aEY(x y:bZ):dO x y=dO y x:=by
 have hm:mulS y.s x.s=mulS x.s y.s:=by unfold mulS;split<;>split<;>first|rfl|(exfalso;omega)
 unfold dO;rw[hm,show max y.c x.c=max x.c y.c by omega,show min y.c x.c=min x.c y.c by omega,show y.e+x.e=x.e+y.e by omega,Nat.mul_comm y.M x.M]
def Same(o:bZ)(c s e:Int)(M:Nat)(st:Bool):Prop:=
 o.c=c/\(c<=2->o.s=s)/\(c=1->0<M/\M<340282366920938463463374607431768211456/\(st=true->55<=nb M)/\-100000<=e/\e<=100000/\
  ∀p mn mx one inf mode z fl,0<=p->p<=53->(aO p mn mx one inf mode s M e st z fl↔aO p mn mx one inf mode s o.M o.e false z fl))
theorem Same.self(x:bZ)(h:x.c=1->0<x.M/\x.M<340282366920938463463374607431768211456/\-100000<=x.e/\x.e<=100000):Same x x.c x.s x.e x.M false:=
 ⟨rfl,fun _=>rfl,fun c=>⟨(h c).1,(h c).2.1,(fun k=>by cases k),(h c).2.2.1,(h c).2.2.2,fun p mn mx one inf mode z fl _ _=>Iff.rfl⟩⟩
theorem jB(M:Nat)(h:0<M)(hn:nb M<=106):85070591730234615865843651857942052864<=M*2^(127-nb M)/\M*2^(127-nb M)<170141183460469231731687303715884105728:=by
 have h1:=EK M (127-nb M) h;have h2:nb (M*2^(127-nb M))=127:=om;have h3:=uS (M*2^(127-nb M));have h4:=EL (M*2^(127-nb M)) (Nat.mul_pos h (Nat.pow_pos de));rw[h2]at h3 h4;exact⟨by simpa using h4,by simpa using h3⟩
theorem align(x y:bZ)(lx ly:Nat)(ex' WT:Int)(d:Nat)(hx:ex'=x.e-lx)(hy:WT=y.e-ly)(hd:(d:Int)=ex'-WT):
  ∃k:Nat,min x.e y.e-k=WT/\(iI x y).1 *2^k=x.M*2^lx*2^d/\(iI x y).2 *2^k=y.M*2^ly:=by
 refine⟨(min x.e y.e-WT).toNat,om,?_,?_⟩
 ·unfold iI;dsimp only
  rw[Nat.mul_assoc,Nat.mul_assoc,<-Nat.pow_add,<-Nat.pow_add]
  congr 2;omega
 ·unfold iI;dsimp only
  rw[Nat.mul_assoc,<-Nat.pow_add]
  congr 2;omega
theorem NS(A B d:Nat):(A*2^d+B)/2^d=A+B/2^d/\(A*2^d+B)%2^d=B%2^d:=by
 have hp:0<2^d:=Nat.pow_pos de;rw[Nat.add_comm,Nat.add_mul_div_right _ _ hp,Nat.add_mul_mod_self_right,Nat.add_comm];exact⟨rfl,rfl⟩
theorem NR(A B d:Nat)(h:B<=A*2^d):
  (B%2^d=0->(A*2^d-B)/2^d=A-B/2^d/\(A*2^d-B)%2^d=0/\B/2^d<=A/\A*2^d-B=(A-B/2^d)*2^d)/\
  (B%2^d≠0->(A*2^d-B)/2^d=A-(B/2^d+1)/\(A*2^d-B)%2^d≠0/\B/2^d+1<=A):=by
 have hp:0<2^d:=Nat.pow_pos de;have hB:=Nat.div_add_mod B (2^d);have hr:=Nat.mod_lt B hp;generalize B/2^d=Q at*
 generalize B%2^d=R at*
 generalize 2^d=T at*
 have hle:Q<=A:=by
  apply Nat.le_of_mul_le_mul_left _ hp;rw[Nat.mul_comm T A];omega
 obtain⟨D,rfl⟩:∃D,A=Q+D:=⟨A-Q,om⟩;have e1:(Q+D)*T=T*Q+D*T:=by rw[Nat.add_mul,Nat.mul_comm Q T]
 constructor
 ·intro h0;subst h0;have e2:(Q+D)*T-B=D*T:=om;rw[e2,Nat.mul_div_cancel _ hp,Nat.mul_mod_left];have e3:Q+D-Q=D:=om;rw[e3];exact⟨rfl,rfl,om,rfl⟩
 ·intro h0;have hD:0<D:=by
   rcases Nat.eq_zero_or_pos D with c|c
   ·subst c;rw[e1]at h;simp at h;omega
   ·exact c
  obtain⟨D',rfl⟩:∃D',D=D'+1:=⟨D-1,om⟩;have e4:(D'+1)*T=D'*T+T:=by rw[Nat.add_mul,Nat.one_mul]
  have e2:(Q+(D'+1))*T-B=(T-R)+D'*T:=om;rw[e2,Nat.add_mul_div_right _ _ hp,Nat.add_mul_mod_self_right,Nat.div_eq_of_lt om,Nat.mod_eq_of_lt (by omega)];exact⟨om,om,om⟩
theorem Vz(M d:Nat)(h:nb M<=106)(hr:M*2^(127-nb M)%2^d≠0):22<=d:=by
 rcases Nat.lt_or_ge d 22 with c|c
 ·exfalso;apply hr;have:127-nb M=(127-nb M-d)+d:=om;rw[this,Nat.pow_add,<-Nat.mul_assoc];exact Nat.mul_mod_left _ _
 ·exact c
theorem XG(mode:Int)(x y:bZ)(A B d:Nat)(ex' WT:Int)(hx0:0<x.M)(hxn:nb x.M<=106)(hy0:0<y.M)(hyn:nb y.M<=106)(hA:A=x.M*2^(127-nb x.M))(hB:B=y.M*2^(127-nb y.M))
  (hex:ex'=x.e-(127-nb x.M:Nat)) (hey:WT=y.e-(127-nb y.M:Nat)) (hd:(d:Int)=ex'-WT) (hge:d=0->B<=A) (xb:-50000<=x.e/\x.e<=50000):
  (x.s=y.s->A+B/2^d<340282366920938463463374607431768211456/\Same (qG mode x y) 1 x.s ex' (A+B/2^d) (decide (B%2^d≠0)))/\
  (x.s≠y.s->B%2^d≠0->B/2^d+1<=A/\0<A-(B/2^d+1)/\Same (qG mode x y) 1 x.s ex' (A-(B/2^d+1)) true)/\
  (x.s≠y.s->B%2^d=0->B/2^d<=A/\(0<A-B/2^d->Same (qG mode x y) 1 x.s ex' (A-B/2^d) false)/\(A-B/2^d=0->qG mode x y=CU mode)):=by
 obtain⟨a1,a2⟩:=jB x.M hx0 hxn;obtain⟨b1,b2⟩:=jB y.M hy0 hyn;rw[<-hA]at a1 a2;rw[<-hB]at b1 b2;obtain⟨k,hk,hk1,hk2⟩:=align x y (127-nb x.M) (127-nb y.M) ex' WT d hex hey hd;rw[<-hA]at hk1;rw[<-hB]at hk2;have hBd:B/2^d<=B:=Nat.div_le_self _ _;have kp:0<2^k:=Nat.pow_pos de;have dp:0<2^d:=Nat.pow_pos de;have hnA:nb A=127:=by rw[hA,EK _ _ hx0];omega
 obtain⟨a,ha⟩:∃a,(iI x y).1 =a:=⟨_,rfl⟩;obtain⟨b,hb⟩:∃b,(iI x y).2 =b:=⟨_,rfl⟩;rw[ha]at hk1;rw[hb]at hk2;have eb:-100000<=ex'/\ex'<=100000:=om;have hed:WT+d=ex':=om;unfold qG;rw[ha,hb];have V1:=NS A B d;have V2:=NR A B d;have aIH:B%2^d≠0->22<=d:=fun hr=>by rw[hB]at hr;exact Vz y.M d hyn hr
 have aIJ:4194304<=2^d->B/2^d<40564819207303340847894502572032:=fun Zu=>by
  rw[Nat.div_lt_iff_lt_mul dp];exact Nat.lt_of_lt_of_le (show B<40564819207303340847894502572032*4194304 by omega) (Nat.mul_le_mul_left _ Zu)
 generalize B/2^d=Q at*
 refine⟨fun hs=>?_,fun hs hr=>?_,fun hs hr=>?_⟩
 ·rw[if_pos hs];refine⟨om,rfl,fun _=>rfl,fun _=>⟨om,om,fun _=>?_,eb.1,eb.2,fun p mn mx one inf md z fl p0 p1=>?_⟩⟩
  ·have:=pq (N:=A+Q) (k:=126) (by simpa using(show 85070591730234615865843651857942052864<=A+Q by omega));omega
  ·obtain⟨t1,t2⟩:=V1;have hn:126<nb (A+Q):=pq (by simpa using(show 85070591730234615865843651857942052864<=A+Q by omega));have T:=aO.trunc (p:=p) (mn:=mn) (mx:=mx) (one:=one) (inf:=inf) (mode:=md) (sign:=x.s) (X:=A*2^d+B) (e:=WT) (z:=z) (fl:=fl) d (by rw[t1];omega) p0 (fun _=>by rw[t1];omega);rw[t1,t2,hed]at T;rw[T];have hab:(a+b)*2^k=A*2^d+B:=by rw[Nat.add_mul,hk1,hk2]
   have S:=aO.scale (p:=p) (mn:=mn) (mx:=mx) (one:=one) (inf:=inf) (mode:=md) (sign:=x.s) (M:=a+b) (e:=min x.e y.e) (z:=z) (fl:=fl) k (by
    rcases Nat.eq_zero_or_pos (a+b)with c|c
    ·rw[c]at hab;simp at hab;omega
    ·exact c)
   rw[hab,hk]at S;exact S
 ·rw[if_neg hs];have aIZ:22<=d:=aIH hr;have Zu:(4194304:Nat)<=2^d:=by have:=bT aIZ;simpa using this
  have hq:=aIJ Zu;have hBA:B<=A*2^d:=Nat.le_trans (show B<=A*4194304 by omega) (Nat.mul_le_mul_left _ Zu);obtain⟨t1,t2,t3⟩:=(V2 hBA).2 hr;have hlt:b*2^k<a*2^k:=by
   rw[hk1,hk2];exact Nat.lt_of_lt_of_le (show B<A*4194304 by omega) (Nat.mul_le_mul_left _ Zu)
  have hba:b<a:=Nat.lt_of_mul_lt_mul_right hlt;rw[if_neg om,if_pos hba];have hn:125<nb (A-(Q+1)):=pq (by simpa using(show 42535295865117307932921825928971026432<=A-(Q+1) by omega));refine⟨t3,om,rfl,fun _=>rfl,fun _=>⟨om,om,fun _=>om,eb.1,eb.2,fun p mn mx one inf md z fl p0 p1=>?_⟩⟩;have T:=aO.trunc (p:=p) (mn:=mn) (mx:=mx) (one:=one) (inf:=inf) (mode:=md) (sign:=x.s) (X:=A*2^d-B) (e:=WT) (z:=z) (fl:=fl) d (by rw[t1];omega) p0 (fun _=>by rw[t1];omega);rw[t1,hed,decide_eq_true t2]at T;rw[T];have hab:(a-b)*2^k=A*2^d-B:=by rw[Nat.sub_mul,hk1,hk2]
  exact aDE
 ·rw[if_neg hs];have hBA:B<=A*2^d:=by
   rcases Nat.eq_zero_or_pos d with c|c
   ·subst c;have:=hge rfl;omega
   ·have h2:2<=2^d:=by have:=bT c;simpa using this
    exact Nat.le_trans (show B<=A*2 by omega) (Nat.mul_le_mul_left _ h2)
  obtain⟨t1,t2,t3,t4⟩:=(V2 hBA).1 hr;have hle:b*2^k<=a*2^k:=by rw[hk1,hk2];exact hBA
  have hba:b<=a:=Nat.le_of_mul_le_mul_right hle kp;have hab:(a-b)*2^k=A*2^d-B:=by rw[Nat.sub_mul,hk1,hk2]
  refine⟨t3,fun hpos=>?_,fun hz=>?_⟩
  ·have hne:a≠b:=by
    intro h;rw[h,Nat.sub_self,Nat.zero_mul]at hab;have:=Nat.mul_pos hpos dp;omega
   rw[if_neg hne,if_pos (by omega)];refine⟨rfl,fun _=>rfl,fun _=>⟨hpos,om,(fun h=>by cases h),eb.1,eb.2,fun p mn mx one inf md z fl p0 p1=>?_⟩⟩;have T:=aO.trunc (p:=p) (mn:=mn) (mx:=mx) (one:=one) (inf:=inf) (mode:=md) (sign:=x.s) (X:=A*2^d-B) (e:=WT) (z:=z) (fl:=fl) d (by rw[t1];omega) p0 (fun h=>absurd t2 h);rw[t1,hed,decide_eq_false (by simpa using t2)]at T;rw[T];exact aDE
  ·rw[hz,Nat.zero_mul]at t4;have:a=b:=by
    apply Nat.eq_of_mul_eq_mul_right kp;omega
   rw[if_pos this]
theorem aEc(x y c:Int)(hx:0<=x)(hy:0<=y)(hc0:0<=c)(hc:c<=1)(w:World):(callFunc 236 #[J x,J y,J c]).run Tryz.prog w=
  .ok (.value (.tuple #[J ((x+y+c)%18446744073709551616),J ((x+y+c)/18446744073709551616)])) w:=by
 rw[run_callFunc_extern func236 (by kernel_rfl) (by kernel_rfl) (by kernel_rfl) (e:=add64Entry) (by kernel_rfl),run_add64 x y c hx hy hc0 hc];rfl
theorem aCo(x y:Int)(hx:0<=x)(hy:0<=y)(w:World):(callFunc 236 #[J x,J y,J 0]).run Tryz.prog w=
  .ok (.value (.tuple #[J ((x+y)%18446744073709551616),J ((x+y)/18446744073709551616)])) w:=by
 simpa using aEc x y 0 hx hy (Int.le_refl 0) de w
theorem MJ(a0 a1 b0 b1:Int)(ha0:0<=a0)(ha1:0<=a1)(hb0:0<=b0)(hb1:0<=b1)(CW:a0<18446744073709551616)(gb0:b0<18446744073709551616)(w:World):
  Calls Tryz.prog 226 #[aG a0 a1,aG b0 b1] w fun e w'=>
   e=.returned (.tuple #[aG ((a0+b0)%18446744073709551616) ((a1+b1+(a0+b0)/18446744073709551616)%18446744073709551616),
    .bool ((a1+b1+(a0+b0)/18446744073709551616)/18446744073709551616 != 0)])/\∃c1 c2 c3 c4:Array Value,w'=((((w.alloc (.cells c1 226)).alloc (.cells c2 226)).alloc (.cells c3 226)).alloc (.cells c4 226)).drew.drew :=by
 have k0:0<=(a0+b0)/18446744073709551616:=om;have k1:(a0+b0)/18446744073709551616<=1:=om;go_enter func226,ntmps226;go_wp2;refine wp_loop_rounds 3 ?_;rw[rounds_succ];go_wp2;go_region_with (simp only[aCo a0 b0 ha0 hb0]);all_goals (go_wp2;rw[rounds_succ];go_wp2;go_region_with (simp only[aEc a1 b1 _ ha1 hb1 k0 k1]))
 all_goals (go_wp2;rw[rounds_succ];go_wp2;go_returns;exact⟨rfl,_,_,_,_,rfl⟩)
theorem Oh(ah al bh bl:Int)(ha0:0<=ah)(ha1:ah<18446744073709551616)(hb0:0<=al)(hb1:al<18446744073709551616)(hc0:0<=bh)(hc1:bh<18446744073709551616)(hd0:0<=bl)(hd1:bl<18446744073709551616)(w:World):
  CT 234 #[aG ah al,aG bh bl] w fun e w'=>
   e=.returned (.tuple #[aG ((ah+bh+(al+bl)/18446744073709551616)%18446744073709551616) ((al+bl)%18446744073709551616),.bool ((ah+bh+(al+bl)/18446744073709551616)/18446744073709551616 != 0)])/\Gr w w':=by
 go_enter func234,ntmps234;go_wp2;go_region_held3 (fun w'=>aj w' w.heap.size 0 (J ah)/\aj w' w.heap.size 1 (J al)/\aj w' (w.heap.size+1) 0 (J bh)/\aj w' (w.heap.size+1) 1 (J bl))
  (simp[go_sem,World.cell?_alloc_past])
  (first
   |(go_at_call 200;refine(mD _ _ _).mono ?_;rintro e w1 ⟨rfl,c1,c2,rfl⟩)
   |(go_at_call 226;refine(MJ al ah bl bh hb0 ha0 hd0 hc0 hb1 hd1 _).mono ?_;rintro e w2 ⟨rfl,d1,d2,d3,d4,rfl⟩))
 all_goals go_wp2_with (go_at_call 202;refine(yH _ _ _).mono ?_;rintro e w1 ⟨rfl,f1,f2,rfl⟩)
 all_goals go_returns
 all_goals exact⟨rfl,⟨by go_grown,by go_grown⟩⟩
theorem xZ(x y:Int)(hx0:0<=x)(hx:x<18446744073709551616)(hy0:0<=y)(hy:y<18446744073709551616):0<=x*y/18446744073709551616/\x*y/18446744073709551616<18446744073709551616:=by
 have h1:0<=x*y:=Int.mul_nonneg hx0 hy0;have h2:x*y<=18446744073709551615*18446744073709551615:=Int.mul_le_mul om om hy0 om;generalize x*y=p at*
 omega
theorem Y6(x:Int)(h0:0<=x)(h1:x<18446744073709551616):bits .and .u64 x 4294967295=x%4294967296:=by
 obtain⟨n,rfl⟩:=Int.eq_ofNat_of_zero_le h0;refine(bits_and_u64_nat n 4294967295 om om).trans ?_;rw[show n&&&4294967295=n%4294967296 from Nat.and_two_pow_sub_one_eq_mod n 32];omega
structure Halves (x y a b c d:Int):Prop where
 all:x*y=a*18446744073709551616+(b+c)*4294967296+d
 a0:0<=a
 a1:a<=18446744065119617025
 b0:0<=b
 b1:b<=18446744065119617025
 c0:0<=c
 c1:c<=18446744065119617025
 d0:0<=d
 d1:d<=18446744065119617025
theorem wC(u v:Int)(u0:0<=u)(u1:u<4294967296)(v0:0<=v)(v1:v<4294967296):0<=u*v/\u*v<=18446744065119617025:=by
 refine⟨Int.mul_nonneg u0 v0,?_⟩;have:=Int.mul_le_mul (show u<=4294967295 by omega) (show v<=4294967295 by omega) v0 om;omega
theorem halves(x y x1 x0 y1 y0:Int)(hx:x=x1*4294967296+x0)(hy:y=y1*4294967296+y0)(bx1:0<=x1)(Fp:x1<4294967296)(bx0:0<=x0)(cx0:x0<4294967296)(RF:0<=y1)(TP:y1<4294967296)(by0:0<=y0)(cy0:y0<4294967296):
  Halves x y (x1*y1) (x1*y0) (x0*y1) (x0*y0):=by
 obtain⟨a0,a1⟩:=wC x1 y1 bx1 Fp RF TP;obtain⟨b0,b1⟩:=wC x1 y0 bx1 Fp by0 cy0;obtain⟨c0,c1⟩:=wC x0 y1 bx0 cx0 RF TP;obtain⟨d0,d1⟩:=wC x0 y0 bx0 cx0 by0 cy0;refine⟨?_,a0,a1,b0,b1,c0,c1,d0,d1⟩;rw[hx,hy,Int.add_mul,Int.mul_add,Int.mul_add,Int.mul_right_comm x1 4294967296 y0,<-Int.mul_assoc x0 y1,<-Int.mul_assoc (x1*4294967296) y1,Int.mul_right_comm x1 4294967296 y1];generalize x1*y1=a;generalize x1*y0=b;generalize x0*y1=c;generalize x0*y0=d;omega
theorem aEE(h1:a=a')(h2:b=b'):Ending.returned (.tuple #[J a,J b])=.returned (.tuple #[J a',J b']):=by rw[h1,h2]
theorem aED(h1:a=a')(h2:b=b'):Ending.returned (aG a b)=.returned (aG a' b'):=by rw[h1,h2]
theorem Vs(x y:Int)(hx0:0<=x)(hx:x<18446744073709551616)(hy0:0<=y)(hy:y<18446744073709551616)(w:World):
  Calls Tryz.prog 225 #[J x,J y] w fun e w'=>e=.returned (.tuple #[J (x*y/18446744073709551616),J (x*y%18446744073709551616)])/\w'=w:=by
 have la:=Y6 x hx0 hx;have lb:=Y6 y hy0 hy;obtain⟨x1,hx1⟩:∃v,x/4294967296=v:=⟨_,rfl⟩;obtain⟨x0,hxl⟩:∃v,x%4294967296=v:=⟨_,rfl⟩;obtain⟨y1,hy1⟩:∃v,y/4294967296=v:=⟨_,rfl⟩;obtain⟨y0,hyl⟩:∃v,y%4294967296=v:=⟨_,rfl⟩;rw[hxl]at la;rw[hyl]at lb;obtain⟨eq,a0,a1,b0,b1,c0,c1,d0,d1⟩:=halves x y x1 x0 y1 y0 om om om om om om om om om om;obtain⟨a,ha⟩:∃v,x1*y1=v:=⟨_,rfl⟩;obtain⟨b,hb⟩:∃v,x1*y0=v:=⟨_,rfl⟩;obtain⟨c,hc⟩:∃v,x0*y1=v:=⟨_,rfl⟩;obtain⟨d,hd⟩:∃v,x0*y0=v:=⟨_,rfl⟩;rw[ha,hb,hc,hd]at eq;rw[ha]at a0 a1;rw[hb]at b0 b1;rw[hc]at c0 c1;rw[hd]at d0 d1;obtain⟨t,ht⟩:∃v,b+d/4294967296=v:=⟨_,rfl⟩;have lt:=Y6 t om om;have t0:0<=t:=om;have t1:t<18446744073709551616:=om;have E:Hid _:=eq;have hT:Hid (b+d/4294967296=t):=ht;clear eq hxl hyl;go_enter func225,ntmps225;go_wp2;go_ret2;have e:=E.out;have f:=hT.out;generalize x*y=p at*
 refine⟨aEE ?_ ?_,rfl⟩
 ·omega
 ·first|omega|(simp only[IntKind.wrap_u64];done)|(simp only[IntKind.wrap_u64];omega)
theorem BN(x y:Int)(hx0:0<=x)(hx:x<18446744073709551616)(hy0:0<=y)(hy:y<18446744073709551616)(w:World):
  QR 183 #[J x,J y] w (aG (x*y/18446744073709551616) (x*y%18446744073709551616)):=by
 obtain⟨b0,b1⟩:=xZ x y hx0 hx hy0 hy;have e1:x*y%18446744073709551616%18446744073709551616=x*y%18446744073709551616:=om;have e2:x*y%18446744073709551616/18446744073709551616=0:=om;have e3:x*y/18446744073709551616%18446744073709551616=x*y/18446744073709551616:=om;have e4:x*y/18446744073709551616/18446744073709551616=0:=om;go_enter func183,ntmps183;go_wp2_with (first
  |(go_at_call 225;refine(Vs x y hx0 hx hy0 hy _).mono ?_;rintro e w' ⟨rfl,rfl⟩)
  |(go_at_call 226;refine(MJ 0 0 _ _ om om om om om om _).mono ?_;rintro e w1 ⟨rfl,d1,d2,d3,d4,rfl⟩)
  |(go_at_call 202;refine(yH _ _ _).mono ?_;rintro e w2 ⟨rfl,f1,f2,rfl⟩)
  |go_in)
 go_returns;exact⟨rfl,⟨by go_grown,by go_grown⟩⟩
theorem zn(h:aP f p mx one inf sg nan)(v z:Int)(v0:0<=v)(v1:v<2*sg)(hz:v<sg/\z=v+sg\/sg<=v/\z=v-sg)(w:World):
  QW 109 #[Y Z f,J v] w (J z):=by
 have hb:=h.bounds;have HS:KW 118 #[Y Z f] (J sg):=fun w=>iV h w;have hc:(v<sg/\IntKind.u64.wrap (v+sg)=z)\/(sg<=v/\IntKind.u64.wrap (v-sg)=z):=by
  rcases hz with⟨a,rfl⟩|⟨a,rfl⟩
  ·exact .inl ⟨a,by rw[IntKind.wrap_u64];omega⟩
  ·exact .inr ⟨a,by rw[IntKind.wrap_u64];omega⟩
 clear h hz hb;rcases hc with⟨c,u1⟩|⟨c,u1⟩
 all_goals
  go_enter func109,ntmps109;go_wp2_with (go_at_call 118;refine kw (HS _) ?_);go_returns;exact⟨bJ (by first|rfl|(simp;omega)|(rw[u1])),rfl⟩
def dW(k:Nat):Nat:=1152921504606846976/2^k
def dS(c:Nat->Nat->Nat)(N:Nat):Nat->Nat × Nat
 |0=>(0,N)
 |k+1=>if c (dS c N k).1 (dW k)<=(dS c N k).2 then((dS c N k).1 |||dW k,((dS c N k).2 -c (dS c N k).1 (dW k))*2%18446744073709551616)else((dS c N k).1,(dS c N k).2 *2%18446744073709551616)
def dD(c:Nat->Nat->Nat)(N k:Nat):Nat:=if c (dS c N k).1 (dW k)<=(dS c N k).2 then 1 else 0
def dR(c:Nat->Nat->Nat)(N k:Nat):Nat:=if c (dS c N k).1 (dW k)<=(dS c N k).2 then(dS c N k).2 -c (dS c N k).1 (dW k)else(dS c N k).2
def dC(c:Nat->Nat->Nat)(N:Nat):Nat->Nat
 |0=>0
 |k+1=>dC c N k*2%18446744073709551616|||dD c N k
theorem NU(c:Nat->Nat->Nat)(N k:Nat):dD c N k<=1:=by unfold dD;split<;>omega
theorem Z7(c:Nat->Nat->Nat)(N k:Nat):(dS c N (k+1)).2 =dR c N k*2%18446744073709551616:=by
 unfold dR;rw[dS];split<;>rfl
theorem or_bit(a d:Nat)(h:d<=1):a*2%18446744073709551616|||d=(a*2+d)%18446744073709551616:=by
 have e:a*2%18446744073709551616=2^1*(a%9223372036854775808):=om;rw[e,<-Nat.two_pow_add_eq_or_of_lt (show d<2^1 by omega)];omega
theorem P9(N D k:Nat)(hN:N<2*D)(hD:D<=4611686018427387904):
  dR (fun _ _=>D) N k=N*2^k%D/\dC (fun _ _=>D) N (k+1)=N*2^k/D%18446744073709551616:=by
 have hD0:0<D:=om;induction k with
 |zero=>
  have e1:(dS (fun _ _=>D) N 0).2 =N:=rfl;rw[Nat.pow_zero,Nat.mul_one];simp only[dC,dR,dD,e1,Nat.zero_mul,Nat.zero_mod,Nat.zero_or];by_cases h:D<=N
  ·rw[if_pos h,if_pos h];have h1:N/D=1:=by rw[Nat.div_eq_iff hD0];omega
   have h2:=Nat.div_add_mod N D;rw[h1,Nat.mul_one]at h2;exact⟨om,by rw[h1]⟩
  ·rw[if_neg h,if_neg h];exact⟨(Nat.mod_eq_of_lt om).symm,by rw[Nat.div_eq_of_lt (by omega)]⟩
 |succ k ih=>
  obtain⟨i1,i2⟩:=ih;have hr:N*2^k%D<D:=Nat.mod_lt _ hD0;have e1:(dS (fun _ _=>D) N (k+1)).2 =N*2^k%D*2:=by rw[Z7,i1,Nat.mod_eq_of_lt (by omega)]
  have hda:=Nat.div_add_mod (N*2^k) D;obtain⟨q,hq⟩:∃q,q=N*2^k/D:=⟨_,rfl⟩;obtain⟨r,hrr⟩:∃r,r=N*2^k%D:=⟨_,rfl⟩;rw[<-hq,<-hrr]at hda;rw[<-hrr]at e1 hr;rw[<-hq]at i2;have hpw:N*2^(k+1)=D*(2*q)+2*r:=by
   rw[Nat.pow_succ,<-Nat.mul_assoc,<-hda,Nat.add_mul,Nat.mul_assoc,Nat.mul_comm q 2,Nat.mul_comm r 2]
  rw[dC,or_bit _ _ (NU _ _ _),i2];simp only[dR,dD,e1];by_cases h:D<=r*2
  ·rw[if_pos h,if_pos h];have e3:N*2^(k+1)=D*(2*q+1)+(2*r-D):=by rw[hpw,Nat.mul_add,Nat.mul_one];omega
   have e4:N*2^(k+1)/D=2*q+1:=by rw[e3,Nat.mul_add_div hD0,Nat.div_eq_of_lt (by omega)]
   have e5:N*2^(k+1)%D=2*r-D:=by rw[e3,Nat.mul_add_mod,Nat.mod_eq_of_lt (by omega)]
   rw[e4,e5];exact⟨om,om⟩
  ·rw[if_neg h,if_neg h];have e4:N*2^(k+1)/D=2*q:=by rw[hpw,Nat.mul_add_div hD0,Nat.div_eq_of_lt om,Nat.add_zero]
   have e5:N*2^(k+1)%D=2*r:=by rw[hpw,Nat.mul_add_mod,Nat.mod_eq_of_lt (by omega)]
   rw[e4,e5];exact⟨om,om⟩
def bH(b w:Nat):Nat:=(2*b%18446744073709551616+w)%18446744073709551616
theorem vF(k:Nat)(h:k<=60):dW k=2^(60-k):=by
 unfold dW;rw[show 1152921504606846976=2^60 by decide,Nat.pow_div h (by decide)]
theorem Ak(t w:Nat)(i:Nat)(h:w=2^i):(2*w*t)|||w=2*w*t+w:=by
 subst h;rw[show 2*2^i=2^(i+1) by rw[Nat.pow_succ,Nat.mul_comm],Nat.two_pow_add_eq_or_of_lt (Nat.pow_lt_pow_right de om)]
def aAA(N k t b l C w:Nat):Prop:=b=2*w*t/\C=t/\b+2*w<=2305843009213693952/\N*1152921504606846976=b*b+l*w/\l<4*b+4*w
theorem LY(N:Nat)(h1:N<4611686018427387904):aAA N 0 0 0 N 0 1152921504606846976:=by
 refine⟨om,rfl,om,om,om⟩
theorem aCb:dW 0=1152921504606846976:=by unfold dW;rw[Nat.pow_zero,Nat.div_one]
theorem SX(N k:Nat)(h1:N<4611686018427387904)(hk:k<=60):
  ∃t,aAA N k t (dS bH N k).1 (dS bH N k).2 (dC bH N k) (dW k):=by
 induction k with
 |zero=>exact⟨0,by rw[aCb,dS,dC];exact LY N h1⟩
 |succ k ih=>
  obtain⟨t,i1,i2,i3,i4,i5⟩:=ih om;have hw:dW k=2*dW (k+1):=by rw[vF k om,vF (k+1) hk,show 60-k=60-(k+1)+1 by omega,Nat.pow_succ,Nat.mul_comm]
  have hw0:0<dW (k+1):=by rw[vF (k+1) hk];exact Nat.pow_pos de
  have hor:=Ak t (dW k) (60-k) (vF k om);obtain⟨b,hb⟩:∃b,b=(dS bH N k).1 :=⟨_,rfl⟩;obtain⟨l,hl⟩:∃l,l=(dS bH N k).2 :=⟨_,rfl⟩;obtain⟨v,hv⟩:∃v,v=dW (k+1):=⟨_,rfl⟩;rw[<-hv]at hw hw0;rw[hw]at i1 i3 i4 i5 hor;rw[<-hb]at i1 i3 i4 i5;rw[<-hl]at i4 i5;rw[<-i1]at hor;have hc:bH b (2*v)=2*b+2*v:=by unfold bH;omega
  have htv:dC bH N k*2%18446744073709551616=dC bH N k*2:=by
   refine Nat.mod_eq_of_lt ?_;rw[i2];have hm:1*(4*t)<=v*(4*t):=Nat.mul_le_mul_right _ hw0;have:b=v*(4*t):=by rw[i1,<-Nat.mul_assoc 2 2 v,Nat.mul_comm (2*2) v,Nat.mul_assoc v]
   omega
  by_cases h:2*b+2*v<=l
  ·have hd:dD bH N k=1:=by unfold dD;rw[hw,<-hb,<-hl,hc,if_pos h]
   have hS:dS bH N (k+1)=(b+2*v,(l-(2*b+2*v))*2):=by
    rw[dS,hw,<-hb,<-hl,hc,if_pos h,hor,Nat.mod_eq_of_lt (by omega)]
   refine⟨2*t+1,?_,?_,?_,?_,?_⟩
   ·rw[hS,<-hv];dsimp only
    rw[i1,Nat.mul_add,Nat.mul_one];have:2*(2*v)*t=2*v*(2*t):=by simp[Nat.mul_comm,Nat.mul_left_comm,Nat.mul_assoc]
    omega
   ·rw[dC,or_bit _ _ (NU _ _ _),hd,i2,Nat.mod_eq_of_lt (by rw[i2]at htv;omega)];omega
   ·rw[hS,<-hv];dsimp only;omega
   ·rw[hS,<-hv];dsimp only
    rw[i4];obtain⟨m,hm⟩:∃m,l=2*b+2*v+m:=⟨l-(2*b+2*v),om⟩;rw[hm,show 2*b+2*v+m-(2*b+2*v)=m by omega];simp only[Nat.add_mul,Nat.mul_add];have e1:2*b*(2*v)=2*v*b+b*(2*v):=by rw[Nat.mul_comm (2*v) b];rw[Nat.mul_assoc 2 b];omega
    have e2:m*2*v=m*(2*v):=Nat.mul_assoc _ _ _;omega
   ·rw[hS,<-hv];dsimp only;omega
  ·have hd:dD bH N k=0:=by unfold dD;rw[hw,<-hb,<-hl,hc,if_neg h]
   have hS:dS bH N (k+1)=(b,l*2):=by
    rw[dS,hw,<-hb,<-hl,hc,if_neg h,Nat.mod_eq_of_lt (by omega)]
   refine⟨2*t,?_,?_,?_,?_,?_⟩
   ·rw[hS,<-hv];dsimp only
    rw[i1];simp[Nat.mul_comm,Nat.mul_left_comm,Nat.mul_assoc]
   ·rw[dC,or_bit _ _ (NU _ _ _),hd,i2,Nat.add_zero,Nat.mod_eq_of_lt (by rw[i2]at htv;omega)];omega
   ·rw[hS,<-hv];dsimp only;omega
   ·rw[hS,<-hv];dsimp only
    rw[i4,Nat.mul_assoc]
   ·rw[hS,<-hv];dsimp only;omega
theorem LX(N k:Nat)(h1:N<4611686018427387904)(hk:k<60):
  N*1152921504606846976=dC bH N (k+1)*dW k*(dC bH N (k+1)*dW k)+dR bH N k*dW k/\dR bH N k<2*(dC bH N (k+1)*dW k)+dW k/\dC bH N (k+1)<18446744073709551616:=by
 obtain⟨t,i1,i2,i3,i4,i5⟩:=SX N (k+1) h1 om;obtain⟨t0,j1,j2,j3,j4,j5⟩:=SX N k h1 om;have hw:dW k=2*dW (k+1):=by rw[vF k om,vF (k+1) om,show 60-k=60-(k+1)+1 by omega,Nat.pow_succ,Nat.mul_comm]
 have hw0:0<dW (k+1):=by rw[vF (k+1) (by omega)];exact Nat.pow_pos de
 have hle:dR bH N k<=(dS bH N k).2 :=by unfold dR;split<;>omega
 have e1:=Z7 bH N k;rw[Nat.mod_eq_of_lt (by omega)]at e1;have e2:(dS bH N (k+1)).1 =dC bH N (k+1)*dW k:=by rw[i1,i2,hw,Nat.mul_comm]
 rw[e2]at i3 i4 i5;rw[e1]at i4 i5;refine⟨?_,om,?_⟩
 ·rw[i4,Nat.mul_assoc (dR bH N k) 2,<-hw]
 ·have:dC bH N (k+1)*1<=dC bH N (k+1)*dW k:=Nat.mul_le_mul_left _ om;omega
def nv(M:Nat)(e:Int):Nat:=M*2^(e+6000).toNat
theorem zk(m k:Nat)(e0:Int)(h:0<=e0-k+6000):nv (m*2^k) (e0-k)=nv m e0:=by
 unfold nv;rw[show(e0+6000).toNat =k+(e0-k+6000).toNat by omega,Nat.pow_add,Nat.mul_assoc]
theorem YW(M:Nat)(e q:Int)(he:0<=e+6000)(hq:0<=q+6000):nv (aW M e q) q<=nv M e/\nv M e<nv (aW M e q+1) q:=by
 unfold nv aW;split
 ·rename_i c
  have h1:M*2^(e-q).toNat *2^(q+6000).toNat =M*2^(e+6000).toNat :=by
   rw[Nat.mul_assoc,<-Nat.pow_add,show(e-q).toNat +(q+6000).toNat =(e+6000).toNat by omega]
  have h2:0<2^(q+6000).toNat :=Nat.pow_pos de;rw[Nat.add_mul,h1];omega
 ·rename_i c
  have h1:2^(q+6000).toNat =2^(q-e).toNat *2^(e+6000).toNat :=by
   rw[<-Nat.pow_add,show(q-e).toNat +(e+6000).toNat =(q+6000).toNat by omega]
  have hP:0<2^(q-e).toNat :=Nat.pow_pos de;have hE:0<2^(e+6000).toNat :=Nat.pow_pos de;rw[h1,<-Nat.mul_assoc,<-Nat.mul_assoc];have a1:M/2^(q-e).toNat *2^(q-e).toNat <=M:=Nat.div_mul_le_self _ _;have a2:M<(M/2^(q-e).toNat +1)*2^(q-e).toNat :=by
   have:=Nat.lt_div_mul_add (a:=M) hP;rw[Nat.add_mul];omega
  exact⟨Nat.mul_le_mul_right _ a1,Nat.mul_lt_mul_of_pos_right a2 hE⟩
theorem aAS(s:Int)(lo half:Nat):up 2 s lo half=false:=by
 unfold up;exact decide_eq_false om
theorem aO.aHG(h:aO p (1-mx) mx one inf 2 s M e false z fl)(P:Nat)(hp:p=P+1)(ho:one=((2^P:Nat):Int))(hf:fl≠20):
  ∃E:Int,(1-mx<=E/\E<=mx\/E=1-mx)/\nb M+e-1<=E/\z=(aW M e (E-p+1):Int)+one*(E-(1-mx))/\(aW M e (E-p+1):Int)<2*one/\(E=1-mx\/0<M->one<=(aW M e (E-p+1):Int)\/E=1-mx)/\z<inf:=by
 obtain⟨top,E,r,r2,hf',h1,h2,h3,h4,h5,hc⟩:=h;have hr:r=aW M e (E-p+1):=by rw[h4];unfold chosen;rw[aAS];simp
 have hlt:=iH M e (E-p+1) (P+1) om;rw[Nat.pow_succ]at hlt;rcases hc with⟨_,_,c⟩|⟨_,_,_,c⟩|⟨c1,c2,c3,_⟩
 ·exact absurd c hf
 ·exact absurd c hf
 ·refine⟨E,om,om,by rw[<-hr];exact c3,om,fun hM=>?_,om⟩;rcases h2 with⟨a,b⟩|⟨a,b⟩
  ·exact .inr b
  ·rcases hM with hM|hM
   ·exact .inr hM
   ·left;have:=rP M e (E-p+1) P hM om;omega
theorem aAH(l:Nat)(P:Nat)(hp:p=P+1)(ho:one=((2^P:Nat):Int))(hE:1-mx<=E)(hl:(l:Int)<=2*one)(hb:E=1-mx\/one<=(l:Int))(hv:v=(l:Int)+one*(E-(1-mx)))
  (hq:0<=E-p+1+6000) (hm:v<one/\m=v/\e0=2-mx-p\/one<=v/\m=v%one+one/\e0=1-mx-p+v/one):0<=m/\nv m.toNat e0=nv l (E-p+1):=by
 have o0:0<one:=by rw[ho];exact Int.natCast_pos.mpr (Nat.pow_pos de)
 by_cases c:(l:Int)<one
 ·have hE':E=1-mx:=om;rw[hE',Int.sub_self,Int.mul_zero]at hv;rcases hm with⟨a,b,d⟩|⟨a,b,d⟩
  ·rw[b,hv,d];refine⟨om,?_⟩;rw[Int.add_zero,Int.toNat_natCast,show 2-mx-p=E-p+1 by omega]
  ·exfalso;omega
 ·obtain⟨k,hk⟩:∃k:Nat,E-(1-mx)=k:=⟨(E-(1-mx)).toNat,om⟩;rw[hk]at hv;have hk0:0<=one*(k:Int):=Int.mul_nonneg om om;rcases hm with⟨a,b,d⟩|⟨a,b,d⟩
  ·exfalso;omega
  ·by_cases c2:(l:Int)=2*one
   ·have hv2:v=0+one*((k:Int)+2):=by rw[hv,c2,Int.mul_add];omega
    have hm1:v%one=0:=by rw[hv2,Int.add_mul_emod_self_left];rfl
    have hd1:v/one=(k:Int)+2:=by rw[hv2,Int.add_mul_ediv_left _ _ (by omega)];simp
    rw[b,d,hm1,hd1];refine⟨om,?_⟩;have h3:l=(0+one).toNat *2^1:=om;rw[h3,show E-p+1=(1-mx-p+((k:Int)+2))-((1:Nat):Int) by omega,zk _ _ _ (by omega)]
   ·have hv2:v=((l:Int)-one)+one*((k:Int)+1):=by rw[hv,Int.mul_add];omega
    have hm1:v%one=(l:Int)-one:=by rw[hv2,Int.add_mul_emod_self_left];exact Int.emod_eq_of_lt om om
    have hd1:v/one=(k:Int)+1:=by rw[hv2,Int.add_mul_ediv_left _ _ om,Int.ediv_eq_zero_of_lt om (by omega)];omega
    rw[b,d,hm1,hd1];refine⟨om,?_⟩;rw[show((l:Int)-one+one).toNat =l by omega,show 1-mx-p+((k:Int)+1)=E-p+1 by omega]
theorem aGi(A B k d s:Nat)(hB:0<B)(hs:s<=1):
  (2*(A*2^k/B)+s)/2^(d+1)*(B*2^d)<=A*2^k/\A*2^k<((2*(A*2^k/B)+s)/2^(d+1)+1)*(B*2^d):=by
 have h1:(2*(A*2^k/B)+s)/2^(d+1)=A*2^k/(B*2^d):=by
  rw[Nat.pow_succ,Nat.mul_comm (2^d) 2,<-Nat.div_div_eq_div_mul,show(2*(A*2^k/B)+s)/2=A*2^k/B by omega,Nat.div_div_eq_div_mul]
 rw[h1];have hP:0<B*2^d:=Nat.mul_pos hB (Nat.pow_pos de);refine⟨Nat.div_mul_le_self _ _,?_⟩;have:=Nat.lt_div_mul_add (a:=A*2^k) hP;rw[Nat.add_mul];omega
theorem aFP(N R d s:Nat)(h1:R*R<=N)(h2:N<(R+1)*(R+1))(hs:s<=1):
  ((2*R+s)/2^(d+1)*2^d)*((2*R+s)/2^(d+1)*2^d)<=N/\N<(((2*R+s)/2^(d+1)+1)*2^d)*(((2*R+s)/2^(d+1)+1)*2^d):=by
 have e1:(2*R+s)/2^(d+1)=R/2^d:=by
  rw[Nat.pow_succ,Nat.mul_comm (2^d) 2,<-Nat.div_div_eq_div_mul,show(2*R+s)/2=R by omega]
 rw[e1];have hP:0<2^d:=Nat.pow_pos de;have a1:R/2^d*2^d<=R:=Nat.div_mul_le_self _ _;have a2:R+1<=(R/2^d+1)*2^d:=by
  have:=Nat.lt_div_mul_add (a:=R) hP;rw[Nat.add_mul];omega
 exact⟨Nat.le_trans (Nat.mul_le_mul a1 a1) h1,Nat.lt_of_lt_of_le h2 (Nat.mul_le_mul a2 a2)⟩
theorem Ib(M:Nat)(e q:Int)(hM:0<M)(h0:aW M e q=0):0<aJ M e q false:=by
 unfold aW at h0;unfold aJ;split at h0
 ·exfalso;have:=Nat.mul_pos hM (Nat.pow_pos (n:=(e-q).toNat) (show 0<2 by decide));omega
 ·rename_i c
  rw[if_neg c];unfold hr;have hP:0<2^(q-e).toNat :=Nat.pow_pos de;have hlt:M<2^(q-e).toNat :=by
   rcases Nat.lt_or_ge M (2^(q-e).toNat)with c|c
   ·exact c
   ·have:=Nat.div_pos c hP;omega
  obtain⟨d,hd⟩:∃d,(q-e).toNat =d+1:=⟨(q-e).toNat -1,om⟩;rw[hd,Nat.pow_succ]at hlt;rw[hd,Nat.add_sub_cancel];by_cases c1:M%2^d=0
  ·have h2:M/2^d%2=1:=by
    have h3:=Nat.div_add_mod M (2^d);have h4:M/2^d<2:=by rw[Nat.div_lt_iff_lt_mul (Nat.pow_pos de)];omega
    have h5:M/2^d≠0:=fun h=>by rw[h,c1]at h3;omega
    clear h3;generalize M/2^d=t at*
    omega
   rw[if_pos h2];omega
  ·rw[if_pos (show M%2^d≠0\/false=true from .inl c1)];omega
theorem aO.aJB(h:aO p mn mx one inf 3 0 M e false z fl)(hM:0<M)(hi:0<inf)(ho:0<=one):0<z/\z<=inf:=by
 obtain⟨top,E,r,r2,hf',h1,h2,h3,h4,h5,hc⟩:=h;have hov:gu inf 3 0=inf:=by unfold gu;rw[if_pos (by omega)]
 rcases hc with⟨_,c,_⟩|⟨_,_,c,_⟩|⟨c1,c2,c3,_⟩
 ·rw[c,hov];omega
 ·rw[c,hov];omega
 ·have hr:0<r:=by
   rw[h4];unfold chosen;by_cases c0:aW M e (E-p+1)=0
   ·have:=Ib M e (E-p+1) hM c0;rw[if_pos (by unfold up;exact decide_eq_true om)];omega
   ·omega
  have:0<=one*(E-mn):=Int.mul_nonneg ho om;omega
