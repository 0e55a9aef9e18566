import Derived.Test.YthoelefkjpjhfaaGreatDoorG2
import Derived.Test.YthoelefkjpjhfaaGreatDoorG8
import Derived.Test.YthoelefkjpjhfaaGreatDoorRows
import Derived.LoopN
set_option linter.all false
set_option maxHeartbeats 40000000
open Bool renaming false → O
open Go.Proofs.YthoelefkjpjhfaaGreatDoor renaming vI → J, vU → Y
open Go.Ending renaming returned → Z
open Go.Proofs.Tryz
namespace Go.Proofs.YthoelefkjpjhfaaGreatDoor
open Go.RowKit
attribute [local go_sem] aB
variable {p mx one aN sg nan mn fb sp f a a' b b' c s x g v E m e0:Int}{W w w1:ak}
def yP(h:bI f p mx one aN sg nan)(s v z:Int)(hs:s=0/\z=v\/s=1/\z=v+sg)(v0:0<=v)(v1:v<sg)(w:ak):
  QW 118 #[J f,J s,Y v] w (Y z):=by
 rcases hs with⟨rfl,rfl⟩|⟨rfl,rfl⟩
 .exact aBj f _ w
 .exact aEM h v v0 v1 w
def n_(m:Int)(b:Bool)(hb:b=decide (0<=m/\m<=4))(w:ak):
  QW 135 #[J m] w (.bool b):=by
 rcases(show(m<0/\b=O)\/(0<=m/\m<=4/\b=true)\/(4<m/\b=O) by
  cases b
  .have:=of_decide_eq_false hb.symm;simp only[and_true,Bool.false_eq_true,and_false,false_or];omega
  .have:=of_decide_eq_true hb.symm;simp only[and_true,Bool.true_eq_false,and_false,false_or,or_false];omega)with⟨c,rfl⟩|⟨c,d,rfl⟩|⟨c,rfl⟩
 all_goals
  clear hb;go_enter func135,ntmps135;go_wp2;go_returns;first|exact⟨rfl,rfl⟩|exact⟨b_ (lu Value.bool (gV om)),rfl⟩|exact⟨b_ (lu Value.bool (h_ om)),rfl⟩
def aBk(h:bI f p mx one aN sg nan)(aj aP z:Int)(m0:0<=aj)(m1:aj<=4)(hs:aP=0/\z=kN aN aj aP\/aP=1/\z=kN aN aj aP+sg)(w:ak):
  QR 222 #[J f,J aj,J aP] w (aU z 20):=by
 obtain⟨b1,b2,b3,b4,b5,b6,b7,b8,b9,b10,b11,b12⟩:=h.bounds;have HI:KW 148 #[J f] (Y aN):=λw=>og h w;have HP:Hid (∀v w,v=aN\/v=aN-1->v=kN aN aj aP->QW 118 #[J f,J aP,Y v] w (Y z)):=λv w hv hz=>yP h aP v z (by rw[hz];exact hs) om om w;have Td:(aj=0/\kN aN aj aP=aN)\/(aj=1/\kN aN aj aP=aN)\/(aj=2/\kN aN aj aP=aN-1)\/(aj=3/\aP=0/\kN aN aj aP=aN)\/(aj=3/\aP=1/\kN aN aj aP=aN-1)\/(aj=4/\aP=0/\kN aN aj aP=aN-1)\/(aj=4/\aP=1/\kN aN aj aP=aN):=by
  have YA:aP=0\/aP=1:=om;unfold kN;rcases(om:aj=0\/aj=1\/aj=2\/aj=3\/aj=4)with rfl|rfl|rfl|rfl|rfl<;>rcases YA with rfl|rfl<;>simp
 clear hs h;rcases Td with⟨rfl,e⟩|⟨rfl,e⟩|⟨rfl,e⟩|⟨rfl,rfl,e⟩|⟨rfl,rfl,e⟩|⟨rfl,rfl,e⟩|⟨rfl,rfl,e⟩
 all_goals
  have HE:Hid _:=e.symm;clear e;go_enter func222,ntmps222;go_wp2_with (first|(go_at_call 148;refine kw (HI _) ?_)|(go_at_call 118;refine kw (HP _ _ om HE.out) ?_))
  go_returns;exact⟨rfl,kr⟩
set_option maxRecDepth 1000000
def zo(p mn mx fb sp one aN sg nan:Int):Prop:=
 (p=24/\mn=-126/\mx=127/\fb=23/\sp=31/\one=8388608/\aN=2139095040/\sg=2147483648/\nan=2143289344)\/
 (p=53/\mn=-1022/\mx=1023/\fb=52/\sp=63/\one=4503599627370496/\aN=9218868437227405312/\sg=9223372036854775808/\nan=9221120237041090560)
def CY(n:Int)(h0:-9223372036854775808<=n)(h1:n<9223372036854775808):IntKind.i64.wrap n=n:=by rw[dI];omega
def wu64(n:Int)(h0:0<=n)(h1:aI n):IntKind.u64.wrap n=n:=by rw[iT];omega
def aIX(x:Int)(h0:0<=x)(h1:aI x)(w:ak):
  CT 293 #[Y x] w λe w'=>e=Z (J (Go.Lib.bitLen x.toNat:Int))/\w'=w:=by
 go_enter func293,ntmps293;go_wp2_with (go_at_call 321;refine(BU x h0 h1 _).mono ?_;rintro e w' ⟨rfl,rfl⟩);go_ret;exact⟨rfl,rfl⟩
def KI(x z:Int)(h0:0<=x)(h1:aI x)(hz:(Go.Lib.bitLen x.toNat:Int)=z)(w:ak):
  CT 293 #[Y x] w λe w'=>e=Z (J z)/\w'=w:=hz▸aIX x h0 h1 w
def xZ(h:zo p mn mx fb sp one aN sg nan)(w:ak):
  QR 182 #[lT p mn mx] w (J fb):=by
 rcases h with⟨rfl,rfl,rfl,rfl,rfl,rfl,rfl,rfl,rfl⟩|⟨rfl,rfl,rfl,rfl,rfl,rfl,rfl,rfl,rfl⟩
 all_goals
  go_enter func182,ntmps182;go_wp2;go_returns;exact⟨rfl,kr⟩
def aAq(h:zo p mn mx fb sp one aN sg nan)(w:ak):
  QR 236 #[lT p mn mx] w (J sp):=by
 have HF:=λw=>xZ h w;have HL:∃l:Int,(∀w,CT 293 #[Y mx] w λe w'=>e=Z (J l)/\w'=w)/\fb+l+1=sp:=by
  rcases h with⟨rfl,rfl,rfl,rfl,rfl,rfl,rfl,rfl,rfl⟩|⟨rfl,rfl,rfl,rfl,rfl,rfl,rfl,rfl,rfl⟩
  .exact⟨7,λw=>KI 127 7 om om (by decide+kernel) w,rfl⟩
  .exact⟨10,λw=>KI 1023 10 om om (by decide+kernel) w,rfl⟩
 have hb:0<=mx/\mx<=1023/\0<=fb/\fb<=52/\0<=sp/\sp<=63:=by rcases h with h|h<;>omega
 obtain⟨l,HL,hl⟩:=HL;have HFF:Hid _:=HF;have HLL:Hid _:=HL;clear HF HL h;obtain rfl:sp=fb+l+1:=hl.symm;clear hl;have u1:IntKind.u64.wrap mx=mx:=by rw[iT];omega
 have u2:IntKind.i64.wrap (fb+l)=fb+l:=CY _ om om;have u3:IntKind.i64.wrap (fb+l+1)=fb+l+1:=CY _ om om;go_enter func236,ntmps236;go_wp2;go_region_held3 (λw'=>jU w' w.heap.size 0 1 2 (J p) (J mn) (J mx))((go_split_ands;(repeat' apply And.intro)<;>exact kl))(first|(go_at_call 182;refine(HFF _).mono ?_;rintro e w3 ⟨rfl,aO⟩;have DJ:=aO.cells;have DF:=aO.eY;have oO:=aO.size;(try simp only[dV,jg,jW]at oO))|(go_at_call 293;refine(HLL _).mono ?_;rintro e w4 ⟨rfl,hw⟩;rw[hw];clear hw))
 all_goals go_wp2<;>go_returns
 all_goals exact⟨rfl,kr⟩
def zo.cases(h:zo p mn mx fb sp one aN sg nan):sp=31\/sp=63:=by rcases h with h|h<;>omega
def oK(h:zo p mn mx fb sp one aN sg nan)(s z:Int)(hs:s=0/\z=0\/s=1/\z=sg)(w:ak):
  QR 239 #[lT p mn mx,J s] w (Y z):=by
 have HF:KR 236 #[lT p mn mx] (J sp):=λw=>aAq h w;rcases h with⟨rfl,rfl,rfl,rfl,rfl,rfl,rfl,rfl,rfl⟩|⟨rfl,rfl,rfl,rfl,rfl,rfl,rfl,rfl,rfl⟩<;>rcases hs with⟨rfl,rfl⟩|⟨rfl,rfl⟩
 all_goals
  go_enter func239,ntmps239;go_wp2_with (go_at_call 236;refine(HF _).mono ?_;rintro e w3 ⟨rfl,aO⟩);go_returns;exact⟨rfl,kr⟩
def fits_any(h:zo p mn mx fb sp one aN sg nan)(W:Int)(h0:0<=W)(h1:aI W)(w:ak):
  QR 169 #[lT p mn mx,Y W] w (.bool (decide (W<2*sg))):=by
 have HF:KR 236 #[lT p mn mx] (J sp):=λw=>aAq h w;rcases h with⟨rfl,rfl,rfl,rfl,rfl,rfl,rfl,rfl,rfl⟩|⟨rfl,rfl,rfl,rfl,rfl,rfl,rfl,rfl,rfl⟩
 all_goals
  go_enter func169,ntmps169;go_wp2_with (go_at_call 236;refine(HF _).mono ?_;rintro e w3 ⟨rfl,aO⟩);go_returns;refine⟨b_ (lu Value.bool ?_),kr⟩;first|rfl|(refine decide_eq_decide.mpr ?_;omega)|(rw[h_ om,h_ (by omega)])|(symm;refine h_ ?_;omega)
def aAr(h:zo p mn mx fb sp one aN sg nan)(W:Int)(h0:0<=W)(h1:W<2*sg)(w:ak):
  QR 298 #[lT p mn mx,Y W] w (J (W/sg)):=by
 have HF:KR 236 #[lT p mn mx] (J sp):=λw=>aAq h w;rcases h with⟨rfl,rfl,rfl,rfl,rfl,rfl,rfl,rfl,rfl⟩|⟨rfl,rfl,rfl,rfl,rfl,rfl,rfl,rfl,rfl⟩
 all_goals
  go_enter func298,ntmps298;go_wp2_with (go_at_call 236;refine(HF _).mono ?_;rintro e w3 ⟨rfl,aO⟩);go_returns;exact⟨b_ (lu (Value.int IntKind.i64) (by first|rfl|omega)),kr⟩
def aJb(W:Int)(h0:0<=W)(h1:aI W):bits .andNot .u64 W 9223372036854775808=W%9223372036854775808:=by
 obtain⟨A,rfl⟩:=lq h0;have e:=u64_andNot_nat A 9223372036854775808 om om;rw[show((9223372036854775808:Nat):Int)=9223372036854775808 from rfl]at e;rw[e,show 18446744073709551615-9223372036854775808=2^63-1 from rfl,Nat.and_two_pow_sub_one_eq_mod];omega
def aJc(W:Int)(h0:0<=W)(h1:W<4294967296):bits .andNot .u64 W 2147483648=W%2147483648:=by
 obtain⟨A,rfl⟩:=lq h0;have e:=u64_andNot_nat A 2147483648 om om;rw[show((2147483648:Nat):Int)=2147483648 from rfl]at e;have e1:A&&&(2^32-1)=A:=by rw[Nat.and_two_pow_sub_one_eq_mod];omega
 have e2:A&&&(18446744073709551615-2147483648)=A%2^31:=by
  rw[<-e1,Nat.and_assoc,show(2^32-1)&&&(18446744073709551615-2147483648)=2^31-1 from by decide,Nat.and_two_pow_sub_one_eq_mod,e1]
 rw[e,e2];omega
def Dw(h:zo p mn mx fb sp one aN sg nan)(W:Int)(h0:0<=W)(h1:W<2*sg)(w:ak):
  QR 272 #[lT p mn mx,Y W] w (Y (W%sg)):=by
 have HF:Qk p mn mx 1 sg:=λw=>oK h 1 sg (.inr ⟨rfl,rfl⟩) w;rcases h with⟨rfl,rfl,rfl,rfl,rfl,rfl,rfl,rfl,rfl⟩|⟨rfl,rfl,rfl,rfl,rfl,rfl,rfl,rfl,rfl⟩
 all_goals
  go_enter func272,ntmps272;go_wp2_with (go_at_call 239;refine(HF _).mono ?_;rintro e w3 ⟨rfl,aO⟩);go_returns;refine⟨b_ (lu (Value.int IntKind.u64) ?_),kr⟩;first|exact aJc W h0 om|exact aJb W h0 om
def ou(h:zo p mn mx fb sp one aN sg nan)(s z:Int)(hs:s=0/\z=aN\/s=1/\z=sg+aN)(w:ak):
  QR 240 #[lT p mn mx,J s] w (Y z):=by
 have HF:Gx p mn mx fb:=λw=>xZ h w;have HZ:∃y:Int,Qk p mn mx s y/\((s=0/\y=0)\/(s=1/\y=sg)):=by
  rcases hs with⟨rfl,rfl⟩|⟨rfl,rfl⟩
  .exact⟨0,λw=>oK h 0 0 (.inl ⟨rfl,rfl⟩) w,.inl ⟨rfl,rfl⟩⟩
  .exact⟨sg,λw=>oK h 1 sg (.inr ⟨rfl,rfl⟩) w,.inr ⟨rfl,rfl⟩⟩
 obtain⟨y,HZ,hy⟩:=HZ;obtain⟨m2,m3,m4,LY,hm3,hm4,hor,hb⟩:∃m2 m3 m4:Int,IntKind.i64.wrap (2*mx)=m2/\IntKind.i64.wrap (m2+1)=m3/\IntKind.u64.wrap (m3*2^fb.toNat)=m4/\bits .or .u64 y m4=z/\0<=m3/\m3<=3000/\0<=fb/\fb<=52:=by
  rcases h with⟨rfl,rfl,rfl,rfl,rfl,rfl,rfl,rfl,rfl⟩|⟨rfl,rfl,rfl,rfl,rfl,rfl,rfl,rfl,rfl⟩<;>rcases hs with⟨rfl,rfl⟩|⟨h1,rfl⟩<;>rcases hy with⟨hy1,rfl⟩|⟨hy1,rfl⟩<;>first|(exfalso;omega)|exact⟨_,_,_,rfl,rfl,rfl,by decide+kernel,de,de,de,de⟩
 have hm5:IntKind.u64.wrap m3=m3:=wu64 _ om om;have Ru:¬fb<0:=om;have HM4:Hid _:=hm4;clear h hs hy;go_enter func240,ntmps240;go_wp2;go_region_held3 (λw'=>jU w' w.heap.size 0 1 2 (J p) (J mn) (J mx))((go_split_ands;(repeat' apply And.intro)<;>exact kl))(first|(go_at_call 182;refine(HF _).mono ?_;rintro e w3 ⟨rfl,aO⟩;have DJ:=aO.cells;have DF:=aO.eY;have oO:=aO.size;(try simp only[dV,jg,jW]at oO))|(go_at_call 239;refine(HZ _).mono ?_;rintro e w4 ⟨rfl,bg⟩;have Px:=bg.cells;have Po:=bg.eY;have vZ:=bg.size;(try simp only[dV,jg,jW]at vZ)))
 all_goals go_wp2<;>go_returns
 all_goals exact⟨rfl,kr⟩
def aM3{P:Prop}(h:P:=by
 have S:=bM.scale (p:=p) (mn:=mn) (mx:=mx) (one:=one) (aN:=aN) (aj:=md) (aP:=x.s) (M:=a-b) (e:=min x.e y.e) (z:=z) (fl:=fl) k om;rw[zB,hk]at S;exact S):P:=h
def aBQ(x y:d_):oG y x=((oG x y).2,(oG x y).1):=by
 unfold oG;rw[(om:min y.e x.e=min x.e y.e)]
def aDi(aj:Int)(x y:d_):zI aj x y=zI aj y x:=by
 unfold zI;rw[aBQ x y,(om:min y.e x.e=min x.e y.e)];obtain⟨a,b⟩:=oG x y;dsimp only
 by_cases hs:x.s=y.s
 .rw[aQ hs,aQ hs.symm,hs,Nat.add_comm]
 .have YA:¬y.s=x.s:=λh=>hs h.symm;rw[aH hs,aH YA];by_cases h1:a=b
  .rw[aQ h1,aQ h1.symm]
  .have h1':¬b=a:=λh=>h1 h.symm;rw[aH h1,aH h1'];by_cases h2:b<a
   .rw[aQ h2,aH (om:¬a<b)]
   .rw[aH h2,aQ (om:a<b)]
def Same(o:d_)(c s e:Int)(M:Nat)(st:Bool):Prop:=
 o.c=c/\(c<=2->o.s=s)/\(c=1->0<M/\M<340282366920938463463374607431768211456/\(st=true->55<=nb M)/\-100000<=e/\e<=100000/\
  ∀p mn mx one aN aj z fl,0<=p->p<=53->(bM p mn mx one aN aj s M e st z fl↔bM p mn mx one aN aj s o.M o.e O z fl))
def Same.self(x:d_)(h:x.c=1->0<x.M/\x.M<340282366920938463463374607431768211456/\-100000<=x.e/\x.e<=100000):Same x x.c x.s x.e x.M O:=
 ⟨rfl,λ_=>rfl,λc=>⟨(h c).1,(h c).2.1,(λk=>by cases k),(h c).2.2.1,(h c).2.2.2,λp mn mx one aN aj z fl _ _=>Iff.rfl⟩⟩
def nJ(M:Nat)(h:0<M)(hn:nb M<=106):85070591730234615865843651857942052864<=M*2^(127-nb M)/\M*2^(127-nb M)<170141183460469231731687303715884105728:=by
 have h1:=OB M (127-nb M) h;have h2:nb (M*2^(127-nb M))=127:=om;have h3:=Bc (M*2^(127-nb M));have h4:=X_ (M*2^(127-nb M)) (Nat.mul_pos h (iQ de));rw[h2]at h3 h4;exact⟨by simpa using h4,by simpa using h3⟩
def align(x y:d_)(lx ly:Nat)(ex' ey':Int)(d:Nat)(hx:ex'=x.e-lx)(hy:ey'=y.e-ly)(hd:(d:Int)=ex'-ey'):
  ∃k:Nat,min x.e y.e-k=ey'/\(oG x y).1 *2^k=x.M*2^lx*2^d/\(oG x y).2 *2^k=y.M*2^ly:=by
 refine⟨(min x.e y.e-ey').toNat,om,?_,?_⟩
 .unfold oG;dsimp only
  rw[kX,kX,<-jY,<-jY]
  congr 2;omega
 .unfold oG;dsimp only
  rw[kX,<-jY]
  congr 2;omega
def Y3(A B d:Nat):(A*2^d+B)/2^d=A+B/2^d/\(A*2^d+B)%2^d=B%2^d:=by
 have hp:0<2^d:=iQ de;rw[Nat.add_comm,Nat.add_mul_div_right _ _ hp,Nat.add_mul_mod_self_right,Nat.add_comm];exact⟨rfl,rfl⟩
def Y1(A B d:Nat)(h:B<=A*2^d):
  (B%2^d=0->(A*2^d-B)/2^d=A-B/2^d/\(A*2^d-B)%2^d=0/\B/2^d<=A/\A*2^d-B=(A-B/2^d)*2^d)/\
  (B%2^d≠0->(A*2^d-B)/2^d=A-(B/2^d+1)/\(A*2^d-B)%2^d≠0/\B/2^d+1<=A):=by
 have hp:0<2^d:=iQ de;have hB:=Aj B (2^d);have hr:=oN B hp;generalize B/2^d=Q at*
 generalize B%2^d=R at*
 generalize 2^d=T at*
 have uz:Q<=A:=by
  apply Nat.le_of_mul_le_mul_left _ hp;rw[dM T A];omega
 obtain⟨D,rfl⟩:∃D,A=Q+D:=⟨A-Q,om⟩;have e1:(Q+D)*T=T*Q+D*T:=by rw[Ak,dM Q T]
 constructor
 .intro h0;subst h0;have e2:(Q+D)*T-B=D*T:=om;rw[e2,Nat.mul_div_cancel _ hp,Nat.mul_mod_left];have e3:Q+D-Q=D:=om;rw[e3];exact⟨rfl,rfl,om,rfl⟩
 .intro h0;have hD:0<D:=by
   rcases jL D with c|c
   .subst c;rw[e1]at h;simp at h;omega
   .exact c
  obtain⟨D',rfl⟩:∃D',D=D'+1:=⟨D-1,om⟩;have e4:(D'+1)*T=D'*T+T:=by rw[Ak,Nat.one_mul]
  have e2:(Q+(D'+1))*T-B=(T-R)+D'*T:=om;rw[e2,Nat.add_mul_div_right _ _ hp,Nat.add_mul_mod_self_right,xU om,lQ (by omega)];exact⟨om,om,om⟩
def aEx(M d:Nat)(h:nb M<=106)(hr:M*2^(127-nb M)%2^d≠0):22<=d:=by
 rcases uq d 22 with c|c
 .exfalso;apply hr;have:127-nb M=(127-nb M-d)+d:=om;rw[this,jY,<-kX];exact Nat.mul_mod_left _ _
 .exact c
def aGh(aj:Int)(x y:d_)(A B d:Nat)(ex' ey':Int)(MN:0<x.M)(hxn:nb x.M<=106)(hy0:0<y.M)(hyn:nb y.M<=106)(hA:A=x.M*2^(127-nb x.M))(hB:B=y.M*2^(127-nb y.M))
  (hex:ex'=x.e-(127-nb x.M:Nat)) (hey:ey'=y.e-(127-nb y.M:Nat)) (hd:(d:Int)=ex'-ey') (hge:d=0->B<=A) (xb:-50000<=x.e/\x.e<=50000):
  (x.s=y.s->A+B/2^d<340282366920938463463374607431768211456/\Same (zI aj x y) 1 x.s ex' (A+B/2^d) (decide (B%2^d≠0)))/\
  (x.s≠y.s->B%2^d≠0->B/2^d+1<=A/\0<A-(B/2^d+1)/\Same (zI aj x y) 1 x.s ex' (A-(B/2^d+1)) true)/\
  (x.s≠y.s->B%2^d=0->B/2^d<=A/\(0<A-B/2^d->Same (zI aj x y) 1 x.s ex' (A-B/2^d) O)/\(A-B/2^d=0->zI aj x y=Q9 aj)):=by
 obtain⟨a1,a2⟩:=nJ x.M MN hxn;obtain⟨b1,b2⟩:=nJ y.M hy0 hyn;rw[<-hA]at a1 a2;rw[<-hB]at b1 b2;obtain⟨k,hk,kF,m_⟩:=align x y (127-nb x.M) (127-nb y.M) ex' ey' d hex hey hd;rw[<-hA]at kF;rw[<-hB]at m_;have hBd:B/2^d<=B:=Nat.div_le_self _ _;have kp:0<2^k:=iQ de;have dp:0<2^d:=iQ de;have hnA:nb A=127:=by rw[hA,OB _ _ MN];omega
 obtain⟨a,ha⟩:=dP ((oG x y).1);obtain⟨b,hb⟩:=dP ((oG x y).2);rw[ha]at kF;rw[hb]at m_;have eb:-100000<=ex'/\ex'<=100000:=om;have hed:ey'+d=ex':=om;unfold zI;rw[ha,hb];have V1:=Y3 A B d;have V2:=Y1 A B d;have aTE:B%2^d≠0->22<=d:=λhr=>by rw[hB]at hr;exact aEx y.M d hyn hr
 have aTF:4194304<=2^d->B/2^d<40564819207303340847894502572032:=λaH6=>by
  rw[aEo dp];exact Ie (om:B<40564819207303340847894502572032*4194304) (Fh _ aH6)
 generalize B/2^d=Q at*
 refine⟨λhs=>?_,λhs hr=>?_,λhs hr=>?_⟩
 .rw[aQ hs];refine⟨om,rfl,λ_=>rfl,λ_=>⟨om,om,λ_=>?_,eb.1,eb.2,λp mn mx one aN md z fl p0 p1=>?_⟩⟩
  .have:=zY (N:=A+Q) (k:=126) (by simpa using(om:85070591730234615865843651857942052864<=A+Q));omega
  .obtain⟨t1,t2⟩:=V1;have hn:126<nb (A+Q):=zY (by simpa using(om:85070591730234615865843651857942052864<=A+Q));have T:=bM.trunc (p:=p) (mn:=mn) (mx:=mx) (one:=one) (aN:=aN) (aj:=md) (aP:=x.s) (X:=A*2^d+B) (e:=ey') (z:=z) (fl:=fl) d (by rw[t1];omega) p0 (λ_=>by rw[t1];omega);rw[t1,t2,hed]at T;rw[T];have zB:(a+b)*2^k=A*2^d+B:=by rw[Ak,kF,m_]
   have S:=bM.scale (p:=p) (mn:=mn) (mx:=mx) (one:=one) (aN:=aN) (aj:=md) (aP:=x.s) (M:=a+b) (e:=min x.e y.e) (z:=z) (fl:=fl) k (by
    rcases jL (a+b)with c|c
    .rw[c]at zB;simp at zB;omega
    .exact c)
   rw[zB,hk]at S;exact S
 .rw[aH hs];have aT3:22<=d:=aTE hr;have aH6:(4194304:Nat)<=2^d:=by have:=gZ aT3;simpa using this
  have hq:=aTF aH6;have hBA:B<=A*2^d:=yI (om:B<=A*4194304) (Fh _ aH6);obtain⟨t1,t2,t3⟩:=(V2 hBA).2 hr;have fJ:b*2^k<a*2^k:=by
   rw[kF,m_];exact Ie (om:B<A*4194304) (Fh _ aH6)
  have hba:b<a:=Nat.lt_of_mul_lt_mul_right fJ;rw[aH om,aQ hba];have hn:125<nb (A-(Q+1)):=zY (by simpa using(om:42535295865117307932921825928971026432<=A-(Q+1)));refine⟨t3,om,rfl,λ_=>rfl,λ_=>⟨om,om,λ_=>om,eb.1,eb.2,λp mn mx one aN md z fl p0 p1=>?_⟩⟩;have T:=bM.trunc (p:=p) (mn:=mn) (mx:=mx) (one:=one) (aN:=aN) (aj:=md) (aP:=x.s) (X:=A*2^d-B) (e:=ey') (z:=z) (fl:=fl) d (by rw[t1];omega) p0 (λ_=>by rw[t1];omega);rw[t1,hed,h_ t2]at T;rw[T];have zB:(a-b)*2^k=A*2^d-B:=by rw[Nat.sub_mul,kF,m_]
  exact aM3
 .rw[aH hs];have hBA:B<=A*2^d:=by
   rcases jL d with c|c
   .subst c;have:=hge rfl;omega
   .have h2:2<=2^d:=by have:=gZ c;simpa using this
    exact yI (om:B<=A*2) (Fh _ h2)
  obtain⟨t1,t2,t3,t4⟩:=(V2 hBA).1 hr;have uz:b*2^k<=a*2^k:=by rw[kF,m_];exact hBA
  have hba:b<=a:=Nat.le_of_mul_le_mul_right uz kp;have zB:(a-b)*2^k=A*2^d-B:=by rw[Nat.sub_mul,kF,m_]
  refine⟨t3,λjZ=>?_,λhz=>?_⟩
  .have lM:a≠b:=by
    intro h;rw[h,Nat.sub_self,Nat.zero_mul]at zB;have:=Nat.mul_pos jZ dp;omega
   rw[aH lM,aQ (by omega)];refine⟨rfl,λ_=>rfl,λ_=>⟨jZ,om,(λh=>by cases h),eb.1,eb.2,λp mn mx one aN md z fl p0 p1=>?_⟩⟩;have T:=bM.trunc (p:=p) (mn:=mn) (mx:=mx) (one:=one) (aN:=aN) (aj:=md) (aP:=x.s) (X:=A*2^d-B) (e:=ey') (z:=z) (fl:=fl) d (by rw[t1];omega) p0 (λh=>bG t2 h);rw[t1,hed,gV (by simpa using t2)]at T;rw[T];exact aM3
  .rw[hz,Nat.zero_mul]at t4;have:a=b:=by
    apply Nat.eq_of_mul_eq_mul_right kp;omega
   rw[aQ this]
def aND(x y c:Int)(hx:0<=x)(hy:0<=y)(YJ:0<=c)(hc:c<=1)(w:ak):(callFunc 327 #[Y x,Y y,Y c]).run prog w=
  .ok (.value (.tuple #[Y ((x+y+c)%18446744073709551616),Y ((x+y+c)/18446744073709551616)])) w:=by
 rw[run_callFunc_extern func327 (by kernel_rfl) (by kernel_rfl) (by kernel_rfl) (e:=add64Entry) (by kernel_rfl),run_add64 x y c hx hy YJ hc];rfl
def aLB(x y:Int)(hx:0<=x)(hy:0<=y)(w:ak):(callFunc 327 #[Y x,Y y,Y 0]).run prog w=
  .ok (.value (.tuple #[Y ((x+y)%18446744073709551616),Y ((x+y)/18446744073709551616)])) w:=by
 simpa using aND x y 0 hx hy (Int.le_refl 0) de w
def XM(a0 a1 b0 b1:Int)(zC:0<=a0)(kG:0<=a1)(t_:0<=b0)(iF:0<=b1)(L8:aI a0)(gb0:aI b0)(w:ak):
  Calls prog 303 #[aS a0 a1,aS b0 b1] w λe w'=>
   e=Z (.tuple #[aS ((a0+b0)%18446744073709551616) ((a1+b1+(a0+b0)/18446744073709551616)%18446744073709551616),
    .bool ((a1+b1+(a0+b0)/18446744073709551616)/18446744073709551616 != 0)])/\∃c1 c2 c3 c4:Array Value,w'=((((w.alloc (.cells c1 257)).alloc (.cells c2 257)).alloc (.cells c3 257)).alloc (.cells c4 257)).drew.drew :=by
 have k0:0<=(a0+b0)/18446744073709551616:=om;have k1:(a0+b0)/18446744073709551616<=1:=om;go_enter func303,ntmps303;go_wp2;refine wp_loop_rounds 3 ?_;rw[uP];go_wp2;go_region_with (simp only[aLB a0 b0 zC t_]);all_goals (go_wp2;rw[uP];go_wp2;go_region_with (simp only[aND a1 b1 _ kG iF k0 k1]))
 all_goals (go_wp2;rw[uP];go_wp2;go_returns;exact⟨rfl,_,_,_,_,rfl⟩)
def Zo(ah al bh bl:Int)(zC:0<=ah)(kG:aI ah)(t_:0<=al)(iF:aI al)(YJ:0<=bh)(AA:aI bh)(LZ:0<=bl)(uT:aI bl)(w:ak):
  CT 245 #[aS ah al,aS bh bl] w λe w'=>
   e=Z (.tuple #[aS ((ah+bh+(al+bl)/18446744073709551616)%18446744073709551616) ((al+bl)%18446744073709551616),.bool ((ah+bh+(al+bl)/18446744073709551616)/18446744073709551616 != 0)])/\Gr w w':=by
 go_enter func245,ntmps245;go_wp2;go_region_held3 (λw'=>aB w' w.heap.size 0 (Y ah)/\aB w' w.heap.size 1 (Y al)/\aB w' (w.heap.size+1) 0 (Y bh)/\aB w' (w.heap.size+1) 1 (Y bl))(simp[go_sem,World.cell?_alloc_past])(first|(go_at_call 300;refine(sW _ _ _).mono ?_;rintro e w1 ⟨rfl,c1,c2,rfl⟩)|(go_at_call 303;refine(XM al ah bl bh t_ zC LZ YJ iF uT _).mono ?_;rintro e w2 ⟨rfl,d1,d2,d3,d4,rfl⟩))
 all_goals go_wp2_with (go_at_call 248;refine(EO _ _ _).mono ?_;rintro e w1 ⟨rfl,f1,f2,rfl⟩)
 all_goals go_returns<;>exact⟨rfl,⟨by go_grown,by go_grown⟩⟩
def aGb{P:Prop}(h:P:=by
 first|omega|(simp only[iT];done)|(simp only[iT];omega)):P:=h
def D_(x y:Int)(MN:0<=x)(hx:aI x)(hy0:0<=y)(hy:aI y):0<=x*y/18446744073709551616/\x*y/18446744073709551616<18446744073709551616:=by
 have h1:0<=x*y:=Bj MN hy0;have h2:x*y<=18446744073709551615*18446744073709551615:=Int.mul_le_mul om om hy0 om;generalize x*y=p at*
 omega
def aHF(x:Int)(h0:0<=x)(h1:aI x):bits .and .u64 x 4294967295=x%4294967296:=by
 obtain⟨n,rfl⟩:=lq h0;refine(bits_and_u64_nat n 4294967295 om om).trans ?_;rw[show n&&&4294967295=n%4294967296 from Nat.and_two_pow_sub_one_eq_mod n 32];omega
structure Halves (x y a b c d:Int):Prop where
 all:x*y=a*18446744073709551616+(b+c)*4294967296+d
 a0:0<=a
 a1:a<=18446744065119617025
 b0:0<=b
 b1:b<=18446744065119617025
 c0:0<=c
 c1:c<=18446744065119617025
 d0:0<=d
 d1:d<=18446744065119617025
def Cj(u v:Int)(u0:0<=u)(u1:u<4294967296)(v0:0<=v)(v1:v<4294967296):0<=u*v/\u*v<=18446744065119617025:=by
 refine⟨Bj u0 v0,?_⟩;have:=Int.mul_le_mul (om:u<=4294967295) (om:v<=4294967295) v0 om;omega
def halves(x y x1 x0 y1 y0:Int)(hx:x=x1*4294967296+x0)(hy:y=y1*4294967296+y0)(bx1:0<=x1)(V7:x1<4294967296)(bx0:0<=x0)(cx0:x0<4294967296)(Zf:0<=y1)(cy1:y1<4294967296)(by0:0<=y0)(cy0:y0<4294967296):
  Halves x y (x1*y1) (x1*y0) (x0*y1) (x0*y0):=by
 obtain⟨a0,a1⟩:=Cj x1 y1 bx1 V7 Zf cy1;obtain⟨b0,b1⟩:=Cj x1 y0 bx1 V7 by0 cy0;obtain⟨c0,c1⟩:=Cj x0 y1 bx0 cx0 Zf cy1;obtain⟨d0,d1⟩:=Cj x0 y0 bx0 cx0 by0 cy0;refine⟨?_,a0,a1,b0,b1,c0,c1,d0,d1⟩;rw[hx,hy,Int.add_mul,Int.mul_add,Int.mul_add,Int.mul_right_comm x1 4294967296 y0,<-Int.mul_assoc x0 y1,<-Int.mul_assoc (x1*4294967296) y1,Int.mul_right_comm x1 4294967296 y1];generalize x1*y1=a;generalize x1*y0=b;generalize x0*y1=c;generalize x0*y0=d;omega
def aN7(h1:a=a')(h2:b=b'):Ending.returned (.tuple #[Y a,Y b])=Z (.tuple #[Y a',Y b']):=by rw[h1,h2]
def aN6(h1:a=a')(h2:b=b'):Ending.returned (aS a b)=Z (aS a' b'):=by rw[h1,h2]
def aEq(x y:Int)(MN:0<=x)(hx:aI x)(hy0:0<=y)(hy:aI y)(w:ak):
  Calls prog 305 #[Y x,Y y] w λe w'=>e=Z (.tuple #[Y (x*y/18446744073709551616),Y (x*y%18446744073709551616)])/\w'=w:=by
 have la:=aHF x MN hx;have lb:=aHF y hy0 hy;obtain⟨x1,hx1⟩:=dP (x/4294967296);obtain⟨x0,hxl⟩:=dP (x%4294967296);obtain⟨y1,hy1⟩:=dP (y/4294967296);obtain⟨y0,hyl⟩:=dP (y%4294967296);rw[hxl]at la;rw[hyl]at lb;obtain⟨eq,a0,a1,b0,b1,c0,c1,d0,d1⟩:=halves x y x1 x0 y1 y0 om om om om om om om om om om;obtain⟨a,ha⟩:=dP (x1*y1);obtain⟨b,hb⟩:=dP (x1*y0);obtain⟨c,hc⟩:=dP (x0*y1);obtain⟨d,hd⟩:=dP (x0*y0);rw[ha,hb,hc,hd]at eq;rw[ha]at a0 a1;rw[hb]at b0 b1;rw[hc]at c0 c1;rw[hd]at d0 d1;obtain⟨t,ht⟩:=dP (b+d/4294967296);have lt:=aHF t om om;have t0:0<=t:=om;have t1:aI t:=om;have E:Hid _:=eq;have hT:Hid (b+d/4294967296=t):=ht;clear eq hxl hyl;go_enter func305,ntmps305;go_wp2;go_ret2;have e:=E.out;have f:=hT.out;generalize x*y=p at*
 refine⟨aN7 ?_ ?_,rfl⟩
 .omega
 .exact aGb
def Kq(x y:Int)(MN:0<=x)(hx:aI x)(hy0:0<=y)(hy:aI y)(w:ak):
  QR 178 #[Y x,Y y] w (aS (x*y/18446744073709551616) (x*y%18446744073709551616)):=by
 obtain⟨b0,b1⟩:=D_ x y MN hx hy0 hy;have e1:x*y%18446744073709551616%18446744073709551616=x*y%18446744073709551616:=om;have e2:x*y%18446744073709551616/18446744073709551616=0:=om;have e3:x*y/18446744073709551616%18446744073709551616=x*y/18446744073709551616:=om;have e4:x*y/18446744073709551616/18446744073709551616=0:=om;go_enter func178,ntmps178;go_wp2_with (first|(go_at_call 305;refine(aEq x y MN hx hy0 hy _).mono ?_;rintro e w' ⟨rfl,rfl⟩)|(go_at_call 303;refine(XM 0 0 _ _ om om om om om om _).mono ?_;rintro e w1 ⟨rfl,d1,d2,d3,d4,rfl⟩)|(go_at_call 248;refine(EO _ _ _).mono ?_;rintro e w2 ⟨rfl,f1,f2,rfl⟩)|go_in)
 go_returns;exact⟨rfl,⟨by go_grown,by go_grown⟩⟩
def FB(h:bI f p mx one aN sg nan)(v z:Int)(v0:0<=v)(v1:v<2*sg)(hz:v<sg/\z=v+sg\/sg<=v/\z=v-sg)(w:ak):
  QW 145 #[J f,Y v] w (Y z):=by
 have hb:=h.bounds;have HS:KW 207 #[J f] (Y sg):=λw=>lg h w;have hc:(v<sg/\IntKind.u64.wrap (v+sg)=z)\/(sg<=v/\IntKind.u64.wrap (v-sg)=z):=by
  rcases hz with⟨a,rfl⟩|⟨a,rfl⟩
  .exact .inl ⟨a,by rw[iT];omega⟩
  .exact .inr ⟨a,by rw[iT];omega⟩
 clear h hz hb;rcases hc with⟨c,u1⟩|⟨c,u1⟩
 all_goals
  go_enter func145,ntmps145;go_wp2_with (go_at_call 207;refine kw (HS _) ?_);go_returns;exact⟨b_ (by first|rfl|(simp;omega)|(rw[u1])),rfl⟩
def dW(k:Nat):Nat:=1152921504606846976/2^k
def dS(c:Nat->Nat->Nat)(N:Nat):Nat->Nat × Nat
 |0=>(0,N)
 |k+1=>if c (dS c N k).1 (dW k)<=(dS c N k).2 then((dS c N k).1 |||dW k,((dS c N k).2 -c (dS c N k).1 (dW k))*2%18446744073709551616)else((dS c N k).1,(dS c N k).2 *2%18446744073709551616)
def dD(c:Nat->Nat->Nat)(N k:Nat):Nat:=if c (dS c N k).1 (dW k)<=(dS c N k).2 then 1 else 0
def dR(c:Nat->Nat->Nat)(N k:Nat):Nat:=if c (dS c N k).1 (dW k)<=(dS c N k).2 then(dS c N k).2 -c (dS c N k).1 (dW k)else(dS c N k).2
def dC(c:Nat->Nat->Nat)(N:Nat):Nat->Nat
 |0=>0
 |k+1=>dC c N k*2%18446744073709551616|||dD c N k
def Y5(c:Nat->Nat->Nat)(N k:Nat):dD c N k<=1:=by unfold dD;split<;>omega
def aIL(c:Nat->Nat->Nat)(N k:Nat):(dS c N (k+1)).2 =dR c N k*2%18446744073709551616:=by
 unfold dR;rw[dS];split<;>rfl
def or_bit(a d:Nat)(h:d<=1):a*2%18446744073709551616|||d=(a*2+d)%18446744073709551616:=by
 have e:a*2%18446744073709551616=2^1*(a%9223372036854775808):=om;rw[e,<-Nat.two_pow_add_eq_or_of_lt (om:d<2^1)];omega
def Ol(N D k:Nat)(hN:N<2*D)(hD:D<=4611686018427387904):
  dR (λ_ _=>D) N k=N*2^k%D/\dC (λ_ _=>D) N (k+1)=N*2^k/D%18446744073709551616:=by
 have hD0:0<D:=om;induction k with
 |zero=>
  have e1:(dS (λ_ _=>D) N 0).2 =N:=rfl;rw[wP,kW];simp only[dC,dR,dD,e1,Nat.zero_mul,Nat.zero_mod,Nat.zero_or];by_cases h:D<=N
  .rw[aQ h,aQ h];have h1:N/D=1:=by rw[Nat.div_eq_iff hD0];omega
   have h2:=Aj N D;rw[h1,kW]at h2;exact⟨om,by rw[h1]⟩
  .rw[aH h,aH h];exact⟨(lQ om).symm,by rw[xU (by omega)]⟩
 |succ k ih=>
  obtain⟨i1,i2⟩:=ih;have hr:N*2^k%D<D:=oN _ hD0;have e1:(dS (λ_ _=>D) N (k+1)).2 =N*2^k%D*2:=by rw[aIL,i1,lQ (by omega)]
  have hda:=Aj (N*2^k) D;obtain⟨q,hq⟩:=x_n (N*2^k/D);obtain⟨r,hrr⟩:=x_n (N*2^k%D);rw[<-hq,<-hrr]at hda;rw[<-hrr]at e1 hr;rw[<-hq]at i2;have hpw:N*2^(k+1)=D*(2*q)+2*r:=by
   rw[jE,<-kX,<-hda,Ak,kX,dM q 2,dM r 2]
  rw[dC,or_bit _ _ (Y5 _ _ _),i2];simp only[dR,dD,e1];by_cases h:D<=r*2
  .rw[aQ h,aQ h];have e3:N*2^(k+1)=D*(2*q+1)+(2*r-D):=by rw[hpw,Fj,kW];omega
   have e4:N*2^(k+1)/D=2*q+1:=by rw[e3,Nat.mul_add_div hD0,xU (by omega)]
   have e5:N*2^(k+1)%D=2*r-D:=by rw[e3,Nat.mul_add_mod,lQ (by omega)]
   rw[e4,e5];exact⟨om,om⟩
  .rw[aH h,aH h];have e4:N*2^(k+1)/D=2*q:=by rw[hpw,Nat.mul_add_div hD0,xU om,Nat.add_zero]
   have e5:N*2^(k+1)%D=2*r:=by rw[hpw,Nat.mul_add_mod,lQ (by omega)]
   rw[e4,e5];exact⟨om,om⟩
def dB(b w:Nat):Nat:=(2*b%18446744073709551616+w)%18446744073709551616
def BG(k:Nat)(h:k<=60):dW k=2^(60-k):=by
 unfold dW;rw[show 1152921504606846976=2^60 by decide,Nat.pow_div h (by decide)]
def H9(t w:Nat)(i:Nat)(h:w=2^i):(2*w*t)|||w=2*w*t+w:=by
 subst h;rw[show 2*2^i=2^(i+1) by rw[jE,dM],Nat.two_pow_add_eq_or_of_lt (Nat.pow_lt_pow_right de om)]
def aJh(N k t b l C w:Nat):Prop:=b=2*w*t/\C=t/\b+2*w<=2305843009213693952/\N*1152921504606846976=b*b+l*w/\l<4*b+4*w
def Xv(N:Nat)(h1:N<4611686018427387904):aJh N 0 0 0 N 0 1152921504606846976:=by
 refine⟨om,rfl,om,om,om⟩
def aLi:dW 0=1152921504606846976:=by unfold dW;rw[wP,Nat.div_one]
def aCp(N k:Nat)(h1:N<4611686018427387904)(hk:k<=60):
  ∃t,aJh N k t (dS dB N k).1 (dS dB N k).2 (dC dB N k) (dW k):=by
 induction k with
 |zero=>exact⟨0,by rw[aLi,dS,dC];exact Xv N h1⟩
 |succ k ih=>
  obtain⟨t,i1,i2,i3,i4,i5⟩:=ih om;have hw:dW k=2*dW (k+1):=by rw[BG k om,BG (k+1) hk,(om:60-k=60-(k+1)+1),jE,dM]
  have hw0:0<dW (k+1):=by rw[BG (k+1) hk];exact iQ de
  have hor:=H9 t (dW k) (60-k) (BG k om);obtain⟨b,hb⟩:=x_n ((dS dB N k).1);obtain⟨l,hl⟩:=x_n ((dS dB N k).2);obtain⟨v,hv⟩:=x_n (dW (k+1));rw[<-hv]at hw hw0;rw[hw]at i1 i3 i4 i5 hor;rw[<-hb]at i1 i3 i4 i5;rw[<-hl]at i4 i5;rw[<-i1]at hor;have hc:dB b (2*v)=2*b+2*v:=by unfold dB;omega
  have htv:dC dB N k*2%18446744073709551616=dC dB N k*2:=by
   refine lQ ?_;rw[i2];have hm:1*(4*t)<=v*(4*t):=Nat.mul_le_mul_right _ hw0;have:b=v*(4*t):=by rw[i1,<-kX 2 2 v,dM (2*2) v,kX v]
   omega
  by_cases h:2*b+2*v<=l
  .have hd:dD dB N k=1:=by unfold dD;rw[hw,<-hb,<-hl,hc,aQ h]
   have hS:dS dB N (k+1)=(b+2*v,(l-(2*b+2*v))*2):=by
    rw[dS,hw,<-hb,<-hl,hc,aQ h,hor,lQ (by omega)]
   refine⟨2*t+1,?_,?_,?_,?_,?_⟩
   .rw[hS,<-hv];dsimp only
    rw[i1,Fj,kW];have:2*(2*v)*t=2*v*(2*t):=by simp[dM,Oy,kX]
    omega
   .rw[dC,or_bit _ _ (Y5 _ _ _),hd,i2,lQ (by rw[i2]at htv;omega)];omega
   .rw[hS,<-hv];dsimp only;omega
   .rw[hS,<-hv];dsimp only
    rw[i4];obtain⟨m,hm⟩:∃m,l=2*b+2*v+m:=⟨l-(2*b+2*v),om⟩;rw[hm,(om:2*b+2*v+m-(2*b+2*v)=m)];simp only[Ak,Fj];have e1:2*b*(2*v)=2*v*b+b*(2*v):=by rw[dM (2*v) b];rw[kX 2 b];omega
    have e2:m*2*v=m*(2*v):=kX _ _ _;omega
   .rw[hS,<-hv];dsimp only;omega
  .have hd:dD dB N k=0:=by unfold dD;rw[hw,<-hb,<-hl,hc,aH h]
   have hS:dS dB N (k+1)=(b,l*2):=by
    rw[dS,hw,<-hb,<-hl,hc,aH h,lQ (by omega)]
   refine⟨2*t,?_,?_,?_,?_,?_⟩
   .rw[hS,<-hv];dsimp only
    rw[i1];simp[dM,Oy,kX]
   .rw[dC,or_bit _ _ (Y5 _ _ _),hd,i2,Nat.add_zero,lQ (by rw[i2]at htv;omega)];omega
   .rw[hS,<-hv];dsimp only;omega
   .rw[hS,<-hv];dsimp only
    rw[i4,kX]
   .rw[hS,<-hv];dsimp only;omega
def Xt(N k:Nat)(h1:N<4611686018427387904)(hk:k<60):
  N*1152921504606846976=dC dB N (k+1)*dW k*(dC dB N (k+1)*dW k)+dR dB N k*dW k/\dR dB N k<2*(dC dB N (k+1)*dW k)+dW k/\dC dB N (k+1)<18446744073709551616:=by
 obtain⟨t,i1,i2,i3,i4,i5⟩:=aCp N (k+1) h1 om;obtain⟨t0,j1,j2,j3,j4,j5⟩:=aCp N k h1 om;have hw:dW k=2*dW (k+1):=by rw[BG k om,BG (k+1) om,(om:60-k=60-(k+1)+1),jE,dM]
 have hw0:0<dW (k+1):=by rw[BG (k+1) (by omega)];exact iQ de
 have uz:dR dB N k<=(dS dB N k).2 :=by unfold dR;split<;>omega
 have e1:=aIL dB N k;rw[lQ (by omega)]at e1;have e2:(dS dB N (k+1)).1 =dC dB N (k+1)*dW k:=by rw[i1,i2,hw,dM]
 rw[e2]at i3 i4 i5;rw[e1]at i4 i5;refine⟨?_,om,?_⟩
 .rw[i4,kX (dR dB N k) 2,<-hw]
 .have:dC dB N (k+1)*1<=dC dB N (k+1)*dW k:=Fh _ om;omega
def nv(M:Nat)(e:Int):Nat:=M*2^(e+6000).toNat
def XY(m k:Nat)(e0:Int)(h:0<=e0-k+6000):nv (m*2^k) (e0-k)=nv m e0:=by
 unfold nv;rw[(om:(e0+6000).toNat =k+(e0-k+6000).toNat),jY,kX]
def aJq(l:Nat)(P:Nat)(hp:p=P+1)(ho:one=((2^P:Nat):Int))(hE:1-mx<=E)(hl:(l:Int)<=2*one)(hb:E=1-mx\/one<=(l:Int))(hv:v=(l:Int)+one*(E-(1-mx)))
  (hq:0<=E-p+1+6000) (hm:v<one/\m=v/\e0=2-mx-p\/one<=v/\m=v%one+one/\e0=1-mx-p+v/one):0<=m/\nv m.toNat e0=nv l (E-p+1):=by
 have o0:0<one:=by rw[ho];exact Int.natCast_pos.mpr (iQ de)
 by_cases c:(l:Int)<one
 .have hE':E=1-mx:=om;rw[hE',Int.sub_self,Int.mul_zero]at hv;rcases hm with⟨a,b,d⟩|⟨a,b,d⟩
  .rw[b,hv,d];refine⟨om,?_⟩;rw[Int.add_zero,Int.toNat_natCast,(om:2-mx-p=E-p+1)]
  .exfalso;omega
 .obtain⟨k,hk⟩:∃k:Nat,E-(1-mx)=k:=⟨(E-(1-mx)).toNat,om⟩;rw[hk]at hv;have hk0:0<=one*(k:Int):=Bj om om;rcases hm with⟨a,b,d⟩|⟨a,b,d⟩
  .exfalso;omega
  .by_cases c2:(l:Int)=2*one
   .have hv2:v=0+one*((k:Int)+2):=by rw[hv,c2,Int.mul_add];omega
    have Dp:v%one=0:=by rw[hv2,Int.add_mul_emod_self_left];rfl
    have uT:v/one=(k:Int)+2:=by rw[hv2,Int.add_mul_ediv_left _ _ (by omega)];simp
    rw[b,d,Dp,uT];refine⟨om,?_⟩;have h3:l=(0+one).toNat *2^1:=om;rw[h3,(om:E-p+1=(1-mx-p+((k:Int)+2))-((1:Nat):Int)),XY _ _ _ (by omega)]
   .have hv2:v=((l:Int)-one)+one*((k:Int)+1):=by rw[hv,Int.mul_add];omega
    have Dp:v%one=(l:Int)-one:=by rw[hv2,Int.add_mul_emod_self_left];exact Int.emod_eq_of_lt om om
    have uT:v/one=(k:Int)+1:=by rw[hv2,Int.add_mul_ediv_left _ _ om,Int.ediv_eq_zero_of_lt om (by omega)];omega
    rw[b,d,Dp,uT];refine⟨om,?_⟩;rw[(om:((l:Int)-one+one).toNat =l),(om:1-mx-p+((k:Int)+1)=E-p+1)]
def aE8(M:Nat)(e q:Int)(hM:0<M)(h0:dH M e q=0):0<bH M e q O:=by
 unfold dH at h0;unfold bH;split at h0
 .exfalso;have:=Nat.mul_pos hM (iQ (n:=(e-q).toNat) (show 0<2 by decide));omega
 .rename_i c
  rw[aH c];unfold hr;have hP:0<2^(q-e).toNat :=iQ de;have fJ:M<2^(q-e).toNat :=by
   rcases uq M (2^(q-e).toNat)with c|c
   .exact c
   .have:=Nat.div_pos c hP;omega
  obtain⟨d,hd⟩:∃d,(q-e).toNat =d+1:=⟨(q-e).toNat -1,om⟩;rw[hd,jE]at fJ;rw[hd,Nat.add_sub_cancel];by_cases c1:M%2^d=0
  .have h2:M/2^d%2=1:=by
    have h3:=Aj M (2^d);have h4:M/2^d<2:=by rw[aEo (iQ de)];omega
    have h5:M/2^d≠0:=λh=>by rw[h,c1]at h3;omega
    clear h3;generalize M/2^d=t at*
    omega
   rw[aQ h2];omega
  .rw[aQ (show M%2^d≠0\/O=true from .inl c1)];omega
def W_(x y:Int)(MN:0<=x)(hx:aI x)(hy0:0<=y)(hy:aI y)(w:ak):
  Calls prog 280 #[Y x,Y y] w λe w'=>e=Z (aS (x*y/18446744073709551616) (x*y%18446744073709551616))/\∃c:Array Value,w'=w.alloc (.cells c 185):=by
 obtain⟨x1,hx1⟩:=dP (x/4294967296);obtain⟨x0,hxl⟩:=dP (x%4294967296);obtain⟨y1,hy1⟩:=dP (y/4294967296);obtain⟨y0,hyl⟩:=dP (y%4294967296);obtain⟨eq,a0,a1,b0,b1,c0,c1,d0,d1⟩:=halves x y x1 x0 y1 y0 om om om om om om om om om om;obtain⟨a,ha⟩:=dP (x1*y1);obtain⟨b,hb⟩:=dP (x1*y0);obtain⟨c,hc⟩:=dP (x0*y1);obtain⟨d,hd⟩:=dP (x0*y0);rw[ha,hb,hc,hd]at eq;rw[ha]at a0 a1;rw[hb]at b0 b1;rw[hc]at c0 c1;rw[hd]at d0 d1;have E:Hid _:=eq;clear eq;go_enter func280,ntmps280;go_wp2;go_returns;have e:=E.out;generalize x*y=p at*
 refine⟨aN6 ?_ ?_,_,rfl⟩
 .exact aGb
 .exact aGb
def Fz(f a b v u sg r:Int)(HS:KW 207 #[J f] (Y sg))(s0:¬sg=0)(hv:a.tmod sg=v)(hu:b.tmod sg=u)
  (hr:Hid (r=if v=0/\u=0 then 0 else if decide (sg<=a)≠decide (sg<=b)then(if sg<=a then-1 else 1)else if v=u then 0 else if decide (v<u)=decide (a<sg)then-1 else 1)) (w:ak):
  QW 159 #[J f,Y a,Y b] w (J r):=by
 go_enter func159,ntmps159;go_wp2_with (go_at_call 207;refine kw (HS _) ?_);all_goals go_returns<;>exact⟨b_ (lu (Value.int .i64) (by rw[hr.out];simp_all)),rfl⟩
abbrev gQ(w w1:ak)(c s x g:Int):Prop:=aB w w1.heap.size 0 (J c)/\aB w w1.heap.size 1 (J s)/\aB w w1.heap.size 2 (J x)/\aB w w1.heap.size 3 (Y g)
def Gr.pt(h:Gr W w)(k:gQ W w1 c s x g:=by exact⟨kl,kl,kl,kl⟩):gQ w w1 c s x g:=⟨h.old k.1,h.old k.2.1,h.old k.2.2.1,h.old k.2.2.2⟩
def Gb.pt(h:Gb W w)(k:gQ W w1 c s x g:=by exact⟨kb,kb,kb,kb⟩):gQ w w1 c s x g:=⟨h.old k.1,h.old k.2.1,h.old k.2.2.1,h.old k.2.2.2⟩
def aGc{P:Prop}(h:P:=by
 go_enter func259,ntmps259;go_wp2_with (go_at_call 309;refine kw (aOI _ _) ?_);go_returns;exact⟨rfl,rfl⟩):P:=h
def aGd{P:Prop}(h:P:=by
 go_enter func258,ntmps258;go_wp2_with (go_at_call 308;refine kw (aOJ _ _) ?_);go_returns;exact⟨rfl,rfl⟩):P:=h
def aOJ(a:Int)(w:ak):QW 308 #[J a] w (.bool O):=by
 go_enter func308,ntmps308;go_wp2;go_returns;exact⟨rfl,rfl⟩
def aOI(a:Int)(w:ak):QW 309 #[Y a] w (.bool O):=by
 go_enter func309,ntmps309;go_wp2;go_returns;exact⟨rfl,rfl⟩
def PX(a b:Int)(w:ak):QW 258 #[J a,J b] w (J (mM a b)):=by
 rcases Int.lt_trichotomy a b with c|c|c
 .rw[zO c];exact aGd
 .subst c;rw[y8];exact aGd
 .rw[zQ c];have c':decide (a<b)=O:=jA;exact aGd
def Y9(a b:Int)(w:ak):QW 259 #[Y a,Y b] w (J (mM a b)):=by
 rcases Int.lt_trichotomy a b with c|c|c
 .rw[zO c];exact aGc
 .subst c;rw[y8];exact aGc
 .rw[zQ c];have c':decide (a<b)=O:=jA;exact aGc
def aFc(x y z:Int)(b cap:Nat)(w:ak)(h0:aB w b 0 (J x))(h1:aB w b 1 (J y))(h2:aB w b 2 (J z))(hc:3<=cap):
  QW 257 #[aF b 3 cap] w (J (or3 x y z)):=by
 unfold or3;by_cases c1:x=0
 .subst c1;rw[aH (by decide)];by_cases c2:y=0
  .subst c2;rw[aH (by decide)];by_cases c3:z=0
   .subst c3;go_enter func257,ntmps257;go_wp2;refine wp_loop_rounds 4 ?_
    iterate 4 (rw[uP];go_wp2)
    go_returns;exact⟨rfl,rfl⟩
   .have e3:(z==0)=O:=by simp[c3]
    go_enter func257,ntmps257;go_wp2;refine wp_loop_rounds 3 ?_
    iterate 3 (rw[uP];go_wp2)
    go_returns;exact⟨rfl,rfl⟩
  .rw[aQ c2];have e2:(y==0)=O:=by simp[c2]
   go_enter func257,ntmps257;go_wp2;refine wp_loop_rounds 2 ?_
   iterate 2 (rw[uP];go_wp2)
   go_returns;exact⟨rfl,rfl⟩
 .rw[aQ c1];have e1:(x==0)=O:=by simp[c1]
  go_enter func257,ntmps257;go_wp2;refine wp_loop_rounds 1 ?_;rw[uP];go_wp2;go_returns;exact⟨rfl,rfl⟩
def XR(sx ex cx xh xl sy ey cy yh yl d:Int)(tx ty:Bool)(hs:sx≠sy)(hd:IntKind.i64.wrap (sy-sx)=d)(w:ak):
  QR 190 #[bP sx ex cx xh xl tx 0,bP sy ey cy yh yl ty 0] w (J d):=by
 have c1:(sx==sy)=O:=by simp[hs]
 go_enter func190,ntmps190;go_wp2;go_returns;exact⟨by first|rfl|rw[hd],Gr.g⟩
def XQ(s ex cx xh xl ey cy yh yl c1 c2 c3 d r:Int)(tx ty:Bool)(h1:mM cx cy=c1)(h2:mM ex ey=c2)(h3:mM xl yl=c3)(hd:or3 c1 c2 c3=d)(hr:s=1/\wrap64 (-d)=r\/s≠1/\d=r)(w:ak):
  QR 190 #[bP s ex cx xh xl tx 0,bP s ey cy yh yl ty 0] w (J r):=by
 have H1:KW 258 #[J cx,J cy] (J c1):=λw=>h1▸PX cx cy w;have H2:KW 258 #[J ex,J ey] (J c2):=λw=>h2▸PX ex ey w;have H3:KW 259 #[Y xl,Y yl] (J c3):=λw=>h3▸Y9 xl yl w;have H4:Hid (∀(b cap:Nat) (w:ak),aB w b 0 (J c1)->aB w b 1 (J c2)->aB w b 2 (J c3)->3<=cap->QW 257 #[aF b 3 cap] w (J d)):=λb cap w a1 a2 a3 a4=>hd▸aFc c1 c2 c3 b cap w a1 a2 a3 a4;clear h1 h2 h3 hd;rcases hr with⟨rfl,hr⟩|⟨hs,rfl⟩
 .go_enter func190,ntmps190;go_wp2;go_region_held3 (λw'=>jU w' w.heap.size 1 2 4 (J ex) (J cx) (Y xl)/\jU w' (w.heap.size+1) 1 2 4 (J ey) (J cy) (Y yl))(exact qj)(first|(go_at_call 258;first|(with_reducible refine kw (H1.out _) ?_)|(with_reducible refine kw (H2.out _) ?_))|(go_at_call 259;with_reducible refine kw (H3.out _) ?_)|(go_at_call 257;refine kw (H4 _ _ _ j_ j_ j_ de) ?_))
  all_goals go_wp2<;>go_returns
  all_goals exact⟨b_ (lu (Value.int .i64) hr),Gr.g⟩
 .have c1:(s==1)=O:=by simp[hs]
  go_enter func190,ntmps190;go_wp2;go_region_held3 (λw'=>jU w' w.heap.size 1 2 4 (J ex) (J cx) (Y xl)/\jU w' (w.heap.size+1) 1 2 4 (J ey) (J cy) (Y yl))(exact qj)(first|(go_at_call 258;first|(with_reducible refine kw (H1.out _) ?_)|(with_reducible refine kw (H2.out _) ?_))|(go_at_call 259;with_reducible refine kw (H3.out _) ?_)|(go_at_call 257;refine kw (H4 _ _ _ j_ j_ j_ de) ?_))
  all_goals go_wp2<;>go_returns
  all_goals exact⟨rfl,Gr.g⟩
