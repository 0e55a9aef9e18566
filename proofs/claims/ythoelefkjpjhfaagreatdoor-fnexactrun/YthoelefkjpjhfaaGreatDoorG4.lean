import Derived.Test.YthoelefkjpjhfaaGreatDoorG2
import Derived.Test.YthoelefkjpjhfaaGreatDoorG8
import Derived.Test.YthoelefkjpjhfaaGreatDoorRows
import Derived.LoopN
set_option linter.all false
set_option maxHeartbeats 40000000
open Bool renaming false → O
open Go.Proofs.YthoelefkjpjhfaaGreatDoor renaming vI → J, vU → Y
open Go.Ending renaming returned → Z
open Go.Proofs.Tryz
namespace Go.Proofs.YthoelefkjpjhfaaGreatDoor
open Go.RowKit
attribute [local go_sem] aA
variable{p mx one aI sg nan mn fb sp f a a' b b' c s x g v E m e0:Int}{W w w1:World}
def vZ(h:bD f p mx one aI sg nan)(s v z:Int)(hs:s=0/\z=v\/s=1/\z=v+sg)(v0:0<=v)(v1:v<sg)(w:World):
  QW 118 #[J f,J s,Y v] w (Y z):=by
 rcases hs with⟨rfl,rfl⟩|⟨rfl,rfl⟩
 .exact ZF f _ w
 .exact aDm h v v0 v1 w
def l7(m:Int)(b:Bool)(hb:b=decide (0<=m/\m<=4))(w:World):
  QW 135 #[J m] w (.bool b):=by
 rcases(show(m<0/\b=O)\/(0<=m/\m<=4/\b=true)\/(4<m/\b=O) by
  cases b
  .have:=of_decide_eq_false hb.symm;simp only[and_true,Bool.false_eq_true,and_false,false_or];omega
  .have:=of_decide_eq_true hb.symm;simp only[and_true,Bool.true_eq_false,and_false,false_or,or_false];omega)with⟨c,rfl⟩|⟨c,d,rfl⟩|⟨c,rfl⟩
 all_goals
  clear hb;go_enter func135,ntmps135;go_wp2;go_returns;first|exact⟨rfl,rfl⟩|exact⟨bU (congrArg Value.bool (decide_eq_false om)),rfl⟩|exact⟨bU (congrArg Value.bool (decide_eq_true om)),rfl⟩
def ZG(h:bD f p mx one aI sg nan)(aj aJ z:Int)(m0:0<=aj)(m1:aj<=4)(hs:aJ=0/\z=jE aI aj aJ\/aJ=1/\z=jE aI aj aJ+sg)(w:World):
  QR 222 #[J f,J aj,J aJ] w (aP z 20):=by
 obtain⟨b1,b2,b3,b4,b5,b6,b7,b8,b9,b10,b11,b12⟩:=h.bounds;have HI:KW 148 #[J f] (Y aI):=λw=>l9 h w;have HP:Hid (∀v w,v=aI\/v=aI-1->v=jE aI aj aJ->QW 118 #[J f,J aJ,Y v] w (Y z)):=λv w hv hz=>vZ h aJ v z (by rw[hz];exact hs) om om w;have Qw:(aj=0/\jE aI aj aJ=aI)\/(aj=1/\jE aI aj aJ=aI)\/(aj=2/\jE aI aj aJ=aI-1)\/(aj=3/\aJ=0/\jE aI aj aJ=aI)\/(aj=3/\aJ=1/\jE aI aj aJ=aI-1)\/(aj=4/\aJ=0/\jE aI aj aJ=aI-1)\/(aj=4/\aJ=1/\jE aI aj aJ=aI):=by
  have WT:aJ=0\/aJ=1:=om;unfold jE;rcases(om:aj=0\/aj=1\/aj=2\/aj=3\/aj=4)with rfl|rfl|rfl|rfl|rfl<;>rcases WT with rfl|rfl<;>simp
 clear hs h;rcases Qw with⟨rfl,e⟩|⟨rfl,e⟩|⟨rfl,e⟩|⟨rfl,rfl,e⟩|⟨rfl,rfl,e⟩|⟨rfl,rfl,e⟩|⟨rfl,rfl,e⟩
 all_goals
  have HE:Hid _:=e.symm;clear e;go_enter func222,ntmps222;go_wp2_with (first|(go_at_call 148;refine kw (HI _) ?_)|(go_at_call 118;refine kw (HP _ _ om HE.out) ?_))
  go_returns;exact⟨rfl,kr⟩
set_option maxRecDepth 1000000
def wQ(p mn mx fb sp one aI sg nan:Int):Prop:=
 (p=24/\mn=-126/\mx=127/\fb=23/\sp=31/\one=8388608/\aI=2139095040/\sg=2147483648/\nan=2143289344)\/
 (p=53/\mn=-1022/\mx=1023/\fb=52/\sp=63/\one=4503599627370496/\aI=9218868437227405312/\sg=9223372036854775808/\nan=9221120237041090560)
def Aq(n:Int)(h0:-9223372036854775808<=n)(h1:n<9223372036854775808):IntKind.i64.wrap n=n:=wi
def wu64(n:Int)(h0:0<=n)(h1:aG n):IntKind.u64.wrap n=n:=wu
def aHz(x:Int)(h0:0<=x)(h1:aG x)(w:World):
  CT 293 #[Y x] w λe w'=>e=Z (J (Go.Lib.bitLen x.toNat:Int))/\w'=w:=by
 go_enter func293,ntmps293;go_wp2_with (go_at_call 321;refine(zN x h0 h1 _).mono ?_;rintro e w' ⟨rfl,rfl⟩);go_ret;exact⟨rfl,rfl⟩
def Je(x z:Int)(h0:0<=x)(h1:aG x)(hz:(Go.Lib.bitLen x.toNat:Int)=z)(w:World):
  CT 293 #[Y x] w λe w'=>e=Z (J z)/\w'=w:=hz▸aHz x h0 h1 w
def vk(h:wQ p mn mx fb sp one aI sg nan)(w:World):
  QR 182 #[jX p mn mx] w (J fb):=by
 rcases h with⟨rfl,rfl,rfl,rfl,rfl,rfl,rfl,rfl,rfl⟩|⟨rfl,rfl,rfl,rfl,rfl,rfl,rfl,rfl,rfl⟩
 all_goals
  go_enter func182,ntmps182;go_wp2;go_returns;exact⟨rfl,kr⟩
def YH(h:wQ p mn mx fb sp one aI sg nan)(w:World):
  QR 236 #[jX p mn mx] w (J sp):=by
 have HF:=λw=>vk h w;have HL:∃l:Int,(∀w,CT 293 #[Y mx] w λe w'=>e=Z (J l)/\w'=w)/\fb+l+1=sp:=by
  rcases h with⟨rfl,rfl,rfl,rfl,rfl,rfl,rfl,rfl,rfl⟩|⟨rfl,rfl,rfl,rfl,rfl,rfl,rfl,rfl,rfl⟩
  .exact⟨7,λw=>Je 127 7 om om (by decide+kernel) w,rfl⟩
  .exact⟨10,λw=>Je 1023 10 om om (by decide+kernel) w,rfl⟩
 have hb:0<=mx/\mx<=1023/\0<=fb/\fb<=52/\0<=sp/\sp<=63:=by rcases h with h|h<;>omega
 obtain⟨l,HL,hl⟩:=HL;have HFF:Hid _:=HF;have HLL:Hid _:=HL;clear HF HL h;obtain rfl:sp=fb+l+1:=hl.symm;clear hl;have u1:IntKind.u64.wrap mx=mx:=wu;have u2:IntKind.i64.wrap (fb+l)=fb+l:=Aq _ om om;have u3:IntKind.i64.wrap (fb+l+1)=fb+l+1:=Aq _ om om;go_enter func236,ntmps236;go_wp2;go_region_held3 (λw'=>aA w' w.heap.size 0 (J p)/\aA w' w.heap.size 1 (J mn)/\aA w' w.heap.size 2 (J mx))((go_split_ands;(repeat' apply And.intro)<;>exact kl))(first|(go_at_call 182;refine(HFF _).mono ?_;rintro e w3 ⟨rfl,aK⟩;have Bo:=aK.cells;have Bg:=aK.dX;have mY:=aK.size;(try simp only[World.size_alloc,World.size_drew,World.size_setCell]at mY))|(go_at_call 293;refine(HLL _).mono ?_;rintro e w4 ⟨rfl,hw⟩;rw[hw];clear hw))
 all_goals go_wp2<;>go_returns
 all_goals exact⟨rfl,kr⟩
def wQ.cases(h:wQ p mn mx fb sp one aI sg nan):sp=31\/sp=63:=by rcases h with h|h<;>omega
def mV(h:wQ p mn mx fb sp one aI sg nan)(s z:Int)(hs:s=0/\z=0\/s=1/\z=sg)(w:World):
  QR 239 #[jX p mn mx,J s] w (Y z):=by
 have HF:KR 236 #[jX p mn mx] (J sp):=λw=>YH h w;rcases h with⟨rfl,rfl,rfl,rfl,rfl,rfl,rfl,rfl,rfl⟩|⟨rfl,rfl,rfl,rfl,rfl,rfl,rfl,rfl,rfl⟩<;>rcases hs with⟨rfl,rfl⟩|⟨rfl,rfl⟩
 all_goals
  go_enter func239,ntmps239;go_wp2_with (go_at_call 236;refine(HF _).mono ?_;rintro e w3 ⟨rfl,aK⟩);go_returns;exact⟨rfl,kr⟩
def fits_any(h:wQ p mn mx fb sp one aI sg nan)(W:Int)(h0:0<=W)(h1:aG W)(w:World):
  QR 169 #[jX p mn mx,Y W] w (.bool (decide (W<2*sg))):=by
 have HF:KR 236 #[jX p mn mx] (J sp):=λw=>YH h w;rcases h with⟨rfl,rfl,rfl,rfl,rfl,rfl,rfl,rfl,rfl⟩|⟨rfl,rfl,rfl,rfl,rfl,rfl,rfl,rfl,rfl⟩
 all_goals
  go_enter func169,ntmps169;go_wp2_with (go_at_call 236;refine(HF _).mono ?_;rintro e w3 ⟨rfl,aK⟩);go_returns;refine⟨bU (congrArg Value.bool ?_),kr⟩;first|rfl|(refine decide_eq_decide.mpr ?_;omega)|(rw[decide_eq_true om,decide_eq_true (by omega)])|(symm;refine decide_eq_true ?_;omega)
def YI(h:wQ p mn mx fb sp one aI sg nan)(W:Int)(h0:0<=W)(h1:W<2*sg)(w:World):
  QR 298 #[jX p mn mx,Y W] w (J (W/sg)):=by
 have HF:KR 236 #[jX p mn mx] (J sp):=λw=>YH h w;rcases h with⟨rfl,rfl,rfl,rfl,rfl,rfl,rfl,rfl,rfl⟩|⟨rfl,rfl,rfl,rfl,rfl,rfl,rfl,rfl,rfl⟩
 all_goals
  go_enter func298,ntmps298;go_wp2_with (go_at_call 236;refine(HF _).mono ?_;rintro e w3 ⟨rfl,aK⟩);go_returns;exact⟨bU (congrArg (Value.int IntKind.i64) (by first|rfl|omega)),kr⟩
def aHN(W:Int)(h0:0<=W)(h1:aG W):bits .andNot .u64 W 9223372036854775808=W%9223372036854775808:=by
 obtain⟨A,rfl⟩:=Int.eq_ofNat_of_zero_le h0;have e:=u64_andNot_nat A 9223372036854775808 om om;rw[show((9223372036854775808:Nat):Int)=9223372036854775808 from rfl]at e;rw[e,show 18446744073709551615-9223372036854775808=2^63-1 from rfl,Nat.and_two_pow_sub_one_eq_mod];omega
def aHO(W:Int)(h0:0<=W)(h1:W<4294967296):bits .andNot .u64 W 2147483648=W%2147483648:=by
 obtain⟨A,rfl⟩:=Int.eq_ofNat_of_zero_le h0;have e:=u64_andNot_nat A 2147483648 om om;rw[show((2147483648:Nat):Int)=2147483648 from rfl]at e;have e1:A&&&(2^32-1)=A:=by rw[Nat.and_two_pow_sub_one_eq_mod];omega
 have e2:A&&&(18446744073709551615-2147483648)=A%2^31:=by
  rw[<-e1,Nat.and_assoc,show(2^32-1)&&&(18446744073709551615-2147483648)=2^31-1 from by decide,Nat.and_two_pow_sub_one_eq_mod,e1]
 rw[e,e2];omega
def A8(h:wQ p mn mx fb sp one aI sg nan)(W:Int)(h0:0<=W)(h1:W<2*sg)(w:World):
  QR 272 #[jX p mn mx,Y W] w (Y (W%sg)):=by
 have HF:Om p mn mx 1 sg:=λw=>mV h 1 sg (.inr ⟨rfl,rfl⟩) w;rcases h with⟨rfl,rfl,rfl,rfl,rfl,rfl,rfl,rfl,rfl⟩|⟨rfl,rfl,rfl,rfl,rfl,rfl,rfl,rfl,rfl⟩
 all_goals
  go_enter func272,ntmps272;go_wp2_with (go_at_call 239;refine(HF _).mono ?_;rintro e w3 ⟨rfl,aK⟩);go_returns;refine⟨bU (congrArg (Value.int IntKind.u64) ?_),kr⟩;first|exact aHO W h0 om|exact aHN W h0 om
def mD(h:wQ p mn mx fb sp one aI sg nan)(s z:Int)(hs:s=0/\z=aI\/s=1/\z=sg+aI)(w:World):
  QR 240 #[jX p mn mx,J s] w (Y z):=by
 have HF:EG p mn mx fb:=λw=>vk h w;have HZ:∃y:Int,Om p mn mx s y/\((s=0/\y=0)\/(s=1/\y=sg)):=by
  rcases hs with⟨rfl,rfl⟩|⟨rfl,rfl⟩
  .exact⟨0,λw=>mV h 0 0 (.inl ⟨rfl,rfl⟩) w,.inl ⟨rfl,rfl⟩⟩
  .exact⟨sg,λw=>mV h 1 sg (.inr ⟨rfl,rfl⟩) w,.inr ⟨rfl,rfl⟩⟩
 obtain⟨y,HZ,hy⟩:=HZ;obtain⟨m2,m3,m4,JI,hm3,hm4,hor,hb⟩:∃m2 m3 m4:Int,IntKind.i64.wrap (2*mx)=m2/\IntKind.i64.wrap (m2+1)=m3/\IntKind.u64.wrap (m3*2^fb.toNat)=m4/\bits .or .u64 y m4=z/\0<=m3/\m3<=3000/\0<=fb/\fb<=52:=by
  rcases h with⟨rfl,rfl,rfl,rfl,rfl,rfl,rfl,rfl,rfl⟩|⟨rfl,rfl,rfl,rfl,rfl,rfl,rfl,rfl,rfl⟩<;>rcases hs with⟨rfl,rfl⟩|⟨h1,rfl⟩<;>rcases hy with⟨hy1,rfl⟩|⟨hy1,rfl⟩<;>first|(exfalso;omega)|exact⟨_,_,_,rfl,rfl,rfl,by decide+kernel,de,de,de,de⟩
 have hm5:IntKind.u64.wrap m3=m3:=wu64 _ om om;have PD:¬fb<0:=om;have HM4:Hid _:=hm4;clear h hs hy;go_enter func240,ntmps240;go_wp2;go_region_held3 (λw'=>aA w' w.heap.size 0 (J p)/\aA w' w.heap.size 1 (J mn)/\aA w' w.heap.size 2 (J mx))((go_split_ands;(repeat' apply And.intro)<;>exact kl))(first|(go_at_call 182;refine(HF _).mono ?_;rintro e w3 ⟨rfl,aK⟩;have Bo:=aK.cells;have Bg:=aK.dX;have mY:=aK.size;(try simp only[World.size_alloc,World.size_drew,World.size_setCell]at mY))|(go_at_call 239;refine(HZ _).mono ?_;rintro e w4 ⟨rfl,aV⟩;have NG:=aV.cells;have Nz:=aV.dX;have tJ:=aV.size;(try simp only[World.size_alloc,World.size_drew,World.size_setCell]at tJ)))
 all_goals go_wp2<;>go_returns
 all_goals exact⟨rfl,kr⟩
def aLx{P:Prop}(h:P:=by
 have S:=bH.scale (p:=p) (mn:=mn) (mx:=mx) (one:=one) (aI:=aI) (aj:=md) (aJ:=x.s) (M:=a-b) (e:=min x.e y.e) (z:=z) (fl:=fl) k om;rw[xg,hk]at S;exact S):P:=h
def aAt(x y:dM):mM y x=((mM x y).2,(mM x y).1):=by
 unfold mM;rw[(om:min y.e x.e=min x.e y.e)]
def aBS(aj:Int)(x y:dM):xC aj x y=xC aj y x:=by
 unfold xC;rw[aAt x y,(om:min y.e x.e=min x.e y.e)];obtain⟨a,b⟩:=mM x y;dsimp only
 by_cases hs:x.s=y.s
 .rw[if_pos hs,if_pos hs.symm,hs,Nat.add_comm]
 .have WT:¬y.s=x.s:=λh=>hs h.symm;rw[if_neg hs,if_neg WT];by_cases h1:a=b
  .rw[if_pos h1,if_pos h1.symm]
  .have h1':¬b=a:=λh=>h1 h.symm;rw[if_neg h1,if_neg h1'];by_cases h2:b<a
   .rw[if_pos h2,if_neg (om:¬a<b)]
   .rw[if_neg h2,if_pos (om:a<b)]
def Same(o:dM)(c s e:Int)(M:Nat)(st:Bool):Prop:=
 o.c=c/\(c<=2->o.s=s)/\(c=1->0<M/\M<340282366920938463463374607431768211456/\(st=true->55<=nb M)/\-100000<=e/\e<=100000/\
  ∀p mn mx one aI aj z fl,0<=p->p<=53->(bH p mn mx one aI aj s M e st z fl↔bH p mn mx one aI aj s o.M o.e O z fl))
def Same.self(x:dM)(h:x.c=1->0<x.M/\x.M<340282366920938463463374607431768211456/\-100000<=x.e/\x.e<=100000):Same x x.c x.s x.e x.M O:=
 ⟨rfl,λ_=>rfl,λc=>⟨(h c).1,(h c).2.1,(λk=>by cases k),(h c).2.2.1,(h c).2.2.2,λp mn mx one aI aj z fl _ _=>Iff.rfl⟩⟩
def lM(M:Nat)(h:0<M)(hn:nb M<=106):85070591730234615865843651857942052864<=M*2^(127-nb M)/\M*2^(127-nb M)<170141183460469231731687303715884105728:=by
 have h1:=MG M (127-nb M) h;have h2:nb (M*2^(127-nb M))=127:=om;have h3:=yX (M*2^(127-nb M));have h4:=V_ (M*2^(127-nb M)) (Nat.mul_pos h (Nat.pow_pos de));rw[h2]at h3 h4;exact⟨by simpa using h4,by simpa using h3⟩
def align(x y:dM)(lx ly:Nat)(ex' ey':Int)(d:Nat)(hx:ex'=x.e-lx)(hy:ey'=y.e-ly)(hd:(d:Int)=ex'-ey'):
  ∃k:Nat,min x.e y.e-k=ey'/\(mM x y).1 *2^k=x.M*2^lx*2^d/\(mM x y).2 *2^k=y.M*2^ly:=by
 refine⟨(min x.e y.e-ey').toNat,om,?_,?_⟩
 .unfold mM;dsimp only
  rw[Nat.mul_assoc,Nat.mul_assoc,<-Nat.pow_add,<-Nat.pow_add]
  congr 2;omega
 .unfold mM;dsimp only
  rw[Nat.mul_assoc,<-Nat.pow_add]
  congr 2;omega
def Xp(A B d:Nat):(A*2^d+B)/2^d=A+B/2^d/\(A*2^d+B)%2^d=B%2^d:=by
 have hp:0<2^d:=Nat.pow_pos de;rw[Nat.add_comm,Nat.add_mul_div_right _ _ hp,Nat.add_mul_mod_self_right,Nat.add_comm];exact⟨rfl,rfl⟩
def Xo(A B d:Nat)(h:B<=A*2^d):
  (B%2^d=0->(A*2^d-B)/2^d=A-B/2^d/\(A*2^d-B)%2^d=0/\B/2^d<=A/\A*2^d-B=(A-B/2^d)*2^d)/\
  (B%2^d≠0->(A*2^d-B)/2^d=A-(B/2^d+1)/\(A*2^d-B)%2^d≠0/\B/2^d+1<=A):=by
 have hp:0<2^d:=Nat.pow_pos de;have hB:=Nat.div_add_mod B (2^d);have hr:=Nat.mod_lt B hp;generalize B/2^d=Q at*
 generalize B%2^d=R at*
 generalize 2^d=T at*
 have rG:Q<=A:=by
  apply Nat.le_of_mul_le_mul_left _ hp;rw[Nat.mul_comm T A];omega
 obtain⟨D,rfl⟩:∃D,A=Q+D:=⟨A-Q,om⟩;have e1:(Q+D)*T=T*Q+D*T:=by rw[Nat.add_mul,Nat.mul_comm Q T]
 constructor
 .intro h0;subst h0;have e2:(Q+D)*T-B=D*T:=om;rw[e2,Nat.mul_div_cancel _ hp,Nat.mul_mod_left];have e3:Q+D-Q=D:=om;rw[e3];exact⟨rfl,rfl,om,rfl⟩
 .intro h0;have hD:0<D:=by
   rcases Nat.eq_zero_or_pos D with c|c
   .subst c;rw[e1]at h;simp at h;omega
   .exact c
  obtain⟨D',rfl⟩:∃D',D=D'+1:=⟨D-1,om⟩;have e4:(D'+1)*T=D'*T+T:=by rw[Nat.add_mul,Nat.one_mul]
  have e2:(Q+(D'+1))*T-B=(T-R)+D'*T:=om;rw[e2,Nat.add_mul_div_right _ _ hp,Nat.add_mul_mod_self_right,Nat.div_eq_of_lt om,Nat.mod_eq_of_lt (by omega)];exact⟨om,om,om⟩
def aC7(M d:Nat)(h:nb M<=106)(hr:M*2^(127-nb M)%2^d≠0):22<=d:=by
 rcases Nat.lt_or_ge d 22 with c|c
 .exfalso;apply hr;have:127-nb M=(127-nb M-d)+d:=om;rw[this,Nat.pow_add,<-Nat.mul_assoc];exact Nat.mul_mod_left _ _
 .exact c
def aEQ(aj:Int)(x y:dM)(A B d:Nat)(ex' ey':Int)(J7:0<x.M)(hxn:nb x.M<=106)(hy0:0<y.M)(hyn:nb y.M<=106)(hA:A=x.M*2^(127-nb x.M))(hB:B=y.M*2^(127-nb y.M))
  (hex:ex'=x.e-(127-nb x.M:Nat)) (hey:ey'=y.e-(127-nb y.M:Nat)) (hd:(d:Int)=ex'-ey') (hge:d=0->B<=A) (xb:-50000<=x.e/\x.e<=50000):
  (x.s=y.s->A+B/2^d<340282366920938463463374607431768211456/\Same (xC aj x y) 1 x.s ex' (A+B/2^d) (decide (B%2^d≠0)))/\
  (x.s≠y.s->B%2^d≠0->B/2^d+1<=A/\0<A-(B/2^d+1)/\Same (xC aj x y) 1 x.s ex' (A-(B/2^d+1)) true)/\
  (x.s≠y.s->B%2^d=0->B/2^d<=A/\(0<A-B/2^d->Same (xC aj x y) 1 x.s ex' (A-B/2^d) O)/\(A-B/2^d=0->xC aj x y=Pg aj)):=by
 obtain⟨a1,a2⟩:=lM x.M J7 hxn;obtain⟨b1,b2⟩:=lM y.M hy0 hyn;rw[<-hA]at a1 a2;rw[<-hB]at b1 b2;obtain⟨k,hk,jB,lX⟩:=align x y (127-nb x.M) (127-nb y.M) ex' ey' d hex hey hd;rw[<-hA]at jB;rw[<-hB]at lX;have hBd:B/2^d<=B:=Nat.div_le_self _ _;have kp:0<2^k:=Nat.pow_pos de;have dp:0<2^d:=Nat.pow_pos de;have hnA:nb A=127:=by rw[hA,MG _ _ J7];omega
 obtain⟨a,ha⟩:=dK ((mM x y).1);obtain⟨b,hb⟩:=dK ((mM x y).2);rw[ha]at jB;rw[hb]at lX;have eb:-100000<=ex'/\ex'<=100000:=om;have hed:ey'+d=ex':=om;unfold xC;rw[ha,hb];have V1:=Xp A B d;have V2:=Xo A B d;have aR0:B%2^d≠0->22<=d:=λhr=>by rw[hB]at hr;exact aC7 y.M d hyn hr
 have aR1:4194304<=2^d->B/2^d<40564819207303340847894502572032:=λaGI=>by
  rw[Nat.div_lt_iff_lt_mul dp];exact Nat.lt_of_lt_of_le (om:B<40564819207303340847894502572032*4194304) (Nat.mul_le_mul_left _ aGI)
 generalize B/2^d=Q at*
 refine⟨λhs=>?_,λhs hr=>?_,λhs hr=>?_⟩
 .rw[if_pos hs];refine⟨om,rfl,λ_=>rfl,λ_=>⟨om,om,λ_=>?_,eb.1,eb.2,λp mn mx one aI md z fl p0 p1=>?_⟩⟩
  .have:=yg (N:=A+Q) (k:=126) (by simpa using(om:85070591730234615865843651857942052864<=A+Q));omega
  .obtain⟨t1,t2⟩:=V1;have hn:126<nb (A+Q):=yg (by simpa using(om:85070591730234615865843651857942052864<=A+Q));have T:=bH.trunc (p:=p) (mn:=mn) (mx:=mx) (one:=one) (aI:=aI) (aj:=md) (aJ:=x.s) (X:=A*2^d+B) (e:=ey') (z:=z) (fl:=fl) d (by rw[t1];omega) p0 (λ_=>by rw[t1];omega);rw[t1,t2,hed]at T;rw[T];have xg:(a+b)*2^k=A*2^d+B:=by rw[Nat.add_mul,jB,lX]
   have S:=bH.scale (p:=p) (mn:=mn) (mx:=mx) (one:=one) (aI:=aI) (aj:=md) (aJ:=x.s) (M:=a+b) (e:=min x.e y.e) (z:=z) (fl:=fl) k (by
    rcases Nat.eq_zero_or_pos (a+b)with c|c
    .rw[c]at xg;simp at xg;omega
    .exact c)
   rw[xg,hk]at S;exact S
 .rw[if_neg hs];have aSq:22<=d:=aR0 hr;have aGI:(4194304:Nat)<=2^d:=by have:=fZ aSq;simpa using this
  have hq:=aR1 aGI;have hBA:B<=A*2^d:=Nat.le_trans (om:B<=A*4194304) (Nat.mul_le_mul_left _ aGI);obtain⟨t1,t2,t3⟩:=(V2 hBA).2 hr;have fF:b*2^k<a*2^k:=by
   rw[jB,lX];exact Nat.lt_of_lt_of_le (om:B<A*4194304) (Nat.mul_le_mul_left _ aGI)
  have hba:b<a:=Nat.lt_of_mul_lt_mul_right fF;rw[if_neg om,if_pos hba];have hn:125<nb (A-(Q+1)):=yg (by simpa using(om:42535295865117307932921825928971026432<=A-(Q+1)));refine⟨t3,om,rfl,λ_=>rfl,λ_=>⟨om,om,λ_=>om,eb.1,eb.2,λp mn mx one aI md z fl p0 p1=>?_⟩⟩;have T:=bH.trunc (p:=p) (mn:=mn) (mx:=mx) (one:=one) (aI:=aI) (aj:=md) (aJ:=x.s) (X:=A*2^d-B) (e:=ey') (z:=z) (fl:=fl) d (by rw[t1];omega) p0 (λ_=>by rw[t1];omega);rw[t1,hed,decide_eq_true t2]at T;rw[T];have xg:(a-b)*2^k=A*2^d-B:=by rw[Nat.sub_mul,jB,lX]
  exact aLx
 .rw[if_neg hs];have hBA:B<=A*2^d:=by
   rcases Nat.eq_zero_or_pos d with c|c
   .subst c;have:=hge rfl;omega
   .have h2:2<=2^d:=by have:=fZ c;simpa using this
    exact Nat.le_trans (om:B<=A*2) (Nat.mul_le_mul_left _ h2)
  obtain⟨t1,t2,t3,t4⟩:=(V2 hBA).1 hr;have rG:b*2^k<=a*2^k:=by rw[jB,lX];exact hBA
  have hba:b<=a:=Nat.le_of_mul_le_mul_right rG kp;have xg:(a-b)*2^k=A*2^d-B:=by rw[Nat.sub_mul,jB,lX]
  refine⟨t3,λjm=>?_,λhz=>?_⟩
  .have jV:a≠b:=by
    intro h;rw[h,Nat.sub_self,Nat.zero_mul]at xg;have:=Nat.mul_pos jm dp;omega
   rw[if_neg jV,if_pos (by omega)];refine⟨rfl,λ_=>rfl,λ_=>⟨jm,om,(λh=>by cases h),eb.1,eb.2,λp mn mx one aI md z fl p0 p1=>?_⟩⟩;have T:=bH.trunc (p:=p) (mn:=mn) (mx:=mx) (one:=one) (aI:=aI) (aj:=md) (aJ:=x.s) (X:=A*2^d-B) (e:=ey') (z:=z) (fl:=fl) d (by rw[t1];omega) p0 (λh=>absurd t2 h);rw[t1,hed,decide_eq_false (by simpa using t2)]at T;rw[T];exact aLx
  .rw[hz,Nat.zero_mul]at t4;have:a=b:=by
    apply Nat.eq_of_mul_eq_mul_right kp;omega
   rw[if_pos this]
def aL3(x y c:Int)(hx:0<=x)(hy:0<=y)(W_:0<=c)(hc:c<=1)(w:World):(callFunc 327 #[Y x,Y y,Y c]).run Tryz.prog w=
  .ok (.value (.tuple #[Y ((x+y+c)%18446744073709551616),Y ((x+y+c)/18446744073709551616)])) w:=by
 rw[run_callFunc_extern func327 (by kernel_rfl) (by kernel_rfl) (by kernel_rfl) (e:=add64Entry) (by kernel_rfl),run_add64 x y c hx hy W_ hc];rfl
def aJ7(x y:Int)(hx:0<=x)(hy:0<=y)(w:World):(callFunc 327 #[Y x,Y y,Y 0]).run Tryz.prog w=
  .ok (.value (.tuple #[Y ((x+y)%18446744073709551616),Y ((x+y)/18446744073709551616)])) w:=by
 simpa using aL3 x y 0 hx hy (Int.le_refl 0) de w
def VN(a0 a1 b0 b1:Int)(xk:0<=a0)(jo:0<=a1)(qV:0<=b0)(gU:0<=b1)(JL:aG a0)(gb0:aG b0)(w:World):
  Calls Tryz.prog 303 #[aN a0 a1,aN b0 b1] w λe w'=>
   e=Z (.tuple #[aN ((a0+b0)%18446744073709551616) ((a1+b1+(a0+b0)/18446744073709551616)%18446744073709551616),
    .bool ((a1+b1+(a0+b0)/18446744073709551616)/18446744073709551616 != 0)])/\∃c1 c2 c3 c4:Array Value,w'=((((w.alloc (.cells c1 257)).alloc (.cells c2 257)).alloc (.cells c3 257)).alloc (.cells c4 257)).drew.drew :=by
 have k0:0<=(a0+b0)/18446744073709551616:=om;have k1:(a0+b0)/18446744073709551616<=1:=om;go_enter func303,ntmps303;go_wp2;refine wp_loop_rounds 3 ?_;rw[rounds_succ];go_wp2;go_region_with (simp only[aJ7 a0 b0 xk qV]);all_goals (go_wp2;rw[rounds_succ];go_wp2;go_region_with (simp only[aL3 a1 b1 _ jo gU k0 k1]))
 all_goals (go_wp2;rw[rounds_succ];go_wp2;go_returns;exact⟨rfl,_,_,_,_,rfl⟩)
def XL(ah al bh bl:Int)(xk:0<=ah)(jo:aG ah)(qV:0<=al)(gU:aG al)(W_:0<=bh)(yI:aG bh)(JJ:0<=bl)(rY:aG bl)(w:World):
  CT 245 #[aN ah al,aN bh bl] w λe w'=>
   e=Z (.tuple #[aN ((ah+bh+(al+bl)/18446744073709551616)%18446744073709551616) ((al+bl)%18446744073709551616),.bool ((ah+bh+(al+bl)/18446744073709551616)/18446744073709551616 != 0)])/\Gr w w':=by
 go_enter func245,ntmps245;go_wp2;go_region_held3 (λw'=>aA w' w.heap.size 0 (Y ah)/\aA w' w.heap.size 1 (Y al)/\aA w' (w.heap.size+1) 0 (Y bh)/\aA w' (w.heap.size+1) 1 (Y bl))(simp[go_sem,World.cell?_alloc_past])(first|(go_at_call 300;refine(qM _ _ _).mono ?_;rintro e w1 ⟨rfl,c1,c2,rfl⟩)|(go_at_call 303;refine(VN al ah bl bh qV xk JJ W_ gU rY _).mono ?_;rintro e w2 ⟨rfl,d1,d2,d3,d4,rfl⟩))
 all_goals go_wp2_with (go_at_call 248;refine(Dk _ _ _).mono ?_;rintro e w1 ⟨rfl,f1,f2,rfl⟩)
 all_goals go_returns<;>exact⟨rfl,⟨by go_grown,by go_grown⟩⟩
def aEK{P:Prop}(h:P:=by
 first|omega|(simp only[IntKind.wrap_u64];done)|(simp only[IntKind.wrap_u64];omega)):P:=h
def BR(x y:Int)(J7:0<=x)(hx:aG x)(hy0:0<=y)(hy:aG y):0<=x*y/18446744073709551616/\x*y/18446744073709551616<18446744073709551616:=by
 have h1:0<=x*y:=Int.mul_nonneg J7 hy0;have h2:x*y<=18446744073709551615*18446744073709551615:=Int.mul_le_mul om om hy0 om;generalize x*y=p at*
 omega
def aGh(x:Int)(h0:0<=x)(h1:aG x):bits .and .u64 x 4294967295=x%4294967296:=by
 obtain⟨n,rfl⟩:=Int.eq_ofNat_of_zero_le h0;refine(bits_and_u64_nat n 4294967295 om om).trans ?_;rw[show n&&&4294967295=n%4294967296 from Nat.and_two_pow_sub_one_eq_mod n 32];omega
structure Halves (x y a b c d:Int):Prop where
 all:x*y=a*18446744073709551616+(b+c)*4294967296+d
 a0:0<=a
 a1:a<=18446744065119617025
 b0:0<=b
 b1:b<=18446744065119617025
 c0:0<=c
 c1:c<=18446744065119617025
 d0:0<=d
 d1:d<=18446744065119617025
def zX(u v:Int)(u0:0<=u)(u1:u<4294967296)(v0:0<=v)(v1:v<4294967296):0<=u*v/\u*v<=18446744065119617025:=by
 refine⟨Int.mul_nonneg u0 v0,?_⟩;have:=Int.mul_le_mul (om:u<=4294967295) (om:v<=4294967295) v0 om;omega
def halves(x y x1 x0 y1 y0:Int)(hx:x=x1*4294967296+x0)(hy:y=y1*4294967296+y0)(bx1:0<=x1)(Uh:x1<4294967296)(bx0:0<=x0)(cx0:x0<4294967296)(XC:0<=y1)(cy1:y1<4294967296)(by0:0<=y0)(cy0:y0<4294967296):
  Halves x y (x1*y1) (x1*y0) (x0*y1) (x0*y0):=by
 obtain⟨a0,a1⟩:=zX x1 y1 bx1 Uh XC cy1;obtain⟨b0,b1⟩:=zX x1 y0 bx1 Uh by0 cy0;obtain⟨c0,c1⟩:=zX x0 y1 bx0 cx0 XC cy1;obtain⟨d0,d1⟩:=zX x0 y0 bx0 cx0 by0 cy0;refine⟨?_,a0,a1,b0,b1,c0,c1,d0,d1⟩;rw[hx,hy,Int.add_mul,Int.mul_add,Int.mul_add,Int.mul_right_comm x1 4294967296 y0,<-Int.mul_assoc x0 y1,<-Int.mul_assoc (x1*4294967296) y1,Int.mul_right_comm x1 4294967296 y1];generalize x1*y1=a;generalize x1*y0=b;generalize x0*y1=c;generalize x0*y0=d;omega
def aMw(h1:a=a')(h2:b=b'):Ending.returned (.tuple #[Y a,Y b])=Z (.tuple #[Y a',Y b']):=by rw[h1,h2]
def aMv(h1:a=a')(h2:b=b'):Ending.returned (aN a b)=Z (aN a' b'):=by rw[h1,h2]
def aC0(x y:Int)(J7:0<=x)(hx:aG x)(hy0:0<=y)(hy:aG y)(w:World):
  Calls Tryz.prog 305 #[Y x,Y y] w λe w'=>e=Z (.tuple #[Y (x*y/18446744073709551616),Y (x*y%18446744073709551616)])/\w'=w:=by
 have la:=aGh x J7 hx;have lb:=aGh y hy0 hy;obtain⟨x1,hx1⟩:=dK (x/4294967296);obtain⟨x0,hxl⟩:=dK (x%4294967296);obtain⟨y1,hy1⟩:=dK (y/4294967296);obtain⟨y0,hyl⟩:=dK (y%4294967296);rw[hxl]at la;rw[hyl]at lb;obtain⟨eq,a0,a1,b0,b1,c0,c1,d0,d1⟩:=halves x y x1 x0 y1 y0 om om om om om om om om om om;obtain⟨a,ha⟩:=dK (x1*y1);obtain⟨b,hb⟩:=dK (x1*y0);obtain⟨c,hc⟩:=dK (x0*y1);obtain⟨d,hd⟩:=dK (x0*y0);rw[ha,hb,hc,hd]at eq;rw[ha]at a0 a1;rw[hb]at b0 b1;rw[hc]at c0 c1;rw[hd]at d0 d1;obtain⟨t,ht⟩:=dK (b+d/4294967296);have lt:=aGh t om om;have t0:0<=t:=om;have t1:aG t:=om;have E:Hid _:=eq;have hT:Hid (b+d/4294967296=t):=ht;clear eq hxl hyl;go_enter func305,ntmps305;go_wp2;go_ret2;have e:=E.out;have f:=hT.out;generalize x*y=p at*
 refine⟨aMw ?_ ?_,rfl⟩
 .omega
 .exact aEK
def IW(x y:Int)(J7:0<=x)(hx:aG x)(hy0:0<=y)(hy:aG y)(w:World):
  QR 178 #[Y x,Y y] w (aN (x*y/18446744073709551616) (x*y%18446744073709551616)):=by
 obtain⟨b0,b1⟩:=BR x y J7 hx hy0 hy;have e1:x*y%18446744073709551616%18446744073709551616=x*y%18446744073709551616:=om;have e2:x*y%18446744073709551616/18446744073709551616=0:=om;have e3:x*y/18446744073709551616%18446744073709551616=x*y/18446744073709551616:=om;have e4:x*y/18446744073709551616/18446744073709551616=0:=om;go_enter func178,ntmps178;go_wp2_with (first|(go_at_call 305;refine(aC0 x y J7 hx hy0 hy _).mono ?_;rintro e w' ⟨rfl,rfl⟩)|(go_at_call 303;refine(VN 0 0 _ _ om om om om om om _).mono ?_;rintro e w1 ⟨rfl,d1,d2,d3,d4,rfl⟩)|(go_at_call 248;refine(Dk _ _ _).mono ?_;rintro e w2 ⟨rfl,f1,f2,rfl⟩)|go_in)
 go_returns;exact⟨rfl,⟨by go_grown,by go_grown⟩⟩
def DW(h:bD f p mx one aI sg nan)(v z:Int)(v0:0<=v)(v1:v<2*sg)(hz:v<sg/\z=v+sg\/sg<=v/\z=v-sg)(w:World):
  QW 145 #[J f,Y v] w (Y z):=by
 have hb:=h.bounds;have HS:KW 207 #[J f] (Y sg):=λw=>jZ h w;have hc:(v<sg/\IntKind.u64.wrap (v+sg)=z)\/(sg<=v/\IntKind.u64.wrap (v-sg)=z):=by
  rcases hz with⟨a,rfl⟩|⟨a,rfl⟩
  .exact .inl ⟨a,by rw[IntKind.wrap_u64];omega⟩
  .exact .inr ⟨a,by rw[IntKind.wrap_u64];omega⟩
 clear h hz hb;rcases hc with⟨c,u1⟩|⟨c,u1⟩
 all_goals
  go_enter func145,ntmps145;go_wp2_with (go_at_call 207;refine kw (HS _) ?_);go_returns;exact⟨bU (by first|rfl|(simp;omega)|(rw[u1])),rfl⟩
def dW(k:Nat):Nat:=1152921504606846976/2^k
def dS(c:Nat->Nat->Nat)(N:Nat):Nat->Nat × Nat
 |0=>(0,N)
 |k+1=>if c (dS c N k).1 (dW k)<=(dS c N k).2 then((dS c N k).1 |||dW k,((dS c N k).2 -c (dS c N k).1 (dW k))*2%18446744073709551616)else((dS c N k).1,(dS c N k).2 *2%18446744073709551616)
def dD(c:Nat->Nat->Nat)(N k:Nat):Nat:=if c (dS c N k).1 (dW k)<=(dS c N k).2 then 1 else 0
def dR(c:Nat->Nat->Nat)(N k:Nat):Nat:=if c (dS c N k).1 (dW k)<=(dS c N k).2 then(dS c N k).2 -c (dS c N k).1 (dW k)else(dS c N k).2
def dC(c:Nat->Nat->Nat)(N:Nat):Nat->Nat
 |0=>0
 |k+1=>dC c N k*2%18446744073709551616|||dD c N k
def Xq(c:Nat->Nat->Nat)(N k:Nat):dD c N k<=1:=by unfold dD;split<;>omega
def aHn(c:Nat->Nat->Nat)(N k:Nat):(dS c N (k+1)).2 =dR c N k*2%18446744073709551616:=by
 unfold dR;rw[dS];split<;>rfl
def or_bit(a d:Nat)(h:d<=1):a*2%18446744073709551616|||d=(a*2+d)%18446744073709551616:=by
 have e:a*2%18446744073709551616=2^1*(a%9223372036854775808):=om;rw[e,<-Nat.two_pow_add_eq_or_of_lt (om:d<2^1)];omega
def L8(N D k:Nat)(hN:N<2*D)(hD:D<=4611686018427387904):
  dR (λ_ _=>D) N k=N*2^k%D/\dC (λ_ _=>D) N (k+1)=N*2^k/D%18446744073709551616:=by
 have hD0:0<D:=om;induction k with
 |zero=>
  have e1:(dS (λ_ _=>D) N 0).2 =N:=rfl;rw[Nat.pow_zero,Nat.mul_one];simp only[dC,dR,dD,e1,Nat.zero_mul,Nat.zero_mod,Nat.zero_or];by_cases h:D<=N
  .rw[if_pos h,if_pos h];have h1:N/D=1:=by rw[Nat.div_eq_iff hD0];omega
   have h2:=Nat.div_add_mod N D;rw[h1,Nat.mul_one]at h2;exact⟨om,by rw[h1]⟩
  .rw[if_neg h,if_neg h];exact⟨(Nat.mod_eq_of_lt om).symm,by rw[Nat.div_eq_of_lt (by omega)]⟩
 |succ k ih=>
  obtain⟨i1,i2⟩:=ih;have hr:N*2^k%D<D:=Nat.mod_lt _ hD0;have e1:(dS (λ_ _=>D) N (k+1)).2 =N*2^k%D*2:=by rw[aHn,i1,Nat.mod_eq_of_lt (by omega)]
  have hda:=Nat.div_add_mod (N*2^k) D;obtain⟨q,hq⟩:=x_n (N*2^k/D);obtain⟨r,hrr⟩:=x_n (N*2^k%D);rw[<-hq,<-hrr]at hda;rw[<-hrr]at e1 hr;rw[<-hq]at i2;have hpw:N*2^(k+1)=D*(2*q)+2*r:=by
   rw[Nat.pow_succ,<-Nat.mul_assoc,<-hda,Nat.add_mul,Nat.mul_assoc,Nat.mul_comm q 2,Nat.mul_comm r 2]
  rw[dC,or_bit _ _ (Xq _ _ _),i2];simp only[dR,dD,e1];by_cases h:D<=r*2
  .rw[if_pos h,if_pos h];have e3:N*2^(k+1)=D*(2*q+1)+(2*r-D):=by rw[hpw,Nat.mul_add,Nat.mul_one];omega
   have e4:N*2^(k+1)/D=2*q+1:=by rw[e3,Nat.mul_add_div hD0,Nat.div_eq_of_lt (by omega)]
   have e5:N*2^(k+1)%D=2*r-D:=by rw[e3,Nat.mul_add_mod,Nat.mod_eq_of_lt (by omega)]
   rw[e4,e5];exact⟨om,om⟩
  .rw[if_neg h,if_neg h];have e4:N*2^(k+1)/D=2*q:=by rw[hpw,Nat.mul_add_div hD0,Nat.div_eq_of_lt om,Nat.add_zero]
   have e5:N*2^(k+1)%D=2*r:=by rw[hpw,Nat.mul_add_mod,Nat.mod_eq_of_lt (by omega)]
   rw[e4,e5];exact⟨om,om⟩
def cZ(b w:Nat):Nat:=(2*b%18446744073709551616+w)%18446744073709551616
def zA(k:Nat)(h:k<=60):dW k=2^(60-k):=by
 unfold dW;rw[show 1152921504606846976=2^60 by decide,Nat.pow_div h (by decide)]
def Fh(t w:Nat)(i:Nat)(h:w=2^i):(2*w*t)|||w=2*w*t+w:=by
 subst h;rw[show 2*2^i=2^(i+1) by rw[Nat.pow_succ,Nat.mul_comm],Nat.two_pow_add_eq_or_of_lt (Nat.pow_lt_pow_right de om)]
def aHU(N k t b l C w:Nat):Prop:=b=2*w*t/\C=t/\b+2*w<=2305843009213693952/\N*1152921504606846976=b*b+l*w/\l<4*b+4*w
def Vt(N:Nat)(h1:N<4611686018427387904):aHU N 0 0 0 N 0 1152921504606846976:=by
 refine⟨om,rfl,om,om,om⟩
def aJO:dW 0=1152921504606846976:=by unfold dW;rw[Nat.pow_zero,Nat.div_one]
def aAZ(N k:Nat)(h1:N<4611686018427387904)(hk:k<=60):
  ∃t,aHU N k t (dS cZ N k).1 (dS cZ N k).2 (dC cZ N k) (dW k):=by
 induction k with
 |zero=>exact⟨0,by rw[aJO,dS,dC];exact Vt N h1⟩
 |succ k ih=>
  obtain⟨t,i1,i2,i3,i4,i5⟩:=ih om;have hw:dW k=2*dW (k+1):=by rw[zA k om,zA (k+1) hk,(om:60-k=60-(k+1)+1),Nat.pow_succ,Nat.mul_comm]
  have hw0:0<dW (k+1):=by rw[zA (k+1) hk];exact Nat.pow_pos de
  have hor:=Fh t (dW k) (60-k) (zA k om);obtain⟨b,hb⟩:=x_n ((dS cZ N k).1);obtain⟨l,hl⟩:=x_n ((dS cZ N k).2);obtain⟨v,hv⟩:=x_n (dW (k+1));rw[<-hv]at hw hw0;rw[hw]at i1 i3 i4 i5 hor;rw[<-hb]at i1 i3 i4 i5;rw[<-hl]at i4 i5;rw[<-i1]at hor;have hc:cZ b (2*v)=2*b+2*v:=by unfold cZ;omega
  have htv:dC cZ N k*2%18446744073709551616=dC cZ N k*2:=by
   refine Nat.mod_eq_of_lt ?_;rw[i2];have hm:1*(4*t)<=v*(4*t):=Nat.mul_le_mul_right _ hw0;have:b=v*(4*t):=by rw[i1,<-Nat.mul_assoc 2 2 v,Nat.mul_comm (2*2) v,Nat.mul_assoc v]
   omega
  by_cases h:2*b+2*v<=l
  .have hd:dD cZ N k=1:=by unfold dD;rw[hw,<-hb,<-hl,hc,if_pos h]
   have hS:dS cZ N (k+1)=(b+2*v,(l-(2*b+2*v))*2):=by
    rw[dS,hw,<-hb,<-hl,hc,if_pos h,hor,Nat.mod_eq_of_lt (by omega)]
   refine⟨2*t+1,?_,?_,?_,?_,?_⟩
   .rw[hS,<-hv];dsimp only
    rw[i1,Nat.mul_add,Nat.mul_one];have:2*(2*v)*t=2*v*(2*t):=by simp[Nat.mul_comm,Nat.mul_left_comm,Nat.mul_assoc]
    omega
   .rw[dC,or_bit _ _ (Xq _ _ _),hd,i2,Nat.mod_eq_of_lt (by rw[i2]at htv;omega)];omega
   .rw[hS,<-hv];dsimp only;omega
   .rw[hS,<-hv];dsimp only
    rw[i4];obtain⟨m,hm⟩:∃m,l=2*b+2*v+m:=⟨l-(2*b+2*v),om⟩;rw[hm,(om:2*b+2*v+m-(2*b+2*v)=m)];simp only[Nat.add_mul,Nat.mul_add];have e1:2*b*(2*v)=2*v*b+b*(2*v):=by rw[Nat.mul_comm (2*v) b];rw[Nat.mul_assoc 2 b];omega
    have e2:m*2*v=m*(2*v):=Nat.mul_assoc _ _ _;omega
   .rw[hS,<-hv];dsimp only;omega
  .have hd:dD cZ N k=0:=by unfold dD;rw[hw,<-hb,<-hl,hc,if_neg h]
   have hS:dS cZ N (k+1)=(b,l*2):=by
    rw[dS,hw,<-hb,<-hl,hc,if_neg h,Nat.mod_eq_of_lt (by omega)]
   refine⟨2*t,?_,?_,?_,?_,?_⟩
   .rw[hS,<-hv];dsimp only
    rw[i1];simp[Nat.mul_comm,Nat.mul_left_comm,Nat.mul_assoc]
   .rw[dC,or_bit _ _ (Xq _ _ _),hd,i2,Nat.add_zero,Nat.mod_eq_of_lt (by rw[i2]at htv;omega)];omega
   .rw[hS,<-hv];dsimp only;omega
   .rw[hS,<-hv];dsimp only
    rw[i4,Nat.mul_assoc]
   .rw[hS,<-hv];dsimp only;omega
def Vr(N k:Nat)(h1:N<4611686018427387904)(hk:k<60):
  N*1152921504606846976=dC cZ N (k+1)*dW k*(dC cZ N (k+1)*dW k)+dR cZ N k*dW k/\dR cZ N k<2*(dC cZ N (k+1)*dW k)+dW k/\dC cZ N (k+1)<18446744073709551616:=by
 obtain⟨t,i1,i2,i3,i4,i5⟩:=aAZ N (k+1) h1 om;obtain⟨t0,j1,j2,j3,j4,j5⟩:=aAZ N k h1 om;have hw:dW k=2*dW (k+1):=by rw[zA k om,zA (k+1) om,(om:60-k=60-(k+1)+1),Nat.pow_succ,Nat.mul_comm]
 have hw0:0<dW (k+1):=by rw[zA (k+1) (by omega)];exact Nat.pow_pos de
 have rG:dR cZ N k<=(dS cZ N k).2 :=by unfold dR;split<;>omega
 have e1:=aHn cZ N k;rw[Nat.mod_eq_of_lt (by omega)]at e1;have e2:(dS cZ N (k+1)).1 =dC cZ N (k+1)*dW k:=by rw[i1,i2,hw,Nat.mul_comm]
 rw[e2]at i3 i4 i5;rw[e1]at i4 i5;refine⟨?_,om,?_⟩
 .rw[i4,Nat.mul_assoc (dR cZ N k) 2,<-hw]
 .have:dC cZ N (k+1)*1<=dC cZ N (k+1)*dW k:=Nat.mul_le_mul_left _ om;omega
def nv(M:Nat)(e:Int):Nat:=M*2^(e+6000).toNat
def VY(m k:Nat)(e0:Int)(h:0<=e0-k+6000):nv (m*2^k) (e0-k)=nv m e0:=by
 unfold nv;rw[(om:(e0+6000).toNat =k+(e0-k+6000).toNat),Nat.pow_add,Nat.mul_assoc]
def aH0(l:Nat)(P:Nat)(hp:p=P+1)(ho:one=((2^P:Nat):Int))(hE:1-mx<=E)(hl:(l:Int)<=2*one)(hb:E=1-mx\/one<=(l:Int))(hv:v=(l:Int)+one*(E-(1-mx)))
  (hq:0<=E-p+1+6000) (hm:v<one/\m=v/\e0=2-mx-p\/one<=v/\m=v%one+one/\e0=1-mx-p+v/one):0<=m/\nv m.toNat e0=nv l (E-p+1):=by
 have o0:0<one:=by rw[ho];exact Int.natCast_pos.mpr (Nat.pow_pos de)
 by_cases c:(l:Int)<one
 .have hE':E=1-mx:=om;rw[hE',Int.sub_self,Int.mul_zero]at hv;rcases hm with⟨a,b,d⟩|⟨a,b,d⟩
  .rw[b,hv,d];refine⟨om,?_⟩;rw[Int.add_zero,Int.toNat_natCast,(om:2-mx-p=E-p+1)]
  .exfalso;omega
 .obtain⟨k,hk⟩:∃k:Nat,E-(1-mx)=k:=⟨(E-(1-mx)).toNat,om⟩;rw[hk]at hv;have hk0:0<=one*(k:Int):=Int.mul_nonneg om om;rcases hm with⟨a,b,d⟩|⟨a,b,d⟩
  .exfalso;omega
  .by_cases c2:(l:Int)=2*one
   .have hv2:v=0+one*((k:Int)+2):=by rw[hv,c2,Int.mul_add];omega
    have AU:v%one=0:=by rw[hv2,Int.add_mul_emod_self_left];rfl
    have rY:v/one=(k:Int)+2:=by rw[hv2,Int.add_mul_ediv_left _ _ (by omega)];simp
    rw[b,d,AU,rY];refine⟨om,?_⟩;have h3:l=(0+one).toNat *2^1:=om;rw[h3,(om:E-p+1=(1-mx-p+((k:Int)+2))-((1:Nat):Int)),VY _ _ _ (by omega)]
   .have hv2:v=((l:Int)-one)+one*((k:Int)+1):=by rw[hv,Int.mul_add];omega
    have AU:v%one=(l:Int)-one:=by rw[hv2,Int.add_mul_emod_self_left];exact Int.emod_eq_of_lt om om
    have rY:v/one=(k:Int)+1:=by rw[hv2,Int.add_mul_ediv_left _ _ om,Int.ediv_eq_zero_of_lt om (by omega)];omega
    rw[b,d,AU,rY];refine⟨om,?_⟩;rw[(om:((l:Int)-one+one).toNat =l),(om:1-mx-p+((k:Int)+1)=E-p+1)]
def aDL(M:Nat)(e q:Int)(hM:0<M)(h0:dw M e q=0):0<bg M e q O:=by
 unfold dw at h0;unfold bg;split at h0
 .exfalso;have:=Nat.mul_pos hM (Nat.pow_pos (n:=(e-q).toNat) (show 0<2 by decide));omega
 .rename_i c
  rw[if_neg c];unfold hr;have hP:0<2^(q-e).toNat :=Nat.pow_pos de;have fF:M<2^(q-e).toNat :=by
   rcases Nat.lt_or_ge M (2^(q-e).toNat)with c|c
   .exact c
   .have:=Nat.div_pos c hP;omega
  obtain⟨d,hd⟩:∃d,(q-e).toNat =d+1:=⟨(q-e).toNat -1,om⟩;rw[hd,Nat.pow_succ]at fF;rw[hd,Nat.add_sub_cancel];by_cases c1:M%2^d=0
  .have h2:M/2^d%2=1:=by
    have h3:=Nat.div_add_mod M (2^d);have h4:M/2^d<2:=by rw[Nat.div_lt_iff_lt_mul (Nat.pow_pos de)];omega
    have h5:M/2^d≠0:=λh=>by rw[h,c1]at h3;omega
    clear h3;generalize M/2^d=t at*
    omega
   rw[if_pos h2];omega
  .rw[if_pos (show M%2^d≠0\/O=true from .inl c1)];omega
def U6(x y:Int)(J7:0<=x)(hx:aG x)(hy0:0<=y)(hy:aG y)(w:World):
  Calls Tryz.prog 280 #[Y x,Y y] w λe w'=>e=Z (aN (x*y/18446744073709551616) (x*y%18446744073709551616))/\∃c:Array Value,w'=w.alloc (.cells c 185):=by
 obtain⟨x1,hx1⟩:=dK (x/4294967296);obtain⟨x0,hxl⟩:=dK (x%4294967296);obtain⟨y1,hy1⟩:=dK (y/4294967296);obtain⟨y0,hyl⟩:=dK (y%4294967296);obtain⟨eq,a0,a1,b0,b1,c0,c1,d0,d1⟩:=halves x y x1 x0 y1 y0 om om om om om om om om om om;obtain⟨a,ha⟩:=dK (x1*y1);obtain⟨b,hb⟩:=dK (x1*y0);obtain⟨c,hc⟩:=dK (x0*y1);obtain⟨d,hd⟩:=dK (x0*y0);rw[ha,hb,hc,hd]at eq;rw[ha]at a0 a1;rw[hb]at b0 b1;rw[hc]at c0 c1;rw[hd]at d0 d1;have E:Hid _:=eq;clear eq;go_enter func280,ntmps280;go_wp2;go_returns;have e:=E.out;generalize x*y=p at*
 refine⟨aMv ?_ ?_,_,rfl⟩
 .exact aEK
 .exact aEK
def DV(f a b v u sg r:Int)(HS:KW 207 #[J f] (Y sg))(s0:¬sg=0)(hv:a.tmod sg=v)(hu:b.tmod sg=u)
  (hr:Hid (r=if v=0/\u=0 then 0 else if decide (sg<=a)≠decide (sg<=b)then(if sg<=a then-1 else 1)else if v=u then 0 else if decide (v<u)=decide (a<sg)then-1 else 1)) (w:World):
  QW 159 #[J f,Y a,Y b] w (J r):=by
 go_enter func159,ntmps159;go_wp2_with (go_at_call 207;refine kw (HS _) ?_);all_goals go_returns<;>exact⟨bU (congrArg (Value.int .i64) (by rw[hr.out];simp_all)),rfl⟩
abbrev fQ(w w1:World)(c s x g:Int):Prop:=aA w w1.heap.size 0 (J c)/\aA w w1.heap.size 1 (J s)/\aA w w1.heap.size 2 (J x)/\aA w w1.heap.size 3 (Y g)
def Gr.pt(h:Gr W w)(k:fQ W w1 c s x g:=by exact⟨kl,kl,kl,kl⟩):fQ w w1 c s x g:=⟨h.old k.1,h.old k.2.1,h.old k.2.2.1,h.old k.2.2.2⟩
def Gb.pt(h:Gb W w)(k:fQ W w1 c s x g:=by exact⟨kb,kb,kb,kb⟩):fQ w w1 c s x g:=⟨h.old k.1,h.old k.2.1,h.old k.2.2.1,h.old k.2.2.2⟩
def aEL{P:Prop}(h:P:=by
 go_enter func259,ntmps259;go_wp2_with (go_at_call 309;refine kw (aM6 _ _) ?_);go_returns;exact⟨rfl,rfl⟩):P:=h
def aEM{P:Prop}(h:P:=by
 go_enter func258,ntmps258;go_wp2_with (go_at_call 308;refine kw (aM7 _ _) ?_);go_returns;exact⟨rfl,rfl⟩):P:=h
def aM7(a:Int)(w:World):QW 308 #[J a] w (.bool O):=by
 go_enter func308,ntmps308;go_wp2;go_returns;exact⟨rfl,rfl⟩
def aM6(a:Int)(w:World):QW 309 #[Y a] w (.bool O):=by
 go_enter func309,ntmps309;go_wp2;go_returns;exact⟨rfl,rfl⟩
def NY(a b:Int)(w:World):QW 258 #[J a,J b] w (J (kU a b)):=by
 rcases Int.lt_trichotomy a b with c|c|c
 .rw[xO c];exact aEM
 .subst c;rw[wJ];exact aEM
 .rw[xP c];have c':decide (a<b)=O:=jl;exact aEM
def Xv(a b:Int)(w:World):QW 259 #[Y a,Y b] w (J (kU a b)):=by
 rcases Int.lt_trichotomy a b with c|c|c
 .rw[xO c];exact aEL
 .subst c;rw[wJ];exact aEL
 .rw[xP c];have c':decide (a<b)=O:=jl;exact aEL
def aDP(x y z:Int)(b cap:Nat)(w:World)(h0:aA w b 0 (J x))(h1:aA w b 1 (J y))(h2:aA w b 2 (J z))(hc:3<=cap):
  QW 257 #[aC b 3 cap] w (J (or3 x y z)):=by
 unfold or3;by_cases c1:x=0
 .subst c1;rw[if_neg (by decide)];by_cases c2:y=0
  .subst c2;rw[if_neg (by decide)];by_cases c3:z=0
   .subst c3;go_enter func257,ntmps257;go_wp2;refine wp_loop_rounds 4 ?_
    iterate 4 (rw[rounds_succ];go_wp2)
    go_returns;exact⟨rfl,rfl⟩
   .have e3:(z==0)=O:=by simp[c3]
    go_enter func257,ntmps257;go_wp2;refine wp_loop_rounds 3 ?_
    iterate 3 (rw[rounds_succ];go_wp2)
    go_returns;exact⟨rfl,rfl⟩
  .rw[if_pos c2];have e2:(y==0)=O:=by simp[c2]
   go_enter func257,ntmps257;go_wp2;refine wp_loop_rounds 2 ?_
   iterate 2 (rw[rounds_succ];go_wp2)
   go_returns;exact⟨rfl,rfl⟩
 .rw[if_pos c1];have e1:(x==0)=O:=by simp[c1]
  go_enter func257,ntmps257;go_wp2;refine wp_loop_rounds 1 ?_;rw[rounds_succ];go_wp2;go_returns;exact⟨rfl,rfl⟩
def VR(sx ex cx xh xl sy ey cy yh yl d:Int)(tx ty:Bool)(hs:sx≠sy)(hd:IntKind.i64.wrap (sy-sx)=d)(w:World):
  QR 190 #[aU sx ex cx xh xl tx 0,aU sy ey cy yh yl ty 0] w (J d):=by
 have c1:(sx==sy)=O:=by simp[hs]
 go_enter func190,ntmps190;go_wp2;go_returns;exact⟨by first|rfl|rw[hd],Gr.g⟩
def VQ(s ex cx xh xl ey cy yh yl c1 c2 c3 d r:Int)(tx ty:Bool)(h1:kU cx cy=c1)(h2:kU ex ey=c2)(h3:kU xl yl=c3)(hd:or3 c1 c2 c3=d)(hr:s=1/\wrap64 (-d)=r\/s≠1/\d=r)(w:World):
  QR 190 #[aU s ex cx xh xl tx 0,aU s ey cy yh yl ty 0] w (J r):=by
 have H1:KW 258 #[J cx,J cy] (J c1):=λw=>h1▸NY cx cy w;have H2:KW 258 #[J ex,J ey] (J c2):=λw=>h2▸NY ex ey w;have H3:KW 259 #[Y xl,Y yl] (J c3):=λw=>h3▸Xv xl yl w;have H4:Hid (∀(b cap:Nat) (w:World),aA w b 0 (J c1)->aA w b 1 (J c2)->aA w b 2 (J c3)->3<=cap->QW 257 #[aC b 3 cap] w (J d)):=λb cap w a1 a2 a3 a4=>hd▸aDP c1 c2 c3 b cap w a1 a2 a3 a4;clear h1 h2 h3 hd;rcases hr with⟨rfl,hr⟩|⟨hs,rfl⟩
 .go_enter func190,ntmps190;go_wp2;go_region_held3 (λw'=>jv w' w.heap.size 1 2 4 (J ex) (J cx) (Y xl)/\jv w' (w.heap.size+1) 1 2 4 (J ey) (J cy) (Y yl))(exact nX)(first|(go_at_call 258;first|(with_reducible refine kw (H1.out _) ?_)|(with_reducible refine kw (H2.out _) ?_))|(go_at_call 259;with_reducible refine kw (H3.out _) ?_)|(go_at_call 257;refine kw (H4 _ _ _ (by simp[go_sem]) (by simp[go_sem]) (by simp[go_sem]) de) ?_))
  all_goals go_wp2<;>go_returns
  all_goals exact⟨bU (congrArg (Value.int .i64) hr),Gr.g⟩
 .have c1:(s==1)=O:=by simp[hs]
  go_enter func190,ntmps190;go_wp2;go_region_held3 (λw'=>jv w' w.heap.size 1 2 4 (J ex) (J cx) (Y xl)/\jv w' (w.heap.size+1) 1 2 4 (J ey) (J cy) (Y yl))(exact nX)(first|(go_at_call 258;first|(with_reducible refine kw (H1.out _) ?_)|(with_reducible refine kw (H2.out _) ?_))|(go_at_call 259;with_reducible refine kw (H3.out _) ?_)|(go_at_call 257;refine kw (H4 _ _ _ (by simp[go_sem]) (by simp[go_sem]) (by simp[go_sem]) de) ?_))
  all_goals go_wp2<;>go_returns
  all_goals exact⟨rfl,Gr.g⟩
