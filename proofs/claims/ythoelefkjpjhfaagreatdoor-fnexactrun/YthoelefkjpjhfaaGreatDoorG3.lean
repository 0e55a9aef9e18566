import Derived.Test.YthoelefkjpjhfaaGreatDoorK3
set_option linter.all false
set_option maxRecDepth 1000000
set_option maxHeartbeats 40000000
open Bool renaming false → I
open Go.Proofs.YthoelefkjpjhfaaGreatDoor renaming vI → J, vU → Y
open Go.Ending renaming returned → Z
open Go.Value renaming bool → X, tuple → E
open Go.Proofs.Tryz
namespace Go.Proofs.YthoelefkjpjhfaaGreatDoor
open Go.RowKit
attribute [local go_sem] aA dB
variable{p mx one aI sg nan mn fb sp f t:Int}{w w':World}{v:Value}{n M L K N:Nat}
def FD(h:Big w v n M)(hn:n<=100000)(s e q:Int)(rest:Bool)(e0:-1000000<=e)(e1:e<=1000000)(q0:-1000000<=q)(q1:q<=1000000):
  CT 223 #[.agg #[J s,v,J e,X rest],J q] w λx w'=>∃v' k,x=Z (E #[v',J (bg M e q rest)])/\Big w' v' k (dw M e q)/\k<=n+70000/\Gb w w':=by
 by_cases hq:q<=e
 .exact aGq h hn s e q rest e0 e1 q0 hq
 .obtain⟨d,hd⟩:∃d:Nat,q-e=(d:Int):=⟨(q-e).toNat,om⟩;have d1:1<=d:=om;have eLo:dw M e q=M/2^d:=by unfold dw;rw[if_neg hq,hd];rfl
  have eHa:bg M e q rest=hr M d rest:=by unfold bg;rw[if_neg hq,hd];rfl
  rw[eLo,eHa];have fin:∀(H:Nat),hr M d rest=H->(CT 223 #[.agg #[J s,v,J e,X rest],J q] w λx w'=>∃v' k,x=Z (E #[v',J (H:Int)])/\Big w' v' k (M/2^d)/\k<=n/\Gb w w')->
    CT 223 #[.agg #[J s,v,J e,X rest],J q] w λx w'=>∃v' k,x=Z (E #[v',J (hr M d rest:Int)])/\Big w' v' k (M/2^d)/\k<=n+70000/\Gb w w':=by
   intro H hH hc;rw[hH];exact hc.mono (λx w' ⟨v',k,h1,h2,h3,h4⟩=>⟨v',k,h1,h2,om,h4⟩)
  by_cases hR:M%2^d=0
  .cases rest
   .exact fin 0 (DZ M d d1 hR) (aJm h hn s e q e0 e1 q1 d hd d1 _ _ _ rfl rfl rfl hR)
   .have hp:0<2^(d-1):=Nat.pow_pos de;refine fin 1 (aGH M d true d1 om (.inr rfl)) (aJl h hn s e q e0 e1 q1 d hd d1 _ _ _ rfl rfl rfl hR ?_);unfold iK;rw[if_pos (by omega)]
  .rcases Nat.lt_trichotomy (M%2^d) (2^(d-1))with c|c|c
   .refine fin 1 (aGH M d rest d1 c (.inl hR)) (aJk h hn s e q rest e0 e1 q1 d hd d1 _ _ _ rfl rfl rfl hR ?_);unfold iK;rw[if_pos c]
   .have hc:iK (M%2^d) (2^(d-1))=0:=by unfold iK;rw[if_neg om,if_neg (by omega)]
    cases rest
    .exact fin 2 (aNg M d d1 c) (aJj h hn s e q e0 e1 q1 d hd d1 _ _ _ rfl rfl rfl hR hc)
    .exact fin 3 (WU M d true d1 om (.inr rfl)) (aJi h hn s e q e0 e1 q1 d hd d1 _ _ _ rfl rfl rfl hR hc)
   .refine fin 3 (WU M d rest d1 om (.inl om)) (aJh h hn s e q rest e0 e1 q1 d hd d1 _ _ _ rfl rfl rfl hR ?_);unfold iK;rw[if_neg om,if_pos c]
def DX(h:Big w v n L)(hn:n<=500000)(aj aJ:Int)(half:Nat)(m0:0<=aj)(m1:aj<=4)(hs:aJ=0\/aJ=1)(hh:half<=3):
  CT 224 #[J aj,J aJ,v,J half] w λx w'=>∃v' k,x=Z v'/\Big w' v' k (chosen aj aJ L half)/\k<=n+3/\Gb w w':=by
 have Ou:∀b:Int,(L:Int)%2=b->Hid (∀w',w'=w->QW 154 #[v,J 0] w' (.int .u32 b)):=λb hb w' hw=>by subst hw;exact hb▸ZJ h om
 have CY:Hid (∀w',CT 132 #[Y 1] w' λx aT=>∃v' k,x=Z v'/\Big aT v' k 1/\k<=2/\Gb w' aT):=λw'=>gY 1 om w';have HAdd:Hid (∀v2 k2 w',Gb w w'->Big w' v2 k2 1->k2<=2->CT 227 #[v,v2] w' λx aT=>∃v' k,x=Z v'/\Big aT v' k (L+1)/\k<=n+3/\Gb w' aT):=λv2 k2 w' hg hb hk=>(FH (h.gb hg) om hb om).mono (λx aT ⟨v',k,h1,h2,h3,h4⟩=>⟨v',k,h1,h2,om,h4⟩);have HL:Hid (Big w v n L):=h;obtain⟨U,hU⟩:=x_n (up aj aJ L half);have hch:chosen aj aJ L half=L+(if U then 1 else 0):=by rw[hU];rfl
 rw[hch];have Qw:(aj=0/\(half:Int)=0/\U=I)\/(aj=0/\(half:Int)=1/\U=I)\/(aj=0/\(half:Int)=2/\(L:Int)%2=0/\U=I)\/(aj=0/\(half:Int)=2/\(L:Int)%2=1/\U=true)\/(aj=0/\(half:Int)=3/\U=true)\/
   (aj=1/\(half:Int)<2/\U=I)\/(aj=1/\2<=(half:Int)/\U=true)\/(aj=2/\U=I)\/
   (aj=3/\(half:Int)=0/\U=I)\/(aj=3/\0<(half:Int)/\aJ=0/\U=true)\/(aj=3/\0<(half:Int)/\aJ=1/\U=I)\/
   (aj=4/\(half:Int)=0/\U=I)\/(aj=4/\0<(half:Int)/\aJ=0/\U=I)\/(aj=4/\0<(half:Int)/\aJ=1/\U=true):=by
  unfold up at hU;cases U
  .have:=of_decide_eq_false hU.symm;simp only[true_and,and_true,Bool.false_eq_true,and_false,or_false,false_or];omega
  .have:=of_decide_eq_true hU.symm;simp only[true_and,and_true,Bool.true_eq_false,and_false,or_false,false_or];omega
 generalize(half:Int)=H at*
 clear hU hch h;rcases Qw with⟨rfl,rfl,rfl⟩|⟨rfl,rfl,rfl⟩|⟨rfl,rfl,hb,rfl⟩|⟨rfl,rfl,hb,rfl⟩|⟨rfl,rfl,rfl⟩|⟨rfl,c,rfl⟩|⟨rfl,c,rfl⟩|⟨rfl,rfl⟩|⟨rfl,rfl,rfl⟩|⟨rfl,c,rfl,rfl⟩|⟨rfl,c,rfl,rfl⟩|⟨rfl,rfl,rfl⟩|⟨rfl,c,rfl,rfl⟩|⟨rfl,c,rfl,rfl⟩
 all_goals
  first|(have HB:=Ou _ hb;clear Ou hb hs)|(have HB:Hid True:=trivial;clear Ou hs)
  go_enter func224,ntmps224;go_wp2_with (first|(go_at_call 154;refine kw (HB _ rfl) ?_)|(go_at_call 132;refine(CY _).mono ?_;rintro x w1 ⟨v1,k1,rfl,gU,jB,rJ⟩)|(go_at_call 227;refine(HAdd v1 k1 _ kg gU jB).mono ?_;rintro x w2 ⟨v2,k2,rfl,lC,lX,zk⟩))
  go_returns;first|exact⟨_,_,rfl,HL.out,om,kg⟩|exact⟨_,_,rfl,lC,om,kg⟩|exact⟨_,rfl,_,HL.out,om,kg⟩|exact⟨_,rfl,_,lC,om,kg⟩
def aH(K:Nat)(w:World)(v:Value)(N:Nat):Prop:=∃n,n<=K/\Big w v n N
abbrev sV(K N:Nat)(w:World)(e:Ending)(w':World):Prop:=∃b k c,aH K w' (aC b k c) N/\e=Z (aC b k c)/\Gb w w'
def aH.gb(h:aH K w v N)(k:Gb w w'):aH K w' v N:=by
 obtain⟨n,h1,h2⟩:=h;exact⟨n,h1,h2.gb k⟩
structure RC (f p mn mx one aj aJ:Int) (w:World):Prop where
 max:∀w,QW 206 #[J f] w (J mx)
 min:∀w,QW 215 #[J f] w (J mn)
 prec:∀w,QW 116 #[J f] w (J p)
 two:∀w,QW 117 #[J (p-1)] w (Y one)
 len:∀K v N w,K<=200000->aH K w v N->QW 221 #[v] w (J (nb N))
 word:∀v N w,aH 190000 w v N->aG N->QW 225 #[v] w (Y N)
 choose:∀v (L:Nat) (half:Nat) w,aH 180000 w v L->half<=3->CT 224 #[J aj,J aJ,v,J half] w λx w'=>∃v',x=Z v'/\aH 190000 w' v' (chosen aj aJ L half)/\Gb w w'
def aOD(h:bD f p mx one aI sg nan)(zU:1-mx=mn)(aj aJ:Int)(m0:0<=aj)(m1:aj<=4)(hs:aJ=0\/aJ=1)(w:World):RC f p mn mx one aj aJ w where
 max:=λw=>FB h w
 min:=λw=>zU▸wz h w
 prec:=λw=>qI h w
 two:=λw=>sF h w
 len:=λK v N w hK ⟨n,h1,h2⟩=>FC h2 om
 word:=λv N w ⟨n,h1,h2⟩ hN=>Na h2 om hN
 choose:=λv L half w ⟨n,h1,h2⟩ hh=>(DX h2 om aj aJ half m0 m1 hs hh).mono (λx w' ⟨v',k,a1,a2,a3,a4⟩=>⟨v',a1,⟨k,om,a2⟩,a4⟩)
def UN{P:Prop}(h:P:=by
 clear hU;cases lK<;>cases hb<;>cases U;all_goals
  simp only[Bool.false_or,Bool.true_or]at hrB;subst hrB;exact aOi):P:=h
def Vq(M:Nat)(hM:M<340282366920938463463374607431768211456)(drop aJ:Int)(bT:Bool)(k:Nat)(fv:Value)(hd:drop<=0)(d0:-128<=drop)(hk:0-drop=(k:Int))(h:M*2^k<18446744073709551616)(w:World):
  QR 254 #[fv,J drop,J aJ,aN ((M/18446744073709551616:Nat):Int) ((M%18446744073709551616:Nat):Int),X bT] w (E #[Y ((M*2^k:Nat):Int),X I]):=by
 have HS:KR 256 #[aN ((M/18446744073709551616:Nat):Int) ((M%18446744073709551616:Nat):Int),J (-drop)] (aN 0 ((M*2^k:Nat):Int)):=λw=>by
  rw[(om:-drop=(k:Int))];exact aQ2 M hM k om h w
 generalize((M/18446744073709551616:Nat):Int)=mh at*
 generalize((M%18446744073709551616:Nat):Int)=ml at*
 generalize((M*2^k:Nat):Int)=c at*
 clear h hk;have hfd:∀(w:World) (a b:Int),(Instr.field 185 (aN a b) 1).run Tryz.prog w=.ok (Y b) w:=λ_ _ _=>by kernel_rfl
 go_enter func254,ntmps254;go_wp2_with (go_at_call 256;refine(HS _).mono ?_;rintro e w1 ⟨rfl,ak⟩);go_returns;exact⟨rfl,kr⟩
def aOi{P:Prop}(h:P:=by
 go_enter func254,ntmps254;go_upto_region 4 with(go_at_call 244;refine(X3 _).mono ?_;rintro e w1 ⟨rfl,ak⟩);go_upto_region 5 with(go_at_call 244;refine(HS2 _).mono ?_;rintro e w2 ⟨rfl,aB⟩);go_wp2_with (first|(go_at_call 185;refine kw (HR _) ?_)|(go_at_call 294;refine kw (HR _) ?_)|(go_at_call 295;refine kw (HR _) ?_)|(go_at_call 296;refine kw (HR _) ?_)|(go_at_call 297;refine kw (HR _) ?_))
 go_returns;exact⟨by simp,kr⟩):P:=h
def Au(mh ml hh hl kh kl drop aJ o:Int)(lK hb bT sB oB rB U:Bool)(hd:0<drop)(d1:drop<=1000000)(hsB:(aJ==1)=sB)(ho:bits .and .u64 kl 1=o)(hoB:(o==1)=oB)(hrB:(lK||bT)=rB)(k0:0<=kl)(k1:kl<18446744073709551615)(hU:ru 0 sB oB hb rB=U)
  (X3:tZ mh ml (drop-1) hh hl lK)
  (HS2:tZ hh hl 1 kh kl hb) (w:World):
  QR 254 #[.func (.func 185) #[] #[],J drop,J aJ,aN mh ml,X bT] w (E #[Y (kl+(if U then 1 else 0)),X (hb||rB)]):=by
 have HR:KW 185 #[X sB,X oB,X hb,X rB] (X U):=λw=>hU▸rE sB oB hb rB w;exact UN
def Az(mh ml hh hl kh kl drop aJ o:Int)(lK hb bT sB oB rB U:Bool)(hd:0<drop)(d1:drop<=1000000)(hsB:(aJ==1)=sB)(ho:bits .and .u64 kl 1=o)(hoB:(o==1)=oB)(hrB:(lK||bT)=rB)(k0:0<=kl)(k1:kl<18446744073709551615)(hU:ru 1 sB oB hb rB=U)
  (X3:tZ mh ml (drop-1) hh hl lK)
  (HS2:tZ hh hl 1 kh kl hb) (w:World):
  QR 254 #[.func (.func 294) #[] #[],J drop,J aJ,aN mh ml,X bT] w (E #[Y (kl+(if U then 1 else 0)),X (hb||rB)]):=by
 have HR:KW 294 #[X sB,X oB,X hb,X rB] (X U):=λw=>hU▸xZ sB oB hb rB w;exact UN
def BM(mh ml hh hl kh kl drop aJ o:Int)(lK hb bT sB oB rB U:Bool)(hd:0<drop)(d1:drop<=1000000)(hsB:(aJ==1)=sB)(ho:bits .and .u64 kl 1=o)(hoB:(o==1)=oB)(hrB:(lK||bT)=rB)(k0:0<=kl)(k1:kl<18446744073709551615)(hU:ru 2 sB oB hb rB=U)
  (X3:tZ mh ml (drop-1) hh hl lK)
  (HS2:tZ hh hl 1 kh kl hb) (w:World):
  QR 254 #[.func (.func 295) #[] #[],J drop,J aJ,aN mh ml,X bT] w (E #[Y (kl+(if U then 1 else 0)),X (hb||rB)]):=by
 have HR:KW 295 #[X sB,X oB,X hb,X rB] (X U):=λw=>hU▸yN sB oB hb rB w;exact UN
def LJ(mh ml hh hl kh kl drop aJ o:Int)(lK hb bT sB oB rB U:Bool)(hd:0<drop)(d1:drop<=1000000)(hsB:(aJ==1)=sB)(ho:bits .and .u64 kl 1=o)(hoB:(o==1)=oB)(hrB:(lK||bT)=rB)(k0:0<=kl)(k1:kl<18446744073709551615)(hU:ru 3 sB oB hb rB=U)
  (X3:tZ mh ml (drop-1) hh hl lK)
  (HS2:tZ hh hl 1 kh kl hb) (w:World):
  QR 254 #[.func (.func 296) #[] #[],J drop,J aJ,aN mh ml,X bT] w (E #[Y (kl+(if U then 1 else 0)),X (hb||rB)]):=by
 have HR:KW 296 #[X sB,X oB,X hb,X rB] (X U):=λw=>hU▸KA sB oB hb rB w;exact UN
def E8(mh ml hh hl kh kl drop aJ o:Int)(lK hb bT sB oB rB U:Bool)(hd:0<drop)(d1:drop<=1000000)(hsB:(aJ==1)=sB)(ho:bits .and .u64 kl 1=o)(hoB:(o==1)=oB)(hrB:(lK||bT)=rB)(k0:0<=kl)(k1:kl<18446744073709551615)(hU:ru 4 sB oB hb rB=U)
  (X3:tZ mh ml (drop-1) hh hl lK)
  (HS2:tZ hh hl 1 kh kl hb) (w:World):
  QR 254 #[.func (.func 297) #[] #[],J drop,J aJ,aN mh ml,X bT] w (E #[Y (kl+(if U then 1 else 0)),X (hb||rB)]):=by
 have HR:KW 297 #[X sB,X oB,X hb,X rB] (X U):=λw=>hU▸D_ sB oB hb rB w;exact UN
def and_one(kl:Nat)(h:aG kl):bits .and .u64 (kl:Int) 1=((kl%2:Nat):Int):=by
 have:=u64_and_nat kl 1 h om;rw[show((1:Nat):Int)=1 from rfl]at this;rw[this,Nat.and_one_is_mod]
def aOA(aj aJ:Int)(M lo d:Nat)(rest:Bool)(m0:0<=aj)(m1:aj<=4)(hs:aJ=0\/aJ=1):
  ru aj (aJ==1) ((((lo%2:Nat):Int))==1) (decide (M/2^(d-1)%2≠0)) (decide (M%2^(d-1)≠0)||rest)=up aj aJ lo (hr M d rest)/\
  ((decide (M/2^(d-1)%2≠0))||(decide (M%2^(d-1)≠0)||rest))=decide (0<hr M d rest):=by
 obtain⟨H,hH⟩:=dK (M/2^(d-1)%2);obtain⟨R,hR⟩:=dK (M%2^(d-1));have hH2:H=0\/H=1:=by have:=Nat.mod_lt (M/2^(d-1)) (show 0<2 by decide);omega
 have hL:lo%2=0\/lo%2=1:=om;unfold hr;rw[hH,hR];unfold up ru;rcases(om:aj=0\/aj=1\/aj=2\/aj=3\/aj=4)with rfl|rfl|rfl|rfl|rfl<;>rcases hs with rfl|rfl<;>rcases hH2 with rfl|rfl<;>rcases hL with hL|hL<;>rw[hL]<;>cases rest<;>by_cases hz:R=0<;>simp[hz]
def uw(aj:Int)(k:Nat)(hk:xU aj k)(aJ:Int)(hs:aJ=0\/aJ=1)(M:Nat)(hM:M<340282366920938463463374607431768211456)(e q drop:Int)(bT:Bool)(hd:drop=q-e)(d0:-128<=drop)(d1:drop<=1000000)(hst:drop<=0->bT=I)(Uf:dw M e q<18446744073709551615)(w:World):
  QR 254 #[.func (.func k) #[] #[],J drop,J aJ,aN ((M/18446744073709551616:Nat):Int) ((M%18446744073709551616:Nat):Int),X bT] w (E #[Y ((chosen aj aJ (dw M e q) (bg M e q bT):Nat):Int),X (decide (0<bg M e q bT))]):=by
 have m01:0<=aj/\aj<=4:=by rcases hk with h|h|h|h|h<;>omega
 by_cases hq:q<=e
 .have aRQ:=hst om;subst aRQ;have eLo:dw M e q=M*2^(e-q).toNat :=by unfold dw;rw[if_pos hq]
  have eHa:bg M e q I=0:=by unfold bg;rw[if_pos hq];rfl
  have eCh:chosen aj aJ (dw M e q) 0=M*2^(e-q).toNat :=by
   rw[eLo];unfold chosen up;rw[if_neg (by simp)];rfl
  rw[eHa,eCh];rw[eLo]at Uf;refine(Vq M hM drop aJ I (e-q).toNat _ om d0 om om w).mono ?_;rintro x w' ⟨rfl,hg⟩;exact⟨by simp,hg⟩
 .obtain⟨d,hdd⟩:∃d:Nat,q-e=(d:Int):=⟨(q-e).toNat,om⟩;have d1':1<=d:=om;have eLo:dw M e q=M/2^d:=by unfold dw;rw[if_neg hq,hdd];rfl
  have eHa:bg M e q bT=hr M d bT:=by unfold bg;rw[if_neg hq,hdd];rfl
  rw[eLo]at Uf;rw[eLo,eHa];obtain⟨hU,hI⟩:=aOA aj aJ M (M/2^d) d bT m01.1 m01.2 hs;have hHd:M/2^(d-1)/2^1=M/2^d:=by
   rw[Nat.div_div_eq_div_mul,<-Nat.pow_add,(om:d-1+1=d)]
  have hb:M/2^(d-1)<340282366920938463463374607431768211456:=Nat.lt_of_le_of_lt (Nat.div_le_self _ _) hM;have X3:tZ ((M/18446744073709551616:Nat):Int) ((M%18446744073709551616:Nat):Int) (drop-1) ((M/2^(d-1)/18446744073709551616:Nat):Int) ((M/2^(d-1)%18446744073709551616:Nat):Int) (decide (M%2^(d-1)≠0)):=λw=>by
   rw[(om:drop-1=((d-1:Nat):Int))];exact aMq M hM (d-1) w
  have HS2:tZ ((M/2^(d-1)/18446744073709551616:Nat):Int) ((M/2^(d-1)%18446744073709551616:Nat):Int) 1 ((M/2^d/18446744073709551616:Nat):Int) ((M/2^d%18446744073709551616:Nat):Int) (decide (M/2^(d-1)%2≠0)):=λw=>by
   have:=aMq (M/2^(d-1)) hb 1 w;rw[hHd,Nat.pow_one]at this;exact this
  have hK:M/2^d%18446744073709551616=M/2^d:=Nat.mod_eq_of_lt om;rw[hK]at HS2;have Pz:∀x w',(x=Ending.returned (E #[Y (((M/2^d:Nat):Int)+(if up aj aJ (M/2^d) (hr M d bT)then 1 else 0)),X (decide (M/2^(d-1)%2≠0)||(decide (M%2^(d-1)≠0)||bT))])/\Gr w w')->
    (x=Ending.returned (E #[Y ((chosen aj aJ (M/2^d) (hr M d bT):Nat):Int),X (decide (0<hr M d bT))])/\Gr w w'):=by
   rintro x w' ⟨rfl,hg⟩;refine⟨?_,hg⟩;rw[hI];unfold chosen;split<;>simp
  rcases hk with⟨rfl,rfl⟩|⟨rfl,rfl⟩|⟨rfl,rfl⟩|⟨rfl,rfl⟩|⟨rfl,rfl⟩
  .exact(Au _ _ _ _ _ _ drop aJ _ _ _ bT _ _ _ _ om d1 rfl (and_one _ om) rfl rfl om om hU X3 HS2 w).mono (λx w' h=>Pz x w' h)
  .exact(Az _ _ _ _ _ _ drop aJ _ _ _ bT _ _ _ _ om d1 rfl (and_one _ om) rfl rfl om om hU X3 HS2 w).mono (λx w' h=>Pz x w' h)
  .exact(BM _ _ _ _ _ _ drop aJ _ _ _ bT _ _ _ _ om d1 rfl (and_one _ om) rfl rfl om om hU X3 HS2 w).mono (λx w' h=>Pz x w' h)
  .exact(LJ _ _ _ _ _ _ drop aJ _ _ _ bT _ _ _ _ om d1 rfl (and_one _ om) rfl rfl om om hU X3 HS2 w).mono (λx w' h=>Pz x w' h)
  .exact(E8 _ _ _ _ _ _ drop aJ _ _ _ bT _ _ _ _ om d1 rfl (and_one _ om) rfl rfl om om hU X3 HS2 w).mono (λx w' h=>Pz x w' h)
def Gy(a b:Int):jQ (a*b/18446744073709551616) (a*b%18446744073709551616) (bnd 63).toNat =share a b:=by
 have e:(bnd 63).toNat =63:=de;rw[e];unfold jQ share;rw[(om:a*b/18446744073709551616*18446744073709551616+a*b%18446744073709551616=a*b)];rfl
def aFU(a b:Int)(a0:0<=a)(a1:aG a)(b0:0<=b)(b1:aG b)(w:World):
  QR 217 #[Y a,Y b] w (Y (share a b)):=by
 obtain⟨p0,p1⟩:=BR a b a0 a1 b0 b1;have e0:=Gy a b;generalize share a b=s at*
 have H1:KR 280 #[Y a,Y b] (aN (a*b/18446744073709551616) (a*b%18446744073709551616)):=λw=>(U6 a b a0 a1 b0 b1 w).mono λe w' ⟨h,c,hw⟩=>⟨h,by subst hw;exact kr⟩;have H2:Hid (∀w,CT 279 #[aN (a*b/18446744073709551616) (a*b%18446744073709551616),J 63] w λe w'=>∃x y,e=Z (E #[aN x s,X y])/\Gr w w'):=λw=>(U4 _ _ 63 om om om om w).mono λe w' ⟨h,c1,c2,hw⟩=>⟨_,_,h.trans (by rw[e0]),by subst hw;exact kr⟩;clear e0;generalize a*b/18446744073709551616=x at*
 generalize a*b%18446744073709551616=y at*
 go_enter func217,ntmps217;go_wp2_with (first|(go_at_call 280;refine(H1 _).mono ?_;rintro e w1 ⟨rfl,ak⟩)|(go_at_call 279;refine(H2 _).mono ?_;rintro e w2 ⟨x2,y2,rfl,aB⟩))
 go_returns;exact⟨rfl,kr⟩
def aAX(a b:Int)(a0:0<=a)(a1:aG a)(b0:0<=b)(b1:aG b)(w:World):
  QR 278 #[Y a,Y b] w (Y (share a b)):=by
 obtain⟨p0,p1⟩:=BR a b a0 a1 b0 b1;have e0:=Gy a b;generalize share a b=s at*
 have H1:KR 178 #[Y a,Y b] (aN (a*b/18446744073709551616) (a*b%18446744073709551616)):=IW a b a0 a1 b0 b1;have H2:Hid (∀w,CT 244 #[aN (a*b/18446744073709551616) (a*b%18446744073709551616),J 63] w λe w'=>∃x y,e=Z (E #[aN x s,X y])/\Gr w w'):=λw=>(yQ _ _ 63 om om om om w).mono λe w' ⟨h,hw⟩=>⟨_,_,h.trans (by rw[e0]),hw⟩;clear e0;generalize a*b/18446744073709551616=x at*
 generalize a*b%18446744073709551616=y at*
 go_enter func278,ntmps278;go_wp2_with (first|(go_at_call 178;refine(H1 _).mono ?_;rintro e w1 ⟨rfl,ak⟩)|(go_at_call 244;refine(H2 _).mono ?_;rintro e w2 ⟨x2,y2,rfl,aB⟩))
 go_returns;exact⟨rfl,kr⟩
def aHi(w:World):CT 281 #[] w λe w'=>∃b,e=Z (aC b 38 38)/\Gr w w'/\∀i,i<38->aA w' b i (Y (kS i)):=by
 go_enter func281,ntmps281;go_wp2;go_returns;exact⟨_,rfl,kr,λi hi=>(World.cell?_alloc_new _ _ _ _).trans (QA i hi)⟩
def aKf(w:World):QW 117 #[J 38] w (Y 274877906944):=kN 38 _ om de w
def two63(w:World):QW 117 #[J 63] w (Y 9223372036854775808):=kN 63 _ om de w
def aDC(t:Int)(k:Nat):t/2^k/2=t/2^(k+1):=by
 rw[Int.pow_succ,Int.ediv_ediv_of_nonneg (Int.pow_nonneg de)]
def VH(h0:0<=t)(h1:aG t)(k:Nat):0<=t/2^k/\t/2^k<18446744073709551616:=
 ⟨Int.ediv_nonneg h0 (Int.pow_nonneg de),Int.lt_of_le_of_lt (Int.ediv_le_self _ h0) h1⟩
def aJM(t:Int)(h0:0<=t)(h1:aG t)(w:World):
  QR 218 #[Y t] w (Y (mP t)):=by
 by_cases hb:t<274877906944
 .have hn:mP t=dec t 38:=if_pos hb;rw[hn];have AV:¬274877906944<=t:=om;clear hn;go_enter func218,ntmps218;go_upto_region 3 with(go_at_call 117;refine kw (aKf _) ?_);go_upto_region 4 with(go_at_call 281;refine(aHi _).mono ?_;rintro e w1 ⟨b,rfl,hg0,W_⟩);go_wp2_with (go_at_call 117;refine kw (two63 _) ?_);have hc:Hid _:=W_;have hg:Hid (Gr w w1):=hg0;clear W_ hg0;go_loopw [0,4,5] (λx y i wr=>∃k:Nat,k<=38/\x=Y (t/2^k)/\y=Y (dec t k)/\i=J k/\Hid (Gr w1 wr)) (λ_ _ i _=>38-(intOf i).toNat)
  case atStart=>exact⟨0,om,by rw[Int.pow_zero,Int.ediv_one],rfl,rfl,Gr.refl _⟩
  case round=>
   obtain⟨k,hk,rfl,rfl,rfl,hr⟩:=hrel
   rename_i wr
   by_cases h:(k:Int)<38
   .have q:=hr.out.old (hc.out k om);obtain⟨t0,t1⟩:=Ad k;obtain⟨d0,d1⟩:=aAj t k;obtain⟨x0,x1⟩:=VH h0 h1 k;have HS:Hid (dec t (k+1)=if t/2^k%2=1 then share (dec t k) (kS k)else dec t k):=rfl;have HX:Hid (t/2^k/2=t/2^(k+1)):=aDC t k;have HY:KR 217 #[Y (dec t k),Y (kS k)] (Y (share (dec t k) (kS k))):=aFU _ _ d0 om t0 om;generalize t/2^k=x at*
    generalize share (dec t k) (kS k)=z at*
    generalize dec t k=y at*
    generalize kS k=f at*
    by_cases hb:x%2=1
    .go_wp2_with (go_at_call 217;refine(HY _).mono ?_;rintro e w2 ⟨rfl,aB⟩);go_roundw
     case rel=>exact⟨k+1,om,by rw[<-HX.out],by rw[HS.out,if_pos hb],by go_num,hr.out.trans aB⟩
     case measure=>exact uz
    .have lC:x%2=0:=om;have HB:Hid (¬x%2=1):=hb;clear hb;go_wp2;go_roundw
     case rel=>exact⟨k+1,om,by rw[<-HX.out],by rw[HS.out,if_neg HB.out],by go_num,hr⟩
     case measure=>exact uz
   .obtain rfl:k=38:=om;go_wp2;go_returns;exact⟨rfl,hg.out.trans hr.out⟩
 .have hn:mP t=0:=if_neg hb;rw[hn];have AV:274877906944<=t:=om;clear hn hb;go_enter func218,ntmps218;go_wp2_with (go_at_call 117;refine kw (aKf _) ?_);go_returns;exact⟨rfl,Gr.refl _⟩
def aJN(t:Int)(h0:0<=t)(h1:aG t)(hT:Dc w):
  QR 277 #[Y t] w (Y (mP t)):=by
 have hsh:t/2^38=t/274877906944:=rfl;by_cases hb:t<274877906944
 .have hn:mP t=dec t 38:=if_pos hb;rw[hn];have AV:t/274877906944=0:=om;clear hn;obtain⟨tt,fr,hg⟩:=hT;have hc:Hid (∀i,i<38->qw[i]?=some (Y (kS i))):=QA;have hz:qw.size=38:=rfl;generalize qw=cs at*
  go_enter func277,ntmps277;go_wp2_with (refine wpList_load_row rfl 306 _ rfl 3 rfl tt cs fr _ hg Tryz.underlying306 rfl (by rw[hz];kernel_rfl) ?_);go_loopw [3,10] (λy i wr=>∃k:Nat,k<=38/\y=Y (dec t k)/\i=J k/\Hid (Gr w wr)) (λ_ i _=>38-(intOf i).toNat)
  case atStart=>exact⟨0,om,rfl,rfl,Gr.refl _⟩
  case round=>
   obtain⟨k,hk,rfl,rfl,hr⟩:=hrel
   rename_i wr
   by_cases h:(k:Int)<38
   .have q:=Qr Tryz.underlying306 (om:k<38) (hc.out k om) wr;obtain⟨t0,t1⟩:=Ad k;obtain⟨d0,d1⟩:=aAj t k;obtain⟨x0,x1⟩:=VH h0 h1 k;have aSC:=and_one_u64 (t/2^k) x0 om;have HS:Hid (dec t (k+1)=if t/2^k%2=1 then share (dec t k) (kS k)else dec t k):=rfl;have HY:KR 278 #[Y (dec t k),Y (kS k)] (Y (share (dec t k) (kS k))):=aAX _ _ d0 om t0 om;generalize share (dec t k) (kS k)=z at*
    generalize dec t k=y at*
    generalize kS k=f at*
    by_cases hb:t/2^k%2=1
    .go_wp2_with (go_at_call 278;refine(HY _).mono ?_;rintro e w2 ⟨rfl,aB⟩);go_roundw
     case rel=>exact⟨k+1,om,by rw[HS.out,if_pos hb],by go_num,hr.out.trans aB⟩
     case measure=>exact uz
    .have lC:t/2^k%2=0:=om;have HB:Hid (¬t/2^k%2=1):=hb;clear hb;go_wp2;go_roundw
     case rel=>exact⟨k+1,om,by rw[HS.out,if_neg HB.out],by go_num,hr⟩
     case measure=>exact uz
   .obtain rfl:k=38:=om;go_wp2;go_returns;exact⟨rfl,hr.out⟩
 .have hn:mP t=0:=if_neg hb;rw[hn];have AV:(t/274877906944==0)=I:=jl;clear hn;go_enter func277,ntmps277;go_wp2;go_returns;exact⟨rfl,Gr.refl _⟩
def aLy{P:Prop}(h:P:=by
 have:2^P=2^(nb V-1)*2^k:=by rw[<-Nat.pow_add];congr 1;omega
 rw[this];exact Nat.mul_le_mul_right _ Uf):P:=h
def aLz{P:Prop}(h:P:=by
 have:2*2^P=2^nb V*2^k:=by rw[<-Nat.pow_add,Nat.mul_comm,<-Nat.pow_succ];congr 1;omega
 rw[this];exact Nat.mul_lt_mul_of_pos_right hhi (Nat.pow_pos de)):P:=h
def mX(k:Nat):((2^k:Nat):Int)=(2:Int)^k:=by push_cast;rfl
def aAf(h:wQ p mn mx fb sp one aI sg nan)(s v:Int)(v0:0<v)(v1:v<aI)(w:World):
  CT 299 #[jX p mn mx,J s,Y v] w λe w'=>∃x g:Int,lW p mx one v x g/\e=Z (d_ 1 s x g)/\Gr w w':=by
 have hp:∃P:Nat,(P:Int)=p-1/\one=2^P/\P<=52:=by
  rcases h with⟨rfl,rfl,rfl,rfl,rfl,rfl,rfl,rfl,rfl⟩|⟨rfl,rfl,rfl,rfl,rfl,rfl,rfl,rfl,rfl⟩
  .exact⟨23,de,de,de⟩
  .exact⟨52,de,de,de⟩
 obtain⟨P,hP,AQ,aSF⟩:=hp;have zU:mn-fb=2-mx-p:=by rcases h with h|h<;>omega
 have h52:one<=4503599627370496:=by rcases h with h|h<;>omega
 have h1:0<one:=by rcases h with h|h<;>omega
 by_cases hs:v<one
 .obtain⟨V,rfl⟩:=Int.eq_ofNat_of_zero_le (om:0<=v);have hVP:V<2^P:=by
   have:((V:Nat):Int)<((2^P:Nat):Int):=by rw[mX,<-AQ];exact hs
   omega
  have Tf:nb V<=P:=sW hVP;have hb:=Ak V om;have jm:=BP V om;have Uf:=V_ V om;have hhi:=yX V;obtain⟨k,hk⟩:∃k:Nat,k+nb V=P+1:=⟨P+1-nb V,om⟩;have e1:2^P<=V*2^k:=by
   exact aLy
  have e2:V*2^k<2*2^P:=by
   exact aLz
  have hP2:(2:Nat)^P<=4503599627370496:=by
   have:=Nat.pow_le_pow_right (show 0<2 by decide) aSF
   simpa using this
  have Qu:one=((2^P:Nat):Int):=by rw[mX];exact AQ
  have c1:(V:Int)*2^k=((V*2^k:Nat):Int):=by rw[Int.natCast_mul,mX]
  generalize V*2^k=G at*
  generalize(2:Nat)^P=O at*
  refine(TJ h s (V:Int) om hs (nb V:Int) k (by rw[Int.toNat_natCast,hb]) om om (G:Int) c1 om om w).mono ?_;rintro e w' ⟨rfl,hg⟩;exact⟨_,_,⟨k,V,2-mx-p,.inl ⟨hs,rfl,rfl⟩,c1.symm,om,om,om⟩,rfl,hg⟩
 .have hq:1<=v/one:=by
   have:=Int.le_ediv_of_mul_le h1 (om:1*one<=v);omega
  have hdm:=Int.ediv_mul_add_emod v one;have Ox:=Int.emod_nonneg v (om:one≠0);have tK:=Int.emod_lt_of_pos v h1;obtain⟨c,hc⟩:=x_n (v%one+one:Int);have Oz:v-(v/one-1)*one=c:=by rw[Int.sub_mul];omega
  obtain⟨C,rfl⟩:=Int.eq_ofNat_of_zero_le (om:0<=c);have Qu:one=((2^P:Nat):Int):=by rw[mX];exact AQ
  have hCb:nb C=P+1:=by
   have a1:2^P<=C:=by generalize(2:Nat)^P=O at*;omega
   have a2:C<2^(P+1):=by rw[Nat.pow_succ];generalize(2:Nat)^P=O at*;omega
   have:=sW a2;have:=yg a1;omega
  have hb:=Ak C om;refine(aAe h s v (v/one-1) (C:Int) om om om v1 Oz om om (nb C:Int) 0 (by rw[Int.toNat_natCast,hb]) om om (C:Int) (by simp) om om w).mono ?_;rintro e w' ⟨rfl,hg⟩;exact⟨_,_,⟨0,C,1-mx-p+v/one,.inr ⟨om,hc,rfl⟩,by simp,om,om,om⟩,rfl,hg⟩
def wQ.bounds(h:wQ p mn mx fb sp one aI sg nan):0<aI/\aI<nan/\nan<sg/\sg<=9223372036854775808/\0<one/\one<aI:=by
 rcases h with h|h<;>omega
def aEX(W sg:Int)(h0:0<=W)(h1:W<2*sg):W/sg=0/\W%sg=W/\W<sg\/W/sg=1/\W%sg=W-sg/\sg<=W:=by
 by_cases c:W<sg
 .exact .inl ⟨Int.ediv_eq_zero_of_lt h0 c,Int.emod_eq_of_lt h0 c,c⟩
 .have e:W=(W-sg)+sg*1:=om;have e1:W/sg=1:=by
   rw[e,Int.add_mul_ediv_left _ _ om,Int.ediv_eq_zero_of_lt om (by omega)];rfl
  have e2:=Int.emod_add_mul_ediv W sg;rw[e1]at e2;exact .inr ⟨e1,om,om⟩
def Yl(h:wQ p mn mx fb sp one aI sg nan)(W:Int)(h0:0<=W)(h1:W<2*sg)(w:World):
  CT 241 #[jX p mn mx,Y W] w λe w'=>∃c s x g:Int,fV p mx one aI sg nan W c s x g/\e=Z (d_ c s x g)/\Gr w w':=by
 obtain⟨b1,b2,b3,b4,b5,b6⟩:=h.bounds;have HS:KR 298 #[jX p mn mx,Y W] (J (W/sg)):=λw=>YI h W h0 h1 w;have HM:KR 272 #[jX p mn mx,Y W] (Y (W%sg)):=λw=>A8 h W h0 h1 w;have HI:yB p mn mx 0 aI:=λw=>mD h 0 aI (.inl ⟨rfl,rfl⟩) w;have HN:KR 238 #[jX p mn mx] (Y nan):=λw=>J5 h w;have hsv:Hid (W/sg=0/\W%sg=W/\W<sg\/W/sg=1/\W%sg=W-sg/\sg<=W):=aEX W sg h0 h1;generalize W/sg=s at*
 generalize W%sg=v at*
 have v0:0<=v/\v<sg/\0<=s/\s<=1:=by have:=hsv.out;omega
 have yK:Hid (0<v->v<aI->∀w,CT 299 #[jX p mn mx,J s,Y v] w λe w'=>∃x g:Int,lW p mx one v x g/\e=Z (d_ 1 s x g)/\Gr w w'):=λa b w=>aAf h s v a b w;have hU:Hid (∀c e g:Int,(v=0/\c=0/\e=0/\g=0\/aI<v/\v<nan/\c=4/\e=0/\g=0\/nan<=v/\c=3/\e=0/\g=0\/v=aI/\c=2/\e=0/\g=0\/0<v/\v<aI/\c=1/\lW p mx one v e g)->fV p mx one aI sg nan W c s e g):=λc e g hc=>⟨v,hsv.out,hc⟩;have HFt:F9 p mn mx W true:=λw=>by
  have:=fits_any h W h0 om w;rw[decide_eq_true h1]at this;exact this
 clear h;rcases(om:v=0\/(0<v/\v<aI)\/v=aI\/(aI<v/\v<nan)\/nan<=v)with rfl|⟨c1,c2⟩|c1|⟨c1,c2⟩|c1
 .skip
  go_enter func241,ntmps241;go_wp2_with (go_at_call 169;refine(HFt _).mono ?_;rintro e w2 ⟨rfl,aB⟩;obtain⟨pm0,pm1,pm2⟩:jv w2 w.heap.size 0 1 2 (J p) (J mn) (J mx):=⟨kq,kq,kq⟩;obtain⟨oM,aFP,pr1,aFO,pr2,aFN,pr3,aFM⟩:qL w2 (w.heap.size+1) 0 1 2 3 (J 0) (J 0) (J 0) (Y 0):=⟨kq,kq,kq,kq,kq,kq,kq,kq⟩);go_region_held3 (λw'=>aA w' w.heap.size 0 (J p)/\aA w' w.heap.size 1 (J mn)/\aA w' w.heap.size 2 (J mx)/\aA w' (w.heap.size+1) 0 (J 0)/\dB w' (w.heap.size+1) 0/\aA w' (w.heap.size+1) 1 (J 0)/\dB w' (w.heap.size+1) 1/\aA w' (w.heap.size+1) 2 (J 0)/\dB w' (w.heap.size+1) 2/\aA w' (w.heap.size+1) 3 (Y 0)/\dB w' (w.heap.size+1) 3)((go_split_ands;(repeat' apply And.intro)<;>exact kl))(first|(go_at_call 298;refine(HS _).mono ?_;rintro e w3 ⟨rfl,aK⟩;have Bo:=aK.cells;have Bg:=aK.dX;have mY:=aK.size;(try simp only[World.size_alloc,World.size_drew,World.size_setCell]at mY))|(go_at_call 272;refine(HM _).mono ?_;rintro e w4 ⟨rfl,aV⟩;have NG:=aV.cells;have Nz:=aV.dX;have tJ:=aV.size;(try simp only[World.size_alloc,World.size_drew,World.size_setCell]at tJ)))
  all_goals
   (try go_split_ands)
   go_wp2_with (first|(go_at_call 240;refine(HI _).mono ?_;rintro e w5 ⟨rfl,bJ⟩;obtain⟨am0,am1,am2⟩:jv w5 w.heap.size 0 1 2 (J p) (J mn) (J mx):=⟨kq,kq,kq⟩;obtain⟨gG,Uk,Di,Uj,ar2,az2,ar3,az3⟩:qL w5 (w.heap.size+1) 0 1 2 3 (J 0) (J 0) (J 0) (Y 0):=⟨kq,kq,kq,kq,kq,kq,kq,kq⟩)|(go_at_call 238;refine(HN _).mono ?_;rintro e w6 ⟨rfl,fK⟩;obtain⟨jT,bz0,br1,bz1,br2,bz2,br3,bz3⟩:qL w6 (w.heap.size+1) 0 1 2 3 (J 0) (J 0) (J 0) (Y 0):=⟨kq,kq,kq,kq,kq,kq,kq,kq⟩)|(go_at_call 299;refine(yK om om _).mono ?_;rintro e w7 ⟨x,g,hn,rfl,ji⟩;obtain⟨wI,cz0,cr1,cz1,cr2,cz2,cr3,cz3⟩:qL w7 (w.heap.size+1) 0 1 2 3 (J 0) (J 0) (J 0) (Y 0):=⟨kq,kq,kq,kq,kq,kq,kq,kq⟩))
   refine bodyPost_ret (v:=d_ 0 s 0 0) (by simp[results,Tryz.results241,go_sem,gG,Di,ar2,ar3]) rfl ⟨0,s,0,0,hU.out _ _ _ (by first|exact .inl ⟨rfl,rfl,rfl,rfl⟩|exact .inl ⟨trivial,rfl,rfl,rfl⟩),rfl,?_⟩;exact kr
 .have c3:(v==0)=I:=jl;go_enter func241,ntmps241;go_wp2_with (go_at_call 169;refine(HFt _).mono ?_;rintro e w2 ⟨rfl,aB⟩;obtain⟨pm0,pm1,pm2⟩:jv w2 w.heap.size 0 1 2 (J p) (J mn) (J mx):=⟨kq,kq,kq⟩;obtain⟨oM,aFP,pr1,aFO,pr2,aFN,pr3,aFM⟩:qL w2 (w.heap.size+1) 0 1 2 3 (J 0) (J 0) (J 0) (Y 0):=⟨kq,kq,kq,kq,kq,kq,kq,kq⟩);go_region_held3 (λw'=>aA w' w.heap.size 0 (J p)/\aA w' w.heap.size 1 (J mn)/\aA w' w.heap.size 2 (J mx)/\aA w' (w.heap.size+1) 0 (J 0)/\dB w' (w.heap.size+1) 0/\aA w' (w.heap.size+1) 1 (J 0)/\dB w' (w.heap.size+1) 1/\aA w' (w.heap.size+1) 2 (J 0)/\dB w' (w.heap.size+1) 2/\aA w' (w.heap.size+1) 3 (Y 0)/\dB w' (w.heap.size+1) 3)((go_split_ands;(repeat' apply And.intro)<;>exact kl))(first|(go_at_call 298;refine(HS _).mono ?_;rintro e w3 ⟨rfl,aK⟩;have Bo:=aK.cells;have Bg:=aK.dX;have mY:=aK.size;(try simp only[World.size_alloc,World.size_drew,World.size_setCell]at mY))|(go_at_call 272;refine(HM _).mono ?_;rintro e w4 ⟨rfl,aV⟩;have NG:=aV.cells;have Nz:=aV.dX;have tJ:=aV.size;(try simp only[World.size_alloc,World.size_drew,World.size_setCell]at tJ)))
  all_goals
   (try go_split_ands)
   go_wp2_with (first|(go_at_call 240;refine(HI _).mono ?_;rintro e w5 ⟨rfl,bJ⟩;obtain⟨am0,am1,am2⟩:jv w5 w.heap.size 0 1 2 (J p) (J mn) (J mx):=⟨kq,kq,kq⟩;obtain⟨gG,Uk,Di,Uj,ar2,az2,ar3,az3⟩:qL w5 (w.heap.size+1) 0 1 2 3 (J 0) (J 0) (J 0) (Y 0):=⟨kq,kq,kq,kq,kq,kq,kq,kq⟩)|(go_at_call 238;refine(HN _).mono ?_;rintro e w6 ⟨rfl,fK⟩;obtain⟨jT,bz0,br1,bz1,br2,bz2,br3,bz3⟩:qL w6 (w.heap.size+1) 0 1 2 3 (J 0) (J 0) (J 0) (Y 0):=⟨kq,kq,kq,kq,kq,kq,kq,kq⟩)|(go_at_call 299;refine(yK om om _).mono ?_;rintro e w7 ⟨x,g,hn,rfl,ji⟩;obtain⟨wI,cz0,cr1,cz1,cr2,cz2,cr3,cz3⟩:qL w7 (w.heap.size+1) 0 1 2 3 (J 0) (J 0) (J 0) (Y 0):=⟨kq,kq,kq,kq,kq,kq,kq,kq⟩))
   refine bodyPost_ret (v:=d_ 1 s x g) (by simp[results,Tryz.results241,go_sem,wI,cr1,cr2,cr3]) rfl ⟨1,s,x,g,hU.out _ _ _ (.inr (.inr (.inr (.inr ⟨c1,c2,rfl,hn⟩)))),rfl,?_⟩;exact kr
 .subst c1;have c3:(v==0)=I:=jl;go_enter func241,ntmps241;go_wp2_with (go_at_call 169;refine(HFt _).mono ?_;rintro e w2 ⟨rfl,aB⟩;obtain⟨pm0,pm1,pm2⟩:jv w2 w.heap.size 0 1 2 (J p) (J mn) (J mx):=⟨kq,kq,kq⟩;obtain⟨oM,aFP,pr1,aFO,pr2,aFN,pr3,aFM⟩:qL w2 (w.heap.size+1) 0 1 2 3 (J 0) (J 0) (J 0) (Y 0):=⟨kq,kq,kq,kq,kq,kq,kq,kq⟩);go_region_held3 (λw'=>aA w' w.heap.size 0 (J p)/\aA w' w.heap.size 1 (J mn)/\aA w' w.heap.size 2 (J mx)/\aA w' (w.heap.size+1) 0 (J 0)/\dB w' (w.heap.size+1) 0/\aA w' (w.heap.size+1) 1 (J 0)/\dB w' (w.heap.size+1) 1/\aA w' (w.heap.size+1) 2 (J 0)/\dB w' (w.heap.size+1) 2/\aA w' (w.heap.size+1) 3 (Y 0)/\dB w' (w.heap.size+1) 3)((go_split_ands;(repeat' apply And.intro)<;>exact kl))(first|(go_at_call 298;refine(HS _).mono ?_;rintro e w3 ⟨rfl,aK⟩;have Bo:=aK.cells;have Bg:=aK.dX;have mY:=aK.size;(try simp only[World.size_alloc,World.size_drew,World.size_setCell]at mY))|(go_at_call 272;refine(HM _).mono ?_;rintro e w4 ⟨rfl,aV⟩;have NG:=aV.cells;have Nz:=aV.dX;have tJ:=aV.size;(try simp only[World.size_alloc,World.size_drew,World.size_setCell]at tJ)))
  all_goals
   (try go_split_ands)
   go_wp2_with (first|(go_at_call 240;refine(HI _).mono ?_;rintro e w5 ⟨rfl,bJ⟩;obtain⟨am0,am1,am2⟩:jv w5 w.heap.size 0 1 2 (J p) (J mn) (J mx):=⟨kq,kq,kq⟩;obtain⟨gG,Uk,Di,Uj,ar2,az2,ar3,az3⟩:qL w5 (w.heap.size+1) 0 1 2 3 (J 0) (J 0) (J 0) (Y 0):=⟨kq,kq,kq,kq,kq,kq,kq,kq⟩)|(go_at_call 238;refine(HN _).mono ?_;rintro e w6 ⟨rfl,fK⟩;obtain⟨jT,bz0,br1,bz1,br2,bz2,br3,bz3⟩:qL w6 (w.heap.size+1) 0 1 2 3 (J 0) (J 0) (J 0) (Y 0):=⟨kq,kq,kq,kq,kq,kq,kq,kq⟩)|(go_at_call 299;refine(yK om om _).mono ?_;rintro e w7 ⟨x,g,hn,rfl,ji⟩;obtain⟨wI,cz0,cr1,cz1,cr2,cz2,cr3,cz3⟩:qL w7 (w.heap.size+1) 0 1 2 3 (J 0) (J 0) (J 0) (Y 0):=⟨kq,kq,kq,kq,kq,kq,kq,kq⟩))
   refine bodyPost_ret (v:=d_ 2 s 0 0) (by simp[results,Tryz.results241,go_sem,gG,Di,ar2,ar3]) rfl ⟨2,s,0,0,hU.out _ _ _ (by first|exact .inr (.inr (.inr (.inl ⟨rfl,rfl,rfl,rfl⟩)))|exact .inr (.inr (.inr (.inl ⟨trivial,rfl,rfl,rfl⟩)))),rfl,?_⟩;exact kr
 .have c3:(v==0)=I:=jl;have c4:(v==aI)=I:=jl;go_enter func241,ntmps241;go_wp2_with (go_at_call 169;refine(HFt _).mono ?_;rintro e w2 ⟨rfl,aB⟩;obtain⟨pm0,pm1,pm2⟩:jv w2 w.heap.size 0 1 2 (J p) (J mn) (J mx):=⟨kq,kq,kq⟩;obtain⟨oM,aFP,pr1,aFO,pr2,aFN,pr3,aFM⟩:qL w2 (w.heap.size+1) 0 1 2 3 (J 0) (J 0) (J 0) (Y 0):=⟨kq,kq,kq,kq,kq,kq,kq,kq⟩);go_region_held3 (λw'=>aA w' w.heap.size 0 (J p)/\aA w' w.heap.size 1 (J mn)/\aA w' w.heap.size 2 (J mx)/\aA w' (w.heap.size+1) 0 (J 0)/\dB w' (w.heap.size+1) 0/\aA w' (w.heap.size+1) 1 (J 0)/\dB w' (w.heap.size+1) 1/\aA w' (w.heap.size+1) 2 (J 0)/\dB w' (w.heap.size+1) 2/\aA w' (w.heap.size+1) 3 (Y 0)/\dB w' (w.heap.size+1) 3)((go_split_ands;(repeat' apply And.intro)<;>exact kl))(first|(go_at_call 298;refine(HS _).mono ?_;rintro e w3 ⟨rfl,aK⟩;have Bo:=aK.cells;have Bg:=aK.dX;have mY:=aK.size;(try simp only[World.size_alloc,World.size_drew,World.size_setCell]at mY))|(go_at_call 272;refine(HM _).mono ?_;rintro e w4 ⟨rfl,aV⟩;have NG:=aV.cells;have Nz:=aV.dX;have tJ:=aV.size;(try simp only[World.size_alloc,World.size_drew,World.size_setCell]at tJ)))
  all_goals
   (try go_split_ands)
   go_wp2_with (first|(go_at_call 240;refine(HI _).mono ?_;rintro e w5 ⟨rfl,bJ⟩;obtain⟨am0,am1,am2⟩:jv w5 w.heap.size 0 1 2 (J p) (J mn) (J mx):=⟨kq,kq,kq⟩;obtain⟨gG,Uk,Di,Uj,ar2,az2,ar3,az3⟩:qL w5 (w.heap.size+1) 0 1 2 3 (J 0) (J 0) (J 0) (Y 0):=⟨kq,kq,kq,kq,kq,kq,kq,kq⟩)|(go_at_call 238;refine(HN _).mono ?_;rintro e w6 ⟨rfl,fK⟩;obtain⟨jT,bz0,br1,bz1,br2,bz2,br3,bz3⟩:qL w6 (w.heap.size+1) 0 1 2 3 (J 0) (J 0) (J 0) (Y 0):=⟨kq,kq,kq,kq,kq,kq,kq,kq⟩)|(go_at_call 299;refine(yK om om _).mono ?_;rintro e w7 ⟨x,g,hn,rfl,ji⟩;obtain⟨wI,cz0,cr1,cz1,cr2,cz2,cr3,cz3⟩:qL w7 (w.heap.size+1) 0 1 2 3 (J 0) (J 0) (J 0) (Y 0):=⟨kq,kq,kq,kq,kq,kq,kq,kq⟩))
   refine bodyPost_ret (v:=d_ 4 s 0 0) (by simp[results,Tryz.results241,go_sem,jT,br1,br2,br3]) rfl ⟨4,s,0,0,hU.out _ _ _ (.inr (.inl ⟨c1,c2,rfl,rfl,rfl⟩)),rfl,?_⟩;exact kr
 .have c3:(v==0)=I:=jl;have c4:(v==aI)=I:=jl;go_enter func241,ntmps241;go_wp2_with (go_at_call 169;refine(HFt _).mono ?_;rintro e w2 ⟨rfl,aB⟩;obtain⟨pm0,pm1,pm2⟩:jv w2 w.heap.size 0 1 2 (J p) (J mn) (J mx):=⟨kq,kq,kq⟩;obtain⟨oM,aFP,pr1,aFO,pr2,aFN,pr3,aFM⟩:qL w2 (w.heap.size+1) 0 1 2 3 (J 0) (J 0) (J 0) (Y 0):=⟨kq,kq,kq,kq,kq,kq,kq,kq⟩);go_region_held3 (λw'=>aA w' w.heap.size 0 (J p)/\aA w' w.heap.size 1 (J mn)/\aA w' w.heap.size 2 (J mx)/\aA w' (w.heap.size+1) 0 (J 0)/\dB w' (w.heap.size+1) 0/\aA w' (w.heap.size+1) 1 (J 0)/\dB w' (w.heap.size+1) 1/\aA w' (w.heap.size+1) 2 (J 0)/\dB w' (w.heap.size+1) 2/\aA w' (w.heap.size+1) 3 (Y 0)/\dB w' (w.heap.size+1) 3)((go_split_ands;(repeat' apply And.intro)<;>exact kl))(first|(go_at_call 298;refine(HS _).mono ?_;rintro e w3 ⟨rfl,aK⟩;have Bo:=aK.cells;have Bg:=aK.dX;have mY:=aK.size;(try simp only[World.size_alloc,World.size_drew,World.size_setCell]at mY))|(go_at_call 272;refine(HM _).mono ?_;rintro e w4 ⟨rfl,aV⟩;have NG:=aV.cells;have Nz:=aV.dX;have tJ:=aV.size;(try simp only[World.size_alloc,World.size_drew,World.size_setCell]at tJ)))
  all_goals
   (try go_split_ands)
   go_wp2_with (first|(go_at_call 240;refine(HI _).mono ?_;rintro e w5 ⟨rfl,bJ⟩;obtain⟨am0,am1,am2⟩:jv w5 w.heap.size 0 1 2 (J p) (J mn) (J mx):=⟨kq,kq,kq⟩;obtain⟨gG,Uk,Di,Uj,ar2,az2,ar3,az3⟩:qL w5 (w.heap.size+1) 0 1 2 3 (J 0) (J 0) (J 0) (Y 0):=⟨kq,kq,kq,kq,kq,kq,kq,kq⟩)|(go_at_call 238;refine(HN _).mono ?_;rintro e w6 ⟨rfl,fK⟩;obtain⟨jT,bz0,br1,bz1,br2,bz2,br3,bz3⟩:qL w6 (w.heap.size+1) 0 1 2 3 (J 0) (J 0) (J 0) (Y 0):=⟨kq,kq,kq,kq,kq,kq,kq,kq⟩)|(go_at_call 299;refine(yK om om _).mono ?_;rintro e w7 ⟨x,g,hn,rfl,ji⟩;obtain⟨wI,cz0,cr1,cz1,cr2,cz2,cr3,cz3⟩:qL w7 (w.heap.size+1) 0 1 2 3 (J 0) (J 0) (J 0) (Y 0):=⟨kq,kq,kq,kq,kq,kq,kq,kq⟩))
   refine bodyPost_ret (v:=d_ 3 s 0 0) (by simp[results,Tryz.results241,go_sem,jT,br1,br2,br3]) rfl ⟨3,s,0,0,hU.out _ _ _ (.inr (.inr (.inl ⟨c1,rfl,rfl,rfl⟩))),rfl,?_⟩;exact kr
def Ux(h:wQ p mn mx fb sp one aI sg nan)(W:Int)(h0:2*sg<=W)(h1:aG W)(w:World):
  QR 241 #[jX p mn mx,Y W] w (d_ 4 0 0 0):=by
 have HFt:F9 p mn mx W I:=λw=>by
  have hb:=h.bounds;have:=fits_any h W om h1 w;rw[decide_eq_false (by omega)]at this;exact this
 clear h;go_enter func241,ntmps241;go_wp2_with (go_at_call 169;refine(HFt _).mono ?_;rintro e w2 ⟨rfl,aB⟩;obtain⟨pm0,pm1,pm2⟩:jv w2 w.heap.size 0 1 2 (J p) (J mn) (J mx):=⟨kq,kq,kq⟩;obtain⟨oM,aFP,pr1,aFO,pr2,aFN,pr3,aFM⟩:qL w2 (w.heap.size+1) 0 1 2 3 (J 0) (J 0) (J 0) (Y 0):=⟨kq,kq,kq,kq,kq,kq,kq,kq⟩);exact bW (by simp[results,Tryz.results241,go_sem,oM,pr1,pr2,pr3])
def aI4(h:bD f p mx one aI sg nan)(v:Int)(v0:0<v)(v1:v<aI):∃x g:Int,lW p mx one v x g:=by
 obtain⟨P,hP,aJu,AQ⟩:=h.pow;obtain⟨b1,b2,b3,b4,b5,b6,b7,b8,b9,b10,b11,b12⟩:=h.bounds;have Qu:one=((2^P:Nat):Int):=by rw[mX];exact AQ
 by_cases hs:v<one
 .obtain⟨V,rfl⟩:=Int.eq_ofNat_of_zero_le (om:0<=v);have hVP:V<2^P:=by generalize(2:Nat)^P=O at*;omega
  have Tf:nb V<=P:=sW hVP;have jm:=BP V om;have Uf:=V_ V om;have hhi:=yX V;obtain⟨k,hk⟩:∃k:Nat,k+nb V=P+1:=⟨P+1-nb V,om⟩;have e1:2^P<=V*2^k:=by
   exact aLy
  have e2:V*2^k<2*2^P:=by
   exact aLz
  have c1:(V:Int)*2^k=((V*2^k:Nat):Int):=by rw[Int.natCast_mul,mX]
  generalize V*2^k=G at*
  generalize(2:Nat)^P=O at*
  exact⟨2-mx-p-k,G,k,V,2-mx-p,.inl ⟨hs,rfl,rfl⟩,c1.symm,rfl,om,om⟩
 .have Ox:=Int.emod_nonneg v (om:one≠0);have tK:=Int.emod_lt_of_pos v (om:0<one);exact⟨1-mx-p+v/one-(0:Nat),v%one+one,0,v%one+one,1-mx-p+v/one,.inr ⟨om,rfl,rfl⟩,by simp,rfl,om,om⟩
def aBQ(h:bD f p mx one aI sg nan)(W:Int)(h0:0<=W)(h1:W<2*sg):∃c s x g:Int,fV p mx one aI sg nan W c s x g:=by
 obtain⟨b1,b2,b3,b4,b5,b6,b7,b8,b9,b10,b11,b12⟩:=h.bounds;have hsv:∃s v:Int,(s=0/\v=W/\W<sg\/s=1/\v=W-sg/\sg<=W)/\0<=v/\v<sg:=by
  by_cases c:W<sg
  .exact⟨0,W,om,om,om⟩
  .exact⟨1,W-sg,om,om,om⟩
 obtain⟨s,v,hs,v0,v1⟩:=hsv;rcases(om:v=0\/(0<v/\v<aI)\/v=aI\/(aI<v/\v<nan)\/nan<=v)with c|⟨c1,c2⟩|c|⟨c1,c2⟩|c
 .exact⟨0,s,0,0,v,hs,.inl ⟨c,rfl,rfl,rfl⟩⟩
 .obtain⟨x,g,hn⟩:=aI4 h v c1 c2;exact⟨1,s,x,g,v,hs,.inr (.inr (.inr (.inr ⟨c1,c2,rfl,hn⟩)))⟩
 .exact⟨2,s,0,0,v,hs,.inr (.inr (.inr (.inl ⟨c,rfl,rfl,rfl⟩)))⟩
 .exact⟨4,s,0,0,v,hs,.inr (.inl ⟨c1,c2,rfl,rfl,rfl⟩)⟩
 .exact⟨3,s,0,0,v,hs,.inr (.inr (.inl ⟨c,rfl,rfl,rfl⟩))⟩
