import Derived.Test.YthoelefkjpjhfaaGreatDoorK3
set_option linter.all false
set_option maxRecDepth 1000000
set_option maxHeartbeats 40000000
open Bool renaming false → I
open Go.Proofs.YthoelefkjpjhfaaGreatDoor renaming vI → J, vU → Y
open Go.Ending renaming returned → Z
open Go.Value renaming bool → X, tuple → E
open Go.Proofs.Tryz
namespace Go.Proofs.YthoelefkjpjhfaaGreatDoor
open Go.RowKit
attribute [local go_sem] aB dL
variable {p mx one aN sg nan mn fb sp f t:Int}{w w':ak}{v:Value}{n M L K N:Nat}
def Ij(h:Big w v n M)(hn:n<=100000)(s e q:Int)(rest:Bool)(e0:-1000000<=e)(e1:e<=1000000)(q0:-1000000<=q)(q1:q<=1000000):
  CT 223 #[.agg #[J s,v,J e,X rest],J q] w λx w'=>∃v' k,x=Z (E #[v',J (bH M e q rest)])/\Big w' v' k (dH M e q)/\k<=n+70000/\Gb w w':=by
 by_cases hq:q<=e
 .exact aHO h hn s e q rest e0 e1 q0 hq
 .obtain⟨d,hd⟩:∃d:Nat,q-e=(d:Int):=⟨(q-e).toNat,om⟩;have d1:1<=d:=om;have eLo:dH M e q=M/2^d:=by unfold dH;rw[aH hq,hd];rfl
  have eHa:bH M e q rest=hr M d rest:=by unfold bH;rw[aH hq,hd];rfl
  rw[eLo,eHa];have fin:∀(H:Nat),hr M d rest=H->(CT 223 #[.agg #[J s,v,J e,X rest],J q] w λx w'=>∃v' k,x=Z (E #[v',J (H:Int)])/\Big w' v' k (M/2^d)/\k<=n/\Gb w w')->
    CT 223 #[.agg #[J s,v,J e,X rest],J q] w λx w'=>∃v' k,x=Z (E #[v',J (hr M d rest:Int)])/\Big w' v' k (M/2^d)/\k<=n+70000/\Gb w w':=by
   intro H hH hc;rw[hH];exact hc.mono (λx w' ⟨v',k,h1,h2,h3,h4⟩=>⟨v',k,h1,h2,om,h4⟩)
  by_cases hR:M%2^d=0
  .cases rest
   .exact fin 0 (FK M d d1 hR) (aKO h hn s e q e0 e1 q1 d hd d1 _ _ _ rfl rfl rfl hR)
   .have hp:0<2^(d-1):=iQ de;refine fin 1 (aH5 M d true d1 om (.inr rfl)) (aKN h hn s e q e0 e1 q1 d hd d1 _ _ _ rfl rfl rfl hR ?_);unfold jl;rw[aQ (by omega)]
  .rcases Oz (M%2^d) (2^(d-1))with c|c|c
   .refine fin 1 (aH5 M d rest d1 c (.inl hR)) (aKM h hn s e q rest e0 e1 q1 d hd d1 _ _ _ rfl rfl rfl hR ?_);unfold jl;rw[aQ c]
   .have hc:jl (M%2^d) (2^(d-1))=0:=by unfold jl;rw[aH om,aH (by omega)]
    cases rest
    .exact fin 2 (aOT M d d1 c) (aKL h hn s e q e0 e1 q1 d hd d1 _ _ _ rfl rfl rfl hR hc)
    .exact fin 3 (YB M d true d1 om (.inr rfl)) (aKK h hn s e q e0 e1 q1 d hd d1 _ _ _ rfl rfl rfl hR hc)
   .refine fin 3 (YB M d rest d1 om (.inl om)) (aKJ h hn s e q rest e0 e1 q1 d hd d1 _ _ _ rfl rfl rfl hR ?_);unfold jl;rw[aH om,aQ c]
def FC(h:Big w v n L)(hn:n<=500000)(aj aP:Int)(half:Nat)(m0:0<=aj)(m1:aj<=4)(hs:aP=0\/aP=1)(hh:half<=3):
  CT 224 #[J aj,J aP,v,J half] w λx w'=>∃v' k,x=Z v'/\Big w' v' k (chosen aj aP L half)/\k<=n+3/\Gb w w':=by
 have Qr:∀b:Int,(L:Int)%2=b->Hid (∀w',w'=w->QW 154 #[v,J 0] w' (.int .u32 b)):=λb hb w' hw=>by subst hw;exact hb▸aBn h om
 have EF:Hid (∀w',CT 132 #[Y 1] w' λx bf=>∃v' k,x=Z v'/\Big bf v' k 1/\k<=2/\Gb w' bf):=λw'=>iO 1 om w';have HAdd:Hid (∀v2 k2 w',Gb w w'->Big w' v2 k2 1->k2<=2->CT 227 #[v,v2] w' λx bf=>∃v' k,x=Z v'/\Big bf v' k (L+1)/\k<=n+3/\Gb w' bf):=λv2 k2 w' hg hb hk=>(Ik (h.gb hg) om hb om).mono (λx bf ⟨v',k,h1,h2,h3,h4⟩=>⟨v',k,h1,h2,om,h4⟩);have HL:Hid (Big w v n L):=h;obtain⟨U,hU⟩:=x_n (up aj aP L half);have hch:chosen aj aP L half=L+(if U then 1 else 0):=by rw[hU];rfl
 rw[hch];have Td:(aj=0/\(half:Int)=0/\U=I)\/(aj=0/\(half:Int)=1/\U=I)\/(aj=0/\(half:Int)=2/\(L:Int)%2=0/\U=I)\/(aj=0/\(half:Int)=2/\(L:Int)%2=1/\U=true)\/(aj=0/\(half:Int)=3/\U=true)\/
   (aj=1/\(half:Int)<2/\U=I)\/(aj=1/\2<=(half:Int)/\U=true)\/(aj=2/\U=I)\/
   (aj=3/\(half:Int)=0/\U=I)\/(aj=3/\0<(half:Int)/\aP=0/\U=true)\/(aj=3/\0<(half:Int)/\aP=1/\U=I)\/
   (aj=4/\(half:Int)=0/\U=I)\/(aj=4/\0<(half:Int)/\aP=0/\U=I)\/(aj=4/\0<(half:Int)/\aP=1/\U=true):=by
  unfold up at hU;cases U
  .have:=of_decide_eq_false hU.symm;simp only[true_and,and_true,Bool.false_eq_true,and_false,or_false,false_or];omega
  .have:=of_decide_eq_true hU.symm;simp only[true_and,and_true,Bool.true_eq_false,and_false,or_false,false_or];omega
 generalize(half:Int)=H at*
 clear hU hch h;rcases Td with⟨rfl,rfl,rfl⟩|⟨rfl,rfl,rfl⟩|⟨rfl,rfl,hb,rfl⟩|⟨rfl,rfl,hb,rfl⟩|⟨rfl,rfl,rfl⟩|⟨rfl,c,rfl⟩|⟨rfl,c,rfl⟩|⟨rfl,rfl⟩|⟨rfl,rfl,rfl⟩|⟨rfl,c,rfl,rfl⟩|⟨rfl,c,rfl,rfl⟩|⟨rfl,rfl,rfl⟩|⟨rfl,c,rfl,rfl⟩|⟨rfl,c,rfl,rfl⟩
 all_goals
  first|(have HB:=Qr _ hb;clear Qr hb hs)|(have HB:Hid True:=trivial;clear Qr hs)
  go_enter func224,ntmps224;go_wp2_with (first|(go_at_call 154;refine kw (HB _ rfl) ?_)|(go_at_call 132;refine(EF _).mono ?_;rintro x w1 ⟨v1,k1,rfl,iF,kF,su⟩)|(go_at_call 227;refine(HAdd v1 k1 _ kg iF kF).mono ?_;rintro x w2 ⟨v2,k2,rfl,mY,m_,uH⟩))
  go_returns;first|exact⟨_,_,rfl,HL.out,om,kg⟩|exact⟨_,_,rfl,mY,om,kg⟩|exact⟨_,rfl,_,HL.out,om,kg⟩|exact⟨_,rfl,_,mY,om,kg⟩
def aK(K:Nat)(w:ak)(v:Value)(N:Nat):Prop:=∃n,n<=K/\Big w v n N
abbrev vO(K N:Nat)(w:ak)(e:Ending)(w':ak):Prop:=∃b k c,aK K w' (aF b k c) N/\e=Z (aF b k c)/\Gb w w'
def aK.gb(h:aK K w v N)(k:Gb w w'):aK K w' v N:=by
 obtain⟨n,h1,h2⟩:=h;exact⟨n,h1,h2.gb k⟩
structure RC (f p mn mx one aj aP:Int) (w:ak):Prop where
 max:∀w,QW 206 #[J f] w (J mx)
 min:∀w,QW 215 #[J f] w (J mn)
 prec:∀w,QW 116 #[J f] w (J p)
 two:∀w,QW 117 #[J (p-1)] w (Y one)
 len:∀K v N w,K<=200000->aK K w v N->QW 221 #[v] w (J (nb N))
 word:∀v N w,aK 190000 w v N->aI N->QW 225 #[v] w (Y N)
 choose:∀v (L:Nat) (half:Nat) w,aK 180000 w v L->half<=3->CT 224 #[J aj,J aP,v,J half] w λx w'=>∃v',x=Z v'/\aK 190000 w' v' (chosen aj aP L half)/\Gb w w'
def aQo(h:bI f p mx one aN sg nan)(Ce:1-mx=mn)(aj aP:Int)(m0:0<=aj)(m1:aj<=4)(hs:aP=0\/aP=1)(w:ak):RC f p mn mx one aj aP w where
 max:=λw=>BZ h w
 min:=λw=>Ce▸yR h w
 prec:=λw=>qG h w
 two:=λw=>u_ h w
 len:=λK v N w hK ⟨n,h1,h2⟩=>Ii h2 om
 word:=λv N w ⟨n,h1,h2⟩ hN=>OY h2 om hN
 choose:=λv L half w ⟨n,h1,h2⟩ hh=>(FC h2 om aj aP half m0 m1 hs hh).mono (λx w' ⟨v',k,a1,a2,a3,a4⟩=>⟨v',a1,⟨k,om,a2⟩,a4⟩)
def WQ{P:Prop}(h:P:=by
 clear hU;cases nI<;>cases hb<;>cases U;all_goals
  simp only[Bool.false_or,Bool.true_or]at hrB;subst hrB;exact aP2):P:=h
def Xr(M:Nat)(hM:M<340282366920938463463374607431768211456)(drop aP:Int)(bZ:Bool)(k:Nat)(fv:Value)(hd:drop<=0)(d0:-128<=drop)(hk:0-drop=(k:Int))(h:M*2^k<18446744073709551616)(w:ak):
  QR 254 #[fv,J drop,J aP,iK M,X bZ] w (E #[Y ((M*2^k:Nat):Int),X I]):=by
 have HS:KR 256 #[iK M,J (-drop)] (aS 0 ((M*2^k:Nat):Int)):=λw=>by
  rw[(om:-drop=(k:Int))];exact aSH M hM k om h w
 generalize((M/18446744073709551616:Nat):Int)=mh at*
 generalize((M%18446744073709551616:Nat):Int)=ml at*
 generalize((M*2^k:Nat):Int)=c at*
 clear h hk;have hfd:∀(w:ak) (a b:Int),(Instr.field 185 (aS a b) 1).run prog w=.ok (Y b) w:=λ_ _ _=>by kernel_rfl
 go_enter func254,ntmps254;go_wp2_with (go_at_call 256;refine(HS _).mono ?_;rintro e w1 ⟨rfl,au⟩);go_returns;exact⟨rfl,kr⟩
def aP2{P:Prop}(h:P:=by
 go_enter func254,ntmps254;go_upto_region 4 with(go_at_call 244;refine(ZE _).mono ?_;rintro e w1 ⟨rfl,au⟩);go_upto_region 5 with(go_at_call 244;refine(HS2 _).mono ?_;rintro e w2 ⟨rfl,aC⟩);go_wp2_with (first|(go_at_call 185;refine kw (HR _) ?_)|(go_at_call 294;refine kw (HR _) ?_)|(go_at_call 295;refine kw (HR _) ?_)|(go_at_call 296;refine kw (HR _) ?_)|(go_at_call 297;refine kw (HR _) ?_))
 go_returns;exact⟨by simp,kr⟩):P:=h
def C9(mh ml hh hl kh kl drop aP o:Int)(nI hb bZ sB oB rB U:Bool)(hd:0<drop)(d1:drop<=1000000)(hsB:(aP==1)=sB)(ho:bits .and .u64 kl 1=o)(hoB:(o==1)=oB)(hrB:(nI||bZ)=rB)(k0:0<=kl)(k1:kl<18446744073709551615)(hU:ru 0 sB oB hb rB=U)
  (ZE:wH mh ml (drop-1) hh hl nI)
  (HS2:wH hh hl 1 kh kl hb) (w:ak):
  QR 254 #[.func (.func 185) #[] #[],J drop,J aP,aS mh ml,X bZ] w (E #[Y (kl+(if U then 1 else 0)),X (hb||rB)]):=by
 have HR:KW 185 #[X sB,X oB,X hb,X rB] (X U):=λw=>hU▸uw sB oB hb rB w;exact WQ
def C_(mh ml hh hl kh kl drop aP o:Int)(nI hb bZ sB oB rB U:Bool)(hd:0<drop)(d1:drop<=1000000)(hsB:(aP==1)=sB)(ho:bits .and .u64 kl 1=o)(hoB:(o==1)=oB)(hrB:(nI||bZ)=rB)(k0:0<=kl)(k1:kl<18446744073709551615)(hU:ru 1 sB oB hb rB=U)
  (ZE:wH mh ml (drop-1) hh hl nI)
  (HS2:wH hh hl 1 kh kl hb) (w:ak):
  QR 254 #[.func (.func 294) #[] #[],J drop,J aP,aS mh ml,X bZ] w (E #[Y (kl+(if U then 1 else 0)),X (hb||rB)]):=by
 have HR:KW 294 #[X sB,X oB,X hb,X rB] (X U):=λw=>hU▸zX sB oB hb rB w;exact WQ
def D5(mh ml hh hl kh kl drop aP o:Int)(nI hb bZ sB oB rB U:Bool)(hd:0<drop)(d1:drop<=1000000)(hsB:(aP==1)=sB)(ho:bits .and .u64 kl 1=o)(hoB:(o==1)=oB)(hrB:(nI||bZ)=rB)(k0:0<=kl)(k1:kl<18446744073709551615)(hU:ru 2 sB oB hb rB=U)
  (ZE:wH mh ml (drop-1) hh hl nI)
  (HS2:wH hh hl 1 kh kl hb) (w:ak):
  QR 254 #[.func (.func 295) #[] #[],J drop,J aP,aS mh ml,X bZ] w (E #[Y (kl+(if U then 1 else 0)),X (hb||rB)]):=by
 have HR:KW 295 #[X sB,X oB,X hb,X rB] (X U):=λw=>hU▸AQ sB oB hb rB w;exact WQ
def N8(mh ml hh hl kh kl drop aP o:Int)(nI hb bZ sB oB rB U:Bool)(hd:0<drop)(d1:drop<=1000000)(hsB:(aP==1)=sB)(ho:bits .and .u64 kl 1=o)(hoB:(o==1)=oB)(hrB:(nI||bZ)=rB)(k0:0<=kl)(k1:kl<18446744073709551615)(hU:ru 3 sB oB hb rB=U)
  (ZE:wH mh ml (drop-1) hh hl nI)
  (HS2:wH hh hl 1 kh kl hb) (w:ak):
  QR 254 #[.func (.func 296) #[] #[],J drop,J aP,aS mh ml,X bZ] w (E #[Y (kl+(if U then 1 else 0)),X (hb||rB)]):=by
 have HR:KW 296 #[X sB,X oB,X hb,X rB] (X U):=λw=>hU▸Nj sB oB hb rB w;exact WQ
def Ho(mh ml hh hl kh kl drop aP o:Int)(nI hb bZ sB oB rB U:Bool)(hd:0<drop)(d1:drop<=1000000)(hsB:(aP==1)=sB)(ho:bits .and .u64 kl 1=o)(hoB:(o==1)=oB)(hrB:(nI||bZ)=rB)(k0:0<=kl)(k1:kl<18446744073709551615)(hU:ru 4 sB oB hb rB=U)
  (ZE:wH mh ml (drop-1) hh hl nI)
  (HS2:wH hh hl 1 kh kl hb) (w:ak):
  QR 254 #[.func (.func 297) #[] #[],J drop,J aP,aS mh ml,X bZ] w (E #[Y (kl+(if U then 1 else 0)),X (hb||rB)]):=by
 have HR:KW 297 #[X sB,X oB,X hb,X rB] (X U):=λw=>hU▸FU sB oB hb rB w;exact WQ
def and_one(kl:Nat)(h:aI kl):bits .and .u64 (kl:Int) 1=((kl%2:Nat):Int):=by
 have:=u64_and_nat kl 1 h om;rw[show((1:Nat):Int)=1 from rfl]at this;rw[this,Nat.and_one_is_mod]
def aQl(aj aP:Int)(M lo d:Nat)(rest:Bool)(m0:0<=aj)(m1:aj<=4)(hs:aP=0\/aP=1):
  ru aj (aP==1) ((((lo%2:Nat):Int))==1) (decide (M/2^(d-1)%2≠0)) (decide (M%2^(d-1)≠0)||rest)=up aj aP lo (hr M d rest)/\
  ((decide (M/2^(d-1)%2≠0))||(decide (M%2^(d-1)≠0)||rest))=decide (0<hr M d rest):=by
 obtain⟨H,hH⟩:=dP (M/2^(d-1)%2);obtain⟨R,hR⟩:=dP (M%2^(d-1));have hH2:H=0\/H=1:=by have:=oN (M/2^(d-1)) (show 0<2 by decide);omega
 have hL:lo%2=0\/lo%2=1:=om;unfold hr;rw[hH,hR];unfold up ru;rcases(om:aj=0\/aj=1\/aj=2\/aj=3\/aj=4)with rfl|rfl|rfl|rfl|rfl<;>rcases hs with rfl|rfl<;>rcases hH2 with rfl|rfl<;>rcases hL with hL|hL<;>rw[hL]<;>cases rest<;>by_cases hz:R=0<;>simp[hz]
def wW(aj:Int)(k:Nat)(hk:zT aj k)(aP:Int)(hs:aP=0\/aP=1)(M:Nat)(hM:M<340282366920938463463374607431768211456)(e q drop:Int)(bZ:Bool)(hd:drop=q-e)(d0:-128<=drop)(d1:drop<=1000000)(hst:drop<=0->bZ=I)(V5:dH M e q<18446744073709551615)(w:ak):
  QR 254 #[.func (.func k) #[] #[],J drop,J aP,iK M,X bZ] w (E #[Y ((chosen aj aP (dH M e q) (bH M e q bZ):Nat):Int),X (decide (0<bH M e q bZ))]):=by
 have m01:0<=aj/\aj<=4:=by rcases hk with h|h|h|h|h<;>omega
 by_cases hq:q<=e
 .have aTu:=hst om;subst aTu;have eLo:dH M e q=M*2^(e-q).toNat :=by unfold dH;rw[aQ hq]
  have eHa:bH M e q I=0:=by unfold bH;rw[aQ hq];rfl
  have eCh:chosen aj aP (dH M e q) 0=M*2^(e-q).toNat :=by
   rw[eLo];unfold chosen up;rw[aH (by simp)];rfl
  rw[eHa,eCh];rw[eLo]at V5;refine(Xr M hM drop aP I (e-q).toNat _ om d0 om om w).mono ?_;rintro x w' ⟨rfl,hg⟩;exact⟨by simp,hg⟩
 .obtain⟨d,hdd⟩:∃d:Nat,q-e=(d:Int):=⟨(q-e).toNat,om⟩;have d1':1<=d:=om;have eLo:dH M e q=M/2^d:=by unfold dH;rw[aH hq,hdd];rfl
  have eHa:bH M e q bZ=hr M d bZ:=by unfold bH;rw[aH hq,hdd];rfl
  rw[eLo]at V5;rw[eLo,eHa];obtain⟨hU,hI⟩:=aQl aj aP M (M/2^d) d bZ m01.1 m01.2 hs;have hHd:M/2^(d-1)/2^1=M/2^d:=by
   rw[LK,<-jY,(om:d-1+1=d)]
  have hb:M/2^(d-1)<340282366920938463463374607431768211456:=LJ (Nat.div_le_self _ _) hM;have ZE:wH ((M/18446744073709551616:Nat):Int) ((M%18446744073709551616:Nat):Int) (drop-1) ((M/2^(d-1)/18446744073709551616:Nat):Int) ((M/2^(d-1)%18446744073709551616:Nat):Int) (decide (M%2^(d-1)≠0)):=λw=>by
   rw[(om:drop-1=((d-1:Nat):Int))];exact aN0 M hM (d-1) w
  have HS2:wH ((M/2^(d-1)/18446744073709551616:Nat):Int) ((M/2^(d-1)%18446744073709551616:Nat):Int) 1 ((M/2^d/18446744073709551616:Nat):Int) ((M/2^d%18446744073709551616:Nat):Int) (decide (M/2^(d-1)%2≠0)):=λw=>by
   have:=aN0 (M/2^(d-1)) hb 1 w;rw[hHd,Nat.pow_one]at this;exact this
  have hK:M/2^d%18446744073709551616=M/2^d:=lQ om;rw[hK]at HS2;have Rq:∀x w',(x=Ending.returned (E #[Y (((M/2^d:Nat):Int)+(if up aj aP (M/2^d) (hr M d bZ)then 1 else 0)),X (decide (M/2^(d-1)%2≠0)||(decide (M%2^(d-1)≠0)||bZ))])/\Gr w w')->
    (x=Ending.returned (E #[Y ((chosen aj aP (M/2^d) (hr M d bZ):Nat):Int),X (decide (0<hr M d bZ))])/\Gr w w'):=by
   rintro x w' ⟨rfl,hg⟩;refine⟨?_,hg⟩;rw[hI];unfold chosen;split<;>simp
  rcases hk with⟨rfl,rfl⟩|⟨rfl,rfl⟩|⟨rfl,rfl⟩|⟨rfl,rfl⟩|⟨rfl,rfl⟩
  .exact(C9 _ _ _ _ _ _ drop aP _ _ _ bZ _ _ _ _ om d1 rfl (and_one _ om) rfl rfl om om hU ZE HS2 w).mono (λx w' h=>Rq x w' h)
  .exact(C_ _ _ _ _ _ _ drop aP _ _ _ bZ _ _ _ _ om d1 rfl (and_one _ om) rfl rfl om om hU ZE HS2 w).mono (λx w' h=>Rq x w' h)
  .exact(D5 _ _ _ _ _ _ drop aP _ _ _ bZ _ _ _ _ om d1 rfl (and_one _ om) rfl rfl om om hU ZE HS2 w).mono (λx w' h=>Rq x w' h)
  .exact(N8 _ _ _ _ _ _ drop aP _ _ _ bZ _ _ _ _ om d1 rfl (and_one _ om) rfl rfl om om hU ZE HS2 w).mono (λx w' h=>Rq x w' h)
  .exact(Ho _ _ _ _ _ _ drop aP _ _ _ bZ _ _ _ _ om d1 rfl (and_one _ om) rfl rfl om om hU ZE HS2 w).mono (λx w' h=>Rq x w' h)
def Jc(a b:Int):lF (a*b/18446744073709551616) (a*b%18446744073709551616) (bnd 63).toNat =share a b:=by
 have e:(bnd 63).toNat =63:=de;rw[e];unfold lF share;rw[(om:a*b/18446744073709551616*18446744073709551616+a*b%18446744073709551616=a*b)];rfl
def aHi(a b:Int)(a0:0<=a)(a1:aI a)(b0:0<=b)(b1:aI b)(w:ak):
  QR 217 #[Y a,Y b] w (Y (share a b)):=by
 obtain⟨p0,p1⟩:=D_ a b a0 a1 b0 b1;have e0:=Jc a b;generalize share a b=s at*
 have H1:KR 280 #[Y a,Y b] (aS (a*b/18446744073709551616) (a*b%18446744073709551616)):=λw=>(W_ a b a0 a1 b0 b1 w).mono λe w' ⟨h,c,hw⟩=>⟨h,by subst hw;exact kr⟩;have H2:Hid (∀w,CT 279 #[aS (a*b/18446744073709551616) (a*b%18446744073709551616),J 63] w λe w'=>∃x y,e=Z (E #[aS x s,X y])/\Gr w w'):=λw=>(WZ _ _ 63 om om om om w).mono λe w' ⟨h,c1,c2,hw⟩=>⟨_,_,h.trans (by rw[e0]),by subst hw;exact kr⟩;clear e0;generalize a*b/18446744073709551616=x at*
 generalize a*b%18446744073709551616=y at*
 go_enter func217,ntmps217;go_wp2_with (first|(go_at_call 280;refine(H1 _).mono ?_;rintro e w1 ⟨rfl,au⟩)|(go_at_call 279;refine(H2 _).mono ?_;rintro e w2 ⟨x2,y2,rfl,aC⟩))
 go_returns;exact⟨rfl,kr⟩
def aCl(a b:Int)(a0:0<=a)(a1:aI a)(b0:0<=b)(b1:aI b)(w:ak):
  QR 278 #[Y a,Y b] w (Y (share a b)):=by
 obtain⟨p0,p1⟩:=D_ a b a0 a1 b0 b1;have e0:=Jc a b;generalize share a b=s at*
 have H1:KR 178 #[Y a,Y b] (aS (a*b/18446744073709551616) (a*b%18446744073709551616)):=Kq a b a0 a1 b0 b1;have H2:Hid (∀w,CT 244 #[aS (a*b/18446744073709551616) (a*b%18446744073709551616),J 63] w λe w'=>∃x y,e=Z (E #[aS x s,X y])/\Gr w w'):=λw=>(AX _ _ 63 om om om om w).mono λe w' ⟨h,hw⟩=>⟨_,_,h.trans (by rw[e0]),hw⟩;clear e0;generalize a*b/18446744073709551616=x at*
 generalize a*b%18446744073709551616=y at*
 go_enter func278,ntmps278;go_wp2_with (first|(go_at_call 178;refine(H1 _).mono ?_;rintro e w1 ⟨rfl,au⟩)|(go_at_call 244;refine(H2 _).mono ?_;rintro e w2 ⟨x2,y2,rfl,aC⟩))
 go_returns;exact⟨rfl,kr⟩
def aIH(w:ak):CT 281 #[] w λe w'=>∃b,e=Z (aF b 38 38)/\Gr w w'/\∀i,i<38->aB w' b i (Y (mJ i)):=by
 go_enter func281,ntmps281;go_wp2;go_returns;exact⟨_,rfl,kr,λi hi=>(World.cell?_alloc_new _ _ _ _).trans (Tq i hi)⟩
def aLI(w:ak):QW 117 #[J 38] w (Y 274877906944):=lH 38 _ om de w
def two63(w:ak):QW 117 #[J 63] w (Y 9223372036854775808):=lH 63 _ om de w
def aE2(t:Int)(k:Nat):t/2^k/2=t/2^(k+1):=by
 rw[Int.pow_succ,Int.ediv_ediv_of_nonneg (Int.pow_nonneg de)]
def XH(h0:0<=t)(h1:aI t)(k:Nat):0<=t/2^k/\t/2^k<18446744073709551616:=
 ⟨Int.ediv_nonneg h0 (Int.pow_nonneg de),Int.lt_of_le_of_lt (Int.ediv_le_self _ h0) h1⟩
def aLg(t:Int)(h0:0<=t)(h1:aI t)(w:ak):
  QR 218 #[Y t] w (Y (oI t)):=by
 by_cases hb:t<274877906944
 .have hn:oI t=dec t 38:=aQ hb;rw[hn];have Dq:¬274877906944<=t:=om;clear hn;go_enter func218,ntmps218;go_upto_region 3 with(go_at_call 117;refine kw (aLI _) ?_);go_upto_region 4 with(go_at_call 281;refine(aIH _).mono ?_;rintro e w1 ⟨b,rfl,hg0,YJ⟩);go_wp2_with (go_at_call 117;refine kw (two63 _) ?_);have hc:Hid _:=YJ;have hg:Hid (Gr w w1):=hg0;clear YJ hg0;go_loopw [0,4,5] (λx y i wr=>∃k:Nat,k<=38/\x=Y (t/2^k)/\y=Y (dec t k)/\i=J k/\Hid (Gr w1 wr)) (λ_ _ i _=>38-(intOf i).toNat)
  case atStart=>exact⟨0,om,by rw[Int.pow_zero,Int.ediv_one],rfl,rfl,Gr.refl _⟩
  case round=>
   obtain⟨k,hk,rfl,rfl,rfl,hr⟩:=hrel
   rename_i wr
   by_cases h:(k:Int)<38
   .have q:=hr.out.old (hc.out k om);obtain⟨t0,t1⟩:=CO k;obtain⟨d0,d1⟩:=aBI t k;obtain⟨x0,x1⟩:=XH h0 h1 k;have HS:Hid (dec t (k+1)=if t/2^k%2=1 then share (dec t k) (mJ k)else dec t k):=rfl;have HX:Hid (t/2^k/2=t/2^(k+1)):=aE2 t k;have HY:KR 217 #[Y (dec t k),Y (mJ k)] (Y (share (dec t k) (mJ k))):=aHi _ _ d0 om t0 om;generalize t/2^k=x at*
    generalize share (dec t k) (mJ k)=z at*
    generalize dec t k=y at*
    generalize mJ k=f at*
    by_cases hb:x%2=1
    .go_wp2_with (go_at_call 217;refine(HY _).mono ?_;rintro e w2 ⟨rfl,aC⟩);go_roundw
     case rel=>exact⟨k+1,om,by rw[<-HX.out],by rw[HS.out,aQ hb],jS,hr.out.trans aC⟩
     case measure=>exact qL
    .have mY:x%2=0:=om;have HB:Hid (¬x%2=1):=hb;clear hb;go_wp2;go_roundw
     case rel=>exact⟨k+1,om,by rw[<-HX.out],by rw[HS.out,aH HB.out],jS,hr⟩
     case measure=>exact qL
   .obtain rfl:k=38:=om;go_wp2;go_returns;exact⟨rfl,hg.out.trans hr.out⟩
 .have hn:oI t=0:=aH hb;rw[hn];have Dq:274877906944<=t:=om;clear hn hb;go_enter func218,ntmps218;go_wp2_with (go_at_call 117;refine kw (aLI _) ?_);go_returns;exact⟨rfl,Gr.refl _⟩
def aLh(t:Int)(h0:0<=t)(h1:aI t)(hT:Dc w):
  QR 277 #[Y t] w (Y (oI t)):=by
 have hsh:t/2^38=t/274877906944:=rfl;by_cases hb:t<274877906944
 .have hn:oI t=dec t 38:=aQ hb;rw[hn];have Dq:t/274877906944=0:=om;clear hn;obtain⟨tt,fr,hg⟩:=hT;have hc:Hid (∀i,i<38->nP[i]?=some (Y (mJ i))):=Tq;have hz:nP.size=38:=rfl;generalize nP=cs at*
  go_enter func277,ntmps277;go_wp2_with (refine wpList_load_row rfl 306 _ rfl 3 rfl tt cs fr _ hg underlying306 rfl (by rw[hz];kernel_rfl) ?_);go_loopw [3,10] (λy i wr=>∃k:Nat,k<=38/\y=Y (dec t k)/\i=J k/\Hid (Gr w wr)) (λ_ i _=>38-(intOf i).toNat)
  case atStart=>exact⟨0,om,rfl,rfl,Gr.refl _⟩
  case round=>
   obtain⟨k,hk,rfl,rfl,hr⟩:=hrel
   rename_i wr
   by_cases h:(k:Int)<38
   .have q:=SX underlying306 (om:k<38) (hc.out k om) wr;obtain⟨t0,t1⟩:=CO k;obtain⟨d0,d1⟩:=aBI t k;obtain⟨x0,x1⟩:=XH h0 h1 k;have aUf:=and_one_u64 (t/2^k) x0 om;have HS:Hid (dec t (k+1)=if t/2^k%2=1 then share (dec t k) (mJ k)else dec t k):=rfl;have HY:KR 278 #[Y (dec t k),Y (mJ k)] (Y (share (dec t k) (mJ k))):=aCl _ _ d0 om t0 om;generalize share (dec t k) (mJ k)=z at*
    generalize dec t k=y at*
    generalize mJ k=f at*
    by_cases hb:t/2^k%2=1
    .go_wp2_with (go_at_call 278;refine(HY _).mono ?_;rintro e w2 ⟨rfl,aC⟩);go_roundw
     case rel=>exact⟨k+1,om,by rw[HS.out,aQ hb],jS,hr.out.trans aC⟩
     case measure=>exact qL
    .have mY:t/2^k%2=0:=om;have HB:Hid (¬t/2^k%2=1):=hb;clear hb;go_wp2;go_roundw
     case rel=>exact⟨k+1,om,by rw[HS.out,aH HB.out],jS,hr⟩
     case measure=>exact qL
   .obtain rfl:k=38:=om;go_wp2;go_returns;exact⟨rfl,hr.out⟩
 .have hn:oI t=0:=aH hb;rw[hn];have Dq:(t/274877906944==0)=I:=jA;clear hn;go_enter func277,ntmps277;go_wp2;go_returns;exact⟨rfl,Gr.refl _⟩
def aM4{P:Prop}(h:P:=by
 have:2^P=2^(nb V-1)*2^k:=by rw[<-jY];congr 1;omega
 rw[this];exact Nat.mul_le_mul_right _ V5):P:=h
def aM5{P:Prop}(h:P:=by
 have:2*2^P=2^nb V*2^k:=by rw[<-jY,dM,<-jE];congr 1;omega
 rw[this];exact Nat.mul_lt_mul_of_pos_right hhi (iQ de)):P:=h
def oM(k:Nat):((2^k:Nat):Int)=(2:Int)^k:=by push_cast;rfl
def aBE(h:zo p mn mx fb sp one aN sg nan)(s v:Int)(v0:0<v)(v1:v<aN)(w:ak):
  CT 299 #[lT p mn mx,J s,Y v] w λe w'=>∃x g:Int,nX p mx one v x g/\e=Z (fG 1 s x g)/\Gr w w':=by
 have hp:∃P:Nat,(P:Int)=p-1/\one=2^P/\P<=52:=by
  rcases h with⟨rfl,rfl,rfl,rfl,rfl,rfl,rfl,rfl,rfl⟩|⟨rfl,rfl,rfl,rfl,rfl,rfl,rfl,rfl,rfl⟩
  .exact⟨23,de,de,de⟩
  .exact⟨52,de,de,de⟩
 obtain⟨P,hP,Dn,aUi⟩:=hp;have Ce:mn-fb=2-mx-p:=by rcases h with h|h<;>omega
 have h52:one<=4503599627370496:=by rcases h with h|h<;>omega
 have h1:0<one:=by rcases h with h|h<;>omega
 by_cases hs:v<one
 .obtain⟨V,rfl⟩:=lq (om:0<=v);have hVP:V<2^P:=by
   have:((V:Nat):Int)<((2^P:Nat):Int):=by rw[oM,<-Dn];exact hs
   omega
  have Vo:nb V<=P:=vS hVP;have hb:=CV V om;have jZ:=D8 V om;have V5:=X_ V om;have hhi:=Bc V;obtain⟨k,hk⟩:∃k:Nat,k+nb V=P+1:=⟨P+1-nb V,om⟩;have e1:2^P<=V*2^k:=by
   exact aM4
  have e2:V*2^k<2*2^P:=by
   exact aM5
  have hP2:(2:Nat)^P<=4503599627370496:=by
   have:=pU (show 0<2 by decide) aUi
   simpa using this
  have S9:one=((2^P:Nat):Int):=by rw[oM];exact Dn
  have c1:(V:Int)*2^k=((V*2^k:Nat):Int):=by rw[FI,oM]
  generalize V*2^k=G at*
  generalize(2:Nat)^P=O at*
  refine(VD h s (V:Int) om hs (nb V:Int) k (by rw[Int.toNat_natCast,hb]) om om (G:Int) c1 om om w).mono ?_;rintro e w' ⟨rfl,hg⟩;exact⟨_,_,⟨k,V,2-mx-p,.inl ⟨hs,rfl,rfl⟩,c1.symm,om,om,om⟩,rfl,hg⟩
 .have hq:1<=v/one:=by
   have:=Int.le_ediv_of_mul_le h1 (om:1*one<=v);omega
  have hdm:=Int.ediv_mul_add_emod v one;have Qv:=Int.emod_nonneg v (om:one≠0);have wz:=Int.emod_lt_of_pos v h1;obtain⟨c,hc⟩:=x_n (v%one+one:Int);have Qx:v-(v/one-1)*one=c:=by rw[Int.sub_mul];omega
  obtain⟨C,rfl⟩:=lq (om:0<=c);have S9:one=((2^P:Nat):Int):=by rw[oM];exact Dn
  have hCb:nb C=P+1:=by
   have a1:2^P<=C:=by generalize(2:Nat)^P=O at*;omega
   have a2:C<2^(P+1):=by rw[jE];generalize(2:Nat)^P=O at*;omega
   have:=vS a2;have:=zY a1;omega
  have hb:=CV C om;refine(aBD h s v (v/one-1) (C:Int) om om om v1 Qx om om (nb C:Int) 0 (by rw[Int.toNat_natCast,hb]) om om (C:Int) (by simp) om om w).mono ?_;rintro e w' ⟨rfl,hg⟩;exact⟨_,_,⟨0,C,1-mx-p+v/one,.inr ⟨om,hc,rfl⟩,by simp,om,om,om⟩,rfl,hg⟩
def zo.bounds(h:zo p mn mx fb sp one aN sg nan):0<aN/\aN<nan/\nan<sg/\sg<=9223372036854775808/\0<one/\one<aN:=by
 rcases h with h|h<;>omega
def aGo(W sg:Int)(h0:0<=W)(h1:W<2*sg):W/sg=0/\W%sg=W/\W<sg\/W/sg=1/\W%sg=W-sg/\sg<=W:=by
 by_cases c:W<sg
 .exact .inl ⟨Int.ediv_eq_zero_of_lt h0 c,Int.emod_eq_of_lt h0 c,c⟩
 .have e:W=(W-sg)+sg*1:=om;have e1:W/sg=1:=by
   rw[e,Int.add_mul_ediv_left _ _ om,Int.ediv_eq_zero_of_lt om (by omega)];rfl
  have e2:=Int.emod_add_mul_ediv W sg;rw[e1]at e2;exact .inr ⟨e1,om,om⟩
def Z4(h:zo p mn mx fb sp one aN sg nan)(W:Int)(h0:0<=W)(h1:W<2*sg)(w:ak):
  CT 241 #[lT p mn mx,Y W] w λe w'=>∃c s x g:Int,gX p mx one aN sg nan W c s x g/\e=Z (fG c s x g)/\Gr w w':=by
 obtain⟨b1,b2,b3,b4,b5,b6⟩:=h.bounds;have HS:KR 298 #[lT p mn mx,Y W] (J (W/sg)):=λw=>aAr h W h0 h1 w;have HM:KR 272 #[lT p mn mx,Y W] (Y (W%sg)):=λw=>Dw h W h0 h1 w;have HI:Ag p mn mx 0 aN:=λw=>ou h 0 aN (.inl ⟨rfl,rfl⟩) w;have HN:KR 238 #[lT p mn mx] (Y nan):=λw=>MK h w;have hsv:Hid (W/sg=0/\W%sg=W/\W<sg\/W/sg=1/\W%sg=W-sg/\sg<=W):=aGo W sg h0 h1;generalize W/sg=s at*
 generalize W%sg=v at*
 have v0:0<=v/\v<sg/\0<=s/\s<=1:=by have:=hsv.out;omega
 have AL:Hid (0<v->v<aN->∀w,CT 299 #[lT p mn mx,J s,Y v] w λe w'=>∃x g:Int,nX p mx one v x g/\e=Z (fG 1 s x g)/\Gr w w'):=λa b w=>aBE h s v a b w;have hU:Hid (∀c e g:Int,(v=0/\c=0/\e=0/\g=0\/aN<v/\v<nan/\c=4/\e=0/\g=0\/nan<=v/\c=3/\e=0/\g=0\/v=aN/\c=2/\e=0/\g=0\/0<v/\v<aN/\c=1/\nX p mx one v e g)->gX p mx one aN sg nan W c s e g):=λc e g hc=>⟨v,hsv.out,hc⟩;have HFt:IQ p mn mx W true:=λw=>by
  have:=fits_any h W h0 om w;rw[h_ h1]at this;exact this
 clear h;rcases(om:v=0\/(0<v/\v<aN)\/v=aN\/(aN<v/\v<nan)\/nan<=v)with rfl|⟨c1,c2⟩|c1|⟨c1,c2⟩|c1
 .skip
  go_enter func241,ntmps241;go_wp2_with (go_at_call 169;refine(HFt _).mono ?_;rintro e w2 ⟨rfl,aC⟩;obtain⟨pm0,pm1,pm2⟩:jU w2 w.heap.size 0 1 2 (J p) (J mn) (J mx):=⟨kq,kq,kq⟩;obtain⟨qN,aHd,pr1,aHc,pr2,aHb,pr3,aHa⟩:qU w2 (w.heap.size+1) 0 1 2 3 (J 0) (J 0) (J 0) (Y 0):=⟨kq,kq,kq,kq,kq,kq,kq,kq⟩);go_region_held3 (λw'=>jU w' w.heap.size 0 1 2 (J p) (J mn) (J mx)/\qU w' (w.heap.size+1) 0 1 2 3 (J 0) (J 0) (J 0) (Y 0))((go_split_ands;(repeat' apply And.intro)<;>exact kl))(first|(go_at_call 298;refine(HS _).mono ?_;rintro e w3 ⟨rfl,aO⟩;have DJ:=aO.cells;have DF:=aO.eY;have oO:=aO.size;(try simp only[dV,jg,jW]at oO))|(go_at_call 272;refine(HM _).mono ?_;rintro e w4 ⟨rfl,bg⟩;have Px:=bg.cells;have Po:=bg.eY;have vZ:=bg.size;(try simp only[dV,jg,jW]at vZ)))
  all_goals
   (try go_split_ands)
   go_wp2_with (first|(go_at_call 240;refine(HI _).mono ?_;rintro e w5 ⟨rfl,bT⟩;obtain⟨am0,am1,am2⟩:jU w5 w.heap.size 0 1 2 (J p) (J mn) (J mx):=⟨kq,kq,kq⟩;obtain⟨iy,V_,EM,V9,ar2,az2,ar3,az3⟩:qU w5 (w.heap.size+1) 0 1 2 3 (J 0) (J 0) (J 0) (Y 0):=⟨kq,kq,kq,kq,kq,kq,kq,kq⟩)|(go_at_call 238;refine(HN _).mono ?_;rintro e w6 ⟨rfl,gG⟩;obtain⟨lJ,bz0,br1,bz1,br2,bz2,br3,bz3⟩:qU w6 (w.heap.size+1) 0 1 2 3 (J 0) (J 0) (J 0) (Y 0):=⟨kq,kq,kq,kq,kq,kq,kq,kq⟩)|(go_at_call 299;refine(AL om om _).mono ?_;rintro e w7 ⟨x,g,hn,rfl,jT⟩;obtain⟨yZ,cz0,cr1,cz1,cr2,cz2,cr3,cz3⟩:qU w7 (w.heap.size+1) 0 1 2 3 (J 0) (J 0) (J 0) (Y 0):=⟨kq,kq,kq,kq,kq,kq,kq,kq⟩))
   refine gY (v:=fG 0 s 0 0) (by simp[results,results241,go_sem,iy,EM,ar2,ar3]) rfl ⟨0,s,0,0,hU.out _ _ _ (by first|exact .inl ⟨rfl,rfl,rfl,rfl⟩|exact .inl ⟨trivial,rfl,rfl,rfl⟩),rfl,?_⟩;exact kr
 .have c3:(v==0)=I:=jA;go_enter func241,ntmps241;go_wp2_with (go_at_call 169;refine(HFt _).mono ?_;rintro e w2 ⟨rfl,aC⟩;obtain⟨pm0,pm1,pm2⟩:jU w2 w.heap.size 0 1 2 (J p) (J mn) (J mx):=⟨kq,kq,kq⟩;obtain⟨qN,aHd,pr1,aHc,pr2,aHb,pr3,aHa⟩:qU w2 (w.heap.size+1) 0 1 2 3 (J 0) (J 0) (J 0) (Y 0):=⟨kq,kq,kq,kq,kq,kq,kq,kq⟩);go_region_held3 (λw'=>jU w' w.heap.size 0 1 2 (J p) (J mn) (J mx)/\qU w' (w.heap.size+1) 0 1 2 3 (J 0) (J 0) (J 0) (Y 0))((go_split_ands;(repeat' apply And.intro)<;>exact kl))(first|(go_at_call 298;refine(HS _).mono ?_;rintro e w3 ⟨rfl,aO⟩;have DJ:=aO.cells;have DF:=aO.eY;have oO:=aO.size;(try simp only[dV,jg,jW]at oO))|(go_at_call 272;refine(HM _).mono ?_;rintro e w4 ⟨rfl,bg⟩;have Px:=bg.cells;have Po:=bg.eY;have vZ:=bg.size;(try simp only[dV,jg,jW]at vZ)))
  all_goals
   (try go_split_ands)
   go_wp2_with (first|(go_at_call 240;refine(HI _).mono ?_;rintro e w5 ⟨rfl,bT⟩;obtain⟨am0,am1,am2⟩:jU w5 w.heap.size 0 1 2 (J p) (J mn) (J mx):=⟨kq,kq,kq⟩;obtain⟨iy,V_,EM,V9,ar2,az2,ar3,az3⟩:qU w5 (w.heap.size+1) 0 1 2 3 (J 0) (J 0) (J 0) (Y 0):=⟨kq,kq,kq,kq,kq,kq,kq,kq⟩)|(go_at_call 238;refine(HN _).mono ?_;rintro e w6 ⟨rfl,gG⟩;obtain⟨lJ,bz0,br1,bz1,br2,bz2,br3,bz3⟩:qU w6 (w.heap.size+1) 0 1 2 3 (J 0) (J 0) (J 0) (Y 0):=⟨kq,kq,kq,kq,kq,kq,kq,kq⟩)|(go_at_call 299;refine(AL om om _).mono ?_;rintro e w7 ⟨x,g,hn,rfl,jT⟩;obtain⟨yZ,cz0,cr1,cz1,cr2,cz2,cr3,cz3⟩:qU w7 (w.heap.size+1) 0 1 2 3 (J 0) (J 0) (J 0) (Y 0):=⟨kq,kq,kq,kq,kq,kq,kq,kq⟩))
   refine gY (v:=fG 1 s x g) (by simp[results,results241,go_sem,yZ,cr1,cr2,cr3]) rfl ⟨1,s,x,g,hU.out _ _ _ (.inr (.inr (.inr (.inr ⟨c1,c2,rfl,hn⟩)))),rfl,?_⟩;exact kr
 .subst c1;have c3:(v==0)=I:=jA;go_enter func241,ntmps241;go_wp2_with (go_at_call 169;refine(HFt _).mono ?_;rintro e w2 ⟨rfl,aC⟩;obtain⟨pm0,pm1,pm2⟩:jU w2 w.heap.size 0 1 2 (J p) (J mn) (J mx):=⟨kq,kq,kq⟩;obtain⟨qN,aHd,pr1,aHc,pr2,aHb,pr3,aHa⟩:qU w2 (w.heap.size+1) 0 1 2 3 (J 0) (J 0) (J 0) (Y 0):=⟨kq,kq,kq,kq,kq,kq,kq,kq⟩);go_region_held3 (λw'=>jU w' w.heap.size 0 1 2 (J p) (J mn) (J mx)/\qU w' (w.heap.size+1) 0 1 2 3 (J 0) (J 0) (J 0) (Y 0))((go_split_ands;(repeat' apply And.intro)<;>exact kl))(first|(go_at_call 298;refine(HS _).mono ?_;rintro e w3 ⟨rfl,aO⟩;have DJ:=aO.cells;have DF:=aO.eY;have oO:=aO.size;(try simp only[dV,jg,jW]at oO))|(go_at_call 272;refine(HM _).mono ?_;rintro e w4 ⟨rfl,bg⟩;have Px:=bg.cells;have Po:=bg.eY;have vZ:=bg.size;(try simp only[dV,jg,jW]at vZ)))
  all_goals
   (try go_split_ands)
   go_wp2_with (first|(go_at_call 240;refine(HI _).mono ?_;rintro e w5 ⟨rfl,bT⟩;obtain⟨am0,am1,am2⟩:jU w5 w.heap.size 0 1 2 (J p) (J mn) (J mx):=⟨kq,kq,kq⟩;obtain⟨iy,V_,EM,V9,ar2,az2,ar3,az3⟩:qU w5 (w.heap.size+1) 0 1 2 3 (J 0) (J 0) (J 0) (Y 0):=⟨kq,kq,kq,kq,kq,kq,kq,kq⟩)|(go_at_call 238;refine(HN _).mono ?_;rintro e w6 ⟨rfl,gG⟩;obtain⟨lJ,bz0,br1,bz1,br2,bz2,br3,bz3⟩:qU w6 (w.heap.size+1) 0 1 2 3 (J 0) (J 0) (J 0) (Y 0):=⟨kq,kq,kq,kq,kq,kq,kq,kq⟩)|(go_at_call 299;refine(AL om om _).mono ?_;rintro e w7 ⟨x,g,hn,rfl,jT⟩;obtain⟨yZ,cz0,cr1,cz1,cr2,cz2,cr3,cz3⟩:qU w7 (w.heap.size+1) 0 1 2 3 (J 0) (J 0) (J 0) (Y 0):=⟨kq,kq,kq,kq,kq,kq,kq,kq⟩))
   refine gY (v:=fG 2 s 0 0) (by simp[results,results241,go_sem,iy,EM,ar2,ar3]) rfl ⟨2,s,0,0,hU.out _ _ _ (by first|exact .inr (.inr (.inr (.inl ⟨rfl,rfl,rfl,rfl⟩)))|exact .inr (.inr (.inr (.inl ⟨trivial,rfl,rfl,rfl⟩)))),rfl,?_⟩;exact kr
 .have c3:(v==0)=I:=jA;have c4:(v==aN)=I:=jA;go_enter func241,ntmps241;go_wp2_with (go_at_call 169;refine(HFt _).mono ?_;rintro e w2 ⟨rfl,aC⟩;obtain⟨pm0,pm1,pm2⟩:jU w2 w.heap.size 0 1 2 (J p) (J mn) (J mx):=⟨kq,kq,kq⟩;obtain⟨qN,aHd,pr1,aHc,pr2,aHb,pr3,aHa⟩:qU w2 (w.heap.size+1) 0 1 2 3 (J 0) (J 0) (J 0) (Y 0):=⟨kq,kq,kq,kq,kq,kq,kq,kq⟩);go_region_held3 (λw'=>jU w' w.heap.size 0 1 2 (J p) (J mn) (J mx)/\qU w' (w.heap.size+1) 0 1 2 3 (J 0) (J 0) (J 0) (Y 0))((go_split_ands;(repeat' apply And.intro)<;>exact kl))(first|(go_at_call 298;refine(HS _).mono ?_;rintro e w3 ⟨rfl,aO⟩;have DJ:=aO.cells;have DF:=aO.eY;have oO:=aO.size;(try simp only[dV,jg,jW]at oO))|(go_at_call 272;refine(HM _).mono ?_;rintro e w4 ⟨rfl,bg⟩;have Px:=bg.cells;have Po:=bg.eY;have vZ:=bg.size;(try simp only[dV,jg,jW]at vZ)))
  all_goals
   (try go_split_ands)
   go_wp2_with (first|(go_at_call 240;refine(HI _).mono ?_;rintro e w5 ⟨rfl,bT⟩;obtain⟨am0,am1,am2⟩:jU w5 w.heap.size 0 1 2 (J p) (J mn) (J mx):=⟨kq,kq,kq⟩;obtain⟨iy,V_,EM,V9,ar2,az2,ar3,az3⟩:qU w5 (w.heap.size+1) 0 1 2 3 (J 0) (J 0) (J 0) (Y 0):=⟨kq,kq,kq,kq,kq,kq,kq,kq⟩)|(go_at_call 238;refine(HN _).mono ?_;rintro e w6 ⟨rfl,gG⟩;obtain⟨lJ,bz0,br1,bz1,br2,bz2,br3,bz3⟩:qU w6 (w.heap.size+1) 0 1 2 3 (J 0) (J 0) (J 0) (Y 0):=⟨kq,kq,kq,kq,kq,kq,kq,kq⟩)|(go_at_call 299;refine(AL om om _).mono ?_;rintro e w7 ⟨x,g,hn,rfl,jT⟩;obtain⟨yZ,cz0,cr1,cz1,cr2,cz2,cr3,cz3⟩:qU w7 (w.heap.size+1) 0 1 2 3 (J 0) (J 0) (J 0) (Y 0):=⟨kq,kq,kq,kq,kq,kq,kq,kq⟩))
   refine gY (v:=fG 4 s 0 0) (by simp[results,results241,go_sem,lJ,br1,br2,br3]) rfl ⟨4,s,0,0,hU.out _ _ _ (.inr (.inl ⟨c1,c2,rfl,rfl,rfl⟩)),rfl,?_⟩;exact kr
 .have c3:(v==0)=I:=jA;have c4:(v==aN)=I:=jA;go_enter func241,ntmps241;go_wp2_with (go_at_call 169;refine(HFt _).mono ?_;rintro e w2 ⟨rfl,aC⟩;obtain⟨pm0,pm1,pm2⟩:jU w2 w.heap.size 0 1 2 (J p) (J mn) (J mx):=⟨kq,kq,kq⟩;obtain⟨qN,aHd,pr1,aHc,pr2,aHb,pr3,aHa⟩:qU w2 (w.heap.size+1) 0 1 2 3 (J 0) (J 0) (J 0) (Y 0):=⟨kq,kq,kq,kq,kq,kq,kq,kq⟩);go_region_held3 (λw'=>jU w' w.heap.size 0 1 2 (J p) (J mn) (J mx)/\qU w' (w.heap.size+1) 0 1 2 3 (J 0) (J 0) (J 0) (Y 0))((go_split_ands;(repeat' apply And.intro)<;>exact kl))(first|(go_at_call 298;refine(HS _).mono ?_;rintro e w3 ⟨rfl,aO⟩;have DJ:=aO.cells;have DF:=aO.eY;have oO:=aO.size;(try simp only[dV,jg,jW]at oO))|(go_at_call 272;refine(HM _).mono ?_;rintro e w4 ⟨rfl,bg⟩;have Px:=bg.cells;have Po:=bg.eY;have vZ:=bg.size;(try simp only[dV,jg,jW]at vZ)))
  all_goals
   (try go_split_ands)
   go_wp2_with (first|(go_at_call 240;refine(HI _).mono ?_;rintro e w5 ⟨rfl,bT⟩;obtain⟨am0,am1,am2⟩:jU w5 w.heap.size 0 1 2 (J p) (J mn) (J mx):=⟨kq,kq,kq⟩;obtain⟨iy,V_,EM,V9,ar2,az2,ar3,az3⟩:qU w5 (w.heap.size+1) 0 1 2 3 (J 0) (J 0) (J 0) (Y 0):=⟨kq,kq,kq,kq,kq,kq,kq,kq⟩)|(go_at_call 238;refine(HN _).mono ?_;rintro e w6 ⟨rfl,gG⟩;obtain⟨lJ,bz0,br1,bz1,br2,bz2,br3,bz3⟩:qU w6 (w.heap.size+1) 0 1 2 3 (J 0) (J 0) (J 0) (Y 0):=⟨kq,kq,kq,kq,kq,kq,kq,kq⟩)|(go_at_call 299;refine(AL om om _).mono ?_;rintro e w7 ⟨x,g,hn,rfl,jT⟩;obtain⟨yZ,cz0,cr1,cz1,cr2,cz2,cr3,cz3⟩:qU w7 (w.heap.size+1) 0 1 2 3 (J 0) (J 0) (J 0) (Y 0):=⟨kq,kq,kq,kq,kq,kq,kq,kq⟩))
   refine gY (v:=fG 3 s 0 0) (by simp[results,results241,go_sem,lJ,br1,br2,br3]) rfl ⟨3,s,0,0,hU.out _ _ _ (.inr (.inr (.inl ⟨c1,rfl,rfl,rfl⟩))),rfl,?_⟩;exact kr
def Wv(h:zo p mn mx fb sp one aN sg nan)(W:Int)(h0:2*sg<=W)(h1:aI W)(w:ak):
  QR 241 #[lT p mn mx,Y W] w (fG 4 0 0 0):=by
 have HFt:IQ p mn mx W I:=λw=>by
  have hb:=h.bounds;have:=fits_any h W om h1 w;rw[gV (by omega)]at this;exact this
 clear h;go_enter func241,ntmps241;go_wp2_with (go_at_call 169;refine(HFt _).mono ?_;rintro e w2 ⟨rfl,aC⟩;obtain⟨pm0,pm1,pm2⟩:jU w2 w.heap.size 0 1 2 (J p) (J mn) (J mx):=⟨kq,kq,kq⟩;obtain⟨qN,aHd,pr1,aHc,pr2,aHb,pr3,aHa⟩:qU w2 (w.heap.size+1) 0 1 2 3 (J 0) (J 0) (J 0) (Y 0):=⟨kq,kq,kq,kq,kq,kq,kq,kq⟩);exact cO (by simp[results,results241,go_sem,qN,pr1,pr2,pr3])
def aKt(h:bI f p mx one aN sg nan)(v:Int)(v0:0<v)(v1:v<aN):∃x g:Int,nX p mx one v x g:=by
 obtain⟨P,hP,aKX,Dn⟩:=h.pow;obtain⟨b1,b2,b3,b4,b5,b6,b7,b8,b9,b10,b11,b12⟩:=h.bounds;have S9:one=((2^P:Nat):Int):=by rw[oM];exact Dn
 by_cases hs:v<one
 .obtain⟨V,rfl⟩:=lq (om:0<=v);have hVP:V<2^P:=by generalize(2:Nat)^P=O at*;omega
  have Vo:nb V<=P:=vS hVP;have jZ:=D8 V om;have V5:=X_ V om;have hhi:=Bc V;obtain⟨k,hk⟩:∃k:Nat,k+nb V=P+1:=⟨P+1-nb V,om⟩;have e1:2^P<=V*2^k:=by
   exact aM4
  have e2:V*2^k<2*2^P:=by
   exact aM5
  have c1:(V:Int)*2^k=((V*2^k:Nat):Int):=by rw[FI,oM]
  generalize V*2^k=G at*
  generalize(2:Nat)^P=O at*
  exact⟨2-mx-p-k,G,k,V,2-mx-p,.inl ⟨hs,rfl,rfl⟩,c1.symm,rfl,om,om⟩
 .have Qv:=Int.emod_nonneg v (om:one≠0);have wz:=Int.emod_lt_of_pos v (om:0<one);exact⟨1-mx-p+v/one-(0:Nat),v%one+one,0,v%one+one,1-mx-p+v/one,.inr ⟨om,rfl,rfl⟩,by simp,rfl,om,om⟩
def aDg(h:bI f p mx one aN sg nan)(W:Int)(h0:0<=W)(h1:W<2*sg):∃c s x g:Int,gX p mx one aN sg nan W c s x g:=by
 obtain⟨b1,b2,b3,b4,b5,b6,b7,b8,b9,b10,b11,b12⟩:=h.bounds;have hsv:∃s v:Int,(s=0/\v=W/\W<sg\/s=1/\v=W-sg/\sg<=W)/\0<=v/\v<sg:=by
  by_cases c:W<sg
  .exact⟨0,W,om,om,om⟩
  .exact⟨1,W-sg,om,om,om⟩
 obtain⟨s,v,hs,v0,v1⟩:=hsv;rcases(om:v=0\/(0<v/\v<aN)\/v=aN\/(aN<v/\v<nan)\/nan<=v)with c|⟨c1,c2⟩|c|⟨c1,c2⟩|c
 .exact⟨0,s,0,0,v,hs,.inl ⟨c,rfl,rfl,rfl⟩⟩
 .obtain⟨x,g,hn⟩:=aKt h v c1 c2;exact⟨1,s,x,g,v,hs,.inr (.inr (.inr (.inr ⟨c1,c2,rfl,hn⟩)))⟩
 .exact⟨2,s,0,0,v,hs,.inr (.inr (.inr (.inl ⟨c,rfl,rfl,rfl⟩)))⟩
 .exact⟨4,s,0,0,v,hs,.inr (.inl ⟨c1,c2,rfl,rfl,rfl⟩)⟩
 .exact⟨3,s,0,0,v,hs,.inr (.inr (.inl ⟨c,rfl,rfl,rfl⟩))⟩
