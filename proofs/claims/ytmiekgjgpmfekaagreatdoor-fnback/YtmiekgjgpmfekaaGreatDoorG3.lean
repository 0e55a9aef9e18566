import Derived.Test.YtmiekgjgpmfekaaGreatDoorG1
import Derived.Test.YtmiekgjgpmfekaaGreatDoorK3
set_option linter.all false
set_option maxRecDepth 1000000
set_option maxHeartbeats 40000000
open Go.Proofs.YtmiekgjgpmfekaaGreatDoor renaming vI → J
open Go.Value renaming bool → Y
open Go.Proofs.Tryz
namespace Go.Proofs.YtmiekgjgpmfekaaGreatDoor
open Go.RowKit
variable{v:Value}{w w':World}{n M L K N:Nat}{f p mn mx one inf sg nan:Int}
theorem Az(h:Big w v n M)(hn:n<=100000)(s e q:Int)(rest:Bool)(e0:-1000000<=e)(e1:e<=1000000)(q0:-1000000<=q)(q1:q<=1000000):
  CT 150 #[.agg #[J s,v,J e,Y rest],J q] w fun x w'=>∃v' k,x=.returned (.tuple #[v',J (aJ M e q rest)])/\Big w' v' k (aW M e q)/\k<=n+70000/\Gb w w':=by
 by_cases hq:q<=e
 ·exact Zd h hn s e q rest e0 e1 q0 hq
 ·obtain⟨d,hd⟩:∃d:Nat,q-e=(d:Int):=⟨(q-e).toNat,om⟩;have d1:1<=d:=om;have eLo:aW M e q=M/2^d:=by unfold aW;rw[if_neg hq,hd];rfl
  have eHa:aJ M e q rest=hr M d rest:=by unfold aJ;rw[if_neg hq,hd];rfl
  rw[eLo,eHa];have fin:∀(H:Nat),hr M d rest=H->(CT 150 #[.agg #[J s,v,J e,Y rest],J q] w fun x w'=>∃v' k,x=.returned (.tuple #[v',J (H:Int)])/\Big w' v' k (M/2^d)/\k<=n/\Gb w w')->
    CT 150 #[.agg #[J s,v,J e,Y rest],J q] w fun x w'=>∃v' k,x=.returned (.tuple #[v',J (hr M d rest:Int)])/\Big w' v' k (M/2^d)/\k<=n+70000/\Gb w w':=by
   intro H hH hc;rw[hH];exact hc.mono (fun x w' ⟨v',k,h1,h2,h3,h4⟩=>⟨v',k,h1,h2,om,h4⟩)
  by_cases hR:M%2^d=0
  ·cases rest
   ·exact fin 0 (zq M d d1 hR) (aBQ h hn s e q e0 e1 q1 d hd d1 _ _ _ rfl rfl rfl hR)
   ·have hp:0<2^(d-1):=Nat.pow_pos de;refine fin 1 (Zt M d true d1 om (.inr rfl)) (aBP h hn s e q e0 e1 q1 d hd d1 _ _ _ rfl rfl rfl hR ?_);unfold fH;rw[if_pos (by omega)]
  ·rcases Nat.lt_trichotomy (M%2^d) (2^(d-1))with c|c|c
   ·refine fin 1 (Zt M d rest d1 c (.inl hR)) (aBO h hn s e q rest e0 e1 q1 d hd d1 _ _ _ rfl rfl rfl hR ?_);unfold fH;rw[if_pos c]
   ·have hc:fH (M%2^d) (2^(d-1))=0:=by unfold fH;rw[if_neg om,if_neg (by omega)]
    cases rest
    ·exact fin 2 (aE8 M d d1 c) (aBN h hn s e q e0 e1 q1 d hd d1 _ _ _ rfl rfl rfl hR hc)
    ·exact fin 3 (Nu M d true d1 om (.inr rfl)) (aBM h hn s e q e0 e1 q1 d hd d1 _ _ _ rfl rfl rfl hR hc)
   ·refine fin 3 (Nu M d rest d1 om (.inl om)) (aBL h hn s e q rest e0 e1 q1 d hd d1 _ _ _ rfl rfl rfl hR ?_);unfold fH;rw[if_neg om,if_pos c]
theorem zo(h:Big w v n L)(hn:n<=500000)(mode sign:Int)(half:Nat)(m0:0<=mode)(m1:mode<=4)(hs:sign=0\/sign=1)(hh:half<=3):
  CT 151 #[J mode,J sign,v,J half] w fun x w'=>∃v' k,x=.returned v'/\Big w' v' k (chosen mode sign L half)/\k<=n+3/\Gb w w':=by
 have WO:∀b:Int,(L:Int)%2=b->Hid (∀w',w'=w->QW 188 #[v,J 0] w' (.int .u32 b)):=fun b hb w' hw=>by subst hw;exact hb▸QU h om
 have yD:Hid (∀w',CT 100 #[.int .u64 1] w' fun x w''=>∃v' k,x=.returned v'/\Big w'' v' k 1/\k<=2/\Gb w' w''):=fun w'=>fC 1 om w';have HAdd:Hid (∀v2 k2 w',Gb w w'->Big w' v2 k2 1->k2<=2->CT 163 #[v,v2] w' fun x w''=>∃v' k,x=.returned v'/\Big w'' v' k (L+1)/\k<=n+3/\Gb w' w''):=fun v2 k2 w' hg hb hk=>(AA (h.gb hg) om hb om).mono (fun x w'' ⟨v',k,h1,h2,h3,h4⟩=>⟨v',k,h1,h2,om,h4⟩);have HL:Hid (Big w v n L):=h;obtain⟨U,hU⟩:∃U,U=up mode sign L half:=⟨_,rfl⟩;have hch:chosen mode sign L half=L+(if U then 1 else 0):=by rw[hU];rfl
 rw[hch];have hcase:(mode=0/\(half:Int)=0/\U=false)\/(mode=0/\(half:Int)=1/\U=false)\/(mode=0/\(half:Int)=2/\(L:Int)%2=0/\U=false)\/(mode=0/\(half:Int)=2/\(L:Int)%2=1/\U=true)\/(mode=0/\(half:Int)=3/\U=true)\/
   (mode=1/\(half:Int)<2/\U=false)\/(mode=1/\2<=(half:Int)/\U=true)\/(mode=2/\U=false)\/
   (mode=3/\(half:Int)=0/\U=false)\/(mode=3/\0<(half:Int)/\sign=0/\U=true)\/(mode=3/\0<(half:Int)/\sign=1/\U=false)\/
   (mode=4/\(half:Int)=0/\U=false)\/(mode=4/\0<(half:Int)/\sign=0/\U=false)\/(mode=4/\0<(half:Int)/\sign=1/\U=true):=by
  unfold up at hU;cases U
  ·have:=of_decide_eq_false hU.symm;simp only[true_and,and_true,Bool.false_eq_true,and_false,or_false,false_or];omega
  ·have:=of_decide_eq_true hU.symm;simp only[true_and,and_true,Bool.true_eq_false,and_false,or_false,false_or];omega
 generalize(half:Int)=H at*
 clear hU hch h;rcases hcase with⟨rfl,rfl,rfl⟩|⟨rfl,rfl,rfl⟩|⟨rfl,rfl,hb,rfl⟩|⟨rfl,rfl,hb,rfl⟩|⟨rfl,rfl,rfl⟩|⟨rfl,c,rfl⟩|⟨rfl,c,rfl⟩|⟨rfl,rfl⟩|⟨rfl,rfl,rfl⟩|⟨rfl,c,rfl,rfl⟩|⟨rfl,c,rfl,rfl⟩|⟨rfl,rfl,rfl⟩|⟨rfl,c,rfl,rfl⟩|⟨rfl,c,rfl,rfl⟩
 all_goals
  first
   |(have HB:=WO _ hb;clear WO hb hs)
   |(have HB:Hid True:=trivial;clear WO hs)
  go_enter func151,ntmps151;go_wp2_with (first
   |(go_at_call 188;refine kw (HB _ rfl) ?_)
   |(go_at_call 100;refine(yD _).mono ?_;rintro x w1 ⟨v1,k1,rfl,hb1,hk1,hg1⟩)
   |(go_at_call 163;refine(HAdd v1 k1 _ kg hb1 hk1).mono ?_;rintro x w2 ⟨v2,k2,rfl,hb2,hk2,hg2⟩))
  go_returns;first
   |exact⟨_,_,rfl,HL.out,om,kg⟩
   |exact⟨_,_,rfl,hb2,om,kg⟩
   |exact⟨_,rfl,_,HL.out,om,kg⟩
   |exact⟨_,rfl,_,hb2,om,kg⟩
def aC(K:Nat)(w:World)(v:Value)(N:Nat):Prop:=∃n,n<=K/\Big w v n N
abbrev qh(K N:Nat)(w:World)(e:Ending)(w':World):Prop:=∃b k c,aC K w' (aB b k c) N/\e=.returned (aB b k c)/\Gb w w'
theorem aC.gb(h:aC K w v N)(k:Gb w w'):aC K w' v N:=by
 obtain⟨n,h1,h2⟩:=h;exact⟨n,h1,h2.gb k⟩
structure RC (f p mn mx one mode sign:Int) (w:World):Prop where
 max:∀w,QW 148 #[J f] w (J mx)
 min:∀w,QW 121 #[J f] w (J mn)
 prec:∀w,QW 98 #[J f] w (J p)
 two:∀w,QW 120 #[J (p-1)] w (.int .u64 one)
 len:∀K v N w,K<=200000->aC K w v N->QW 147 #[v] w (J (nb N))
 word:∀v N w,aC 190000 w v N->N<18446744073709551616->QW 152 #[v] w (.int .u64 N)
 choose:∀v (L:Nat) (half:Nat) w,aC 180000 w v L->half<=3->CT 151 #[J mode,J sign,v,J half] w fun x w'=>∃v',x=.returned v'/\aC 190000 w' v' (chosen mode sign L half)/\Gb w w'
theorem aGg(h:aP f p mx one inf sg nan)(hmn:1-mx=mn)(mode sign:Int)(m0:0<=mode)(m1:mode<=4)(hs:sign=0\/sign=1)(w:World):RC f p mn mx one mode sign w where
 max:=fun w=>rC h w
 min:=fun w=>hmn▸qZ h w
 prec:=fun w=>jL h w
 two:=fun w=>lM h w
 len:=fun K v N w hK ⟨n,h1,h2⟩=>Aw h2 om
 word:=fun v N w ⟨n,h1,h2⟩ hN=>yg h2 om hN
 choose:=fun v L half w ⟨n,h1,h2⟩ hh=>(zo h2 om mode sign half m0 m1 hs hh).mono (fun x w' ⟨v',k,a1,a2,a3,a4⟩=>⟨v',a1,⟨k,om,a2⟩,a4⟩)
theorem KX{P:Prop}(h:P:=by
 clear hU;cases lost<;>cases hb<;>cases U;all_goals
  simp only[Bool.false_or,Bool.true_or]at hrB;subst hrB;exact aFX):P:=h
theorem LW(M:Nat)(hM:M<340282366920938463463374607431768211456)(drop sign:Int)(sticky:Bool)(k:Nat)(fv:Value)(hd:drop<=0)(d0:-128<=drop)(hk:0-drop=(k:Int))(h:M*2^k<18446744073709551616)(w:World):
  QR 157 #[fv,J drop,J sign,aG ((M/18446744073709551616:Nat):Int) ((M%18446744073709551616:Nat):Int),Y sticky] w (.tuple #[.int .u64 ((M*2^k:Nat):Int),Y false]):=by
 have HS:KR 158 #[aG ((M/18446744073709551616:Nat):Int) ((M%18446744073709551616:Nat):Int),J (-drop)] (aG 0 ((M*2^k:Nat):Int)):=fun w=>by
  rw[show-drop=(k:Int) by omega];exact aHV M hM k om h w
 generalize((M/18446744073709551616:Nat):Int)=mh at*
 generalize((M%18446744073709551616:Nat):Int)=ml at*
 generalize((M*2^k:Nat):Int)=c at*
 clear h hk;have hfd:∀(w:World) (a b:Int),(Instr.field 131 (aG a b) 1).run Tryz.prog w=.ok (.int .u64 b) w:=fun _ _ _=>by kernel_rfl
 go_enter func157,ntmps157;go_wp2_with (go_at_call 158;refine(HS _).mono ?_;rintro e w1 ⟨rfl,ak⟩);go_returns;exact⟨rfl,kr⟩
theorem aFX{P:Prop}(h:P:=by
 go_enter func157,ntmps157;go_upto_region 4 with(go_at_call 182;refine(OA _).mono ?_;rintro e w1 ⟨rfl,ak⟩);go_upto_region 5 with(go_at_call 182;refine(HS2 _).mono ?_;rintro e w2 ⟨rfl,aA⟩);go_wp2_with (first
   |(go_at_call 189;refine kw (HR _) ?_)
   |(go_at_call 190;refine kw (HR _) ?_)
   |(go_at_call 191;refine kw (HR _) ?_)
   |(go_at_call 192;refine kw (HR _) ?_)
   |(go_at_call 193;refine kw (HR _) ?_))
 go_returns;exact⟨by simp,kr⟩):P:=h
theorem wQ(mh ml hh hl kh kl drop sign o:Int)(lost hb sticky sB oB rB U:Bool)(hd:0<drop)(d1:drop<=1000000)(hsB:(sign==1)=sB)(ho:bits .and .u64 kl 1=o)(hoB:(o==1)=oB)(hrB:(lost||sticky)=rB)(k0:0<=kl)(k1:kl<18446744073709551615)(hU:ru 0 sB oB hb rB=U)
  (OA:yA mh ml (drop-1) hh hl lost)
  (HS2:yA hh hl 1 kh kl hb) (w:World):
  QR 157 #[.func (.func 189) #[] #[],J drop,J sign,aG mh ml,Y sticky] w (.tuple #[.int .u64 (kl+(if U then 1 else 0)),Y (hb||rB)]):=by
 have HR:KW 189 #[Y sB,Y oB,Y hb,Y rB] (Y U):=fun w=>hU▸tu sB oB hb rB w;exact KX
theorem wS(mh ml hh hl kh kl drop sign o:Int)(lost hb sticky sB oB rB U:Bool)(hd:0<drop)(d1:drop<=1000000)(hsB:(sign==1)=sB)(ho:bits .and .u64 kl 1=o)(hoB:(o==1)=oB)(hrB:(lost||sticky)=rB)(k0:0<=kl)(k1:kl<18446744073709551615)(hU:ru 1 sB oB hb rB=U)
  (OA:yA mh ml (drop-1) hh hl lost)
  (HS2:yA hh hl 1 kh kl hb) (w:World):
  QR 157 #[.func (.func 190) #[] #[],J drop,J sign,aG mh ml,Y sticky] w (.tuple #[.int .u64 (kl+(if U then 1 else 0)),Y (hb||rB)]):=by
 have HR:KW 190 #[Y sB,Y oB,Y hb,Y rB] (Y U):=fun w=>hU▸tH sB oB hb rB w;exact KX
theorem xX(mh ml hh hl kh kl drop sign o:Int)(lost hb sticky sB oB rB U:Bool)(hd:0<drop)(d1:drop<=1000000)(hsB:(sign==1)=sB)(ho:bits .and .u64 kl 1=o)(hoB:(o==1)=oB)(hrB:(lost||sticky)=rB)(k0:0<=kl)(k1:kl<18446744073709551615)(hU:ru 2 sB oB hb rB=U)
  (OA:yA mh ml (drop-1) hh hl lost)
  (HS2:yA hh hl 1 kh kl hb) (w:World):
  QR 157 #[.func (.func 191) #[] #[],J drop,J sign,aG mh ml,Y sticky] w (.tuple #[.int .u64 (kl+(if U then 1 else 0)),Y (hb||rB)]):=by
 have HR:KW 191 #[Y sB,Y oB,Y hb,Y rB] (Y U):=fun w=>hU▸uz sB oB hb rB w;exact KX
theorem En(mh ml hh hl kh kl drop sign o:Int)(lost hb sticky sB oB rB U:Bool)(hd:0<drop)(d1:drop<=1000000)(hsB:(sign==1)=sB)(ho:bits .and .u64 kl 1=o)(hoB:(o==1)=oB)(hrB:(lost||sticky)=rB)(k0:0<=kl)(k1:kl<18446744073709551615)(hU:ru 3 sB oB hb rB=U)
  (OA:yA mh ml (drop-1) hh hl lost)
  (HS2:yA hh hl 1 kh kl hb) (w:World):
  QR 157 #[.func (.func 192) #[] #[],J drop,J sign,aG mh ml,Y sticky] w (.tuple #[.int .u64 (kl+(if U then 1 else 0)),Y (hb||rB)]):=by
 have HR:KW 192 #[Y sB,Y oB,Y hb,Y rB] (Y U):=fun w=>hU▸DL sB oB hb rB w;exact KX
theorem Ag(mh ml hh hl kh kl drop sign o:Int)(lost hb sticky sB oB rB U:Bool)(hd:0<drop)(d1:drop<=1000000)(hsB:(sign==1)=sB)(ho:bits .and .u64 kl 1=o)(hoB:(o==1)=oB)(hrB:(lost||sticky)=rB)(k0:0<=kl)(k1:kl<18446744073709551615)(hU:ru 4 sB oB hb rB=U)
  (OA:yA mh ml (drop-1) hh hl lost)
  (HS2:yA hh hl 1 kh kl hb) (w:World):
  QR 157 #[.func (.func 193) #[] #[],J drop,J sign,aG mh ml,Y sticky] w (.tuple #[.int .u64 (kl+(if U then 1 else 0)),Y (hb||rB)]):=by
 have HR:KW 193 #[Y sB,Y oB,Y hb,Y rB] (Y U):=fun w=>hU▸zD sB oB hb rB w;exact KX
theorem and_one(kl:Nat)(h:kl<18446744073709551616):bits .and .u64 (kl:Int) 1=((kl%2:Nat):Int):=by
 have:=u64_and_nat kl 1 h om;rw[show((1:Nat):Int)=1 from rfl]at this;rw[this,Nat.and_one_is_mod]
theorem aGc(mode sign:Int)(M lo d:Nat)(rest:Bool)(m0:0<=mode)(m1:mode<=4)(hs:sign=0\/sign=1):
  ru mode (sign==1) ((((lo%2:Nat):Int))==1) (decide (M/2^(d-1)%2≠0)) (decide (M%2^(d-1)≠0)||rest)=up mode sign lo (hr M d rest)/\
  ((decide (M/2^(d-1)%2≠0))||(decide (M%2^(d-1)≠0)||rest))=decide (0<hr M d rest):=by
 obtain⟨H,hH⟩:∃H,M/2^(d-1)%2=H:=⟨_,rfl⟩;obtain⟨R,hR⟩:∃R,M%2^(d-1)=R:=⟨_,rfl⟩;have hH2:H=0\/H=1:=by have:=Nat.mod_lt (M/2^(d-1)) (show 0<2 by decide);omega
 have hL:lo%2=0\/lo%2=1:=om;unfold hr;rw[hH,hR];unfold up ru;rcases(show mode=0\/mode=1\/mode=2\/mode=3\/mode=4 by omega)with rfl|rfl|rfl|rfl|rfl<;>rcases hs with rfl|rfl<;>rcases hH2 with rfl|rfl<;>rcases hL with hL|hL<;>rw[hL]<;>cases rest<;>by_cases hz:R=0<;>simp[hz]
theorem mG(mode:Int)(k:Nat)(hk:qC mode k)(sign:Int)(hs:sign=0\/sign=1)(M:Nat)(hM:M<340282366920938463463374607431768211456)(e q drop:Int)(sticky:Bool)(hd:drop=q-e)(d0:-128<=drop)(d1:drop<=1000000)(hst:drop<=0->sticky=false)(hlo:aW M e q<18446744073709551615)(w:World):
  QR 157 #[.func (.func k) #[] #[],J drop,J sign,aG ((M/18446744073709551616:Nat):Int) ((M%18446744073709551616:Nat):Int),Y sticky] w (.tuple #[.int .u64 ((chosen mode sign (aW M e q) (aJ M e q sticky):Nat):Int),Y (decide (0<aJ M e q sticky))]):=by
 have m01:0<=mode/\mode<=4:=by rcases hk with h|h|h|h|h<;>omega
 by_cases hq:q<=e
 ·have hst':=hst om;subst hst';have eLo:aW M e q=M*2^(e-q).toNat :=by unfold aW;rw[if_pos hq]
  have eHa:aJ M e q false=0:=by unfold aJ;rw[if_pos hq];rfl
  have eCh:chosen mode sign (aW M e q) 0=M*2^(e-q).toNat :=by
   rw[eLo];unfold chosen up;rw[if_neg (by simp)];rfl
  rw[eHa,eCh];rw[eLo]at hlo;refine(LW M hM drop sign false (e-q).toNat _ om d0 om om w).mono ?_;rintro x w' ⟨rfl,hg⟩;exact⟨by simp,hg⟩
 ·obtain⟨d,hdd⟩:∃d:Nat,q-e=(d:Int):=⟨(q-e).toNat,om⟩;have d1':1<=d:=om;have eLo:aW M e q=M/2^d:=by unfold aW;rw[if_neg hq,hdd];rfl
  have eHa:aJ M e q sticky=hr M d sticky:=by unfold aJ;rw[if_neg hq,hdd];rfl
  rw[eLo]at hlo;rw[eLo,eHa];obtain⟨hU,hI⟩:=aGc mode sign M (M/2^d) d sticky m01.1 m01.2 hs;have hHd:M/2^(d-1)/2^1=M/2^d:=by
   rw[Nat.div_div_eq_div_mul,<-Nat.pow_add,show d-1+1=d by omega]
  have hb:M/2^(d-1)<340282366920938463463374607431768211456:=Nat.lt_of_le_of_lt (Nat.div_le_self _ _) hM;have OA:yA ((M/18446744073709551616:Nat):Int) ((M%18446744073709551616:Nat):Int) (drop-1) ((M/2^(d-1)/18446744073709551616:Nat):Int) ((M/2^(d-1)%18446744073709551616:Nat):Int) (decide (M%2^(d-1)≠0)):=fun w=>by
   rw[show drop-1=((d-1:Nat):Int) by omega];exact aEx M hM (d-1) w
  have HS2:yA ((M/2^(d-1)/18446744073709551616:Nat):Int) ((M/2^(d-1)%18446744073709551616:Nat):Int) 1 ((M/2^d/18446744073709551616:Nat):Int) ((M/2^d%18446744073709551616:Nat):Int) (decide (M/2^(d-1)%2≠0)):=fun w=>by
   have:=aEx (M/2^(d-1)) hb 1 w;rw[hHd,Nat.pow_one]at this;exact this
  have hK:M/2^d%18446744073709551616=M/2^d:=Nat.mod_eq_of_lt om;rw[hK]at HS2;have hfin:∀x w',(x=Ending.returned (.tuple #[.int .u64 (((M/2^d:Nat):Int)+(if up mode sign (M/2^d) (hr M d sticky)then 1 else 0)),Y (decide (M/2^(d-1)%2≠0)||(decide (M%2^(d-1)≠0)||sticky))])/\Gr w w')->
    (x=Ending.returned (.tuple #[.int .u64 ((chosen mode sign (M/2^d) (hr M d sticky):Nat):Int),Y (decide (0<hr M d sticky))])/\Gr w w'):=by
   rintro x w' ⟨rfl,hg⟩;refine⟨?_,hg⟩;rw[hI];unfold chosen;split<;>simp
  rcases hk with⟨rfl,rfl⟩|⟨rfl,rfl⟩|⟨rfl,rfl⟩|⟨rfl,rfl⟩|⟨rfl,rfl⟩
  ·exact(wQ _ _ _ _ _ _ drop sign _ _ _ sticky _ _ _ _ om d1 rfl (and_one _ om) rfl rfl om om hU OA HS2 w).mono (fun x w' h=>hfin x w' h)
  ·exact(wS _ _ _ _ _ _ drop sign _ _ _ sticky _ _ _ _ om d1 rfl (and_one _ om) rfl rfl om om hU OA HS2 w).mono (fun x w' h=>hfin x w' h)
  ·exact(xX _ _ _ _ _ _ drop sign _ _ _ sticky _ _ _ _ om d1 rfl (and_one _ om) rfl rfl om om hU OA HS2 w).mono (fun x w' h=>hfin x w' h)
  ·exact(En _ _ _ _ _ _ drop sign _ _ _ sticky _ _ _ _ om d1 rfl (and_one _ om) rfl rfl om om hU OA HS2 w).mono (fun x w' h=>hfin x w' h)
  ·exact(Ag _ _ _ _ _ _ drop sign _ _ _ sticky _ _ _ _ om d1 rfl (and_one _ om) rfl rfl om om hU OA HS2 w).mono (fun x w' h=>hfin x w' h)
