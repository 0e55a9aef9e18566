import Derived.Test.YtmiekgjgpmfekaaGreatDoorG1
import Derived.Test.YtmiekgjgpmfekaaGreatDoorK3
set_option linter.all false
set_option maxRecDepth 1000000
set_option maxHeartbeats 40000000
open Go.Proofs.YtmiekgjgpmfekaaGreatDoor renaming vI → J, vU → Y
open Go.Ending renaming returned → Z
open Go.Value renaming bool → O, tuple → X
open Go.Proofs.Tryz
namespace Go.Proofs.YtmiekgjgpmfekaaGreatDoor
open Go.RowKit
attribute [local go_sem] aj
variable{w w':World}{v:Value}{n M L K N:Nat}{f p mn mx one inf sg nan t:Int}
theorem BA(h:Big w v n M)(hn:n<=100000)(s e q:Int)(rest:Bool)(e0:-1000000<=e)(e1:e<=1000000)(q0:-1000000<=q)(q1:q<=1000000):
  CT 150 #[.agg #[J s,v,J e,O rest],J q] w fun x w'=>∃v' k,x=Z (X #[v',J (aJ M e q rest)])/\Big w' v' k (aZ M e q)/\k<=n+70000/\Gb w w':=by
 by_cases hq:q<=e
 ·exact Z5 h hn s e q rest e0 e1 q0 hq
 ·obtain⟨d,hd⟩:∃d:Nat,q-e=(d:Int):=⟨(q-e).toNat,om⟩;have d1:1<=d:=om;have eLo:aZ M e q=M/2^d:=by unfold aZ;rw[if_neg hq,hd];rfl
  have eHa:aJ M e q rest=hr M d rest:=by unfold aJ;rw[if_neg hq,hd];rfl
  rw[eLo,eHa];have fin:∀(H:Nat),hr M d rest=H->(CT 150 #[.agg #[J s,v,J e,O rest],J q] w fun x w'=>∃v' k,x=Z (X #[v',J (H:Int)])/\Big w' v' k (M/2^d)/\k<=n/\Gb w w')->
    CT 150 #[.agg #[J s,v,J e,O rest],J q] w fun x w'=>∃v' k,x=Z (X #[v',J (hr M d rest:Int)])/\Big w' v' k (M/2^d)/\k<=n+70000/\Gb w w':=by
   intro H hH hc;rw[hH];exact hc.mono (fun x w' ⟨v',k,h1,h2,h3,h4⟩=>⟨v',k,h1,h2,om,h4⟩)
  by_cases hR:M%2^d=0
  ·cases rest
   ·exact fin 0 (zY M d d1 hR) (aCH h hn s e q e0 e1 q1 d hd d1 _ _ _ rfl rfl rfl hR)
   ·have hp:0<2^(d-1):=Nat.pow_pos de;refine fin 1 (aAk M d true d1 om (.inr rfl)) (aCG h hn s e q e0 e1 q1 d hd d1 _ _ _ rfl rfl rfl hR ?_);unfold fK;rw[if_pos (by omega)]
  ·rcases Nat.lt_trichotomy (M%2^d) (2^(d-1))with c|c|c
   ·refine fin 1 (aAk M d rest d1 c (.inl hR)) (aCF h hn s e q rest e0 e1 q1 d hd d1 _ _ _ rfl rfl rfl hR ?_);unfold fK;rw[if_pos c]
   ·have hc:fK (M%2^d) (2^(d-1))=0:=by unfold fK;rw[if_neg om,if_neg (by omega)]
    cases rest
    ·exact fin 2 (aGd M d d1 c) (aCE h hn s e q e0 e1 q1 d hd d1 _ _ _ rfl rfl rfl hR hc)
    ·exact fin 3 (Oh M d true d1 om (.inr rfl)) (aCD h hn s e q e0 e1 q1 d hd d1 _ _ _ rfl rfl rfl hR hc)
   ·refine fin 3 (Oh M d rest d1 om (.inl om)) (aCC h hn s e q rest e0 e1 q1 d hd d1 _ _ _ rfl rfl rfl hR ?_);unfold fK;rw[if_neg om,if_pos c]
theorem zX(h:Big w v n L)(hn:n<=500000)(mode sign:Int)(half:Nat)(m0:0<=mode)(m1:mode<=4)(hs:sign=0\/sign=1)(hh:half<=3):
  CT 151 #[J mode,J sign,v,J half] w fun x w'=>∃v' k,x=Z v'/\Big w' v' k (chosen mode sign L half)/\k<=n+3/\Gb w w':=by
 have Xz:∀b:Int,(L:Int)%2=b->Hid (∀w',w'=w->QW 188 #[v,J 0] w' (.int .u32 b)):=fun b hb w' hw=>by subst hw;exact hb▸RX h om
 have zh:Hid (∀w',CT 100 #[Y 1] w' fun x w''=>∃v' k,x=Z v'/\Big w'' v' k 1/\k<=2/\Gb w' w''):=fun w'=>fE 1 om w';have HAdd:Hid (∀v2 k2 w',Gb w w'->Big w' v2 k2 1->k2<=2->CT 163 #[v,v2] w' fun x w''=>∃v' k,x=Z v'/\Big w'' v' k (L+1)/\k<=n+3/\Gb w' w''):=fun v2 k2 w' hg hb hk=>(BD (h.gb hg) om hb om).mono (fun x w'' ⟨v',k,h1,h2,h3,h4⟩=>⟨v',k,h1,h2,om,h4⟩);have HL:Hid (Big w v n L):=h;obtain⟨U,hU⟩:∃U,U=up mode sign L half:=⟨_,rfl⟩;have hch:chosen mode sign L half=L+(if U then 1 else 0):=by rw[hU];rfl
 rw[hch];have hcase:(mode=0/\(half:Int)=0/\U=false)\/(mode=0/\(half:Int)=1/\U=false)\/(mode=0/\(half:Int)=2/\(L:Int)%2=0/\U=false)\/(mode=0/\(half:Int)=2/\(L:Int)%2=1/\U=true)\/(mode=0/\(half:Int)=3/\U=true)\/
   (mode=1/\(half:Int)<2/\U=false)\/(mode=1/\2<=(half:Int)/\U=true)\/(mode=2/\U=false)\/
   (mode=3/\(half:Int)=0/\U=false)\/(mode=3/\0<(half:Int)/\sign=0/\U=true)\/(mode=3/\0<(half:Int)/\sign=1/\U=false)\/
   (mode=4/\(half:Int)=0/\U=false)\/(mode=4/\0<(half:Int)/\sign=0/\U=false)\/(mode=4/\0<(half:Int)/\sign=1/\U=true):=by
  unfold up at hU;cases U
  ·have:=of_decide_eq_false hU.symm;simp only[true_and,and_true,Bool.false_eq_true,and_false,or_false,false_or];omega
  ·have:=of_decide_eq_true hU.symm;simp only[true_and,and_true,Bool.true_eq_false,and_false,or_false,false_or];omega
 generalize(half:Int)=H at*
 clear hU hch h;rcases hcase with⟨rfl,rfl,rfl⟩|⟨rfl,rfl,rfl⟩|⟨rfl,rfl,hb,rfl⟩|⟨rfl,rfl,hb,rfl⟩|⟨rfl,rfl,rfl⟩|⟨rfl,c,rfl⟩|⟨rfl,c,rfl⟩|⟨rfl,rfl⟩|⟨rfl,rfl,rfl⟩|⟨rfl,c,rfl,rfl⟩|⟨rfl,c,rfl,rfl⟩|⟨rfl,rfl,rfl⟩|⟨rfl,c,rfl,rfl⟩|⟨rfl,c,rfl,rfl⟩
 all_goals
  first
   |(have HB:=Xz _ hb;clear Xz hb hs)
   |(have HB:Hid True:=trivial;clear Xz hs)
  go_enter func151,ntmps151;go_wp2_with (first
   |(go_at_call 188;refine kw (HB _ rfl) ?_)
   |(go_at_call 100;refine(zh _).mono ?_;rintro x w1 ⟨v1,k1,rfl,hb1,hk1,hg1⟩)
   |(go_at_call 163;refine(HAdd v1 k1 _ kg hb1 hk1).mono ?_;rintro x w2 ⟨v2,k2,rfl,hb2,hk2,hg2⟩))
  go_returns;first
   |exact⟨_,_,rfl,HL.out,om,kg⟩
   |exact⟨_,_,rfl,hb2,om,kg⟩
   |exact⟨_,rfl,_,HL.out,om,kg⟩
   |exact⟨_,rfl,_,hb2,om,kg⟩
def aF(K:Nat)(w:World)(v:Value)(N:Nat):Prop:=∃n,n<=K/\Big w v n N
abbrev qK(K N:Nat)(w:World)(e:Ending)(w':World):Prop:=∃b k c,aF K w' (aB b k c) N/\e=Z (aB b k c)/\Gb w w'
theorem aF.gb(h:aF K w v N)(k:Gb w w'):aF K w' v N:=by
 obtain⟨n,h1,h2⟩:=h;exact⟨n,h1,h2.gb k⟩
structure RC (f p mn mx one mode sign:Int) (w:World):Prop where
 max:∀w,QW 148 #[J f] w (J mx)
 min:∀w,QW 121 #[J f] w (J mn)
 prec:∀w,QW 98 #[J f] w (J p)
 two:∀w,QW 120 #[J (p-1)] w (Y one)
 len:∀K v N w,K<=200000->aF K w v N->QW 147 #[v] w (J (nb N))
 word:∀v N w,aF 190000 w v N->N<18446744073709551616->QW 152 #[v] w (Y N)
 choose:∀v (L:Nat) (half:Nat) w,aF 180000 w v L->half<=3->CT 151 #[J mode,J sign,v,J half] w fun x w'=>∃v',x=Z v'/\aF 190000 w' v' (chosen mode sign L half)/\Gb w w'
theorem aHo(h:aQ f p mx one inf sg nan)(hmn:1-mx=mn)(mode sign:Int)(m0:0<=mode)(m1:mode<=4)(hs:sign=0\/sign=1)(w:World):RC f p mn mx one mode sign w where
 max:=fun w=>rZ h w
 min:=fun w=>hmn▸rY h w
 prec:=fun w=>jT h w
 two:=fun w=>mG h w
 len:=fun K v N w hK ⟨n,h1,h2⟩=>Bz h2 om
 word:=fun v N w ⟨n,h1,h2⟩ hN=>yR h2 om hN
 choose:=fun v L half w ⟨n,h1,h2⟩ hh=>(zX h2 om mode sign half m0 m1 hs hh).mono (fun x w' ⟨v',k,a1,a2,a3,a4⟩=>⟨v',a1,⟨k,om,a2⟩,a4⟩)
theorem LX{P:Prop}(h:P:=by
 clear hU;cases lost<;>cases hb<;>cases U;all_goals
  simp only[Bool.false_or,Bool.true_or]at hrB;subst hrB;exact aG4):P:=h
theorem Na(M:Nat)(hM:M<340282366920938463463374607431768211456)(drop sign:Int)(sticky:Bool)(k:Nat)(fv:Value)(hd:drop<=0)(d0:-128<=drop)(hk:0-drop=(k:Int))(h:M*2^k<18446744073709551616)(w:World):
  QR 157 #[fv,J drop,J sign,aG ((M/18446744073709551616:Nat):Int) ((M%18446744073709551616:Nat):Int),O sticky] w (X #[Y ((M*2^k:Nat):Int),O false]):=by
 have HS:KR 158 #[aG ((M/18446744073709551616:Nat):Int) ((M%18446744073709551616:Nat):Int),J (-drop)] (aG 0 ((M*2^k:Nat):Int)):=fun w=>by
  rw[show-drop=(k:Int) by omega];exact aI1 M hM k om h w
 generalize((M/18446744073709551616:Nat):Int)=mh at*
 generalize((M%18446744073709551616:Nat):Int)=ml at*
 generalize((M*2^k:Nat):Int)=c at*
 clear h hk;have hfd:∀(w:World) (a b:Int),(Instr.field 131 (aG a b) 1).run Tryz.prog w=.ok (Y b) w:=fun _ _ _=>by kernel_rfl
 go_enter func157,ntmps157;go_wp2_with (go_at_call 158;refine(HS _).mono ?_;rintro e w1 ⟨rfl,ak⟩);go_returns;exact⟨rfl,kr⟩
theorem aG4{P:Prop}(h:P:=by
 go_enter func157,ntmps157;go_upto_region 4 with(go_at_call 182;refine(Pz _).mono ?_;rintro e w1 ⟨rfl,ak⟩);go_upto_region 5 with(go_at_call 182;refine(HS2 _).mono ?_;rintro e w2 ⟨rfl,aA⟩);go_wp2_with (first
   |(go_at_call 189;refine kw (HR _) ?_)
   |(go_at_call 190;refine kw (HR _) ?_)
   |(go_at_call 191;refine kw (HR _) ?_)
   |(go_at_call 192;refine kw (HR _) ?_)
   |(go_at_call 193;refine kw (HR _) ?_))
 go_returns;exact⟨by simp,kr⟩):P:=h
theorem xK(mh ml hh hl kh kl drop sign o:Int)(lost hb sticky sB oB rB U:Bool)(hd:0<drop)(d1:drop<=1000000)(hsB:(sign==1)=sB)(ho:bits .and .u64 kl 1=o)(hoB:(o==1)=oB)(hrB:(lost||sticky)=rB)(k0:0<=kl)(k1:kl<18446744073709551615)(hU:ru 0 sB oB hb rB=U)
  (Pz:y8 mh ml (drop-1) hh hl lost)
  (HS2:y8 hh hl 1 kh kl hb) (w:World):
  QR 157 #[.func (.func 189) #[] #[],J drop,J sign,aG mh ml,O sticky] w (X #[Y (kl+(if U then 1 else 0)),O (hb||rB)]):=by
 have HR:KW 189 #[O sB,O oB,O hb,O rB] (O U):=fun w=>hU▸uI sB oB hb rB w;exact LX
theorem xO(mh ml hh hl kh kl drop sign o:Int)(lost hb sticky sB oB rB U:Bool)(hd:0<drop)(d1:drop<=1000000)(hsB:(sign==1)=sB)(ho:bits .and .u64 kl 1=o)(hoB:(o==1)=oB)(hrB:(lost||sticky)=rB)(k0:0<=kl)(k1:kl<18446744073709551615)(hU:ru 1 sB oB hb rB=U)
  (Pz:y8 mh ml (drop-1) hh hl lost)
  (HS2:y8 hh hl 1 kh kl hb) (w:World):
  QR 157 #[.func (.func 190) #[] #[],J drop,J sign,aG mh ml,O sticky] w (X #[Y (kl+(if U then 1 else 0)),O (hb||rB)]):=by
 have HR:KW 190 #[O sB,O oB,O hb,O rB] (O U):=fun w=>hU▸uJ sB oB hb rB w;exact LX
theorem yN(mh ml hh hl kh kl drop sign o:Int)(lost hb sticky sB oB rB U:Bool)(hd:0<drop)(d1:drop<=1000000)(hsB:(sign==1)=sB)(ho:bits .and .u64 kl 1=o)(hoB:(o==1)=oB)(hrB:(lost||sticky)=rB)(k0:0<=kl)(k1:kl<18446744073709551615)(hU:ru 2 sB oB hb rB=U)
  (Pz:y8 mh ml (drop-1) hh hl lost)
  (HS2:y8 hh hl 1 kh kl hb) (w:World):
  QR 157 #[.func (.func 191) #[] #[],J drop,J sign,aG mh ml,O sticky] w (X #[Y (kl+(if U then 1 else 0)),O (hb||rB)]):=by
 have HR:KW 191 #[O sB,O oB,O hb,O rB] (O U):=fun w=>hU▸vw sB oB hb rB w;exact LX
theorem EO(mh ml hh hl kh kl drop sign o:Int)(lost hb sticky sB oB rB U:Bool)(hd:0<drop)(d1:drop<=1000000)(hsB:(sign==1)=sB)(ho:bits .and .u64 kl 1=o)(hoB:(o==1)=oB)(hrB:(lost||sticky)=rB)(k0:0<=kl)(k1:kl<18446744073709551615)(hU:ru 3 sB oB hb rB=U)
  (Pz:y8 mh ml (drop-1) hh hl lost)
  (HS2:y8 hh hl 1 kh kl hb) (w:World):
  QR 157 #[.func (.func 192) #[] #[],J drop,J sign,aG mh ml,O sticky] w (X #[Y (kl+(if U then 1 else 0)),O (hb||rB)]):=by
 have HR:KW 192 #[O sB,O oB,O hb,O rB] (O U):=fun w=>hU▸Ef sB oB hb rB w;exact LX
theorem Bc(mh ml hh hl kh kl drop sign o:Int)(lost hb sticky sB oB rB U:Bool)(hd:0<drop)(d1:drop<=1000000)(hsB:(sign==1)=sB)(ho:bits .and .u64 kl 1=o)(hoB:(o==1)=oB)(hrB:(lost||sticky)=rB)(k0:0<=kl)(k1:kl<18446744073709551615)(hU:ru 4 sB oB hb rB=U)
  (Pz:y8 mh ml (drop-1) hh hl lost)
  (HS2:y8 hh hl 1 kh kl hb) (w:World):
  QR 157 #[.func (.func 193) #[] #[],J drop,J sign,aG mh ml,O sticky] w (X #[Y (kl+(if U then 1 else 0)),O (hb||rB)]):=by
 have HR:KW 193 #[O sB,O oB,O hb,O rB] (O U):=fun w=>hU▸Aa sB oB hb rB w;exact LX
theorem and_one(kl:Nat)(h:kl<18446744073709551616):bits .and .u64 (kl:Int) 1=((kl%2:Nat):Int):=by
 have:=u64_and_nat kl 1 h om;rw[show((1:Nat):Int)=1 from rfl]at this;rw[this,Nat.and_one_is_mod]
theorem aHk(mode sign:Int)(M lo d:Nat)(rest:Bool)(m0:0<=mode)(m1:mode<=4)(hs:sign=0\/sign=1):
  ru mode (sign==1) ((((lo%2:Nat):Int))==1) (decide (M/2^(d-1)%2≠0)) (decide (M%2^(d-1)≠0)||rest)=up mode sign lo (hr M d rest)/\
  ((decide (M/2^(d-1)%2≠0))||(decide (M%2^(d-1)≠0)||rest))=decide (0<hr M d rest):=by
 obtain⟨H,hH⟩:∃H,M/2^(d-1)%2=H:=⟨_,rfl⟩;obtain⟨R,hR⟩:∃R,M%2^(d-1)=R:=⟨_,rfl⟩;have hH2:H=0\/H=1:=by have:=Nat.mod_lt (M/2^(d-1)) (show 0<2 by decide);omega
 have hL:lo%2=0\/lo%2=1:=om;unfold hr;rw[hH,hR];unfold up ru;rcases(show mode=0\/mode=1\/mode=2\/mode=3\/mode=4 by omega)with rfl|rfl|rfl|rfl|rfl<;>rcases hs with rfl|rfl<;>rcases hH2 with rfl|rfl<;>rcases hL with hL|hL<;>rw[hL]<;>cases rest<;>by_cases hz:R=0<;>simp[hz]
theorem nH(mode:Int)(k:Nat)(hk:qX mode k)(sign:Int)(hs:sign=0\/sign=1)(M:Nat)(hM:M<340282366920938463463374607431768211456)(e q drop:Int)(sticky:Bool)(hd:drop=q-e)(d0:-128<=drop)(d1:drop<=1000000)(hst:drop<=0->sticky=false)(hlo:aZ M e q<18446744073709551615)(w:World):
  QR 157 #[.func (.func k) #[] #[],J drop,J sign,aG ((M/18446744073709551616:Nat):Int) ((M%18446744073709551616:Nat):Int),O sticky] w (X #[Y ((chosen mode sign (aZ M e q) (aJ M e q sticky):Nat):Int),O (decide (0<aJ M e q sticky))]):=by
 have m01:0<=mode/\mode<=4:=by rcases hk with h|h|h|h|h<;>omega
 by_cases hq:q<=e
 ·have hst':=hst om;subst hst';have eLo:aZ M e q=M*2^(e-q).toNat :=by unfold aZ;rw[if_pos hq]
  have eHa:aJ M e q false=0:=by unfold aJ;rw[if_pos hq];rfl
  have eCh:chosen mode sign (aZ M e q) 0=M*2^(e-q).toNat :=by
   rw[eLo];unfold chosen up;rw[if_neg (by simp)];rfl
  rw[eHa,eCh];rw[eLo]at hlo;refine(Na M hM drop sign false (e-q).toNat _ om d0 om om w).mono ?_;rintro x w' ⟨rfl,hg⟩;exact⟨by simp,hg⟩
 ·obtain⟨d,hdd⟩:∃d:Nat,q-e=(d:Int):=⟨(q-e).toNat,om⟩;have d1':1<=d:=om;have eLo:aZ M e q=M/2^d:=by unfold aZ;rw[if_neg hq,hdd];rfl
  have eHa:aJ M e q sticky=hr M d sticky:=by unfold aJ;rw[if_neg hq,hdd];rfl
  rw[eLo]at hlo;rw[eLo,eHa];obtain⟨hU,hI⟩:=aHk mode sign M (M/2^d) d sticky m01.1 m01.2 hs;have hHd:M/2^(d-1)/2^1=M/2^d:=by
   rw[Nat.div_div_eq_div_mul,<-Nat.pow_add,show d-1+1=d by omega]
  have hb:M/2^(d-1)<340282366920938463463374607431768211456:=Nat.lt_of_le_of_lt (Nat.div_le_self _ _) hM;have Pz:y8 ((M/18446744073709551616:Nat):Int) ((M%18446744073709551616:Nat):Int) (drop-1) ((M/2^(d-1)/18446744073709551616:Nat):Int) ((M/2^(d-1)%18446744073709551616:Nat):Int) (decide (M%2^(d-1)≠0)):=fun w=>by
   rw[show drop-1=((d-1:Nat):Int) by omega];exact aFB M hM (d-1) w
  have HS2:y8 ((M/2^(d-1)/18446744073709551616:Nat):Int) ((M/2^(d-1)%18446744073709551616:Nat):Int) 1 ((M/2^d/18446744073709551616:Nat):Int) ((M/2^d%18446744073709551616:Nat):Int) (decide (M/2^(d-1)%2≠0)):=fun w=>by
   have:=aFB (M/2^(d-1)) hb 1 w;rw[hHd,Nat.pow_one]at this;exact this
  have hK:M/2^d%18446744073709551616=M/2^d:=Nat.mod_eq_of_lt om;rw[hK]at HS2;have hfin:∀x w',(x=Ending.returned (X #[Y (((M/2^d:Nat):Int)+(if up mode sign (M/2^d) (hr M d sticky)then 1 else 0)),O (decide (M/2^(d-1)%2≠0)||(decide (M%2^(d-1)≠0)||sticky))])/\Gr w w')->
    (x=Ending.returned (X #[Y ((chosen mode sign (M/2^d) (hr M d sticky):Nat):Int),O (decide (0<hr M d sticky))])/\Gr w w'):=by
   rintro x w' ⟨rfl,hg⟩;refine⟨?_,hg⟩;rw[hI];unfold chosen;split<;>simp
  rcases hk with⟨rfl,rfl⟩|⟨rfl,rfl⟩|⟨rfl,rfl⟩|⟨rfl,rfl⟩|⟨rfl,rfl⟩
  ·exact(xK _ _ _ _ _ _ drop sign _ _ _ sticky _ _ _ _ om d1 rfl (and_one _ om) rfl rfl om om hU Pz HS2 w).mono (fun x w' h=>hfin x w' h)
  ·exact(xO _ _ _ _ _ _ drop sign _ _ _ sticky _ _ _ _ om d1 rfl (and_one _ om) rfl rfl om om hU Pz HS2 w).mono (fun x w' h=>hfin x w' h)
  ·exact(yN _ _ _ _ _ _ drop sign _ _ _ sticky _ _ _ _ om d1 rfl (and_one _ om) rfl rfl om om hU Pz HS2 w).mono (fun x w' h=>hfin x w' h)
  ·exact(EO _ _ _ _ _ _ drop sign _ _ _ sticky _ _ _ _ om d1 rfl (and_one _ om) rfl rfl om om hU Pz HS2 w).mono (fun x w' h=>hfin x w' h)
  ·exact(Bc _ _ _ _ _ _ drop sign _ _ _ sticky _ _ _ _ om d1 rfl (and_one _ om) rfl rfl om om hU Pz HS2 w).mono (fun x w' h=>hfin x w' h)
theorem Cj(a b:Int):iJ (a*b/18446744073709551616) (a*b%18446744073709551616) (bnd 63).toNat =share a b:=by
 have e:(bnd 63).toNat =63:=de;rw[e];unfold iJ share;rw[show a*b/18446744073709551616*18446744073709551616+a*b%18446744073709551616=a*b by omega];rfl
theorem Zz(a b:Int)(a0:0<=a)(a1:a<18446744073709551616)(b0:0<=b)(b1:b<18446744073709551616)(w:World):
  QR 126 #[Y a,Y b] w (Y (share a b)):=by
 obtain⟨p0,p1⟩:=yQ a b a0 a1 b0 b1;have e0:=Cj a b;generalize share a b=s at*
 have H1:KR 174 #[Y a,Y b] (aG (a*b/18446744073709551616) (a*b%18446744073709551616)):=fun w=>(ML a b a0 a1 b0 b1 w).mono fun e w' ⟨h,c,hw⟩=>⟨h,by subst hw;exact kr⟩;have H2:Hid (∀w,CT 173 #[aG (a*b/18446744073709551616) (a*b%18446744073709551616),J 63] w fun e w'=>∃x y,e=Z (X #[aG x s,O y])/\Gr w w'):=fun w=>(MK _ _ 63 om om om om w).mono fun e w' ⟨h,c1,c2,hw⟩=>⟨_,_,h.trans (by rw[e0]),by subst hw;exact kr⟩;clear e0;generalize a*b/18446744073709551616=x at*
 generalize a*b%18446744073709551616=y at*
 go_enter func126,ntmps126;go_wp2_with (first
  |(go_at_call 174;refine(H1 _).mono ?_;rintro e w1 ⟨rfl,ak⟩)
  |(go_at_call 173;refine(H2 _).mono ?_;rintro e w2 ⟨x2,y2,rfl,aA⟩))
 go_returns;exact⟨rfl,kr⟩
theorem T_(a b:Int)(a0:0<=a)(a1:a<18446744073709551616)(b0:0<=b)(b1:b<18446744073709551616)(w:World):
  QR 141 #[Y a,Y b] w (Y (share a b)):=by
 obtain⟨p0,p1⟩:=yQ a b a0 a1 b0 b1;have e0:=Cj a b;generalize share a b=s at*
 have H1:KR 183 #[Y a,Y b] (aG (a*b/18446744073709551616) (a*b%18446744073709551616)):=CP a b a0 a1 b0 b1;have H2:Hid (∀w,CT 182 #[aG (a*b/18446744073709551616) (a*b%18446744073709551616),J 63] w fun e w'=>∃x y,e=Z (X #[aG x s,O y])/\Gr w w'):=fun w=>(vH _ _ 63 om om om om w).mono fun e w' ⟨h,hw⟩=>⟨_,_,h.trans (by rw[e0]),hw⟩;clear e0;generalize a*b/18446744073709551616=x at*
 generalize a*b%18446744073709551616=y at*
 go_enter func141,ntmps141;go_wp2_with (first
  |(go_at_call 183;refine(H1 _).mono ?_;rintro e w1 ⟨rfl,ak⟩)
  |(go_at_call 182;refine(H2 _).mono ?_;rintro e w2 ⟨x2,y2,rfl,aA⟩))
 go_returns;exact⟨rfl,kr⟩
theorem aAP(w:World):CT 175 #[] w fun e w'=>∃b,e=Z (aB b 38 38)/\Gr w w'/\∀i,i<38->aj w' b i (Y (jw i)):=by
 go_enter func175,ntmps175;go_wp2;go_returns;exact⟨_,rfl,kr,fun i hi=>(World.cell?_alloc_new _ _ _ _).trans (IJ i hi)⟩
theorem aDm(w:World):QW 120 #[J 38] w (Y 274877906944):=gX 38 _ om de w
theorem two63(w:World):QW 120 #[J 63] w (Y 9223372036854775808):=gX 63 _ om de w
theorem Xg(t:Int)(k:Nat):t/2^k/2=t/2^(k+1):=by
 rw[Int.pow_succ,Int.ediv_ediv_of_nonneg (Int.pow_nonneg de)]
theorem Nz(h0:0<=t)(h1:t<18446744073709551616)(k:Nat):0<=t/2^k/\t/2^k<18446744073709551616:=
 ⟨Int.ediv_nonneg h0 (Int.pow_nonneg de),Int.lt_of_le_of_lt (Int.ediv_le_self _ h0) h1⟩
theorem aC0(t:Int)(h0:0<=t)(h1:t<18446744073709551616)(w:World):
  QR 127 #[Y t] w (Y (jV t)):=by
 by_cases hb:t<274877906944
 ·have hn:jV t=dec t 38:=if_pos hb;rw[hn];have hb':¬274877906944<=t:=om;clear hn;go_enter func127,ntmps127;go_upto_region 3 with(go_at_call 120;refine kw (aDm _) ?_);go_upto_region 4 with(go_at_call 175;refine(aAP _).mono ?_;rintro e w1 ⟨b,rfl,hg0,hc0⟩);go_wp2_with (go_at_call 120;refine kw (two63 _) ?_);have hc:Hid _:=hc0;have hg:Hid (Gr w w1):=hg0;clear hc0 hg0;go_loopw [0,4,5] (fun x y i wr=>∃k:Nat,k<=38/\x=Y (t/2^k)/\y=Y (dec t k)/\i=J k/\Hid (Gr w1 wr)) (fun _ _ i _=>38-(intOf i).toNat)
  case atStart=>exact⟨0,om,by rw[Int.pow_zero,Int.ediv_one],rfl,rfl,Gr.refl _⟩
  case round=>
   obtain⟨k,hk,rfl,rfl,rfl,hr⟩:=hrel
   rename_i wr
   by_cases h:(k:Int)<38
   ·have q:=hr.out.old (hc.out k om);obtain⟨t0,t1⟩:=sK k;obtain⟨d0,d1⟩:=FT t k;obtain⟨x0,x1⟩:=Nz h0 h1 k;have HS:Hid (dec t (k+1)=if t/2^k%2=1 then share (dec t k) (jw k)else dec t k):=rfl;have HX:Hid (t/2^k/2=t/2^(k+1)):=Xg t k;have HY:KR 126 #[Y (dec t k),Y (jw k)] (Y (share (dec t k) (jw k))):=Zz _ _ d0 om t0 om;generalize t/2^k=x at*
    generalize share (dec t k) (jw k)=z at*
    generalize dec t k=y at*
    generalize jw k=f at*
    by_cases hb:x%2=1
    ·go_wp2_with (go_at_call 126;refine(HY _).mono ?_;rintro e w2 ⟨rfl,aA⟩);go_roundw
     case rel=>exact⟨k+1,om,by rw[<-HX.out],by rw[HS.out,if_pos hb],by go_num,hr.out.trans aA⟩
     case measure=>simp[intOf];omega
    ·have hb2:x%2=0:=om;have HB:Hid (¬x%2=1):=hb;clear hb;go_wp2;go_roundw
     case rel=>exact⟨k+1,om,by rw[<-HX.out],by rw[HS.out,if_neg HB.out],by go_num,hr⟩
     case measure=>simp[intOf];omega
   ·obtain rfl:k=38:=om;go_wp2;go_returns;exact⟨rfl,hg.out.trans hr.out⟩
 ·have hn:jV t=0:=if_neg hb;rw[hn];have hb':274877906944<=t:=om;clear hn hb;go_enter func127,ntmps127;go_wp2_with (go_at_call 120;refine kw (aDm _) ?_);go_returns;exact⟨rfl,Gr.refl _⟩
theorem aC1(t:Int)(h0:0<=t)(h1:t<18446744073709551616)(hT:Dc w):
  QR 140 #[Y t] w (Y (jV t)):=by
 have hsh:t/2^38=t/274877906944:=rfl;by_cases hb:t<274877906944
 ·have hn:jV t=dec t 38:=if_pos hb;rw[hn];have hb':t/274877906944=0:=om;clear hn;obtain⟨tt,fr,hg⟩:=hT;have hc:Hid (∀i,i<38->jI[i]?=some (Y (jw i))):=IJ;have hz:jI.size=38:=rfl;generalize jI=cs at*
  go_enter func140,ntmps140;go_wp2_with (refine wpList_load_row rfl 218 _ rfl 2 rfl tt cs fr _ hg Tryz.underlying218 rfl (by rw[hz];kernel_rfl) ?_);go_loopw [3,10] (fun y i wr=>∃k:Nat,k<=38/\y=Y (dec t k)/\i=J k/\Hid (Gr w wr)) (fun _ i _=>38-(intOf i).toNat)
  case atStart=>exact⟨0,om,rfl,rfl,Gr.refl _⟩
  case round=>
   obtain⟨k,hk,rfl,rfl,hr⟩:=hrel
   rename_i wr
   by_cases h:(k:Int)<38
   ·have q:=Iy Tryz.underlying218 (show k<38 by omega) (hc.out k om) wr;obtain⟨t0,t1⟩:=sK k;obtain⟨d0,d1⟩:=FT t k;obtain⟨x0,x1⟩:=Nz h0 h1 k;have hand:=and_one_u64 (t/2^k) x0 om;have HS:Hid (dec t (k+1)=if t/2^k%2=1 then share (dec t k) (jw k)else dec t k):=rfl;have HY:KR 141 #[Y (dec t k),Y (jw k)] (Y (share (dec t k) (jw k))):=T_ _ _ d0 om t0 om;generalize share (dec t k) (jw k)=z at*
    generalize dec t k=y at*
    generalize jw k=f at*
    by_cases hb:t/2^k%2=1
    ·go_wp2_with (go_at_call 141;refine(HY _).mono ?_;rintro e w2 ⟨rfl,aA⟩);go_roundw
     case rel=>exact⟨k+1,om,by rw[HS.out,if_pos hb],by go_num,hr.out.trans aA⟩
     case measure=>simp[intOf];omega
    ·have hb2:t/2^k%2=0:=om;have HB:Hid (¬t/2^k%2=1):=hb;clear hb;go_wp2;go_roundw
     case rel=>exact⟨k+1,om,by rw[HS.out,if_neg HB.out],by go_num,hr⟩
     case measure=>simp[intOf];omega
   ·obtain rfl:k=38:=om;go_wp2;go_returns;exact⟨rfl,hr.out⟩
 ·have hn:jV t=0:=if_neg hb;rw[hn];have hb':(t/274877906944==0)=false:=by simp;omega
  clear hn;go_enter func140,ntmps140;go_wp2;go_returns;exact⟨rfl,Gr.refl _⟩
