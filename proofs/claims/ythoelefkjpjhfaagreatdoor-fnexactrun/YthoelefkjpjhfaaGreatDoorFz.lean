import Derived.Test.YthoelefkjpjhfaaGreatDoorM0
set_option linter.all false
set_option maxRecDepth 1000000
set_option maxHeartbeats 40000000
open Go.Proofs.YthoelefkjpjhfaaGreatDoor renaming vI → J
open Go.Ending renaming returned → Y
open Go.Proofs.Tryz
namespace Go.Proofs.YthoelefkjpjhfaaGreatDoor
open Go.RowKit
attribute [local go_sem] aB dL
def aIy(p mn mx md nan f aj a b c:Int){w:ak}(HF:Hid (∀w',Gr w w'->QR 170 #[J f,J aj] w' (.tuple #[.agg #[J p,J mn,J mx,J md,Value.nilFunc],.bool false])))
  (HN:IL p mn mx nan 1):
  QR 85 #[J f,J aj,.int .u64 a,.int .u64 b,.int .u64 c] w (aU nan 1):=by
 go_enter func85,ntmps85;go_wp2_with (first|(go_at_call 170;refine ku (HF _ Gr.g) λw1 au=>?_;have:=au.bK w)|(go_at_call 171;refine ku (HN _) λw2 aC=>?_;have lJ:=aC.bK w))
 exact cO (by simp[results,results85,go_sem,lJ])
structure aSv (p mn mx md:Int) (k:Nat) (w wx:ak) (o bw:Nat) (us ue uc uh ul:Int) (ut:Bool):Prop where
 g:Gr w wx:=by exact kr
 n:w.heap.size<bw:=by omega
 s0:aB wx o 0 (J p):=by exact kl
 s1:aB wx o 1 (J mn):=by exact kl
 s2:aB wx o 2 (J mx):=by exact kl
 s3:aB wx o 3 (J md):=by exact kl
 s4:aB wx o 4 (.func (.func k) #[] #[]):=by exact kl
 u0:aB wx bw 0 (J us):=by exact kl
 u1:aB wx bw 1 (J ue):=by exact kl
 u2:aB wx bw 2 (J uc):=by exact kl
 u3:aB wx bw 3 (.int .u64 uh):=by exact kl
 u4:aB wx bw 4 (.int .u64 ul):=by exact kl
 u5:aB wx bw 5 (.bool ut):=by exact kl
 u6:aB wx bw 6 (J 0):=by exact kl
 r0:aB wx w.heap.size 0 (.int .u64 0):=by exact kl
 rz0:dL wx w.heap.size 0:=by exact kl
 r1:aB wx w.heap.size 1 (J 0):=by exact kl
 rz1:dL wx w.heap.size 1:=by exact kl
def aPe(p mn mx md f:Int)(k:Nat)(a b c sx ex cx xh xl sy ey cy yh yl sz ez cz zh zl:Int)(tx ty tz:Bool){w:ak}(HF:Hid (∀w',Gr w w'->uO f md w' p mn mx k true))
  (HA:rH p mn mx a sx ex cx xh xl tx 0) (HB:rH p mn mx b sy ey cy yh yl ty 0) (HZ:rH p mn mx c sz ez cz zh zl tz 0) (us ue uc uh ul:Int) (ut:Bool) (HC:KR 173 #[eu p mn mx md k,.func (.func 84) #[] #[],bP sx ex cx xh xl tx 0,bP sy ey cy yh yl ty 0] (bP us ue uc uh ul ut 0)) (Q:Int->Int->Int->Int->Int->Bool->Prop) (HS:Hid (∀w,CT 173 #[eu p mn mx md k,.func (.func 82) #[] #[],bP us ue uc uh ul ut 0,bP sz ez cz zh zl tz 0] w λe w'=>∃os oe oc oh ol ot,Q os oe oc oh ol ot/\e=Y (bP os oe oc oh ol ot 0)/\Gr w w'))
  (R:Int->Int->Prop) (HP:Hid (∀os oe oc oh ol ot w,Q os oe oc oh ol ot->CT 172 #[eu p mn mx md k,bP os oe oc oh ol ot 0] w (yG R w))):
  CT 85 #[J f,J md,.int .u64 a,.int .u64 b,.int .u64 c] w (yG R w):=by
 go_enter func85,ntmps85;go_wp2_with (go_at_call 170;refine ku (HF _ Gr.g) λw1 au=>?_;have yS:=au.bK w;have jB:=aA yS.1);go_cut [13] (λs13 wx=>∃bw:Nat,s13=.pointer (some ⟨bw,0,none⟩)/\aSv p mn mx md k w wx w1.heap.size bw us ue uc uh ul ut)
 case first=>
  clear HS HP HZ;go_region_held3 (λw'=>aB w' w1.heap.size 0 (J p)/\aB w' w1.heap.size 1 (J mn)/\aB w' w1.heap.size 2 (J mx)/\aB w' w1.heap.size 3 (J md)/\aB w' w1.heap.size 4 (.func (.func k) #[] #[]))(exact qX)(first|(go_at_call 174;first|(with_reducible refine ku (HA.out _) λGI uD=>?_;have:=uD.bK w;have:=uD.qM w1;have aT6:=uD.cells;have aT1:=uD.eY;have aBx:=uD.size;(try simp only[dV,jg,jW]at aBx);(try (have aTA:w1.heap.size+1<GI.heap.size:=(by omega)));(try (have aTy:xG.heap.size<GI.heap.size:=(by omega))))|(with_reducible refine ku (HB.out _) λxG oH=>?_;have:=oH.bK w;have:=oH.qM w1;have aT5:=oH.cells;have aT0:=oH.eY;have aBw:=oH.size;(try simp only[dV,jg,jW]at aBw);(try (have aTz:w1.heap.size+1<xG.heap.size:=(by omega)));(try (have aTx:GI.heap.size<xG.heap.size:=(by omega)))))|(go_at_call 173;refine ku (HC _) λw3 aO=>?_;have:=aO.bK w;have:=aO.qM w1;have DJ:=aO.cells;have DF:=aO.eY;have oO:=aO.size;(try simp only[dV,jg,jW]at oO);(try (have aUT:w1.heap.size+1<w3.heap.size:=(by omega)));(try (have aUS:GI.heap.size<w3.heap.size:=(by omega)));(try (have aUR:xG.heap.size<w3.heap.size:=(by omega)))))
  all_goals (go_wp2;go_meet)
  all_goals exact⟨_,rfl,{}⟩
 case rest=>
  clear HA HB HC;obtain⟨bw,rfl,⟨qg,qn,qs0,qs1,qs2,qs3,qs4,qu0,qu1,qu2,qu3,qu4,qu5,qu6,XF,aKc,qr1,aKb⟩⟩:=hcut;go_wp2;go_region_held3 (λw'=>aB w' w1.heap.size 0 (J p)/\aB w' w1.heap.size 1 (J mn)/\aB w' w1.heap.size 2 (J mx)/\aB w' w1.heap.size 3 (J md)/\aB w' w1.heap.size 4 (.func (.func k) #[] #[])/\aB w' bw 0 (J us)/\aB w' bw 1 (J ue)/\aB w' bw 2 (J uc)/\aB w' bw 3 (.int .u64 uh)/\aB w' bw 4 (.int .u64 ul)/\aB w' bw 5 (.bool ut)/\aB w' bw 6 (J 0))(exact qX)(first|(go_at_call 174;refine ku (HZ _) λw5 bT=>?_;have:=bT.bK w)|(go_at_call 173;refine(HS _).mono ?_;rintro e w6 ⟨os,oe,oc,oh,ol,ot,hq,rfl,gG⟩;have:=gG.bK w)|(go_at_call 172;refine(HP _ _ _ _ _ _ _ hq).mono ?_;rintro e w7 ⟨z,fl,hr,rfl,jT⟩;have Rx:=jT.bK w))
  all_goals go_wp2
  all_goals
   refine gY (v:=aU z fl) (by simp[results,results85,go_sem,Rx]) rfl ⟨z,fl,hr,rfl,?_⟩;exact Gr.g
def VB(aj:Int)(x y z:d_):d_:=kJ aj (dn x y) z
def RI(f aj a b c Z fl:Int):Prop:=
 (∃p mx one aN sg nan x y z,bI f p mx one aN sg nan/\(0<=aj/\aj<=4)/\dO p mx one aN sg nan a x/\dO p mx one aN sg nan b y/\dO p mx one aN sg nan c z/\cZ p (1-mx) mx one aN sg nan aj (VB aj x y z) Z fl)\/
 (∃p mx one aN sg nan,bI f p mx one aN sg nan/\(aj<0\/4<aj)/\Z=nan/\fl=1)\/
 (¬(f=0\/f=1)/\Z=9221120237041090560/\fl=1)
def RI.one{f aj a b c Z fl Z' qQ:Int}(h:RI f aj a b c Z fl)(h':RI f aj a b c Z' qQ):Z=Z'/\fl=qQ:=by
 rcases h with⟨p,mx,one,aN,sg,nan,x,y,z,hF,hm,hx,hy,hz,hp⟩|⟨p,mx,one,aN,sg,nan,hF,hm,rfl,rfl⟩|⟨hF,rfl,rfl⟩<;>
 rcases h' with⟨p',zq,rX,r_,GK,rY,x',y',z',oC,KD,O8,ZI,Yx,SY⟩|⟨p',zq,rX,r_,GK,rY,oC,KD,rfl,rfl⟩|⟨oC,rfl,rfl⟩
 .obtain⟨rfl,rfl,rfl,rfl,rfl,rfl⟩:=hF.one oC;obtain rfl:=hx.one hF O8;obtain rfl:=hy.one hF ZI;obtain rfl:=hz.one hF Yx;exact cZ.one hp SY
 .exfalso;omega
 .exact bG hF.yes.symm (by simp[oC])
 .exfalso;omega
 .obtain⟨rfl,rfl,rfl,rfl,rfl,rfl⟩:=hF.one oC;exact⟨rfl,rfl⟩
 .exact bG hF.yes.symm (by simp[oC])
 .exact bG oC.yes.symm (by simp[hF])
 .exact bG oC.yes.symm (by simp[hF])
 .exact⟨rfl,rfl⟩
def Yr(f aj a b c:Int)(a0:0<=a)(a1:aI a)(b0:0<=b)(b1:aI b)(c0:0<=c)(c1:aI c)(w:ak)(hw:Fm w):
  CT 85 #[J f,J aj,.int .u64 a,.int .u64 b,.int .u64 c] w λe w'=>∃Z fl,RI f aj a b c Z fl/\e=Y (aU Z fl)/\Gr w w':=by
 by_cases hf:f=0\/f=1
 .obtain⟨p,mx,one,aN,sg,nan,hF⟩:=fQ f hf;obtain⟨mn,fb,sp,hM,Ce,Ru⟩:=hF.m;by_cases hm:0<=aj/\aj<=4
  .obtain⟨k,hk⟩:=mP aj hm.1 hm.2;obtain⟨x,hx,HA⟩:=jP hF hM a a0 a1;obtain⟨y,hy,HB⟩:=jP hF hM b b0 b1;obtain⟨z,hz,HZ⟩:=jP hF hM c c0 c1;obtain⟨v1,v2,v3,v4,v5,v6⟩:=bU hF hx;obtain⟨u1,u2,u3,u4,u5,u6⟩:=bU hF hy;obtain⟨t1,t2,t3,t4,t5,t6⟩:=bU hF hz;have hv:=yH v1 u1 v6 u6 v4 v5 u4 u5;refine(aPe p mn mx aj f k a b c _ _ _ _ _ _ _ _ _ _ _ _ _ _ _ _ _ _ (λbf dY=>eX hF hM aj k (λw=>iI aj k hk w) (hw.gr dY)) HA HB HZ _ _ _ _ _ _ (λw=>uI p mn mx aj k x y v1 u1 (by omega) (by omega) w) (rF (VB aj x y z)) (λw=>Aa p mn mx aj k (dn x y) z hv t1 w) (cZ p mn mx one aN sg nan aj (VB aj x y z)) (λos oe oc oh ol ot w hq=>qB hM aj k hk _ os oe oc oh ol ot hq w)).mono ?_;rintro e bf ⟨Z,fl,hp,rfl,dY⟩;rw[Ce]at hp;exact⟨_,_,.inl ⟨p,mx,one,aN,sg,nan,x,y,z,hF,hm,hx,hy,hz,hp⟩,rfl,dY⟩
  .refine(aIy p mn mx aj nan f aj a b c (λbf dY=>iC hF hM aj (λw=>lG aj (by omega) w) (hw.gr dY)) (λw=>dF hM w)).mono ?_;rintro e bf ⟨rfl,dY⟩;exact⟨_,_,.inr (.inl ⟨p,mx,one,aN,sg,nan,hF,by omega,rfl,rfl⟩),rfl,dY⟩
 .refine(aIy _ _ _ _ _ f aj a b c (λbf dY=>eG f aj hf (hw.gr dY)) (λw=>dF m64 w)).mono ?_;rintro e bf ⟨rfl,dY⟩;exact⟨_,_,.inr (.inr ⟨hf,rfl,rfl⟩),rfl,dY⟩
def aKg(x y:d_)(h:max x.c y.c<3):(dn x y).s =mulS x.s y.s/\(dn x y).e =x.e+y.e:=by
 unfold dn;rw[aH (by omega)];split
 .exact⟨rfl,rfl⟩
 .split
  .exact⟨rfl,rfl⟩
  .split
   .exact⟨rfl,rfl⟩
   .exact⟨rfl,rfl⟩
def aAo{f p mx one aN sg nan:Int}(h:bI f p mx one aN sg nan)(aj a b c:Int)(hm:0<=aj/\aj<=4)(a0:0<=a)(a1:aI a)(b0:0<=b)(b1:aI b)(c0:0<=c)(c1:aI c){x y z:d_}(hx:dO p mx one aN sg nan a x)(hy:dO p mx one aN sg nan b y)(hz:dO p mx one aN sg nan c z)(w:ak):
  CT 65 #[J f,J aj,.int .u64 a,.int .u64 b,.int .u64 c] w λe w'=>∃Z fl,cZ p (1-mx) mx one aN sg nan aj (VB aj x y z) Z fl/\e=Y (aU Z fl)/\Gb w w':=by
 obtain⟨v1,v2,v3,v4,v5,v6⟩:=bU h hx;obtain⟨u1,u2,u3,u4,u5,u6⟩:=bU h hy;obtain⟨t1,t2,t3,t4,t5,t6⟩:=bU h hz;have hv:=yH v1 u1 v6 u6 v4 v5 u4 u5;have xc0:=v1.c0;have xc4:=v1.c4;have yc0:=u1.c0;have yc4:=u1.c4;have zc0:=t1.c0;have zc4:=t1.c4;have pc0:=hv.c0;have pc4:=hv.c4;have KC:mulS x.s y.s=0\/mulS x.s y.s=1:=by unfold mulS;split<;>simp
 unfold VB;by_cases uF:(a<2*sg/\b<2*sg)/\c<2*sg
 .obtain⟨⟨fa,PI⟩,fc⟩:=uF;have HF:dU f aj a b true:=λw=>kZ h aj a b hm.1 hm.2 a0 fa b0 PI w;have HG:fF f c true:=λw=>gJ h c c0 fc w;have fM:=ji h a a0 fa hx;have gK:=ji h b b0 PI hy;have CW:=ji h c c0 fc hz;have HQ:∀(z:d_) (t:Bool),t=decide (3<=z.c)->bY z.c z.s z.e (((z.M:Nat):Int)) t:=λz t ht w=>jf _ _ _ _ t ht w;have uX:∀t:Bool,qR f t nan (if t then 1 else 0):=λt w=>nZ h t _ rfl w;have HPr:∀t:Bool,t=decide (x.c=2/\y.c=0\/x.c=0/\y.c=2)->wS x.c x.s x.e (((x.M:Nat):Int)) y.c y.s y.e (((y.M:Nat):Int)) t:=λt ht w=>zZ _ _ _ _ _ _ _ _ t ht w;by_cases n1:x.c=2/\y.c=0\/x.c=0/\y.c=2
  .have hp4:(dn x y).c =4:=by unfold dn;rw[aH (by omega),aQ (by omega)]
   refine(aJW f aj a b c _ _ _ _ _ _ _ _ _ _ _ _ HF HG fM gK CW (HPr true (by simp[n1])) nan 1 (λw=>dA h w) w).mono ?_;rintro e w' ⟨rfl,hg⟩;refine⟨_,_,?_,rfl,hg⟩;rw[qo aj _ z (by omega)];exact jI (by dsimp only;omega)
  .have hP:=HPr false (gV n1).symm;by_cases q:3<=x.c\/3<=y.c\/3<=z.c
   .have hpc:3<=max x.c y.c/\(dn x y).c =max x.c y.c\/max x.c y.c<3/\(dn x y).c <=2:=by
     by_cases m3:3<=max x.c y.c
     .exact .inl ⟨m3,by rw[rW x y m3]⟩
     .refine .inr ⟨by omega,?_⟩;unfold dn;rw[aH m3,aH (by omega)];split
      .dsimp only;omega
      .split
       .dsimp only;omega
       .dsimp only;omega
    have Dz:3<=max (dn x y).c z.c:=by omega
    rw[qo aj _ z Dz];have aEW:∀t:Bool,t=decide (x.c=4\/y.c=4\/z.c=4)->cZ p (1-mx) mx one aN sg nan aj ⟨max (dn x y).c z.c,0,0,0⟩ nan (if t then 1 else 0):=λt ht=>qC _ t (by rw[ht,decide_eq_decide];omega) Dz (by omega);by_cases s1:3<=x.c
    .have qP:=HQ x true (by simp[s1]);by_cases s2:x.c=4
     .refine(aDT f aj a b c _ _ _ _ _ _ _ _ _ _ _ _ HF HG fM gK CW hP qP (by simp[s2]) nan _ (uX true) w).mono ?_;rintro e w' ⟨rfl,hg⟩;exact⟨_,_,aEW true (by simp[s2]),rfl,hg⟩
     .by_cases s3:y.c=4
      .refine(aDS f aj a b c _ _ _ _ _ _ _ _ _ _ _ _ HF HG fM gK CW hP qP (by simp[s2]) (by simp[s3]) nan _ (uX true) w).mono ?_;rintro e w' ⟨rfl,hg⟩;exact⟨_,_,aEW true (by simp[s3]),rfl,hg⟩
      .refine(aDR f aj a b c _ _ _ _ _ _ _ _ _ _ _ _ HF HG fM gK CW hP qP (by simp[s2]) (by simp[s3]) (decide (z.c=4)) (bq _ _) nan _ (uX _) w).mono ?_;rintro e w' ⟨rfl,hg⟩;exact⟨_,_,aEW _ (by simp[s2,s3]),rfl,hg⟩
    .have qP:=HQ x false (by simp;omega);have s2:¬x.c=4:=by omega
     by_cases s3:3<=y.c
     .have vw:=HQ y true (by simp[s3]);by_cases s4:y.c=4
      .refine(aDQ f aj a b c _ _ _ _ _ _ _ _ _ _ _ _ HF HG fM gK CW hP qP vw (by simp[s2]) (by simp[s4]) nan _ (uX true) w).mono ?_;rintro e w' ⟨rfl,hg⟩;exact⟨_,_,aEW true (by simp[s4]),rfl,hg⟩
      .refine(aDP f aj a b c _ _ _ _ _ _ _ _ _ _ _ _ HF HG fM gK CW hP qP vw (by simp[s2]) (by simp[s4]) (decide (z.c=4)) (bq _ _) nan _ (uX _) w).mono ?_;rintro e w' ⟨rfl,hg⟩;exact⟨_,_,aEW _ (by simp[s2,s4]),rfl,hg⟩
     .have vw:=HQ y false (by simp;omega);have s4:¬y.c=4:=by omega
      have hQc:=HQ z true (by simp;omega);refine(aDO f aj a b c _ _ _ _ _ _ _ _ _ _ _ _ HF HG fM gK CW hP qP vw hQc (by simp[s2]) (by simp[s4]) (decide (z.c=4)) (bq _ _) nan _ (uX _) w).mono ?_;rintro e w' ⟨rfl,hg⟩;exact⟨_,_,aEW _ (by simp[s2,s4]),rfl,hg⟩
   .have qP:=HQ x false (by simp;omega);have vw:=HQ y false (by simp;omega);have hQc:=HQ z false (by simp;omega);obtain⟨ps,pe⟩:=aKg x y (by omega);have HM:Hid (∀w,CT 147 #[fG x.c x.s x.e (((x.M:Nat):Int)),fG y.c y.s y.e (((y.M:Nat):Int))] w λe w'=>∃b k cc,aK 4 w' (aF b k cc) (dn x y).M /\e=Y (.agg #[J (dn x y).s,aF b k cc,J (dn x y).e,.bool false])/\Gb w w')\/(x.c=2\/y.c=2)/\Hid (∀w,CT 147 #[fG x.c x.s x.e (((x.M:Nat):Int)),fG y.c y.s y.e (((y.M:Nat):Int))] w λe w'=>∃b k cc,aK 4 w' (aF b k cc) (x.M*y.M)/\e=Y (.agg #[J (dn x y).s,aF b k cc,J (dn x y).e,.bool false])/\Gb w w'):=by
     have base:Hid (∀w,CT 147 #[fG x.c x.s x.e (((x.M:Nat):Int)),fG y.c y.s y.e (((y.M:Nat):Int))] w λe w'=>∃b k cc,aK 4 w' (aF b k cc) (x.M*y.M)/\e=Y (.agg #[J (dn x y).s,aF b k cc,J (dn x y).e,.bool false])/\Gb w w'):=λw=>by rw[ps,pe];exact Dx _ _ _ _ _ _ x.M y.M (by omega) (by omega) v1.lD u1.lD (by omega) (by omega) (by omega) (by omega) w
     by_cases i2:x.c=2\/y.c=2
     .exact .inr ⟨i2,base⟩
     .left;have:(dn x y).M =x.M*y.M:=by
       unfold dn;rw[aH (by omega),aH (by omega)];by_cases mz:min x.c y.c=0
       .rw[aQ mz];dsimp only
        rcases(show x.c=0\/y.c=0 by omega)with e|e
        .rw[v3 (by omega),Nat.zero_mul]
        .rw[u3 (by omega),Nat.mul_zero]
       .rw[aH mz,aH (by omega)]
      rw[this];exact base
    by_cases i2:x.c=2\/y.c=2
    .have Rk:(dn x y).c =2:=by unfold dn;rw[aH (by omega),aH (by omega),aH (by omega),aQ (by omega)]
     have HM':∃Gp:Nat,Hid (∀w,CT 147 #[fG x.c x.s x.e (((x.M:Nat):Int)),fG y.c y.s y.e (((y.M:Nat):Int))] w λe w'=>∃b k cc,aK 4 w' (aF b k cc) Gp/\e=Y (.agg #[J (dn x y).s,aF b k cc,J (dn x y).e,.bool false])/\Gb w w'):=by
      rcases HM with h|⟨_,h⟩
      .exact⟨_,h⟩
      .exact⟨_,h⟩
     obtain⟨Gp,IU⟩:=HM';by_cases z2:z.c=2
     .by_cases zs:(dn x y).s =z.s
      .have hO:kJ aj (dn x y) z=dn x y:=by
        unfold kJ;rw[aH (by omega),aH (by omega),aH (by omega),aH (by omega),aQ zs]
       rw[hO];have fin:∀e w',(e=Ending.returned (aU (sw (dn x y).s sg aN) 0)/\Gb w w')->∃Z fl,cZ p (1-mx) mx one aN sg nan aj (dn x y) Z fl/\e=Y (aU Z fl)/\Gb w w':=λe w' ⟨he,hg⟩=>⟨_,_,.inr (.inr (.inl ⟨Rk,rfl,rfl⟩)),he,hg⟩;by_cases x2:x.c=2
       .exact(UA f aj a b c _ _ _ _ _ _ _ _ _ _ _ _ _ _ _ HF HG fM gK CW hP qP vw hQc IU x2 z2 zs _ 0 (λw=>eH h _ hv.lD w) w).mono fin
       .exact(Uy f aj a b c _ _ _ _ _ _ _ _ _ _ _ _ _ _ _ HF HG fM gK CW hP qP vw hQc IU (by simp[x2]) (by omega) z2 zs _ 0 (λw=>eH h _ hv.lD w) w).mono fin
      .have hO:kJ aj (dn x y) z=⟨4,0,0,0⟩:=by
        unfold kJ;rw[aH (by omega),aH (by omega),aH (by omega),aH (by omega),aH zs,aQ Rk]
       rw[hO];have fin:∀e w',(e=Ending.returned (aU nan 1)/\Gb w w')->∃Z fl,cZ p (1-mx) mx one aN sg nan aj ⟨4,0,0,0⟩ Z fl/\e=Y (aU Z fl)/\Gb w w':=λe w' ⟨he,hg⟩=>⟨_,_,jI rfl,he,hg⟩;by_cases x2:x.c=2
       .exact(Uz f aj a b c _ _ _ _ _ _ _ _ _ _ _ _ _ _ _ HF HG fM gK CW hP qP vw hQc IU x2 z2 (by simp[zs]) _ 1 (λw=>dA h w) w).mono fin
       .exact(Ux f aj a b c _ _ _ _ _ _ _ _ _ _ _ _ _ _ _ HF HG fM gK CW hP qP vw hQc IU (by simp[x2]) (by omega) z2 (by simp[zs]) _ 1 (λw=>dA h w) w).mono fin
     .have hO:kJ aj (dn x y) z=dn x y:=by
       unfold kJ;rw[aH (by omega),aQ (by omega)]
      rw[hO];have fin:∀e w',(e=Ending.returned (aU (sw (dn x y).s sg aN) 0)/\Gb w w')->∃Z fl,cZ p (1-mx) mx one aN sg nan aj (dn x y) Z fl/\e=Y (aU Z fl)/\Gb w w':=λe w' ⟨he,hg⟩=>⟨_,_,.inr (.inr (.inl ⟨Rk,rfl,rfl⟩)),he,hg⟩;by_cases x2:x.c=2
      .exact(QY f aj a b c _ _ _ _ _ _ _ _ _ _ _ _ _ _ _ HF HG fM gK CW hP qP vw hQc IU x2 (by simp[z2]) _ 0 (λw=>eH h _ hv.lD w) w).mono fin
      .exact(QX f aj a b c _ _ _ _ _ _ _ _ _ _ _ _ _ _ _ HF HG fM gK CW hP qP vw hQc IU (by simp[x2]) (by omega) (by simp[z2]) _ 0 (λw=>eH h _ hv.lD w) w).mono fin
    .have IU:Hid _:=HM.resolve_right (λk=>i2 k.1);have hp1:(dn x y).c <=1:=by
      unfold dn;rw[aH (by omega),aH (by omega)];split
      .dsimp only;omega
      .rw[if_neg (by omega)];dsimp only;omega
     by_cases z2:z.c=2
     .have hO:kJ aj (dn x y) z=z:=by
       unfold kJ;rw[aH (by omega),aH (by omega),aQ (by omega)]
      rw[hO];refine(aDU f aj a b c _ _ _ _ _ _ _ _ _ _ _ _ _ _ _ HF HG fM gK CW hP qP vw hQc IU (by simp;omega) (by simp;omega) z2 _ 0 (λw=>eH h _ t1.lD w) w).mono ?_;rintro e w' ⟨rfl,hg⟩;exact⟨_,_,.inr (.inr (.inl ⟨z2,rfl,rfl⟩)),rfl,hg⟩
     .exact aGP f aj a b c _ _ _ _ _ _ _ _ _ _ _ _ _ _ _ z.M HF HG fM gK CW hP qP vw hQc IU (by simp;omega) (by simp;omega) (by simp[z2]) (λw=>nY _ _ _ z.M (by omega) w) (λZ fl=>cZ p (1-mx) mx one aN sg nan aj (kJ aj (dn x y) z) Z fl) (λba ka qa bb kb qb w HX HY=>SI h aj hm.1 hm.2 (dn x y) z hv t1 hp1 (by omega) (by rw[pe];omega) (by rw[pe];omega) (by omega) (by omega) ba ka qa bb kb qb HX HY) w
 .have hO:∃o:d_,VB aj x y z=o/\o.c=4:=by
   refine⟨_,rfl,?_⟩;unfold VB;have:max (dn x y).c z.c=4:=by
    rcases(show 2*sg<=a\/2*sg<=b\/2*sg<=c by omega)with k|k|k
    .have:=jM h hx k;have m4:max x.c y.c=4:=by rw[this];dsimp only;omega
     have:(dn x y).c =4:=by rw[rW x y (by omega)];exact m4
     omega
    .have:=jM h hy k;have m4:max x.c y.c=4:=by rw[this];dsimp only;omega
     have:(dn x y).c =4:=by rw[rW x y (by omega)];exact m4
     omega
    .have:=jM h hz k;rw[this];dsimp only;omega
   rw[qo aj _ z (by omega)];exact this
  obtain⟨o,ho,ho4⟩:=hO;unfold VB at ho;rw[ho];by_cases zB:a<2*sg/\b<2*sg
  .refine(aDV f aj a b c (λw=>kZ h aj a b hm.1 hm.2 a0 zB.1 b0 zB.2 w) (λw=>jH f c c0 (by
    rcases h with⟨rfl,rfl,rfl,rfl,rfl,rfl,rfl⟩|⟨rfl,rfl,rfl,rfl,rfl,rfl,rfl⟩
    .exact .inr ⟨rfl,by omega⟩
    .exfalso;omega) w) nan 1 (λw=>dA h w) w).mono ?_
   rintro e w' ⟨rfl,hg⟩;exact⟨_,_,jI ho4,rfl,hg⟩
  .refine(Hg f aj a b c (λw=>fK f aj a b a0 a1 b0 b1 (tJ h a1 b1 (by omega)) w) nan 1 (λw=>dA h w) w).mono ?_;rintro e w' ⟨rfl,hg⟩;exact⟨_,_,jI ho4,rfl,hg⟩
def Xa(f aj a b c:Int)(a0:0<=a)(a1:aI a)(b0:0<=b)(b1:aI b)(c0:0<=c)(c1:aI c)(w:ak):
  CT 65 #[J f,J aj,.int .u64 a,.int .u64 b,.int .u64 c] w λe w'=>∃Z fl,RI f aj a b c Z fl/\e=Y (aU Z fl)/\Gb w w':=by
 by_cases hf:f=0\/f=1
 .obtain⟨p,mx,one,aN,sg,nan,hF⟩:=fQ f hf;by_cases hm:0<=aj/\aj<=4
  .obtain⟨x,hx⟩:=fH hF a a0 a1;obtain⟨y,hy⟩:=fH hF b b0 b1;obtain⟨z,hz⟩:=fH hF c c0 c1;refine(aAo hF aj a b c hm a0 a1 b0 b1 c0 c1 hx hy hz w).mono ?_;rintro e w' ⟨Z,fl,hp,rfl,hg⟩;exact⟨_,_,.inl ⟨p,mx,one,aN,sg,nan,x,y,z,hF,hm,hx,hy,hz,hp⟩,rfl,hg⟩
  .refine(Hg f aj a b c (λw=>fK f aj a b a0 a1 b0 b1 (.inl (by omega)) w) nan 1 (λw=>dA hF w) w).mono ?_;rintro e w' ⟨rfl,hg⟩;exact⟨_,_,.inr (.inl ⟨p,mx,one,aN,sg,nan,hF,by omega,rfl,rfl⟩),rfl,hg⟩
 .refine(Hg f aj a b c (λw=>fK f aj a b a0 a1 b0 b1 (.inr (.inl hf)) w) _ 1 (λw=>nK f hf w) w).mono ?_;rintro e w' ⟨rfl,hg⟩;exact⟨_,_,.inr (.inr ⟨hf,rfl,rfl⟩),rfl,hg⟩
def aIx(f aj a b c:Int)(a0:0<=a)(a1:aI a)(b0:0<=b)(b1:aI b)(c0:0<=c)(c1:aI c):
  ∃Z fl:Int,RI f aj a b c Z fl/\(∀w,ug f aj a b c w Z fl)/\
   (∀w,Fm w->QR 85 #[J f,J aj,.int .u64 a,.int .u64 b,.int .u64 c] w (aU Z fl)):=by
 have hex:∃Z fl:Int,RI f aj a b c Z fl:=by
  by_cases hf:f=0\/f=1
  .obtain⟨p,mx,one,aN,sg,nan,hF⟩:=fQ f hf;by_cases hm:0<=aj/\aj<=4
   .obtain⟨x,hx⟩:=fH hF a a0 a1;obtain⟨y,hy⟩:=fH hF b b0 b1;obtain⟨z,hz⟩:=fH hF c c0 c1;obtain⟨v1,v2,v3,v4,v5,v6⟩:=bU hF hx;obtain⟨u1,u2,u3,u4,u5,u6⟩:=bU hF hy;obtain⟨t1,t2,t3,t4,t5,t6⟩:=bU hF hz;obtain⟨r1,r2⟩:=aAj aj (dn x y) z (yH v1 u1 v6 u6 v4 v5 u4 u5) t1;obtain⟨Z,fl,hp⟩:=BQ p (1-mx) mx one aN sg nan aj (VB aj x y z) r1 r2;exact⟨Z,fl,.inl ⟨p,mx,one,aN,sg,nan,x,y,z,hF,hm,hx,hy,hz,hp⟩⟩
   .exact⟨_,_,.inr (.inl ⟨p,mx,one,aN,sg,nan,hF,by omega,rfl,rfl⟩)⟩
  .exact⟨_,_,.inr (.inr ⟨hf,rfl,rfl⟩)⟩
 obtain⟨Z,fl,h⟩:=hex;refine⟨Z,fl,h,λw=>(Xa f aj a b c a0 a1 b0 b1 c0 c1 w).mono ?_,λw hw=>(Yr f aj a b c a0 a1 b0 b1 c0 c1 w hw).mono ?_⟩
 .rintro e w' ⟨Z',qQ,h',rfl,hg⟩;obtain⟨rfl,rfl⟩:=RI.one h h';exact⟨rfl,hg⟩
 .rintro e w' ⟨Z',qQ,h',rfl,hg⟩;obtain⟨rfl,rfl⟩:=RI.one h h';exact⟨rfl,hg⟩
