import Derived.Test.YthoelefkjpjhfaaGreatDoorM0
set_option linter.all false
set_option maxRecDepth 1000000
set_option maxHeartbeats 40000000
open Go.Proofs.YthoelefkjpjhfaaGreatDoor renaming vI → J
open Go.Ending renaming returned → Y
open Go.Proofs.Tryz
namespace Go.Proofs.YthoelefkjpjhfaaGreatDoor
open Go.RowKit
attribute [local go_sem] aA dB
def aG9(p mn mx md nan f aj a b c:Int){w:World}(HF:Hid (∀w',Gr w w'->QR 170 #[J f,J aj] w' (.tuple #[.agg #[J p,J mn,J mx,J md,Value.nilFunc],.bool false])))
  (HN:F8 p mn mx nan 1):
  QR 85 #[J f,J aj,.int .u64 a,.int .u64 b,.int .u64 c] w (aP nan 1):=by
 go_enter func85,ntmps85;go_wp2_with (first|(go_at_call 170;refine ku (HF _ Gr.g) λw1 ak=>?_;have:=ak.bG w)|(go_at_call 171;refine ku (HN _) λw2 aB=>?_;have jT:=aB.bG w))
 exact bW (by simp[results,Tryz.results85,go_sem,jT])
structure aQN (p mn mx md:Int) (k:Nat) (w wx:World) (o bw:Nat) (us ue uc uh ul:Int) (ut:Bool):Prop where
 g:Gr w wx:=by exact kr
 n:w.heap.size<bw:=by omega
 s0:aA wx o 0 (J p):=by exact kl
 s1:aA wx o 1 (J mn):=by exact kl
 s2:aA wx o 2 (J mx):=by exact kl
 s3:aA wx o 3 (J md):=by exact kl
 s4:aA wx o 4 (.func (.func k) #[] #[]):=by exact kl
 u0:aA wx bw 0 (J us):=by exact kl
 u1:aA wx bw 1 (J ue):=by exact kl
 u2:aA wx bw 2 (J uc):=by exact kl
 u3:aA wx bw 3 (.int .u64 uh):=by exact kl
 u4:aA wx bw 4 (.int .u64 ul):=by exact kl
 u5:aA wx bw 5 (.bool ut):=by exact kl
 u6:aA wx bw 6 (J 0):=by exact kl
 r0:aA wx w.heap.size 0 (.int .u64 0):=by exact kl
 rz0:dB wx w.heap.size 0:=by exact kl
 r1:aA wx w.heap.size 1 (J 0):=by exact kl
 rz1:dB wx w.heap.size 1:=by exact kl
def aNB(p mn mx md f:Int)(k:Nat)(a b c sx ex cx xh xl sy ey cy yh yl sz ez cz zh zl:Int)(tx ty tz:Bool){w:World}(HF:Hid (∀w',Gr w w'->rV f md w' p mn mx k true))
  (HA:pJ p mn mx a sx ex cx xh xl tx 0) (HB:pJ p mn mx b sy ey cy yh yl ty 0) (HZ:pJ p mn mx c sz ez cz zh zl tz 0) (us ue uc uh ul:Int) (ut:Bool) (HC:KR 173 #[dN p mn mx md k,.func (.func 84) #[] #[],aU sx ex cx xh xl tx 0,aU sy ey cy yh yl ty 0] (aU us ue uc uh ul ut 0)) (Q:Int->Int->Int->Int->Int->Bool->Prop) (HS:Hid (∀w,CT 173 #[dN p mn mx md k,.func (.func 82) #[] #[],aU us ue uc uh ul ut 0,aU sz ez cz zh zl tz 0] w λe w'=>∃os oe oc oh ol ot,Q os oe oc oh ol ot/\e=Y (aU os oe oc oh ol ot 0)/\Gr w w'))
  (R:Int->Int->Prop) (HP:Hid (∀os oe oc oh ol ot w,Q os oe oc oh ol ot->CT 172 #[dN p mn mx md k,aU os oe oc oh ol ot 0] w (vS R w))):
  CT 85 #[J f,J md,.int .u64 a,.int .u64 b,.int .u64 c] w (vS R w):=by
 go_enter func85,ntmps85;go_wp2_with (go_at_call 170;refine ku (HF _ Gr.g) λw1 ak=>?_;have wC:=ak.bG w;have iR:=au wC.1);go_cut [13] (λs13 wx=>∃bw:Nat,s13=.pointer (some ⟨bw,0,none⟩)/\aQN p mn mx md k w wx w1.heap.size bw us ue uc uh ul ut)
 case first=>
  clear HS HP HZ;go_region_held3 (λw'=>aA w' w1.heap.size 0 (J p)/\aA w' w1.heap.size 1 (J mn)/\aA w' w1.heap.size 2 (J mx)/\aA w' w1.heap.size 3 (J md)/\aA w' w1.heap.size 4 (.func (.func k) #[] #[]))(exact o8)(first|(go_at_call 174;first|(with_reducible refine ku (HA.out _) λEL rH=>?_;have:=rH.bG w;have:=rH.oL w1;have aSt:=rH.cells;have aSo:=rH.dX;have ZV:=rH.size;(try simp only[World.size_alloc,World.size_drew,World.size_setCell]at ZV);(try (have aRW:w1.heap.size+1<EL.heap.size:=(by omega)));(try (have aRU:uN.heap.size<EL.heap.size:=(by omega))))|(with_reducible refine ku (HB.out _) λuN mO=>?_;have:=mO.bG w;have:=mO.oL w1;have aSs:=mO.cells;have aSn:=mO.dX;have ZU:=mO.size;(try simp only[World.size_alloc,World.size_drew,World.size_setCell]at ZU);(try (have aRV:w1.heap.size+1<uN.heap.size:=(by omega)));(try (have aRT:EL.heap.size<uN.heap.size:=(by omega)))))|(go_at_call 173;refine ku (HC _) λw3 aK=>?_;have:=aK.bG w;have:=aK.oL w1;have Bo:=aK.cells;have Bg:=aK.dX;have mY:=aK.size;(try simp only[World.size_alloc,World.size_drew,World.size_setCell]at mY);(try (have aTj:w1.heap.size+1<w3.heap.size:=(by omega)));(try (have aTi:EL.heap.size<w3.heap.size:=(by omega)));(try (have aTh:uN.heap.size<w3.heap.size:=(by omega)))))
  all_goals (go_wp2;go_meet)
  all_goals exact⟨_,rfl,{}⟩
 case rest=>
  clear HA HB HC;obtain⟨bw,rfl,⟨qg,qn,qs0,qs1,qs2,qs3,qs4,qu0,qu1,qu2,qu3,qu4,qu5,qu6,VF,aIN,qr1,aIM⟩⟩:=hcut;go_wp2;go_region_held3 (λw'=>aA w' w1.heap.size 0 (J p)/\aA w' w1.heap.size 1 (J mn)/\aA w' w1.heap.size 2 (J mx)/\aA w' w1.heap.size 3 (J md)/\aA w' w1.heap.size 4 (.func (.func k) #[] #[])/\aA w' bw 0 (J us)/\aA w' bw 1 (J ue)/\aA w' bw 2 (J uc)/\aA w' bw 3 (.int .u64 uh)/\aA w' bw 4 (.int .u64 ul)/\aA w' bw 5 (.bool ut)/\aA w' bw 6 (J 0))(exact o8)(first|(go_at_call 174;refine ku (HZ _) λw5 bJ=>?_;have:=bJ.bG w)|(go_at_call 173;refine(HS _).mono ?_;rintro e w6 ⟨os,oe,oc,oh,ol,ot,hq,rfl,fK⟩;have:=fK.bG w)|(go_at_call 172;refine(HP _ _ _ _ _ _ _ hq).mono ?_;rintro e w7 ⟨z,fl,hr,rfl,ji⟩;have PE:=ji.bG w))
  all_goals go_wp2
  all_goals
   refine bodyPost_ret (v:=aP z fl) (by simp[results,Tryz.results85,go_sem,PE]) rfl ⟨z,fl,hr,rfl,?_⟩;exact Gr.g
def TI(aj:Int)(x y z:dM):dM:=jy aj (bZ x y) z
def PL(f aj a b c Z fl:Int):Prop:=
 (∃p mx one aI sg nan x y z,bD f p mx one aI sg nan/\(0<=aj/\aj<=4)/\dF p mx one aI sg nan a x/\dF p mx one aI sg nan b y/\dF p mx one aI sg nan c z/\bY p (1-mx) mx one aI sg nan aj (TI aj x y z) Z fl)\/
 (∃p mx one aI sg nan,bD f p mx one aI sg nan/\(aj<0\/4<aj)/\Z=nan/\fl=1)\/
 (¬(f=0\/f=1)/\Z=9221120237041090560/\fl=1)
def PL.one{f aj a b c Z fl Z' oP:Int}(h:PL f aj a b c Z fl)(h':PL f aj a b c Z' oP):Z=Z'/\fl=oP:=by
 rcases h with⟨p,mx,one,aI,sg,nan,x,y,z,hF,hm,hx,hy,hz,hp⟩|⟨p,mx,one,aI,sg,nan,hF,hm,rfl,rfl⟩|⟨hF,rfl,rfl⟩<;>
 rcases h' with⟨p',wS,pX,ql,EM,pY,x',y',z',mG,I_,Nq,hy',hz',Qs⟩|⟨p',wS,pX,ql,EM,pY,mG,I_,rfl,rfl⟩|⟨mG,rfl,rfl⟩
 .obtain⟨rfl,rfl,rfl,rfl,rfl,rfl⟩:=hF.one mG;obtain rfl:=hx.one hF Nq;obtain rfl:=hy.one hF hy';obtain rfl:=hz.one hF hz';exact bY.one hp Qs
 .exfalso;omega
 .exact absurd hF.yes.symm (by simp[mG])
 .exfalso;omega
 .obtain⟨rfl,rfl,rfl,rfl,rfl,rfl⟩:=hF.one mG;exact⟨rfl,rfl⟩
 .exact absurd hF.yes.symm (by simp[mG])
 .exact absurd mG.yes.symm (by simp[hF])
 .exact absurd mG.yes.symm (by simp[hF])
 .exact⟨rfl,rfl⟩
def WL(f aj a b c:Int)(a0:0<=a)(a1:aG a)(b0:0<=b)(b1:aG b)(c0:0<=c)(c1:aG c)(w:World)(hw:Fm w):
  CT 85 #[J f,J aj,.int .u64 a,.int .u64 b,.int .u64 c] w λe w'=>∃Z fl,PL f aj a b c Z fl/\e=Y (aP Z fl)/\Gr w w':=by
 by_cases hf:f=0\/f=1
 .obtain⟨p,mx,one,aI,sg,nan,hF⟩:=eX f hf;obtain⟨mn,fb,sp,hM,zU,PD⟩:=hF.m;by_cases hm:0<=aj/\aj<=4
  .obtain⟨k,hk⟩:=kW aj hm.1 hm.2;obtain⟨x,hx,HA⟩:=jf hF hM a a0 a1;obtain⟨y,hy,HB⟩:=jf hF hM b b0 b1;obtain⟨z,hz,HZ⟩:=jf hF hM c c0 c1;obtain⟨v1,v2,v3,v4,v5,v6⟩:=bK hF hx;obtain⟨u1,u2,u3,u4,u5,u6⟩:=bK hF hy;obtain⟨t1,t2,t3,t4,t5,t6⟩:=bK hF hz;have hv:=vV v1 u1 v6 u6 v4 v5 u4 u5;refine(aNB p mn mx aj f k a b c _ _ _ _ _ _ _ _ _ _ _ _ _ _ _ _ _ _ (λaT dL=>dV hF hM aj k (λw=>gW aj k hk w) (hw.gr dL)) HA HB HZ _ _ _ _ _ _ (λw=>rO p mn mx aj k x y v1 u1 (by omega) (by omega) w) (pG (TI aj x y z)) (λw=>yu p mn mx aj k (bZ x y) z hv t1 w) (bY p mn mx one aI sg nan aj (TI aj x y z)) (λos oe oc oh ol ot w hq=>oz hM aj k hk _ os oe oc oh ol ot hq w)).mono ?_;rintro e aT ⟨Z,fl,hp,rfl,dL⟩;rw[zU]at hp;exact⟨_,_,.inl ⟨p,mx,one,aI,sg,nan,x,y,z,hF,hm,hx,hy,hz,hp⟩,rfl,dL⟩
  .refine(aG9 p mn mx aj nan f aj a b c (λaT dL=>gJ hF hM aj (λw=>jR aj (by omega) w) (hw.gr dL)) (λw=>dh hM w)).mono ?_;rintro e aT ⟨rfl,dL⟩;exact⟨_,_,.inr (.inl ⟨p,mx,one,aI,sg,nan,hF,by omega,rfl,rfl⟩),rfl,dL⟩
 .refine(aG9 _ _ _ _ _ f aj a b c (λaT dL=>dP f aj hf (hw.gr dL)) (λw=>dh m64 w)).mono ?_;rintro e aT ⟨rfl,dL⟩;exact⟨_,_,.inr (.inr ⟨hf,rfl,rfl⟩),rfl,dL⟩
def aIR(x y:dM)(h:max x.c y.c<3):(bZ x y).s =mulS x.s y.s/\(bZ x y).e =x.e+y.e:=by
 unfold bZ;rw[if_neg (by omega)];split
 .exact⟨rfl,rfl⟩
 .split
  .exact⟨rfl,rfl⟩
  .split
   .exact⟨rfl,rfl⟩
   .exact⟨rfl,rfl⟩
def YF{f p mx one aI sg nan:Int}(h:bD f p mx one aI sg nan)(aj a b c:Int)(hm:0<=aj/\aj<=4)(a0:0<=a)(a1:aG a)(b0:0<=b)(b1:aG b)(c0:0<=c)(c1:aG c){x y z:dM}(hx:dF p mx one aI sg nan a x)(hy:dF p mx one aI sg nan b y)(hz:dF p mx one aI sg nan c z)(w:World):
  CT 65 #[J f,J aj,.int .u64 a,.int .u64 b,.int .u64 c] w λe w'=>∃Z fl,bY p (1-mx) mx one aI sg nan aj (TI aj x y z) Z fl/\e=Y (aP Z fl)/\Gb w w':=by
 obtain⟨v1,v2,v3,v4,v5,v6⟩:=bK h hx;obtain⟨u1,u2,u3,u4,u5,u6⟩:=bK h hy;obtain⟨t1,t2,t3,t4,t5,t6⟩:=bK h hz;have hv:=vV v1 u1 v6 u6 v4 v5 u4 u5;have xc0:=v1.c0;have xc4:=v1.c4;have yc0:=u1.c0;have yc4:=u1.c4;have zc0:=t1.c0;have zc4:=t1.c4;have pc0:=hv.c0;have pc4:=hv.c4;have I9:mulS x.s y.s=0\/mulS x.s y.s=1:=by unfold mulS;split<;>simp
 unfold TI;by_cases rM:(a<2*sg/\b<2*sg)/\c<2*sg
 .obtain⟨⟨fa,NP⟩,fc⟩:=rM;have HF:dG f aj a b true:=λw=>jK h aj a b hm.1 hm.2 a0 fa b0 NP w;have HG:dZ f c true:=λw=>fO h c c0 fc w;have eH:=iH h a a0 fa hx;have fP:=iH h b b0 NP hy;have Am:=iH h c c0 fc hz;have HQ:∀(z:dM) (t:Bool),t=decide (3<=z.c)->bQ z.c z.s z.e (((z.M:Nat):Int)) t:=λz t ht w=>iF _ _ _ _ t ht w;have su:∀t:Bool,oU f t nan (if t then 1 else 0):=λt w=>lZ h t _ rfl w;have HPr:∀t:Bool,t=decide (x.c=2/\y.c=0\/x.c=0/\y.c=2)->um x.c x.s x.e (((x.M:Nat):Int)) y.c y.s y.e (((y.M:Nat):Int)) t:=λt ht w=>yj _ _ _ _ _ _ _ _ t ht w;by_cases n1:x.c=2/\y.c=0\/x.c=0/\y.c=2
  .have hp4:(bZ x y).c =4:=by unfold bZ;rw[if_neg (by omega),if_pos (by omega)]
   refine(aIx f aj a b c _ _ _ _ _ _ _ _ _ _ _ _ HF HG eH fP Am (HPr true (by simp[n1])) nan 1 (λw=>cO h w) w).mono ?_;rintro e w' ⟨rfl,hg⟩;refine⟨_,_,?_,rfl,hg⟩;rw[n_ aj _ z (by omega)];exact iW (by dsimp only;omega)
  .have hP:=HPr false (decide_eq_false n1).symm;by_cases q:3<=x.c\/3<=y.c\/3<=z.c
   .have hpc:3<=max x.c y.c/\(bZ x y).c =max x.c y.c\/max x.c y.c<3/\(bZ x y).c <=2:=by
     by_cases m3:3<=max x.c y.c
     .exact .inl ⟨m3,by rw[pW x y m3]⟩
     .refine .inr ⟨by omega,?_⟩;unfold bZ;rw[if_neg m3,if_neg (by omega)];split
      .dsimp only;omega
      .split
       .dsimp only;omega
       .dsimp only;omega
    have Bd:3<=max (bZ x y).c z.c:=by omega
    rw[n_ aj _ z Bd];have aDw:∀t:Bool,t=decide (x.c=4\/y.c=4\/z.c=4)->bY p (1-mx) mx one aI sg nan aj ⟨max (bZ x y).c z.c,0,0,0⟩ nan (if t then 1 else 0):=λt ht=>oC _ t (by rw[ht,decide_eq_decide];omega) Bd (by omega);by_cases s1:3<=x.c
    .have oO:=HQ x true (by simp[s1]);by_cases s2:x.c=4
     .refine(aCu f aj a b c _ _ _ _ _ _ _ _ _ _ _ _ HF HG eH fP Am hP oO (by simp[s2]) nan _ (su true) w).mono ?_;rintro e w' ⟨rfl,hg⟩;exact⟨_,_,aDw true (by simp[s2]),rfl,hg⟩
     .by_cases s3:y.c=4
      .refine(aCt f aj a b c _ _ _ _ _ _ _ _ _ _ _ _ HF HG eH fP Am hP oO (by simp[s2]) (by simp[s3]) nan _ (su true) w).mono ?_;rintro e w' ⟨rfl,hg⟩;exact⟨_,_,aDw true (by simp[s3]),rfl,hg⟩
      .refine(aCs f aj a b c _ _ _ _ _ _ _ _ _ _ _ _ HF HG eH fP Am hP oO (by simp[s2]) (by simp[s3]) (decide (z.c=4)) (bq _ _) nan _ (su _) w).mono ?_;rintro e w' ⟨rfl,hg⟩;exact⟨_,_,aDw _ (by simp[s2,s3]),rfl,hg⟩
    .have oO:=HQ x false (by simp;omega);have s2:¬x.c=4:=by omega
     by_cases s3:3<=y.c
     .have sH:=HQ y true (by simp[s3]);by_cases s4:y.c=4
      .refine(aCr f aj a b c _ _ _ _ _ _ _ _ _ _ _ _ HF HG eH fP Am hP oO sH (by simp[s2]) (by simp[s4]) nan _ (su true) w).mono ?_;rintro e w' ⟨rfl,hg⟩;exact⟨_,_,aDw true (by simp[s4]),rfl,hg⟩
      .refine(aCq f aj a b c _ _ _ _ _ _ _ _ _ _ _ _ HF HG eH fP Am hP oO sH (by simp[s2]) (by simp[s4]) (decide (z.c=4)) (bq _ _) nan _ (su _) w).mono ?_;rintro e w' ⟨rfl,hg⟩;exact⟨_,_,aDw _ (by simp[s2,s4]),rfl,hg⟩
     .have sH:=HQ y false (by simp;omega);have s4:¬y.c=4:=by omega
      have hQc:=HQ z true (by simp;omega);refine(aCp f aj a b c _ _ _ _ _ _ _ _ _ _ _ _ HF HG eH fP Am hP oO sH hQc (by simp[s2]) (by simp[s4]) (decide (z.c=4)) (bq _ _) nan _ (su _) w).mono ?_;rintro e w' ⟨rfl,hg⟩;exact⟨_,_,aDw _ (by simp[s2,s4]),rfl,hg⟩
   .have oO:=HQ x false (by simp;omega);have sH:=HQ y false (by simp;omega);have hQc:=HQ z false (by simp;omega);obtain⟨ps,pe⟩:=aIR x y (by omega);have HM:Hid (∀w,CT 147 #[d_ x.c x.s x.e (((x.M:Nat):Int)),d_ y.c y.s y.e (((y.M:Nat):Int))] w λe w'=>∃b k cc,aH 4 w' (aC b k cc) (bZ x y).M /\e=Y (.agg #[J (bZ x y).s,aC b k cc,J (bZ x y).e,.bool false])/\Gb w w')\/(x.c=2\/y.c=2)/\Hid (∀w,CT 147 #[d_ x.c x.s x.e (((x.M:Nat):Int)),d_ y.c y.s y.e (((y.M:Nat):Int))] w λe w'=>∃b k cc,aH 4 w' (aC b k cc) (x.M*y.M)/\e=Y (.agg #[J (bZ x y).s,aC b k cc,J (bZ x y).e,.bool false])/\Gb w w'):=by
     have base:Hid (∀w,CT 147 #[d_ x.c x.s x.e (((x.M:Nat):Int)),d_ y.c y.s y.e (((y.M:Nat):Int))] w λe w'=>∃b k cc,aH 4 w' (aC b k cc) (x.M*y.M)/\e=Y (.agg #[J (bZ x y).s,aC b k cc,J (bZ x y).e,.bool false])/\Gb w w'):=λw=>by rw[ps,pe];exact A_ _ _ _ _ _ _ x.M y.M (by omega) (by omega) v1.jM u1.jM (by omega) (by omega) (by omega) (by omega) w
     by_cases i2:x.c=2\/y.c=2
     .exact .inr ⟨i2,base⟩
     .left;have:(bZ x y).M =x.M*y.M:=by
       unfold bZ;rw[if_neg (by omega),if_neg (by omega)];by_cases mz:min x.c y.c=0
       .rw[if_pos mz];dsimp only
        rcases(show x.c=0\/y.c=0 by omega)with e|e
        .rw[v3 (by omega),Nat.zero_mul]
        .rw[u3 (by omega),Nat.mul_zero]
       .rw[if_neg mz,if_neg (by omega)]
      rw[this];exact base
    by_cases i2:x.c=2\/y.c=2
    .have Px:(bZ x y).c =2:=by unfold bZ;rw[if_neg (by omega),if_neg (by omega),if_neg (by omega),if_pos (by omega)]
     have HM':∃Gp:Nat,Hid (∀w,CT 147 #[d_ x.c x.s x.e (((x.M:Nat):Int)),d_ y.c y.s y.e (((y.M:Nat):Int))] w λe w'=>∃b k cc,aH 4 w' (aC b k cc) Gp/\e=Y (.agg #[J (bZ x y).s,aC b k cc,J (bZ x y).e,.bool false])/\Gb w w'):=by
      rcases HM with h|⟨_,h⟩
      .exact⟨_,h⟩
      .exact⟨_,h⟩
     obtain⟨Gp,Gf⟩:=HM';by_cases z2:z.c=2
     .by_cases zs:(bZ x y).s =z.s
      .have hO:jy aj (bZ x y) z=bZ x y:=by
        unfold jy;rw[if_neg (by omega),if_neg (by omega),if_neg (by omega),if_neg (by omega),if_pos zs]
       rw[hO];have fin:∀e w',(e=Ending.returned (aP (sw (bZ x y).s sg aI) 0)/\Gb w w')->∃Z fl,bY p (1-mx) mx one aI sg nan aj (bZ x y) Z fl/\e=Y (aP Z fl)/\Gb w w':=λe w' ⟨he,hg⟩=>⟨_,_,.inr (.inr (.inl ⟨Px,rfl,rfl⟩)),he,hg⟩;by_cases x2:x.c=2
       .exact(RP f aj a b c _ _ _ _ _ _ _ _ _ _ _ _ _ _ _ HF HG eH fP Am hP oO sH hQc Gf x2 z2 zs _ 0 (λw=>dQ h _ hv.jM w) w).mono fin
       .exact(RJ f aj a b c _ _ _ _ _ _ _ _ _ _ _ _ _ _ _ HF HG eH fP Am hP oO sH hQc Gf (by simp[x2]) (by omega) z2 zs _ 0 (λw=>dQ h _ hv.jM w) w).mono fin
      .have hO:jy aj (bZ x y) z=⟨4,0,0,0⟩:=by
        unfold jy;rw[if_neg (by omega),if_neg (by omega),if_neg (by omega),if_neg (by omega),if_neg zs,if_pos Px]
       rw[hO];have fin:∀e w',(e=Ending.returned (aP nan 1)/\Gb w w')->∃Z fl,bY p (1-mx) mx one aI sg nan aj ⟨4,0,0,0⟩ Z fl/\e=Y (aP Z fl)/\Gb w w':=λe w' ⟨he,hg⟩=>⟨_,_,iW rfl,he,hg⟩;by_cases x2:x.c=2
       .exact(RN f aj a b c _ _ _ _ _ _ _ _ _ _ _ _ _ _ _ HF HG eH fP Am hP oO sH hQc Gf x2 z2 (by simp[zs]) _ 1 (λw=>cO h w) w).mono fin
       .exact(RI f aj a b c _ _ _ _ _ _ _ _ _ _ _ _ _ _ _ HF HG eH fP Am hP oO sH hQc Gf (by simp[x2]) (by omega) z2 (by simp[zs]) _ 1 (λw=>cO h w) w).mono fin
     .have hO:jy aj (bZ x y) z=bZ x y:=by
       unfold jy;rw[if_neg (by omega),if_pos (by omega)]
      rw[hO];have fin:∀e w',(e=Ending.returned (aP (sw (bZ x y).s sg aI) 0)/\Gb w w')->∃Z fl,bY p (1-mx) mx one aI sg nan aj (bZ x y) Z fl/\e=Y (aP Z fl)/\Gb w w':=λe w' ⟨he,hg⟩=>⟨_,_,.inr (.inr (.inl ⟨Px,rfl,rfl⟩)),he,hg⟩;by_cases x2:x.c=2
      .exact(O5 f aj a b c _ _ _ _ _ _ _ _ _ _ _ _ _ _ _ HF HG eH fP Am hP oO sH hQc Gf x2 (by simp[z2]) _ 0 (λw=>dQ h _ hv.jM w) w).mono fin
      .exact(O4 f aj a b c _ _ _ _ _ _ _ _ _ _ _ _ _ _ _ HF HG eH fP Am hP oO sH hQc Gf (by simp[x2]) (by omega) (by simp[z2]) _ 0 (λw=>dQ h _ hv.jM w) w).mono fin
    .have Gf:Hid _:=HM.resolve_right (λk=>i2 k.1);have hp1:(bZ x y).c <=1:=by
      unfold bZ;rw[if_neg (by omega),if_neg (by omega)];split
      .dsimp only;omega
      .rw[if_neg (by omega)];dsimp only;omega
     by_cases z2:z.c=2
     .have hO:jy aj (bZ x y) z=z:=by
       unfold jy;rw[if_neg (by omega),if_neg (by omega),if_pos (by omega)]
      rw[hO];refine(aCv f aj a b c _ _ _ _ _ _ _ _ _ _ _ _ _ _ _ HF HG eH fP Am hP oO sH hQc Gf (by simp;omega) (by simp;omega) z2 _ 0 (λw=>dQ h _ t1.jM w) w).mono ?_;rintro e w' ⟨rfl,hg⟩;exact⟨_,_,.inr (.inr (.inl ⟨z2,rfl,rfl⟩)),rfl,hg⟩
     .exact aFp f aj a b c _ _ _ _ _ _ _ _ _ _ _ _ _ _ _ z.M HF HG eH fP Am hP oO sH hQc Gf (by simp;omega) (by simp;omega) (by simp[z2]) (λw=>lY _ _ _ z.M (by omega) w) (λZ fl=>bY p (1-mx) mx one aI sg nan aj (jy aj (bZ x y) z) Z fl) (λba ka qa bb kb qb w HX HY=>Qi h aj hm.1 hm.2 (bZ x y) z hv t1 hp1 (by omega) (by rw[pe];omega) (by rw[pe];omega) (by omega) (by omega) ba ka qa bb kb qb HX HY) w
 .have hO:∃o:dM,TI aj x y z=o/\o.c=4:=by
   refine⟨_,rfl,?_⟩;unfold TI;have:max (bZ x y).c z.c=4:=by
    rcases(show 2*sg<=a\/2*sg<=b\/2*sg<=c by omega)with k|k|k
    .have:=jd h hx k;have m4:max x.c y.c=4:=by rw[this];dsimp only;omega
     have:(bZ x y).c =4:=by rw[pW x y (by omega)];exact m4
     omega
    .have:=jd h hy k;have m4:max x.c y.c=4:=by rw[this];dsimp only;omega
     have:(bZ x y).c =4:=by rw[pW x y (by omega)];exact m4
     omega
    .have:=jd h hz k;rw[this];dsimp only;omega
   rw[n_ aj _ z (by omega)];exact this
  obtain⟨o,ho,ho4⟩:=hO;unfold TI at ho;rw[ho];by_cases xg:a<2*sg/\b<2*sg
  .refine(aCw f aj a b c (λw=>jK h aj a b hm.1 hm.2 a0 xg.1 b0 xg.2 w) (λw=>iV f c c0 (by
    rcases h with⟨rfl,rfl,rfl,rfl,rfl,rfl,rfl⟩|⟨rfl,rfl,rfl,rfl,rfl,rfl,rfl⟩
    .exact .inr ⟨rfl,by omega⟩
    .exfalso;omega) w) nan 1 (λw=>cO h w) w).mono ?_
   rintro e w' ⟨rfl,hg⟩;exact⟨_,_,iW ho4,rfl,hg⟩
  .refine(EZ f aj a b c (λw=>eG f aj a b a0 a1 b0 b1 (qP h a1 b1 (by omega)) w) nan 1 (λw=>cO h w) w).mono ?_;rintro e w' ⟨rfl,hg⟩;exact⟨_,_,iW ho4,rfl,hg⟩
def U7(f aj a b c:Int)(a0:0<=a)(a1:aG a)(b0:0<=b)(b1:aG b)(c0:0<=c)(c1:aG c)(w:World):
  CT 65 #[J f,J aj,.int .u64 a,.int .u64 b,.int .u64 c] w λe w'=>∃Z fl,PL f aj a b c Z fl/\e=Y (aP Z fl)/\Gb w w':=by
 by_cases hf:f=0\/f=1
 .obtain⟨p,mx,one,aI,sg,nan,hF⟩:=eX f hf;by_cases hm:0<=aj/\aj<=4
  .obtain⟨x,hx⟩:=eu hF a a0 a1;obtain⟨y,hy⟩:=eu hF b b0 b1;obtain⟨z,hz⟩:=eu hF c c0 c1;refine(YF hF aj a b c hm a0 a1 b0 b1 c0 c1 hx hy hz w).mono ?_;rintro e w' ⟨Z,fl,hp,rfl,hg⟩;exact⟨_,_,.inl ⟨p,mx,one,aI,sg,nan,x,y,z,hF,hm,hx,hy,hz,hp⟩,rfl,hg⟩
  .refine(EZ f aj a b c (λw=>eG f aj a b a0 a1 b0 b1 (.inl (by omega)) w) nan 1 (λw=>cO hF w) w).mono ?_;rintro e w' ⟨rfl,hg⟩;exact⟨_,_,.inr (.inl ⟨p,mx,one,aI,sg,nan,hF,by omega,rfl,rfl⟩),rfl,hg⟩
 .refine(EZ f aj a b c (λw=>eG f aj a b a0 a1 b0 b1 (.inr (.inl hf)) w) _ 1 (λw=>lN f hf w) w).mono ?_;rintro e w' ⟨rfl,hg⟩;exact⟨_,_,.inr (.inr ⟨hf,rfl,rfl⟩),rfl,hg⟩
def aG8(f aj a b c:Int)(a0:0<=a)(a1:aG a)(b0:0<=b)(b1:aG b)(c0:0<=c)(c1:aG c):
  ∃Z fl:Int,PL f aj a b c Z fl/\(∀w,qY f aj a b c w Z fl)/\
   (∀w,Fm w->QR 85 #[J f,J aj,.int .u64 a,.int .u64 b,.int .u64 c] w (aP Z fl)):=by
 have hex:∃Z fl:Int,PL f aj a b c Z fl:=by
  by_cases hf:f=0\/f=1
  .obtain⟨p,mx,one,aI,sg,nan,hF⟩:=eX f hf;by_cases hm:0<=aj/\aj<=4
   .obtain⟨x,hx⟩:=eu hF a a0 a1;obtain⟨y,hy⟩:=eu hF b b0 b1;obtain⟨z,hz⟩:=eu hF c c0 c1;obtain⟨v1,v2,v3,v4,v5,v6⟩:=bK hF hx;obtain⟨u1,u2,u3,u4,u5,u6⟩:=bK hF hy;obtain⟨t1,t2,t3,t4,t5,t6⟩:=bK hF hz;obtain⟨r1,r2⟩:=YA aj (bZ x y) z (vV v1 u1 v6 u6 v4 v5 u4 u5) t1;obtain⟨Z,fl,hp⟩:=zL p (1-mx) mx one aI sg nan aj (TI aj x y z) r1 r2;exact⟨Z,fl,.inl ⟨p,mx,one,aI,sg,nan,x,y,z,hF,hm,hx,hy,hz,hp⟩⟩
   .exact⟨_,_,.inr (.inl ⟨p,mx,one,aI,sg,nan,hF,by omega,rfl,rfl⟩)⟩
  .exact⟨_,_,.inr (.inr ⟨hf,rfl,rfl⟩)⟩
 obtain⟨Z,fl,h⟩:=hex;refine⟨Z,fl,h,λw=>(U7 f aj a b c a0 a1 b0 b1 c0 c1 w).mono ?_,λw hw=>(WL f aj a b c a0 a1 b0 b1 c0 c1 w hw).mono ?_⟩
 .rintro e w' ⟨Z',oP,h',rfl,hg⟩;obtain⟨rfl,rfl⟩:=PL.one h h';exact⟨rfl,hg⟩
 .rintro e w' ⟨Z',oP,h',rfl,hg⟩;obtain⟨rfl,rfl⟩:=PL.one h h';exact⟨rfl,hg⟩
