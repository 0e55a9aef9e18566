import Derived.Test.YtmiekgjgpmfekaaGreatDoorM4
set_option linter.all false
set_option maxRecDepth 1000000
set_option maxHeartbeats 40000000
open Option renaming none → V
open Bool renaming false → E
open Go.Proofs.YtmiekgjgpmfekaaGreatDoor renaming vI → J
open Go.Value renaming int → Y
open Go.IntKind renaming u64 → O
open Go.Ending renaming returned → X
open Go.Proofs.Tryz
namespace Go.Proofs.YtmiekgjgpmfekaaGreatDoor
open Go.RowKit
attribute [local go_sem] aj bK
variable{f p mx inf sg nan a Z fl mode kind Z' oQ:Int}{w:World}
theorem uG(s e c mh ml fl:Int)(t:Bool)(h:decide (1<c)=true)(w:World):
  Ij s e c mh ml t fl w 1 0:=by
 go_enter func92,ntmps92;go_wp2;go_returns;exact⟨rfl,Gr.g⟩
theorem uF(s e c mh ml fl k rh rl:Int)(t:Bool)(h:decide (1<c)=E)(hk:min e 64=k)(HS:KR 158 #[aG mh ml,J k] (aG rh rl))(w:World):
  Ij s e c mh ml t fl w rh rl:=by
 go_enter func92,ntmps92;go_wp2_with (go_at_call 158;refine ku (HS _) fun w1 ak=>?_;obtain⟨fP,Ws,xJ,Wq⟩:=ak.y2 (w.heap.size+1) 0 1 (Y O 0) (Y O 0));exact bI (by simp[results,Tryz.results92,go_sem,fP,xJ])
theorem aHS(p mn mx mode f kind a sx ex cx xh xl os oe oc oh ol of rh rl z r:Int)(tx ot q:Bool)(hq:q=E/\1=r\/q=true/\of=r)(k:Nat)(HS:Hid (∀w',Gr w w'->mZ f mode w' p mn mx k true))(HK:KR 87 #[J kind] (.tuple #[.iface 182 (gQ (-9223372036854775808) 9223372036854775807),.bool true]))(HF:pW p mn mx a true)(HA:rY p mn mx a sx ex cx xh xl tx 0)(HC:zV p mn mx mode k 91 sx ex cx xh xl tx 0 os oe oc oh ol ot of)(HZ:zU os oe oc oh ol ot of rh rl)(HT:KR 264 #[gQ (-9223372036854775808) 9223372036854775807,J os,aG rh rl] (.tuple #[Y O z,.bool q])):
  pV f mode kind a w z r:=by
 rcases hq with⟨rfl,rfl⟩|⟨rfl,rfl⟩
 all_goals
  have hnil:∀w,Sem.run Tryz.prog (nilAhead 367 182 (gQ (-9223372036854775808) 9223372036854775807) "loop.example/s01330/impl.toWord") w=Result.ok (some false) w:=fun w=>by kernel_rfl
  go_enter func37,ntmps37;go_upto_region 6 with(first
   |(go_at_call 86;refine ku (HS _ Gr.g) fun w1 ak=>?_;obtain⟨t_,aKi,kr1,aKh⟩:=ak.yr w;have hz1:=au t_)
   |(go_at_call 87;refine ku (HK _) fun w2 aA=>?_;obtain⟨BO,aKg,lr1,aKf⟩:=aA.yr w;obtain⟨ls0,ls1,ls2,ls3,ls4⟩:=aA.es w1.heap.size p mn mx mode k;have hz2:=au BO;have hy2:=au ls0)
   |(go_at_call 88;refine ku (HF _) fun w3 aF=>?_;obtain⟨nr0,aKd,nr1,aKc⟩:=aF.yr w;obtain⟨ns0,ns1,ns2,ns3,ns4⟩:=aF.es w1.heap.size p mn mx mode k;have hz3:=au nr0;have hy3:=au ns0)
   |(go_at_call 89;refine ku (HA _) fun w4 aI=>?_;obtain⟨kK,Vk,pr1,Vj⟩:=aI.yr w;obtain⟨ps0,ps1,ps2,ps3,ps4⟩:=aI.es w1.heap.size p mn mx mode k;have hz4:=au kK;have hy4:=au ps0))
  obtain⟨w5,hw5⟩:∃w5,w4.alloc (.cells #[J sx,J ex,J cx,Y O xh,Y O xl,.bool tx,J 0] 133)=w5:=⟨_,rfl⟩;have aT:Gr w4 w5:=by rw[<-hw5];exact(Gr.refl _).alloc _ _
  have x0:w5.cell? ⟨w4.heap.size,0,V⟩=some (J sx):=by rw[<-hw5];simp[go_sem]
  have xz0:bK w5 w4.heap.size 0:=by rw[<-hw5];simp[go_sem]
  have x1:w5.cell? ⟨w4.heap.size,1,V⟩=some (J ex):=by rw[<-hw5];simp[go_sem]
  have xz1:bK w5 w4.heap.size 1:=by rw[<-hw5];simp[go_sem]
  have x2:w5.cell? ⟨w4.heap.size,2,V⟩=some (J cx):=by rw[<-hw5];simp[go_sem]
  have xz2:bK w5 w4.heap.size 2:=by rw[<-hw5];simp[go_sem]
  have x3:w5.cell? ⟨w4.heap.size,3,V⟩=some (Y O xh):=by rw[<-hw5];simp[go_sem]
  have xz3:bK w5 w4.heap.size 3:=by rw[<-hw5];simp[go_sem]
  have x4:w5.cell? ⟨w4.heap.size,4,V⟩=some (Y O xl):=by rw[<-hw5];simp[go_sem]
  have xz4:bK w5 w4.heap.size 4:=by rw[<-hw5];simp[go_sem]
  have x5:w5.cell? ⟨w4.heap.size,5,V⟩=some (.bool tx):=by rw[<-hw5];simp[go_sem]
  have xz5:bK w5 w4.heap.size 5:=by rw[<-hw5];simp[go_sem]
  have x6:w5.cell? ⟨w4.heap.size,6,V⟩=some (J 0):=by rw[<-hw5];simp[go_sem]
  have xz6:bK w5 w4.heap.size 6:=by rw[<-hw5];simp[go_sem]
  have Q_:w4.heap.size<w5.heap.size:=by rw[<-hw5];simp
  rw[hw5];clear hw5;obtain⟨rr0,aJ8,rr1,aJ7⟩:=aT.yr w;obtain⟨rs0,rs1,rs2,rs3,rs4⟩:=aT.es w1.heap.size p mn mx mode k;have aFd:Gr w w5:=Gr.g;go_upto_region 7 with(go_at_call 90;refine ku (HC _) fun w6 b_=>?_;obtain⟨tr0,aHR,tr1,aHQ⟩:=b_.yr w;obtain⟨tx0,aJ2,tx1,aJ1,tx2,aJ0,tx3,aJZ,tx4,aJY,tx5,aJX,tx6,aJW⟩:=b_.yO w4.heap.size sx ex cx xh xl tx 0;have hz6:=au tx0);obtain⟨w7,hw7⟩:∃w7,((((((w6.setCell ⟨w4.heap.size,0,V⟩ (J os)).setCell ⟨w4.heap.size,1,V⟩ (J oe)).setCell ⟨w4.heap.size,2,V⟩ (J oc)).setCell ⟨w4.heap.size,3,V⟩ (Y O oh)).setCell ⟨w4.heap.size,4,V⟩ (Y O ol)).setCell ⟨w4.heap.size,5,V⟩ (.bool ot)).setCell ⟨w4.heap.size,6,V⟩ (J of)=w7:=⟨_,rfl⟩;have aFc:Gr w w6:=Gr.g;have hlt:w.heap.size<=w4.heap.size:=om;have aFb:Gr w w7:=by
   rw[<-hw7];exact(((((((aFc.setCell (a:=⟨w4.heap.size,0,V⟩) hlt _).setCell (a:=⟨w4.heap.size,1,V⟩) hlt _).setCell (a:=⟨w4.heap.size,2,V⟩) hlt _).setCell (a:=⟨w4.heap.size,3,V⟩) hlt _).setCell (a:=⟨w4.heap.size,4,V⟩) hlt _).setCell (a:=⟨w4.heap.size,5,V⟩) hlt _).setCell (a:=⟨w4.heap.size,6,V⟩) hlt _)
  have y0:w7.cell? ⟨w4.heap.size,0,V⟩=some (J os):=by rw[<-hw7];exact kh
  have y1:w7.cell? ⟨w4.heap.size,1,V⟩=some (J oe):=by rw[<-hw7];exact kh
  have y2:w7.cell? ⟨w4.heap.size,2,V⟩=some (J oc):=by rw[<-hw7];exact kh
  have y3:w7.cell? ⟨w4.heap.size,3,V⟩=some (Y O oh):=by rw[<-hw7];exact kh
  have y4:w7.cell? ⟨w4.heap.size,4,V⟩=some (Y O ol):=by rw[<-hw7];exact kh
  have y5:w7.cell? ⟨w4.heap.size,5,V⟩=some (.bool ot):=by rw[<-hw7];exact kh
  have y6:w7.cell? ⟨w4.heap.size,6,V⟩=some (J of):=by rw[<-hw7];exact kh
  have yr0:w7.cell? ⟨w.heap.size,0,V⟩=some (Y O 0):=by rw[<-hw7];exact kh
  have aHL:bK w7 w.heap.size 0:=by rw[<-hw7];exact kh
  have yr1:w7.cell? ⟨w.heap.size,1,V⟩=some (J 0):=by rw[<-hw7];exact kh
  have aHK:bK w7 w.heap.size 1:=by rw[<-hw7];exact kh
  have hz7:w4.heap.size<w7.heap.size:=au y0;rw[hw7];clear hw7;go_region_held3 (fun w'=>aj w' w4.heap.size 0 (J os)/\aj w' w4.heap.size 1 (J oe)/\aj w' w4.heap.size 2 (J oc)/\aj w' w4.heap.size 3 (Y O oh)/\aj w' w4.heap.size 4 (Y O ol)/\aj w' w4.heap.size 5 (.bool ot)/\aj w' w4.heap.size 6 (J of))
   (exact kZ)
   (first
    |(go_at_call 92;refine ku (HZ _) fun w8 pI=>?_;obtain⟨vr0,aJO,vr1,aJN⟩:=pI.yr w)
    |(go_at_call 264;refine ku (HT _) fun w9 aV=>?_;obtain⟨iw,aJM,zr1,aJL⟩:=aV.yr w;have zx6:=aV.e1 w4.heap.size 6 (J of)))
  all_goals (try go_split_ands)
  all_goals go_wp2
  all_goals
   exact bI (by simp[results,Tryz.results37,go_sem,iw,zr1])
def tw(kind s:Int)(N:Nat):Int × Bool:=if N<=bG kind s then(eG s N,true)else(eG s (bG kind s),E)
theorem jP(N:Nat)(h:N<18446744073709551616):IntKind.u64.wrap (-(N:Int))=eG 1 N:=by
 rw[IntKind.wrap_u64];unfold eG;by_cases c:N=0
 ·subst c;rfl
 ·rw[if_pos ⟨rfl,c⟩];omega
theorem oW(N:Nat):eG 0 N=(N:Int):=by unfold eG;rw[if_neg (by simp)]
theorem sJ(s:Int)(hs:s=0\/s=1)(N:Nat)(hN:N<340282366920938463463374607431768211456)(w:World):
  QR 264 #[gQ (-9223372036854775808) 9223372036854775807,J s,aG ((N/18446744073709551616:Nat):Int) ((N%18446744073709551616:Nat):Int)] w (.tuple #[Y O (tw 1 s N).1,.bool (tw 1 s N).2]):=by
 unfold tw;rcases hs with rfl|rfl
 ·have hm:bG 1 0=9223372036854775807:=de;have he:eG 0 (bG 1 0)=9223372036854775807:=by rw[hm];decide
  rw[he,hm];by_cases c:N/18446744073709551616=0
  ·by_cases c2:N<=9223372036854775807
   ·rw[if_pos c2];have hl:N%18446744073709551616=N:=om;rw[hl,c];exact(oW N).symm ▸yR _ _ rfl (decide_eq_false om) w
   ·rw[if_neg c2];exact xA _ _ om (decide_eq_true om) w
  ·rw[if_neg (by omega)];exact xw _ _ (by simp;omega) w
 ·have hm:bG 1 1=9223372036854775808:=de;have he:eG 1 (bG 1 1)=9223372036854775808:=by rw[hm];decide
  rw[he,hm];by_cases c:N/18446744073709551616=0
  ·by_cases c2:N<=9223372036854775808
   ·rw[if_pos c2];have hl:N%18446744073709551616=N:=om;rw[hl,c];exact yQ _ _ _ rfl (decide_eq_false om) (jP N om) w
   ·rw[if_neg c2];exact xk _ _ om (decide_eq_true om) w
  ·rw[if_neg (by omega)];exact xg _ _ (by simp;omega) w
def iY(mode kind:Int)(x:bZ)(Z fl:Int):Prop:=
 3<=x.c/\Z=eG 0 (bG kind 0)/\fl=1\/
 x.c<=1/\aN mode x<=bG kind x.s/\Z=eG x.s (aN mode x)/\fl=yE x\/
 x.c<=2/\(x.c=2\/bG kind x.s<aN mode x)/\Z=eG x.s (bG kind x.s)/\fl=1
def C9(f mode kind a:Int):Prop:=¬(0<=mode/\mode<=4)\/¬(0<=kind/\kind<=3)\/¬(f=0\/f=1)\/f=0/\4294967296<=a
def dw(f mode kind a Z fl:Int):Prop:=
 (∃p mx one inf sg nan x,aP f p mx one inf sg nan/\a<2*sg/\(0<=mode/\mode<=4)/\(0<=kind/\kind<=3)/\bP p mx one inf sg nan a x/\iY mode kind x Z fl)\/C9 f mode kind a/\Z=0/\fl=1
theorem iY.one{x:bZ}(hx:0<=x.c)(h:iY mode kind x Z fl)(h':iY mode kind x Z' oQ):Z=Z'/\fl=oQ:=by
 rcases h with⟨c,rfl,rfl⟩|⟨c,d,rfl,rfl⟩|⟨c,d,rfl,rfl⟩<;>rcases h' with⟨c',rfl,rfl⟩|⟨c',d',rfl,rfl⟩|⟨c',d',rfl,rfl⟩<;>first|exact⟨rfl,rfl⟩|(exfalso;omega)
theorem uQ{one:Int}(h:aP f p mx one inf sg nan)(ha:a<2*sg):¬(¬(f=0\/f=1)\/f=0/\4294967296<=a):=by
 rcases h with⟨rfl,rfl,rfl,rfl,rfl,rfl,rfl⟩|⟨rfl,rfl,rfl,rfl,rfl,rfl,rfl⟩<;>omega
theorem dw.one(h:dw f mode kind a Z fl)(h':dw f mode kind a Z' oQ):Z=Z'/\fl=oQ:=by
 rcases h with⟨p,mx,one,inf,sg,nan,x,hF,ha,hm,hk,hx,hp⟩|⟨hn,rfl,rfl⟩<;>
 rcases h' with⟨p',mx',one',inf',SS,nan',x',hF',ha',hm',hk',hx',hp'⟩|⟨hn',rfl,rfl⟩
 ·obtain⟨rfl,rfl,rfl,rfl,rfl,rfl⟩:=hF.one hF';obtain rfl:=hx.one hF hx';exact iY.one (bQ hF hx).1.c0 hp hp'
 ·have:=uQ hF ha;unfold C9 at hn';exfalso;rcases hn' with h|h|h<;>first|exact h hm|exact h hk|exact this h
 ·have:=uQ hF' ha';unfold C9 at hn;exfalso;rcases hn with h|h|h<;>first|exact h hm'|exact h hk'|exact this h
 ·exact⟨rfl,rfl⟩
theorem X5(M:Nat)(n:Nat)(hM:M<340282366920938463463374607431768211456)(hn:n<=128)(h:M*2^n<340282366920938463463374607431768211456)(w:World):
  QR 158 #[aG ((M/18446744073709551616:Nat):Int) ((M%18446744073709551616:Nat):Int),J n] w (aG ((M*2^n/18446744073709551616:Nat):Int) ((M*2^n%18446744073709551616:Nat):Int)):=by
 have e0:((M/18446744073709551616:Nat):Int)*18446744073709551616+((M%18446744073709551616:Nat):Int)=(M:Int):=om;have hk:(bnd (n:Int)).toNat =n:=by unfold bnd;rw[if_neg om,if_neg (by omega)];simp
 refine(lX _ _ (n:Int) om om om om w).mono ?_;rintro e w' ⟨rfl,hg⟩;refine⟨Ew ?_ ?_,hg⟩
 ·unfold lu;rw[hk,e0,cast_mul];omega
 ·unfold lq;rw[hk,e0,cast_mul];omega
theorem qA{one:Int}(hF:aP f p mx one inf sg nan)(mn mode:Int)(hm:0<=mode/\mode<=4)(k:Nat)(hk:qC mode k)(a0:0<=a){x:bZ}(hx:bP p mx one inf sg nan a x):
  ∃(os oe oc oh ol of:Int) (ot:Bool) (N:Nat),(∀w,Ud p mn mx mode k 91 x.s x.e x.c (((x.M/18446744073709551616:Nat):Int)) (((x.M%18446744073709551616:Nat):Int)) E 0 w os oe oc oh ol ot of)/\
   (∀w,Ij os oe oc oh ol ot of w ((N/18446744073709551616:Nat):Int) ((N%18446744073709551616:Nat):Int))/\N<340282366920938463463374607431768211456/\(os=0\/os=1)/\
   (3<=x.c/\os=0/\N=18446744073709551616\/x.c=2/\os=x.s/\N=18446744073709551616\/x.c<=1/\os=x.s/\of=yE x/\(N=aN mode x\/18446744073709551616<=N/\18446744073709551616<=aN mode x)):=by
 obtain⟨v1,v2,v3,v4,v5,v6⟩:=bQ hF hx;have hb:=hF.bounds;have xc0:=v1.c0;have Ui:=v1.c4;have zL:(18446744073709551616:Nat)/18446744073709551616=1/\(18446744073709551616:Nat)%18446744073709551616=0:=de;by_cases cn:3<=x.c
 ·refine⟨0,0,x.c,0,0,0,E,18446744073709551616,fun w=>iK p mn mx mode k _ _ _ _ _ _ _ _ _ _ _ _ _ x.c om cn w,fun w=>?_,de,.inl rfl,.inl ⟨cn,rfl,rfl⟩⟩;rw[zL.1,zL.2];exact uG 0 0 x.c 0 0 0 E (decide_eq_true om) w
 ·have comb:∀os oe oc oh ol ot of,(∀w,Ik p mn mx mode k x.s x.e x.c (((x.M/18446744073709551616:Nat):Int)) (((x.M%18446744073709551616:Nat):Int)) E 0 x.s x.e x.c (((x.M/18446744073709551616:Nat):Int)) (((x.M%18446744073709551616:Nat):Int)) E 0 w os oe oc oh ol ot of)->∀w,Ud p mn mx mode k 91 x.s x.e x.c (((x.M/18446744073709551616:Nat):Int)) (((x.M%18446744073709551616:Nat):Int)) E 0 w os oe oc oh ol ot of:=by
   intro os oe oc oh ol ot of h w;refine(nD p mn mx mode k _ _ _ _ _ _ _ _ _ _ _ _ x.c om om (fun a b c d e f g=>a=os/\b=oe/\c=oc/\d=oh/\e=ol/\f=ot/\g=of) (fun w=>(h w).mono (fun e w' ⟨h1,h2⟩=>⟨_,_,_,_,_,_,_,⟨rfl,rfl,rfl,rfl,rfl,rfl,rfl⟩,h1,h2⟩)) w).mono ?_;rintro e w' ⟨_,_,_,_,_,_,_,⟨rfl,rfl,rfl,rfl,rfl,rfl,rfl⟩,rfl,hg⟩;exact⟨rfl,hg⟩
  by_cases c2:x.c=2
  ·refine⟨x.s,x.e,x.c,_,_,0,E,18446744073709551616,comb _ _ _ _ _ _ _ (fun w=>qH p mn mx mode k _ _ _ _ _ _ _ _ _ _ _ _ (by simp[c2]) w),fun w=>?_,de,v1.jF,.inr (.inl ⟨c2,rfl,rfl⟩)⟩;rw[zL.1,zL.2];exact uG _ _ _ _ _ _ _ (decide_eq_true om) w
  ·by_cases hn:x.c=1/\x.e<0
   ·obtain⟨c,e⟩:=hn;have hl:=(jW hF hx mode c e).1;have HR:∀b:Bool,decide (0<aJ x.M x.e 0 E)=b->J4 k (0-x.e) x.s ((x.M/18446744073709551616:Nat):Int) ((x.M%18446744073709551616:Nat):Int) E ((aN mode x:Nat):Int) b:=fun b hb' w=>hb'▸mG mode k hk x.s v1.jF x.M om x.e 0 (0-x.e) E rfl om om (fun _=>rfl) (by
      have h1:=(fZ mode x.s (aW x.M x.e 0) (aJ x.M x.e 0 E)).1;unfold aN at hl;omega) w
    have hn:wrap64 (-x.e)=0-x.e:=by
     rw[show-x.e=0-x.e by omega];unfold wrap64;omega
    have ce:decide (0<=x.e)=E:=by simp;omega
    have hsz:∀fl w,QR 92 #[aU x.s 0 1 0 (((aN mode x:Nat):Int)) E fl] w (aG ((aN mode x/18446744073709551616:Nat):Int) ((aN mode x%18446744073709551616:Nat):Int)):=by
     intro fl w;have h0:=X5 (aN mode x) 0 om om om;rw[Nat.pow_zero,Nat.mul_one,show aN mode x/18446744073709551616=0 by omega,show aN mode x%18446744073709551616=aN mode x by omega]at h0;rw[show aN mode x/18446744073709551616=0 by omega,show aN mode x%18446744073709551616=aN mode x by omega];exact uF _ 0 1 _ _ fl 0 _ _ E de de (fun w=>h0 w) w
    by_cases hh:0<aJ x.M x.e 0 E
    ·refine⟨x.s,0,1,0,_,16,E,aN mode x,comb _ _ _ _ _ _ _ (fun w=>zY p mn mx mode k _ _ _ _ _ _ _ _ _ _ _ _ (0-x.e) _ c ce hn (HR true (by simp[hh])) w),hsz 16,om,v1.jF,.inr (.inr ⟨om,rfl,?_,.inl rfl⟩)⟩;unfold yE fD;rw[if_pos ⟨c,by simp[hh]⟩]
    ·refine⟨x.s,0,1,0,_,0,E,aN mode x,comb _ _ _ _ _ _ _ (fun w=>zZ p mn mx mode k _ _ _ _ _ _ _ _ _ _ _ _ (0-x.e) _ c ce hn (HR E (by simp[hh])) w),hsz 0,om,v1.jF,.inr (.inr ⟨om,rfl,?_,.inl rfl⟩)⟩;unfold yE fD;rw[if_neg (by simp[hh])]
   ·have he:0<=x.e:=by
     by_cases c:x.c=1
     ·omega
     ·obtain⟨_,v,_,_,hz⟩:=lW hF a0 hx om;have:=hz c;omega
    have hw:=jG (mode:=mode) he;obtain⟨n,hnn⟩:∃n:Nat,min x.e 64=(n:Int):=⟨(min x.e 64).toNat,om⟩;have CV:n<=64:=om;have hlt:x.M*2^n<340282366920938463463374607431768211456:=by
     have h1:=bT CV;have h2:x.M*2^n<=x.M*2^64:=Nat.mul_le_mul_left _ h1;have h3:(2:Nat)^64=18446744073709551616:=de;rw[h3]at h2;omega
    refine⟨x.s,x.e,x.c,_,_,0,E,x.M*2^n,comb _ _ _ _ _ _ _ (fun w=>?_),fun w=>uF _ _ _ _ _ _ (n:Int) _ _ _ (decide_eq_false om) hnn (fun w=>X5 x.M n om om hlt w) w,hlt,v1.jF,.inr (.inr ⟨om,rfl,(qF (a:=a) hF hn).symm,?_⟩)⟩
    ·by_cases c:x.c=1
     ·refine(z_ p mn mx mode k _ _ _ _ _ _ _ _ _ _ _ _ c (by simp;omega) w).mono ?_;rintro r w' ⟨rfl,hg⟩;exact⟨by rw[c],hg⟩
     ·exact qH p mn mx mode k _ _ _ _ _ _ _ _ _ _ _ _ (by simp[c]) w
    ·rw[hw];by_cases c64:x.e<=64
     ·left;rw[show x.e.toNat=n by omega]
     ·have hnE:n=64:=om;rcases Nat.eq_zero_or_pos x.M with m0|m0
      ·left;rw[m0];simp
      ·right;subst hnE;have h3:(2:Nat)^64=18446744073709551616:=de;have h1:=bT (show 64<=x.e.toNat by omega);have h2:x.M*2^64<=x.M*2^x.e.toNat:=Nat.mul_le_mul_left _ h1;rw[h3]at h2⊢
       omega
theorem nI{one:Int}(hF:aP f p mx one inf sg nan)(mode kind:Int)(hm:0<=mode/\mode<=4)(hkd:kind=1)(a0:0<=a)(a1:a<18446744073709551616)(ha:a<2*sg){x:bZ}(hx:bP p mx one inf sg nan a x)(hw:Fm w):
  CT 37 #[J f,J mode,J kind,Y O a] w fun e w'=>∃Z fl,iY mode kind x Z fl/\e=X (aK Z fl)/\Gr w w':=by
 subst hkd;obtain⟨mn,fb,sp,hM,hmn,hfb⟩:=hF.m;obtain⟨k,hk⟩:=kH mode hm.1 hm.2;obtain⟨x',hx',HA⟩:=lI hF hM a a0 a1;obtain rfl:=hx.one hF hx';have xc0:=(bQ hF hx).1.c0;obtain⟨os,oe,oc,oh,ol,of,ot,N,HC,HZ,hN,hos,hcase⟩:=qA hF mn mode hm k hk a0 hx;have HS:Hid (∀w',Gr w w'->mZ f mode w' p mn mx k true):=fun w'' hg'=>eP hF hM mode k (fun w=>gW mode k hk w) (hw.gr hg');have qE:pW p mn mx a true:=fun w=>by
  have:=fits_any hM a a0 a1 w;rw[decide_eq_true ha]at this;exact this
 have hl0:=mM 1 os;have fin:∀(q:Bool) (z:Int),tw 1 os N=(z,q)->iY mode 1 x z (if q then of else 1):=by
  intro q z htw;unfold tw at htw;by_cases c:N<=bG 1 os
  ·rw[if_pos c]at htw;injection htw with h1 h2;subst h1 h2;rcases hcase with⟨_,_,rfl⟩|⟨_,_,rfl⟩|⟨c1,rfl,rfl,hw|⟨hw,_⟩⟩
   ·omega
   ·omega
   ·rw[hw]at c⊢
    exact .inr (.inl ⟨c1,c,rfl,rfl⟩)
   ·omega
  ·rw[if_neg c]at htw;injection htw with h1 h2;subst h1 h2;rcases hcase with⟨c3,rfl,rfl⟩|⟨c2,rfl,rfl⟩|⟨c1,rfl,rfl,hw|⟨_,hw⟩⟩
   ·exact .inl ⟨c3,rfl,rfl⟩
   ·exact .inr (.inr ⟨om,.inl c2,rfl,rfl⟩)
   ·exact .inr (.inr ⟨om,.inr om,rfl,rfl⟩)
   ·exact .inr (.inr ⟨om,.inr om,rfl,rfl⟩)
 obtain⟨⟨z,q⟩,htw⟩:∃r,tw 1 os N=r:=⟨_,rfl⟩;have hO:=fin q z htw;have HT:KR 264 #[gQ (-9223372036854775808) 9223372036854775807,J os,aG ((N/18446744073709551616:Nat):Int) ((N%18446744073709551616:Nat):Int)] (.tuple #[Y O z,.bool q]):=fun w=>by
  have:=sJ os hos N hN w;rw[htw]at this;exact this
 refine(aHS p mn mx mode f 1 a _ _ _ _ _ os oe oc oh ol of _ _ z (if q then of else 1) _ ot q (by cases q<;>simp) k HS (fun w=>kN w) qE HA HC HZ HT).mono ?_;rintro e w' ⟨rfl,hg⟩;exact⟨_,_,hO,rfl,hg⟩
theorem ou(s:Int)(hs:s=0\/s=1)(K:Nat)(hK:K<=1000000)(N:Nat)(hN:N<18446744073709551616)(b k c:Nat)(w:World)(hB:aC K w (aB b k c) N):
  rX s b k c w (eG s N):=by
 refine BP s (N:Int) _ ?_ b k c (fun w' hg=>?_)
 ·rcases hs with rfl|rfl
  ·exact .inr ⟨rfl,(oW N).symm⟩
  ·exact .inl ⟨rfl,by rw[Int.zero_sub];exact jP N hN,jP N hN⟩
 ·obtain⟨n,hn,hb⟩:=aC.gb hB hg;refine(yg hb om hN).mono ?_;rintro e w'' ⟨rfl,hg'⟩;exact⟨rfl,by first|exact hg'|(subst hg';exact Gb.refl _)⟩
theorem JO(kind:Int)(h:0<=kind/\kind<=3):(lD kind==0)=E:=by
 rcases(show kind=0\/kind=1\/kind=2\/kind=3 by omega)with rfl|rfl|rfl|rfl<;>decide
theorem yV{one:Int}(hF:aP f p mx one inf sg nan)(mode kind a:Int)(hm:0<=mode/\mode<=4)(hkd:0<=kind/\kind<=3)(a0:0<=a)(a1:a<18446744073709551616)(ha:a<2*sg)(w:World):
  CT 63 #[J f,J mode,J kind,Y O a] w fun e w'=>∃Z fl,dw f mode kind a Z fl/\e=X (aK Z fl)/\Gb w w':=by
 have HK:kX kind (lD kind) (wP kind):=fun w=>jC kind w;have hB0:=JO kind hkd;have HY:KW 82 #[J mode] (.bool true):=fun w=>jK mode true (by simp[hm]) w;have qE:KW 117 #[J f,Y O a] (.bool true):=fun w=>iW hF a a0 ha w;obtain⟨x,hx⟩:=fE hF a a0 a1;obtain⟨v1,v2,v3,v4,v5,v6⟩:=bQ hF hx;have xc0:=v1.c0;have Ui:=v1.c4;have HU:=ig hF a a0 ha hx;have HQ:∀(b:Bool),b=decide (3<=x.c)->bF x.c x.s x.e (((x.M:Nat):Int)) b:=fun b hb w=>fO _ _ _ _ b hb w;have fin:∀Z fl,iY mode kind x Z fl->(rV f mode kind a w Z fl)->CT 63 #[J f,J mode,J kind,Y O a] w fun e w'=>∃Z fl,dw f mode kind a Z fl/\e=X (aK Z fl)/\Gb w w':=fun Z fl hp h=>h.mono (fun e w' ⟨h1,h2⟩=>⟨Z,fl,.inl ⟨p,mx,one,inf,sg,nan,x,hF,ha,hm,hkd,hx,hp⟩,h1,h2⟩);have HM:∀s,s=0\/s=1->Hid (∀w,CT 131 #[J kind,J s] w (qh 20 (bG kind s) w)):=fun s hs w=>sS kind s hs w;have HW:∀s,s=0\/s=1->Hid (∀b k c w,aC 20 w (aB b k c) (bG kind s)->rX s b k c w (eG s (bG kind s))):=fun s hs b k c w hB=>ou s hs 20 om _ (mM kind s) b k c w hB;by_cases cn:3<=x.c
 ·exact fin _ _ (.inl ⟨cn,rfl,rfl⟩) (Ec f mode kind a _ _ _ _ _ _ _ _ hB0 HK HY qE HU (HQ true (by simp[cn])) (HM 0 (.inl rfl)) (HW 0 (.inl rfl)) w)
 ·have hQ:=HQ E (by simp;omega);have hms:=HM x.s v1.jF;have hws:=HW x.s v1.jF;by_cases c2:x.c=2
  ·exact fin _ _ (.inr (.inr ⟨om,.inl c2,rfl,rfl⟩)) (Ed f mode kind a _ _ _ _ _ _ _ _ hB0 HK HY qE HU hQ c2 hms hws w)
  ·by_cases far:200<x.e
   ·refine fin _ _ (.inr (.inr ⟨om,.inr ?_,rfl,rfl⟩)) (Ee f mode kind a _ _ _ _ _ _ _ _ hB0 HK HY qE HU hQ c2 (decide_eq_true far) hms hws w);have hc1:x.c=1:=by
     rcases(show x.c=0\/x.c=1 by omega)with h|h
     ·obtain⟨_,v,_,_,hz⟩:=lW hF a0 hx om;have:=hz (by omega);omega
     ·exact h
    rw[jG (by omega)];have h1:=bT (show 64<=x.e.toNat by omega);have h3:(2:Nat)^64=18446744073709551616:=de;have h2:1*2^x.e.toNat<=x.M*2^x.e.toNat:=Nat.mul_le_mul_right _ (v1.fin hc1).1;have:=mM kind x.s;omega
   ·have HN:Hid (∀w,CT 123 #[eH x.c x.s x.e (((x.M:Nat):Int))] w fun e w'=>∃b k cc,aC 2 w' (aB b k cc) x.M/\e=X (.agg #[J x.s,aB b k cc,J x.e,.bool E])/\Gb w w'):=fun w=>kM _ _ _ x.M om w;have WX:Hid (∀b k c w,aC 2 w (aB b k c) x.M->CT 122 #[J mode,.agg #[J x.s,aB b k c,J x.e,.bool E]] w fun e w'=>∃b k c,aC 70005 w' (aB b k c) (aN mode x)/\e=X (.tuple #[aB b k c,.bool (!fD x)])/\Gb w w'):=fun b k c w hB=>uU hF hx mode hm b k c w hB;have HC:Hid (∀v v' w,aC 70005 w v (aN mode x)->aC 20 w v' (bG kind x.s)->QB 102 #[v,v'] w (J (fH (aN mode x) (bG kind x.s)))):=fun v v' w ⟨n,h1,h2⟩ ⟨n',h1',h2'⟩=>gV h2 om h2' om;have hX:fD x=true->x.c=1:=by
     intro h;rcases(show x.c=0\/x.c=1 by omega)with hc|hc
     ·obtain⟨_,v,_,_,hz⟩:=lW hF a0 hx om;rw[vN (x:=x) (by have:=hz (by omega);omega)]at h;cases h
     ·exact hc
    by_cases hle:aN mode x<=bG kind x.s
    ·have hd:decide (fH (aN mode x) (bG kind x.s)<=0)=true:=decide_eq_true (by unfold fH;split<;>(try split)<;>omega);have HWw:Hid (∀b k c w,aC 70005 w (aB b k c) (aN mode x)->rX x.s b k c w (eG x.s (aN mode x))):=fun b k c w hB=>ou x.s v1.jF 70005 om _ (by have:=mM kind x.s;omega) b k c w hB;cases hxx:fD x
     ·refine fin _ _ (.inr (.inl ⟨om,hle,rfl,?_⟩)) (Ea f mode kind a _ _ _ _ _ _ _ _ _ x.M _ _ (by rw[hxx];rfl) hB0 HK HY qE HU hQ c2 (decide_eq_false far) HN WX hms HC hd HWw w);unfold yE;rw[hxx,if_neg (by simp)]
     ·refine fin _ _ (.inr (.inl ⟨om,hle,rfl,?_⟩)) (D_ f mode kind a _ _ _ _ _ _ _ _ _ x.M _ _ (by rw[hxx];rfl) hB0 HK HY qE HU hQ c2 (decide_eq_false far) HN WX hms HC hd HWw w);unfold yE;rw[hxx,if_pos ⟨hX hxx,rfl⟩]
    ·have hd:decide (fH (aN mode x) (bG kind x.s)<=0)=E:=decide_eq_false (by unfold fH;rw[if_neg om,if_pos (by omega)];omega);exact fin _ _ (.inr (.inr ⟨om,.inr om,rfl,rfl⟩)) (D9 f mode kind a _ _ _ _ _ _ _ _ _ x.M _ _ hB0 HK HY qE HU hQ c2 (decide_eq_false far) HN WX hms HC hd hws w)
section
variable [Inhabited Ch]
def tiW(a:Int):Int:=pick (dw 1 0 1 a)
theorem DV(h:dw 1 0 1 a Z fl):tiW a=Z:=jJ dw.one h
end
theorem pR(x y:Int):(x==y)=decide (x=y):=by by_cases h:x=y<;>simp[h]
theorem aFl(a:Int)(a0:0<=a)(a1:a<18446744073709551616):∃s m:Int,(dZ 1 a=true->s=cu 1 a/\m=((d_ 1 a:Nat):Int))/\∀w,QR 263 #[gQ (-9223372036854775808) 9223372036854775807,Y O a] w (.tuple #[J s,Y O m,.bool (dZ 1 a)]):=by
 obtain⟨x,hx⟩:∃x,IntKind.i64.wrap a=x:=⟨_,rfl⟩;have hx':=hx;rw[IntKind.wrap_i64]at hx';have hft:dZ 1 a=decide (IntKind.u64.wrap x=a):=by
  unfold dZ;rw[IntKind.wrap_u64,decide_eq_decide];by_cases h:9223372036854775808<=a
  ·have e1:cu 1 a=1:=by unfold cu;rw[if_pos ⟨.inr rfl,h⟩]
   have e2:d_ 1 a=(18446744073709551616-a).toNat :=by unfold d_;rw[if_pos ⟨.inr rfl,h⟩]
   rw[e1,e2,show bG 1 1=9223372036854775808 by decide];omega
  ·have e1:cu 1 a=0:=by unfold cu;rw[if_neg (fun k=>h k.2)]
   have e2:d_ 1 a=a.toNat:=by unfold d_;rw[if_neg (fun k=>h k.2)]
   rw[e1,e2,show bG 1 0=9223372036854775807 by decide];omega
 have hd:=hft;rw[hd];by_cases c:x<0
 ·refine⟨1,IntKind.u64.wrap (-a),fun h=>?_,fun w=>BZ a x _ _ _ hx c rfl (pR _ _) rfl w⟩;have hh:9223372036854775808<=a:=om;unfold cu d_;rw[if_pos ⟨.inr rfl,hh⟩,if_pos ⟨.inr rfl,hh⟩,IntKind.wrap_u64];exact⟨rfl,om⟩
 ·refine⟨0,a,fun h=>?_,fun w=>BX a x _ _ hx om rfl (pR _ _) w⟩;have hh:¬9223372036854775808<=a:=om;unfold cu d_;rw[if_neg (fun k=>hh k.2),if_neg (fun k=>hh k.2)];exact⟨rfl,om⟩
theorem ET{one:Int}(hF:aP f p mx one inf sg nan)(mode kind a:Int)(hm:0<=mode/\mode<=4)(hkd:kind=1)(a0:0<=a)(a1:a<18446744073709551616)(w:World)(hw:Fm w):
  CT 145 #[J f,J mode,J kind,Y O a] w fun e w'=>∃Z fl,dU f mode kind a Z fl/\e=X (aK Z fl)/\Gr w w':=by
 have fin:∀Z,dU f mode kind a Z 1->(zQ f mode kind a w Z 1)->CT 145 #[J f,J mode,J kind,Y O a] w fun e w'=>∃Z fl,dU f mode kind a Z fl/\e=X (aK Z fl)/\Gr w w':=fun Z hp h=>h.mono (fun e w' ⟨h1,h2⟩=>⟨Z,1,hp,h1,h2⟩);obtain⟨mn,fb,sp,hM,hmn,hfb⟩:=hF.m;have HN:Gy p mn mx nan 1:=fun w=>dH hM w;obtain⟨k,hk⟩:=kH mode hm.1 hm.2;have HS:Hid (∀w',Gr w w'->mZ f mode w' p mn mx k true):=fun w'' hg'=>eP hF hM mode k (fun w=>gW mode k hk w) (hw.gr hg');have bad:dZ kind a=E->dU f mode kind a nan 1:=fun h=>.inr (.inl ⟨p,mx,one,inf,sg,nan,hF,.inr h,rfl,rfl⟩);have HR:∀s m,s=cu kind a->m=((d_ kind a:Nat):Int)->Hid (∀w,CT 185 #[dP p mn mx mode k,J s,J 0,aG 0 m,.bool E] w fun e w'=>∃z fl,bW p (1-mx) mx one inf sg nan mode (ql kind a) z fl/\e=X (aK z fl)/\Gr w w'):=by
  intro s m hs hm' w;subst hs hm';have hlt:=vY kind a a0 a1;rcases Nat.eq_zero_or_pos (d_ kind a)with h0|h0
  ·have hs0:cu kind a=0:=by
    unfold d_ at h0;unfold cu;by_cases c:(kind=0\/kind=1)/\9223372036854775808<=a
    ·rw[if_pos c]at h0;exfalso;omega
    ·rw[if_neg c]
   rw[h0,hs0];refine(y8 hM mode k 0 0 E om om (sw 0 sg 0) (fun w=>jc hM 0 _ (.inl ⟨rfl,by simp[sw]⟩) w) w).mono ?_;rintro e w' ⟨rfl,hg⟩;refine⟨_,_,?_,rfl,hg⟩;unfold ql;rw[if_pos h0];exact .inl ⟨rfl,rfl,rfl⟩
  ·have:=qM hM mode mode k hk (cu kind a) (D8 kind a) 0 om om (d_ kind a) h0 om E (fun h=>by cases h) w;rw[show d_ kind a/18446744073709551616=0 by omega,show d_ kind a%18446744073709551616=d_ kind a by omega]at this;refine this.mono ?_;rintro e w' ⟨z,fl,hr,rfl,hg⟩;rw[hmn]at hr;refine⟨_,_,?_,rfl,hg⟩;unfold ql;rw[if_neg (by omega)];exact .inr (.inl ⟨rfl,z,hr,by rw[Ls]⟩)
 have ok:dZ kind a=true->(∃s m,(s=cu kind a/\m=((d_ kind a:Nat):Int))/\CT 145 #[J f,J mode,J kind,Y O a] w fun e w'=>∃z fl,bW p (1-mx) mx one inf sg nan mode (ql kind a) z fl/\e=X (aK z fl)/\Gr w w')->CT 145 #[J f,J mode,J kind,Y O a] w fun e w'=>∃Z fl,dU f mode kind a Z fl/\e=X (aK Z fl)/\Gr w w':=fun hq ⟨s,m,_,h⟩=>h.mono (fun e w' ⟨z,fl,h0,h1,h2⟩=>⟨z,fl,.inl ⟨p,mx,one,inf,sg,nan,hF,hm,hq,h0⟩,h1,h2⟩);subst hkd;obtain⟨s,m,he,HW⟩:=aFl a a0 a1;cases hq:dZ 1 a<;>rw[hq]at HW he
 ·exact fin nan (bad hq) (H9 p mn mx mode nan f mode 1 a s m k HS kN HW HN)
 ·exact ok hq ⟨s,m,he rfl,ND p mn mx mode f mode 1 a s m k HS kN HW _ (HR s m (he rfl).1 (he rfl).2)⟩
